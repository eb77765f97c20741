/- Each step of a server and of a peer, as a contract. -/
import Derived.Test.YtknplceohfeamaaGreatDoorSteps
import Derived.Test.YtknplceohfeamaaGreatDoorFeA
import Derived.Test.YtknplceohfeamaaGreatDoorFeB
import Derived.Test.YtknplceohfeamaaGreatDoorFeC
import Derived.Test.YtknplceohfeamaaGreatDoorFeD
import Derived.Test.YtknplceohfeamaaGreatDoorFeE
import Derived.Test.YtknplceohfeamaaGreatDoorFeF
import Derived.Test.YtknplceohfeamaaGreatDoorReA
import Derived.Test.YtknplceohfeamaaGreatDoorHeA
import Derived.Test.YtknplceohfeamaaGreatDoorHeB
import Derived.Test.YtknplceohfeamaaGreatDoorQuB
import Derived.Test.YtknplceohfeamaaGreatDoorPeA
import Derived.Test.YtknplceohfeamaaGreatDoorPeB
import Derived.Test.YtknplceohfeamaaGreatDoorFiA
import Derived.Test.YtknplceohfeamaaGreatDoorShaA
set_option linter.unusedVariables false
set_option linter.unusedSimpArgs false
namespace Go.Sym
open Go.Proofs Go.Spec
set_option maxRecDepth 100000
theorem mH {k : Nat} {A xs : List AV} {q r : RL} (h : (onA lY k A xs q).sel = some r) (ho : zP r.ob) : xs = A/\r.v = q.v/\r.io = q.io/\r.nw = q.nw := by
 cases h
 exact ⟨zA.1 ho,rfl,rfl,rfl⟩
theorem RL.same {q r : RL} (hv : r.v = q.v) (hi : r.io = q.io) (hn : r.nw = q.nw) : r = ⟨r.ob,q.v,q.io,q.nw⟩ := by
 cases r; cases q; simp_all
theorem bHe (sh : Bool) {tk : By} (ht : pK tk) (s : BitVec 8) : Must (xQ Tryz.prog Y4 gl0 [] [] 3000 Tryz.f26 0 (aHe sh tk s) [] (vL Tryz.prog Tryz.f26 0 (rHe sh tk s))) := by
 rcases ht with rfl | rfl | rfl <;> cases sh
 ·exact bH00 s
 ·exact bH10 s
 ·exact bH01 (.inl rfl) s
 ·exact bH11 (.inl rfl) s
 ·exact bH01 (.inr rfl) s
 ·exact bH11 (.inr rfl) s
theorem bF0 (sh : Bool) {tk : By} (ht : pK tk) (s : BitVec 8) : Must (xQ Tryz.prog (Y6 (mL s) [] 22) gl0 [] [] 3000 Tryz.f30 0 (Y0 sh tk s) [] (vL Tryz.prog Tryz.f30 0 (match sh with | true => rFa sh tk s | false => rFr tk s))) := by
 rcases ht with rfl | rfl | rfl <;> cases sh
 ·exact bR0 s
 ·exact bF00 s
 ·exact bR1 (.inl rfl) s
 ·exact bF01 s
 ·exact bR1 (.inr rfl) s
 ·exact bF02 s
theorem bF1 {tk : By} (ht : pK tk) (s : BitVec 8) : Must (xQ Tryz.prog (Y6 (mL s) [] 22) gl0 [] [] 3000 Tryz.f30 0 (aF1 tk s) [] (vL Tryz.prog Tryz.f30 0 (rFa false tk s))) := by
 rcases ht with rfl | rfl | rfl
 ·exact bF10 s
 ·exact bF11 s
 ·exact bF12 s
theorem bP0 {tk : By} (ht : pK tk) (s : BitVec 8) : Must (xQ Tryz.prog (Y8 (mL s) [] 22) gl0 [] [] 3000 Tryz.f17 0 (aP0 tk s) [] (vL Tryz.prog Tryz.f17 0 (rP0 tk s))) := by
 rcases ht with rfl | rfl | rfl
 ·exact bQ0 s
 ·exact bQ1 (.inl rfl) s
 ·exact bQ1 (.inr rfl) s
theorem bP1 (sh : Bool) {tk : By} (ht : pK tk) (s : BitVec 8) : Must (xQ Tryz.prog (Y8 (mL s) (fxN (yC sh tk s) (vF tk) s) 22) gl0 [] [] 3000 Tryz.f17 0 (aP1 sh tk s) [] (vL Tryz.prog Tryz.f17 0 (rP1 sh tk s))) := by
 rcases ht with rfl | rfl | rfl
 ·exact bPan sh (.inl rfl) s
 ·exact bPan sh (.inr rfl) s
 ·exact bPao sh s
theorem cHe (sh : Bool) {tk : By} (ht : pK tk) (s : BitVec 8) : COK Tryz.prog gl0 26 (mkF (spHe lY sh tk s)) := by
 refine pH (fn := Tryz.f26) [] 3000 (by kernel_rfl) (by kernel_rfl) (by kernel_rfl) (fun args w => by kernel_rfl) fun xs bs r hs ho => ?_
 simp only [spHe,gHe] at hs
 split at hs
 ·obtain ⟨rfl,h1,h2,h3⟩ := mH hs ho
  rw [RL.same h1 h2 h3]
  exact ⟨_,okY4,_,bHe sh ht s⟩
 ·cases hs
theorem cFd (sh : Bool) {tk : By} (ht : pK tk) (s : BitVec 8) : COK Tryz.prog gl0 30 (mkF (spFd lY sh tk s)) := by
 refine pH (fn := Tryz.f30) [] 3000 (by kernel_rfl) (by kernel_rfl) (by kernel_rfl) (fun args w => by kernel_rfl) fun xs bs r hs ho => ?_
 simp only [spFd,gFd] at hs
 split at hs
 ·split at hs
  ·obtain ⟨rfl,h1,h2,h3⟩ := mH hs ho
   rw [RL.same h1 h2 h3]
   exact ⟨_,okY6 _ _ _,_,bF0 sh ht s⟩
  ·cases sh
   ·obtain ⟨rfl,h1,h2,h3⟩ := mH hs ho
    rw [RL.same h1 h2 h3]
    exact ⟨_,okY6 _ _ _,_,bF1 ht s⟩
   ·cases hs
  ·obtain ⟨rfl,h1,h2,h3⟩ := mH hs ho
   rw [RL.same h1 h2 h3]
   exact ⟨_,okY6 _ _ _,_,bF2 sh ht s⟩
  ·cases hs
 ·cases hs
theorem cPe (sh : Bool) {tk : By} (ht : pK tk) (s : BitVec 8) : COK Tryz.prog gl0 17 (mkF (spPe lY sh tk s)) := by
 refine pH (fn := Tryz.f17) [] 3000 (by kernel_rfl) (by kernel_rfl) (by kernel_rfl) (fun args w => by kernel_rfl) fun xs bs r hs ho => ?_
 simp only [spPe,gPe] at hs
 split at hs
 ·split at hs
  ·obtain ⟨rfl,h1,h2,h3⟩ := mH hs ho
   rw [RL.same h1 h2 h3]
   exact ⟨_,e0k _ _ _,_,bP2 sh ht s⟩
  ·cases sh
   ·obtain ⟨rfl,h1,h2,h3⟩ := mH hs ho
    rw [RL.same h1 h2 h3]
    exact ⟨_,e0k _ _ _,_,bP0 ht s⟩
   ·cases hs
  ·obtain ⟨rfl,h1,h2,h3⟩ := mH hs ho
   rw [RL.same h1 h2 h3]
   exact ⟨_,e0k _ _ _,_,bP1 sh ht s⟩
 ·cases hs
theorem u0q (sh : Bool) {tk : By} (ht : pK tk) (s : BitVec 8) : COKs Tryz.prog gl0 (X1 lY sh tk s) := ((okX0.add (cHe sh ht s)).add (cFd sh ht s)).add (cPe sh ht s)
theorem sh_how {avs : List AV} (h : mK [.b,.b,.b,.i .u8] avs) : ∃ (a b c : Bool) (s : BitVec 8),avs = [.bool a,.bool b,.bool c,.u8 s] := by
 obtain ⟨x1,z1,rfl,⟨a,rfl⟩,h1⟩ := eY h
 obtain ⟨x2,z2,rfl,⟨b,rfl⟩,h2⟩ := eY h1
 obtain ⟨x3,z3,rfl,⟨c,rfl⟩,h3⟩ := eY h2
 obtain ⟨x4,z4,rfl,⟨s,rfl⟩,h4⟩ := eY h3
 rw [e0x h4]
 exact ⟨a,b,c,s,rfl⟩
end Go.Sym
