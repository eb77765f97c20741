/- The law. -/
import Derived.Test.YtknplceohfeamaaGreatDoorClH
import Derived.Test.YtknplceohfeamaaGreatDoorClI
import Derived.Test.YtknplceohfeamaaGreatDoorClJ
import Derived.Test.YtknplceohfeamaaGreatDoorClB
import Derived.Test.YtknplceohfeamaaGreatDoorMeet
set_option linter.unusedVariables false
set_option linter.unusedSimpArgs false
namespace Go.Sym
open Go.Proofs Go.Spec
set_option maxRecDepth 100000
section
variable (a b e : Bool) (s : BitVec 8)
theorem cGz {X : By} {ps : List By} (hp : v0d X ps) : COKv Tryz.prog gl0 20 (mkF (spGz lY X ps a b e s)) := by
 refine f2x (fn := Tryz.f20) [] 3000 (by kernel_rfl) (by kernel_rfl) (by kernel_rfl) (fun args w => by kernel_rfl) fun xs bs r hs ho => ?_
 replace hs : (gGz lY X ps a b e s xs bs).sel = some r := hs
 unfold gGz at hs
 split at hs
 ·rename_i l n c x
  match ps,hp,hs with
  | [],hp,hs => cases hs
  | [x1],hp,hs =>
   cases hs
   obtain ⟨h1,h2⟩ := zJ.1 ho
   obtain ⟨h4,h3⟩ := zA.1 h2
   subst h3
   have h1 : [AV.agg l,.slice 0 0 1 x.length .ow (.is c)] = [svU a b e s (laW a b e s) (soW a b e s) 2 2,.slice 0 0 1 x.length .ow (.is c)] := h1
   rw [h1]
   obtain ⟨rfl,p1,p2⟩ := hp
   exact ⟨_,q0g (ps := [X]) (w0d a b e s) ⟨rfl,p1,p2⟩,_,bGz1 _ _ _ _ _ _ _ _ _ _ _ _ _ (mI a b e s) (lS b e) p2 rfl h4⟩
  | [x1,x2],hp,hs =>
   cases hs
   obtain ⟨h1,h2⟩ := zJ.1 ho
   obtain ⟨h4,h3⟩ := zA.1 h2
   subst h3
   have h1 : [AV.agg l,.slice 0 0 1 x.length .ow (.is c)] = [svU a b e s (laW a b e s) (soW a b e s) 2 2,.slice 0 0 1 x.length .ow (.is c)] := h1
   rw [h1]
   exact ⟨_,q0g (w0d a b e s) hp,_,bGz2 _ _ _ _ _ _ _ _ _ _ _ _ _ _ _ (mI a b e s) (lS b e) (by have := hp.2.1; omega) hp.2.2.2 hp.1 h4⟩
  | _::_::_::_,hp,hs => exact hp.elim
 ·cases hs
theorem q0f {X : By} {ps : List By} (hp : v0d X ps) : COK Tryz.prog gl0 20 (ctGz lY X ps a b e s) := by
 refine (f0k ?_ (cGz a b e s hp)).cok
 exact lN [] 3000 2 (by kernel_rfl) (by kernel_rfl) (u0g (w0d a b e s) hp) (by kernel_rfl) (fun args w => by kernel_rfl)
theorem cMeK : COK Tryz.prog gl0 15 (mkF ⟨[],fun _ _ => [],fun _ _ => [],yesU⟩) := cMe
theorem okUk {X : By} {ps : List By} (hp : v0d X ps) : COKs Tryz.prog gl0 (Uk lY X ps a b e s) := (((((u0g (w0d a b e s) hp).add (cTz a b e s hp)).add (q0f a b e s hp)).add cCoW).add cMeK).withFrz _
end
theorem bPcl (a b e : Bool) (s : BitVec 8) (x : By) (c own : Bool) : Must (bq (Uk lY (y0h x) (psX x) a b e s) Tryz.f8 0 [.agg [.bool a,.bool b,.bool e,.u8 s],.rb true x (.is c),.bool own] [] ⟨[],.bool true,[],[]⟩) := by
 have hp := k0g x
 have z0d : List.take (min (x.length : Int) 500).toNat x = y0h x := rfl
 generalize y0h x = X at hp z0d ⊢
 generalize psX x = ps at hp ⊢
 match ps,hp with
 | [],hp =>
  cases own
  ·exact bL0 a b e s x X c z0d hp
  ·exact bM0 a b e s x X c z0d hp
 | [x1],hp =>
  obtain ⟨rfl,p1,p2⟩ := hp
  cases own
  ·exact bL1 a b e s x X c z0d p2
  ·exact bM1 a b e s x X c z0d p2
 | [x1,x2],hp =>
  have p1 : x1.length<=256 := by have := hp.2.1; omega
  cases own
  ·exact bL2 a b e s x X x1 x2 c z0d p1 hp.2.2.2
  ·exact bM2 a b e s x X x1 x2 c z0d p1 hp.2.2.2
 | _::_::_::_,hp => exact hp.elim
end Go.Sym
