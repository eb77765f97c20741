/- A server and its peer, three rounds on. -/
import Derived.Test.YtknplceohfeamaaGreatDoorSteps
import Derived.Test.YtknplceohfeamaaGreatDoorTwo
set_option linter.unusedVariables false
set_option linter.unusedSimpArgs false
namespace Go.Sym
open Go.Proofs Go.Spec
inductive It : Type 1 where
 | e {α : Type} (a : α)
 | z (n : Nat)
 | r {α : Type} (F : Nat->α) (k n : Nat)
 | d (p : Prop) (i : Decidable p)
def zeQ (q : Prop) : Nat->Prop
 | 0 => q
 | n + 1 => 0 = 0/\zeQ q n
def okP : List It->Prop
 | [] => True
 | .e a::l => a = a/\okP l
 | .z n::l => zeQ (okP l) n
 | .r F k n::l => zG (fun i => F i = F i) k n (okP l)
 | .d p _::l => p/\okP l
def ckI : List It->Bool
 | [] => true
 | .d p i::l => @decide p i && ckI l
 | _::l => ckI l
theorem f0q {q : Prop} (h : q) : ∀ n,zeQ q n
 | 0 => h
 | n + 1 => ⟨rfl,f0q h n⟩
theorem aU : ∀ (l : List It),ckI l = true->okP l
 | [],_ => trivial
 | .e _::l,h => ⟨rfl,aU l h⟩
 | .z n::l,h => f0q (aU l h) n
 | .r _ _ _::l,h => zS (fun _ _ _ => rfl) (aU l h)
 | .d p i::l,h => by
  simp only [ckI,Bool.and_eq_true] at h
  exact ⟨@of_decide_eq_true p i h.1,aU l h.2⟩
abbrev It.c (p : Prop) [i : Decidable p] : It := .d p i
theorem oki {P : Prop} (l : List It) (h : ckI l = true) (e : okP l = P) : P := e ▸ aU l h
set_option maxHeartbeats 0
set_option maxRecDepth 100000
abbrev bC (a b c : Bool) (tk : By) (s : BitVec 8) : Prop := Must (bq (X1 lY a tk s) Tryz.f9 0 [.agg [.bool a,.bool b,.bool c,.u8 s],.int .i64 3] [] (rCo a tk s))
theorem bC10 (s : BitVec 8) (kn : Bool) : bC true false kn [] s := ⟨oki (let q1 := yC true [] s; let q2 := List.length (mM q1 false s); [.e (aHe true [] s),.e (List.length (tW true [] s)),.e (Y0 true [] s),.z 1,.e (List.length (dB [] false true [] s)),.z 3,.c (215 = List.length (Q6 q1 false s)),.e (aP1 true [] s),.e (List.length (bI q1 false s)),.z 1,.c (58 = List.length (fiR (bpN q1 false s))),.e (aF2 true [] s),.z 1,.e q2,.z 3,.e (aP2 true [] s),.e (3 : Int),.z 3,.e q2,.r (hH q1 false s) 0 32,.r (qZ false) 0 32,.r (qA false s) 0 32,.r (qN false s) 0 32,.r (jF q1 false s) 0 32,.r (nE q1 false s) 0 32,.r (jF q1 false s) 0 32,.e (0 : Int),.e (0 : Int),.e (2 : Int),.e (2 : Int),.e true,.z 4,.e (Int.negSucc 0),.e 7#8,.r (fun _ => 0#8) 0 31,.e true,.z 4,.r (fun _ => 0#8) 0 32,.e (3 : Int),.r (zX s) 0 64,.z 3,.e q2,.r (hH q1 false s) 0 32,.r (qZ false) 0 32,.r (qA false s) 0 32,.r (qN false s) 0 32,.r (nE q1 false s) 0 32,.r (jF q1 false s) 0 32,.e (0 : Int),.e (0 : Int),.e (2 : Int),.e (2 : Int),.e (0 : Int),.e false,.e false,.r (fun _ => 0) 0 12,.e (Int.negSucc 0),.e true,.e (mM q1 false s),.e (F4 []),.c (([] : By) = []),.e (mM q1 false s),.c (([] : By) = []),.c (([] : By) = []),.c (([] : By) = [])]) (by kernel_rfl) (by kernel_rfl)⟩
theorem bC11 (s : BitVec 8) : bC true true false xN s := ⟨oki (let q1 := yC true xN s; let q2 := List.length (mM q1 false s); [.c (0 < 3),.c (0 < 3),.e 3,.e (aHe true xN s),.e (List.length (tW true xN s)),.e (Y0 true xN s),.e 3,.e (List.length (dB [] false true xN s)),.z 3,.c (215 = List.length (Q6 q1 false s)),.e (aP1 true xN s),.e (List.length (bI q1 false s)),.z 1,.c (58 = List.length (fiR (bpN q1 false s))),.e (aF2 true xN s),.e 3,.e q2,.z 3,.e (aP2 true xN s),.e (3 : Int),.z 3,.e q2,.r (hH q1 false s) 0 32,.r (qZ false) 0 32,.r (qA false s) 0 32,.r (qN false s) 0 32,.r (jF q1 false s) 0 32,.r (nE q1 false s) 0 32,.r (jF q1 false s) 0 32,.e (0 : Int),.e (0 : Int),.e (2 : Int),.e (2 : Int),.e true,.z 4,.e (Int.negSucc 0),.e 7#8,.r (fun _ => 0#8) 0 31,.e true,.z 3,.e 3,.e 9#8,.r (fun _ => 0#8) 0 31,.e (3 : Int),.r (zX s) 0 64,.z 3,.e q2,.r (hH q1 false s) 0 32,.r (qZ false) 0 32,.r (qA false s) 0 32,.r (qN false s) 0 32,.r (nE q1 false s) 0 32,.r (jF q1 false s) 0 32,.e (0 : Int),.e (0 : Int),.e (2 : Int),.e (2 : Int),.e (0 : Int),.e false,.e false,.r (fun _ => 0) 0 12,.e (Int.negSucc 0),.e true,.e (mM q1 false s),.e (F4 xN),.e xN,.e (mM q1 false s),.c (([] : By) = []),.c (([] : By) = []),.c (([] : By) = [])]) (by kernel_rfl) (by kernel_rfl)⟩
theorem bC12 (s : BitVec 8) : bC true true true xJ s := ⟨oki (let q1 := yC true xJ s; let q2 := List.length (mM q1 true s); [.c (0 < 3),.c (0 < 3),.c (0 < 3),.c (0 < 3),.e 3,.e (aHe true xJ s),.e (List.length (tW true xJ s)),.e (Y0 true xJ s),.e 3,.e (List.length (dB [] false true xJ s)),.z 3,.c (165 = List.length (Q6 q1 true s)),.e (aP1 true xJ s),.e (List.length (bI q1 true s)),.e 3,.c (58 = List.length (fiR (bpN q1 true s))),.e (aF2 true xJ s),.e 3,.e q2,.z 3,.e (aP2 true xJ s),.e (3 : Int),.z 3,.e q2,.r (hH q1 true s) 0 32,.r (qZ true) 0 32,.r (qA true s) 0 32,.r (qN true s) 0 32,.r (jF q1 true s) 0 32,.r (nE q1 true s) 0 32,.r (jF q1 true s) 0 32,.e (0 : Int),.e (0 : Int),.e (2 : Int),.e (2 : Int),.e true,.z 3,.e 3,.e (Int.negSucc 0),.e 7#8,.r (fun _ => 0#8) 0 31,.e true,.z 3,.e 3,.e 9#8,.r (fun _ => 0#8) 0 31,.e (3 : Int),.r (zX s) 0 64,.z 3,.e q2,.r (hH q1 true s) 0 32,.r (qZ true) 0 32,.r (qA true s) 0 32,.r (qN true s) 0 32,.r (nE q1 true s) 0 32,.r (jF q1 true s) 0 32,.e (0 : Int),.e (0 : Int),.e (2 : Int),.e (2 : Int),.e (0 : Int),.e false,.e true,.r (fun _ => 0) 0 12,.e (Int.negSucc 0),.e true,.e (mM q1 true s),.e (F4 xJ),.e xJ,.e (mM q1 true s),.c (([] : By) = []),.c (([] : By) = []),.c (([] : By) = [])]) (by kernel_rfl) (by kernel_rfl)⟩
theorem bC00 (s : BitVec 8) (kn : Bool) : bC false false kn [] s := ⟨oki (let q1 := yC false [] s; let q2 := List.length (mM q1 false s); [.e (aHe false [] s),.e (List.length (tW false [] s)),.e (Y0 false [] s),.z 1,.e (List.length (dB [] true false [] s)),.z 3,.e 61,.e (aP0 [] s),.c (92 = List.length (cJ (F3 [] s))),.z 1,.e (List.length (g2R [] s)),.e (aF1 [] s),.z 1,.e (List.length q1),.z 3,.c (215 = List.length (Q6 q1 false s)),.e (aP1 false [] s),.e (List.length (bI q1 false s)),.z 1,.c (58 = List.length (fiR (bpN q1 false s))),.e (aF2 false [] s),.z 1,.e q2,.z 3,.e (aP2 false [] s),.e (3 : Int),.z 3,.e q2,.r (hH q1 false s) 0 32,.r (qZ false) 0 32,.r (qA false s) 0 32,.r (qN false s) 0 32,.r (jF q1 false s) 0 32,.r (nE q1 false s) 0 32,.r (jF q1 false s) 0 32,.e (0 : Int),.e (0 : Int),.e (2 : Int),.e (2 : Int),.e true,.z 4,.e (Int.negSucc 0),.e 7#8,.r (fun _ => 0#8) 0 31,.e false,.z 4,.r (fun _ => 0#8) 0 32,.e (3 : Int),.r (zX s) 0 64,.z 3,.e q2,.r (hH q1 false s) 0 32,.r (qZ false) 0 32,.r (qA false s) 0 32,.r (qN false s) 0 32,.r (nE q1 false s) 0 32,.r (jF q1 false s) 0 32,.e (0 : Int),.e (0 : Int),.e (2 : Int),.e (2 : Int),.e (0 : Int),.e true,.e false,.r (fun _ => 0) 0 12,.e (Int.negSucc 0),.e true,.e (mM q1 false s),.e (F4 []),.c (([] : By) = []),.e (mM q1 false s),.c (([] : By) = []),.c (([] : By) = []),.c (([] : By) = [])]) (by kernel_rfl) (by kernel_rfl)⟩
theorem bC01 (s : BitVec 8) : bC false true false xN s := ⟨oki (let q1 := yC false xN s; let q2 := List.length (mM q1 false s); [.c (0 < 3),.c (0 < 3),.e 3,.e (aHe false xN s),.e (List.length (tW false xN s)),.e (Y0 false xN s),.e 3,.e (List.length (dB [] true false xN s)),.z 3,.e 61,.e (aP0 xN s),.c (92 = List.length (cJ (F3 xN s))),.z 1,.e (List.length (g2R xN s)),.e (aF1 xN s),.e 3,.e (List.length q1),.z 3,.c (215 = List.length (Q6 q1 false s)),.e (aP1 false xN s),.e (List.length (bI q1 false s)),.z 1,.c (58 = List.length (fiR (bpN q1 false s))),.e (aF2 false xN s),.e 3,.e q2,.z 3,.e (aP2 false xN s),.e (3 : Int),.z 3,.e q2,.r (hH q1 false s) 0 32,.r (qZ false) 0 32,.r (qA false s) 0 32,.r (qN false s) 0 32,.r (jF q1 false s) 0 32,.r (nE q1 false s) 0 32,.r (jF q1 false s) 0 32,.e (0 : Int),.e (0 : Int),.e (2 : Int),.e (2 : Int),.e true,.z 4,.e (Int.negSucc 0),.e 7#8,.r (fun _ => 0#8) 0 31,.e false,.z 3,.e 3,.e 9#8,.r (fun _ => 0#8) 0 31,.e (3 : Int),.r (zX s) 0 64,.z 3,.e q2,.r (hH q1 false s) 0 32,.r (qZ false) 0 32,.r (qA false s) 0 32,.r (qN false s) 0 32,.r (nE q1 false s) 0 32,.r (jF q1 false s) 0 32,.e (0 : Int),.e (0 : Int),.e (2 : Int),.e (2 : Int),.e (0 : Int),.e true,.e false,.r (fun _ => 0) 0 12,.e (Int.negSucc 0),.e true,.e (mM q1 false s),.e (F4 xN),.e xN,.e (mM q1 false s),.c (([] : By) = []),.c (([] : By) = []),.c (([] : By) = [])]) (by kernel_rfl) (by kernel_rfl)⟩
theorem bC02 (s : BitVec 8) : bC false true true xJ s := ⟨oki (let q1 := yC false xJ s; let q2 := List.length (mM q1 true s); [.c (0 < 3),.c (0 < 3),.c (0 < 3),.c (0 < 3),.e 3,.e (aHe false xJ s),.e (List.length (tW false xJ s)),.e (Y0 false xJ s),.e 3,.e (List.length (dB [] true false xJ s)),.z 3,.e 61,.e (aP0 xJ s),.c (92 = List.length (cJ (F3 xJ s))),.z 1,.e (List.length (g2R xJ s)),.e (aF1 xJ s),.e 3,.e (List.length q1),.z 3,.c (165 = List.length (Q6 q1 true s)),.e (aP1 false xJ s),.e (List.length (bI q1 true s)),.e 3,.c (58 = List.length (fiR (bpN q1 true s))),.e (aF2 false xJ s),.e 3,.e q2,.z 3,.e (aP2 false xJ s),.e (3 : Int),.z 3,.e q2,.r (hH q1 true s) 0 32,.r (qZ true) 0 32,.r (qA true s) 0 32,.r (qN true s) 0 32,.r (jF q1 true s) 0 32,.r (nE q1 true s) 0 32,.r (jF q1 true s) 0 32,.e (0 : Int),.e (0 : Int),.e (2 : Int),.e (2 : Int),.e true,.z 3,.e 3,.e (Int.negSucc 0),.e 7#8,.r (fun _ => 0#8) 0 31,.e false,.z 3,.e 3,.e 9#8,.r (fun _ => 0#8) 0 31,.e (3 : Int),.r (zX s) 0 64,.z 3,.e q2,.r (hH q1 true s) 0 32,.r (qZ true) 0 32,.r (qA true s) 0 32,.r (qN true s) 0 32,.r (nE q1 true s) 0 32,.r (jF q1 true s) 0 32,.e (0 : Int),.e (0 : Int),.e (2 : Int),.e (2 : Int),.e (0 : Int),.e true,.e true,.r (fun _ => 0) 0 12,.e (Int.negSucc 0),.e true,.e (mM q1 true s),.e (F4 xJ),.e xJ,.e (mM q1 true s),.c (([] : By) = []),.c (([] : By) = []),.c (([] : By) = [])]) (by kernel_rfl) (by kernel_rfl)⟩
theorem cCo : COK Tryz.prog gl0 9 (mkF ⟨[.kp,.kp],fun _ _ => [],fun _ _ => [],gCo⟩) := by
 refine pH (fn := Tryz.f9) [] 3000 (by kernel_rfl) (by kernel_rfl) (by kernel_rfl) (fun args w => by kernel_rfl) fun xs bs r hs ho => ?_
 simp only [gCo] at hs
 split at hs
 ·rename_i a b c s
  cases a <;> cases b
  ·cases hs; exact ⟨_,u0q false (.inl rfl) s,_,bC00 s c⟩
  ·cases c
   ·cases hs; exact ⟨_,u0q false (.inr (.inl rfl)) s,_,bC01 s⟩
   ·cases hs; exact ⟨_,u0q false (.inr (.inr rfl)) s,_,bC02 s⟩
  ·cases hs; exact ⟨_,u0q true (.inl rfl) s,_,bC10 s c⟩
  ·cases c
   ·cases hs; exact ⟨_,u0q true (.inr (.inl rfl)) s,_,bC11 s⟩
   ·cases hs; exact ⟨_,u0q true (.inr (.inr rfl)) s,_,bC12 s⟩
 ·cases hs
noncomputable def X2 : Ctx := N8.add 9 (mkF ⟨[.kp,.kp],fun _ _ => [],fun _ _ => [],gCo⟩)
noncomputable def X3 : Ctx := (exeS Tryz.prog gl0 3000 [(16,Tryz.f16)] (X2.withFrz [(20,[.is true]),(29,[.is true]),(38,[.is true]),(47,[.is true])])).withFrz []
noncomputable def yesG (xs : List AV) (bs : List ABlk) : TL := match xs,bs with | [],[] => .ok ⟨[],.bool true,[],[]⟩ | _,_ => .no
set_option maxRecDepth 100000 in
theorem vMe  : bq X2 Tryz.f15 0 [] [] ⟨[],.bool true,[],[]⟩ = (
true = xM (fun (i : Nat) => decide (hH (yC true [] (0#8)) false (0#8) i = hH (yC true [] (0#8)) false (0#8) i)) 0 32 true/\True : Prop) := by kernel_rfl
end Go.Sym
