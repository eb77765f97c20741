/- A server and its peer that are open, by names. -/
import Derived.Test.YtknplceohfeamaaGreatDoorSteps
import Derived.Test.YtknplceohfeamaaGreatDoorCon
set_option linter.unusedVariables false
set_option linter.unusedSimpArgs false
namespace Go.Sym
open Go.Proofs Go.Spec
section
variable (a b c : Bool) (s : BitVec 8)
noncomputable def qY : By := mQ (C3 b c)
noncomputable def pkW : Bool := mQ (vF (C3 b c))
noncomputable def eK : By := mQ (F4 (C3 b c))
noncomputable def psW : F8 := mQ (tV (C3 b c))
noncomputable def wX : By := mQ (mM (yC a (C3 b c) s) (vF (C3 b c)) s)
noncomputable def C6 : F8 := mQ (hH (yC a (C3 b c) s) (vF (C3 b c)) s)
noncomputable def J5 : F8 := mQ (qZ (vF (C3 b c)))
noncomputable def J6 : F8 := mQ (qA (vF (C3 b c)) s)
noncomputable def J7 : F8 := mQ (qN (vF (C3 b c)) s)
noncomputable def laW : F8 := mQ (jF (yC a (C3 b c) s) (vF (C3 b c)) s)
noncomputable def soW : F8 := mQ (nE (yC a (C3 b c) s) (vF (C3 b c)) s)
noncomputable def rCoW : RL := ⟨[],.tup [prA (C2 3 (wX a b c s).length (iV (yD 32 (C6 a b c s)) (J5 b c) (J6 b c s) (J7 b c s) (laW a b c s) (soW a b c s) (laW a b c s)) 0 0 2 2 true (eK b c).length)
 (tP a (qY b c).length (psW b c) 3 (zX s) (wX a b c s).length (aD (C6 a b c s) (J5 b c) (J6 b c s) (J7 b c s) (soW a b c s) (laW a b c s)) 0 0 2 2 0 (!a) (pkW b c)),.bool true],[],[bk (wX a b c s),bk (eK b c),bk (qY b c),bk (wX a b c s),bk [],bk [],bk []]⟩
theorem w1k : rCoW a b c s = rCo a (C3 b c) s := by
 unfold rCoW qY pkW eK psW wX C6 J5 J6 J7 laW soW
 simp only [vQ]
 rfl
end
noncomputable def gCoW (xs : List AV) (bs : List ABlk) : TL := match xs,bs with
 | [.agg [.bool a,.bool b,.bool c,.u8 s],.int .i64 (.ofNat 3)],[] => .ok (rCoW a b c s)
 | _,_ => .no
theorem tM (b c : Bool) : (qY b c).length < 1099511627776 := by
 unfold qY; rw [vQ]; cases b <;> cases c <;> decide
theorem lS (b c : Bool) : (eK b c).length < 1099511627776 := by
 unfold eK; rw [vQ]; cases b <;> cases c <;> decide
theorem mI (a b c : Bool) (s : BitVec 8) : (wX a b c s).length < 1099511627776 := by
 unfold wX; rw [vQ]; cases a <;> cases b <;> cases c <;> exact dN (by kernel_rfl)
end Go.Sym
namespace Go.Sym
open Go.Proofs Go.Spec
theorem cCoW : COK Tryz.prog gl0 9 (mkF ⟨[.kp,.kp],fun _ _ => [],fun _ _ => [],gCoW⟩) := cCo.chk fun xs bs r hs _ => by
 unfold gCoW at hs
 split at hs
 ·rename_i a b c s
  cases hs
  rw [w1k]
  cases a <;> cases b <;> cases c <;> exact ⟨_,rfl,trivial,rfl,rfl,rfl⟩
 ·cases hs
end Go.Sym
