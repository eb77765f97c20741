/- Both come to Open. -/
import Derived.Test.YtknplceohfeamaaGreatDoorCon
import Derived.Test.YtknplceohfeamaaGreatDoorTwo
set_option linter.unusedVariables false
set_option linter.unusedSimpArgs false
namespace Go.Sym
open Go.Proofs Go.Spec
set_option maxRecDepth 100000
theorem okX2 : COKs Tryz.prog gl0 X2 := okN8.add cCo
theorem andS {g : F8} {n s : Nat} : xM (fun i => decide (g i = g i)) s n true = true := (eV n s).2 ⟨fun _ _ _ => decide_eq_true rfl,rfl⟩
theorem bMe : Must (bq X2 Tryz.f15 0 [] [] ⟨[],.bool true,[],[]⟩) := by
 constructor
 rw [vMe]
 exact ⟨andS.symm,trivial⟩
theorem cMe : COK Tryz.prog gl0 15 (mkF ⟨[],fun _ _ => [],fun _ _ => [],yesG⟩) := by
 refine yY (fn := Tryz.f15) [] 3000 (by kernel_rfl) (by kernel_rfl) okX2 (by kernel_rfl) (fun args w => by kernel_rfl) fun xs bs r hs ho => ?_
 simp only [yesG] at hs
 split at hs
 ·cases hs; exact ⟨_,bMe⟩
 ·cases hs
end Go.Sym
