/- Both come to Open. -/
import Derived.Test.YtknplceohfeamaaGreatDoorCon
import Derived.Test.YtknplceohfeamaaGreatDoorTwo
set_option linter.unusedVariables false
set_option linter.unusedSimpArgs false
namespace Go.Sym
open Go.Proofs Go.Spec
set_option maxRecDepth 100000
theorem okX2 : COKs Tryz.prog gl0 X2 := okN8.add cCo
theorem okX3 : COKs Tryz.prog gl0 X3 := ((okX2.withFrz _).exeS 3000 (by kernel_rfl) _ (by kernel_rfl) (by kernel_rfl)).withFrz []
theorem andS {g : F8} {n s : Nat} : andP (fun i => decide (g i = g i)) s n true = true := (andP_iff n s).2 ⟨fun _ _ _ => decide_eq_true rfl,rfl⟩
theorem bMe : Must (bodyP Tryz.prog X2 gl0 [] [] 3000 Tryz.f15 0 [] [] (retQ Tryz.prog Tryz.f15 0 ⟨[],.bool true,[],[]⟩)) := by
 constructor
 rw [vMe]
 exact ⟨andS.symm,trivial⟩
theorem cMe : COK Tryz.prog gl0 15 (mkF ⟨[],fun _ _ => [],fun _ _ => [],yesG⟩) := by
 refine ctrE (fn := Tryz.f15) [] 3000 (by kernel_rfl) (by kernel_rfl) okX2 (by kernel_rfl) (fun args w => by kernel_rfl) fun xs bs r hs ho => ?_
 simp only [yesG] at hs
 split at hs
 ·cases hs; exact ⟨_,bMe⟩
 ·cases hs
theorem okX4 : COKs Tryz.prog gl0 X4 := okX3.add cMe
theorem and3 {a b c : Bool} (ha : a = true) (hb : b = true) (hc : c = true) : (a && (b && (c && true))) = true := by rw [ha,hb,hc]; rfl
theorem bM10 (s : BitVec 8) (kn : Bool) : Must (bodyP Tryz.prog X4 gl0 [] [] 3000 Tryz.f5 0 [.agg [.bool true,.bool false,.bool kn,.u8 s]] [] (retQ Tryz.prog Tryz.f5 0 ⟨[],.bool true,[],[]⟩)) := by
 constructor
 rw [vM10]
 exact ⟨andS,and3 andS andS andS,andS,andS,rfl,trivial⟩
theorem bM11 (s : BitVec 8) : Must (bodyP Tryz.prog X4 gl0 [] [] 3000 Tryz.f5 0 [.agg [.bool true,.bool true,.bool false,.u8 s]] [] (retQ Tryz.prog Tryz.f5 0 ⟨[],.bool true,[],[]⟩)) := by
 constructor
 rw [vM11]
 exact ⟨andS,and3 andS andS andS,andS,andS,rfl,trivial⟩
theorem bM12 (s : BitVec 8) : Must (bodyP Tryz.prog X4 gl0 [] [] 3000 Tryz.f5 0 [.agg [.bool true,.bool true,.bool true,.u8 s]] [] (retQ Tryz.prog Tryz.f5 0 ⟨[],.bool true,[],[]⟩)) := by
 constructor
 rw [vM12]
 exact ⟨andS,and3 andS andS andS,andS,andS,rfl,trivial⟩
theorem bM00 (s : BitVec 8) (kn : Bool) : Must (bodyP Tryz.prog X4 gl0 [] [] 3000 Tryz.f5 0 [.agg [.bool false,.bool false,.bool kn,.u8 s]] [] (retQ Tryz.prog Tryz.f5 0 ⟨[],.bool true,[],[]⟩)) := by
 constructor
 rw [vM00]
 exact ⟨andS,and3 andS andS andS,andS,andS,rfl,trivial⟩
theorem bM01 (s : BitVec 8) : Must (bodyP Tryz.prog X4 gl0 [] [] 3000 Tryz.f5 0 [.agg [.bool false,.bool true,.bool false,.u8 s]] [] (retQ Tryz.prog Tryz.f5 0 ⟨[],.bool true,[],[]⟩)) := by
 constructor
 rw [vM01]
 exact ⟨andS,and3 andS andS andS,andS,andS,rfl,trivial⟩
theorem bM02 (s : BitVec 8) : Must (bodyP Tryz.prog X4 gl0 [] [] 3000 Tryz.f5 0 [.agg [.bool false,.bool true,.bool true,.u8 s]] [] (retQ Tryz.prog Tryz.f5 0 ⟨[],.bool true,[],[]⟩)) := by
 constructor
 rw [vM02]
 exact ⟨andS,and3 andS andS andS,andS,andS,rfl,trivial⟩
theorem bPM (a b c : Bool) (s : BitVec 8) : Must (bodyP Tryz.prog X4 gl0 [] [] 3000 Tryz.f5 0 [.agg [.bool a,.bool b,.bool c,.u8 s]] [] (retQ Tryz.prog Tryz.f5 0 ⟨[],.bool true,[],[]⟩)) := by
 cases a <;> cases b
 ·exact bM00 s c
 ·cases c
  ·exact bM01 s
  ·exact bM02 s
 ·exact bM10 s c
 ·cases c
  ·exact bM11 s
  ·exact bM12 s
end Go.Sym
