/- The functions of cursor, and what is known of them. -/
import Derived.Test.YtoabgdomgdcpoaaSymC
import Derived.Test.YtoabgdomgdcpoaaProg
import Derived.KernelRfl
namespace Go.Sym
open Go.Proofs
set_option linter.unusedVariables false
noncomputable def gl0 : Gl := fun _ => []
noncomputable def C0 : Ctx := .none []
theorem ok0 : COKs Try.prog gl0 C0 := COKs.none
noncomputable def C1 : Ctx := C0.exe Try.prog gl0 [] 300 Try.f17.params.size 17 Try.f17
theorem ok1 : COKs Try.prog gl0 C1 := ok0.exe [] 300 _ (by kernel_rfl) (by kernel_rfl) (by kernel_rfl) (fun args w => by kernel_rfl)
noncomputable def C2 : Ctx := C1.exe Try.prog gl0 [] 300 Try.f40.params.size 40 Try.f40
theorem ok2 : COKs Try.prog gl0 C2 := ok1.exe [] 300 _ (by kernel_rfl) (by kernel_rfl) (by kernel_rfl) (fun args w => by kernel_rfl)
noncomputable def C3 : Ctx := C2.exe Try.prog gl0 [] 300 Try.f41.params.size 41 Try.f41
theorem ok3 : COKs Try.prog gl0 C3 := ok2.exe [] 300 _ (by kernel_rfl) (by kernel_rfl) (by kernel_rfl) (fun args w => by kernel_rfl)
noncomputable def C4 : Ctx := C3.exe Try.prog gl0 [] 300 Try.f42.params.size 42 Try.f42
theorem ok4 : COKs Try.prog gl0 C4 := ok3.exe [] 300 _ (by kernel_rfl) (by kernel_rfl) (by kernel_rfl) (fun args w => by kernel_rfl)
noncomputable def C5 : Ctx := C4.exe Try.prog gl0 [] 300 Try.f18.params.size 18 Try.f18
theorem ok5 : COKs Try.prog gl0 C5 := ok4.exe [] 300 _ (by kernel_rfl) (by kernel_rfl) (by kernel_rfl) (fun args w => by kernel_rfl)
noncomputable def C6 : Ctx := C5.exe Try.prog gl0 [] 300 Try.f13.params.size 13 Try.f13
theorem ok6 : COKs Try.prog gl0 C6 := ok5.exe [] 300 _ (by kernel_rfl) (by kernel_rfl) (by kernel_rfl) (fun args w => by kernel_rfl)
noncomputable def C7 : Ctx := C6.exe Try.prog gl0 [] 300 Try.f12.params.size 12 Try.f12
theorem ok7 : COKs Try.prog gl0 C7 := ok6.exe [] 300 _ (by kernel_rfl) (by kernel_rfl) (by kernel_rfl) (fun args w => by kernel_rfl)
noncomputable def C8 : Ctx := C7.exe Try.prog gl0 [] 300 Try.f14.params.size 14 Try.f14
theorem ok8 : COKs Try.prog gl0 C8 := ok7.exe [] 300 _ (by kernel_rfl) (by kernel_rfl) (by kernel_rfl) (fun args w => by kernel_rfl)
noncomputable def C9 : Ctx := C8.exe Try.prog gl0 [] 300 Try.f15.params.size 15 Try.f15
theorem ok9 : COKs Try.prog gl0 C9 := ok8.exe [] 300 _ (by kernel_rfl) (by kernel_rfl) (by kernel_rfl) (fun args w => by kernel_rfl)
noncomputable def C10 : Ctx := C9.exe Try.prog gl0 [] 300 Try.f16.params.size 16 Try.f16
theorem ok10 : COKs Try.prog gl0 C10 := ok9.exe [] 300 _ (by kernel_rfl) (by kernel_rfl) (by kernel_rfl) (fun args w => by kernel_rfl)
noncomputable def C11 : Ctx := C10.exe Try.prog gl0 [] 300 Try.f10.params.size 10 Try.f10
theorem ok11 : COKs Try.prog gl0 C11 := ok10.exe [] 300 _ (by kernel_rfl) (by kernel_rfl) (by kernel_rfl) (fun args w => by kernel_rfl)
noncomputable def C12 : Ctx := C11.exe Try.prog gl0 [] 300 Try.f24.params.size 24 Try.f24
theorem ok12 : COKs Try.prog gl0 C12 := ok11.exe [] 300 _ (by kernel_rfl) (by kernel_rfl) (by kernel_rfl) (fun args w => by kernel_rfl)
noncomputable def C13 : Ctx := C12.exe Try.prog gl0 [] 300 Try.f25.params.size 25 Try.f25
theorem ok13 : COKs Try.prog gl0 C13 := ok12.exe [] 300 _ (by kernel_rfl) (by kernel_rfl) (by kernel_rfl) (fun args w => by kernel_rfl)

def sp11 : Spec := ⟨[], fun _ _ => [], fun _ _ => [], fun xs bs => match xs, bs with | [], [] => .ok ⟨[], .bool true, [], []⟩ | _, _ => .no⟩
theorem vc11 : bodyP Try.prog C13 gl0 [] [] 300 Try.f11 0 [] [] (retQ Try.prog Try.f11 0 ⟨[], .bool true, [], []⟩) = (
(0 : Nat) < (2 : Nat) ∧
  (0 : Nat) < (2 : Nat) ∧
    (0 : Int) ≤ Int.ofNat (16 : Nat) ∧
      (0 : Int) ≤ Int.ofNat (8 : Nat) ∧
        (1 : Nat) = (1 : Nat) ∧
          Go.Sym.roomFor (0 : Nat) (1 : Nat) (1 : Nat) ∧
            (0 : Int) ≤ Int.ofNat (0 : Nat) ∧
              (1 : Nat) = (1 : Nat) ∧
                (1 : Nat) = (1 : Nat) ∧
                  Go.Sym.roomFor (1 : Nat) (1 : Nat) (1 : Nat) ∧
                    (2 : Nat) = (2 : Nat) ∧
                      (2 : Nat) = (2 : Nat) ∧
                        Go.Sym.roomFor (2 : Nat) (2 : Nat) (1 : Nat) ∧
                          (4 : Nat) = (4 : Nat) ∧
                            (0 : Nat) = (0 : Nat) ∧
                              Go.Sym.roomFor (0 : Nat) (4 : Nat) (1 : Nat) ∧
                                (0 : Int) ≤ (2 : Int) ∧
                                  (2 : Nat) ≤ (4 : Nat) ∧
                                    (2 : Nat) ≤ (4 : Nat) ∧
                                      (0 : Nat) = (0 : Nat) ∧
                                        Go.Sym.roomFor (0 : Nat) (2 : Nat) (1 : Nat) ∧
                                          (0 : Int) ≤ (2 : Int) ∧
                                            (2 : Nat) ≤ (4 : Nat) ∧
                                              (0 : Int) ≤ (0 : Int) ∧
                                                (0 : Nat) < (2 : Nat) ∧
                                                  (0 : Nat) < (2 : Nat) ∧
                                                    (0 : Int) ≤ Int.ofNat (1 : Nat) ∧
                                                      (1 : Nat) < (2 : Nat) ∧
                                                        (1 : Nat) < (2 : Nat) ∧
                                                          (0 : Int) ≤ Int.ofNat (2 : Nat) ∧
                                                            (2 : Nat) ≤ (2 : Nat) ∧
                                                              (4 : Nat) ≤ (4 : Nat) ∧
                                                                (0 : Nat) = (0 : Nat) ∧
                                                                  Go.Sym.roomFor (0 : Nat) (2 : Nat) (1 : Nat) ∧
                                                                    (0 : Int) ≤ Int.ofNat (2 : Nat) ∧
                                                                      (2 : Nat) ≤ (2 : Nat) ∧ (4 : Nat) = (4 : Nat) ∧ (2 : Nat) = (2 : Nat) ∧ Bool.true = Bool.true ∧ True) := by kernel_rfl
theorem c11 : COK Try.prog gl0 11 (mkF sp11) := by
  refine ctrA (fn := Try.f11) [] [] 300 (by kernel_rfl) (by kernel_rfl) ok13 (by kernel_rfl) (fun args w => by kernel_rfl) ?_
  intro xs bs r hs ho
  simp only [sp11] at hs
  split at hs
  · simp only [TL.sel, Option.some.injEq] at hs
    subst hs
    exact ⟨vc11 ▸ by simp [roomFor]⟩
  · simp [TL.sel] at hs
noncomputable def D1 : Ctx := C13.add 11 (mkF sp11)
theorem okD1 : COKs Try.prog gl0 D1 := ok13.add c11
noncomputable def D2 : Ctx := D1.exe Try.prog gl0 [] 300 Try.f9.params.size 9 Try.f9
theorem okD2 : COKs Try.prog gl0 D2 := okD1.exe [] 300 _ (by kernel_rfl) (by kernel_rfl) (by kernel_rfl) (fun args w => by kernel_rfl)
end Go.Sym
