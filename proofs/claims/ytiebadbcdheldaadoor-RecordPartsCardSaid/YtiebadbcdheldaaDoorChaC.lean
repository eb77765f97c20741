/- The same: shown. -/
import Derived.Test.YtiebadbcdheldaaDoorChaA
import Derived.Test.YtiebadbcdheldaaDoorChaB
import Derived.Test.YtiebadbcdheldaaDoorHkdf
namespace Go.Spec
theorem strL_twice (k : F8) (c : B32) (n : F8) (b : By) : strL k c n (strL k c n b) = b := by
  apply List.ext_getElem
  · simp [strL]
  · intro i h1 h2
    simp only [strL_length] at h1
    simp [strL, List.getD, h1, BitVec.xor_assoc]
theorem strL_drop (k : F8) (c : B32) (n : F8) (b : By) (q : Nat) : (strL k c n b).drop (64 * q) = strL k (c + BitVec.ofNat 32 q) n (b.drop (64 * q)) := by
  apply List.ext_getElem
  · simp [strL]
  · intro i h1 h2
    have h3 : i < b.length - 64 * q := by simpa [strL] using h2
    have e1 : (64 * q + i) / 64 = q + i / 64 := by omega
    have e2 : (64 * q + i) % 64 = i % 64 := by omega
    have hl : 64 * q + i < b.length := by omega
    simp [strL, strB, List.getD, hl, e1, e2, BitVec.ofNat_add, BitVec.add_assoc]
theorem strL_get (k : F8) (c : B32) (n : F8) (b : By) (x : Nat) (h : x < b.length) : (strL k c n b).getD x 0 = b.getD x 0 ^^^ strB k c n x := by
  simp [strL, List.getD, h]
end Go.Spec
namespace Go.Sym
open Go.Proofs Go.Spec
set_option linter.unusedVariables false
theorem aggB_congr {n : Nat} {f g : F8} (h : ∀ i, i < n → f i = g i) : aggB n f = aggB n g := by
  unfold aggB
  congr 1
  apply List.map_congr_left
  intro i hi
  rw [h i (by simpa using hi)]
theorem b39 (a b c d : B32) : Must (bodyP Tryd.prog K1 gl0 [] [] 3000 Tryd.f92 0 [.u32 a, .u32 b, .u32 c, .u32 d] [] (retQ Tryd.prog Tryd.f92 0 (rt (.tup [.u32 (qr a b c d).a, .u32 (qr a b c d).b, .u32 (qr a b c d).c, .u32 (qr a b c d).d])))) := by
  constructor
  rw [v39]
  exact ⟨rfl, rfl, rfl, rfl, trivial⟩
theorem b26 (s : Nat → B32) : Must (bodyP Tryd.prog K2 gl0 [] [] 3000 Tryd.f77 0 [agW 16 s] [] (retQ Tryd.prog Tryd.f77 0 (rt (agW 16 (dbl s))))) := by
  constructor
  rw [v26]
  exact allRefl_true _ _ _
set_option maxRecDepth 100000 in
theorem b25 (k : F8) (c : B32) (n : F8) : Must (bodyP Tryd.prog K3 gl0 [] [] 3000 Tryd.f76 0 [aggB 32 k, .u32 c, aggB 12 n] [] (retQ Tryd.prog Tryd.f76 0 (rt (agW 16 (startS k c n))))) := by
  constructor
  rw [v25]
  have hA : allRefl (startS k c n) 0 16 := allRefl_true _ _ _
  generalize allRefl (startS k c n) 0 16 = A at hA ⊢
  repeat refine And.intro (of_decide_eq_true (by kernel_rfl)) ?_
  exact hA
set_option maxRecDepth 100000 in
theorem b13q (k : F8) (c : B32) (n : F8) : Must (bodyP Tryd.prog K4 gl0 [] [] 3000 Tryd.f64 0 [aggB 32 k, .u32 c, aggB 12 n] [] (retQ Tryd.prog Tryd.f64 0 (rt (aggB 64 (chaB k c n))))) := by
  constructor
  rw [v13]
  have hA : allRefl (chaB k c n) 0 64 := allRefl_true _ _ _
  generalize allRefl (chaB k c n) 0 64 = A at hA ⊢
  repeat refine And.intro (of_decide_eq_true (by kernel_rfl)) ?_
  exact hA
set_option maxRecDepth 100000 in
theorem b14q (k : F8) (c : B32) (n : F8) : Must (bodyP Tryd.prog K8 gl0 [] [] 6000 Tryd.f68 0 [aggB 32 k, .u32 c, aggB 12 n] [] (retQ Tryd.prog Tryd.f68 0 (rt (aggB 64 (ref64 k c n))))) := by
  constructor
  rw [v14]
  unfold roomFor
  have hA : allRefl (ref64 k c n) 0 64 := allRefl_true _ _ _
  generalize allRefl (ref64 k c n) 0 64 = A at hA ⊢
  repeat refine And.intro (of_decide_eq_true (by kernel_rfl)) ?_
  exact hA
end Go.Sym

namespace Go.Sym
open Go.Proofs Go.Spec
set_option linter.unusedVariables false
set_option maxRecDepth 100000 in
theorem v27n0 (u : Nat → B64) : bodyP Tryd.prog K7 gl0 [] [] 3000 Tryd.f84 0 [agD 16 u, .agg [.int .i64 0, .int .i64 4, .int .i64 8, .int .i64 12]] [] (retQ Tryd.prog Tryd.f84 0 (rt (agD 16 (put4 u 0 4 8 12)))) = (
(0 : Int) ≤ (0 : Int) ∧ (0 : Int) ≤ (4 : Int) ∧ (0 : Int) ≤ (0 : Int) ∧ (0 : Int) ≤ (12 : Int) ∧ (0 : Int) ≤ (0 : Int) ∧ (0 : Int) ≤ (0 : Int) ∧ (0 : Int) ≤ (12 : Int) ∧ (0 : Int) ≤ (8 : Int) ∧ (0 : Int) ≤ (12 : Int) ∧ (0 : Int) ≤ (8 : Int) ∧ (0 : Int) ≤ (4 : Int) ∧ (0 : Int) ≤ (8 : Int) ∧ (0 : Int) ≤ Int.ofNat 1 ∧ (0 : Int) ≤ (4 : Int) ∧ (0 : Int) ≤ (0 : Int) ∧ (0 : Int) ≤ (4 : Int) ∧ (0 : Int) ≤ (0 : Int) ∧ (0 : Int) ≤ (12 : Int) ∧ (0 : Int) ≤ (0 : Int) ∧ (0 : Int) ≤ Int.ofNat 2 ∧ (0 : Int) ≤ (12 : Int) ∧ (0 : Int) ≤ (8 : Int) ∧ (0 : Int) ≤ (12 : Int) ∧ (0 : Int) ≤ (8 : Int) ∧ (0 : Int) ≤ (4 : Int) ∧ (0 : Int) ≤ (8 : Int) ∧ (0 : Int) ≤ Int.ofNat 3 ∧ (0 : Int) ≤ (4 : Int) ∧ allRefl (put4 u 0 4 8 12) 0 16 : Prop) := by kernel_rfl
set_option maxRecDepth 100000 in
theorem v27n1 (u : Nat → B64) : bodyP Tryd.prog K7 gl0 [] [] 3000 Tryd.f84 0 [agD 16 u, .agg [.int .i64 1, .int .i64 5, .int .i64 9, .int .i64 13]] [] (retQ Tryd.prog Tryd.f84 0 (rt (agD 16 (put4 u 1 5 9 13)))) = (
(0 : Int) ≤ (1 : Int) ∧ (0 : Int) ≤ (5 : Int) ∧ (0 : Int) ≤ (1 : Int) ∧ (0 : Int) ≤ (13 : Int) ∧ (0 : Int) ≤ (1 : Int) ∧ (0 : Int) ≤ (0 : Int) ∧ (0 : Int) ≤ (13 : Int) ∧ (0 : Int) ≤ (9 : Int) ∧ (0 : Int) ≤ (13 : Int) ∧ (0 : Int) ≤ (9 : Int) ∧ (0 : Int) ≤ (5 : Int) ∧ (0 : Int) ≤ (9 : Int) ∧ (0 : Int) ≤ Int.ofNat 1 ∧ (0 : Int) ≤ (5 : Int) ∧ (0 : Int) ≤ (1 : Int) ∧ (0 : Int) ≤ (5 : Int) ∧ (0 : Int) ≤ (1 : Int) ∧ (0 : Int) ≤ (13 : Int) ∧ (0 : Int) ≤ (1 : Int) ∧ (0 : Int) ≤ Int.ofNat 2 ∧ (0 : Int) ≤ (13 : Int) ∧ (0 : Int) ≤ (9 : Int) ∧ (0 : Int) ≤ (13 : Int) ∧ (0 : Int) ≤ (9 : Int) ∧ (0 : Int) ≤ (5 : Int) ∧ (0 : Int) ≤ (9 : Int) ∧ (0 : Int) ≤ Int.ofNat 3 ∧ (0 : Int) ≤ (5 : Int) ∧ allRefl (put4 u 1 5 9 13) 0 16 : Prop) := by kernel_rfl
set_option maxRecDepth 100000 in
theorem v27n2 (u : Nat → B64) : bodyP Tryd.prog K7 gl0 [] [] 3000 Tryd.f84 0 [agD 16 u, .agg [.int .i64 2, .int .i64 6, .int .i64 10, .int .i64 14]] [] (retQ Tryd.prog Tryd.f84 0 (rt (agD 16 (put4 u 2 6 10 14)))) = (
(0 : Int) ≤ (2 : Int) ∧ (0 : Int) ≤ (6 : Int) ∧ (0 : Int) ≤ (2 : Int) ∧ (0 : Int) ≤ (14 : Int) ∧ (0 : Int) ≤ (2 : Int) ∧ (0 : Int) ≤ (0 : Int) ∧ (0 : Int) ≤ (14 : Int) ∧ (0 : Int) ≤ (10 : Int) ∧ (0 : Int) ≤ (14 : Int) ∧ (0 : Int) ≤ (10 : Int) ∧ (0 : Int) ≤ (6 : Int) ∧ (0 : Int) ≤ (10 : Int) ∧ (0 : Int) ≤ Int.ofNat 1 ∧ (0 : Int) ≤ (6 : Int) ∧ (0 : Int) ≤ (2 : Int) ∧ (0 : Int) ≤ (6 : Int) ∧ (0 : Int) ≤ (2 : Int) ∧ (0 : Int) ≤ (14 : Int) ∧ (0 : Int) ≤ (2 : Int) ∧ (0 : Int) ≤ Int.ofNat 2 ∧ (0 : Int) ≤ (14 : Int) ∧ (0 : Int) ≤ (10 : Int) ∧ (0 : Int) ≤ (14 : Int) ∧ (0 : Int) ≤ (10 : Int) ∧ (0 : Int) ≤ (6 : Int) ∧ (0 : Int) ≤ (10 : Int) ∧ (0 : Int) ≤ Int.ofNat 3 ∧ (0 : Int) ≤ (6 : Int) ∧ allRefl (put4 u 2 6 10 14) 0 16 : Prop) := by kernel_rfl
set_option maxRecDepth 100000 in
theorem v27n3 (u : Nat → B64) : bodyP Tryd.prog K7 gl0 [] [] 3000 Tryd.f84 0 [agD 16 u, .agg [.int .i64 3, .int .i64 7, .int .i64 11, .int .i64 15]] [] (retQ Tryd.prog Tryd.f84 0 (rt (agD 16 (put4 u 3 7 11 15)))) = (
(0 : Int) ≤ (3 : Int) ∧ (0 : Int) ≤ (7 : Int) ∧ (0 : Int) ≤ (3 : Int) ∧ (0 : Int) ≤ (15 : Int) ∧ (0 : Int) ≤ (3 : Int) ∧ (0 : Int) ≤ (0 : Int) ∧ (0 : Int) ≤ (15 : Int) ∧ (0 : Int) ≤ (11 : Int) ∧ (0 : Int) ≤ (15 : Int) ∧ (0 : Int) ≤ (11 : Int) ∧ (0 : Int) ≤ (7 : Int) ∧ (0 : Int) ≤ (11 : Int) ∧ (0 : Int) ≤ Int.ofNat 1 ∧ (0 : Int) ≤ (7 : Int) ∧ (0 : Int) ≤ (3 : Int) ∧ (0 : Int) ≤ (7 : Int) ∧ (0 : Int) ≤ (3 : Int) ∧ (0 : Int) ≤ (15 : Int) ∧ (0 : Int) ≤ (3 : Int) ∧ (0 : Int) ≤ Int.ofNat 2 ∧ (0 : Int) ≤ (15 : Int) ∧ (0 : Int) ≤ (11 : Int) ∧ (0 : Int) ≤ (15 : Int) ∧ (0 : Int) ≤ (11 : Int) ∧ (0 : Int) ≤ (7 : Int) ∧ (0 : Int) ≤ (11 : Int) ∧ (0 : Int) ≤ Int.ofNat 3 ∧ (0 : Int) ≤ (7 : Int) ∧ allRefl (put4 u 3 7 11 15) 0 16 : Prop) := by kernel_rfl
set_option maxRecDepth 100000 in
theorem v27n4 (u : Nat → B64) : bodyP Tryd.prog K7 gl0 [] [] 3000 Tryd.f84 0 [agD 16 u, .agg [.int .i64 0, .int .i64 5, .int .i64 10, .int .i64 15]] [] (retQ Tryd.prog Tryd.f84 0 (rt (agD 16 (put4 u 0 5 10 15)))) = (
(0 : Int) ≤ (0 : Int) ∧ (0 : Int) ≤ (5 : Int) ∧ (0 : Int) ≤ (0 : Int) ∧ (0 : Int) ≤ (15 : Int) ∧ (0 : Int) ≤ (0 : Int) ∧ (0 : Int) ≤ (0 : Int) ∧ (0 : Int) ≤ (15 : Int) ∧ (0 : Int) ≤ (10 : Int) ∧ (0 : Int) ≤ (15 : Int) ∧ (0 : Int) ≤ (10 : Int) ∧ (0 : Int) ≤ (5 : Int) ∧ (0 : Int) ≤ (10 : Int) ∧ (0 : Int) ≤ Int.ofNat 1 ∧ (0 : Int) ≤ (5 : Int) ∧ (0 : Int) ≤ (0 : Int) ∧ (0 : Int) ≤ (5 : Int) ∧ (0 : Int) ≤ (0 : Int) ∧ (0 : Int) ≤ (15 : Int) ∧ (0 : Int) ≤ (0 : Int) ∧ (0 : Int) ≤ Int.ofNat 2 ∧ (0 : Int) ≤ (15 : Int) ∧ (0 : Int) ≤ (10 : Int) ∧ (0 : Int) ≤ (15 : Int) ∧ (0 : Int) ≤ (10 : Int) ∧ (0 : Int) ≤ (5 : Int) ∧ (0 : Int) ≤ (10 : Int) ∧ (0 : Int) ≤ Int.ofNat 3 ∧ (0 : Int) ≤ (5 : Int) ∧ allRefl (put4 u 0 5 10 15) 0 16 : Prop) := by kernel_rfl
set_option maxRecDepth 100000 in
theorem v27n5 (u : Nat → B64) : bodyP Tryd.prog K7 gl0 [] [] 3000 Tryd.f84 0 [agD 16 u, .agg [.int .i64 1, .int .i64 6, .int .i64 11, .int .i64 12]] [] (retQ Tryd.prog Tryd.f84 0 (rt (agD 16 (put4 u 1 6 11 12)))) = (
(0 : Int) ≤ (1 : Int) ∧ (0 : Int) ≤ (6 : Int) ∧ (0 : Int) ≤ (1 : Int) ∧ (0 : Int) ≤ (12 : Int) ∧ (0 : Int) ≤ (1 : Int) ∧ (0 : Int) ≤ (0 : Int) ∧ (0 : Int) ≤ (12 : Int) ∧ (0 : Int) ≤ (11 : Int) ∧ (0 : Int) ≤ (12 : Int) ∧ (0 : Int) ≤ (11 : Int) ∧ (0 : Int) ≤ (6 : Int) ∧ (0 : Int) ≤ (11 : Int) ∧ (0 : Int) ≤ Int.ofNat 1 ∧ (0 : Int) ≤ (6 : Int) ∧ (0 : Int) ≤ (1 : Int) ∧ (0 : Int) ≤ (6 : Int) ∧ (0 : Int) ≤ (1 : Int) ∧ (0 : Int) ≤ (12 : Int) ∧ (0 : Int) ≤ (1 : Int) ∧ (0 : Int) ≤ Int.ofNat 2 ∧ (0 : Int) ≤ (12 : Int) ∧ (0 : Int) ≤ (11 : Int) ∧ (0 : Int) ≤ (12 : Int) ∧ (0 : Int) ≤ (11 : Int) ∧ (0 : Int) ≤ (6 : Int) ∧ (0 : Int) ≤ (11 : Int) ∧ (0 : Int) ≤ Int.ofNat 3 ∧ (0 : Int) ≤ (6 : Int) ∧ allRefl (put4 u 1 6 11 12) 0 16 : Prop) := by kernel_rfl
set_option maxRecDepth 100000 in
theorem v27n6 (u : Nat → B64) : bodyP Tryd.prog K7 gl0 [] [] 3000 Tryd.f84 0 [agD 16 u, .agg [.int .i64 2, .int .i64 7, .int .i64 8, .int .i64 13]] [] (retQ Tryd.prog Tryd.f84 0 (rt (agD 16 (put4 u 2 7 8 13)))) = (
(0 : Int) ≤ (2 : Int) ∧ (0 : Int) ≤ (7 : Int) ∧ (0 : Int) ≤ (2 : Int) ∧ (0 : Int) ≤ (13 : Int) ∧ (0 : Int) ≤ (2 : Int) ∧ (0 : Int) ≤ (0 : Int) ∧ (0 : Int) ≤ (13 : Int) ∧ (0 : Int) ≤ (8 : Int) ∧ (0 : Int) ≤ (13 : Int) ∧ (0 : Int) ≤ (8 : Int) ∧ (0 : Int) ≤ (7 : Int) ∧ (0 : Int) ≤ (8 : Int) ∧ (0 : Int) ≤ Int.ofNat 1 ∧ (0 : Int) ≤ (7 : Int) ∧ (0 : Int) ≤ (2 : Int) ∧ (0 : Int) ≤ (7 : Int) ∧ (0 : Int) ≤ (2 : Int) ∧ (0 : Int) ≤ (13 : Int) ∧ (0 : Int) ≤ (2 : Int) ∧ (0 : Int) ≤ Int.ofNat 2 ∧ (0 : Int) ≤ (13 : Int) ∧ (0 : Int) ≤ (8 : Int) ∧ (0 : Int) ≤ (13 : Int) ∧ (0 : Int) ≤ (8 : Int) ∧ (0 : Int) ≤ (7 : Int) ∧ (0 : Int) ≤ (8 : Int) ∧ (0 : Int) ≤ Int.ofNat 3 ∧ (0 : Int) ≤ (7 : Int) ∧ allRefl (put4 u 2 7 8 13) 0 16 : Prop) := by kernel_rfl
set_option maxRecDepth 100000 in
theorem v27n7 (u : Nat → B64) : bodyP Tryd.prog K7 gl0 [] [] 3000 Tryd.f84 0 [agD 16 u, .agg [.int .i64 3, .int .i64 4, .int .i64 9, .int .i64 14]] [] (retQ Tryd.prog Tryd.f84 0 (rt (agD 16 (put4 u 3 4 9 14)))) = (
(0 : Int) ≤ (3 : Int) ∧ (0 : Int) ≤ (4 : Int) ∧ (0 : Int) ≤ (3 : Int) ∧ (0 : Int) ≤ (14 : Int) ∧ (0 : Int) ≤ (3 : Int) ∧ (0 : Int) ≤ (0 : Int) ∧ (0 : Int) ≤ (14 : Int) ∧ (0 : Int) ≤ (9 : Int) ∧ (0 : Int) ≤ (14 : Int) ∧ (0 : Int) ≤ (9 : Int) ∧ (0 : Int) ≤ (4 : Int) ∧ (0 : Int) ≤ (9 : Int) ∧ (0 : Int) ≤ Int.ofNat 1 ∧ (0 : Int) ≤ (4 : Int) ∧ (0 : Int) ≤ (3 : Int) ∧ (0 : Int) ≤ (4 : Int) ∧ (0 : Int) ≤ (3 : Int) ∧ (0 : Int) ≤ (14 : Int) ∧ (0 : Int) ≤ (3 : Int) ∧ (0 : Int) ≤ Int.ofNat 2 ∧ (0 : Int) ≤ (14 : Int) ∧ (0 : Int) ≤ (9 : Int) ∧ (0 : Int) ≤ (14 : Int) ∧ (0 : Int) ≤ (9 : Int) ∧ (0 : Int) ≤ (4 : Int) ∧ (0 : Int) ≤ (9 : Int) ∧ (0 : Int) ≤ Int.ofNat 3 ∧ (0 : Int) ≤ (4 : Int) ∧ allRefl (put4 u 3 4 9 14) 0 16 : Prop) := by kernel_rfl
end Go.Sym

namespace Go.Sym
open Go.Proofs Go.Spec
set_option linter.unusedVariables false
theorem okK0 : COKs Tryd.prog gl0 K0 := COKs.none
theorem okK1 : COKs Tryd.prog gl0 K1 := okK0.exe [] 3000 _ (by kernel_rfl) (by kernel_rfl) (by kernel_rfl) (fun args w => by kernel_rfl)
theorem okK2 : COKs Tryd.prog gl0 K2 := okK1.add <| by
  refine ctrE (fn := Tryd.f92) [] 3000 (by kernel_rfl) (by kernel_rfl) okK1 (by kernel_rfl) (fun args w => by kernel_rfl) fun xs bs r hs ho => ?_
  obtain ⟨rfl, h2⟩ := spK_sel hs
  clear hs
  have hs := h2
  clear h2
  unfold g39 at hs
  split at hs
  · simp only [TL.sel, Option.some.injEq] at hs
    subst hs
    exact ⟨_, b39 _ _ _ _⟩
  · simp [TL.sel] at hs
theorem okK3 : COKs Tryd.prog gl0 K3 := okK2.add <| by
  refine ctrE (fn := Tryd.f77) [] 3000 (by kernel_rfl) (by kernel_rfl) okK2 (by kernel_rfl) (fun args w => by kernel_rfl) fun xs bs r hs ho => ?_
  obtain ⟨rfl, h2⟩ := spK_sel hs
  clear hs
  have hs := h2
  clear h2
  unfold g26 at hs
  split at hs
  · obtain ⟨f, e, hs⟩ := asW_sel hs
    simp only [TL.sel, Option.some.injEq] at hs
    subst hs
    rw [e]
    exact ⟨_, b26 _⟩
  · simp [TL.sel] at hs
theorem okK4 : COKs Tryd.prog gl0 K4 := okK3.add <| by
  refine ctrE (fn := Tryd.f76) [] 3000 (by kernel_rfl) (by kernel_rfl) okK3 (by kernel_rfl) (fun args w => by kernel_rfl) fun xs bs r hs ho => ?_
  obtain ⟨rfl, h2⟩ := spK_sel hs
  clear hs
  have hs := h2
  clear h2
  unfold g25 at hs
  split at hs
  · obtain ⟨k, e, hs⟩ := asB_sel hs
    obtain ⟨n, e2, hs⟩ := asB_sel hs
    simp only [TL.sel, Option.some.injEq] at hs
    subst hs
    rw [e, e2]
    exact ⟨_, b25 _ _ _⟩
  · simp [TL.sel] at hs
theorem okK5 : COKs Tryd.prog gl0 K5 := okK4.add <| by
  refine ctrE (fn := Tryd.f64) [] 3000 (by kernel_rfl) (by kernel_rfl) okK4 (by kernel_rfl) (fun args w => by kernel_rfl) fun xs bs r hs ho => ?_
  obtain ⟨rfl, h2⟩ := spK_sel hs
  clear hs
  have hs := h2
  clear h2
  unfold g13 at hs
  split at hs
  · obtain ⟨k, e, hs⟩ := asB_sel hs
    obtain ⟨n, e2, hs⟩ := asB_sel hs
    simp only [TL.sel, Option.some.injEq] at hs
    subst hs
    rw [e, e2]
    exact ⟨_, b13q _ _ _⟩
  · simp [TL.sel] at hs
theorem okK6 : COKs Tryd.prog gl0 K6 := okK5.exe [] 3000 _ (by kernel_rfl) (by kernel_rfl) (by kernel_rfl) (fun args w => by kernel_rfl)
theorem okK7 : COKs Tryd.prog gl0 K7 := okK6.exe [] 3000 _ (by kernel_rfl) (by kernel_rfl) (by kernel_rfl) (fun args w => by kernel_rfl)
theorem natI_eq {a : Int} {n : Nat} (h : natI a = some n) : a = (n : Int) := by
  cases a <;> simp [natI] at h
  subst h
  rfl
theorem b27n0 (u : Nat → B64) : Must (bodyP Tryd.prog K7 gl0 [] [] 3000 Tryd.f84 0 [agD 16 u, .agg [.int .i64 0, .int .i64 4, .int .i64 8, .int .i64 12]] [] (retQ Tryd.prog Tryd.f84 0 (rt (agD 16 (put4 u 0 4 8 12))))) := by
  constructor
  rw [v27n0]
  have hA : allRefl (put4 u 0 4 8 12) 0 16 := allRefl_true _ _ _
  generalize allRefl (put4 u 0 4 8 12) 0 16 = A at hA ⊢
  repeat refine And.intro (of_decide_eq_true (by kernel_rfl)) ?_
  exact hA
theorem b27n1 (u : Nat → B64) : Must (bodyP Tryd.prog K7 gl0 [] [] 3000 Tryd.f84 0 [agD 16 u, .agg [.int .i64 1, .int .i64 5, .int .i64 9, .int .i64 13]] [] (retQ Tryd.prog Tryd.f84 0 (rt (agD 16 (put4 u 1 5 9 13))))) := by
  constructor
  rw [v27n1]
  have hA : allRefl (put4 u 1 5 9 13) 0 16 := allRefl_true _ _ _
  generalize allRefl (put4 u 1 5 9 13) 0 16 = A at hA ⊢
  repeat refine And.intro (of_decide_eq_true (by kernel_rfl)) ?_
  exact hA
theorem b27n2 (u : Nat → B64) : Must (bodyP Tryd.prog K7 gl0 [] [] 3000 Tryd.f84 0 [agD 16 u, .agg [.int .i64 2, .int .i64 6, .int .i64 10, .int .i64 14]] [] (retQ Tryd.prog Tryd.f84 0 (rt (agD 16 (put4 u 2 6 10 14))))) := by
  constructor
  rw [v27n2]
  have hA : allRefl (put4 u 2 6 10 14) 0 16 := allRefl_true _ _ _
  generalize allRefl (put4 u 2 6 10 14) 0 16 = A at hA ⊢
  repeat refine And.intro (of_decide_eq_true (by kernel_rfl)) ?_
  exact hA
theorem b27n3 (u : Nat → B64) : Must (bodyP Tryd.prog K7 gl0 [] [] 3000 Tryd.f84 0 [agD 16 u, .agg [.int .i64 3, .int .i64 7, .int .i64 11, .int .i64 15]] [] (retQ Tryd.prog Tryd.f84 0 (rt (agD 16 (put4 u 3 7 11 15))))) := by
  constructor
  rw [v27n3]
  have hA : allRefl (put4 u 3 7 11 15) 0 16 := allRefl_true _ _ _
  generalize allRefl (put4 u 3 7 11 15) 0 16 = A at hA ⊢
  repeat refine And.intro (of_decide_eq_true (by kernel_rfl)) ?_
  exact hA
theorem b27n4 (u : Nat → B64) : Must (bodyP Tryd.prog K7 gl0 [] [] 3000 Tryd.f84 0 [agD 16 u, .agg [.int .i64 0, .int .i64 5, .int .i64 10, .int .i64 15]] [] (retQ Tryd.prog Tryd.f84 0 (rt (agD 16 (put4 u 0 5 10 15))))) := by
  constructor
  rw [v27n4]
  have hA : allRefl (put4 u 0 5 10 15) 0 16 := allRefl_true _ _ _
  generalize allRefl (put4 u 0 5 10 15) 0 16 = A at hA ⊢
  repeat refine And.intro (of_decide_eq_true (by kernel_rfl)) ?_
  exact hA
theorem b27n5 (u : Nat → B64) : Must (bodyP Tryd.prog K7 gl0 [] [] 3000 Tryd.f84 0 [agD 16 u, .agg [.int .i64 1, .int .i64 6, .int .i64 11, .int .i64 12]] [] (retQ Tryd.prog Tryd.f84 0 (rt (agD 16 (put4 u 1 6 11 12))))) := by
  constructor
  rw [v27n5]
  have hA : allRefl (put4 u 1 6 11 12) 0 16 := allRefl_true _ _ _
  generalize allRefl (put4 u 1 6 11 12) 0 16 = A at hA ⊢
  repeat refine And.intro (of_decide_eq_true (by kernel_rfl)) ?_
  exact hA
theorem b27n6 (u : Nat → B64) : Must (bodyP Tryd.prog K7 gl0 [] [] 3000 Tryd.f84 0 [agD 16 u, .agg [.int .i64 2, .int .i64 7, .int .i64 8, .int .i64 13]] [] (retQ Tryd.prog Tryd.f84 0 (rt (agD 16 (put4 u 2 7 8 13))))) := by
  constructor
  rw [v27n6]
  have hA : allRefl (put4 u 2 7 8 13) 0 16 := allRefl_true _ _ _
  generalize allRefl (put4 u 2 7 8 13) 0 16 = A at hA ⊢
  repeat refine And.intro (of_decide_eq_true (by kernel_rfl)) ?_
  exact hA
theorem b27n7 (u : Nat → B64) : Must (bodyP Tryd.prog K7 gl0 [] [] 3000 Tryd.f84 0 [agD 16 u, .agg [.int .i64 3, .int .i64 4, .int .i64 9, .int .i64 14]] [] (retQ Tryd.prog Tryd.f84 0 (rt (agD 16 (put4 u 3 4 9 14))))) := by
  constructor
  rw [v27n7]
  have hA : allRefl (put4 u 3 4 9 14) 0 16 := allRefl_true _ _ _
  generalize allRefl (put4 u 3 4 9 14) 0 16 = A at hA ⊢
  repeat refine And.intro (of_decide_eq_true (by kernel_rfl)) ?_
  exact hA
theorem b27 (u : Nat → B64) (a b c d : Nat) (h : (a, b, c, d) ∈ places) : Must (bodyP Tryd.prog K7 gl0 [] [] 3000 Tryd.f84 0 [agD 16 u, .agg [.int .i64 (a : Nat), .int .i64 (b : Nat), .int .i64 (c : Nat), .int .i64 (d : Nat)]] [] (retQ Tryd.prog Tryd.f84 0 (rt (agD 16 (put4 u a b c d))))) := by
  simp only [places, List.mem_cons, List.not_mem_nil, or_false, Prod.mk.injEq] at h
  rcases h with h | h | h | h | h | h | h | h <;> obtain ⟨rfl, rfl, rfl, rfl⟩ := h
  · exact b27n0 u
  · exact b27n1 u
  · exact b27n2 u
  · exact b27n3 u
  · exact b27n4 u
  · exact b27n5 u
  · exact b27n6 u
  · exact b27n7 u
theorem okK8 : COKs Tryd.prog gl0 K8 := okK7.add <| by
  refine ctrE (fn := Tryd.f84) [] 3000 (by kernel_rfl) (by kernel_rfl) okK7 (by kernel_rfl) (fun args w => by kernel_rfl) fun xs bs r hs ho => ?_
  obtain ⟨rfl, h2⟩ := spK_sel hs
  clear hs
  have hs := h2
  clear h2
  unfold g27 at hs
  split at hs
  · obtain ⟨u, e, hs⟩ := asD_sel hs
    split at hs
    · rename_i ha hb hc hd
      split at hs
      · rename_i hp
        simp only [TL.sel, Option.some.injEq] at hs
        subst hs
        rw [e, natI_eq ha, natI_eq hb, natI_eq hc, natI_eq hd]
        exact ⟨_, b27 _ _ _ _ _ (of_decide_eq_true hp)⟩
      · simp [TL.sel] at hs
    · simp [TL.sel] at hs
  · simp [TL.sel] at hs
theorem okK9 : COKs Tryd.prog gl0 K9 := okK8.add <| by
  refine ctrE (fn := Tryd.f68) [] 6000 (by kernel_rfl) (by kernel_rfl) okK8 (by kernel_rfl) (fun args w => by kernel_rfl) fun xs bs r hs ho => ?_
  obtain ⟨rfl, h2⟩ := spK_sel hs
  clear hs
  have hs := h2
  clear h2
  unfold g14 at hs
  split at hs
  · obtain ⟨k, e, hs⟩ := asB_sel hs
    obtain ⟨n, e2, hs⟩ := asB_sel hs
    simp only [TL.sel, Option.some.injEq] at hs
    subst hs
    rw [e, e2]
    have b := b14q k (by assumption) n
    rw [aggB_congr (fun i hi => ref64_eq k _ n i hi)] at b
    exact ⟨_, b⟩
  · simp [TL.sel] at hs
theorem sp15_sel {xs : List AV} {bs : List ABlk} {r : RL} (h : (sp15.G xs bs).sel = some r) : bs = [] ∧ (g15 xs).sel = some r := by
  simp only [sp15] at h
  split at h
  · exact ⟨rfl, h⟩
  · simp [TL.sel] at h
theorem okK10 : COKs Tryd.prog gl0 K10 := okK9.add <| by
  refine ctrE (fn := Tryd.f50) [] 3000 (by kernel_rfl) (by kernel_rfl) (okK9.withSym sym15) (by kernel_rfl) (fun args w => by kernel_rfl) fun xs bs r hs ho => ?_
  obtain ⟨rfl, h2⟩ := sp15_sel hs
  clear hs
  have hs := h2
  clear h2
  unfold g15 at hs
  split at hs
  · obtain ⟨k, e, hs⟩ := asB_sel hs
    obtain ⟨n, e2, hs⟩ := asB_sel hs
    simp only [TL.sel, Option.some.injEq] at hs
    subst hs
    rw [e, e2]
    exact ⟨_, b15q _ _ _ _ (obsT_one.1 ho)⟩
  · simp [TL.sel] at hs
theorem okK11 : COKs Tryd.prog gl0 K11 := okK10.add <| by
  refine ctrE (fn := Tryd.f52) [] 3000 (by kernel_rfl) (by kernel_rfl) (okK9.withSym sym16) (by kernel_rfl) (fun args w => by kernel_rfl) fun xs bs r hs ho => ?_
  obtain ⟨rfl, h2⟩ := sp15_sel hs
  clear hs
  have hs := h2
  clear h2
  unfold g15 at hs
  split at hs
  · obtain ⟨k, e, hs⟩ := asB_sel hs
    obtain ⟨n, e2, hs⟩ := asB_sel hs
    simp only [TL.sel, Option.some.injEq] at hs
    subst hs
    rw [e, e2]
    exact ⟨_, b16q _ _ _ _ (obsT_one.1 ho)⟩
  · simp [TL.sel] at hs
end Go.Sym
