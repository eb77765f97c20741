/- Records out of bytes that come in pieces; records one behind the other. -/
import Derived.Test.YtiebadbcdheldaaDoorRelA
import Derived.Test.YtiebadbcdheldaaDoorChaA
import Derived.Test.YtiebadbcdheldaaDoorSymC
import Derived.Test.YtiebadbcdheldaaDoorShaA
import Derived.Test.YtiebadbcdheldaaDoorRecB
import Derived.Test.YtiebadbcdheldaaDoorHkdf
namespace Go.Sym
open Go.Proofs Go.Spec
set_option linter.unusedVariables false
set_option maxRecDepth 100000 in
theorem vtu (key : F8) (n : Int) (m : Nat) : bodyP Tryd.prog V5 gl0 [] [(6, lsTu key n m)] 3000 Tryd.f6 0 [aggB 32 key, .int .i64 n] [] (retQ Tryd.prog Tryd.f6 0 ⟨[], .bool true, [], []⟩) = (
(∃ (x : TuS), tuI m x ∧
 n = n ∧
 0 = 0 ∧
 0 = 0 ∧
 0 = 0 ∧
 (↑x.k : Int) = (0 : Int) ∧
 (↑x.i : Int) = (0 : Int) ∧
 allP (fun (i : Nat) => trS key x.e i = key i) 0 32 (allP (fun (i : Nat) => trS key x.e i = key i) 0 32 ((↑x.e : Int) = Int.ofNat 0 ∧
 (↑x.k : Int) = (0 : Int) ∧
 (↑(c8u x.k) : Int) = (0 : Int) ∧
 True))) ∧
 ∀ (x : TuS), let x1 := recS (fun (i : Nat) => (rgA (dkB (rg 32 (nxB (rg 32 (trS key x.e))))) 0 32 (rg 12 (diB (rg 32 (nxB (rg 32 (trS key x.e))))))).getD i (0 : BitVec 8)) (fun (i : Nat) => (rgA (dkB (rg 32 (nxB (rg 32 (trS key x.e))))) 0 32 (rg 12 (diB (rg 32 (nxB (rg 32 (trS key x.e))))))).getD (32 + i) (0 : BitVec 8)) (BitVec.ofNat 64 0) (23 : Int) (0 : Int) [BitVec.ofInt 8 (↑x.i : Int)]; let x2 := recS (fun (i : Nat) => (rgA (dkB (rg 32 (trS key x.e))) 0 32 (rg 12 (diB (rg 32 (trS key x.e))))).getD i (0 : BitVec 8)) (fun (i : Nat) => (rgA (dkB (rg 32 (trS key x.e))) 0 32 (rg 12 (diB (rg 32 (trS key x.e))))).getD (32 + i) (0 : BitVec 8)) (BitVec.ofInt 64 (↑x.k : Int)) (23 : Int) (0 : Int) [BitVec.ofInt 8 (↑x.i : Int)]; let x3 := rgA (dkB (rg 32 (nxB (rg 32 (trS key x.e))))) 0 32 (rg 12 (diB (rg 32 (nxB (rg 32 (trS key x.e)))))); let x4 := rgA (dkB (rg 32 (trS key x.e))) 0 32 (rg 12 (diB (rg 32 (trS key x.e)))); let x5 := List.take (List.length x2 - 5) (List.drop 5 x2); let x6 := List.take (List.length x1 - 5) (List.drop 5 x1); let x7 := Max.max (↑(c8u x.k) : Int) (((↑x.k : Int) + Min.min (1 : Int) ((64 : Int) - (↑x.k : Int)) + (7 : Int)) / (8 : Int) * (8 : Int)); let x8 := fun (i : Nat) => x3.getD (32 + i) (0 : BitVec 8); let x9 := fun (i : Nat) => x4.getD (32 + i) (0 : BitVec 8); let x10 := fun (i : Nat) => x3.getD i (0 : BitVec 8); let x11 := fun (i : Nat) => x4.getD i (0 : BitVec 8); let x12 := gR (↑x.e : Int) (↑x.k : Int) (gW (↑x.k : Int) (↑(c8u x.k) : Int) (1 : Int)) ∧
 1 = [BitVec.ofInt 8 (↑x.i : Int)].length ∧
 Bool.true = Bool.false ∧
 True; tuI m x → @Bool.rec (fun _ => Prop) (Bool.true = Bool.true ∧
 True) (gR (↑x.e : Int) (↑x.k : Int) (↑(c8u x.k) : Int) ∧
 @Bool.rec (fun _ => Prop) (gR (↑x.e : Int) (↑x.k : Int) (↑(c8u x.k) : Int) ∧
 ((0 : Int) ≤ (1 : Int) ∧
 (1 : Int) ≤ (64 : Int)) ∧
 gR (↑x.e : Int) (↑x.k : Int) (↑(c8u x.k) : Int) ∧
 (↑(c8u x.k) : Int) ≤ x7 ∧
 x7 ≤ (64 : Int) ∧
 x7 % (8 : Int) = (0 : Int) ∧
 @Bool.rec (fun _ => Prop) (@Bool.rec (fun _ => Prop) (gR (↑x.e : Int) (↑x.k : Int) (gW (↑x.k : Int) (↑(c8u x.k) : Int) (1 : Int)) ∧
 1 = [BitVec.ofInt 8 (↑x.i : Int)].length ∧
 @Bool.rec (fun _ => Prop) (Bool.true = Bool.false ∧
 True) (@Bool.rec (fun _ => Prop) (Bool.true = Bool.false ∧
 True) (@Bool.rec (fun _ => Prop) (5 ≤ List.length x2 ∧
 @Bool.rec (fun _ => Prop) (5 + (List.length x2 - 5) ≤ List.length x2 ∧
 x5.length < 549755813888 ∧
 Bool.true = Bool.false ∧
 True) (5 + (List.length x2 - 5) ≤ List.length x2 ∧
 x5.length < 549755813888 ∧
 @Bool.rec (fun _ => Prop) (Bool.true = Bool.false ∧
 True) (@Bool.rec (fun _ => Prop) (Bool.true = Bool.false ∧
 True) (0 < trimN (BitVec.ofNat 8 0) (opM x11 x9 (BitVec.ofInt 64 (↑x.k : Int)) x5) - 1 ∧
 0 < List.length (opM x11 x9 (BitVec.ofInt 64 (↑x.k : Int)) x5) ∧
 @Bool.rec (fun _ => Prop) (∃ (y : TuS), m - y.i < m - x.i ∧
 tuI m y ∧
 n = n ∧
 0 = 0 ∧
 0 = 0 ∧
 0 = 0 ∧
 (↑y.k : Int) = IntKind.i64.wrap ((↑x.k : Int) + (1 : Int)) ∧
 (↑y.i : Int) = IntKind.i64.wrap ((↑x.i : Int) + (1 : Int)) ∧
 allP (fun (i : Nat) => trS key y.e i = trS key x.e i) 0 32 (allP (fun (i : Nat) => trS key y.e i = trS key x.e i) 0 32 ((↑y.e : Int) = (↑x.e : Int) ∧
 (↑y.k : Int) = (↑x.k : Int) + (1 : Int) ∧
 (↑(c8u y.k) : Int) = x7 ∧
 True))) (Bool.true = Bool.false ∧
 True) !decide (List.getD (opM x11 x9 (BitVec.ofInt 64 (↑x.k : Int)) x5) 0 (0 : BitVec 8) = BitVec.ofInt 8 (↑x.i : Int))) !!decide ((↑(trimN (BitVec.ofNat 8 0) (opM x11 x9 (BitVec.ofInt 64 (↑x.k : Int)) x5) - 1) : Int) = (1 : Int))) !!decide (lastT (opM x11 x9 (BitVec.ofInt 64 (↑x.k : Int)) x5) = (23 : Int))) (decide (recE x11 x9 (BitVec.ofInt 64 (↑x.k : Int)) x5 = (0 : Int)))) (5 ≤ List.length x2 ∧
 @Bool.rec (fun _ => Prop) (5 + (List.length x2 - 5) ≤ List.length x2 ∧
 x5.length < 549755813888 ∧
 Bool.true = Bool.false ∧
 True) (5 + (List.length x2 - 5) ≤ List.length x2 ∧
 x5.length < 549755813888 ∧
 @Bool.rec (fun _ => Prop) (Bool.true = Bool.false ∧
 True) (@Bool.rec (fun _ => Prop) (Bool.true = Bool.false ∧
 True) (0 < trimN (BitVec.ofNat 8 0) (opM x10 x8 (BitVec.ofNat 64 0) x5) - 1 ∧
 0 < List.length (opM x10 x8 (BitVec.ofNat 64 0) x5) ∧
 @Bool.rec (fun _ => Prop) (∃ (y : TuS), m - y.i < m - x.i ∧
 tuI m y ∧
 n = n ∧
 0 = 0 ∧
 0 = 0 ∧
 0 = 0 ∧
 (↑y.k : Int) = Int.ofNat 1 ∧
 (↑y.i : Int) = IntKind.i64.wrap ((↑x.i : Int) + (1 : Int)) ∧
 allP (fun (i : Nat) => trS key y.e i = trS key x.e i) 0 32 (allP (fun (i : Nat) => trS key y.e i = nxB (rg 32 (trS key x.e)) i) 0 32 ((↑y.e : Int) = (↑x.e : Int) ∧
 (↑y.k : Int) = (↑x.k : Int) + (1 : Int) ∧
 (↑(c8u y.k) : Int) = x7 ∧
 True))) (Bool.true = Bool.false ∧
 True) !decide (List.getD (opM x10 x8 (BitVec.ofNat 64 0) x5) 0 (0 : BitVec 8) = BitVec.ofInt 8 (↑x.i : Int))) !!decide ((↑(trimN (BitVec.ofNat 8 0) (opM x10 x8 (BitVec.ofNat 64 0) x5) - 1) : Int) = (1 : Int))) !!decide (lastT (opM x10 x8 (BitVec.ofNat 64 0) x5) = (23 : Int))) (decide (recE x10 x8 (BitVec.ofNat 64 0) x5 = (0 : Int)))) (decide ((↑x.k : Int) = (64 : Int)))) !!decide ((↑x.k : Int) = (↑x.i : Int).tmod (64 : Int))) !!decide ((↑x.e : Int) = IntKind.i64.wrap ((↑x.i : Int).tdiv (64 : Int)))) x12 (decide ((↑x.k : Int) = x7))) x12 (decide ((↑x.k : Int) = (64 : Int)))) (gR (↑x.e : Int) (↑x.k : Int) (↑(c8u x.k) : Int) ∧
 (↑x.e : Int) < (1000000 : Int) ∧
 gR ((↑x.e : Int) + (1 : Int)) (0 : Int) (0 : Int) ∧
 ((0 : Int) ≤ (1 : Int) ∧
 (1 : Int) ≤ (64 : Int)) ∧
 gR ((↑x.e : Int) + (1 : Int)) (0 : Int) (0 : Int) ∧
 (0 : Int) ≤ Int.ofNat 8 ∧
 Int.ofNat 8 ≤ (64 : Int) ∧
 Int.ofNat 0 = (0 : Int) ∧
 gR ((↑x.e : Int) + (1 : Int)) (0 : Int) (gW (0 : Int) (0 : Int) (1 : Int)) ∧
 1 = [BitVec.ofInt 8 (↑x.i : Int)].length ∧
 @Bool.rec (fun _ => Prop) (Bool.true = Bool.false ∧
 True) (@Bool.rec (fun _ => Prop) (Bool.true = Bool.false ∧
 True) (@Bool.rec (fun _ => Prop) (5 ≤ List.length x1 ∧
 @Bool.rec (fun _ => Prop) (5 + (List.length x1 - 5) ≤ List.length x1 ∧
 x6.length < 549755813888 ∧
 Bool.true = Bool.false ∧
 True) (5 + (List.length x1 - 5) ≤ List.length x1 ∧
 x6.length < 549755813888 ∧
 @Bool.rec (fun _ => Prop) (Bool.true = Bool.false ∧
 True) (@Bool.rec (fun _ => Prop) (Bool.true = Bool.false ∧
 True) (0 < trimN (BitVec.ofNat 8 0) (opM x11 x9 (BitVec.ofInt 64 (↑x.k : Int)) x6) - 1 ∧
 0 < List.length (opM x11 x9 (BitVec.ofInt 64 (↑x.k : Int)) x6) ∧
 @Bool.rec (fun _ => Prop) (∃ (y : TuS), m - y.i < m - x.i ∧
 tuI m y ∧
 n = n ∧
 0 = 0 ∧
 0 = 0 ∧
 0 = 0 ∧
 (↑y.k : Int) = IntKind.i64.wrap ((↑x.k : Int) + (1 : Int)) ∧
 (↑y.i : Int) = IntKind.i64.wrap ((↑x.i : Int) + (1 : Int)) ∧
 allP (fun (i : Nat) => trS key y.e i = nxB (rg 32 (trS key x.e)) i) 0 32 (allP (fun (i : Nat) => trS key y.e i = trS key x.e i) 0 32 ((↑y.e : Int) = (↑x.e : Int) + (1 : Int) ∧
 (↑y.k : Int) = Int.ofNat 1 ∧
 (↑(c8u y.k) : Int) = Int.ofNat 8 ∧
 True))) (Bool.true = Bool.false ∧
 True) !decide (List.getD (opM x11 x9 (BitVec.ofInt 64 (↑x.k : Int)) x6) 0 (0 : BitVec 8) = BitVec.ofInt 8 (↑x.i : Int))) !!decide ((↑(trimN (BitVec.ofNat 8 0) (opM x11 x9 (BitVec.ofInt 64 (↑x.k : Int)) x6) - 1) : Int) = (1 : Int))) !!decide (lastT (opM x11 x9 (BitVec.ofInt 64 (↑x.k : Int)) x6) = (23 : Int))) (decide (recE x11 x9 (BitVec.ofInt 64 (↑x.k : Int)) x6 = (0 : Int)))) (5 ≤ List.length x1 ∧
 @Bool.rec (fun _ => Prop) (5 + (List.length x1 - 5) ≤ List.length x1 ∧
 x6.length < 549755813888 ∧
 Bool.true = Bool.false ∧
 True) (5 + (List.length x1 - 5) ≤ List.length x1 ∧
 x6.length < 549755813888 ∧
 @Bool.rec (fun _ => Prop) (Bool.true = Bool.false ∧
 True) (@Bool.rec (fun _ => Prop) (Bool.true = Bool.false ∧
 True) (0 < trimN (BitVec.ofNat 8 0) (opM x10 x8 (BitVec.ofNat 64 0) x6) - 1 ∧
 0 < List.length (opM x10 x8 (BitVec.ofNat 64 0) x6) ∧
 @Bool.rec (fun _ => Prop) (∃ (y : TuS), m - y.i < m - x.i ∧
 tuI m y ∧
 n = n ∧
 0 = 0 ∧
 0 = 0 ∧
 0 = 0 ∧
 (↑y.k : Int) = Int.ofNat 1 ∧
 (↑y.i : Int) = IntKind.i64.wrap ((↑x.i : Int) + (1 : Int)) ∧
 allP (fun (i : Nat) => trS key y.e i = nxB (rg 32 (trS key x.e)) i) 0 32 (allP (fun (i : Nat) => trS key y.e i = nxB (rg 32 (trS key x.e)) i) 0 32 ((↑y.e : Int) = (↑x.e : Int) + (1 : Int) ∧
 (↑y.k : Int) = Int.ofNat 1 ∧
 (↑(c8u y.k) : Int) = Int.ofNat 8 ∧
 True))) (Bool.true = Bool.false ∧
 True) !decide (List.getD (opM x10 x8 (BitVec.ofNat 64 0) x6) 0 (0 : BitVec 8) = BitVec.ofInt 8 (↑x.i : Int))) !!decide ((↑(trimN (BitVec.ofNat 8 0) (opM x10 x8 (BitVec.ofNat 64 0) x6) - 1) : Int) = (1 : Int))) !!decide (lastT (opM x10 x8 (BitVec.ofNat 64 0) x6) = (23 : Int))) (decide (recE x10 x8 (BitVec.ofNat 64 0) x6 = (0 : Int)))) (decide ((↑x.k : Int) = (64 : Int)))) !!decide ((0 : Int) = (↑x.i : Int).tmod (64 : Int))) !!decide ((↑x.e : Int) + (1 : Int) = IntKind.i64.wrap ((↑x.i : Int).tdiv (64 : Int)))) (decide (IntKind.i64.wrap ((64 : Int) - (↑x.k : Int)) = (0 : Int)))) (decide ((↑x.i : Int) < IntKind.i64.wrap (↑(BitVec.ofInt 64 n % BitVec.ofNat 64 200).toNat : Int))) : Prop) := by kernel_rfl
end Go.Sym

namespace Go.Sym
open Go.Proofs Go.Spec
set_option linter.unusedVariables false
theorem nnf {p : Prop} [Decidable p] (h : (!!decide p) = false) : ¬ p := by
  intro hp; rw [decide_eq_true hp] at h; cases h
theorem ntf {p : Prop} [Decidable p] (h : (!decide p) = true) : ¬ p := by
  intro hp; rw [decide_eq_true hp] at h; cases h
/-- A record of one byte, opened again. -/
theorem one_open (K I : Nat → BitVec 8) (s : BitVec 64) (c : BitVec 8) :
    5 ≤ (recS K I s 23 0 [c]).length ∧ (List.take ((recS K I s 23 0 [c]).length - 5) (List.drop 5 (recS K I s 23 0 [c]))).length < 549755813888 ∧
    recE K I s (List.take ((recS K I s 23 0 [c]).length - 5) (List.drop 5 (recS K I s 23 0 [c]))) = 0 ∧
    opM K I s (List.take ((recS K I s 23 0 [c]).length - 5) (List.drop 5 (recS K I s 23 0 [c]))) = recI 23 0 [c] ∧
    lastT (recI 23 0 [c]) = 23 ∧ trimN (BitVec.ofNat 8 0) (recI 23 0 [c]) - 1 = 1 := by
  have hS : (recS K I s 23 0 [c]).length = 1 + 22 + 0 := recS_length K I s 23 0 [c]
  have hB : List.take ((recS K I s 23 0 [c]).length - 5) (List.drop 5 (recS K I s 23 0 [c])) = recB K I s 23 0 [c] := recS_cut _ _ _ _ _ _ _ (by rw [recS_len]; omega)
  have hb : recBad 23 0 [c].length = false := rfl
  have ht : trimN (BitVec.ofNat 8 0) (recI 23 0 [c]) = [c].length + 1 := trim_recI [c] (by decide) (by decide)
  have hl : (recB K I s 23 0 [c]).length = 18 := by
    have := recS_len K I s 23 0 [c]
    omega
  rw [hB, ht]
  exact ⟨by omega, by omega, recE_recB K I s hb, opM_recB K I s 23 0 [c], lastT_recI [c] (by decide) (by decide), rfl⟩
theorem c8u_ok (k : Nat) (h : k ≤ 64) : k ≤ c8u k ∧ c8u k ≤ 64 ∧ c8u k % 8 = 0 ∧ c8u k < k + 8 := by
  unfold c8u
  omega
set_option maxRecDepth 100000 in
theorem btu (key : Nat → BitVec 8) (n : Int) (m : Nat) (hm : IntKind.i64.wrap (↑(BitVec.ofInt 64 n % BitVec.ofNat 64 200).toNat : Int) = (m : Int)) (h200 : m < 200) : Must (bodyP Tryd.prog V5 gl0 [] [(6, lsTu key n m)] 3000 Tryd.f6 0 [aggB 32 key, .int .i64 n] [] (retQ Tryd.prog Tryd.f6 0 ⟨[], .bool true, [], []⟩)) := by
  constructor
  rw [vtu, hm]
  refine ⟨⟨⟨0, 0, 0⟩, ⟨Nat.zero_le _, rfl, Nat.zero_le _, .inr rfl⟩, rfl, rfl, rfl, rfl, rfl, rfl, allP_of _ _ (fun j _ _ => rfl) (allP_of _ _ (fun j _ _ => rfl) ⟨rfl, rfl, rfl, trivial⟩)⟩, ?_⟩
  intro x x1 x2 x3 x4 x5 x6 x7 x8 x9 x10 x11 x12 hI
  obtain ⟨i, e, k⟩ := x
  have im : i ≤ m := hI.im
  have ik : i = 64 * e + k := hI.ik
  have k1 : k ≤ 64 := hI.k1
  have k0 : 0 < k ∨ i = 0 := hI.k0
  obtain ⟨a1, a2, a3, a4, a5, a6⟩ := one_open x10 x8 (BitVec.ofNat 64 0) (BitVec.ofInt 8 (i : Int))
  obtain ⟨b1, b2, b3, b4, b5, b6⟩ := one_open x11 x9 (BitVec.ofInt 64 (k : Int)) (BitVec.ofInt 8 (i : Int))
  have a1 : 5 ≤ x1.length := a1
  have a2 : x6.length < 549755813888 := a2
  have a3 : recE x10 x8 (BitVec.ofNat 64 0) x6 = 0 := a3
  have a4 : opM x10 x8 (BitVec.ofNat 64 0) x6 = recI 23 0 [BitVec.ofInt 8 (i : Int)] := a4
  have b1 : 5 ≤ x2.length := b1
  have b2 : x5.length < 549755813888 := b2
  have b3 : recE x11 x9 (BitVec.ofInt 64 (k : Int)) x5 = 0 := b3
  have b4 : opM x11 x9 (BitVec.ofInt 64 (k : Int)) x5 = recI 23 0 [BitVec.ofInt 8 (i : Int)] := b4
  have hx7 : x7 = gW k (c8u k) 1 := rfl
  have hlen : (recI 23 0 [BitVec.ofInt 8 (i : Int)]).length = 2 := rfl
  have hget : List.getD (recI 23 0 [BitVec.ofInt 8 (i : Int)]) 0 (0 : BitVec 8) = BitVec.ofInt 8 (i : Int) := rfl
  generalize recI 23 0 [BitVec.ofInt 8 (i : Int)] = r at *
  clear_value x1 x2 x5 x6 x8 x9 x10 x11 x12
  obtain ⟨u1, u2, u3, u4⟩ := c8u_ok k k1
  have hR : gR e k (c8u k) := .of (by omega) (by omega) (by omega) (by omega) (by omega)
  refine brec (fun c1 => ?_) (fun _ => ⟨rfl, trivial⟩)
  have c1 : (i : Int) < (m : Int) := dt' c1
  have c1' : i < m := by omega
  have w1 : ((i + 1 : Nat) : Int) = IntKind.i64.wrap ((i : Int) + 1) := (wrap_nat _ (by omega) (by omega)).symm
  have w2 : ((k + 1 : Nat) : Int) = IntKind.i64.wrap ((k : Int) + 1) := (wrap_nat _ (by omega) (by omega)).symm
  have wd : IntKind.i64.wrap ((i : Int).tdiv 64) = ((i / 64 : Nat) : Int) := wrap_nat _ (by rw [Int.tdiv_eq_ediv_of_nonneg (by omega)]; omega) (by omega)
  have wm : (i : Int).tmod 64 = ((i % 64 : Nat) : Int) := by rw [Int.tmod_eq_emod_of_nonneg (by omega)]; omega
  have w64 : IntKind.i64.wrap ((64 : Int) - (k : Int)) = 64 - k := wrap_i64 (by omega) (by omega)
  refine ⟨hR, ?_⟩
  refine brec (fun c2 => ?_) (fun c2 => ?_)
  · have c2 : IntKind.i64.wrap ((64 : Int) - (k : Int)) = 0 := dt' c2
    have hk : k = 64 := by omega
    have g0 : gR ((e : Int) + 1) 0 0 := .of (by omega) (by omega) (by omega) (by omega) rfl
    refine ⟨hR, (by show (e : Int) < 1000000; omega), g0, ⟨by omega, by omega⟩, g0, by decide, by decide, rfl, .of (by omega) (by decide) (by decide) (by decide) (by decide), rfl, ?_⟩
    refine brec (fun _ => ?_) (fun h => absurd (show (e : Int) + 1 = IntKind.i64.wrap ((i : Int).tdiv 64) by rw [wd]; omega) (nnf h))
    refine brec (fun _ => ?_) (fun h => absurd (show (0 : Int) = (i : Int).tmod 64 by rw [wm]; omega) (nnf h))
    refine brec (fun _ => ?_) (fun h => absurd (show (k : Int) = 64 by omega) (df' h))
    refine ⟨a1, ?_⟩
    refine brec (fun _ => ?_) (fun h => absurd a3 (df' h))
    refine ⟨by omega, a2, ?_⟩
    rw [a4]
    refine brec (fun _ => ?_) (fun h => absurd a5 (nnf h))
    refine brec (fun _ => ?_) (fun h => absurd (show ((trimN (BitVec.ofNat 8 0) r - 1 : Nat) : Int) = 1 by rw [a6]; rfl) (nnf h))
    refine ⟨by rw [a6]; exact Nat.one_pos, by rw [hlen]; exact Nat.two_pos, ?_⟩
    refine brec (fun h => absurd hget (ntf h)) (fun _ => ?_)
    refine ⟨⟨i + 1, e + 1, 1⟩, by show m - (i + 1) < m - i; omega, ⟨?_, ?_, ?_, ?_⟩, rfl, rfl, rfl, rfl, rfl, w1, allP_of _ _ (fun j _ _ => rfl) (allP_of _ _ (fun j _ _ => rfl) ⟨rfl, rfl, (by show ((c8u 1 : Nat) : Int) = Int.ofNat 8; decide), trivial⟩)⟩
    · show i + 1 ≤ m; omega
    · show i + 1 = 64 * (e + 1) + 1; omega
    · show 1 ≤ 64; omega
    · exact .inl Nat.one_pos
  · have c2 : ¬ IntKind.i64.wrap ((64 : Int) - (k : Int)) = 0 := df' c2
    have hk : k < 64 := by omega
    obtain ⟨v1, v2, v3, v4⟩ := c8u_ok (k + 1) (by omega)
    have h7 : x7 = ((c8u (k + 1) : Nat) : Int) := by
      rw [hx7]
      unfold gW c8u
      omega
    have hR7 : gR e k (gW k (c8u k) 1) := by
      rw [← hx7, h7]
      exact .of (by omega) (by omega) (by omega) (by omega) (by omega)
    clear_value x7
    subst h7
    refine ⟨hR, ⟨by omega, by omega⟩, hR, (by show ((c8u k : Nat) : Int) ≤ ((c8u (k + 1) : Nat) : Int); omega), by omega, by omega, ?_⟩
    refine brec (fun h => absurd (dt' h : (k : Int) = 64) (by omega)) (fun _ => ?_)
    refine brec (fun h => absurd (dt' h : (k : Int) = ((c8u (k + 1) : Nat) : Int)) (by omega)) (fun _ => ?_)
    refine ⟨hR7, rfl, ?_⟩
    refine brec (fun _ => ?_) (fun h => absurd (show (e : Int) = IntKind.i64.wrap ((i : Int).tdiv 64) by rw [wd]; omega) (nnf h))
    refine brec (fun _ => ?_) (fun h => absurd (show (k : Int) = (i : Int).tmod 64 by rw [wm]; omega) (nnf h))
    refine brec (fun h => absurd (dt' h : (k : Int) = 64) (by omega)) (fun _ => ?_)
    refine ⟨b1, ?_⟩
    refine brec (fun _ => ?_) (fun h => absurd b3 (df' h))
    refine ⟨by omega, b2, ?_⟩
    rw [b4]
    refine brec (fun _ => ?_) (fun h => absurd b5 (nnf h))
    refine brec (fun _ => ?_) (fun h => absurd (show ((trimN (BitVec.ofNat 8 0) r - 1 : Nat) : Int) = 1 by rw [b6]; rfl) (nnf h))
    refine ⟨by rw [b6]; exact Nat.one_pos, by rw [hlen]; exact Nat.two_pos, ?_⟩
    refine brec (fun h => absurd hget (ntf h)) (fun _ => ?_)
    refine ⟨⟨i + 1, e, k + 1⟩, by show m - (i + 1) < m - i; omega, ⟨?_, ?_, ?_, ?_⟩, rfl, rfl, rfl, rfl, w2, w1, allP_of _ _ (fun j _ _ => rfl) (allP_of _ _ (fun j _ _ => rfl) ⟨rfl, rfl, rfl, trivial⟩)⟩
    · show i + 1 ≤ m; omega
    · show i + 1 = 64 * e + (k + 1); omega
    · show k + 1 ≤ 64; omega
    · exact .inl (Nat.succ_pos _)
end Go.Sym

namespace Go.Spec
/-- A number out of bytes, the highest first. -/
def beN (l : By) : Nat := l.foldl (fun n b => n * 256 + b.toNat) 0
/-- What a reader of L, at x, with the error e, tells of m bytes: the error; where it is then; the bytes. -/
def rdE (L : By) (x : Nat) (e m : Int) : Int := if e ≠ 0 then e else if m < 0 then 3 else if ((L.length - x : Nat) : Int) < m then 2 else 0
def rdX (L : By) (x : Nat) (e m : Int) : Nat := if rdE L x e m = 0 then x + m.toNat else x
def rdB (L : By) (x : Nat) (e m : Int) : By := if rdE L x e m = 0 then (L.drop x).take m.toNat else []
/-- Of a number of so many bytes. -/
def uiE (L : By) (x : Nat) (e w : Int) : Int := if e ≠ 0 then e else if w < 1 ∨ 4 < w then 3 else rdE L x 0 w
def uiX (L : By) (x : Nat) (e w : Int) : Nat := if uiE L x e w = 0 then x + w.toNat else x
def uiV (L : By) (x : Nat) (e w : Int) : Nat := if uiE L x e w = 0 then beN ((L.drop x).take w.toNat) else 0
/-- Of a vector. -/
def veE (L : By) (x : Nat) (e w a z : Int) : Int :=
  if rdE L (uiX L x e w) (uiE L x e w) (uiV L x e w) ≠ 0 then rdE L (uiX L x e w) (uiE L x e w) (uiV L x e w)
  else if (uiV L x e w : Int) < a ∨ z < (uiV L x e w : Int) then 3 else 0
def veX (L : By) (x : Nat) (e w : Int) : Nat := rdX L (uiX L x e w) (uiE L x e w) (uiV L x e w)
def veB (L : By) (x : Nat) (e w a z : Int) : By := if veE L x e w a z = 0 then rdB L (uiX L x e w) (uiE L x e w) (uiV L x e w) else []
end Go.Spec
namespace Go.Sym
open Go.Proofs Go.Spec
set_option linter.unusedVariables false
/-- A reader, as it lies in memory. -/
def rdC (x n : Nat) (e : Int) : ABlk := ⟨.cells [.slice 1 x 1 n .ox .unk, .int .i64 e], true, 0⟩
def rdL (L : By) : ABlk := ⟨.bytes L, true, 1⟩
def reSp (na : Nat) (G : List AV → List ABlk → TL) : Spec := ⟨List.replicate na .kp, fun xs h => reachX h 200 (namesL xs) [], kinds, G⟩
/-- What clones bytes. -/
def clA (l : By) : RL := ⟨[l.length < 1099511627776], .slice 0 0 1 l.length .ow .unk, [], [⟨.bytes l, true, 1⟩]⟩
noncomputable def Qz0 : Ctx := .none []
theorem okQz0 : COKs Tryd.prog gl0 Qz0 := COKs.none
end Go.Sym

namespace Go.Sym
open Go.Proofs Go.Spec
set_option linter.unusedVariables false
set_option maxRecDepth 100000 in
theorem vq72 (p b : Bool) (l M : By) (L : Nat) : bodyP Tryd.prog Qz0 gl0 [] [] 3000 Tryd.f42 0 [.rb p l (.is b)] [] (retQ Tryd.prog Tryd.f42 0 ⟨[], .slice 0 0 1 L .ow .unk, [], [⟨.bytes M, true, 1⟩]⟩) = (
@Bool.rec (fun _ => Prop) (0 = 0 ∧ roomFor 0 (List.length l) 1 ∧ 0 = 0 ∧ 0 = 0 ∧ 0 = 0 ∧ L = 0 + List.length l ∧ M = [] ++ l ∧ True) (L = 0 ∧ M = [] ∧ True) b : Prop) := by kernel_rfl
end Go.Sym

set_option linter.unusedSimpArgs false
namespace Go.Sym
open Go.Proofs Go.Spec
set_option linter.unusedVariables false
theorem bq72 (p b : Bool) (l : By) (hb : b = true → l = []) (hl : l.length < 1099511627776) : Must (bodyP Tryd.prog Qz0 gl0 [] [] 3000 Tryd.f42 0 [.rb p l (.is b)] [] (retQ Tryd.prog Tryd.f42 0 ⟨[], .slice 0 0 1 l.length .ow .unk, [], [⟨.bytes l, true, 1⟩]⟩)) := by
  constructor
  rw [vq72]
  refine brec (fun h => ?_) (fun h => ?_)
  · rw [hb h]; exact ⟨rfl, rfl, trivial⟩
  · exact ⟨rfl, by unfold roomFor; omega, rfl, rfl, rfl, by omega, rfl, trivial⟩
theorem cq72 : COK Tryd.prog gl0 42 (mkF (unkSp clA)) := by
  refine COK.unk ?_
  refine ctrE (fn := Tryd.f42) [] 3000 (by kernel_rfl) (by kernel_rfl) okQz0 (by kernel_rfl) (fun args w => by kernel_rfl) fun xs bs r hs ho => ?_
  replace hs : (nilG clA xs bs).sel = some r := hs
  unfold nilG at hs
  split at hs
  · simp only [TL.sel, Option.some.injEq] at hs
    subst hs
    obtain ⟨h1, h2⟩ := obsT_cons.1 ho
    exact ⟨_, bq72 _ _ _ h1 (obsT_one.1 h2)⟩
  · simp [TL.sel] at hs
noncomputable def Qz1 : Ctx := Qz0.add 42 (mkF (unkSp clA))
theorem okQz1 : COKs Tryd.prog gl0 Qz1 := okQz0.add cq72
/-- What a reader hands out: bytes, and itself. -/
def rdR (L : By) (x2 n2 : Nat) (e2 : Int) (B : By) (k : Nat) : RL := ⟨[], .slice 2 0 1 k .ow .unk, [some (some (rdC x2 n2 e2)), some (some (rdL L))], [⟨.bytes B, true, 1⟩]⟩
def rdN (L : By) (x2 n2 : Nat) (e2 v : Int) : RL := ⟨[], .int .i64 v, [some (some (rdC x2 n2 e2)), some (some (rdL L))], []⟩
end Go.Sym

set_option linter.unusedSimpArgs false
namespace Go.Sym
open Go.Proofs Go.Spec
set_option linter.unusedVariables false
noncomputable def T1q : Ctx := Qz1.exe Tryd.prog gl0 [] 300 Tryd.f61.params.size 61 Tryd.f61
noncomputable def T2 : Ctx := T1q.exe Tryd.prog gl0 [] 300 Tryd.f62.params.size 62 Tryd.f62
noncomputable def T3 : Ctx := T2.exe Tryd.prog gl0 [] 300 Tryd.f47.params.size 47 Tryd.f47
theorem okT3 : COKs Tryd.prog gl0 T3 := ((okQz1.exe [] 300 _ (by kernel_rfl) (by kernel_rfl) (by kernel_rfl) (fun args w => by kernel_rfl)).exe [] 300 _ (by kernel_rfl) (by kernel_rfl) (by kernel_rfl) (fun args w => by kernel_rfl)).exe [] 300 _ (by kernel_rfl) (by kernel_rfl) (by kernel_rfl) (fun args w => by kernel_rfl)
end Go.Sym

set_option linter.unusedSimpArgs false
namespace Go.Spec
open Go.Sym
/-- How many bytes a body has, by its head. -/
def stN (M : By) : Nat := (M.getD 3 0).toNat * 256 + (M.getD 4 0).toNat
/-- Why bytes aren't what a record begins with. -/
def stF (M : By) : Int :=
  if (0 < M.length ∧ ¬ (20 ≤ (M.getD 0 0).toNat ∧ (M.getD 0 0).toNat ≤ 23)) ∨ (1 < M.length ∧ M.getD 1 0 ≠ 3) then 3
  else if 5 ≤ M.length ∧ (if (M.getD 0 0).toNat = 23 then 273 else 256) < stN M then 5 else 0
end Go.Spec
namespace Go.Sym
open Go.Proofs Go.Spec
set_option linter.unusedVariables false
def gt90 (xs : List AV) (bs : List ABlk) : TL := match xs, bs with
  | [.rb false M .unk], [] => .ok ⟨[], .int .i64 (stF M), [], []⟩
  | _, _ => .no
def spt90 : Spec := ⟨[.by0], fun _ _ => [], fun _ _ => [], gt90⟩
def gt91 (xs : List AV) (bs : List ABlk) : TL := match xs, bs with
  | [.rb false M .unk], [] => .ok ⟨[5 ≤ M.length], .int .i64 (stN M), [], []⟩
  | _, _ => .no
def spt91 : Spec := ⟨[.by0], fun _ _ => [], fun _ _ => [], gt91⟩
noncomputable def T4 : Ctx := (T3.add 46 (mkF spt90)).add 47 (mkF spt91)
end Go.Sym

namespace Go.Sym
open Go.Proofs Go.Spec
set_option linter.unusedVariables false
set_option maxRecDepth 100000 in
theorem vt90 (b : By) (e : Int) : bodyP Tryd.prog T3 gl0 [] [] 3000 Tryd.f46 0 [.rb false b .unk] [] (retQ Tryd.prog Tryd.f46 0 ⟨[], .int .i64 e, [], []⟩) = (
let x1 := @Bool.rec (fun _ => Prop) (e = (0 : Int) ∧ True) (3 < List.length b ∧ 4 < List.length b ∧ 0 < List.length b ∧ @Bool.rec (fun _ => Prop) (@Bool.rec (fun _ => Prop) (e = (0 : Int) ∧ True) (e = (5 : Int) ∧ True) (decide ((256 : Int) < IntKind.i64.wrap (↑(BitVec.ofInt 64 (IntKind.i64.wrap ((↑(List.getD b 3 (0 : BitVec 8)).toNat : Int) * Int.ofNat 256)) ||| BitVec.ofInt 64 (↑(List.getD b 4 (0 : BitVec 8)).toNat : Int)).toNat : Int)))) (@Bool.rec (fun _ => Prop) (e = (0 : Int) ∧ True) (e = (5 : Int) ∧ True) (decide ((273 : Int) < IntKind.i64.wrap (↑(BitVec.ofInt 64 (IntKind.i64.wrap ((↑(List.getD b 3 (0 : BitVec 8)).toNat : Int) * Int.ofNat 256)) ||| BitVec.ofInt 64 (↑(List.getD b 4 (0 : BitVec 8)).toNat : Int)).toNat : Int)))) (decide ((↑(List.getD b 0 (0 : BitVec 8)).toNat : Int) = (23 : Int)))) (decide ((5 : Int) ≤ (↑(List.length b) : Int))); let x2 := @Bool.rec (fun _ => Prop) x1 (1 < List.length b ∧ @Bool.rec (fun _ => Prop) x1 (e = (3 : Int) ∧ True) !decide (List.getD b 1 (0 : BitVec 8) = BitVec.ofNat 8 3)) (decide ((1 : Int) < (↑(List.length b) : Int))); @Bool.rec (fun _ => Prop) x2 (0 < List.length b ∧ @Bool.rec (fun _ => Prop) (@Bool.rec (fun _ => Prop) (@Bool.rec (fun _ => Prop) (@Bool.rec (fun _ => Prop) (e = (3 : Int) ∧ True) x2 (decide ((↑(List.getD b 0 (0 : BitVec 8)).toNat : Int) = (23 : Int)))) (@Bool.rec (fun _ => Prop) (e = (3 : Int) ∧ True) x2 (decide ((↑(List.getD b 0 (0 : BitVec 8)).toNat : Int) = (22 : Int)))) (decide ((↑(List.getD b 0 (0 : BitVec 8)).toNat : Int) = (22 : Int)))) (@Bool.rec (fun _ => Prop) (e = (3 : Int) ∧ True) x2 (decide ((↑(List.getD b 0 (0 : BitVec 8)).toNat : Int) = (21 : Int)))) (decide ((↑(List.getD b 0 (0 : BitVec 8)).toNat : Int) = (21 : Int)))) (@Bool.rec (fun _ => Prop) (e = (3 : Int) ∧ True) x2 (decide ((↑(List.getD b 0 (0 : BitVec 8)).toNat : Int) = (20 : Int)))) (decide ((↑(List.getD b 0 (0 : BitVec 8)).toNat : Int) = (20 : Int)))) (decide ((0 : Int) < (↑(List.length b) : Int))) : Prop) := by kernel_rfl
set_option maxRecDepth 100000 in
theorem vt91 (b : By) (e : Int) : bodyP Tryd.prog T3 gl0 [] [] 3000 Tryd.f47 0 [.rb false b .unk] [] (retQ Tryd.prog Tryd.f47 0 ⟨[], .int .i64 e, [], []⟩) = (
3 < List.length b ∧ 4 < List.length b ∧ e = IntKind.i64.wrap (↑(BitVec.ofInt 64 (IntKind.i64.wrap ((↑(List.getD b 3 (0 : BitVec 8)).toNat : Int) * Int.ofNat 256)) ||| BitVec.ofInt 64 (↑(List.getD b 4 (0 : BitVec 8)).toNat : Int)).toNat : Int) ∧ True : Prop) := by kernel_rfl
set_option maxRecDepth 100000 in
theorem vt64 (L B : By) (x x2 n n2 m : Nat) (e e2 v k : Int) (ok : Bool) : bodyP Tryd.prog T4 gl0 [] [] 3000 Tryd.f23 2 [.ptr 0 0 0 0] [rdC x n e, rdL L] (retQ Tryd.prog Tryd.f23 2 ⟨[], .tup [.int .i64 k, .slice 2 0 1 m .ow .unk, .bool ok, .int .i64 v], [some (some (rdC x2 n2 e2)), some (some (rdL L))], [⟨.bytes B, true, 1⟩]⟩) = (
let x1 := IntKind.i64.wrap ((5 : Int) + (↑(stN (List.take n (dropN x L))) : Int)); let x2_1 := x2 = x ∧ 0 = 0 ∧ x2 = x ∧ n2 = n ∧ e2 = stF (List.take n (dropN x L)) ∧ L = L ∧ B = [] ∧ True; x + n ≤ List.length L ∧ @Bool.rec (fun _ => Prop) (@Bool.rec (fun _ => Prop) (k = (0 : Int) ∧ m = 0 ∧ ok = Bool.false ∧ v = (0 : Int) ∧ x2_1) (x + n ≤ List.length L ∧ 5 ≤ (List.take n (dropN x L)).length ∧ @Bool.rec (fun _ => Prop) (x + n ≤ List.length L ∧ 5 ≤ (List.take n (dropN x L)).length ∧ 0 < n ∧ plus x 0 < List.length L ∧ (0 : Int) ≤ x1 ∧ 5 ≤ x1.toNat ∧ x1.toNat ≤ n ∧ plus x 5 + (x1.toNat - 5) ≤ List.length L ∧ (List.take (x1.toNat - 5) (dropN (plus x 5) L)).length < 1099511627776 ∧ (0 : Int) ≤ x1 ∧ x1.toNat ≤ n ∧ k = (↑(List.getD L (plus x 0) (0 : BitVec 8)).toNat : Int) ∧ 0 = 0 ∧ 0 = 0 ∧ 0 = 0 ∧ m = (List.take (x1.toNat - 5) (dropN (plus x 5) L)).length ∧ ok = Bool.true ∧ v = (0 : Int) ∧ x2 = plus x x1.toNat ∧ 0 = 0 ∧ x2 = plus x x1.toNat ∧ n2 = minus n x1.toNat ∧ e2 = stF (List.take n (dropN x L)) ∧ L = L ∧ B = List.take (x1.toNat - 5) (dropN (plus x 5) L) ∧ True) (k = (0 : Int) ∧ m = 0 ∧ ok = Bool.false ∧ v = (0 : Int) ∧ x2_1) (decide (IntKind.i64.wrap ((↑n : Int) - (5 : Int)) < (↑(stN (List.take n (dropN x L))) : Int)))) !decide ((↑n : Int) < (5 : Int))) (k = (0 : Int) ∧ m = 0 ∧ ok = Bool.false ∧ v = stF (List.take n (dropN x L)) ∧ x2_1) !decide (stF (List.take n (dropN x L)) = (0 : Int)) : Prop) := by kernel_rfl
set_option maxRecDepth 100000 in
theorem vt64n  : bodyP Tryd.prog T4 gl0 [] [] 3000 Tryd.f23 0 [.nilp] [] (retQ Tryd.prog Tryd.f23 0 ⟨[], .tup [.int .i64 0, .nils, .bool false, .int .i64 1], [], []⟩) = (
(0 : Int) = (0 : Int) ∧ Bool.false = Bool.false ∧ (1 : Int) = (1 : Int) ∧ True : Prop) := by kernel_rfl
set_option maxRecDepth 100000 in
theorem vt66 (L L2 b : By) (x n n2 : Nat) (v : Int) : bodyP Tryd.prog T3 gl0 [] [] 3000 Tryd.f22 2 [.ptr 0 0 0 0, .rb false b .unk] [rdC x n 0, rdL L] (retQ Tryd.prog Tryd.f22 2 ⟨[], .int .i64 v, [some (some ⟨.cells [.slice 2 0 1 n2 .ox .unk, .int .i64 0], true, 0⟩), some none], [⟨.bytes L2, true, 1⟩]⟩) = (
x ≤ List.length L ∧ n = (List.drop x L).length ∧ roomFor n (List.length b) 1 ∧ v = (0 : Int) ∧ 0 = 0 ∧ 0 = 0 ∧ 0 = 0 ∧ n2 = n + List.length b ∧ (0 : Int) = (0 : Int) ∧ L2 = List.drop x L ++ b ∧ True : Prop) := by kernel_rfl
set_option maxRecDepth 100000 in
theorem vt66e (L b : By) (x n : Nat) (e v : Int) : bodyP Tryd.prog T3 gl0 [] [] 3000 Tryd.f22 2 [.ptr 0 0 0 0, .rb false b .unk] [rdC x n e, rdL L] (retQ Tryd.prog Tryd.f22 2 ⟨[], .int .i64 8, [some (some (rdC x n e)), some (some (rdL L))], []⟩) = (
@Bool.rec (fun _ => Prop) (x ≤ List.length L ∧ n = (List.drop x L).length ∧ roomFor n (List.length b) 1 ∧ False) ((8 : Int) = (8 : Int) ∧ x = x ∧ 0 = 0 ∧ x = x ∧ n = n ∧ e = e ∧ L = L ∧ True) !decide (e = (0 : Int)) : Prop) := by kernel_rfl
set_option maxRecDepth 100000 in
theorem vt66n (b : By) : bodyP Tryd.prog T3 gl0 [] [] 3000 Tryd.f22 0 [.nilp, .rb false b .unk] [] (retQ Tryd.prog Tryd.f22 0 ⟨[], .int .i64 1, [], []⟩) = (
(1 : Int) = (1 : Int) ∧ True : Prop) := by kernel_rfl
set_option maxRecDepth 100000 in
theorem vt67 (L B : By) (x n m : Nat) (e : Int) : bodyP Tryd.prog T3 gl0 [] [] 3000 Tryd.f25 2 [.ptr 0 0 0 0] [rdC x n e, rdL L] (retQ Tryd.prog Tryd.f25 2 ⟨[], .slice 2 0 1 m .ow .unk, [some (some (rdC x n e)), some (some (rdL L))], [⟨.bytes B, true, 1⟩]⟩) = (
x + n ≤ List.length L ∧ (List.take n (dropN x L)).length < 1099511627776 ∧ 0 = 0 ∧ 0 = 0 ∧ 0 = 0 ∧ m = (List.take n (dropN x L)).length ∧ x = x ∧ 0 = 0 ∧ x = x ∧ n = n ∧ e = e ∧ L = L ∧ B = List.take n (dropN x L) ∧ True : Prop) := by kernel_rfl
set_option maxRecDepth 100000 in
theorem vt69 (b L : By) (x n : Nat) (e : Int) : bodyP Tryd.prog T3 gl0 [] [] 3000 Tryd.f21 0 [.rb false b .unk] [] (retQ Tryd.prog Tryd.f21 0 ⟨[], .ptr 0 0 0 0, [], [rdC x n e, rdL L]⟩) = (
List.length b < 1099511627776 ∧ 0 = 0 ∧ x = 0 ∧ 0 = 0 ∧ x = 0 ∧ n = List.length b ∧ e = (0 : Int) ∧ L = b ∧ True : Prop) := by kernel_rfl
end Go.Sym

set_option linter.unusedSimpArgs false
namespace Go.Sym
open Go.Proofs Go.Spec
set_option linter.unusedVariables false
theorem or64 (a : Nat) (b : BitVec 8) (h : a < 4294967296) : IntKind.i64.wrap ((BitVec.ofInt 64 (IntKind.i64.wrap ((a : Int) * 2 ^ 8)) ||| BitVec.ofInt 64 (b.toNat : Int)).toNat : Int) = ((a * 256 + b.toNat : Nat) : Int) := by
  have hb := b.isLt
  have e1 : IntKind.i64.wrap ((a : Int) * 2 ^ 8) = ((a * 256 : Nat) : Int) := wrap_nat _ (by omega) (by omega)
  have e2 : (BitVec.ofInt 64 ((a * 256 : Nat) : Int) ||| BitVec.ofInt 64 ((b.toNat : Nat) : Int)).toNat = a * 256 + b.toNat := by
    rw [BitVec.toNat_or, BitVec.ofInt_natCast, BitVec.ofInt_natCast, BitVec.toNat_ofNat, BitVec.toNat_ofNat, Nat.mod_eq_of_lt (by omega), Nat.mod_eq_of_lt (by omega)]
    have := Nat.shiftLeft_add_eq_or_of_lt (i := 8) (b := b.toNat) (by omega) a
    rw [Nat.shiftLeft_eq] at this
    simp only [Nat.reducePow] at this
    omega
  rw [e1, e2]
  exact wrap_nat _ rfl (by omega)
theorem cnt_eq (c d : BitVec 8) : IntKind.i64.wrap (↑(BitVec.ofInt 64 (IntKind.i64.wrap ((c.toNat : Int) * Int.ofNat 256)) ||| BitVec.ofInt 64 (d.toNat : Int)).toNat : Int) = ((c.toNat * 256 + d.toNat : Nat) : Int) :=
  or64 c.toNat d (by have := c.isLt; omega)
theorem bt91 (b : By) (h : 5 ≤ b.length) : Must (bodyP Tryd.prog T3 gl0 [] [] 3000 Tryd.f47 0 [.rb false b .unk] [] (retQ Tryd.prog Tryd.f47 0 ⟨[], .int .i64 (stN b), [], []⟩)) := by
  constructor
  rw [vt91, cnt_eq]
  exact ⟨by omega, by omega, rfl, trivial⟩
theorem nd {p : Prop} [Decidable p] (h : p) : (!decide p) = false := by rw [decide_eq_true h]; rfl
theorem nd' {p : Prop} [Decidable p] (h : ¬ p) : (!decide p) = true := by rw [decide_eq_false h]; rfl
theorem bt90 (b : By) : Must (bodyP Tryd.prog T3 gl0 [] [] 3000 Tryd.f46 0 [.rb false b .unk] [] (retQ Tryd.prog Tryd.f46 0 ⟨[], .int .i64 (stF b), [], []⟩)) := by
  constructor
  rw [vt90]
  simp (config := { zeta := false }) only [cnt_eq]
  have hN : stN b = (b.getD 3 0).toNat * 256 + (b.getD 4 0).toNat := rfl
  rw [← hN]
  have key1 : ¬ (0 < b.length ∧ ¬ (20 ≤ (b.getD 0 0).toNat ∧ (b.getD 0 0).toNat ≤ 23)) → ¬ (1 < b.length ∧ b.getD 1 0 ≠ 3) →
      (@Bool.rec (fun _ => Prop) (stF b = (0 : Int) ∧ True) (3 < List.length b ∧ 4 < List.length b ∧ 0 < List.length b ∧ @Bool.rec (fun _ => Prop) (@Bool.rec (fun _ => Prop) (stF b = (0 : Int) ∧ True) (stF b = (5 : Int) ∧ True) (decide ((256 : Int) < (stN b : Int)))) (@Bool.rec (fun _ => Prop) (stF b = (0 : Int) ∧ True) (stF b = (5 : Int) ∧ True) (decide ((273 : Int) < (stN b : Int)))) (decide ((↑(List.getD b 0 (0 : BitVec 8)).toNat : Int) = (23 : Int)))) (decide ((5 : Int) ≤ (↑(List.length b) : Int)))) := by
    intro p1 p2
    have hF : stF b = if 5 ≤ b.length ∧ (if (b.getD 0 0).toNat = 23 then 273 else 256) < stN b then 5 else 0 := by
      unfold stF; rw [if_neg (fun h => h.elim p1 p2)]
    by_cases h5 : 5 ≤ b.length
    · rw [decide_eq_true (show (5 : Int) ≤ (b.length : Int) by omega)]
      refine ⟨by omega, by omega, by omega, ?_⟩
      by_cases h23 : (b.getD 0 0).toNat = 23
      · rw [decide_eq_true (show ((b.getD 0 0).toNat : Int) = 23 by omega)]
        by_cases hc : 273 < stN b
        · rw [decide_eq_true (show (273 : Int) < (stN b : Int) by omega)]
          exact ⟨by rw [hF, if_pos ⟨h5, by rw [if_pos h23]; exact hc⟩], trivial⟩
        · rw [decide_eq_false (show ¬ (273 : Int) < (stN b : Int) by omega)]
          exact ⟨by rw [hF, if_neg (fun h => hc (by have := h.2; rw [if_pos h23] at this; exact this))], trivial⟩
      · rw [decide_eq_false (show ¬ ((b.getD 0 0).toNat : Int) = 23 by omega)]
        by_cases hc : 256 < stN b
        · rw [decide_eq_true (show (256 : Int) < (stN b : Int) by omega)]
          exact ⟨by rw [hF, if_pos ⟨h5, by rw [if_neg h23]; exact hc⟩], trivial⟩
        · rw [decide_eq_false (show ¬ (256 : Int) < (stN b : Int) by omega)]
          exact ⟨by rw [hF, if_neg (fun h => hc (by have := h.2; rw [if_neg h23] at this; exact this))], trivial⟩
    · rw [decide_eq_false (show ¬ (5 : Int) ≤ (b.length : Int) by omega)]
      exact ⟨by rw [hF, if_neg (fun h => h5 h.1)], trivial⟩
  intro x1 x2
  have key2 : ¬ (0 < b.length ∧ ¬ (20 ≤ (b.getD 0 0).toNat ∧ (b.getD 0 0).toNat ≤ 23)) → x2 := by
    intro p1
    show @Bool.rec (fun _ => Prop) x1 (1 < List.length b ∧ @Bool.rec (fun _ => Prop) x1 (stF b = (3 : Int) ∧ True) !decide (List.getD b 1 (0 : BitVec 8) = BitVec.ofNat 8 3)) (decide ((1 : Int) < (↑(List.length b) : Int)))
    by_cases h1 : 1 < b.length
    · rw [decide_eq_true (show (1 : Int) < (b.length : Int) by omega)]
      refine ⟨h1, ?_⟩
      by_cases h3 : b.getD 1 0 = BitVec.ofNat 8 3
      · rw [nd h3]
        exact key1 p1 (fun h => h.2 h3)
      · rw [nd' h3]
        exact ⟨by unfold stF; rw [if_pos (.inr ⟨h1, h3⟩)], trivial⟩
    · rw [decide_eq_false (show ¬ (1 : Int) < (b.length : Int) by omega)]
      exact key1 p1 (fun h => h1 h.1)
  have bad : (0 < b.length ∧ ¬ (20 ≤ (b.getD 0 0).toNat ∧ (b.getD 0 0).toNat ≤ 23)) → stF b = 3 ∧ True := fun h => ⟨by unfold stF; rw [if_pos (.inl h)], trivial⟩
  by_cases h0 : 0 < b.length
  · rw [decide_eq_true (show (0 : Int) < (b.length : Int) by omega)]
    refine ⟨h0, ?_⟩
    by_cases c0 : (b.getD 0 0).toNat = 20
    · rw [decide_eq_true (show ((b.getD 0 0).toNat : Int) = 20 by omega)]; exact key2 (by omega)
    rw [decide_eq_false (show ¬ ((b.getD 0 0).toNat : Int) = 20 by omega)]
    by_cases c1 : (b.getD 0 0).toNat = 21
    · rw [decide_eq_true (show ((b.getD 0 0).toNat : Int) = 21 by omega)]; exact key2 (by omega)
    rw [decide_eq_false (show ¬ ((b.getD 0 0).toNat : Int) = 21 by omega)]
    by_cases c2 : (b.getD 0 0).toNat = 22
    · rw [decide_eq_true (show ((b.getD 0 0).toNat : Int) = 22 by omega)]; exact key2 (by omega)
    rw [decide_eq_false (show ¬ ((b.getD 0 0).toNat : Int) = 22 by omega)]
    by_cases c3 : (b.getD 0 0).toNat = 23
    · rw [decide_eq_true (show ((b.getD 0 0).toNat : Int) = 23 by omega)]; exact key2 (by omega)
    rw [decide_eq_false (show ¬ ((b.getD 0 0).toNat : Int) = 23 by omega)]
    exact bad ⟨h0, by omega⟩
  · rw [decide_eq_false (show ¬ (0 : Int) < (b.length : Int) by omega)]
    exact key2 (fun h => h0 h.1)
theorem ct90 : COK Tryd.prog gl0 46 (mkF spt90) := by
  refine ctrE (fn := Tryd.f46) [] 3000 (by kernel_rfl) (by kernel_rfl) okT3 (by kernel_rfl) (fun args w => by kernel_rfl) fun xs bs r hs ho => ?_
  replace hs : (gt90 xs bs).sel = some r := hs
  unfold gt90 at hs
  split at hs
  · simp only [TL.sel, Option.some.injEq] at hs
    subst hs
    exact ⟨_, bt90 _⟩
  · simp [TL.sel] at hs
theorem ct91 : COK Tryd.prog gl0 47 (mkF spt91) := by
  refine ctrE (fn := Tryd.f47) [] 3000 (by kernel_rfl) (by kernel_rfl) okT3 (by kernel_rfl) (fun args w => by kernel_rfl) fun xs bs r hs ho => ?_
  replace hs : (gt91 xs bs).sel = some r := hs
  unfold gt91 at hs
  split at hs
  · simp only [TL.sel, Option.some.injEq] at hs
    subst hs
    exact ⟨_, bt91 _ (obsT_one.1 ho)⟩
  · simp [TL.sel] at hs
theorem okT4 : COKs Tryd.prog gl0 T4 := (okT3.add ct90).add ct91
end Go.Sym

set_option linter.unusedSimpArgs false
namespace Go.Spec
open Go.Sym
/-- Is there all of a record? -/
def stO (M : By) : Bool := decide (stF M = 0) && (decide (5 ≤ M.length) && decide (stN M + 5 ≤ M.length))
def stK (M : By) : Int := if stO M then ((M.getD 0 0).toNat : Int) else 0
def stB (M : By) : By := if stO M then (M.drop 5).take (stN M) else []
def stX (M : By) : Nat := if stO M then 5 + stN M else 0
theorem stN_lt (M : By) : stN M < 65536 := by
  have h1 := (M.getD 3 0).isLt
  have h2 := (M.getD 4 0).isLt
  unfold stN; omega
end Go.Spec
namespace Go.Sym
open Go.Proofs Go.Spec
set_option linter.unusedVariables false
theorem bt64 (L : By) (x n : Nat) (e : Int) (h1 : x + n = L.length) (h2 : L.length < 1099511627776) : Must (bodyP Tryd.prog T4 gl0 [] [] 3000 Tryd.f23 2 [.ptr 0 0 0 0] [rdC x n e, rdL L] (retQ Tryd.prog Tryd.f23 2 ⟨[], .tup [.int .i64 (stK (L.drop x)), .slice 2 0 1 (stB (L.drop x)).length .ow .unk, .bool (stO (L.drop x)), .int .i64 (stF (L.drop x))], [some (some (rdC (x + stX (L.drop x)) (L.length - (x + stX (L.drop x))) (stF (L.drop x)))), some (some (rdL L))], [⟨.bytes (stB (L.drop x)), true, 1⟩]⟩)) := by
  constructor
  rw [vt64]
  have hM : List.take n (dropN x L) = L.drop x := by rw [dropN_eq, List.take_of_length_le (by rw [List.length_drop]; omega)]
  have hl : (L.drop x).length = n := by rw [List.length_drop]; omega
  have hN := stN_lt (L.drop x)
  have hK : (L.drop x).getD 0 0 = L.getD (x + 0) 0 := by simp [List.getD]
  rw [hM]
  generalize hMM : L.drop x = M at *
  have w1 : IntKind.i64.wrap ((5 : Int) + (stN M : Int)) = ((5 + stN M : Nat) : Int) := wrap_nat _ (by omega) (by omega)
  have w2 : IntKind.i64.wrap ((n : Int) - (5 : Int)) = (n : Int) - 5 := wrap_i64 (by omega) (by omega)
  rw [w1, w2]
  simp (config := { zeta := false }) only [plus_eq, minus_eq, Int.toNat_natCast]
  have no : stO M = false → (stK M = 0 ∧ (stB M).length = 0 ∧ stX M = 0 ∧ stB M = []) := by
    intro h
    unfold stK stB stX
    rw [h]
    exact ⟨rfl, rfl, rfl, rfl⟩
  refine ⟨by omega, ?_⟩
  by_cases hF : stF M = 0
  · rw [nd hF]
    by_cases h5 : n < 5
    · have hO : stO M = false := by unfold stO; rw [decide_eq_false (show ¬ 5 ≤ M.length by omega)]; simp
      obtain ⟨c1, c2, c3, c4⟩ := no hO
      rw [nd (show (n : Int) < 5 by omega), hO, c1, c2, c3, c4]
      and_intros <;> first | omega | rfl | exact True.intro | exact hF | exact hF.symm
    · rw [nd' (show ¬ (n : Int) < 5 by omega)]
      refine ⟨by omega, by omega, ?_⟩
      by_cases hc : (n : Int) - 5 < (stN M : Int)
      · have hO : stO M = false := by unfold stO; rw [decide_eq_false (show ¬ stN M + 5 ≤ M.length by omega)]; simp
        obtain ⟨c1, c2, c3, c4⟩ := no hO
        rw [decide_eq_true hc, hO, c1, c2, c3, c4]
        and_intros <;> first | omega | rfl | exact True.intro | exact hF | exact hF.symm
      · have hO : stO M = true := by unfold stO; rw [decide_eq_true hF, decide_eq_true (show 5 ≤ M.length by omega), decide_eq_true (show stN M + 5 ≤ M.length by omega)]; rfl
        have c1 : stK M = ((M.getD 0 0).toNat : Int) := by unfold stK; rw [if_pos hO]
        have c3 : stX M = 5 + stN M := by unfold stX; rw [if_pos hO]
        have c4 : stB M = (M.drop 5).take (stN M) := by unfold stB; rw [if_pos hO]
        have hB : List.take (((5 + stN M : Nat) : Int).toNat - 5) (dropN (x + 5) L) = stB M := by
          rw [c4, dropN_eq, ← hMM, List.drop_drop, Int.toNat_natCast, Nat.add_sub_cancel_left]
        rw [decide_eq_false hc, hB, hO, c1, c3, hF]
        have hBl : (stB M).length ≤ L.length := by rw [c4, List.length_take, List.length_drop]; omega
        and_intros
        all_goals first | omega | rfl | exact True.intro | (rw [hK]) | skip
  · rw [nd' hF]
    have hO : stO M = false := by unfold stO; rw [decide_eq_false hF]; rfl
    obtain ⟨c1, c2, c3, c4⟩ := no hO
    rw [hO, c1, c2, c3, c4]
    and_intros <;> first | omega | rfl | exact True.intro
end Go.Sym

set_option linter.unusedSimpArgs false
namespace Go.Sym
open Go.Proofs Go.Spec
set_option linter.unusedVariables false
/-- Take. -/
def gt64 (xs : List AV) (bs : List ABlk) : TL := match xs, bs with
  | [.ptr 0 0 0 0], [⟨.cells [.slice 1 x 1 n .ox .unk, .int .i64 e], true, 0⟩, ⟨.bytes L, true, 1⟩] =>
    .ok ⟨[x + n = L.length, L.length < 1099511627776], .tup [.int .i64 (stK (L.drop x)), .slice 2 0 1 (stB (L.drop x)).length .ow .unk, .bool (stO (L.drop x)), .int .i64 (stF (L.drop x))], [some (some (rdC (x + stX (L.drop x)) (L.length - (x + stX (L.drop x))) (stF (L.drop x)))), some (some (rdL L))], [⟨.bytes (stB (L.drop x)), true, 1⟩]⟩
  | [.nilp], [] => .ok ⟨[], .tup [.int .i64 0, .nils, .bool false, .int .i64 1], [], []⟩
  | _, _ => .no
theorem bt64n : Must (bodyP Tryd.prog T4 gl0 [] [] 3000 Tryd.f23 0 [.nilp] [] (retQ Tryd.prog Tryd.f23 0 ⟨[], .tup [.int .i64 0, .nils, .bool false, .int .i64 1], [], []⟩)) := ⟨by rw [vt64n]; exact ⟨rfl, rfl, rfl, trivial⟩⟩
theorem ct64 : COK Tryd.prog gl0 23 (mkF (reSp 1 gt64)) := by
  refine ctrE (fn := Tryd.f23) [] 3000 (by kernel_rfl) (by kernel_rfl) okT4 (by kernel_rfl) (fun args w => by kernel_rfl) fun xs bs r hs ho => ?_
  replace hs : (gt64 xs bs).sel = some r := hs
  unfold gt64 at hs
  split at hs
  · simp only [TL.sel, Option.some.injEq] at hs
    subst hs
    obtain ⟨h1, h2⟩ := obsT_cons.1 ho
    exact ⟨_, bt64 _ _ _ _ h1 (obsT_one.1 h2)⟩
  · simp only [TL.sel, Option.some.injEq] at hs
    subst hs
    exact ⟨_, bt64n⟩
  · simp [TL.sel] at hs
/-- Feed: where nothing went wrong; behind an error; of none. -/
def gt66 (xs : List AV) (bs : List ABlk) : TL := match xs, bs with
  | [.ptr 0 0 0 0, .rb false b .unk], [⟨.cells [.slice 1 x 1 n .ox .unk, .int .i64 0], true, 0⟩, ⟨.bytes L, true, 1⟩] =>
    .ok ⟨[x + n = L.length, L.length + b.length < 1099511627776], .int .i64 0, [some (some ⟨.cells [.slice 2 0 1 (n + b.length) .ox .unk, .int .i64 0], true, 0⟩), some none], [⟨.bytes (L.drop x ++ b), true, 1⟩]⟩
  | [.ptr 0 0 0 0, .rb false b .unk], [⟨.cells [.slice 1 x 1 n .ox .unk, .int .i64 e], true, 0⟩, ⟨.bytes L, true, 1⟩] =>
    .ok ⟨[e ≠ 0], .int .i64 8, [some (some (rdC x n e)), some (some (rdL L))], []⟩
  | [.nilp, .rb false b .unk], [] => .ok ⟨[], .int .i64 1, [], []⟩
  | _, _ => .no
def feSp : Spec := ⟨[.kp, .by0], fun xs h => reachX h 200 (namesL (xs.take 1)) [], kinds, gt66⟩
theorem bt66 (L b : By) (x n : Nat) (h1 : x + n = L.length) (h2 : L.length + b.length < 1099511627776) : Must (bodyP Tryd.prog T3 gl0 [] [] 3000 Tryd.f22 2 [.ptr 0 0 0 0, .rb false b .unk] [rdC x n 0, rdL L] (retQ Tryd.prog Tryd.f22 2 ⟨[], .int .i64 0, [some (some ⟨.cells [.slice 2 0 1 (n + b.length) .ox .unk, .int .i64 0], true, 0⟩), some none], [⟨.bytes (L.drop x ++ b), true, 1⟩]⟩)) := by
  constructor
  rw [vt66]
  · exact ⟨by omega, by rw [List.length_drop]; omega, by unfold roomFor; omega, rfl, rfl, rfl, rfl, rfl, rfl, rfl, trivial⟩
theorem bt66n (b : By) : Must (bodyP Tryd.prog T3 gl0 [] [] 3000 Tryd.f22 0 [.nilp, .rb false b .unk] [] (retQ Tryd.prog Tryd.f22 0 ⟨[], .int .i64 1, [], []⟩)) := ⟨by rw [vt66n]; exact ⟨rfl, trivial⟩⟩
theorem bt66e (L b : By) (x n : Nat) (e : Int) (h : e ≠ 0) : Must (bodyP Tryd.prog T3 gl0 [] [] 3000 Tryd.f22 2 [.ptr 0 0 0 0, .rb false b .unk] [rdC x n e, rdL L] (retQ Tryd.prog Tryd.f22 2 ⟨[], .int .i64 8, [some (some (rdC x n e)), some (some (rdL L))], []⟩)) := by
  constructor
  rw [vt66e _ _ _ _ _ 0, nd' h]
  exact ⟨rfl, rfl, rfl, rfl, rfl, rfl, rfl, trivial⟩
theorem ct66 : COK Tryd.prog gl0 22 (mkF feSp) := by
  refine ctrE (fn := Tryd.f22) [] 3000 (by kernel_rfl) (by kernel_rfl) okT3 (by kernel_rfl) (fun args w => by kernel_rfl) fun xs bs r hs ho => ?_
  replace hs : (gt66 xs bs).sel = some r := hs
  unfold gt66 at hs
  split at hs
  · simp only [TL.sel, Option.some.injEq] at hs
    subst hs
    obtain ⟨h1, h2⟩ := obsT_cons.1 ho
    exact ⟨_, bt66 _ _ _ _ h1 (obsT_one.1 h2)⟩
  · simp only [TL.sel, Option.some.injEq] at hs
    subst hs
    exact ⟨_, bt66e _ _ _ _ _ (obsT_one.1 ho)⟩
  · simp only [TL.sel, Option.some.injEq] at hs
    subst hs
    exact ⟨_, bt66n _⟩
  · simp [TL.sel] at hs
/-- Left. -/
def gt67 (xs : List AV) (bs : List ABlk) : TL := match xs, bs with
  | [.ptr 0 0 0 0], [⟨.cells [.slice 1 x 1 n .ox .unk, .int .i64 e], true, 0⟩, ⟨.bytes L, true, 1⟩] =>
    .ok ⟨[x + n = L.length, L.length < 1099511627776], .slice 2 0 1 (L.drop x).length .ow .unk, [some (some (rdC x n e)), some (some (rdL L))], [⟨.bytes (L.drop x), true, 1⟩]⟩
  | _, _ => .no
theorem bt67 (L : By) (x n : Nat) (e : Int) (h1 : x + n = L.length) (h2 : L.length < 1099511627776) : Must (bodyP Tryd.prog T3 gl0 [] [] 3000 Tryd.f25 2 [.ptr 0 0 0 0] [rdC x n e, rdL L] (retQ Tryd.prog Tryd.f25 2 ⟨[], .slice 2 0 1 (L.drop x).length .ow .unk, [some (some (rdC x n e)), some (some (rdL L))], [⟨.bytes (L.drop x), true, 1⟩]⟩)) := by
  constructor
  rw [vt67]
  have hM : List.take n (dropN x L) = L.drop x := by rw [dropN_eq, List.take_of_length_le (by rw [List.length_drop]; omega)]
  rw [hM]
  exact ⟨by omega, by rw [List.length_drop]; omega, rfl, rfl, rfl, rfl, rfl, rfl, rfl, rfl, rfl, rfl, rfl, trivial⟩
theorem ct67 : COK Tryd.prog gl0 25 (mkF (reSp 1 gt67)) := by
  refine ctrE (fn := Tryd.f25) [] 3000 (by kernel_rfl) (by kernel_rfl) okT3 (by kernel_rfl) (fun args w => by kernel_rfl) fun xs bs r hs ho => ?_
  replace hs : (gt67 xs bs).sel = some r := hs
  unfold gt67 at hs
  split at hs
  · simp only [TL.sel, Option.some.injEq] at hs
    subst hs
    obtain ⟨h1, h2⟩ := obsT_cons.1 ho
    exact ⟨_, bt67 _ _ _ _ h1 (obsT_one.1 h2)⟩
  · simp [TL.sel] at hs
/-- New. -/
def gt69 (xs : List AV) (bs : List ABlk) : TL := match xs, bs with
  | [.rb false b .unk], [] => .ok ⟨[b.length < 1099511627776], .ptr 0 0 0 0, [], [rdC 0 b.length 0, rdL b]⟩
  | _, _ => .no
def spt69 : Spec := ⟨[.by0], fun _ _ => [], fun _ _ => [], gt69⟩
theorem bt69 (b : By) (h : b.length < 1099511627776) : Must (bodyP Tryd.prog T3 gl0 [] [] 3000 Tryd.f21 0 [.rb false b .unk] [] (retQ Tryd.prog Tryd.f21 0 ⟨[], .ptr 0 0 0 0, [], [rdC 0 b.length 0, rdL b]⟩)) := ⟨by rw [vt69]; exact ⟨h, rfl, rfl, rfl, rfl, rfl, rfl, rfl, trivial⟩⟩
theorem ct69 : COK Tryd.prog gl0 21 (mkF spt69) := by
  refine ctrE (fn := Tryd.f21) [] 3000 (by kernel_rfl) (by kernel_rfl) okT3 (by kernel_rfl) (fun args w => by kernel_rfl) fun xs bs r hs ho => ?_
  replace hs : (gt69 xs bs).sel = some r := hs
  unfold gt69 at hs
  split at hs
  · simp only [TL.sel, Option.some.injEq] at hs
    subst hs
    exact ⟨_, bt69 _ (obsT_one.1 ho)⟩
  · simp [TL.sel] at hs
noncomputable def T5 : Ctx := ((((T4.add 23 (mkF (reSp 1 gt64))).add 22 (mkF feSp)).add 25 (mkF (reSp 1 gt67))).add 21 (mkF spt69))
theorem okT5 : COKs Tryd.prog gl0 T5 := (((okT4.add ct64).add ct66).add ct67).add ct69
end Go.Sym

set_option linter.unusedSimpArgs false
namespace Go.Spec
open Go.Sym
/-- Where a row of records stands behind n of them. -/
def spO (b : By) : Nat → Nat
  | 0 => 0
  | n + 1 => spO b n + stX (b.drop (spO b n))
def spC (b : By) : Nat → Nat → Nat
  | 0, n => n
  | f + 1, n => if stO (b.drop (spO b n)) then spC b f (n + 1) else n
/-- How many records there are. -/
noncomputable def spN (b : By) : Nat := shut (spC b (b.length + 1) 0)
/-- The first n are there. -/
def spA (b : By) (n : Nat) : Prop := ∀ k, k < n → stO (b.drop (spO b k)) = true
theorem stO_len {M : By} (h : stO M = true) : stX M = 5 + stN M ∧ 5 + stN M ≤ M.length ∧ stF M = 0 := by
  have h1 := h
  unfold stO at h1
  simp only [Bool.and_eq_true, decide_eq_true_eq] at h1
  exact ⟨by unfold stX; rw [if_pos h], by omega, h1.1⟩
theorem spO_le {b : By} : ∀ {n : Nat}, spA b n → 5 * n ≤ spO b n ∧ spO b n ≤ b.length
  | 0, _ => ⟨by simp [spO], by simp [spO]⟩
  | n + 1, h => by
    obtain ⟨h1, h2⟩ := spO_le (n := n) (fun k hk => h k (by omega))
    obtain ⟨a1, a2, _⟩ := stO_len (h n (by omega))
    rw [List.length_drop] at a2
    simp only [spO, a1]
    omega
theorem spA_le {b : By} {n : Nat} (h : spA b n) : n ≤ b.length := by have := spO_le h; omega
theorem spC_spec {b : By} : ∀ (f n : Nat), spA b n → b.length < f + n → spA b (spC b f n) ∧ stO (b.drop (spO b (spC b f n))) = false
  | 0, n, h, hl => by have := spA_le h; omega
  | f + 1, n, h, hl => by
    unfold spC
    split
    · rename_i hO
      exact spC_spec f (n + 1) (fun k hk => by
        rcases Nat.lt_or_ge k n with h1 | h1
        · exact h k h1
        · obtain rfl : k = n := by omega
          exact hO) (by omega)
    · rename_i hO
      exact ⟨h, by simpa using hO⟩
theorem spN_spec (b : By) : spA b (spN b) ∧ stO (b.drop (spO b (spN b))) = false := by
  unfold spN
  rw [shut_eq]
  exact spC_spec (b.length + 1) 0 (fun k hk => by omega) (by omega)
theorem spN_uniq {b : By} {n : Nat} (h1 : spA b n) (h2 : stO (b.drop (spO b n)) = false) : n = spN b := by
  obtain ⟨k1, k2⟩ := spN_spec b
  rcases Nat.lt_trichotomy n (spN b) with h | h | h
  · rw [k1 n h] at h2; cases h2
  · exact h
  · rw [h1 _ h] at k2; cases k2
theorem spN_lt {b : By} {n : Nat} (h1 : spA b n) (h2 : stO (b.drop (spO b n)) = true) : n < spN b := by
  rcases Nat.lt_or_ge n (spN b) with h | h
  · exact h
  · exfalso
    rcases Nat.lt_or_ge (spN b) n with h3 | h3
    · have := h1 _ h3
      rw [(spN_spec b).2] at this; cases this
    · obtain rfl : n = spN b := by omega
      rw [(spN_spec b).2] at h2; cases h2
theorem spA_succ {b : By} {n : Nat} (h : spA b n) (hO : stO (b.drop (spO b n)) = true) : spA b (n + 1) := fun k hk => by
  rcases Nat.lt_or_ge k n with h1 | h1
  · exact h k h1
  · obtain rfl : k = n := by omega
    exact hO
theorem getD_app {M R : By} {i : Nat} (h : i < M.length) : (M ++ R).getD i 0 = M.getD i 0 := by
  simp only [List.getD, List.getElem?_append_left h]
theorem stN_app {M R : By} (h : 5 ≤ M.length) : stN (M ++ R) = stN M := by
  unfold stN
  rw [getD_app (by omega), getD_app (by omega)]
/-- What is wrong with bytes is wrong with more of them. -/
theorem stF_app {M R : By} (h : stF M ≠ 0) : stF (M ++ R) = stF M := by
  by_cases h1 : (0 < M.length ∧ ¬ (20 ≤ (M.getD 0 0).toNat ∧ (M.getD 0 0).toNat ≤ 23)) ∨ (1 < M.length ∧ M.getD 1 0 ≠ 3)
  · have e1 : stF M = 3 := by unfold stF; rw [if_pos h1]
    rw [e1]
    unfold stF
    rw [if_pos]
    rcases h1 with ⟨a, c⟩ | ⟨a, c⟩
    · exact .inl ⟨by rw [List.length_append]; omega, by rw [getD_app a]; exact c⟩
    · exact .inr ⟨by rw [List.length_append]; omega, by rw [getD_app a]; exact c⟩
  · by_cases h2 : 5 ≤ M.length ∧ (if (M.getD 0 0).toNat = 23 then 273 else 256) < stN M
    · have e1 : stF M = 5 := by unfold stF; rw [if_neg h1, if_pos h2]
      rw [e1]
      unfold stF
      obtain ⟨h2a, h2b⟩ := h2
      rw [if_neg, if_pos]
      · refine ⟨by rw [List.length_append]; omega, ?_⟩
        rw [getD_app (by omega), stN_app h2a]
        exact h2b
      · rw [getD_app (by omega), getD_app (by omega)]
        intro h3
        apply h1
        rcases h3 with ⟨a, c⟩ | ⟨a, c⟩
        · exact .inl ⟨by omega, c⟩
        · exact .inr ⟨by omega, c⟩
    · exfalso
      apply h
      unfold stF
      rw [if_neg h1, if_neg h2]
theorem stF_full {M R : By} (h : 5 ≤ M.length) : stF (M ++ R) = stF M := by
  unfold stF
  rw [getD_app (by omega), getD_app (by omega), stN_app h, List.length_append]
  have e1 : (0 < M.length + R.length) = (0 < M.length) := by apply propext; omega
  have e2 : (1 < M.length + R.length) = (1 < M.length) := by apply propext; omega
  have e3 : (5 ≤ M.length + R.length) = (5 ≤ M.length) := by apply propext; omega
  simp only [e1, e2, e3]
/-- A record that is there is there in more bytes, too. -/
theorem stO_app {M R : By} (h : stO M = true) : stO (M ++ R) = true ∧ stK (M ++ R) = stK M ∧ stB (M ++ R) = stB M ∧ stX (M ++ R) = stX M := by
  obtain ⟨a1, a2, a3⟩ := stO_len h
  have hO : stO (M ++ R) = true := by
    unfold stO
    rw [stF_full (by omega), stN_app (by omega), a3, List.length_append, decide_eq_true (show 5 ≤ M.length + R.length by omega), decide_eq_true (show stN M + 5 ≤ M.length + R.length by omega)]
    rfl
  refine ⟨hO, ?_, ?_, ?_⟩
  · unfold stK
    rw [if_pos hO, if_pos h, getD_app (by omega)]
  · unfold stB
    rw [if_pos hO, if_pos h, stN_app (by omega), List.drop_append_of_le_length (by omega), List.take_append_of_le_length (by rw [List.length_drop]; omega)]
  · unfold stX
    rw [if_pos hO, if_pos h, stN_app (by omega)]
theorem stO_bad {M : By} (h : stF M ≠ 0) : stO M = false := by
  unfold stO; rw [decide_eq_false h]; rfl
theorem stX_no {M : By} (h : stO M = false) : stX M = 0 := by
  unfold stX; rw [h]; rfl
end Go.Spec

namespace Go.Spec
open Go.Sym
/-- Sealed records one behind the other, from one number on, so many. -/
noncomputable def rcat (k iv : F8) (T : Nat → By) : Nat → Nat → By
  | _, 0 => []
  | a, m + 1 => recS k iv (BitVec.ofInt 64 (a : Int)) 23 0 (T a) ++ rcat k iv T (a + 1) m
theorem rcat_snoc (k iv : F8) (T : Nat → By) : ∀ (m a : Nat), rcat k iv T a (m + 1) = rcat k iv T a m ++ recS k iv (BitVec.ofInt 64 ((a + m : Nat) : Int)) 23 0 (T (a + m))
  | 0, a => by simp [rcat]
  | m + 1, a => by
    have e := rcat_snoc k iv T m (a + 1)
    have e2 : a + 1 + m = a + (m + 1) := by omega
    rw [e2] at e
    show recS k iv (BitVec.ofInt 64 (a : Int)) 23 0 (T a) ++ rcat k iv T (a + 1) (m + 1) = (recS k iv (BitVec.ofInt 64 (a : Int)) 23 0 (T a) ++ rcat k iv T (a + 1) m) ++ _
    rw [e, List.append_assoc]
theorem rec_len0 (k iv : F8) (s : BitVec 64) (t : By) : (recB k iv s 23 0 t).length = t.length + 17 := by
  have := recS_length k iv s 23 0 t
  rw [show ((0 : Nat) : Int) = 0 from rfl] at this
  rw [recS_len] at this
  omega
/-- What stands ahead of a record's body. -/
theorem recS_eq (k iv : F8) (s : BitVec 64) (t : By) : recS k iv s 23 0 t = headB (BitVec.ofNat 8 23) ((t.length + 17 : Nat) : Int) ++ recB k iv s 23 0 t := by
  have h : (recI 23 0 t).length = t.length + 1 := recI_length 23 0 t
  have e : (((recI 23 0 t).length + 16 : Nat) : Int) = ((t.length + 17 : Nat) : Int) := by rw [h]
  unfold recS recB
  rw [e]
theorem hi_lo (n : Nat) (h : n < 65536) : (BitVec.ofInt 8 ((n : Int).fdiv (Int.ofNat 256))).toNat * 256 + (BitVec.ofInt 8 (n : Int)).toNat = n := by
  have e : ((n : Int).fdiv (Int.ofNat 256)) = ((n / 256 : Nat) : Int) := by
    rw [Int.fdiv_eq_ediv_of_nonneg _ (by decide)]
    rfl
  rw [e, BitVec.ofInt_natCast, BitVec.ofInt_natCast, BitVec.toNat_ofNat, BitVec.toNat_ofNat]
  omega
section
variable (k iv : F8) (s : BitVec 64) (t Z : By)
theorem rs_get : (recS k iv s 23 0 t ++ Z).getD 0 0 = 23#8 ∧ (recS k iv s 23 0 t ++ Z).getD 1 0 = 3#8 ∧ (recS k iv s 23 0 t ++ Z).getD 3 0 = BitVec.ofInt 8 (((t.length + 17 : Nat) : Int).fdiv (Int.ofNat 256)) ∧ (recS k iv s 23 0 t ++ Z).getD 4 0 = BitVec.ofInt 8 ((t.length + 17 : Nat) : Int) := by
  rw [recS_eq]
  exact ⟨rfl, rfl, rfl, rfl⟩
theorem rs_N (h : t.length ≤ 256) : stN (recS k iv s 23 0 t ++ Z) = t.length + 17 := by
  obtain ⟨_, _, h3, h4⟩ := rs_get k iv s t Z
  unfold stN
  rw [h3, h4]
  exact hi_lo _ (by omega)
theorem rs_len : (recS k iv s 23 0 t ++ Z).length = t.length + 22 + Z.length := by
  rw [List.length_append, recS_len, rec_len0]
theorem rs_F (h : t.length ≤ 256) : stF (recS k iv s 23 0 t ++ Z) = 0 := by
  obtain ⟨h0, h1, _, _⟩ := rs_get k iv s t Z
  unfold stF
  rw [h0, h1, rs_N k iv s t Z h]
  rw [if_neg, if_neg]
  · rintro ⟨_, h⟩
    have : (23#8).toNat = 23 := rfl
    rw [if_pos this] at h
    omega
  · rintro (⟨_, h⟩ | ⟨_, h⟩)
    · exact h ⟨by decide, by decide⟩
    · exact h rfl
theorem rs_O (h : t.length ≤ 256) : stO (recS k iv s 23 0 t ++ Z) = true := by
  unfold stO
  rw [rs_F k iv s t Z h, rs_N k iv s t Z h, rs_len, decide_eq_true (show 5 ≤ t.length + 22 + Z.length by omega), decide_eq_true (show t.length + 17 + 5 ≤ t.length + 22 + Z.length by omega)]
  rfl
theorem rs_K (h : t.length ≤ 256) : stK (recS k iv s 23 0 t ++ Z) = 23 := by
  unfold stK
  rw [if_pos (rs_O k iv s t Z h), (rs_get k iv s t Z).1]
  rfl
theorem rs_X (h : t.length ≤ 256) : stX (recS k iv s 23 0 t ++ Z) = t.length + 22 := by
  unfold stX
  rw [if_pos (rs_O k iv s t Z h), rs_N k iv s t Z h]
  omega
theorem rs_drop : (recS k iv s 23 0 t ++ Z).drop (t.length + 22) = Z := by
  have e : (recS k iv s 23 0 t).length = t.length + 22 := by rw [recS_len, rec_len0]
  rw [← e, List.drop_left]
theorem rs_B (h : t.length ≤ 256) : stB (recS k iv s 23 0 t ++ Z) = recB k iv s 23 0 t := by
  unfold stB
  rw [if_pos (rs_O k iv s t Z h), rs_N k iv s t Z h, recS_eq, List.append_assoc]
  show List.take (t.length + 17) (recB k iv s 23 0 t ++ Z) = _
  rw [← rec_len0 k iv s t, List.take_left]
end
end Go.Spec

namespace Go.Spec
open Go.Sym
theorem rcat_cases (k iv : F8) (T : Nat → By) (a N : Nat) (h : a ≤ N) : (a = N ∧ rcat k iv T a (N - a) = []) ∨ (a < N ∧ rcat k iv T a (N - a) = recS k iv (BitVec.ofInt 64 (a : Int)) 23 0 (T a) ++ rcat k iv T (a + 1) (N - (a + 1))) := by
  rcases Nat.lt_or_ge a N with h1 | h1
  · refine .inr ⟨h1, ?_⟩
    rw [show N - a = (N - (a + 1)) + 1 by omega]
    rfl
  · obtain rfl : a = N := by omega
    refine .inl ⟨rfl, ?_⟩
    rw [Nat.sub_self]
    rfl
section
variable {k iv : F8} {T : Nat → By} {a N : Nat} {M R : By} (hT : ∀ j, (T j).length ≤ 256) (ha : a ≤ N) (hM : M ++ R = rcat k iv T a (N - a))
include hT ha hM
theorem rr_F : stF M = 0 := by
  by_cases h : stF M = 0
  · exact h
  · exfalso
    have e := stF_app (R := R) h
    rw [hM] at e
    rcases rcat_cases k iv T a N ha with ⟨_, h2⟩ | ⟨_, h2⟩
    · rw [h2] at hM
      have h3 := (List.append_eq_nil_iff.1 hM).1
      rw [h3] at h
      exact h rfl
    · rw [h2, rs_F _ _ _ _ _ (hT a)] at e
      exact h e.symm
theorem rr_O (hO : stO M = true) : a < N ∧ stK M = 23 ∧ stB M = recB k iv (BitVec.ofInt 64 (a : Int)) 23 0 (T a) ∧ stX M ≤ M.length ∧ M.drop (stX M) ++ R = rcat k iv T (a + 1) (N - (a + 1)) := by
  obtain ⟨a1, a2, a3, a4⟩ := stO_app (R := R) hO
  obtain ⟨o1, o2, o3⟩ := stO_len hO
  rw [hM] at a1 a2 a3 a4
  rcases rcat_cases k iv T a N ha with ⟨_, h2⟩ | ⟨h1, h2⟩
  · rw [h2] at a1
    cases a1
  · rw [h2, rs_K _ _ _ _ _ (hT a)] at a2
    rw [h2, rs_B _ _ _ _ _ (hT a)] at a3
    rw [h2, rs_X _ _ _ _ _ (hT a)] at a4
    refine ⟨h1, a2.symm, a3.symm, by omega, ?_⟩
    rw [← List.drop_append_of_le_length (by omega), hM, h2, ← a4, rs_drop]
theorem rr_end (hR : R = []) (hO : stO M = false) : a = N ∧ M = [] := by
  subst hR
  rw [List.append_nil] at hM
  rcases rcat_cases k iv T a N ha with ⟨h1, h2⟩ | ⟨h1, h2⟩
  · exact ⟨h1, by rw [hM, h2]⟩
  · rw [hM, h2, rs_O _ _ _ _ _ (hT a)] at hO
    cases hO
end
theorem rcat_len {k iv : F8} {T : Nat → By} (hT : ∀ j, (T j).length ≤ 256) : ∀ (m a : Nat), (rcat k iv T a m).length ≤ 278 * m
  | 0, a => Nat.le_refl 0
  | m + 1, a => by
    have h1 := rcat_len (k := k) (iv := iv) hT m (a + 1)
    have h2 := hT a
    show (recS k iv (BitVec.ofInt 64 (a : Int)) 23 0 (T a) ++ rcat k iv T (a + 1) m).length ≤ _
    rw [rs_len]
    omega
end Go.Spec

namespace Go.Sym
set_option linter.unusedVariables false
open Go.ChangeShapes Go.WideShapes
section
variable {H : Type} {enc : TypeId × Value → H} {P : Program} {W : World} {base : Nat} {spare : Nat → Bool} {held : Bool}
theorem rd_rowsF {t e : TypeId} {fuel : Nat} {cs : List Value} {x : DataW H × List MemPlace} {sz : Nat} {l : List Sh} {av0 : List AV} (ht : P.underlying t = some (.slice e)) (hsz : P.cellsOf e = sz) (hpos : 0 < sz) (hfl : flat P 9 e = some l) (h0 : shAll l av0)
    (h : DataW.trod enc P W base spare held fuel t cs = some x) : ∃ v n g c, cs = [v] ∧ (c = true → n = 0) ∧ n ≤ maxLen ∧ (∀ y, shAll l (g y)) ∧ VRel (κW W) (.ros true sz n g (.is c)) v :=
  rd_rows ht hsz hpos h0 (fun n xs y hh => rd_flat 9 e l n xs y hfl hh) h
end
/-- Rows of four numbers. -/
theorem sh_four {g : Nat → List AV} (h : ∀ y, shAll [.i .i64, .i .i64, .i .i64, .i .i64] (g y)) : ∃ A B C D : Nat → Int, g = fun y => [.int .i64 (A y), .int .i64 (B y), .int .i64 (C y), .int .i64 (D y)] := by
  have each : ∀ y, ∃ a b c d : Int, g y = [.int .i64 a, .int .i64 b, .int .i64 c, .int .i64 d] := by
    intro y
    obtain ⟨a, r, e1, ⟨n1, k1, _⟩, h1⟩ := sh_cons (h y)
    obtain ⟨b, r, e2, ⟨n2, k2, _⟩, h2⟩ := sh_cons h1
    obtain ⟨c, r, e3, ⟨n3, k3, _⟩, h3⟩ := sh_cons h2
    obtain ⟨d, r, e4, ⟨n4, k4, _⟩, h4⟩ := sh_cons h3
    have e5 := sh_nil h4
    subst e5
    exact ⟨n1, n2, n3, n4, by rw [e1, e2, e3, e4, k1, k2, k3, k4]⟩
  refine ⟨fun y => Classical.choose (each y), fun y => Classical.choose (Classical.choose_spec (each y)), fun y => Classical.choose (Classical.choose_spec (Classical.choose_spec (each y))), fun y => Classical.choose (Classical.choose_spec (Classical.choose_spec (Classical.choose_spec (each y)))), ?_⟩
  funext y
  exact Classical.choose_spec (Classical.choose_spec (Classical.choose_spec (Classical.choose_spec (each y))))
/-- Rows of bytes. -/
theorem sh_rb {g : Nat → List AV} (h : ∀ y, shAll [.y] (g y)) : ∃ (F : Nat → List (BitVec 8)) (C : Nat → Bool), g = (fun y => [.rb true (F y) (.is (C y))]) ∧ ∀ y, (C y = true → F y = []) ∧ (F y).length ≤ maxLen := by
  have each : ∀ y, ∃ (l : List (BitVec 8)) (c : Bool), g y = [.rb true l (.is c)] ∧ (c = true → l = []) ∧ l.length ≤ maxLen := by
    intro y
    obtain ⟨a, r, e1, ⟨l, c, k1, k2, k3⟩, h1⟩ := sh_cons (h y)
    have e5 := sh_nil h1
    subst e5
    exact ⟨l, c, by rw [e1, k1], k2, k3⟩
  refine ⟨fun y => Classical.choose (each y), fun y => Classical.choose (Classical.choose_spec (each y)), ?_, fun y => (Classical.choose_spec (Classical.choose_spec (each y))).2⟩
  funext y
  exact (Classical.choose_spec (Classical.choose_spec (each y))).1
end Go.Sym
