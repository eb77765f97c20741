/- RelayTurns: who sends turns the key when its numbers run out, who receives turns it with him, and each text is read; no number of an epoch is used twice. Condition: the tables of the packages start as the text of the program lays them, which the card ties. -/
import Derived.Test.YtiebadbcdheldaaDoorRelA
import Derived.Test.YtiebadbcdheldaaDoorShaB
import Derived.Test.YtiebadbcdheldaaDoorChaC
namespace Go.Sym
open Go.Proofs Go.Spec
set_option linter.unusedVariables false
set_option maxRecDepth 100000 in
theorem vtu (key : F8) (n : Int) (m : Nat) : bodyP Tryd.prog V5 gl0 [] [(6, lsTu key n m)] 3000 Tryd.f6 0 [aggB 32 key, .int .i64 n] [] (retQ Tryd.prog Tryd.f6 0 ⟨[], .bool true, [], []⟩) = (
(∃ (x : TuS), tuI m x ∧
 n = n ∧
 0 = 0 ∧
 0 = 0 ∧
 0 = 0 ∧
 (↑x.k : Int) = (0 : Int) ∧
 (↑x.i : Int) = (0 : Int) ∧
 allP (fun (i : Nat) => trS key x.e i = key i) 0 32 (allP (fun (i : Nat) => trS key x.e i = key i) 0 32 ((↑x.e : Int) = Int.ofNat 0 ∧
 (↑x.k : Int) = (0 : Int) ∧
 (↑(c8u x.k) : Int) = (0 : Int) ∧
 True))) ∧
 ∀ (x : TuS), let x1 := recS (fun (i : Nat) => (rgA (dkB (rg 32 (nxB (rg 32 (trS key x.e))))) 0 32 (rg 12 (diB (rg 32 (nxB (rg 32 (trS key x.e))))))).getD i (0 : BitVec 8)) (fun (i : Nat) => (rgA (dkB (rg 32 (nxB (rg 32 (trS key x.e))))) 0 32 (rg 12 (diB (rg 32 (nxB (rg 32 (trS key x.e))))))).getD (32 + i) (0 : BitVec 8)) (BitVec.ofNat 64 0) (23 : Int) (0 : Int) [BitVec.ofInt 8 (↑x.i : Int)]; let x2 := recS (fun (i : Nat) => (rgA (dkB (rg 32 (trS key x.e))) 0 32 (rg 12 (diB (rg 32 (trS key x.e))))).getD i (0 : BitVec 8)) (fun (i : Nat) => (rgA (dkB (rg 32 (trS key x.e))) 0 32 (rg 12 (diB (rg 32 (trS key x.e))))).getD (32 + i) (0 : BitVec 8)) (BitVec.ofInt 64 (↑x.k : Int)) (23 : Int) (0 : Int) [BitVec.ofInt 8 (↑x.i : Int)]; let x3 := rgA (dkB (rg 32 (nxB (rg 32 (trS key x.e))))) 0 32 (rg 12 (diB (rg 32 (nxB (rg 32 (trS key x.e)))))); let x4 := rgA (dkB (rg 32 (trS key x.e))) 0 32 (rg 12 (diB (rg 32 (trS key x.e)))); let x5 := List.take (List.length x2 - 5) (List.drop 5 x2); let x6 := List.take (List.length x1 - 5) (List.drop 5 x1); let x7 := Max.max (↑(c8u x.k) : Int) (((↑x.k : Int) + Min.min (1 : Int) ((64 : Int) - (↑x.k : Int)) + (7 : Int)) / (8 : Int) * (8 : Int)); let x8 := fun (i : Nat) => x3.getD (32 + i) (0 : BitVec 8); let x9 := fun (i : Nat) => x4.getD (32 + i) (0 : BitVec 8); let x10 := fun (i : Nat) => x3.getD i (0 : BitVec 8); let x11 := fun (i : Nat) => x4.getD i (0 : BitVec 8); let x12 := gR (↑x.e : Int) (↑x.k : Int) (gW (↑x.k : Int) (↑(c8u x.k) : Int) (1 : Int)) ∧
 1 = [BitVec.ofInt 8 (↑x.i : Int)].length ∧
 Bool.true = Bool.false ∧
 True; tuI m x → @Bool.rec (fun _ => Prop) (Bool.true = Bool.true ∧
 True) (gR (↑x.e : Int) (↑x.k : Int) (↑(c8u x.k) : Int) ∧
 @Bool.rec (fun _ => Prop) (gR (↑x.e : Int) (↑x.k : Int) (↑(c8u x.k) : Int) ∧
 ((0 : Int) ≤ (1 : Int) ∧
 (1 : Int) ≤ (64 : Int)) ∧
 gR (↑x.e : Int) (↑x.k : Int) (↑(c8u x.k) : Int) ∧
 (↑(c8u x.k) : Int) ≤ x7 ∧
 x7 ≤ (64 : Int) ∧
 x7 % (8 : Int) = (0 : Int) ∧
 @Bool.rec (fun _ => Prop) (@Bool.rec (fun _ => Prop) (gR (↑x.e : Int) (↑x.k : Int) (gW (↑x.k : Int) (↑(c8u x.k) : Int) (1 : Int)) ∧
 1 = [BitVec.ofInt 8 (↑x.i : Int)].length ∧
 @Bool.rec (fun _ => Prop) (Bool.true = Bool.false ∧
 True) (@Bool.rec (fun _ => Prop) (Bool.true = Bool.false ∧
 True) (@Bool.rec (fun _ => Prop) (5 ≤ List.length x2 ∧
 @Bool.rec (fun _ => Prop) (5 + (List.length x2 - 5) ≤ List.length x2 ∧
 x5.length < 549755813888 ∧
 Bool.true = Bool.false ∧
 True) (5 + (List.length x2 - 5) ≤ List.length x2 ∧
 x5.length < 549755813888 ∧
 @Bool.rec (fun _ => Prop) (Bool.true = Bool.false ∧
 True) (@Bool.rec (fun _ => Prop) (Bool.true = Bool.false ∧
 True) (0 < trimN (BitVec.ofNat 8 0) (opM x11 x9 (BitVec.ofInt 64 (↑x.k : Int)) x5) - 1 ∧
 0 < List.length (opM x11 x9 (BitVec.ofInt 64 (↑x.k : Int)) x5) ∧
 @Bool.rec (fun _ => Prop) (∃ (y : TuS), m - y.i < m - x.i ∧
 tuI m y ∧
 n = n ∧
 0 = 0 ∧
 0 = 0 ∧
 0 = 0 ∧
 (↑y.k : Int) = IntKind.i64.wrap ((↑x.k : Int) + (1 : Int)) ∧
 (↑y.i : Int) = IntKind.i64.wrap ((↑x.i : Int) + (1 : Int)) ∧
 allP (fun (i : Nat) => trS key y.e i = trS key x.e i) 0 32 (allP (fun (i : Nat) => trS key y.e i = trS key x.e i) 0 32 ((↑y.e : Int) = (↑x.e : Int) ∧
 (↑y.k : Int) = (↑x.k : Int) + (1 : Int) ∧
 (↑(c8u y.k) : Int) = x7 ∧
 True))) (Bool.true = Bool.false ∧
 True) !decide (List.getD (opM x11 x9 (BitVec.ofInt 64 (↑x.k : Int)) x5) 0 (0 : BitVec 8) = BitVec.ofInt 8 (↑x.i : Int))) !!decide ((↑(trimN (BitVec.ofNat 8 0) (opM x11 x9 (BitVec.ofInt 64 (↑x.k : Int)) x5) - 1) : Int) = (1 : Int))) !!decide (lastT (opM x11 x9 (BitVec.ofInt 64 (↑x.k : Int)) x5) = (23 : Int))) (decide (recE x11 x9 (BitVec.ofInt 64 (↑x.k : Int)) x5 = (0 : Int)))) (5 ≤ List.length x2 ∧
 @Bool.rec (fun _ => Prop) (5 + (List.length x2 - 5) ≤ List.length x2 ∧
 x5.length < 549755813888 ∧
 Bool.true = Bool.false ∧
 True) (5 + (List.length x2 - 5) ≤ List.length x2 ∧
 x5.length < 549755813888 ∧
 @Bool.rec (fun _ => Prop) (Bool.true = Bool.false ∧
 True) (@Bool.rec (fun _ => Prop) (Bool.true = Bool.false ∧
 True) (0 < trimN (BitVec.ofNat 8 0) (opM x10 x8 (BitVec.ofNat 64 0) x5) - 1 ∧
 0 < List.length (opM x10 x8 (BitVec.ofNat 64 0) x5) ∧
 @Bool.rec (fun _ => Prop) (∃ (y : TuS), m - y.i < m - x.i ∧
 tuI m y ∧
 n = n ∧
 0 = 0 ∧
 0 = 0 ∧
 0 = 0 ∧
 (↑y.k : Int) = Int.ofNat 1 ∧
 (↑y.i : Int) = IntKind.i64.wrap ((↑x.i : Int) + (1 : Int)) ∧
 allP (fun (i : Nat) => trS key y.e i = trS key x.e i) 0 32 (allP (fun (i : Nat) => trS key y.e i = nxB (rg 32 (trS key x.e)) i) 0 32 ((↑y.e : Int) = (↑x.e : Int) ∧
 (↑y.k : Int) = (↑x.k : Int) + (1 : Int) ∧
 (↑(c8u y.k) : Int) = x7 ∧
 True))) (Bool.true = Bool.false ∧
 True) !decide (List.getD (opM x10 x8 (BitVec.ofNat 64 0) x5) 0 (0 : BitVec 8) = BitVec.ofInt 8 (↑x.i : Int))) !!decide ((↑(trimN (BitVec.ofNat 8 0) (opM x10 x8 (BitVec.ofNat 64 0) x5) - 1) : Int) = (1 : Int))) !!decide (lastT (opM x10 x8 (BitVec.ofNat 64 0) x5) = (23 : Int))) (decide (recE x10 x8 (BitVec.ofNat 64 0) x5 = (0 : Int)))) (decide ((↑x.k : Int) = (64 : Int)))) !!decide ((↑x.k : Int) = (↑x.i : Int).tmod (64 : Int))) !!decide ((↑x.e : Int) = IntKind.i64.wrap ((↑x.i : Int).tdiv (64 : Int)))) x12 (decide ((↑x.k : Int) = x7))) x12 (decide ((↑x.k : Int) = (64 : Int)))) (gR (↑x.e : Int) (↑x.k : Int) (↑(c8u x.k) : Int) ∧
 (↑x.e : Int) < (1000000 : Int) ∧
 gR ((↑x.e : Int) + (1 : Int)) (0 : Int) (0 : Int) ∧
 ((0 : Int) ≤ (1 : Int) ∧
 (1 : Int) ≤ (64 : Int)) ∧
 gR ((↑x.e : Int) + (1 : Int)) (0 : Int) (0 : Int) ∧
 (0 : Int) ≤ Int.ofNat 8 ∧
 Int.ofNat 8 ≤ (64 : Int) ∧
 Int.ofNat 0 = (0 : Int) ∧
 gR ((↑x.e : Int) + (1 : Int)) (0 : Int) (gW (0 : Int) (0 : Int) (1 : Int)) ∧
 1 = [BitVec.ofInt 8 (↑x.i : Int)].length ∧
 @Bool.rec (fun _ => Prop) (Bool.true = Bool.false ∧
 True) (@Bool.rec (fun _ => Prop) (Bool.true = Bool.false ∧
 True) (@Bool.rec (fun _ => Prop) (5 ≤ List.length x1 ∧
 @Bool.rec (fun _ => Prop) (5 + (List.length x1 - 5) ≤ List.length x1 ∧
 x6.length < 549755813888 ∧
 Bool.true = Bool.false ∧
 True) (5 + (List.length x1 - 5) ≤ List.length x1 ∧
 x6.length < 549755813888 ∧
 @Bool.rec (fun _ => Prop) (Bool.true = Bool.false ∧
 True) (@Bool.rec (fun _ => Prop) (Bool.true = Bool.false ∧
 True) (0 < trimN (BitVec.ofNat 8 0) (opM x11 x9 (BitVec.ofInt 64 (↑x.k : Int)) x6) - 1 ∧
 0 < List.length (opM x11 x9 (BitVec.ofInt 64 (↑x.k : Int)) x6) ∧
 @Bool.rec (fun _ => Prop) (∃ (y : TuS), m - y.i < m - x.i ∧
 tuI m y ∧
 n = n ∧
 0 = 0 ∧
 0 = 0 ∧
 0 = 0 ∧
 (↑y.k : Int) = IntKind.i64.wrap ((↑x.k : Int) + (1 : Int)) ∧
 (↑y.i : Int) = IntKind.i64.wrap ((↑x.i : Int) + (1 : Int)) ∧
 allP (fun (i : Nat) => trS key y.e i = nxB (rg 32 (trS key x.e)) i) 0 32 (allP (fun (i : Nat) => trS key y.e i = trS key x.e i) 0 32 ((↑y.e : Int) = (↑x.e : Int) + (1 : Int) ∧
 (↑y.k : Int) = Int.ofNat 1 ∧
 (↑(c8u y.k) : Int) = Int.ofNat 8 ∧
 True))) (Bool.true = Bool.false ∧
 True) !decide (List.getD (opM x11 x9 (BitVec.ofInt 64 (↑x.k : Int)) x6) 0 (0 : BitVec 8) = BitVec.ofInt 8 (↑x.i : Int))) !!decide ((↑(trimN (BitVec.ofNat 8 0) (opM x11 x9 (BitVec.ofInt 64 (↑x.k : Int)) x6) - 1) : Int) = (1 : Int))) !!decide (lastT (opM x11 x9 (BitVec.ofInt 64 (↑x.k : Int)) x6) = (23 : Int))) (decide (recE x11 x9 (BitVec.ofInt 64 (↑x.k : Int)) x6 = (0 : Int)))) (5 ≤ List.length x1 ∧
 @Bool.rec (fun _ => Prop) (5 + (List.length x1 - 5) ≤ List.length x1 ∧
 x6.length < 549755813888 ∧
 Bool.true = Bool.false ∧
 True) (5 + (List.length x1 - 5) ≤ List.length x1 ∧
 x6.length < 549755813888 ∧
 @Bool.rec (fun _ => Prop) (Bool.true = Bool.false ∧
 True) (@Bool.rec (fun _ => Prop) (Bool.true = Bool.false ∧
 True) (0 < trimN (BitVec.ofNat 8 0) (opM x10 x8 (BitVec.ofNat 64 0) x6) - 1 ∧
 0 < List.length (opM x10 x8 (BitVec.ofNat 64 0) x6) ∧
 @Bool.rec (fun _ => Prop) (∃ (y : TuS), m - y.i < m - x.i ∧
 tuI m y ∧
 n = n ∧
 0 = 0 ∧
 0 = 0 ∧
 0 = 0 ∧
 (↑y.k : Int) = Int.ofNat 1 ∧
 (↑y.i : Int) = IntKind.i64.wrap ((↑x.i : Int) + (1 : Int)) ∧
 allP (fun (i : Nat) => trS key y.e i = nxB (rg 32 (trS key x.e)) i) 0 32 (allP (fun (i : Nat) => trS key y.e i = nxB (rg 32 (trS key x.e)) i) 0 32 ((↑y.e : Int) = (↑x.e : Int) + (1 : Int) ∧
 (↑y.k : Int) = Int.ofNat 1 ∧
 (↑(c8u y.k) : Int) = Int.ofNat 8 ∧
 True))) (Bool.true = Bool.false ∧
 True) !decide (List.getD (opM x10 x8 (BitVec.ofNat 64 0) x6) 0 (0 : BitVec 8) = BitVec.ofInt 8 (↑x.i : Int))) !!decide ((↑(trimN (BitVec.ofNat 8 0) (opM x10 x8 (BitVec.ofNat 64 0) x6) - 1) : Int) = (1 : Int))) !!decide (lastT (opM x10 x8 (BitVec.ofNat 64 0) x6) = (23 : Int))) (decide (recE x10 x8 (BitVec.ofNat 64 0) x6 = (0 : Int)))) (decide ((↑x.k : Int) = (64 : Int)))) !!decide ((0 : Int) = (↑x.i : Int).tmod (64 : Int))) !!decide ((↑x.e : Int) + (1 : Int) = IntKind.i64.wrap ((↑x.i : Int).tdiv (64 : Int)))) (decide (IntKind.i64.wrap ((64 : Int) - (↑x.k : Int)) = (0 : Int)))) (decide ((↑x.i : Int) < IntKind.i64.wrap (↑(BitVec.ofInt 64 n % BitVec.ofNat 64 200).toNat : Int))) : Prop) := by kernel_rfl
end Go.Sym

namespace Go.Sym
open Go.Proofs Go.Spec
set_option linter.unusedVariables false
theorem nnf {p : Prop} [Decidable p] (h : (!!decide p) = false) : ¬ p := by
  intro hp; rw [decide_eq_true hp] at h; cases h
theorem ntf {p : Prop} [Decidable p] (h : (!decide p) = true) : ¬ p := by
  intro hp; rw [decide_eq_true hp] at h; cases h
/-- A record of one byte, opened again. -/
theorem one_open (K I : Nat → BitVec 8) (s : BitVec 64) (c : BitVec 8) :
    5 ≤ (recS K I s 23 0 [c]).length ∧ (List.take ((recS K I s 23 0 [c]).length - 5) (List.drop 5 (recS K I s 23 0 [c]))).length < 549755813888 ∧
    recE K I s (List.take ((recS K I s 23 0 [c]).length - 5) (List.drop 5 (recS K I s 23 0 [c]))) = 0 ∧
    opM K I s (List.take ((recS K I s 23 0 [c]).length - 5) (List.drop 5 (recS K I s 23 0 [c]))) = recI 23 0 [c] ∧
    lastT (recI 23 0 [c]) = 23 ∧ trimN (BitVec.ofNat 8 0) (recI 23 0 [c]) - 1 = 1 := by
  have hS : (recS K I s 23 0 [c]).length = 1 + 22 + 0 := recS_length K I s 23 0 [c]
  have hB : List.take ((recS K I s 23 0 [c]).length - 5) (List.drop 5 (recS K I s 23 0 [c])) = recB K I s 23 0 [c] := recS_cut _ _ _ _ _ _ _ (by rw [recS_len]; omega)
  have hb : recBad 23 0 [c].length = false := rfl
  have ht : trimN (BitVec.ofNat 8 0) (recI 23 0 [c]) = [c].length + 1 := trim_recI [c] (by decide) (by decide)
  have hl : (recB K I s 23 0 [c]).length = 18 := by
    have := recS_len K I s 23 0 [c]
    omega
  rw [hB, ht]
  exact ⟨by omega, by omega, recE_recB K I s hb, opM_recB K I s 23 0 [c], lastT_recI [c] (by decide) (by decide), rfl⟩
theorem c8u_ok (k : Nat) (h : k ≤ 64) : k ≤ c8u k ∧ c8u k ≤ 64 ∧ c8u k % 8 = 0 ∧ c8u k < k + 8 := by
  unfold c8u
  omega
set_option maxRecDepth 100000 in
theorem btu (key : Nat → BitVec 8) (n : Int) (m : Nat) (hm : IntKind.i64.wrap (↑(BitVec.ofInt 64 n % BitVec.ofNat 64 200).toNat : Int) = (m : Int)) (h200 : m < 200) : Must (bodyP Tryd.prog V5 gl0 [] [(6, lsTu key n m)] 3000 Tryd.f6 0 [aggB 32 key, .int .i64 n] [] (retQ Tryd.prog Tryd.f6 0 ⟨[], .bool true, [], []⟩)) := by
  constructor
  rw [vtu, hm]
  refine ⟨⟨⟨0, 0, 0⟩, ⟨Nat.zero_le _, rfl, Nat.zero_le _, .inr rfl⟩, rfl, rfl, rfl, rfl, rfl, rfl, allP_of _ _ (fun j _ _ => rfl) (allP_of _ _ (fun j _ _ => rfl) ⟨rfl, rfl, rfl, trivial⟩)⟩, ?_⟩
  intro x x1 x2 x3 x4 x5 x6 x7 x8 x9 x10 x11 x12 hI
  obtain ⟨i, e, k⟩ := x
  have im : i ≤ m := hI.im
  have ik : i = 64 * e + k := hI.ik
  have k1 : k ≤ 64 := hI.k1
  have k0 : 0 < k ∨ i = 0 := hI.k0
  obtain ⟨a1, a2, a3, a4, a5, a6⟩ := one_open x10 x8 (BitVec.ofNat 64 0) (BitVec.ofInt 8 (i : Int))
  obtain ⟨b1, b2, b3, b4, b5, b6⟩ := one_open x11 x9 (BitVec.ofInt 64 (k : Int)) (BitVec.ofInt 8 (i : Int))
  have a1 : 5 ≤ x1.length := a1
  have a2 : x6.length < 549755813888 := a2
  have a3 : recE x10 x8 (BitVec.ofNat 64 0) x6 = 0 := a3
  have a4 : opM x10 x8 (BitVec.ofNat 64 0) x6 = recI 23 0 [BitVec.ofInt 8 (i : Int)] := a4
  have b1 : 5 ≤ x2.length := b1
  have b2 : x5.length < 549755813888 := b2
  have b3 : recE x11 x9 (BitVec.ofInt 64 (k : Int)) x5 = 0 := b3
  have b4 : opM x11 x9 (BitVec.ofInt 64 (k : Int)) x5 = recI 23 0 [BitVec.ofInt 8 (i : Int)] := b4
  have hx7 : x7 = gW k (c8u k) 1 := rfl
  have hlen : (recI 23 0 [BitVec.ofInt 8 (i : Int)]).length = 2 := rfl
  have hget : List.getD (recI 23 0 [BitVec.ofInt 8 (i : Int)]) 0 (0 : BitVec 8) = BitVec.ofInt 8 (i : Int) := rfl
  generalize recI 23 0 [BitVec.ofInt 8 (i : Int)] = r at *
  clear_value x1 x2 x5 x6 x8 x9 x10 x11 x12
  obtain ⟨u1, u2, u3, u4⟩ := c8u_ok k k1
  have hR : gR e k (c8u k) := .of (by omega) (by omega) (by omega) (by omega) (by omega)
  refine brec (fun c1 => ?_) (fun _ => ⟨rfl, trivial⟩)
  have c1 : (i : Int) < (m : Int) := dt' c1
  have c1' : i < m := by omega
  have w1 : ((i + 1 : Nat) : Int) = IntKind.i64.wrap ((i : Int) + 1) := (wrap_nat _ (by omega) (by omega)).symm
  have w2 : ((k + 1 : Nat) : Int) = IntKind.i64.wrap ((k : Int) + 1) := (wrap_nat _ (by omega) (by omega)).symm
  have wd : IntKind.i64.wrap ((i : Int).tdiv 64) = ((i / 64 : Nat) : Int) := wrap_nat _ (by rw [Int.tdiv_eq_ediv_of_nonneg (by omega)]; omega) (by omega)
  have wm : (i : Int).tmod 64 = ((i % 64 : Nat) : Int) := by rw [Int.tmod_eq_emod_of_nonneg (by omega)]; omega
  have w64 : IntKind.i64.wrap ((64 : Int) - (k : Int)) = 64 - k := wrap_i64 (by omega) (by omega)
  refine ⟨hR, ?_⟩
  refine brec (fun c2 => ?_) (fun c2 => ?_)
  · have c2 : IntKind.i64.wrap ((64 : Int) - (k : Int)) = 0 := dt' c2
    have hk : k = 64 := by omega
    have g0 : gR ((e : Int) + 1) 0 0 := .of (by omega) (by omega) (by omega) (by omega) rfl
    refine ⟨hR, (by show (e : Int) < 1000000; omega), g0, ⟨by omega, by omega⟩, g0, by decide, by decide, rfl, .of (by omega) (by decide) (by decide) (by decide) (by decide), rfl, ?_⟩
    refine brec (fun _ => ?_) (fun h => absurd (show (e : Int) + 1 = IntKind.i64.wrap ((i : Int).tdiv 64) by rw [wd]; omega) (nnf h))
    refine brec (fun _ => ?_) (fun h => absurd (show (0 : Int) = (i : Int).tmod 64 by rw [wm]; omega) (nnf h))
    refine brec (fun _ => ?_) (fun h => absurd (show (k : Int) = 64 by omega) (df' h))
    refine ⟨a1, ?_⟩
    refine brec (fun _ => ?_) (fun h => absurd a3 (df' h))
    refine ⟨by omega, a2, ?_⟩
    rw [a4]
    refine brec (fun _ => ?_) (fun h => absurd a5 (nnf h))
    refine brec (fun _ => ?_) (fun h => absurd (show ((trimN (BitVec.ofNat 8 0) r - 1 : Nat) : Int) = 1 by rw [a6]; rfl) (nnf h))
    refine ⟨by rw [a6]; exact Nat.one_pos, by rw [hlen]; exact Nat.two_pos, ?_⟩
    refine brec (fun h => absurd hget (ntf h)) (fun _ => ?_)
    refine ⟨⟨i + 1, e + 1, 1⟩, by show m - (i + 1) < m - i; omega, ⟨?_, ?_, ?_, ?_⟩, rfl, rfl, rfl, rfl, rfl, w1, allP_of _ _ (fun j _ _ => rfl) (allP_of _ _ (fun j _ _ => rfl) ⟨rfl, rfl, (by show ((c8u 1 : Nat) : Int) = Int.ofNat 8; decide), trivial⟩)⟩
    · show i + 1 ≤ m; omega
    · show i + 1 = 64 * (e + 1) + 1; omega
    · show 1 ≤ 64; omega
    · exact .inl Nat.one_pos
  · have c2 : ¬ IntKind.i64.wrap ((64 : Int) - (k : Int)) = 0 := df' c2
    have hk : k < 64 := by omega
    obtain ⟨v1, v2, v3, v4⟩ := c8u_ok (k + 1) (by omega)
    have h7 : x7 = ((c8u (k + 1) : Nat) : Int) := by
      rw [hx7]
      unfold gW c8u
      omega
    have hR7 : gR e k (gW k (c8u k) 1) := by
      rw [← hx7, h7]
      exact .of (by omega) (by omega) (by omega) (by omega) (by omega)
    clear_value x7
    subst h7
    refine ⟨hR, ⟨by omega, by omega⟩, hR, (by show ((c8u k : Nat) : Int) ≤ ((c8u (k + 1) : Nat) : Int); omega), by omega, by omega, ?_⟩
    refine brec (fun h => absurd (dt' h : (k : Int) = 64) (by omega)) (fun _ => ?_)
    refine brec (fun h => absurd (dt' h : (k : Int) = ((c8u (k + 1) : Nat) : Int)) (by omega)) (fun _ => ?_)
    refine ⟨hR7, rfl, ?_⟩
    refine brec (fun _ => ?_) (fun h => absurd (show (e : Int) = IntKind.i64.wrap ((i : Int).tdiv 64) by rw [wd]; omega) (nnf h))
    refine brec (fun _ => ?_) (fun h => absurd (show (k : Int) = (i : Int).tmod 64 by rw [wm]; omega) (nnf h))
    refine brec (fun h => absurd (dt' h : (k : Int) = 64) (by omega)) (fun _ => ?_)
    refine ⟨b1, ?_⟩
    refine brec (fun _ => ?_) (fun h => absurd b3 (df' h))
    refine ⟨by omega, b2, ?_⟩
    rw [b4]
    refine brec (fun _ => ?_) (fun h => absurd b5 (nnf h))
    refine brec (fun _ => ?_) (fun h => absurd (show ((trimN (BitVec.ofNat 8 0) r - 1 : Nat) : Int) = 1 by rw [b6]; rfl) (nnf h))
    refine ⟨by rw [b6]; exact Nat.one_pos, by rw [hlen]; exact Nat.two_pos, ?_⟩
    refine brec (fun h => absurd hget (ntf h)) (fun _ => ?_)
    refine ⟨⟨i + 1, e, k + 1⟩, by show m - (i + 1) < m - i; omega, ⟨?_, ?_, ?_, ?_⟩, rfl, rfl, rfl, rfl, w2, w1, allP_of _ _ (fun j _ _ => rfl) (allP_of _ _ (fun j _ _ => rfl) ⟨rfl, rfl, rfl, trivial⟩)⟩
    · show i + 1 ≤ m; omega
    · show i + 1 = 64 * e + (k + 1); omega
    · show k + 1 ≤ 64; omega
    · exact .inl (Nat.succ_pos _)
end Go.Sym

namespace Go.Sym
open Go.Proofs Go.Spec
set_option linter.unusedVariables false
def tuM (n : Int) : Nat := (BitVec.ofInt 64 n % BitVec.ofNat 64 200).toNat
theorem btu6 (key : Nat → BitVec 8) (n : Int) : Must (bodyP Tryd.prog V5 gl0 [] [(6, lsTu key n (tuM n))] 3000 Tryd.f6 0 [aggB 32 key, .int .i64 n] [] (retQ Tryd.prog Tryd.f6 0 ⟨[], .bool true, [], []⟩)) := by
  have h : (BitVec.ofInt 64 n % BitVec.ofNat 64 200).toNat < 200 := by
    rw [BitVec.toNat_umod]
    exact Nat.mod_lt _ (by decide)
  have e : tuM n = (BitVec.ofInt 64 n % BitVec.ofNat 64 200).toNat := rfl
  exact btu key n (tuM n) (wrap_nat _ rfl (by omega)) h
end Go.Sym

/- RelayTurns: who sends turns the key when its numbers run out, who receives turns it with him, and each text is read; no number of an epoch is used twice. Condition: the tables of the packages start as the text of the program lays them, which the card ties. -/
namespace Go.Sym
open Go.Proofs Go.Spec
theorem w6 (W : World) (hG : GW gl0 W) (v0 : Value) (k : Nat → BitVec 8) (h0 : VRel (κW W) (aggB 32 k) v0) (n1 : Int) :
    Calls Tryd.prog 6 #[v0, .int .i64 n1] W fun e w' => e = .returned (.bool true) ∧ RowKit.Below W.heap.size W w' := by
  have hv : VRels (κW W) [aggB 32 k, .int .i64 n1] [v0, .int .i64 n1] := by
    simp only [VRels]
    exact ⟨_, _, rfl, h0, _, _, rfl, rfl, rfl⟩
  refine law_walk (gl := gl0) (Γ := V5) (fn := Tryd.f6) (av := [aggB 32 k, .int .i64 n1]) (ls := [(6, lsTu k n1 (tuM n1))]) [] 3000 (by kernel_rfl) (by kernel_rfl) okV5 (by kernel_rfl) hG (by kernel_rfl) hv ?_
  exact btu6 k n1
end Go.Sym
namespace Go.Proofs.YtiebadbcdheldaaDoor.relayTurns
open Go.ChangeShapes Go.WideShapes Go.ChangeAt Go.WideMaps Go.WideElems Go.RowKit
set_option linter.unusedVariables false
set_option maxRecDepth 100000 in
theorem lifted (os : Os) (started : os.Started) (H : Type) (enc : TypeId × Value → H) :
    ReturnsInHanded {} Tryd.checked os 6 .any (fun w args => (Rows.relayTurnsSpec.pre enc Tryd.prog Tryd.f6 [] false w args ∧ laidMetH Tryd.prog laid4 w) ∧ sizedMet enc Tryd.prog Tryd.f6 (OpenSpec.ofChange Rows.relayTurnsSpec) false w args)
      (Rows.relayTurnsSpec.post enc Tryd.prog Tryd.f6 false true false false) := by
  refine returnsInHanded_of_change_and (C := Tryd.checked) (X := fun w _ => laidMetH Tryd.prog laid4 w) (fun _ _ _ hh h => h.of_heap hh) own started (by kernel_rfl) Tryd.func6
    (ChangeSpec.witness_shaped (enc := enc) (C := Tryd.checked) (os := os) (X := fun w _ => laidMetH Tryd.prog laid4 w) false (World.laidAll Tryd.prog os laid4) #[.agg (Array.replicate 32 (.int .u8 0)), .int .i64 0] 8 (World.laidAll_os _ _ _) (World.shaped_of_ZipB (by kernel_rfl) (by kernel_rfl)) (by kernel_rfl) (by kernel_rfl) (by kernel_rfl) (by rw [MakeChecks.laidMetH_plain _ _ _ (by kernel_rfl)]; exact laidMet_laidAll _ (by kernel_rfl) (by kernel_rfl))) ?_
  intro W base args ds gs before hval0 hW _ _ hL _
  have hval : ∀ (j : Nat) t v, Tryd.f6.params[j]? = some t → args[j]? = some v → Value.okWide Tryd.prog W .any base t v := hval0
  have hW' := hW
  obtain ⟨p, q, hA0, hV, rfl, hfz, hnd⟩ := hW
  have hA : DataW.TrodAll enc Tryd.prog W 0 (fun _ => true) true Tryd.f6.params.toList args.toList ds p := hA0
  rw [Tryd.params6] at hA hval
  obtain ⟨v0, vs0, d0, ds0, p0, q0, hargs, rfl, rfl, h0, r0⟩ := trodAll_cons hA
  obtain ⟨v1, vs1, d1, ds1, p1, q1, rfl, rfl, rfl, h1, r1⟩ := trodAll_cons r0
  obtain ⟨rfl, rfl, rfl⟩ := trodAll_nil r1
  obtain rfl : args = #[v0, v1] := by cases args; simp_all
  obtain ⟨rfl, rfl⟩ := trodVars_none hV
  obtain ⟨a1, rfl, rfl, rfl, w1⟩ := open_int Tryd.underlying3 (hval 1 3 v1 rfl rfl) h1
  clear hA0 hval0
  have hlt0 : ∀ x ∈ p0, x.block < W.heap.size := fun x hx => hW'.lt x (by simp [hx])
  obtain ⟨fuel0, hf0⟩ := h0
  obtain ⟨avs0, hs0, hd0, hr0⟩ := Go.Sym.rd_flat 9 22 (List.replicate 32 (.i .u8)) _ _ _ (by kernel_rfl) hf0
  obtain ⟨k, rfl⟩ := Go.Sym.sh_by hs0
  have hu0 := Go.Sym.agg_of_cells hr0 (by simp)
  refine (Go.Sym.w6 W (gw_laid4 hL) v0 k hu0 a1).mono fun e W' ⟨he, bel⟩ => ?_
  subst he
  exact ⟨_, rfl, _, _, _, [], _, [], hW', trodAll_mk1 (shut_bool Tryd.underlying4 _), (trodAll_cons_mk (Below.trod laidO (by kernel_rfl) (of_decide_eq_true (by kernel_rfl)) ⟨fuel0, hf0⟩ bel hlt0) (trodAll_cons_mk (shut_int Tryd.underlying3 w1) trodAll_mk0)), rfl, bel.frame _, fun h => by cases h⟩

theorem over : Rows.relayTurnsRow.holds Tryd.pinned (OpenSpec.ofChange Rows.relayTurnsSpec) :=
  OpenClaim.holds_of_wide 6 Tryd.f6 rfl rfl rfl rfl rfl rfl rfl ⟨rfl, rfl, rfl, rfl, rfl⟩ rfl rfl rfl rfl rfl (by kernel_rfl) Tryd.func6 (by kernel_rfl)
    (of_decide_eq_true (by kernel_rfl)) (by unfold Func.isWrapper; first | (rw [if_pos (by decide +kernel)]; kernel_rfl) | (rw [if_neg (by decide +kernel)]; exact ⟨rfl, rfl⟩))
    (fun os started H enc _ => lifted os started H enc)

theorem proved : Rows.RelayTurnsCardSaid :=
  Claim7.holds_tied_plain_at .later [] [.data, .data, .data, .pinned] true (true, "4f7a8e753edb5b4691afba683ba9c8f8d97d01650ee63b208324206125437412") false
    over (fun _ h => by cases h) (by kernel_rfl) (fun _ h => by cases h) relayTurns_row_tie rfl ⟨rfl, rfl⟩ (by kernel_rfl) rfl
    (fun f fn hf hfn => by
      obtain rfl : f = 6 := Option.some.inj ((show Tryd.prog.funcNamed "relay/relaytop.RelayTurns" = some 6 by kernel_rfl).symm.trans hf) |>.symm
      obtain rfl : fn = Tryd.f6 := (Option.some.inj (Tryd.func6.symm.trans hfn)).symm
      exact ⟨by kernel_rfl, fun j t ht => by
        rw [Tryd.params6] at ht
        have hm : t ∈ [22, 3] := by simpa using Array.mem_of_getElem? ht
        have hall : ([22, 3].all fun u => !Tryd.prog.wantsStandIn u) = true := by kernel_rfl
        exact (show Tryd.prog.wantsStandIn t = false by simpa using List.all_eq_true.1 hall t hm)⟩)
    (by kernel_rfl)
#print axioms proved
end Go.Proofs.YtiebadbcdheldaaDoor.relayTurns
