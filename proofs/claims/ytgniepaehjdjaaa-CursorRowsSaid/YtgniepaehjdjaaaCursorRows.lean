/- CursorRows: numbers and vectors that are put side by side are read again, in order. No conditions. -/
import Derived.Test.YtgniepaehjdjaaaCurB
import Derived.Test.YtgniepaehjdjaaaRows
import Derived.WalkKit
import Derived.ProofKit
import Derived.OpenShut
import Derived.ChangeOld
import Derived.Below
import Derived.Carry
namespace Go.Spec
/-- Vectors and numbers side by side. -/
def crB (V : Nat → By) (w : Int) : Nat → By
  | 0 => []
  | i + 1 => puB (pvB (crB V w i) (V i) w) i w
def v60 (l : By) : By := l.take (min (l.length : Int) 60).toNat
end Go.Spec
namespace Go.Sym
open Go.Proofs Go.Spec
set_option linter.unusedVariables false
def lsX1 (F : Nat → By) (C : Nat → Bool) (n : Nat) (c : Bool) (w : Int) : LS := ⟨Nat, fun i => [(0, .ros true 1 n (fun j => [.rb true (F j) (.is (C j))]) (.is c)), (5, .int .i64 w), (6, .rb false (crB (fun j => v60 (F j)) w i) .unk), (7, .int .i64 i), (8, .int .i64 i)],
  fun i => [], 1000, fun i => 20 - i, fun i => i ≤ 20 ∧ i ≤ n, fun _ => []⟩
def lsX2 (F : Nat → By) (C : Nat → Bool) (n : Nat) (c : Bool) (w : Int) (N : Nat) (L : By) (x : Nat → Nat) : LS := ⟨Nat, fun i => [(0, .ros true 1 n (fun j => [.rb true (F j) (.is (C j))]) (.is c)), (5, .int .i64 w), (7, .int .i64 N), (9, .ptr 101 0 0 0), (10, .int .i64 i)],
  fun i => [(101, rdCn 102 (x i) (L.length - x i) 0), (102, rdL L)], 1000, fun i => N - i, fun i => i ≤ N, fun _ => []⟩
end Go.Sym

namespace Go.Sym
open Go.Proofs Go.Spec
set_option linter.unusedVariables false
set_option maxRecDepth 100000 in
theorem vq4 (L : By) (c : Bool) (n N : Nat) (F : Nat → By) (C : Nat → Bool) (w m : Int) (x : Nat → Nat) : bodyP Try.prog Q22 gl0 [] [(6, lsX1 F C n c w), (12, lsX2 F C n c w N L x)] 3000 Try.f4 0 [.ros true 1 n (fun j => [.rb true (F j) (.is (C j))]) (.is c), .int .i64 m] [] (retQ Try.prog Try.f4 0 ⟨[], .bool true, [], []⟩) = (
(∃ (x : Nat), (x ≤ 20 ∧
 x ≤ n) ∧
 c = c ∧
 n = n ∧
 (∀ (y : Nat), y < n → datas Bool.true [AV.rb Bool.true (F y) (NL.is (C y))] = Bool.true ∧
 C y = C y ∧
 F y = F y ∧
 True) ∧
 w = IntKind.i64.wrap ((1 : Int) + IntKind.i64.wrap (↑(BitVec.ofInt 64 m % BitVec.ofNat 64 4).toNat : Int)) ∧
 crB (fun (j : Nat) => v60 (F j)) w x = [] ∧
 (↑x : Int) = (0 : Int) ∧
 (↑x : Int) = (0 : Int) ∧
 True) ∧
 ∀ (x_1 : Nat), x_1 ≤ 20 ∧
 x_1 ≤ n → @Bool.rec (fun _ => Prop) (List.length (crB (fun (j : Nat) => v60 (F j)) w x_1) < 1099511627776 ∧
 (∃ (x_2 : Nat), x_2.le N ∧
 c = c ∧
 n = n ∧
 (∀ (y : Nat), y < n → datas Bool.true [AV.rb Bool.true (F y) (NL.is (C y))] = Bool.true ∧
 C y = C y ∧
 F y = F y ∧
 True) ∧
 w = w ∧
 (↑N : Int) = (↑x_1 : Int) ∧
 0 = 0 ∧
 (↑x_2 : Int) = (0 : Int) ∧
 x x_2 = 0 ∧
 0 = 0 ∧
 x x_2 = 0 ∧
 List.length L - x x_2 = List.length (crB (fun (j : Nat) => v60 (F j)) w x_1) ∧
 (0 : Int) = (0 : Int) ∧
 L = crB (fun (j : Nat) => v60 (F j)) w x_1 ∧
 True) ∧
 ∀ (x_2 : Nat), x_2.le N → @Bool.rec (fun _ => Prop) (@Bool.rec (fun _ => Prop) (Bool.true = Bool.false ∧
 True) (Bool.true = Bool.true ∧
 True) (decide (dnV (List.length L - x x_2) (0 : Int) = (0 : Int)))) (x x_2 + (List.length L - x x_2) = List.length L ∧
 List.length L < 1099511627776 ∧
 List.length (veB L (x x_2) (0 : Int) w (0 : Int) (60 : Int)) = List.length (veB L (x x_2) (0 : Int) w (0 : Int) (60 : Int)) ∧
 (0 : Int) ≤ (↑x_2 : Int) ∧
 (↑x_2 : Int).toNat < n ∧
 (0 : Int) ≤ (↑x_2 : Int) ∧
 (↑x_2 : Int).toNat < n ∧
 (0 : Int) ≤ Min.min (↑(List.length (F (↑x_2 : Int).toNat)) : Int) (60 : Int) ∧
 (Min.min (↑(List.length (F (↑x_2 : Int).toNat)) : Int) (60 : Int)).toNat ≤ List.length (F (↑x_2 : Int).toNat) ∧
 @Bool.rec (fun _ => Prop) (Bool.true = Bool.false ∧
 True) (veX L (x x_2) (0 : Int) w + (List.length L - veX L (x x_2) (0 : Int) w) = List.length L ∧
 List.length L < 1099511627776 ∧
 @Bool.rec (fun _ => Prop) (Bool.true = Bool.false ∧
 True) (@Bool.rec (fun _ => Prop) (∃ (y : Nat), N - y < N - x_2 ∧
 y.le N ∧
 c = c ∧
 n = n ∧
 (∀ (y : Nat), y < n → datas Bool.true [AV.rb Bool.true (F y) (NL.is (C y))] = Bool.true ∧
 C y = C y ∧
 F y = F y ∧
 True) ∧
 w = w ∧
 (↑N : Int) = (↑N : Int) ∧
 0 = 0 ∧
 (↑y : Int) = IntKind.i64.wrap ((↑x_2 : Int) + (1 : Int)) ∧
 x y = uiX L (veX L (x x_2) (0 : Int) w) (veE L (x x_2) (0 : Int) w (0 : Int) (60 : Int)) w ∧
 0 = 0 ∧
 x y = uiX L (veX L (x x_2) (0 : Int) w) (veE L (x x_2) (0 : Int) w (0 : Int) (60 : Int)) w ∧
 List.length L - x y = List.length L - uiX L (veX L (x x_2) (0 : Int) w) (veE L (x x_2) (0 : Int) w (0 : Int) (60 : Int)) w ∧
 (0 : Int) = uiE L (veX L (x x_2) (0 : Int) w) (veE L (x x_2) (0 : Int) w (0 : Int) (60 : Int)) w ∧
 L = L ∧
 True) (Bool.true = Bool.false ∧
 True) !decide (lfV (List.length L - uiX L (veX L (x x_2) (0 : Int) w) (veE L (x x_2) (0 : Int) w (0 : Int) (60 : Int)) w) (uiE L (veX L (x x_2) (0 : Int) w) (veE L (x x_2) (0 : Int) w (0 : Int) (60 : Int)) w) = IntKind.i64.wrap (IntKind.i64.wrap (lfV (List.length L - x x_2) (0 : Int) - IntKind.i64.wrap ((2 : Int) * w)) - (↑(List.length (veB L (x x_2) (0 : Int) w (0 : Int) (60 : Int))) : Int)))) !!decide ((↑(uiV L (veX L (x x_2) (0 : Int) w) (veE L (x x_2) (0 : Int) w (0 : Int) (60 : Int)) w) : Int) = (↑x_2 : Int))) !!decide (veB L (x x_2) (0 : Int) w (0 : Int) (60 : Int) = List.take (Min.min (↑(List.length (F (↑x_2 : Int).toNat)) : Int) (60 : Int)).toNat (F (↑x_2 : Int).toNat))) (decide ((↑x_2 : Int) < (↑N : Int)))) (@Bool.rec (fun _ => Prop) (List.length (crB (fun (j : Nat) => v60 (F j)) w x_1) < 1099511627776 ∧
 (∃ (x_2 : Nat), x_2.le N ∧
 c = c ∧
 n = n ∧
 (∀ (y : Nat), y < n → datas Bool.true [AV.rb Bool.true (F y) (NL.is (C y))] = Bool.true ∧
 C y = C y ∧
 F y = F y ∧
 True) ∧
 w = w ∧
 (↑N : Int) = (↑x_1 : Int) ∧
 0 = 0 ∧
 (↑x_2 : Int) = (0 : Int) ∧
 x x_2 = 0 ∧
 0 = 0 ∧
 x x_2 = 0 ∧
 List.length L - x x_2 = List.length (crB (fun (j : Nat) => v60 (F j)) w x_1) ∧
 (0 : Int) = (0 : Int) ∧
 L = crB (fun (j : Nat) => v60 (F j)) w x_1 ∧
 True) ∧
 ∀ (x_2 : Nat), x_2.le N → @Bool.rec (fun _ => Prop) (@Bool.rec (fun _ => Prop) (Bool.true = Bool.false ∧
 True) (Bool.true = Bool.true ∧
 True) (decide (dnV (List.length L - x x_2) (0 : Int) = (0 : Int)))) (x x_2 + (List.length L - x x_2) = List.length L ∧
 List.length L < 1099511627776 ∧
 List.length (veB L (x x_2) (0 : Int) w (0 : Int) (60 : Int)) = List.length (veB L (x x_2) (0 : Int) w (0 : Int) (60 : Int)) ∧
 (0 : Int) ≤ (↑x_2 : Int) ∧
 (↑x_2 : Int).toNat < n ∧
 (0 : Int) ≤ (↑x_2 : Int) ∧
 (↑x_2 : Int).toNat < n ∧
 (0 : Int) ≤ Min.min (↑(List.length (F (↑x_2 : Int).toNat)) : Int) (60 : Int) ∧
 (Min.min (↑(List.length (F (↑x_2 : Int).toNat)) : Int) (60 : Int)).toNat ≤ List.length (F (↑x_2 : Int).toNat) ∧
 @Bool.rec (fun _ => Prop) (Bool.true = Bool.false ∧
 True) (veX L (x x_2) (0 : Int) w + (List.length L - veX L (x x_2) (0 : Int) w) = List.length L ∧
 List.length L < 1099511627776 ∧
 @Bool.rec (fun _ => Prop) (Bool.true = Bool.false ∧
 True) (@Bool.rec (fun _ => Prop) (∃ (y : Nat), N - y < N - x_2 ∧
 y.le N ∧
 c = c ∧
 n = n ∧
 (∀ (y : Nat), y < n → datas Bool.true [AV.rb Bool.true (F y) (NL.is (C y))] = Bool.true ∧
 C y = C y ∧
 F y = F y ∧
 True) ∧
 w = w ∧
 (↑N : Int) = (↑N : Int) ∧
 0 = 0 ∧
 (↑y : Int) = IntKind.i64.wrap ((↑x_2 : Int) + (1 : Int)) ∧
 x y = uiX L (veX L (x x_2) (0 : Int) w) (veE L (x x_2) (0 : Int) w (0 : Int) (60 : Int)) w ∧
 0 = 0 ∧
 x y = uiX L (veX L (x x_2) (0 : Int) w) (veE L (x x_2) (0 : Int) w (0 : Int) (60 : Int)) w ∧
 List.length L - x y = List.length L - uiX L (veX L (x x_2) (0 : Int) w) (veE L (x x_2) (0 : Int) w (0 : Int) (60 : Int)) w ∧
 (0 : Int) = uiE L (veX L (x x_2) (0 : Int) w) (veE L (x x_2) (0 : Int) w (0 : Int) (60 : Int)) w ∧
 L = L ∧
 True) (Bool.true = Bool.false ∧
 True) !decide (lfV (List.length L - uiX L (veX L (x x_2) (0 : Int) w) (veE L (x x_2) (0 : Int) w (0 : Int) (60 : Int)) w) (uiE L (veX L (x x_2) (0 : Int) w) (veE L (x x_2) (0 : Int) w (0 : Int) (60 : Int)) w) = IntKind.i64.wrap (IntKind.i64.wrap (lfV (List.length L - x x_2) (0 : Int) - IntKind.i64.wrap ((2 : Int) * w)) - (↑(List.length (veB L (x x_2) (0 : Int) w (0 : Int) (60 : Int))) : Int)))) !!decide ((↑(uiV L (veX L (x x_2) (0 : Int) w) (veE L (x x_2) (0 : Int) w (0 : Int) (60 : Int)) w) : Int) = (↑x_2 : Int))) !!decide (veB L (x x_2) (0 : Int) w (0 : Int) (60 : Int) = List.take (Min.min (↑(List.length (F (↑x_2 : Int).toNat)) : Int) (60 : Int)).toNat (F (↑x_2 : Int).toNat))) (decide ((↑x_2 : Int) < (↑N : Int)))) ((0 : Int) ≤ (↑x_1 : Int) ∧
 (↑x_1 : Int).toNat < n ∧
 (0 : Int) ≤ (↑x_1 : Int) ∧
 (↑x_1 : Int).toNat < n ∧
 (0 : Int) ≤ Min.min (↑(List.length (F (↑x_1 : Int).toNat)) : Int) (60 : Int) ∧
 (Min.min (↑(List.length (F (↑x_1 : Int).toNat)) : Int) (60 : Int)).toNat ≤ List.length (F (↑x_1 : Int).toNat) ∧
 @Bool.rec (fun _ => Prop) (List.length (crB (fun (j : Nat) => v60 (F j)) w x_1) + (List.take (Min.min (↑(List.length (F (↑x_1 : Int).toNat)) : Int) (60 : Int)).toNat (F (↑x_1 : Int).toNat)).length < 549755813888 ∧
 @Bool.rec (fun _ => Prop) (List.length (crB (fun (j : Nat) => v60 (F j)) w x_1) + w.toNat + (List.take (Min.min (↑(List.length (F (↑x_1 : Int).toNat)) : Int) (60 : Int)).toNat (F (↑x_1 : Int).toNat)).length = List.length (pvB (crB (fun (j : Nat) => v60 (F j)) w x_1) (List.take (Min.min (↑(List.length (F (↑x_1 : Int).toNat)) : Int) (60 : Int)).toNat (F (↑x_1 : Int).toNat)) w) ∧
 List.length (pvB (crB (fun (j : Nat) => v60 (F j)) w x_1) (List.take (Min.min (↑(List.length (F (↑x_1 : Int).toNat)) : Int) (60 : Int)).toNat (F (↑x_1 : Int).toNat)) w) < 1099511627776 ∧
 ∃ (y : Nat), 20 - y < 20 - x_1 ∧
 (y ≤ 20 ∧
 y ≤ n) ∧
 c = c ∧
 n = n ∧
 (∀ (y : Nat), y < n → datas Bool.true [AV.rb Bool.true (F y) (NL.is (C y))] = Bool.true ∧
 C y = C y ∧
 F y = F y ∧
 True) ∧
 w = w ∧
 List.length (pvB (crB (fun (j : Nat) => v60 (F j)) w x_1) (List.take (Min.min (↑(List.length (F (↑x_1 : Int).toNat)) : Int) (60 : Int)).toNat (F (↑x_1 : Int).toNat)) w) + w.toNat = List.length (puB (pvB (crB (fun (j : Nat) => v60 (F j)) w x_1) (List.take (Min.min (↑(List.length (F (↑x_1 : Int).toNat)) : Int) (60 : Int)).toNat (F (↑x_1 : Int).toNat)) w) (↑x_1 : Int) w) ∧
 crB (fun (j : Nat) => v60 (F j)) w y = puB (pvB (crB (fun (j : Nat) => v60 (F j)) w x_1) (List.take (Min.min (↑(List.length (F (↑x_1 : Int).toNat)) : Int) (60 : Int)).toNat (F (↑x_1 : Int).toNat)) w) (↑x_1 : Int) w ∧
 List.length (pvB (crB (fun (j : Nat) => v60 (F j)) w x_1) (List.take (Min.min (↑(List.length (F (↑x_1 : Int).toNat)) : Int) (60 : Int)).toNat (F (↑x_1 : Int).toNat)) w) + w.toNat = List.length (crB (fun (j : Nat) => v60 (F j)) w y) ∧
 (↑y : Int) = IntKind.i64.wrap ((↑x_1 : Int) + (1 : Int)) ∧
 (↑y : Int) = IntKind.i64.wrap ((↑x_1 : Int) + (1 : Int)) ∧
 True) (List.length (crB (fun (j : Nat) => v60 (F j)) w x_1) + w.toNat + (List.take (Min.min (↑(List.length (F (↑x_1 : Int).toNat)) : Int) (60 : Int)).toNat (F (↑x_1 : Int).toNat)).length = List.length (pvB (crB (fun (j : Nat) => v60 (F j)) w x_1) (List.take (Min.min (↑(List.length (F (↑x_1 : Int).toNat)) : Int) (60 : Int)).toNat (F (↑x_1 : Int).toNat)) w) ∧
 List.length (pvB (crB (fun (j : Nat) => v60 (F j)) w x_1) (List.take (Min.min (↑(List.length (F (↑x_1 : Int).toNat)) : Int) (60 : Int)).toNat (F (↑x_1 : Int).toNat)) w) < 1099511627776 ∧
 ∃ (y : Nat), 20 - y < 20 - x_1 ∧
 (y ≤ 20 ∧
 y ≤ n) ∧
 c = c ∧
 n = n ∧
 (∀ (y : Nat), y < n → datas Bool.true [AV.rb Bool.true (F y) (NL.is (C y))] = Bool.true ∧
 C y = C y ∧
 F y = F y ∧
 True) ∧
 w = w ∧
 crB (fun (j : Nat) => v60 (F j)) w y = [] ∧
 (↑y : Int) = IntKind.i64.wrap ((↑x_1 : Int) + (1 : Int)) ∧
 (↑y : Int) = IntKind.i64.wrap ((↑x_1 : Int) + (1 : Int)) ∧
 True) (puBad (↑x_1 : Int) w)) (List.length (crB (fun (j : Nat) => v60 (F j)) w x_1) + (List.take (Min.min (↑(List.length (F (↑x_1 : Int).toNat)) : Int) (60 : Int)).toNat (F (↑x_1 : Int).toNat)).length < 549755813888 ∧
 @Bool.rec (fun _ => Prop) (0 < 1099511627776 ∧
 ∃ (y : Nat), 20 - y < 20 - x_1 ∧
 (y ≤ 20 ∧
 y ≤ n) ∧
 c = c ∧
 n = n ∧
 (∀ (y : Nat), y < n → datas Bool.true [AV.rb Bool.true (F y) (NL.is (C y))] = Bool.true ∧
 C y = C y ∧
 F y = F y ∧
 True) ∧
 w = w ∧
 0 + w.toNat = List.length (puB [] (↑x_1 : Int) w) ∧
 crB (fun (j : Nat) => v60 (F j)) w y = puB [] (↑x_1 : Int) w ∧
 0 + w.toNat = List.length (crB (fun (j : Nat) => v60 (F j)) w y) ∧
 (↑y : Int) = IntKind.i64.wrap ((↑x_1 : Int) + (1 : Int)) ∧
 (↑y : Int) = IntKind.i64.wrap ((↑x_1 : Int) + (1 : Int)) ∧
 True) (0 < 1099511627776 ∧
 ∃ (y : Nat), 20 - y < 20 - x_1 ∧
 (y ≤ 20 ∧
 y ≤ n) ∧
 c = c ∧
 n = n ∧
 (∀ (y : Nat), y < n → datas Bool.true [AV.rb Bool.true (F y) (NL.is (C y))] = Bool.true ∧
 C y = C y ∧
 F y = F y ∧
 True) ∧
 w = w ∧
 crB (fun (j : Nat) => v60 (F j)) w y = [] ∧
 (↑y : Int) = IntKind.i64.wrap ((↑x_1 : Int) + (1 : Int)) ∧
 (↑y : Int) = IntKind.i64.wrap ((↑x_1 : Int) + (1 : Int)) ∧
 True) (puBad (↑x_1 : Int) w)) (puBad (↑(List.take (Min.min (↑(List.length (F (↑x_1 : Int).toNat)) : Int) (60 : Int)).toNat (F (↑x_1 : Int).toNat)).length : Int) w)) (decide ((↑x_1 : Int) < (20 : Int)))) (decide ((↑x_1 : Int) < (↑n : Int))) : Prop) := by kernel_rfl
end Go.Sym

set_option linter.unusedSimpArgs false
namespace Go.Spec
theorem puL_succ (n w : Nat) : puL n (w + 1) = puL (n / 256) w ++ [BitVec.ofNat 8 n] := by
  unfold puL
  rw [List.range_succ, List.map_append]
  congr 1
  · apply List.map_congr_left
    intro i hi
    have hi : i < w := by simpa using hi
    congr 1
    have e : w + 1 - 1 - i = (w - 1 - i) + 1 := by omega
    rw [e, Nat.pow_succ, Nat.mul_comm, Nat.div_div_eq_div_mul]
  · simp
theorem beN_puL : ∀ (w n : Nat), beN (puL n w) = n % 256 ^ w
  | 0, n => by simp [puL, beN, Nat.mod_one]
  | w + 1, n => by
    have h : 256 ^ (w + 1) = 256 * 256 ^ w := by rw [Nat.pow_succ, Nat.mul_comm]
    rw [puL_succ, beN_snoc, beN_puL w (n / 256), BitVec.toNat_ofNat, h, Nat.mod_mul]
    omega
theorem rd_at {L A v R : By} {x : Nat} {m : Int} (hL : L = A ++ (v ++ R)) (hx : x = A.length) (hm : m = (v.length : Int)) :
    rdE L x 0 m = 0 ∧ rdX L x 0 m = A.length + v.length ∧ rdB L x 0 m = v := by
  subst hL hx hm
  have hE : rdE (A ++ (v ++ R)) A.length 0 (v.length : Int) = 0 := by
    unfold rdE
    rw [if_neg (by simp), if_neg (by omega), if_neg (by simp only [List.length_append]; omega)]
  refine ⟨hE, by simp [rdX, hE], ?_⟩
  unfold rdB
  rw [if_pos hE]
  simp
theorem ui_at {L A R : By} {x n W : Nat} {w : Int} (hL : L = A ++ (puL n W ++ R)) (hx : x = A.length) (hw : w = (W : Int)) (h1 : 1 ≤ W) (h4 : W ≤ 4) (hn : n < 256 ^ W) :
    uiE L x 0 w = 0 ∧ uiX L x 0 w = A.length + W ∧ uiV L x 0 w = n := by
  have hl := puL_len n W
  obtain ⟨k1, k2, k3⟩ := rd_at (m := w) hL hx (by rw [hl, hw])
  rw [uiE_w _ _ _ _ (by omega) (by omega), uiX_w _ _ _ _ (by omega) (by omega), uiV_w _ _ _ _ (by omega) (by omega), k1, k2, k3, beN_puL, hl, Nat.mod_eq_of_lt hn]
  exact ⟨rfl, rfl, rfl⟩
theorem ve_at {L A v R : By} {x W : Nat} {w a z : Int} (hL : L = A ++ (puL v.length W ++ (v ++ R))) (hx : x = A.length) (hw : w = (W : Int)) (h1 : 1 ≤ W) (h4 : W ≤ 4) (hn : v.length < 256 ^ W)
    (ha : a ≤ (v.length : Int)) (hz : (v.length : Int) ≤ z) : veE L x 0 w a z = 0 ∧ veX L x 0 w = A.length + W + v.length ∧ veB L x 0 w a z = v := by
  obtain ⟨k1, k2, k3⟩ := ui_at hL hx hw h1 h4 hn
  have hl := puL_len v.length W
  obtain ⟨j1, j2, j3⟩ := rd_at (L := L) (A := A ++ puL v.length W) (v := v) (R := R) (x := A.length + W) (m := (v.length : Int)) (by rw [hL]; simp) (by simp [hl]) rfl
  have hE : veE L x 0 w a z = 0 := by
    unfold veE
    rw [k1, k2, k3, j1, if_neg (by simp), if_neg (by omega)]
  refine ⟨hE, ?_, ?_⟩
  · unfold veX
    rw [k1, k2, k3, j2]
    simp [hl]
  · unfold veB
    rw [if_pos hE, k1, k2, k3, j3]
theorem puBad_ok {n w : Int} (h1 : 1 ≤ w) (h4 : w ≤ 4) (h0 : 0 ≤ n) (hn : n < 256 ^ w.toNat) : puBad n w = false := by
  unfold puBad
  rw [decide_eq_true h1, decide_eq_true h4, decide_eq_false (by omega), decide_eq_false (by omega)]
  rfl
theorem pow256 (w : Nat) (h : 1 ≤ w) : 256 ≤ 256 ^ w := Nat.le_trans (by decide) (Nat.pow_le_pow_right (by decide) h)
theorem pow256i {w : Int} (h : 1 ≤ w) : (256 : Int) ≤ 256 ^ w.toNat := by
  have := pow256 w.toNat (by omega)
  have h2 : ((256 ^ w.toNat : Nat) : Int) = (256 : Int) ^ w.toNat := by rw [Int.natCast_pow]; rfl
  rw [← h2]; omega
end Go.Spec

set_option linter.unusedSimpArgs false
namespace Go.Spec
theorem v60_len (l : By) : (v60 l).length ≤ 60 := by simp [v60]; omega
theorem crB_succ (V : Nat → By) (W i : Nat) : crB V W (i + 1) = crB V W i ++ (puL (V i).length W ++ (V i ++ puL i W)) := by
  simp [crB, pvB, puB]
theorem crB_pre (V : Nat → By) (W i : Nat) : ∀ k, ∃ R, crB V W (i + k) = crB V W i ++ R
  | 0 => ⟨[], by simp⟩
  | k + 1 => by
    obtain ⟨R, h⟩ := crB_pre V W i k
    exact ⟨R ++ (puL (V (i + k)).length W ++ (V (i + k) ++ puL (i + k) W)), by rw [← Nat.add_assoc, crB_succ, h]; simp⟩
theorem crB_len (V : Nat → By) (W : Nat) (hV : ∀ i, (V i).length ≤ 60) (hW : W ≤ 4) : ∀ i, (crB V W i).length ≤ i * 68
  | 0 => by simp [crB]
  | i + 1 => by
    rw [crB_succ]
    have := crB_len V W hV hW i
    have := hV i
    simp [puL_len]
    omega
end Go.Spec
namespace Go.Sym
open Go.Proofs Go.Spec
set_option linter.unusedVariables false
def cxW (m : Int) : Nat := 1 + (BitVec.ofInt 64 m % BitVec.ofNat 64 4).toNat
theorem bq4 (c : Bool) (n : Nat) (F : Nat → By) (C : Nat → Bool) (m : Int) : Must (bodyP Try.prog Q22 gl0 [] [(6, lsX1 F C n c (cxW m)), (12, lsX2 F C n c (cxW m) (min n 20) (crB (fun j => v60 (F j)) (cxW m) (min n 20)) (fun i => (crB (fun j => v60 (F j)) (cxW m) i).length))] 3000 Try.f4 0 [.ros true 1 n (fun j => [.rb true (F j) (.is (C j))]) (.is c), .int .i64 m] [] (retQ Try.prog Try.f4 0 ⟨[], .bool true, [], []⟩)) := by
  constructor
  rw [vq4]
  have hw : IntKind.i64.wrap ((1 : Int) + IntKind.i64.wrap (↑(BitVec.ofInt 64 m % BitVec.ofNat 64 4).toNat : Int)) = (cxW m : Int) := by
    have hr : (BitVec.ofInt 64 m % BitVec.ofNat 64 4).toNat < 4 := by
      rw [BitVec.toNat_umod]; exact Nat.mod_lt _ (by decide)
    rw [wrap_i64 (x := ((BitVec.ofInt 64 m % BitVec.ofNat 64 4).toNat : Int)) (by omega) (by omega)]
    exact wrap_nat _ (by unfold cxW; omega) (by unfold cxW; omega)
  have hW1 : 1 ≤ cxW m := by unfold cxW; omega
  have hW4 : cxW m ≤ 4 := by
    have hr : (BitVec.ofInt 64 m % BitVec.ofNat 64 4).toNat < 4 := by
      rw [BitVec.toNat_umod]; exact Nat.mod_lt _ (by decide)
    unfold cxW; omega
  rw [hw]
  generalize cxW m = W at hW1 hW4
  have hV : ∀ i, ((fun j => v60 (F j)) i).length ≤ 60 := fun i => v60_len _
  have hv : ∀ i, List.take (min ((F i).length : Int) 60).toNat (F i) = v60 (F i) := fun i => rfl
  simp only [hv, Int.toNat_natCast]
  generalize hVd : (fun j => v60 (F j)) = V at hV ⊢
  have hVi : ∀ i, v60 (F i) = V i := fun i => by rw [← hVd]
  simp only [hVi]
  have hlen := crB_len V W hV hW4
  have h256 := pow256 W hW1
  have hwrap : ∀ i : Nat, i ≤ 20 → IntKind.i64.wrap ((i : Int) + 1) = ((i + 1 : Nat) : Int) := fun i hi => wrap_nat _ (by omega) (by omega)
  have hdat : ∀ y, y < n → datas true [AV.rb true (F y) (NL.is (C y))] = true := fun _ _ => rfl
  refine ⟨⟨0, ⟨by decide, Nat.zero_le _⟩, ?_⟩, fun i hi => ?_⟩
  · and_intros <;> first | exact trivial | rfl | (intro y hy; simp only [datas, AV.data]; simp; done)
  obtain ⟨hi1, hi2⟩ := hi
  by_cases hc : i < n ∧ i < 20
  · obtain ⟨g1, g2⟩ := hc
    have d1 : decide ((i : Int) < (n : Int)) = true := decide_eq_true (by omega)
    have d2 : decide ((i : Int) < 20) = true := decide_eq_true (by omega)
    have hv1 := hV i
    have b1 : puBad ((V i).length : Int) W = false := puBad_ok (by omega) (by omega) (by omega) (by have := pow256i (w := (W : Int)) (by omega); omega)
    have b2 : puBad (i : Int) W = false := puBad_ok (by omega) (by omega) (by omega) (by have := pow256i (w := (W : Int)) (by omega); omega)
    have hli := hlen i
    rw [d1, d2, b1, b2]
    have lp : (pvB (crB V W i) (V i) W).length = (crB V W i).length + W + (V i).length := by simp [pvB, puB_len]
    refine ⟨by omega, by omega, by omega, by omega, by omega, by omega, by omega, by rw [lp], by omega, i + 1, by omega, ⟨by omega, by omega⟩, ?_⟩
    rw [hwrap i hi1]
    and_intros <;> first | exact trivial | rfl | (intro y hy; simp only [datas, AV.data]; simp; done) | (show _ = (puB _ _ _).length; rw [puB_len, Int.toNat_natCast]; done)
  · have hN : i = min n 20 := by omega
    have hd : (decide ((i : Int) < (n : Int)) = true ∧ decide ((i : Int) < 20) = false) ∨ decide ((i : Int) < (n : Int)) = false := by
      by_cases g1 : i < n
      · exact .inl ⟨decide_eq_true (by omega), decide_eq_false (by omega)⟩
      · exact .inr (decide_eq_false (by omega))
    rcases hd with ⟨d1, d2⟩ | d1
    · rw [d1, d2]
      refine ⟨by have := hlen i; omega, ⟨0, Nat.zero_le _, ?_⟩, fun j hj => brec (fun h => ?_) (fun h => ?_)⟩
      · rw [← hN]
        and_intros <;> first | exact trivial | rfl | (intro y hy; simp only [datas, AV.data]; simp; done)
      · have hj2 : j < min n 20 := by have := dlt.1 h; omega
        generalize hM : min n 20 = N at *
        obtain ⟨R, hR⟩ := crB_pre V W (j + 1) (N - (j + 1))
        rw [show j + 1 + (N - (j + 1)) = N by omega] at hR
        have hL1 : crB V W N = crB V W j ++ (puL (V j).length W ++ (V j ++ (puL j W ++ R))) := by rw [hR, crB_succ]; simp
        have hL2 : crB V W N = (crB V W j ++ (puL (V j).length W ++ V j)) ++ (puL j W ++ R) := by rw [hL1]; simp
        have hv1 := hV j
        obtain ⟨k1, k2, k3⟩ := ve_at (w := (W : Int)) (a := 0) (z := 60) hL1 rfl rfl hW1 hW4 (by omega) (by omega) (by omega)
        have lA : (crB V W j ++ (puL (V j).length W ++ V j)).length = (crB V W j).length + W + (V j).length := by simp [puL_len]; omega
        obtain ⟨u1, u2, u3⟩ := ui_at (w := (W : Int)) hL2 lA.symm rfl hW1 hW4 (by omega)
        have lN := hlen N
        have l1 : (crB V W N).length = (crB V W j).length + W + (V j).length + W + R.length := by rw [hL1]; simp [puL_len]; omega
        have lS : (crB V W (j + 1)).length = (crB V W j).length + W + (V j).length + W := by rw [crB_succ]; simp [puL_len]; omega
        have w2 : IntKind.i64.wrap ((2 : Int) * (W : Int)) = 2 * (W : Int) := wrap_i64 (by omega) (by omega)
        have lf1 : lfV ((crB V W N).length - (crB V W j).length) 0 = (((crB V W N).length - (crB V W j).length : Nat) : Int) := by simp [lfV]
        have lf2 : lfV ((crB V W N).length - ((crB V W j).length + W + (V j).length + W)) 0 = (((crB V W N).length - ((crB V W j).length + W + (V j).length + W) : Nat) : Int) := by simp [lfV]
        have w3 : IntKind.i64.wrap ((((crB V W N).length - (crB V W j).length : Nat) : Int) - 2 * (W : Int)) = (((crB V W N).length - (crB V W j).length : Nat) : Int) - 2 * (W : Int) := wrap_i64 (by omega) (by omega)
        have w4 : IntKind.i64.wrap ((((crB V W N).length - (crB V W j).length : Nat) : Int) - 2 * (W : Int) - ((V j).length : Int)) = (((crB V W N).length - ((crB V W j).length + W + (V j).length + W) : Nat) : Int) := by
          rw [wrap_i64 (by omega) (by omega)]; omega
        simp only [k1, k2, k3, u1, u2, u3, lA, lf1, lf2, w2, w3, w4, decide_true, Bool.not_true, Bool.not_false]
        refine ⟨by omega, by omega, by trivial, by omega, by omega, by omega, by omega, by omega, by omega, by omega, by omega, j + 1, by omega, by exact hj2, ?_⟩
        rw [hwrap j (by omega)]
        and_intros <;> first | exact trivial | rfl | exact lS | omega | (intro y hy; simp only [datas, AV.data]; simp; done)
      · have hj2 : j = min n 20 := by have := ndlt.1 h; have : j ≤ _ := hj; omega
        subst hj2
        have : dnV ((crB V W (min n 20)).length - (crB V W (min n 20)).length) 0 = 0 := by simp [dnV]
        simp only [this, decide_true]
        trivial
    · rw [d1]
      refine ⟨by have := hlen i; omega, ⟨0, Nat.zero_le _, ?_⟩, fun j hj => brec (fun h => ?_) (fun h => ?_)⟩
      · rw [← hN]
        and_intros <;> first | exact trivial | rfl | (intro y hy; simp only [datas, AV.data]; simp; done)
      · have hj2 : j < min n 20 := by have := dlt.1 h; omega
        generalize hM : min n 20 = N at *
        obtain ⟨R, hR⟩ := crB_pre V W (j + 1) (N - (j + 1))
        rw [show j + 1 + (N - (j + 1)) = N by omega] at hR
        have hL1 : crB V W N = crB V W j ++ (puL (V j).length W ++ (V j ++ (puL j W ++ R))) := by rw [hR, crB_succ]; simp
        have hL2 : crB V W N = (crB V W j ++ (puL (V j).length W ++ V j)) ++ (puL j W ++ R) := by rw [hL1]; simp
        have hv1 := hV j
        obtain ⟨k1, k2, k3⟩ := ve_at (w := (W : Int)) (a := 0) (z := 60) hL1 rfl rfl hW1 hW4 (by omega) (by omega) (by omega)
        have lA : (crB V W j ++ (puL (V j).length W ++ V j)).length = (crB V W j).length + W + (V j).length := by simp [puL_len]; omega
        obtain ⟨u1, u2, u3⟩ := ui_at (w := (W : Int)) hL2 lA.symm rfl hW1 hW4 (by omega)
        have lN := hlen N
        have l1 : (crB V W N).length = (crB V W j).length + W + (V j).length + W + R.length := by rw [hL1]; simp [puL_len]; omega
        have lS : (crB V W (j + 1)).length = (crB V W j).length + W + (V j).length + W := by rw [crB_succ]; simp [puL_len]; omega
        have w2 : IntKind.i64.wrap ((2 : Int) * (W : Int)) = 2 * (W : Int) := wrap_i64 (by omega) (by omega)
        have lf1 : lfV ((crB V W N).length - (crB V W j).length) 0 = (((crB V W N).length - (crB V W j).length : Nat) : Int) := by simp [lfV]
        have lf2 : lfV ((crB V W N).length - ((crB V W j).length + W + (V j).length + W)) 0 = (((crB V W N).length - ((crB V W j).length + W + (V j).length + W) : Nat) : Int) := by simp [lfV]
        have w3 : IntKind.i64.wrap ((((crB V W N).length - (crB V W j).length : Nat) : Int) - 2 * (W : Int)) = (((crB V W N).length - (crB V W j).length : Nat) : Int) - 2 * (W : Int) := wrap_i64 (by omega) (by omega)
        have w4 : IntKind.i64.wrap ((((crB V W N).length - (crB V W j).length : Nat) : Int) - 2 * (W : Int) - ((V j).length : Int)) = (((crB V W N).length - ((crB V W j).length + W + (V j).length + W) : Nat) : Int) := by
          rw [wrap_i64 (by omega) (by omega)]; omega
        simp only [k1, k2, k3, u1, u2, u3, lA, lf1, lf2, w2, w3, w4, decide_true, Bool.not_true, Bool.not_false]
        refine ⟨by omega, by omega, by trivial, by omega, by omega, by omega, by omega, by omega, by omega, by omega, by omega, j + 1, by omega, by exact hj2, ?_⟩
        rw [hwrap j (by omega)]
        and_intros <;> first | exact trivial | rfl | exact lS | omega | (intro y hy; simp only [datas, AV.data]; simp; done)
      · have hj2 : j = min n 20 := by have := ndlt.1 h; have : j ≤ _ := hj; omega
        subst hj2
        have : dnV ((crB V W (min n 20)).length - (crB V W (min n 20)).length) 0 = 0 := by simp [dnV]
        simp only [this, decide_true]
        trivial
end Go.Sym

/- CursorRows: numbers and vectors that are put side by side are read again, in order. No conditions. -/
namespace Go.Sym
open Go.Proofs Go.Spec
theorem w4 (W : World) (v0 : Value) (F : Nat → List (BitVec 8)) (C : Nat → Bool) (n0 : Nat) (c0 : Bool) (h0 : VRel (κW W) (.ros true 1 n0 (fun j => [.rb true (F j) (.is (C j))]) (.is c0)) v0) (_k0 : n0 ≤ maxLen) (n1 : Int) :
    Calls Try.prog 4 #[v0, .int .i64 n1] W fun e w' => e = .returned (.bool true) ∧ RowKit.Below W.heap.size W w' := by
  have hv : VRels (κW W) [.ros true 1 n0 (fun j => [.rb true (F j) (.is (C j))]) (.is c0), .int .i64 n1] [v0, .int .i64 n1] := by
    simp only [VRels]
    exact ⟨_, _, rfl, h0, _, _, rfl, rfl, rfl⟩
  refine law_walk (gl := gl0) (Γ := Q22) (fn := Try.f4) (av := [.ros true 1 n0 (fun j => [.rb true (F j) (.is (C j))]) (.is c0), .int .i64 n1]) (ls := [(6, lsX1 F C n0 c0 (cxW n1)), (12, lsX2 F C n0 c0 (cxW n1) (min n0 20) (crB (fun j => v60 (F j)) (cxW n1) (min n0 20)) (fun i => (crB (fun j => v60 (F j)) (cxW n1) i).length))]) [] 3000 (by kernel_rfl) (by kernel_rfl) okQ22 (by kernel_rfl) (GW.nil W) (by kernel_rfl) hv ?_
  exact bq4 c0 n0 F C n1
end Go.Sym
namespace Go.Proofs.Ytgniepaehjdjaaa.cursorRows
open Go.ChangeShapes Go.WideShapes Go.ChangeAt Go.RowKit
set_option linter.unusedVariables false

theorem own : ownKnob Try.prog.godebug = none := by kernel_rfl
theorem laid : laidOutB Try.prog = true := by kernel_rfl

set_option maxRecDepth 100000 in
theorem lifted (os : Os) (started : os.Started) (H : Type) (enc : TypeId × Value → H) :
    ReturnsInHanded {} Try.checked os 4 .any (Rows.cursorRowsSpec.pre6 enc Try.prog Try.f4 Rows.cursorRowsRow.domain false) (Rows.cursorRowsSpec.post enc Try.prog Try.f4 false true false false) := by
  refine returnsInHanded_of_change (C := Try.checked) own started (by kernel_rfl) Try.func4
    (ChangeSpec.witness6 (enc := enc) (C := Try.checked) false ⟨#[], #[.slice none 0 0, .int .i64 0], []⟩ 8 (by kernel_rfl) (by kernel_rfl) (by kernel_rfl) (by kernel_rfl)) ?_
  intro W base args ds gs before hval0 hW hcnd _
  have hval : ∀ (j : Nat) t v, Try.f4.params[j]? = some t → args[j]? = some v → Value.okWide Try.prog W .any base t v := hval0
  have hW' := hW
  obtain ⟨p, q, hA0, hV, rfl, hfz, hnd⟩ := hW
  have hA : DataW.TrodAll enc Try.prog W 0 (fun _ => true) true Try.f4.params.toList args.toList ds p := hA0
  rw [Try.params4] at hA hval
  obtain ⟨v0, vs0, d0, ds0, p0, q0, hargs, rfl, rfl, h0, r0⟩ := trodAll_cons hA
  obtain ⟨v1, vs1, d1, ds1, p1, q1, rfl, rfl, rfl, h1, r1⟩ := trodAll_cons r0
  obtain ⟨rfl, rfl, rfl⟩ := trodAll_nil r1
  obtain rfl : args = #[v0, v1] := by cases args; simp_all
  obtain ⟨rfl, rfl⟩ := trodVars_none hV
  obtain ⟨a1, rfl, rfl, rfl, w1⟩ := open_int Try.underlying3 (hval 1 3 v1 rfl rfl) h1
  clear hA0 hval0
  have hlt0 : ∀ x ∈ p0, x.block < W.heap.size := fun x hx => hW'.lt x (by simp [hx])
  obtain ⟨fuel0, hf0⟩ := h0
  obtain ⟨u0, n0, g0, c0, hc0, hcl0, hll0, hg0, hu0⟩ := Go.Sym.rd_rowsF (sz := 1) (l := [.y]) (av0 := [.rb true [] (.is true)]) Try.underlying41 (by kernel_rfl) (by decide) (by kernel_rfl) ⟨⟨[], true, rfl, fun _ => rfl, by simp⟩, trivial⟩ hf0
  have hv0 : v0 = u0 := Go.Sym.cells_slice Try.underlying41 (hval 0 41 v0 rfl rfl) hc0
  subst hv0
  obtain ⟨F, C, rfl, hFC⟩ := Go.Sym.sh_rb hg0
  refine (Go.Sym.w4 W v0 F C n0 c0 hu0 hll0 a1).mono fun e W' ⟨he, bel⟩ => ?_
  subst he
  exact ⟨_, rfl, _, _, _, [], _, [], hW', trodAll_mk1 (shut_bool Try.underlying4 _), (trodAll_cons_mk (Below.trod laid (by kernel_rfl) (of_decide_eq_true (by kernel_rfl)) ⟨fuel0, hf0⟩ bel hlt0) (trodAll_cons_mk (shut_int Try.underlying3 w1) trodAll_mk0)), rfl, bel.frame _, fun h => by cases h⟩

theorem over : Rows.cursorRowsRow.holds Try.pinned (OpenSpec.ofChange Rows.cursorRowsSpec) :=
  OpenClaim.holds_of_wide 4 Try.f4 rfl rfl rfl rfl rfl rfl rfl ⟨rfl, rfl, rfl, rfl, rfl⟩ rfl rfl rfl rfl rfl (by kernel_rfl) Try.func4 (by kernel_rfl)
    (of_decide_eq_true (by kernel_rfl)) (by unfold Func.isWrapper; first | (rw [if_pos (by decide +kernel)]; kernel_rfl) | (rw [if_neg (by decide +kernel)]; exact ⟨rfl, rfl⟩))
    (fun os started H enc _ => lifted os started H enc)

theorem proved : Rows.CursorRowsSaid :=
  over
#print axioms proved
end Go.Proofs.Ytgniepaehjdjaaa.cursorRows
