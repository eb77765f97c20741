/- HkdfBlocks: each block of what is told is the document's sum under the key of the one ahead, the purpose and its number. Condition: the two tables of the package start as the text of the program lays them, which the card ties. -/
import Derived.Test.YtmofcjjhgigkoaaDoorHkdfB
import Derived.Test.YtmofcjjhgigkoaaDoorShaC
namespace Go.Sym
open Go.Proofs Go.Spec
set_option linter.unusedVariables false
noncomputable def lsBl (key M : By) (kk : Int) (T : By) (N : Nat) : LS := ⟨Nat, fun x => [(1, .rb true M .unk), (3, .ptr 101 0 0 0), (7, .int .i64 kk), (8, .slice 100 0 1 N (.kn N) .unk), (10, .int .i64 ((x + 1 : Nat) : Int))],
  fun x => [(100, ⟨.bytes T, true, 0⟩), (101, ⟨.cells ((List.range 32).map fun i => .u8 (key.getD i 0)), true, 0⟩)], 1000, fun x => 10 - x, fun x => ((x + 1 : Nat) : Int) ≤ kk, fun _ => []⟩
end Go.Sym

namespace Go.Sym
open Go.Proofs Go.Spec
set_option linter.unusedVariables false
set_option maxRecDepth 100000 in
theorem vc11 (key info : By) (c : Bool) (n : Int) (kk : Int) (T : By) (N : Nat) : bodyP Tryd.prog N6 gl0 [] [(8, lsBl key (List.take (min (info.length : Int) 40).toNat info) kk T N)] 3000 Tryd.f11 0 [aggB 32 (fun i => key.getD i 0), .rb true info (.is c), .int .i64 n] [] (retQ Tryd.prog Tryd.f11 0 ⟨[], .bool true, [], []⟩) = (
(0 : Int) ≤ Min.min (↑(List.length info) : Int) (40 : Int) ∧
 (Min.min (↑(List.length info) : Int) (40 : Int)).toNat ≤ List.length info ∧
 @Bool.rec (fun _ => Prop) ((List.take (Min.min (↑(List.length info) : Int) (40 : Int)).toNat info).length < 1099511627776 ∧
 @Bool.rec (fun _ => Prop) ((∃ (x : Nat), (kk - (↑(x + 1) : Int)).NonNeg ∧
 List.take (Min.min (↑(List.length info) : Int) (40 : Int)).toNat info = List.take (Min.min (↑(List.length info) : Int) (40 : Int)).toNat info ∧
 0 = 0 ∧
 kk = IntKind.i64.wrap ((2 : Int) + IntKind.i64.wrap (↑(BitVec.ofInt 64 n % BitVec.ofNat 64 5).toNat : Int)) ∧
 N = (IntKind.i64.wrap ((32 : Int) * IntKind.i64.wrap ((2 : Int) + IntKind.i64.wrap (↑(BitVec.ofInt 64 n % BitVec.ofNat 64 5).toNat : Int)))).toNat ∧
 0 = 0 ∧
 0 = 0 ∧
 N = (IntKind.i64.wrap ((32 : Int) * IntKind.i64.wrap ((2 : Int) + IntKind.i64.wrap (↑(BitVec.ofInt 64 n % BitVec.ofNat 64 5).toNat : Int)))).toNat ∧
 (↑(x + 1) : Int) = (1 : Int) ∧
 T = hkT (k32 key) (List.take (Min.min (↑(List.length info) : Int) (40 : Int)).toNat info) (((IntKind.i64.wrap ((32 : Int) * IntKind.i64.wrap ((2 : Int) + IntKind.i64.wrap (↑(BitVec.ofInt 64 n % BitVec.ofNat 64 5).toNat : Int)))).toNat + 31) / 32) ∧
 List.getD key 0 (0 : BitVec 8) = List.getD key 0 (0 : BitVec 8) ∧
 List.getD key 1 (0 : BitVec 8) = List.getD key 1 (0 : BitVec 8) ∧
 List.getD key 2 (0 : BitVec 8) = List.getD key 2 (0 : BitVec 8) ∧
 List.getD key 3 (0 : BitVec 8) = List.getD key 3 (0 : BitVec 8) ∧
 List.getD key 4 (0 : BitVec 8) = List.getD key 4 (0 : BitVec 8) ∧
 List.getD key 5 (0 : BitVec 8) = List.getD key 5 (0 : BitVec 8) ∧
 List.getD key 6 (0 : BitVec 8) = List.getD key 6 (0 : BitVec 8) ∧
 List.getD key 7 (0 : BitVec 8) = List.getD key 7 (0 : BitVec 8) ∧
 List.getD key 8 (0 : BitVec 8) = List.getD key 8 (0 : BitVec 8) ∧
 List.getD key 9 (0 : BitVec 8) = List.getD key 9 (0 : BitVec 8) ∧
 List.getD key 10 (0 : BitVec 8) = List.getD key 10 (0 : BitVec 8) ∧
 List.getD key 11 (0 : BitVec 8) = List.getD key 11 (0 : BitVec 8) ∧
 List.getD key 12 (0 : BitVec 8) = List.getD key 12 (0 : BitVec 8) ∧
 List.getD key 13 (0 : BitVec 8) = List.getD key 13 (0 : BitVec 8) ∧
 List.getD key 14 (0 : BitVec 8) = List.getD key 14 (0 : BitVec 8) ∧
 List.getD key 15 (0 : BitVec 8) = List.getD key 15 (0 : BitVec 8) ∧
 List.getD key 16 (0 : BitVec 8) = List.getD key 16 (0 : BitVec 8) ∧
 List.getD key 17 (0 : BitVec 8) = List.getD key 17 (0 : BitVec 8) ∧
 List.getD key 18 (0 : BitVec 8) = List.getD key 18 (0 : BitVec 8) ∧
 List.getD key 19 (0 : BitVec 8) = List.getD key 19 (0 : BitVec 8) ∧
 List.getD key 20 (0 : BitVec 8) = List.getD key 20 (0 : BitVec 8) ∧
 List.getD key 21 (0 : BitVec 8) = List.getD key 21 (0 : BitVec 8) ∧
 List.getD key 22 (0 : BitVec 8) = List.getD key 22 (0 : BitVec 8) ∧
 List.getD key 23 (0 : BitVec 8) = List.getD key 23 (0 : BitVec 8) ∧
 List.getD key 24 (0 : BitVec 8) = List.getD key 24 (0 : BitVec 8) ∧
 List.getD key 25 (0 : BitVec 8) = List.getD key 25 (0 : BitVec 8) ∧
 List.getD key 26 (0 : BitVec 8) = List.getD key 26 (0 : BitVec 8) ∧
 List.getD key 27 (0 : BitVec 8) = List.getD key 27 (0 : BitVec 8) ∧
 List.getD key 28 (0 : BitVec 8) = List.getD key 28 (0 : BitVec 8) ∧
 List.getD key 29 (0 : BitVec 8) = List.getD key 29 (0 : BitVec 8) ∧
 List.getD key 30 (0 : BitVec 8) = List.getD key 30 (0 : BitVec 8) ∧
 List.getD key 31 (0 : BitVec 8) = List.getD key 31 (0 : BitVec 8) ∧
 True) ∧
 ∀ (x : Nat), (kk - (↑(x + 1) : Int)).NonNeg → @Bool.rec (fun _ => Prop) (Bool.true = Bool.true ∧
 True) (0 = 0 ∧
 roomFor 0 (k32 key).length 1 ∧
 (0 : Int) ≤ IntKind.i64.wrap (IntKind.i64.wrap ((32 : Int) * (↑(x + 1) : Int)) - (32 : Int)) ∧
 (0 : Int) ≤ IntKind.i64.wrap ((32 : Int) * (↑(x + 1) : Int)) ∧
 (IntKind.i64.wrap (IntKind.i64.wrap ((32 : Int) * (↑(x + 1) : Int)) - (32 : Int))).toNat ≤ (IntKind.i64.wrap ((32 : Int) * (↑(x + 1) : Int))).toNat ∧
 (IntKind.i64.wrap ((32 : Int) * (↑(x + 1) : Int))).toNat ≤ N ∧
 (IntKind.i64.wrap (IntKind.i64.wrap ((32 : Int) * (↑(x + 1) : Int)) - (32 : Int))).toNat + minus (IntKind.i64.wrap ((32 : Int) * (↑(x + 1) : Int))).toNat (IntKind.i64.wrap (IntKind.i64.wrap ((32 : Int) * (↑(x + 1) : Int)) - (32 : Int))).toNat ≤ List.length T ∧
 0 = 0 ∧
 roomFor 0 (List.take (minus (IntKind.i64.wrap ((32 : Int) * (↑(x + 1) : Int))).toNat (IntKind.i64.wrap (IntKind.i64.wrap ((32 : Int) * (↑(x + 1) : Int)) - (32 : Int))).toNat) (dropN (IntKind.i64.wrap (IntKind.i64.wrap ((32 : Int) * (↑(x + 1) : Int)) - (32 : Int))).toNat T)).length 1 ∧
 0 + (List.take (minus (IntKind.i64.wrap ((32 : Int) * (↑(x + 1) : Int))).toNat (IntKind.i64.wrap (IntKind.i64.wrap ((32 : Int) * (↑(x + 1) : Int)) - (32 : Int))).toNat) (dropN (IntKind.i64.wrap (IntKind.i64.wrap ((32 : Int) * (↑(x + 1) : Int)) - (32 : Int))).toNat T)).length = ([] ++ List.take (minus (IntKind.i64.wrap ((32 : Int) * (↑(x + 1) : Int))).toNat (IntKind.i64.wrap (IntKind.i64.wrap ((32 : Int) * (↑(x + 1) : Int)) - (32 : Int))).toNat) (dropN (IntKind.i64.wrap (IntKind.i64.wrap ((32 : Int) * (↑(x + 1) : Int)) - (32 : Int))).toNat T)).length ∧
 roomFor (0 + (List.take (minus (IntKind.i64.wrap ((32 : Int) * (↑(x + 1) : Int))).toNat (IntKind.i64.wrap (IntKind.i64.wrap ((32 : Int) * (↑(x + 1) : Int)) - (32 : Int))).toNat) (dropN (IntKind.i64.wrap (IntKind.i64.wrap ((32 : Int) * (↑(x + 1) : Int)) - (32 : Int))).toNat T)).length) (List.take (Min.min (↑(List.length info) : Int) (40 : Int)).toNat info).length 1 ∧
 1 = [BitVec.ofInt 8 (IntKind.i64.wrap ((↑(x + 1) : Int) + (1 : Int)))].length ∧
 0 + (List.take (minus (IntKind.i64.wrap ((32 : Int) * (↑(x + 1) : Int))).toNat (IntKind.i64.wrap (IntKind.i64.wrap ((32 : Int) * (↑(x + 1) : Int)) - (32 : Int))).toNat) (dropN (IntKind.i64.wrap (IntKind.i64.wrap ((32 : Int) * (↑(x + 1) : Int)) - (32 : Int))).toNat T)).length + (List.take (Min.min (↑(List.length info) : Int) (40 : Int)).toNat info).length = ([] ++ List.take (minus (IntKind.i64.wrap ((32 : Int) * (↑(x + 1) : Int))).toNat (IntKind.i64.wrap (IntKind.i64.wrap ((32 : Int) * (↑(x + 1) : Int)) - (32 : Int))).toNat) (dropN (IntKind.i64.wrap (IntKind.i64.wrap ((32 : Int) * (↑(x + 1) : Int)) - (32 : Int))).toNat T) ++ List.take (Min.min (↑(List.length info) : Int) (40 : Int)).toNat info).length ∧
 roomFor (0 + (List.take (minus (IntKind.i64.wrap ((32 : Int) * (↑(x + 1) : Int))).toNat (IntKind.i64.wrap (IntKind.i64.wrap ((32 : Int) * (↑(x + 1) : Int)) - (32 : Int))).toNat) (dropN (IntKind.i64.wrap (IntKind.i64.wrap ((32 : Int) * (↑(x + 1) : Int)) - (32 : Int))).toNat T)).length + (List.take (Min.min (↑(List.length info) : Int) (40 : Int)).toNat info).length) [BitVec.ofInt 8 (IntKind.i64.wrap ((↑(x + 1) : Int) + (1 : Int)))].length 1 ∧
 0 + (k32 key).length = ([] ++ (k32 key)).length ∧
 0 + (List.take (minus (IntKind.i64.wrap ((32 : Int) * (↑(x + 1) : Int))).toNat (IntKind.i64.wrap (IntKind.i64.wrap ((32 : Int) * (↑(x + 1) : Int)) - (32 : Int))).toNat) (dropN (IntKind.i64.wrap (IntKind.i64.wrap ((32 : Int) * (↑(x + 1) : Int)) - (32 : Int))).toNat T)).length + (List.take (Min.min (↑(List.length info) : Int) (40 : Int)).toNat info).length + [BitVec.ofInt 8 (IntKind.i64.wrap ((↑(x + 1) : Int) + (1 : Int)))].length = ([] ++ List.take (minus (IntKind.i64.wrap ((32 : Int) * (↑(x + 1) : Int))).toNat (IntKind.i64.wrap (IntKind.i64.wrap ((32 : Int) * (↑(x + 1) : Int)) - (32 : Int))).toNat) (dropN (IntKind.i64.wrap (IntKind.i64.wrap ((32 : Int) * (↑(x + 1) : Int)) - (32 : Int))).toNat T) ++ List.take (Min.min (↑(List.length info) : Int) (40 : Int)).toNat info ++ [BitVec.ofInt 8 (IntKind.i64.wrap ((↑(x + 1) : Int) + (1 : Int)))]).length ∧
 ([] ++ (k32 key)).length < 17592186044416 ∧
 ([] ++ List.take (minus (IntKind.i64.wrap ((32 : Int) * (↑(x + 1) : Int))).toNat (IntKind.i64.wrap (IntKind.i64.wrap ((32 : Int) * (↑(x + 1) : Int)) - (32 : Int))).toNat) (dropN (IntKind.i64.wrap (IntKind.i64.wrap ((32 : Int) * (↑(x + 1) : Int)) - (32 : Int))).toNat T) ++ List.take (Min.min (↑(List.length info) : Int) (40 : Int)).toNat info ++ [BitVec.ofInt 8 (IntKind.i64.wrap ((↑(x + 1) : Int) + (1 : Int)))]).length < 17592186044416 ∧
 (0 : Int) ≤ IntKind.i64.wrap ((32 : Int) * (↑(x + 1) : Int)) ∧
 (0 : Int) ≤ IntKind.i64.wrap (IntKind.i64.wrap ((32 : Int) * (↑(x + 1) : Int)) + (32 : Int)) ∧
 (IntKind.i64.wrap ((32 : Int) * (↑(x + 1) : Int))).toNat ≤ (IntKind.i64.wrap (IntKind.i64.wrap ((32 : Int) * (↑(x + 1) : Int)) + (32 : Int))).toNat ∧
 (IntKind.i64.wrap (IntKind.i64.wrap ((32 : Int) * (↑(x + 1) : Int)) + (32 : Int))).toNat ≤ N ∧
 (IntKind.i64.wrap ((32 : Int) * (↑(x + 1) : Int))).toNat + minus (IntKind.i64.wrap (IntKind.i64.wrap ((32 : Int) * (↑(x + 1) : Int)) + (32 : Int))).toNat (IntKind.i64.wrap ((32 : Int) * (↑(x + 1) : Int))).toNat ≤ List.length T ∧
 @Bool.rec (fun _ => Prop) (∃ (y : Nat), 10 - y < 10 - x ∧
 (kk - (↑(y + 1) : Int)).NonNeg ∧
 List.take (Min.min (↑(List.length info) : Int) (40 : Int)).toNat info = List.take (Min.min (↑(List.length info) : Int) (40 : Int)).toNat info ∧
 0 = 0 ∧
 kk = kk ∧
 N = N ∧
 0 = 0 ∧
 0 = 0 ∧
 N = N ∧
 (↑(y + 1) : Int) = IntKind.i64.wrap ((↑(x + 1) : Int) + (1 : Int)) ∧
 T = T ∧
 List.getD key 0 (0 : BitVec 8) = List.getD key 0 (0 : BitVec 8) ∧
 List.getD key 1 (0 : BitVec 8) = List.getD key 1 (0 : BitVec 8) ∧
 List.getD key 2 (0 : BitVec 8) = List.getD key 2 (0 : BitVec 8) ∧
 List.getD key 3 (0 : BitVec 8) = List.getD key 3 (0 : BitVec 8) ∧
 List.getD key 4 (0 : BitVec 8) = List.getD key 4 (0 : BitVec 8) ∧
 List.getD key 5 (0 : BitVec 8) = List.getD key 5 (0 : BitVec 8) ∧
 List.getD key 6 (0 : BitVec 8) = List.getD key 6 (0 : BitVec 8) ∧
 List.getD key 7 (0 : BitVec 8) = List.getD key 7 (0 : BitVec 8) ∧
 List.getD key 8 (0 : BitVec 8) = List.getD key 8 (0 : BitVec 8) ∧
 List.getD key 9 (0 : BitVec 8) = List.getD key 9 (0 : BitVec 8) ∧
 List.getD key 10 (0 : BitVec 8) = List.getD key 10 (0 : BitVec 8) ∧
 List.getD key 11 (0 : BitVec 8) = List.getD key 11 (0 : BitVec 8) ∧
 List.getD key 12 (0 : BitVec 8) = List.getD key 12 (0 : BitVec 8) ∧
 List.getD key 13 (0 : BitVec 8) = List.getD key 13 (0 : BitVec 8) ∧
 List.getD key 14 (0 : BitVec 8) = List.getD key 14 (0 : BitVec 8) ∧
 List.getD key 15 (0 : BitVec 8) = List.getD key 15 (0 : BitVec 8) ∧
 List.getD key 16 (0 : BitVec 8) = List.getD key 16 (0 : BitVec 8) ∧
 List.getD key 17 (0 : BitVec 8) = List.getD key 17 (0 : BitVec 8) ∧
 List.getD key 18 (0 : BitVec 8) = List.getD key 18 (0 : BitVec 8) ∧
 List.getD key 19 (0 : BitVec 8) = List.getD key 19 (0 : BitVec 8) ∧
 List.getD key 20 (0 : BitVec 8) = List.getD key 20 (0 : BitVec 8) ∧
 List.getD key 21 (0 : BitVec 8) = List.getD key 21 (0 : BitVec 8) ∧
 List.getD key 22 (0 : BitVec 8) = List.getD key 22 (0 : BitVec 8) ∧
 List.getD key 23 (0 : BitVec 8) = List.getD key 23 (0 : BitVec 8) ∧
 List.getD key 24 (0 : BitVec 8) = List.getD key 24 (0 : BitVec 8) ∧
 List.getD key 25 (0 : BitVec 8) = List.getD key 25 (0 : BitVec 8) ∧
 List.getD key 26 (0 : BitVec 8) = List.getD key 26 (0 : BitVec 8) ∧
 List.getD key 27 (0 : BitVec 8) = List.getD key 27 (0 : BitVec 8) ∧
 List.getD key 28 (0 : BitVec 8) = List.getD key 28 (0 : BitVec 8) ∧
 List.getD key 29 (0 : BitVec 8) = List.getD key 29 (0 : BitVec 8) ∧
 List.getD key 30 (0 : BitVec 8) = List.getD key 30 (0 : BitVec 8) ∧
 List.getD key 31 (0 : BitVec 8) = List.getD key 31 (0 : BitVec 8) ∧
 True) (Bool.true = Bool.false ∧
 True) !decide ((macL ([] ++ (k32 key)) ([] ++ List.take (minus (IntKind.i64.wrap ((32 : Int) * (↑(x + 1) : Int))).toNat (IntKind.i64.wrap (IntKind.i64.wrap ((32 : Int) * (↑(x + 1) : Int)) - (32 : Int))).toNat) (dropN (IntKind.i64.wrap (IntKind.i64.wrap ((32 : Int) * (↑(x + 1) : Int)) - (32 : Int))).toNat T) ++ List.take (Min.min (↑(List.length info) : Int) (40 : Int)).toNat info ++ [BitVec.ofInt 8 (IntKind.i64.wrap ((↑(x + 1) : Int) + (1 : Int)))])) = List.take (minus (IntKind.i64.wrap (IntKind.i64.wrap ((32 : Int) * (↑(x + 1) : Int)) + (32 : Int))).toNat (IntKind.i64.wrap ((32 : Int) * (↑(x + 1) : Int))).toNat) (dropN (IntKind.i64.wrap ((32 : Int) * (↑(x + 1) : Int))).toNat T))) (decide ((↑(x + 1) : Int) < kk))) (Bool.true = Bool.false ∧
 True) !decide ((↑(IntKind.i64.wrap ((32 : Int) * IntKind.i64.wrap ((2 : Int) + IntKind.i64.wrap (↑(BitVec.ofInt 64 n % BitVec.ofNat 64 5).toNat : Int)))).toNat : Int) = IntKind.i64.wrap ((32 : Int) * IntKind.i64.wrap ((2 : Int) + IntKind.i64.wrap (↑(BitVec.ofInt 64 n % BitVec.ofNat 64 5).toNat : Int))))) (Bool.true = Bool.false ∧
 True) (exBad (IntKind.i64.wrap ((32 : Int) * IntKind.i64.wrap ((2 : Int) + IntKind.i64.wrap (↑(BitVec.ofInt 64 n % BitVec.ofNat 64 5).toNat : Int))))) : Prop) := by kernel_rfl
end Go.Sym

namespace Go.Spec
theorem hkT_cut (K M : By) (x : Nat) : ∀ k, x < k → ((hkT K M k).drop (32 * x)).take 32 = hkB K M (x + 1) := by
  intro k hk
  induction k with
  | zero => omega
  | succ k ih =>
    have hl := hkT_length K M k
    have hb : (hkB K M (k + 1)).length = 32 := by simp [hkB, macL]
    simp only [hkT]
    rcases Nat.lt_or_ge x k with h | h
    · rw [List.drop_append_of_le_length (by omega), List.take_append_of_le_length (by rw [List.length_drop]; omega)]
      exact ih h
    · obtain rfl : x = k := by omega
      rw [List.drop_append, List.drop_eq_nil_of_le (by omega), List.nil_append, hl, Nat.sub_self, List.drop_zero, List.take_of_length_le (by omega)]
end Go.Spec
namespace Go.Sym
open Go.Proofs Go.Spec
set_option linter.unusedVariables false
theorem minus_sub (h l : Nat) : minus h l = h - l := by unfold minus; split <;> simp
theorem b11 (key info : By) (c : Bool) (n : Int) : Must (bodyP Tryd.prog N6 gl0 [] [(8, lsBl key (List.take (min (info.length : Int) 40).toNat info) ((2 + (BitVec.ofInt 64 n % 5#64).toNat : Nat) : Int) (hkT (k32 key) (List.take (min (info.length : Int) 40).toNat info) (2 + (BitVec.ofInt 64 n % 5#64).toNat)) (32 * (2 + (BitVec.ofInt 64 n % 5#64).toNat)))] 3000 Tryd.f11 0 [aggB 32 (fun i => key.getD i 0), .rb true info (.is c), .int .i64 n] [] (retQ Tryd.prog Tryd.f11 0 ⟨[], .bool true, [], []⟩)) := by
  constructor
  rw [vc11]
  have hM : (List.take (min (info.length : Int) 40).toNat info).length ≤ 40 := by simp; omega
  have h0 : 0 ≤ min (info.length : Int) 40 ∧ (min (info.length : Int) 40).toNat ≤ info.length := by omega
  generalize List.take (min (info.length : Int) 40).toNat info = M at *
  refine ⟨h0.1, h0.2, ?_⟩
  clear h0
  have hr : (BitVec.ofInt 64 n % 5#64).toNat < 5 := by rw [BitVec.toNat_umod]; exact Nat.mod_lt _ (by decide)
  generalize (BitVec.ofInt 64 n % 5#64).toNat = r at *
  have hK : (k32 key).length = 32 := by simp [k32]
  generalize k32 key = K at *
  have w1 : IntKind.i64.wrap (r : Int) = (r : Int) := wrap_nat _ rfl (by omega)
  have w2 : IntKind.i64.wrap (2 + (r : Int)) = ((2 + r : Nat) : Int) := wrap_nat _ (by simp) (by omega)
  have w3 : IntKind.i64.wrap (32 * ((2 + r : Nat) : Int)) = ((32 * (2 + r) : Nat) : Int) := wrap_nat _ (by simp) (by omega)
  have hb : exBad ((32 * (2 + r) : Nat) : Int) = false := exBad_mk (by omega) (by omega)
  have e1 : (32 * (2 + r) + 31) / 32 = 2 + r := by omega
  simp only [w1, w2, w3, hb, Int.toNat_natCast, e1, decide_true, Bool.not_true, true_and, and_true]
  refine ⟨by omega, ⟨0, by show ((0 + 1 : Nat) : Int) ≤ ((2 + r : Nat) : Int); omega, by simp⟩, fun x hx => ?_⟩
  replace hx : ((x + 1 : Nat) : Int) ≤ ((2 + r : Nat) : Int) := hx
  refine brec (fun h => ?_) (fun h => trivial)
  replace h := dlt.1 h
  have v1 : IntKind.i64.wrap (32 * ((x + 1 : Nat) : Int)) = ((32 * (x + 1) : Nat) : Int) := wrap_nat _ (by simp) (by omega)
  have v2 : IntKind.i64.wrap (((32 * (x + 1) : Nat) : Int) - 32) = ((32 * x : Nat) : Int) := wrap_nat _ (by omega) (by omega)
  have v3 : IntKind.i64.wrap (((32 * (x + 1) : Nat) : Int) + 32) = ((32 * (x + 2) : Nat) : Int) := wrap_nat _ (by omega) (by omega)
  have v4 : IntKind.i64.wrap (((x + 1 : Nat) : Int) + 1) = ((x + 1 + 1 : Nat) : Int) := wrap_nat _ (by omega) (by omega)
  simp only [v1, v2, v3, v4, Int.toNat_natCast, minus_sub, dropN_eq]
  have t1 : 32 * (x + 1) - 32 * x = 32 := by omega
  have t2 : 32 * (x + 2) - 32 * (x + 1) = 32 := by omega
  have c1 := hkT_cut K M x (2 + r) (by omega)
  have c2 := hkT_cut K M (x + 1) (2 + r) (by omega)
  have hT := hkT_length K M (2 + r)
  have hS := hkB_succ K M (x + 1)
  have hl : (hkB K M (x + 1)).length = 32 := by simp [hkB, macL]
  simp only [t1, t2, c1, c2, List.nil_append, hS, hT, hK, hl, List.length_append, List.length_singleton, decide_true, Bool.not_true, true_and]
  unfold roomFor
  refine ⟨by omega, by omega, by omega, by omega, by omega, by omega, by omega, by omega, by omega, by omega, by omega, by omega, by omega, by omega, by omega, by omega, x + 1, by omega, ?_, rfl⟩
  show ((x + 1 + 1 : Nat) : Int) ≤ ((2 + r : Nat) : Int)
  omega
end Go.Sym

/- HkdfBlocks: each block of what is told is the document's sum under the key of the one ahead, the purpose and its number. Condition: the two tables of the package start as the text of the program lays them, which the card ties. -/
namespace Go.Sym
open Go.Proofs Go.Spec
theorem w11 (W : World) (hG : GW gl0 W) (v0 : Value) (key : By) (h0 : VRel (κW W) (aggB 32 (fun i => key.getD i 0)) v0) (v1 : Value) (l1 : List (BitVec 8)) (c1 : Bool) (h1 : VRel (κW W) (.rb true l1 (.is c1)) v1) (n2 : Int) :
    Calls Tryd.prog 11 #[v0, v1, .int .i64 n2] W fun e w' => e = .returned (.bool true) ∧ RowKit.Below W.heap.size W w' := by
  have hv : VRels (κW W) [aggB 32 (fun i => key.getD i 0), .rb true l1 (.is c1), .int .i64 n2] [v0, v1, .int .i64 n2] := by
    simp only [VRels]
    exact ⟨_, _, rfl, h0, _, _, rfl, h1, _, _, rfl, rfl, rfl⟩
  refine law_walk (gl := gl0) (Γ := N6) (fn := Tryd.f11) (av := [aggB 32 (fun i => key.getD i 0), .rb true l1 (.is c1), .int .i64 n2]) (ls := [(8, lsBl key (List.take (min (l1.length : Int) 40).toNat l1) ((2 + (BitVec.ofInt 64 n2 % 5#64).toNat : Nat) : Int) (hkT (k32 key) (List.take (min (l1.length : Int) 40).toNat l1) (2 + (BitVec.ofInt 64 n2 % 5#64).toNat)) (32 * (2 + (BitVec.ofInt 64 n2 % 5#64).toNat)))]) [] 3000 (by kernel_rfl) (by kernel_rfl) okN6 (by kernel_rfl) hG (by kernel_rfl) hv ?_
  exact b11 key l1 c1 n2
end Go.Sym
namespace Go.Proofs.YtmofcjjhgigkoaaDoor.hkdfBlocks
open Go.ChangeShapes Go.WideShapes Go.ChangeAt Go.WideMaps Go.WideElems Go.RowKit
set_option linter.unusedVariables false
set_option maxRecDepth 100000 in
theorem lifted (os : Os) (started : os.Started) (H : Type) (enc : TypeId × Value → H) :
    ReturnsInHanded {} Tryd.checked os 11 .any (fun w args => (Rows.hkdfBlocksSpec.pre enc Tryd.prog Tryd.f11 [] false w args ∧ laidMetH Tryd.prog laid2 w) ∧ sizedMet enc Tryd.prog Tryd.f11 (OpenSpec.ofChange Rows.hkdfBlocksSpec) false w args)
      (Rows.hkdfBlocksSpec.post enc Tryd.prog Tryd.f11 false true false false) := by
  refine returnsInHanded_of_change_and (C := Tryd.checked) (X := fun w _ => laidMetH Tryd.prog laid2 w) (fun _ _ _ hh h => h.of_heap hh) own started (by kernel_rfl) Tryd.func11
    (ChangeSpec.witness_shaped (enc := enc) (C := Tryd.checked) (os := os) (X := fun w _ => laidMetH Tryd.prog laid2 w) false (World.doorLaid Tryd.prog 400 os) #[.agg (Array.replicate 32 (.int .u8 0)), .slice none 0 0, .int .i64 0] 8 rfl (World.shaped_of_RefB (by kernel_rfl) (by kernel_rfl)) (by kernel_rfl) (by kernel_rfl) (by kernel_rfl) (door_met os _)) ?_
  intro W base args ds gs before hval0 hW _ _ hL _
  have hval : ∀ (j : Nat) t v, Tryd.f11.params[j]? = some t → args[j]? = some v → Value.okWide Tryd.prog W .any base t v := hval0
  have hW' := hW
  obtain ⟨p, q, hA0, hV, rfl, hfz, hnd⟩ := hW
  have hA : DataW.TrodAll enc Tryd.prog W 0 (fun _ => true) true Tryd.f11.params.toList args.toList ds p := hA0
  rw [Tryd.params11] at hA hval
  obtain ⟨v0, vs0, d0, ds0, p0, q0, hargs, rfl, rfl, h0, r0⟩ := trodAll_cons hA
  obtain ⟨v1, vs1, d1, ds1, p1, q1, rfl, rfl, rfl, h1, r1⟩ := trodAll_cons r0
  obtain ⟨v2, vs2, d2, ds2, p2, q2, rfl, rfl, rfl, h2, r2⟩ := trodAll_cons r1
  obtain ⟨rfl, rfl, rfl⟩ := trodAll_nil r2
  obtain rfl : args = #[v0, v1, v2] := by cases args; simp_all
  obtain ⟨rfl, rfl⟩ := trodVars_none hV
  obtain ⟨a2, rfl, rfl, rfl, w2⟩ := open_int Tryd.underlying3 (hval 2 3 v2 rfl rfl) h2
  clear hA0 hval0
  have hlt0 : ∀ x ∈ p0, x.block < W.heap.size := fun x hx => hW'.lt x (by simp [hx])
  obtain ⟨fuel0, hf0⟩ := h0
  obtain ⟨avs0, hs0, hd0, hr0⟩ := Go.Sym.rd_flat 9 25 (List.replicate 32 (.i .u8)) _ _ _ (by kernel_rfl) hf0
  obtain ⟨key, rfl⟩ := Go.Sym.sh_key hs0
  have hu0 := Go.Sym.agg_of_cells hr0 (by simp)
  have hlt1 : ∀ x ∈ p1, x.block < W.heap.size := fun x hx => hW'.lt x (by simp [hx])
  obtain ⟨fuel1, hf1⟩ := h1
  obtain ⟨u1, l1, c1, hc1, hcl1, hll1, hu1⟩ := Go.Sym.rd_bytes Tryd.underlying22 Tryd.underlying5 (by kernel_rfl) hf1
  have hv1 : v1 = u1 := Go.Sym.cells_slice Tryd.underlying22 (hval 1 22 v1 rfl rfl) hc1
  subst hv1
  refine (Go.Sym.w11 W (gw_laid hL) v0 key hu0 v1 l1 c1 hu1 a2).mono fun e W' ⟨he, bel⟩ => ?_
  subst he
  exact ⟨_, rfl, _, _, _, [], _, [], hW', trodAll_mk1 (shut_bool Tryd.underlying4 _), (trodAll_cons_mk (Below.trod laidO (by kernel_rfl) (of_decide_eq_true (by kernel_rfl)) ⟨fuel0, hf0⟩ bel hlt0) (trodAll_cons_mk (Below.trod laidO (by kernel_rfl) (of_decide_eq_true (by kernel_rfl)) ⟨fuel1, hf1⟩ bel hlt1) (trodAll_cons_mk (shut_int Tryd.underlying3 w2) trodAll_mk0))), rfl, bel.frame _, fun h => by cases h⟩

theorem over : Rows.hkdfBlocksRow.holds Tryd.pinned (OpenSpec.ofChange Rows.hkdfBlocksSpec) :=
  OpenClaim.holds_of_wide 11 Tryd.f11 rfl rfl rfl rfl rfl rfl rfl ⟨rfl, rfl, rfl, rfl, rfl⟩ rfl rfl rfl rfl rfl (by kernel_rfl) Tryd.func11 (by kernel_rfl)
    (of_decide_eq_true (by kernel_rfl)) (by unfold Func.isWrapper; first | (rw [if_pos (by decide +kernel)]; kernel_rfl) | (rw [if_neg (by decide +kernel)]; exact ⟨rfl, rfl⟩))
    (fun os started H enc _ => lifted os started H enc)

theorem proved : Rows.HkdfBlocksCardSaid :=
  Claim7.holds_tied_plain_at .later [] [.data, .data] true (true, "44e11be570e4154174cda8b964177679c33fce583db925e342de0af1715ed693") false
    over (fun _ h => by cases h) (by kernel_rfl) (fun _ h => by cases h) hkdfBlocks_row_tie rfl ⟨rfl, rfl⟩ (by kernel_rfl) rfl
    (fun f fn hf hfn => by
      obtain rfl : f = 11 := Option.some.inj ((show Tryd.prog.funcNamed "relay/relaylaw02.HkdfBlocks" = some 11 by kernel_rfl).symm.trans hf) |>.symm
      obtain rfl : fn = Tryd.f11 := (Option.some.inj (Tryd.func11.symm.trans hfn)).symm
      exact ⟨by kernel_rfl, fun j t ht => by
        rw [Tryd.params11] at ht
        have hm : t ∈ [25, 22, 3] := by simpa using Array.mem_of_getElem? ht
        have hall : ([25, 22, 3].all fun u => !Tryd.prog.wantsStandIn u) = true := by kernel_rfl
        exact (show Tryd.prog.wantsStandIn t = false by simpa using List.all_eq_true.1 hall t hm)⟩)
    (by kernel_rfl)
#print axioms proved
end Go.Proofs.YtmofcjjhgigkoaaDoor.hkdfBlocks
