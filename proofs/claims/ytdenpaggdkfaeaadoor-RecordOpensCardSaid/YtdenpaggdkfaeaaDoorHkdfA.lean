/- Keys out of keys: the program. -/
import Derived.Test.YtdenpaggdkfaeaaDoorShaD
import Derived.Test.YtdenpaggdkfaeaaDoorShaC
namespace Go.Spec
/-- The blocks of bytes that follow from a key. -/
noncomputable def macL (key b : By) : By := (List.range 32).map (macB key b)
/-- Key of 32 bytes. -/
def k32 (key : By) : By := (List.range 32).map fun i => key.getD i 0
noncomputable def hkB (key info : By) : Nat → By
  | 0 => []
  | k + 1 => macL key (hkB key info k ++ (info ++ [BitVec.ofNat 8 (k + 1)]))
noncomputable def hkT (key info : By) : Nat → By
  | 0 => []
  | k + 1 => hkT key info k ++ hkB key info (k + 1)
end Go.Spec
namespace Go.Sym
open Go.Proofs Go.Spec
set_option linter.unusedVariables false
noncomputable def H1 : Ctx := R6.exe Tryd.prog gl0 [] 3000 Tryd.f74.params.size 74 Tryd.f74
theorem okH1 : COKs Tryd.prog gl0 H1 := okR6.exe [] 3000 _ (by kernel_rfl) (by kernel_rfl) (by kernel_rfl) (fun args w => by kernel_rfl)
noncomputable def H2 : Ctx := H1.exe Tryd.prog gl0 [] 3000 Tryd.f49.params.size 49 Tryd.f49
theorem okH2 : COKs Tryd.prog gl0 H2 := okH1.exe [] 3000 _ (by kernel_rfl) (by kernel_rfl) (by kernel_rfl) (fun args w => by kernel_rfl)
noncomputable def lsEx (key info : By) (n : Int) : LS := ⟨Nat, fun k => [(1, .rb false info .unk), (2, .int .i64 n), (3, .ptr 101 0 0 0), (8, .slice 100 0 1 (32 * k) .ow .unk), (9, .rb false (hkB (k32 key) info k) .unk), (10, .int .i64 ((k + 1 : Nat) : Int))],
  fun k => [(100, ⟨.bytes (hkT (k32 key) info k), true, 1⟩), (101, ⟨.cells ((List.range 32).map fun i => .u8 (key.getD i 0)), true, 0⟩)], 1000, fun k => 300 - k, fun k => 32 * k < n + 32 ∨ k = 0, fun _ => []⟩
end Go.Sym

namespace Go.Sym
open Go.Proofs Go.Spec
set_option linter.unusedVariables false
set_option maxRecDepth 100000 in
theorem vc18 (key info : By) (n : Int) : bodyP Tryd.prog H2 gl0 [] [(6, lsEx key info n)] 3000 Tryd.f97 0 [aggB 32 (fun i => key.getD i 0), .rb false info .unk, .int .i64 n] [] (retQ Tryd.prog Tryd.f97 0 ⟨[], .tup [.slice 0 0 1 n.toNat (.kn n.toNat) .unk, .int .i64 0], [], [⟨.bytes (hkT (k32 key) info ((n.toNat + 31) / 32)), true, 0⟩]⟩) = (fun (K : By) => (
@Bool.rec (fun _ => Prop) False (@Bool.rec (fun _ => Prop) ((∃ (x : Nat), ((32 : Int) * (↑x : Int) < n + (32 : Int) ∨ x = 0) ∧
 info = info ∧
 n = n ∧
 0 = 0 ∧
 32 * x = 0 ∧
 hkB K info x = [] ∧
 (↑(x + 1) : Int) = (1 : Int) ∧
 hkT K info x = [] ∧
 key.getD 0 0 = key.getD 0 0 ∧
 key.getD 1 0 = key.getD 1 0 ∧
 key.getD 2 0 = key.getD 2 0 ∧
 key.getD 3 0 = key.getD 3 0 ∧
 key.getD 4 0 = key.getD 4 0 ∧
 key.getD 5 0 = key.getD 5 0 ∧
 key.getD 6 0 = key.getD 6 0 ∧
 key.getD 7 0 = key.getD 7 0 ∧
 key.getD 8 0 = key.getD 8 0 ∧
 key.getD 9 0 = key.getD 9 0 ∧
 key.getD 10 0 = key.getD 10 0 ∧
 key.getD 11 0 = key.getD 11 0 ∧
 key.getD 12 0 = key.getD 12 0 ∧
 key.getD 13 0 = key.getD 13 0 ∧
 key.getD 14 0 = key.getD 14 0 ∧
 key.getD 15 0 = key.getD 15 0 ∧
 key.getD 16 0 = key.getD 16 0 ∧
 key.getD 17 0 = key.getD 17 0 ∧
 key.getD 18 0 = key.getD 18 0 ∧
 key.getD 19 0 = key.getD 19 0 ∧
 key.getD 20 0 = key.getD 20 0 ∧
 key.getD 21 0 = key.getD 21 0 ∧
 key.getD 22 0 = key.getD 22 0 ∧
 key.getD 23 0 = key.getD 23 0 ∧
 key.getD 24 0 = key.getD 24 0 ∧
 key.getD 25 0 = key.getD 25 0 ∧
 key.getD 26 0 = key.getD 26 0 ∧
 key.getD 27 0 = key.getD 27 0 ∧
 key.getD 28 0 = key.getD 28 0 ∧
 key.getD 29 0 = key.getD 29 0 ∧
 key.getD 30 0 = key.getD 30 0 ∧
 key.getD 31 0 = key.getD 31 0 ∧
 True) ∧
 ∀ (x : Nat), (32 : Int) * (↑x : Int) < n + (32 : Int) ∨ x = 0 → @Bool.rec (fun _ => Prop) ((0 : Int) ≤ n ∧
 (0 : Int) ≤ n ∧
 n.toNat ≤ n.toNat ∧
 n.toNat ≤ 32 * x ∧
 n.toNat = n.toNat ∧
 0 = 0 ∧
 0 = 0 ∧
 n.toNat = n.toNat ∧
 (0 : Int) = (0 : Int) ∧
 hkT K info ((n.toNat + 31) / 32) = hkT K info x ∧
 True) (@Bool.rec (fun _ => Prop) (@Bool.rec (fun _ => Prop) (@Bool.rec (fun _ => Prop) (@Bool.rec (fun _ => Prop) (@Bool.rec (fun _ => Prop) ((0 : Int) ≤ (0 : Int) ∧
 0 < 3 ∧
 (0 : Int) ≤ Int.ofNat 1 ∧
 1 < 3 ∧
 (0 : Int) ≤ Int.ofNat 2 ∧
 2 < 3 ∧
 (0 : Int) ≤ (0 : Int) ∧
 0 < 3 ∧
 roomFor 0 (List.length (hkB K info x)) 1 ∧
 (0 : Int) ≤ Int.ofNat 1 ∧
 1 < 3 ∧
 List.length (hkB K info x) = List.length (hkB K info x) ∧
 roomFor (List.length (hkB K info x)) (List.length info) 1 ∧
 (0 : Int) ≤ Int.ofNat 2 ∧
 2 < 3 ∧
 1 = [BitVec.ofInt 8 (↑(x + 1) : Int)].length ∧
 List.length (hkB K info x) + List.length info = (hkB K info x ++ info).length ∧
 roomFor (List.length (hkB K info x) + List.length info) [BitVec.ofInt 8 (↑(x + 1) : Int)].length 1 ∧
 List.length (hkB K info x) + List.length info + [BitVec.ofInt 8 (↑(x + 1) : Int)].length = (hkB K info x ++ info ++ [BitVec.ofInt 8 (↑(x + 1) : Int)]).length ∧
 (K.length < 4611686018427387904 ∧
 (hkB K info x ++ info ++ [BitVec.ofInt 8 (↑(x + 1) : Int)]).length < 4611686018427387904) ∧
 32 * x = List.length (hkT K info x) ∧
 roomFor (32 * x) (macL K (hkB K info x ++ info ++ [BitVec.ofInt 8 (↑(x + 1) : Int)])).length 1 ∧
 ∃ (y : Nat), 300 - y < 300 - x ∧
 ((32 : Int) * (↑y : Int) < n + (32 : Int) ∨ y = 0) ∧
 info = info ∧
 n = n ∧
 0 = 0 ∧
 0 = 0 ∧
 0 = 0 ∧
 0 = 0 ∧
 32 * y = 32 * x + (macL K (hkB K info x ++ info ++ [BitVec.ofInt 8 (↑(x + 1) : Int)])).length ∧
 hkB K info y = (macL K (hkB K info x ++ info ++ [BitVec.ofInt 8 (↑(x + 1) : Int)])) ∧
 32 = List.length (hkB K info y) ∧
 (↑(y + 1) : Int) = IntKind.i64.wrap ((↑(x + 1) : Int) + (1 : Int)) ∧
 hkT K info y = hkT K info x ++ (macL K (hkB K info x ++ info ++ [BitVec.ofInt 8 (↑(x + 1) : Int)])) ∧
 key.getD 0 0 = key.getD 0 0 ∧
 key.getD 1 0 = key.getD 1 0 ∧
 key.getD 2 0 = key.getD 2 0 ∧
 key.getD 3 0 = key.getD 3 0 ∧
 key.getD 4 0 = key.getD 4 0 ∧
 key.getD 5 0 = key.getD 5 0 ∧
 key.getD 6 0 = key.getD 6 0 ∧
 key.getD 7 0 = key.getD 7 0 ∧
 key.getD 8 0 = key.getD 8 0 ∧
 key.getD 9 0 = key.getD 9 0 ∧
 key.getD 10 0 = key.getD 10 0 ∧
 key.getD 11 0 = key.getD 11 0 ∧
 key.getD 12 0 = key.getD 12 0 ∧
 key.getD 13 0 = key.getD 13 0 ∧
 key.getD 14 0 = key.getD 14 0 ∧
 key.getD 15 0 = key.getD 15 0 ∧
 key.getD 16 0 = key.getD 16 0 ∧
 key.getD 17 0 = key.getD 17 0 ∧
 key.getD 18 0 = key.getD 18 0 ∧
 key.getD 19 0 = key.getD 19 0 ∧
 key.getD 20 0 = key.getD 20 0 ∧
 key.getD 21 0 = key.getD 21 0 ∧
 key.getD 22 0 = key.getD 22 0 ∧
 key.getD 23 0 = key.getD 23 0 ∧
 key.getD 24 0 = key.getD 24 0 ∧
 key.getD 25 0 = key.getD 25 0 ∧
 key.getD 26 0 = key.getD 26 0 ∧
 key.getD 27 0 = key.getD 27 0 ∧
 key.getD 28 0 = key.getD 28 0 ∧
 key.getD 29 0 = key.getD 29 0 ∧
 key.getD 30 0 = key.getD 30 0 ∧
 key.getD 31 0 = key.getD 31 0 ∧
 True) ((0 : Int) ≤ (0 : Int) ∧
 0 < 3 ∧
 (0 : Int) ≤ Int.ofNat 1 ∧
 1 < 3 ∧
 (0 : Int) ≤ Int.ofNat 2 ∧
 2 < 3 ∧
 (0 : Int) ≤ (0 : Int) ∧
 0 ≤ 0 ∧
 (0 : Int) ≤ IntKind.i64.wrap ((IntKind.i64.wrap (IntKind.i64.wrap (IntKind.i64.wrap ((0 : Int) + (↑(List.length (hkB K info x)) : Int)) + (↑(List.length info) : Int)) + Int.ofNat 1)) - Int.ofNat 0) ∧
 IntKind.i64.wrap ((IntKind.i64.wrap (IntKind.i64.wrap (IntKind.i64.wrap ((0 : Int) + (↑(List.length (hkB K info x)) : Int)) + (↑(List.length info) : Int)) + Int.ofNat 1)) - Int.ofNat 0) < (9223372036854775808 : Int) ∧
 roomFor 0 (List.replicate (IntKind.i64.wrap ((IntKind.i64.wrap (IntKind.i64.wrap (IntKind.i64.wrap ((0 : Int) + (↑(List.length (hkB K info x)) : Int)) + (↑(List.length info) : Int)) + Int.ofNat 1)) - Int.ofNat 0)).toNat (0 : BitVec 8)).length 1 ∧
 (0 : Int) ≤ (0 : Int) ∧
 0 ≤ (List.replicate (IntKind.i64.wrap ((IntKind.i64.wrap (IntKind.i64.wrap (IntKind.i64.wrap ((0 : Int) + (↑(List.length (hkB K info x)) : Int)) + (↑(List.length info) : Int)) + Int.ofNat 1)) - Int.ofNat 0)).toNat (0 : BitVec 8)).length ∧
 (0 : Int) ≤ (0 : Int) ∧
 0 < 3 ∧
 0 ≤ (List.replicate (IntKind.i64.wrap ((IntKind.i64.wrap (IntKind.i64.wrap (IntKind.i64.wrap ((0 : Int) + (↑(List.length (hkB K info x)) : Int)) + (↑(List.length info) : Int)) + Int.ofNat 1)) - Int.ofNat 0)).toNat (0 : BitVec 8)).length ∧
 0 = (List.take 0 (List.replicate (IntKind.i64.wrap ((IntKind.i64.wrap (IntKind.i64.wrap (IntKind.i64.wrap ((0 : Int) + (↑(List.length (hkB K info x)) : Int)) + (↑(List.length info) : Int)) + Int.ofNat 1)) - Int.ofNat 0)).toNat (0 : BitVec 8))).length ∧
 roomFor 0 (List.length (hkB K info x)) 1 ∧
 (0 : Int) ≤ Int.ofNat 1 ∧
 1 < 3 ∧
 0 + List.length (hkB K info x) = (List.take 0 (List.replicate (IntKind.i64.wrap ((IntKind.i64.wrap (IntKind.i64.wrap (IntKind.i64.wrap ((0 : Int) + (↑(List.length (hkB K info x)) : Int)) + (↑(List.length info) : Int)) + Int.ofNat 1)) - Int.ofNat 0)).toNat (0 : BitVec 8)) ++ hkB K info x).length ∧
 roomFor (0 + List.length (hkB K info x)) (List.length info) 1 ∧
 (0 : Int) ≤ Int.ofNat 2 ∧
 2 < 3 ∧
 1 = [BitVec.ofInt 8 (↑(x + 1) : Int)].length ∧
 0 + List.length (hkB K info x) + List.length info = (List.take 0 (List.replicate (IntKind.i64.wrap ((IntKind.i64.wrap (IntKind.i64.wrap (IntKind.i64.wrap ((0 : Int) + (↑(List.length (hkB K info x)) : Int)) + (↑(List.length info) : Int)) + Int.ofNat 1)) - Int.ofNat 0)).toNat (0 : BitVec 8)) ++ hkB K info x ++ info).length ∧
 roomFor (0 + List.length (hkB K info x) + List.length info) [BitVec.ofInt 8 (↑(x + 1) : Int)].length 1 ∧
 0 + List.length (hkB K info x) + List.length info + [BitVec.ofInt 8 (↑(x + 1) : Int)].length = (List.take 0 (List.replicate (IntKind.i64.wrap ((IntKind.i64.wrap (IntKind.i64.wrap (IntKind.i64.wrap ((0 : Int) + (↑(List.length (hkB K info x)) : Int)) + (↑(List.length info) : Int)) + Int.ofNat 1)) - Int.ofNat 0)).toNat (0 : BitVec 8)) ++ hkB K info x ++ info ++ [BitVec.ofInt 8 (↑(x + 1) : Int)]).length ∧
 (K.length < 4611686018427387904 ∧
 (List.take 0 (List.replicate (IntKind.i64.wrap ((IntKind.i64.wrap (IntKind.i64.wrap (IntKind.i64.wrap ((0 : Int) + (↑(List.length (hkB K info x)) : Int)) + (↑(List.length info) : Int)) + Int.ofNat 1)) - Int.ofNat 0)).toNat (0 : BitVec 8)) ++ hkB K info x ++ info ++ [BitVec.ofInt 8 (↑(x + 1) : Int)]).length < 4611686018427387904) ∧
 32 * x = List.length (hkT K info x) ∧
 roomFor (32 * x) (macL K (List.take 0 (List.replicate (IntKind.i64.wrap ((IntKind.i64.wrap (IntKind.i64.wrap (IntKind.i64.wrap ((0 : Int) + (↑(List.length (hkB K info x)) : Int)) + (↑(List.length info) : Int)) + Int.ofNat 1)) - Int.ofNat 0)).toNat (0 : BitVec 8)) ++ hkB K info x ++ info ++ [BitVec.ofInt 8 (↑(x + 1) : Int)])).length 1 ∧
 ∃ (y : Nat), 300 - y < 300 - x ∧
 ((32 : Int) * (↑y : Int) < n + (32 : Int) ∨ y = 0) ∧
 info = info ∧
 n = n ∧
 0 = 0 ∧
 0 = 0 ∧
 0 = 0 ∧
 0 = 0 ∧
 32 * y = 32 * x + (macL K (List.take 0 (List.replicate (IntKind.i64.wrap ((IntKind.i64.wrap (IntKind.i64.wrap (IntKind.i64.wrap ((0 : Int) + (↑(List.length (hkB K info x)) : Int)) + (↑(List.length info) : Int)) + Int.ofNat 1)) - Int.ofNat 0)).toNat (0 : BitVec 8)) ++ hkB K info x ++ info ++ [BitVec.ofInt 8 (↑(x + 1) : Int)])).length ∧
 hkB K info y = (macL K (List.take 0 (List.replicate (IntKind.i64.wrap ((IntKind.i64.wrap (IntKind.i64.wrap (IntKind.i64.wrap ((0 : Int) + (↑(List.length (hkB K info x)) : Int)) + (↑(List.length info) : Int)) + Int.ofNat 1)) - Int.ofNat 0)).toNat (0 : BitVec 8)) ++ hkB K info x ++ info ++ [BitVec.ofInt 8 (↑(x + 1) : Int)])) ∧
 32 = List.length (hkB K info y) ∧
 (↑(y + 1) : Int) = IntKind.i64.wrap ((↑(x + 1) : Int) + (1 : Int)) ∧
 hkT K info y = hkT K info x ++ (macL K (List.take 0 (List.replicate (IntKind.i64.wrap ((IntKind.i64.wrap (IntKind.i64.wrap (IntKind.i64.wrap ((0 : Int) + (↑(List.length (hkB K info x)) : Int)) + (↑(List.length info) : Int)) + Int.ofNat 1)) - Int.ofNat 0)).toNat (0 : BitVec 8)) ++ hkB K info x ++ info ++ [BitVec.ofInt 8 (↑(x + 1) : Int)])) ∧
 key.getD 0 0 = key.getD 0 0 ∧
 key.getD 1 0 = key.getD 1 0 ∧
 key.getD 2 0 = key.getD 2 0 ∧
 key.getD 3 0 = key.getD 3 0 ∧
 key.getD 4 0 = key.getD 4 0 ∧
 key.getD 5 0 = key.getD 5 0 ∧
 key.getD 6 0 = key.getD 6 0 ∧
 key.getD 7 0 = key.getD 7 0 ∧
 key.getD 8 0 = key.getD 8 0 ∧
 key.getD 9 0 = key.getD 9 0 ∧
 key.getD 10 0 = key.getD 10 0 ∧
 key.getD 11 0 = key.getD 11 0 ∧
 key.getD 12 0 = key.getD 12 0 ∧
 key.getD 13 0 = key.getD 13 0 ∧
 key.getD 14 0 = key.getD 14 0 ∧
 key.getD 15 0 = key.getD 15 0 ∧
 key.getD 16 0 = key.getD 16 0 ∧
 key.getD 17 0 = key.getD 17 0 ∧
 key.getD 18 0 = key.getD 18 0 ∧
 key.getD 19 0 = key.getD 19 0 ∧
 key.getD 20 0 = key.getD 20 0 ∧
 key.getD 21 0 = key.getD 21 0 ∧
 key.getD 22 0 = key.getD 22 0 ∧
 key.getD 23 0 = key.getD 23 0 ∧
 key.getD 24 0 = key.getD 24 0 ∧
 key.getD 25 0 = key.getD 25 0 ∧
 key.getD 26 0 = key.getD 26 0 ∧
 key.getD 27 0 = key.getD 27 0 ∧
 key.getD 28 0 = key.getD 28 0 ∧
 key.getD 29 0 = key.getD 29 0 ∧
 key.getD 30 0 = key.getD 30 0 ∧
 key.getD 31 0 = key.getD 31 0 ∧
 True) (decide ((0 : Int) < IntKind.i64.wrap ((IntKind.i64.wrap (IntKind.i64.wrap (IntKind.i64.wrap ((0 : Int) + (↑(List.length (hkB K info x)) : Int)) + (↑(List.length info) : Int)) + Int.ofNat 1)) - Int.ofNat 0)))) False (decide ((IntKind.i64.wrap (IntKind.i64.wrap (IntKind.i64.wrap ((0 : Int) + (↑(List.length (hkB K info x)) : Int)) + (↑(List.length info) : Int)) + Int.ofNat 1)) < (0 : Int)))) False (decide ((IntKind.i64.wrap (IntKind.i64.wrap (IntKind.i64.wrap ((0 : Int) + (↑(List.length (hkB K info x)) : Int)) + (↑(List.length info) : Int)) + Int.ofNat 1)) < (0 : Int)))) False (decide (IntKind.i64.wrap (IntKind.i64.wrap ((0 : Int) + (↑(List.length (hkB K info x)) : Int)) + (↑(List.length info) : Int)) < (0 : Int)))) False (decide (IntKind.i64.wrap ((0 : Int) + (↑(List.length (hkB K info x)) : Int)) < (0 : Int)))) (decide ((↑(32 * x) : Int) < n))) False (decide ((8160 : Int) < n))) (!decide (n < (0 : Int))) : Prop)) (k32 key) := by kernel_rfl
end Go.Sym

namespace Go.Spec
theorem macL_length (K m : By) : (macL K m).length = 32 := by simp [macL]
theorem hkB_length (K info : By) (x : Nat) : (hkB K info x).length ≤ 32 := by
  cases x with
  | zero => simp [hkB]
  | succ x => simp [hkB, macL]
theorem hkT_length (K info : By) : ∀ x, (hkT K info x).length = 32 * x
  | 0 => rfl
  | x + 1 => by
    simp only [hkT, hkB, List.length_append, macL_length, hkT_length K info x]
    omega
theorem hkB_succ (K info : By) (x : Nat) : macL K (hkB K info x ++ info ++ [BitVec.ofInt 8 ((x + 1 : Nat) : Int)]) = hkB K info (x + 1) := by
  simp only [hkB, List.append_assoc, BitVec.ofInt_natCast]
end Go.Spec
namespace Go.Sym
open Go.Proofs Go.Spec
set_option linter.unusedVariables false
theorem b18 (key info : By) (n : Int) (h0 : 0 ≤ n) (h1 : n ≤ 8160) (h2 : info.length < 1099511627776) : Must (bodyP Tryd.prog H2 gl0 [] [(6, lsEx key info n)] 3000 Tryd.f97 0 [aggB 32 (fun i => key.getD i 0), .rb false info .unk, .int .i64 n] [] (retQ Tryd.prog Tryd.f97 0 ⟨[], .tup [.slice 0 0 1 n.toNat (.kn n.toNat) .unk, .int .i64 0], [], [⟨.bytes (hkT (k32 key) info ((n.toNat + 31) / 32)), true, 0⟩]⟩)) := by
  constructor
  rw [vc18]
  dsimp only
  have hK : (k32 key).length = 32 := by simp [k32]
  generalize k32 key = K at *
  refine brec (fun _ => ?_) (fun h => absurd h (by simp; omega))
  refine brec (fun h => absurd (dlt.1 h) (by omega)) (fun _ => ?_)
  refine ⟨⟨0, .inr rfl, by simp [hkB, hkT]⟩, fun x hx => ?_⟩
  refine brec (fun h => ?_) (fun h => ?_)
  · replace h := dlt.1 h
    have ha := hkB_length K info x
    have hT := hkT_length K info x
    have hS := hkB_succ K info x
    have hl : (hkB K info (x + 1)).length = 32 := by simp [hkB, macL]
    have w1 : IntKind.i64.wrap ((0 : Int) + ((hkB K info x).length : Int)) = (((hkB K info x).length : Nat) : Int) := by
      rw [Int.zero_add]; exact wrap_i64 (by omega) (by omega)
    have w2 : IntKind.i64.wrap (((hkB K info x).length : Int) + (info.length : Int)) = (((hkB K info x).length + info.length : Nat) : Int) := wrap_nat _ (by omega) (by omega)
    have w3 : IntKind.i64.wrap ((((hkB K info x).length + info.length : Nat) : Int) + Int.ofNat 1) = (((hkB K info x).length + info.length + 1 : Nat) : Int) := wrap_nat _ (by simp) (by omega)
    have w4 : IntKind.i64.wrap ((((hkB K info x).length + info.length + 1 : Nat) : Int) - Int.ofNat 0) = (((hkB K info x).length + info.length + 1 : Nat) : Int) := wrap_nat _ (by simp) (by omega)
    have w5 : IntKind.i64.wrap (((x + 1 : Nat) : Int) + 1) = ((x + 1 + 1 : Nat) : Int) := wrap_nat _ (by simp) (by omega)
    have d1 : ∀ k : Nat, decide ((k : Int) < 0) = false := fun k => by simp
    have d2 : ∀ k : Nat, decide (0 < ((k + 1 : Nat) : Int)) = true := fun k => by simp only [decide_eq_true_eq]; omega
    simp only [w1, w2, w3, w4, w5, d1, d2]
    simp only [List.take_zero, List.nil_append, Nat.zero_add, hS, hl, hK, hT, Int.toNat_natCast, List.length_replicate, List.length_append, List.length_singleton, and_true]
    unfold roomFor
    repeat refine And.intro (by first | exact True.intro | omega | exact Int.natCast_nonneg _ | rfl) ?_
    exact ⟨x + 1, by omega, .inl (by omega), trivial, trivial, trivial, trivial, trivial, trivial, by omega, rfl, hl.symm, rfl, rfl⟩
  · replace h := ndlt.1 h
    have e : (n.toNat + 31) / 32 = x := by omega
    rw [e]
    simp only [and_true]
    omega
end Go.Sym

namespace Go.Spec
theorem k32_self {l : By} (h : l.length = 32) : k32 l = l := by
  apply List.ext_getElem
  · simp [k32, h]
  · intro i h1 h2
    simp [k32, List.getD, h2]
end Go.Spec
namespace Go.Sym
open Go.Proofs Go.Spec
set_option linter.unusedVariables false
theorem agg_u8 {cs : List AV} {l : By} (h : rdU8 cs = some l) (hl : l.length = 32) : AV.agg cs = aggB 32 (fun i => l.getD i 0) := by
  rw [rdU8_eq h]
  unfold aggB
  congr 1
  apply List.ext_getElem
  · simp [hl]
  · intro i h1 h2
    have : i < l.length := by simpa using h1
    simp [List.getD, this]
noncomputable def gEx (xs : List AV) (bs : List ABlk) : TL := match xs, bs with
  | [.agg cs, .rb false info .unk, .int .i64 n], [] => (match rdU8 cs with
    | some key => (match key.length == 32 with
      | true => .ok ⟨[0 ≤ n, n ≤ 8160, info.length < 1099511627776], .tup [.slice 0 0 1 n.toNat (.kn n.toNat) .unk, .int .i64 0], [], [⟨.bytes (hkT key info ((n.toNat + 31) / 32)), true, 0⟩]⟩
      | false => .no)
    | none => .no)
  | _, _ => .no
noncomputable def spEx : Spec := ⟨[.kp, .by0, .kp], fun _ _ => [], fun _ _ => [], gEx⟩
theorem c18 : COK Tryd.prog gl0 97 (mkF spEx) := by
  refine ctrE (fn := Tryd.f97) [] 3000 (by kernel_rfl) (by kernel_rfl) okH2 (by kernel_rfl) (fun args w => by kernel_rfl) ?_
  intro xs bs r hs ho
  simp only [spEx, gEx] at hs
  split at hs
  · rename_i cs info n
    split at hs
    · rename_i key hr
      split at hs
      · rename_i hl
        have hl : key.length = 32 := by simpa using hl
        simp only [TL.sel, Option.some.injEq] at hs
        subst hs
        obtain ⟨h0, h1, h2, _⟩ := ho
        rw [agg_u8 hr hl]
        have b := b18 key info n h0 h1 h2
        rw [k32_self hl] at b
        exact ⟨_, b⟩
      · simp [TL.sel] at hs
    · simp [TL.sel] at hs
  · simp [TL.sel] at hs
noncomputable def H3 : Ctx := H2.add 97 (mkF spEx)
theorem okH3 : COKs Tryd.prog gl0 H3 := okH2.add c18
end Go.Sym
