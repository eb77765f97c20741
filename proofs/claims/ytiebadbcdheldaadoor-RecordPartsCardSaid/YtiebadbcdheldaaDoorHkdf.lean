/- Keys out of keys: the program, labels. -/
import Derived.Test.YtiebadbcdheldaaDoorShaB
import Derived.Test.YtiebadbcdheldaaDoorSymC
import Derived.OpenShut
namespace Go.Spec
/-- The blocks of bytes that follow from a key. -/
noncomputable def macL (key b : By) : By := (List.range 32).map (macB key b)
/-- Key of 32 bytes. -/
def k32 (key : By) : By := (List.range 32).map fun i => key.getD i 0
noncomputable def hkB (key info : By) : Nat → By
  | 0 => []
  | k + 1 => macL key (hkB key info k ++ (info ++ [BitVec.ofNat 8 (k + 1)]))
noncomputable def hkT (key info : By) : Nat → By
  | 0 => []
  | k + 1 => hkT key info k ++ hkB key info (k + 1)
end Go.Spec
namespace Go.Sym
open Go.Proofs Go.Spec
set_option linter.unusedVariables false
noncomputable def H1 : Ctx := B8.exe Tryd.prog gl0 [] 3000 Tryd.f49.params.size 49 Tryd.f49
theorem okH1 : COKs Tryd.prog gl0 H1 := okB8.exe [] 3000 _ (by kernel_rfl) (by kernel_rfl) (by kernel_rfl) (fun args w => by kernel_rfl)
noncomputable def H2 : Ctx := H1.exe Tryd.prog gl0 [] 3000 Tryd.f30.params.size 30 Tryd.f30
theorem okH2 : COKs Tryd.prog gl0 H2 := okH1.exe [] 3000 _ (by kernel_rfl) (by kernel_rfl) (by kernel_rfl) (fun args w => by kernel_rfl)
noncomputable def lsEx (key info : By) (n : Int) : LS := ⟨Nat, fun k => [(1, .rb false info .unk), (2, .int .i64 n), (3, .ptr 101 0 0 0), (8, .slice 100 0 1 (32 * k) .ow .unk), (9, .rb false (hkB (k32 key) info k) .unk), (10, .int .i64 ((k + 1 : Nat) : Int))],
  fun k => [(100, ⟨.bytes (hkT (k32 key) info k), true, 1⟩), (101, ⟨.cells ((List.range 32).map fun i => .u8 (key.getD i 0)), true, 0⟩)], 1000, fun k => 300 - k, fun k => 32 * k < n + 32 ∨ k = 0, fun _ => []⟩
end Go.Sym

namespace Go.Sym
open Go.Proofs Go.Spec
set_option linter.unusedVariables false
set_option maxRecDepth 100000 in
theorem vc18 (key info : By) (n : Int) : bodyP Tryd.prog H2 gl0 [] [(6, lsEx key info n)] 3000 Tryd.f73 0 [aggB 32 (fun i => key.getD i 0), .rb false info .unk, .int .i64 n] [] (retQ Tryd.prog Tryd.f73 0 ⟨[], .tup [.slice 0 0 1 n.toNat (.kn n.toNat) .unk, .int .i64 0], [], [⟨.bytes (hkT (k32 key) info ((n.toNat + 31) / 32)), true, 0⟩]⟩) = (fun (K : By) => (
@Bool.rec (fun _ => Prop) False (@Bool.rec (fun _ => Prop) ((∃ (x : Nat), ((32 : Int) * (↑x : Int) < n + (32 : Int) ∨ x = 0) ∧
 info = info ∧
 n = n ∧
 0 = 0 ∧
 32 * x = 0 ∧
 hkB K info x = [] ∧
 (↑(x + 1) : Int) = (1 : Int) ∧
 hkT K info x = [] ∧
 key.getD 0 0 = key.getD 0 0 ∧
 key.getD 1 0 = key.getD 1 0 ∧
 key.getD 2 0 = key.getD 2 0 ∧
 key.getD 3 0 = key.getD 3 0 ∧
 key.getD 4 0 = key.getD 4 0 ∧
 key.getD 5 0 = key.getD 5 0 ∧
 key.getD 6 0 = key.getD 6 0 ∧
 key.getD 7 0 = key.getD 7 0 ∧
 key.getD 8 0 = key.getD 8 0 ∧
 key.getD 9 0 = key.getD 9 0 ∧
 key.getD 10 0 = key.getD 10 0 ∧
 key.getD 11 0 = key.getD 11 0 ∧
 key.getD 12 0 = key.getD 12 0 ∧
 key.getD 13 0 = key.getD 13 0 ∧
 key.getD 14 0 = key.getD 14 0 ∧
 key.getD 15 0 = key.getD 15 0 ∧
 key.getD 16 0 = key.getD 16 0 ∧
 key.getD 17 0 = key.getD 17 0 ∧
 key.getD 18 0 = key.getD 18 0 ∧
 key.getD 19 0 = key.getD 19 0 ∧
 key.getD 20 0 = key.getD 20 0 ∧
 key.getD 21 0 = key.getD 21 0 ∧
 key.getD 22 0 = key.getD 22 0 ∧
 key.getD 23 0 = key.getD 23 0 ∧
 key.getD 24 0 = key.getD 24 0 ∧
 key.getD 25 0 = key.getD 25 0 ∧
 key.getD 26 0 = key.getD 26 0 ∧
 key.getD 27 0 = key.getD 27 0 ∧
 key.getD 28 0 = key.getD 28 0 ∧
 key.getD 29 0 = key.getD 29 0 ∧
 key.getD 30 0 = key.getD 30 0 ∧
 key.getD 31 0 = key.getD 31 0 ∧
 True) ∧
 ∀ (x : Nat), (32 : Int) * (↑x : Int) < n + (32 : Int) ∨ x = 0 → @Bool.rec (fun _ => Prop) ((0 : Int) ≤ n ∧
 (0 : Int) ≤ n ∧
 n.toNat ≤ n.toNat ∧
 n.toNat ≤ 32 * x ∧
 n.toNat = n.toNat ∧
 0 = 0 ∧
 0 = 0 ∧
 n.toNat = n.toNat ∧
 (0 : Int) = (0 : Int) ∧
 hkT K info ((n.toNat + 31) / 32) = hkT K info x ∧
 True) (@Bool.rec (fun _ => Prop) (@Bool.rec (fun _ => Prop) (@Bool.rec (fun _ => Prop) (@Bool.rec (fun _ => Prop) (@Bool.rec (fun _ => Prop) ((0 : Int) ≤ (0 : Int) ∧
 0 < 3 ∧
 (0 : Int) ≤ Int.ofNat 1 ∧
 1 < 3 ∧
 (0 : Int) ≤ Int.ofNat 2 ∧
 2 < 3 ∧
 (0 : Int) ≤ (0 : Int) ∧
 0 < 3 ∧
 roomFor 0 (List.length (hkB K info x)) 1 ∧
 (0 : Int) ≤ Int.ofNat 1 ∧
 1 < 3 ∧
 List.length (hkB K info x) = List.length (hkB K info x) ∧
 roomFor (List.length (hkB K info x)) (List.length info) 1 ∧
 (0 : Int) ≤ Int.ofNat 2 ∧
 2 < 3 ∧
 1 = [BitVec.ofInt 8 (↑(x + 1) : Int)].length ∧
 List.length (hkB K info x) + List.length info = (hkB K info x ++ info).length ∧
 roomFor (List.length (hkB K info x) + List.length info) [BitVec.ofInt 8 (↑(x + 1) : Int)].length 1 ∧
 List.length (hkB K info x) + List.length info + [BitVec.ofInt 8 (↑(x + 1) : Int)].length = (hkB K info x ++ info ++ [BitVec.ofInt 8 (↑(x + 1) : Int)]).length ∧
 (K.length < 4611686018427387904 ∧
 (hkB K info x ++ info ++ [BitVec.ofInt 8 (↑(x + 1) : Int)]).length < 4611686018427387904) ∧
 32 * x = List.length (hkT K info x) ∧
 roomFor (32 * x) (macL K (hkB K info x ++ info ++ [BitVec.ofInt 8 (↑(x + 1) : Int)])).length 1 ∧
 ∃ (y : Nat), 300 - y < 300 - x ∧
 ((32 : Int) * (↑y : Int) < n + (32 : Int) ∨ y = 0) ∧
 info = info ∧
 n = n ∧
 0 = 0 ∧
 0 = 0 ∧
 0 = 0 ∧
 0 = 0 ∧
 32 * y = 32 * x + (macL K (hkB K info x ++ info ++ [BitVec.ofInt 8 (↑(x + 1) : Int)])).length ∧
 hkB K info y = (macL K (hkB K info x ++ info ++ [BitVec.ofInt 8 (↑(x + 1) : Int)])) ∧
 32 = List.length (hkB K info y) ∧
 (↑(y + 1) : Int) = IntKind.i64.wrap ((↑(x + 1) : Int) + (1 : Int)) ∧
 hkT K info y = hkT K info x ++ (macL K (hkB K info x ++ info ++ [BitVec.ofInt 8 (↑(x + 1) : Int)])) ∧
 key.getD 0 0 = key.getD 0 0 ∧
 key.getD 1 0 = key.getD 1 0 ∧
 key.getD 2 0 = key.getD 2 0 ∧
 key.getD 3 0 = key.getD 3 0 ∧
 key.getD 4 0 = key.getD 4 0 ∧
 key.getD 5 0 = key.getD 5 0 ∧
 key.getD 6 0 = key.getD 6 0 ∧
 key.getD 7 0 = key.getD 7 0 ∧
 key.getD 8 0 = key.getD 8 0 ∧
 key.getD 9 0 = key.getD 9 0 ∧
 key.getD 10 0 = key.getD 10 0 ∧
 key.getD 11 0 = key.getD 11 0 ∧
 key.getD 12 0 = key.getD 12 0 ∧
 key.getD 13 0 = key.getD 13 0 ∧
 key.getD 14 0 = key.getD 14 0 ∧
 key.getD 15 0 = key.getD 15 0 ∧
 key.getD 16 0 = key.getD 16 0 ∧
 key.getD 17 0 = key.getD 17 0 ∧
 key.getD 18 0 = key.getD 18 0 ∧
 key.getD 19 0 = key.getD 19 0 ∧
 key.getD 20 0 = key.getD 20 0 ∧
 key.getD 21 0 = key.getD 21 0 ∧
 key.getD 22 0 = key.getD 22 0 ∧
 key.getD 23 0 = key.getD 23 0 ∧
 key.getD 24 0 = key.getD 24 0 ∧
 key.getD 25 0 = key.getD 25 0 ∧
 key.getD 26 0 = key.getD 26 0 ∧
 key.getD 27 0 = key.getD 27 0 ∧
 key.getD 28 0 = key.getD 28 0 ∧
 key.getD 29 0 = key.getD 29 0 ∧
 key.getD 30 0 = key.getD 30 0 ∧
 key.getD 31 0 = key.getD 31 0 ∧
 True) ((0 : Int) ≤ (0 : Int) ∧
 0 < 3 ∧
 (0 : Int) ≤ Int.ofNat 1 ∧
 1 < 3 ∧
 (0 : Int) ≤ Int.ofNat 2 ∧
 2 < 3 ∧
 (0 : Int) ≤ (0 : Int) ∧
 0 ≤ 0 ∧
 (0 : Int) ≤ IntKind.i64.wrap ((IntKind.i64.wrap (IntKind.i64.wrap (IntKind.i64.wrap ((0 : Int) + (↑(List.length (hkB K info x)) : Int)) + (↑(List.length info) : Int)) + Int.ofNat 1)) - Int.ofNat 0) ∧
 IntKind.i64.wrap ((IntKind.i64.wrap (IntKind.i64.wrap (IntKind.i64.wrap ((0 : Int) + (↑(List.length (hkB K info x)) : Int)) + (↑(List.length info) : Int)) + Int.ofNat 1)) - Int.ofNat 0) < (9223372036854775808 : Int) ∧
 roomFor 0 (List.replicate (IntKind.i64.wrap ((IntKind.i64.wrap (IntKind.i64.wrap (IntKind.i64.wrap ((0 : Int) + (↑(List.length (hkB K info x)) : Int)) + (↑(List.length info) : Int)) + Int.ofNat 1)) - Int.ofNat 0)).toNat (0 : BitVec 8)).length 1 ∧
 (0 : Int) ≤ (0 : Int) ∧
 0 ≤ (List.replicate (IntKind.i64.wrap ((IntKind.i64.wrap (IntKind.i64.wrap (IntKind.i64.wrap ((0 : Int) + (↑(List.length (hkB K info x)) : Int)) + (↑(List.length info) : Int)) + Int.ofNat 1)) - Int.ofNat 0)).toNat (0 : BitVec 8)).length ∧
 (0 : Int) ≤ (0 : Int) ∧
 0 < 3 ∧
 0 ≤ (List.replicate (IntKind.i64.wrap ((IntKind.i64.wrap (IntKind.i64.wrap (IntKind.i64.wrap ((0 : Int) + (↑(List.length (hkB K info x)) : Int)) + (↑(List.length info) : Int)) + Int.ofNat 1)) - Int.ofNat 0)).toNat (0 : BitVec 8)).length ∧
 0 = (List.take 0 (List.replicate (IntKind.i64.wrap ((IntKind.i64.wrap (IntKind.i64.wrap (IntKind.i64.wrap ((0 : Int) + (↑(List.length (hkB K info x)) : Int)) + (↑(List.length info) : Int)) + Int.ofNat 1)) - Int.ofNat 0)).toNat (0 : BitVec 8))).length ∧
 roomFor 0 (List.length (hkB K info x)) 1 ∧
 (0 : Int) ≤ Int.ofNat 1 ∧
 1 < 3 ∧
 0 + List.length (hkB K info x) = (List.take 0 (List.replicate (IntKind.i64.wrap ((IntKind.i64.wrap (IntKind.i64.wrap (IntKind.i64.wrap ((0 : Int) + (↑(List.length (hkB K info x)) : Int)) + (↑(List.length info) : Int)) + Int.ofNat 1)) - Int.ofNat 0)).toNat (0 : BitVec 8)) ++ hkB K info x).length ∧
 roomFor (0 + List.length (hkB K info x)) (List.length info) 1 ∧
 (0 : Int) ≤ Int.ofNat 2 ∧
 2 < 3 ∧
 1 = [BitVec.ofInt 8 (↑(x + 1) : Int)].length ∧
 0 + List.length (hkB K info x) + List.length info = (List.take 0 (List.replicate (IntKind.i64.wrap ((IntKind.i64.wrap (IntKind.i64.wrap (IntKind.i64.wrap ((0 : Int) + (↑(List.length (hkB K info x)) : Int)) + (↑(List.length info) : Int)) + Int.ofNat 1)) - Int.ofNat 0)).toNat (0 : BitVec 8)) ++ hkB K info x ++ info).length ∧
 roomFor (0 + List.length (hkB K info x) + List.length info) [BitVec.ofInt 8 (↑(x + 1) : Int)].length 1 ∧
 0 + List.length (hkB K info x) + List.length info + [BitVec.ofInt 8 (↑(x + 1) : Int)].length = (List.take 0 (List.replicate (IntKind.i64.wrap ((IntKind.i64.wrap (IntKind.i64.wrap (IntKind.i64.wrap ((0 : Int) + (↑(List.length (hkB K info x)) : Int)) + (↑(List.length info) : Int)) + Int.ofNat 1)) - Int.ofNat 0)).toNat (0 : BitVec 8)) ++ hkB K info x ++ info ++ [BitVec.ofInt 8 (↑(x + 1) : Int)]).length ∧
 (K.length < 4611686018427387904 ∧
 (List.take 0 (List.replicate (IntKind.i64.wrap ((IntKind.i64.wrap (IntKind.i64.wrap (IntKind.i64.wrap ((0 : Int) + (↑(List.length (hkB K info x)) : Int)) + (↑(List.length info) : Int)) + Int.ofNat 1)) - Int.ofNat 0)).toNat (0 : BitVec 8)) ++ hkB K info x ++ info ++ [BitVec.ofInt 8 (↑(x + 1) : Int)]).length < 4611686018427387904) ∧
 32 * x = List.length (hkT K info x) ∧
 roomFor (32 * x) (macL K (List.take 0 (List.replicate (IntKind.i64.wrap ((IntKind.i64.wrap (IntKind.i64.wrap (IntKind.i64.wrap ((0 : Int) + (↑(List.length (hkB K info x)) : Int)) + (↑(List.length info) : Int)) + Int.ofNat 1)) - Int.ofNat 0)).toNat (0 : BitVec 8)) ++ hkB K info x ++ info ++ [BitVec.ofInt 8 (↑(x + 1) : Int)])).length 1 ∧
 ∃ (y : Nat), 300 - y < 300 - x ∧
 ((32 : Int) * (↑y : Int) < n + (32 : Int) ∨ y = 0) ∧
 info = info ∧
 n = n ∧
 0 = 0 ∧
 0 = 0 ∧
 0 = 0 ∧
 0 = 0 ∧
 32 * y = 32 * x + (macL K (List.take 0 (List.replicate (IntKind.i64.wrap ((IntKind.i64.wrap (IntKind.i64.wrap (IntKind.i64.wrap ((0 : Int) + (↑(List.length (hkB K info x)) : Int)) + (↑(List.length info) : Int)) + Int.ofNat 1)) - Int.ofNat 0)).toNat (0 : BitVec 8)) ++ hkB K info x ++ info ++ [BitVec.ofInt 8 (↑(x + 1) : Int)])).length ∧
 hkB K info y = (macL K (List.take 0 (List.replicate (IntKind.i64.wrap ((IntKind.i64.wrap (IntKind.i64.wrap (IntKind.i64.wrap ((0 : Int) + (↑(List.length (hkB K info x)) : Int)) + (↑(List.length info) : Int)) + Int.ofNat 1)) - Int.ofNat 0)).toNat (0 : BitVec 8)) ++ hkB K info x ++ info ++ [BitVec.ofInt 8 (↑(x + 1) : Int)])) ∧
 32 = List.length (hkB K info y) ∧
 (↑(y + 1) : Int) = IntKind.i64.wrap ((↑(x + 1) : Int) + (1 : Int)) ∧
 hkT K info y = hkT K info x ++ (macL K (List.take 0 (List.replicate (IntKind.i64.wrap ((IntKind.i64.wrap (IntKind.i64.wrap (IntKind.i64.wrap ((0 : Int) + (↑(List.length (hkB K info x)) : Int)) + (↑(List.length info) : Int)) + Int.ofNat 1)) - Int.ofNat 0)).toNat (0 : BitVec 8)) ++ hkB K info x ++ info ++ [BitVec.ofInt 8 (↑(x + 1) : Int)])) ∧
 key.getD 0 0 = key.getD 0 0 ∧
 key.getD 1 0 = key.getD 1 0 ∧
 key.getD 2 0 = key.getD 2 0 ∧
 key.getD 3 0 = key.getD 3 0 ∧
 key.getD 4 0 = key.getD 4 0 ∧
 key.getD 5 0 = key.getD 5 0 ∧
 key.getD 6 0 = key.getD 6 0 ∧
 key.getD 7 0 = key.getD 7 0 ∧
 key.getD 8 0 = key.getD 8 0 ∧
 key.getD 9 0 = key.getD 9 0 ∧
 key.getD 10 0 = key.getD 10 0 ∧
 key.getD 11 0 = key.getD 11 0 ∧
 key.getD 12 0 = key.getD 12 0 ∧
 key.getD 13 0 = key.getD 13 0 ∧
 key.getD 14 0 = key.getD 14 0 ∧
 key.getD 15 0 = key.getD 15 0 ∧
 key.getD 16 0 = key.getD 16 0 ∧
 key.getD 17 0 = key.getD 17 0 ∧
 key.getD 18 0 = key.getD 18 0 ∧
 key.getD 19 0 = key.getD 19 0 ∧
 key.getD 20 0 = key.getD 20 0 ∧
 key.getD 21 0 = key.getD 21 0 ∧
 key.getD 22 0 = key.getD 22 0 ∧
 key.getD 23 0 = key.getD 23 0 ∧
 key.getD 24 0 = key.getD 24 0 ∧
 key.getD 25 0 = key.getD 25 0 ∧
 key.getD 26 0 = key.getD 26 0 ∧
 key.getD 27 0 = key.getD 27 0 ∧
 key.getD 28 0 = key.getD 28 0 ∧
 key.getD 29 0 = key.getD 29 0 ∧
 key.getD 30 0 = key.getD 30 0 ∧
 key.getD 31 0 = key.getD 31 0 ∧
 True) (decide ((0 : Int) < IntKind.i64.wrap ((IntKind.i64.wrap (IntKind.i64.wrap (IntKind.i64.wrap ((0 : Int) + (↑(List.length (hkB K info x)) : Int)) + (↑(List.length info) : Int)) + Int.ofNat 1)) - Int.ofNat 0)))) False (decide ((IntKind.i64.wrap (IntKind.i64.wrap (IntKind.i64.wrap ((0 : Int) + (↑(List.length (hkB K info x)) : Int)) + (↑(List.length info) : Int)) + Int.ofNat 1)) < (0 : Int)))) False (decide ((IntKind.i64.wrap (IntKind.i64.wrap (IntKind.i64.wrap ((0 : Int) + (↑(List.length (hkB K info x)) : Int)) + (↑(List.length info) : Int)) + Int.ofNat 1)) < (0 : Int)))) False (decide (IntKind.i64.wrap (IntKind.i64.wrap ((0 : Int) + (↑(List.length (hkB K info x)) : Int)) + (↑(List.length info) : Int)) < (0 : Int)))) False (decide (IntKind.i64.wrap ((0 : Int) + (↑(List.length (hkB K info x)) : Int)) < (0 : Int)))) (decide ((↑(32 * x) : Int) < n))) False (decide ((8160 : Int) < n))) (!decide (n < (0 : Int))) : Prop)) (k32 key) := by kernel_rfl
end Go.Sym

namespace Go.Spec
theorem macL_length (K m : By) : (macL K m).length = 32 := by simp [macL]
theorem hkB_length (K info : By) (x : Nat) : (hkB K info x).length ≤ 32 := by
  cases x with
  | zero => simp [hkB]
  | succ x => simp [hkB, macL]
theorem hkT_length (K info : By) : ∀ x, (hkT K info x).length = 32 * x
  | 0 => rfl
  | x + 1 => by
    simp only [hkT, hkB, List.length_append, macL_length, hkT_length K info x]
    omega
theorem hkB_succ (K info : By) (x : Nat) : macL K (hkB K info x ++ info ++ [BitVec.ofInt 8 ((x + 1 : Nat) : Int)]) = hkB K info (x + 1) := by
  simp only [hkB, List.append_assoc, BitVec.ofInt_natCast]
end Go.Spec
namespace Go.Sym
open Go.Proofs Go.Spec
set_option linter.unusedVariables false
theorem b18 (key info : By) (n : Int) (h0 : 0 ≤ n) (h1 : n ≤ 8160) (h2 : info.length < 1099511627776) : Must (bodyP Tryd.prog H2 gl0 [] [(6, lsEx key info n)] 3000 Tryd.f73 0 [aggB 32 (fun i => key.getD i 0), .rb false info .unk, .int .i64 n] [] (retQ Tryd.prog Tryd.f73 0 ⟨[], .tup [.slice 0 0 1 n.toNat (.kn n.toNat) .unk, .int .i64 0], [], [⟨.bytes (hkT (k32 key) info ((n.toNat + 31) / 32)), true, 0⟩]⟩)) := by
  constructor
  rw [vc18]
  dsimp only
  have hK : (k32 key).length = 32 := by simp [k32]
  generalize k32 key = K at *
  refine brec (fun _ => ?_) (fun h => absurd h (by simp; omega))
  refine brec (fun h => absurd (dlt.1 h) (by omega)) (fun _ => ?_)
  refine ⟨⟨0, .inr rfl, by simp [hkB, hkT]⟩, fun x hx => ?_⟩
  refine brec (fun h => ?_) (fun h => ?_)
  · replace h := dlt.1 h
    have ha := hkB_length K info x
    have hT := hkT_length K info x
    have hS := hkB_succ K info x
    have hl : (hkB K info (x + 1)).length = 32 := by simp [hkB, macL]
    have w1 : IntKind.i64.wrap ((0 : Int) + ((hkB K info x).length : Int)) = (((hkB K info x).length : Nat) : Int) := by
      rw [Int.zero_add]; exact wrap_i64 (by omega) (by omega)
    have w2 : IntKind.i64.wrap (((hkB K info x).length : Int) + (info.length : Int)) = (((hkB K info x).length + info.length : Nat) : Int) := wrap_nat _ (by omega) (by omega)
    have w3 : IntKind.i64.wrap ((((hkB K info x).length + info.length : Nat) : Int) + Int.ofNat 1) = (((hkB K info x).length + info.length + 1 : Nat) : Int) := wrap_nat _ (by simp) (by omega)
    have w4 : IntKind.i64.wrap ((((hkB K info x).length + info.length + 1 : Nat) : Int) - Int.ofNat 0) = (((hkB K info x).length + info.length + 1 : Nat) : Int) := wrap_nat _ (by simp) (by omega)
    have w5 : IntKind.i64.wrap (((x + 1 : Nat) : Int) + 1) = ((x + 1 + 1 : Nat) : Int) := wrap_nat _ (by simp) (by omega)
    have d1 : ∀ k : Nat, decide ((k : Int) < 0) = false := fun k => by simp
    have d2 : ∀ k : Nat, decide (0 < ((k + 1 : Nat) : Int)) = true := fun k => by simp only [decide_eq_true_eq]; omega
    simp only [w1, w2, w3, w4, w5, d1, d2]
    simp only [List.take_zero, List.nil_append, Nat.zero_add, hS, hl, hK, hT, Int.toNat_natCast, List.length_replicate, List.length_append, List.length_singleton, and_true]
    unfold roomFor
    repeat refine And.intro (by first | exact True.intro | omega | exact Int.natCast_nonneg _ | rfl) ?_
    exact ⟨x + 1, by omega, .inl (by omega), trivial, trivial, trivial, trivial, trivial, trivial, by omega, rfl, hl.symm, rfl, rfl⟩
  · replace h := ndlt.1 h
    have e : (n.toNat + 31) / 32 = x := by omega
    rw [e]
    simp only [and_true]
    omega
end Go.Sym

/- What is handed in from outside: plain data of any shape. -/
namespace Go.Sym
set_option linter.unusedVariables false
set_option linter.unusedSimpArgs false
open Go.ChangeShapes Go.WideShapes
inductive Sh where
  | i (k : IntKind)
  | b
  | s
  | y
def Sh.ok : Sh → AV → Prop
  | .i .u8, a => ∃ x, a = .u8 x
  | .i .u16, a => ∃ x, a = .u16 x
  | .i .u32, a => ∃ x, a = .u32 x
  | .i .u64, a => ∃ x, a = .u64 x
  | .i k, a => ∃ n, a = .int k n ∧ (Lit.int k n).wf = true
  | .b, a => ∃ c, a = .bool c
  | .s, a => ∃ l, a = .str l ∧ l.length ≤ maxLen
  | .y, a => ∃ l c, a = .rb true l (.is c) ∧ (c = true → l = []) ∧ l.length ≤ maxLen
def shAll : List Sh → List AV → Prop
  | [], [] => True
  | k :: ss, a :: az => k.ok a ∧ shAll ss az
  | _, _ => False
theorem shAll_append : ∀ {l m : List Sh} {az bs : List AV}, shAll l az → shAll m bs → shAll (l ++ m) (az ++ bs)
  | [], _, [], _, _, k => k
  | _ :: _, _, _ :: _, _, h, k => ⟨h.1, shAll_append h.2 k⟩
  | [], _, _ :: _, _, h, _ => h.elim
  | _ :: _, _, [], _, h, _ => h.elim
theorem datas_append {p : Bool} : ∀ {az bs : List AV}, datas p az = true → datas p bs = true → datas p (az ++ bs) = true
  | [], _, _, k => k
  | a :: az, _, h, k => by
    simp only [datas, Bool.and_eq_true, List.cons_append] at h ⊢
    exact ⟨h.1, datas_append h.2 k⟩
def flatFs (P : Program) (g : TypeId → Option (List Sh)) : List Field → Nat → Option (List Sh)
  | [], _ => some []
  | f :: fs, o => if f.offset = o then (g f.type).bind fun l => if P.cellsOf f.type = l.length then (flatFs P g fs (o + l.length)).map (l ++ ·) else none else none
def flat (P : Program) : Nat → TypeId → Option (List Sh)
  | 0, _ => none
  | f + 1, t => match P.underlying t with
    | some (.int k) => some [.i k]
    | some .bool => some [.b]
    | some .string => some [.s]
    | some (.slice e) => (match P.underlying e with | some (.int .u8) => if P.cellsOf e = 1 then some [.y] else none | _ => none)
    | some (.array n e) => (flat P f e).bind fun l => if P.cellsOf e = l.length ∧ P.cellsOf t = n * l.length then some (List.replicate n l).flatten else none
    | some (.struct fs) => (flatFs P (flat P f) fs.toList 0).bind fun l => if P.cellsOf t = l.length then some l else none
    | _ => none

section
variable {H : Type} {enc : TypeId × Value → H} {P : Program} {W : World} {base : Nat} {spare : Nat → Bool} {held : Bool}
def Read (W : World) (l : List Sh) (cs : List Value) : Prop := ∃ avs, shAll l avs ∧ datas true avs = true ∧ VRels (κW W) avs cs
theorem Read.append {l m : List Sh} {cs ds : List Value} (h : Read W l cs) (k : Read W m ds) : Read W (l ++ m) (cs ++ ds) := by
  obtain ⟨a, h1, h2, h3⟩ := h
  obtain ⟨b, k1, k2, k3⟩ := k
  exact ⟨a ++ b, shAll_append h1 k1, datas_append h2 k2, VRels.append h3 k3⟩
theorem read_arr {l : List Sh} {m : Nat} : ∀ (n : Nat) (cs : List Value), cs.length = n * m → (∀ i, i < n → Read W l ((cs.drop (i * m)).take m)) → Read W (List.replicate n l).flatten cs
  | 0, cs, hl, _ => by
    have : cs = [] := List.eq_nil_of_length_eq_zero (by simpa using hl)
    subst this
    exact ⟨[], trivial, rfl, rfl⟩
  | n + 1, cs, hl, h => by
    have h0 := h 0 (by omega)
    simp only [Nat.zero_mul, List.drop_zero] at h0
    have hr := read_arr (m := m) n (cs.drop m) (by rw [List.length_drop, hl, Nat.succ_mul]; omega) (fun i hi => by
      have := h (i + 1) (by omega)
      rw [List.drop_drop]
      rw [Nat.add_mul, Nat.one_mul, Nat.add_comm] at this
      exact this)
    have := h0.append hr
    rw [List.take_append_drop] at this
    simpa [List.replicate_succ] using this
theorem read_fs {g : TypeId → Option (List Sh)} {cs : List Value} : ∀ (fs : List Field) (o : Nat) (l : List Sh), flatFs P g fs o = some l → cs.length = o + l.length →
    (∀ f l', f ∈ fs → g f.type = some l' → Read W l' ((cs.drop f.offset).take (P.cellsOf f.type))) → Read W l (cs.drop o)
  | [], o, l, h, hl, _ => by
    simp only [flatFs, Option.some.injEq] at h
    subst h
    have : cs.drop o = [] := List.drop_eq_nil_of_le (by simp at hl; omega)
    rw [this]
    exact ⟨[], trivial, rfl, rfl⟩
  | f :: fs, o, l, h, hl, hr => by
    simp only [flatFs] at h
    split at h
    · rename_i ho
      simp only [Option.bind_eq_some_iff] at h
      obtain ⟨l1, h1, h2⟩ := h
      split at h2
      · rename_i hc
        simp only [Option.map_eq_some_iff] at h2
        obtain ⟨l2, h3, rfl⟩ := h2
        have k1 := hr f l1 (by simp) h1
        rw [ho, hc] at k1
        have k2 := read_fs fs (o + l1.length) l2 h3 (by simp at hl; omega) (fun f' l' hf hg => hr f' l' (by simp [hf]) hg)
        have := k1.append k2
        rw [← List.drop_drop, List.take_append_drop] at this
        exact this
      · cases h2
    · cases h
theorem rd_flat : ∀ (f : Nat) (t : TypeId) (l : List Sh) (fuel : Nat) (cs : List Value) (x : DataW H × List MemPlace), flat P f t = some l → DataW.trod enc P W base spare held fuel t cs = some x → Read W l cs
  | 0, _, _, _, _, _, h, _ => by cases h
  | f + 1, t, l, fuel, cs, x, h, hd => by
    unfold flat at h
    split at h
    · rename_i k ht
      simp only [Option.some.injEq] at h
      subst h
      obtain ⟨n, rfl, _, hw⟩ := DataW.trod_int ht hd
      have hn : absC0 (.int k n) = absC0 (.int k n) := rfl
      cases k
      case u8 =>
        simp [Lit.wf, IntKind.min, IntKind.max, IntKind.signed, IntKind.bits] at hw
        exact ⟨[.u8 (BitVec.ofNat 8 n.toNat)], ⟨⟨_, rfl⟩, trivial⟩, rfl, _, [], rfl, by simp only [VRel, BitVec.toNat_ofNat]; congr 1; omega, rfl⟩
      case u16 =>
        simp [Lit.wf, IntKind.min, IntKind.max, IntKind.signed, IntKind.bits] at hw
        exact ⟨[.u16 (BitVec.ofNat 16 n.toNat)], ⟨⟨_, rfl⟩, trivial⟩, rfl, _, [], rfl, by simp only [VRel, BitVec.toNat_ofNat]; congr 1; omega, rfl⟩
      case u32 =>
        simp [Lit.wf, IntKind.min, IntKind.max, IntKind.signed, IntKind.bits] at hw
        exact ⟨[.u32 (BitVec.ofNat 32 n.toNat)], ⟨⟨_, rfl⟩, trivial⟩, rfl, _, [], rfl, by simp only [VRel, BitVec.toNat_ofNat]; congr 1; omega, rfl⟩
      case u64 =>
        simp [Lit.wf, IntKind.min, IntKind.max, IntKind.signed, IntKind.bits] at hw
        exact ⟨[.u64 (BitVec.ofNat 64 n.toNat)], ⟨⟨_, rfl⟩, trivial⟩, rfl, _, [], rfl, by simp only [VRel, BitVec.toNat_ofNat]; congr 1; omega, rfl⟩
      all_goals exact ⟨[.int _ n], ⟨⟨_, rfl, hw⟩, trivial⟩, rfl, _, [], rfl, rfl, rfl⟩
    · rename_i ht
      simp only [Option.some.injEq] at h
      subst h
      obtain ⟨b, rfl, _⟩ := DataW.trod_bool ht hd
      exact ⟨[.bool b], ⟨⟨_, rfl⟩, trivial⟩, rfl, _, [], rfl, rfl, rfl⟩
    · rename_i ht
      simp only [Option.some.injEq] at h
      subst h
      obtain ⟨s, rfl, _, hs⟩ := DataW.trod_string ht hd
      have hb := bytesStr_strBytes s
      refine ⟨[.str (strBytes s)], ⟨⟨_, rfl, ?_⟩, trivial⟩, rfl, _, [], rfl, by simp only [VRel, hb], rfl⟩
      rw [← bytesStr_size, hb]
      exact hs
    · rename_i e ht
      split at h
      · rename_i he
        split at h
        · rename_i hc
          simp only [Option.some.injEq] at h
          subst h
          obtain ⟨v, l, c, rfl, h1, h2, h3⟩ := rd_bytes ht he hc hd
          exact ⟨[.rb true l (.is c)], ⟨⟨l, c, rfl, h1, h2⟩, trivial⟩, rfl, _, [], rfl, h3, rfl⟩
        · cases h
      · cases h
    · rename_i n e ht
      simp only [Option.bind_eq_some_iff] at h
      obtain ⟨l1, h1, h2⟩ := h
      split at h2
      · rename_i hc
        simp only [Option.some.injEq] at h2
        subst h2
        obtain ⟨xs, m, _, _, hl, hn, hel⟩ := DataW.trod_array ht hd
        refine read_arr (m := l1.length) n cs (by rw [hl, hc.2]) fun i hi => ?_
        have := hel i hi
        rw [List.getElem?_eq_getElem (by omega), hc.1] at this
        exact rd_flat f e l1 _ _ _ h1 this
      · cases h2
    · rename_i fs ht
      simp only [Option.bind_eq_some_iff] at h
      obtain ⟨l1, h1, h2⟩ := h
      split at h2
      · rename_i hc
        simp only [Option.some.injEq] at h2
        subst h2
        obtain ⟨xs, m, _, _, hl, hn, hel⟩ := DataW.trod_struct ht hd
        have := read_fs (W := W) (cs := cs) fs.toList 0 l1 h1 (by rw [hl, hc]; omega) fun f0 l' hf hg => by
          obtain ⟨i, hi⟩ := List.getElem?_of_mem hf
          have hlt := (List.getElem?_eq_some_iff.1 hi).1
          have := hel i f0 (by simpa using hi)
          rw [List.getElem?_eq_getElem (by simp at hlt; omega)] at this
          exact rd_flat f f0.type l' _ _ _ hg this
        simpa using this
      · cases h2
    · cases h
theorem agg_of_cells {v : Value} {avs : List AV} (h : VRels (κW W) avs v.cells.toList) (hl : 2 ≤ avs.length) : VRel (κW W) (.agg avs) v := by
  have hn := h.length
  cases v
  case agg cs => exact ⟨cs, rfl, h⟩
  all_goals (exfalso; simp [Value.cells] at hn; omega)
/-- Bytes of an array. -/
theorem sh_u8 : ∀ {n : Nat} {avs : List AV}, shAll (List.replicate n (.i .u8)) avs → ∃ l : List (BitVec 8), l.length = n ∧ avs = l.map .u8
  | 0, [], _ => ⟨[], rfl, rfl⟩
  | 0, _ :: _, h => h.elim
  | n + 1, [], h => h.elim
  | n + 1, a :: az, h => by
    obtain ⟨⟨x, rfl⟩, h2⟩ := h
    obtain ⟨l, h3, rfl⟩ := sh_u8 h2
    exact ⟨x :: l, by simp [h3], rfl⟩
end
theorem sh_cons {k : Sh} {ks : List Sh} {avs : List AV} (h : shAll (k :: ks) avs) : ∃ a az, avs = a :: az ∧ k.ok a ∧ shAll ks az := by
  cases avs with
  | nil => exact h.elim
  | cons a az => exact ⟨a, az, rfl, h.1, h.2⟩
theorem sh_nil {avs : List AV} (h : shAll [] avs) : avs = [] := by
  cases avs with
  | nil => rfl
  | cons a az => exact h.elim
theorem sh_i64 {a : AV} (h : (Sh.i .i64).ok a) : ∃ n, a = .int .i64 n := by
  obtain ⟨n, h, _⟩ := h
  exact ⟨n, h⟩
theorem rel_u32 {κ : Ker} {n : Int} (h : (Lit.int .u32 n).wf = true) : VRel κ (.u32 (BitVec.ofInt 32 n)) (.int .u32 n) := by
  simp [Lit.wf, IntKind.has, IntKind.min, IntKind.max, IntKind.signed, IntKind.bits] at h
  simp only [VRel, BitVec.toNat_ofInt]
  congr 1
  omega
theorem rel_u64 {κ : Ker} {n : Int} (h : (Lit.int .u64 n).wf = true) : VRel κ (.u64 (BitVec.ofInt 64 n)) (.int .u64 n) := by
  simp [Lit.wf, IntKind.has, IntKind.min, IntKind.max, IntKind.signed, IntKind.bits] at h
  simp only [VRel, BitVec.toNat_ofInt]
  congr 1
  omega
theorem rel_u8 {κ : Ker} {n : Int} (h : (Lit.int .u8 n).wf = true) : VRel κ (.u8 (BitVec.ofInt 8 n)) (.int .u8 n) := by
  simp [Lit.wf, IntKind.has, IntKind.min, IntKind.max, IntKind.signed, IntKind.bits] at h
  simp only [VRel, BitVec.toNat_ofInt]
  congr 1
  omega
end Go.Sym

namespace Go.Spec
theorem k32_self {l : By} (h : l.length = 32) : k32 l = l := by
  apply List.ext_getElem
  · simp [k32, h]
  · intro i h1 h2
    simp [k32, List.getD, h2]
end Go.Spec
namespace Go.Sym
open Go.Proofs Go.Spec
set_option linter.unusedVariables false
theorem agg_u8 {cs : List AV} {l : By} (h : rdU8 cs = some l) (hl : l.length = 32) : AV.agg cs = aggB 32 (fun i => l.getD i 0) := by
  rw [rdU8_eq h]
  unfold aggB
  congr 1
  apply List.ext_getElem
  · simp [hl]
  · intro i h1 h2
    have : i < l.length := by simpa using h1
    simp [List.getD, this]
noncomputable def gEx (xs : List AV) (bs : List ABlk) : TL := match xs, bs with
  | [.agg cs, .rb false info .unk, .int .i64 n], [] => (match rdU8 cs with
    | some key => (match key.length == 32 with
      | true => .ok ⟨[0 ≤ n, n ≤ 8160, info.length < 1099511627776], .tup [.slice 0 0 1 n.toNat (.kn n.toNat) .unk, .int .i64 0], [], [⟨.bytes (hkT key info ((n.toNat + 31) / 32)), true, 0⟩]⟩
      | false => .no)
    | none => .no)
  | _, _ => .no
noncomputable def spEx : Spec := ⟨[.kp, .by0, .kp], fun _ _ => [], fun _ _ => [], gEx⟩
theorem c18 : COK Tryd.prog gl0 73 (mkF spEx) := by
  refine ctrE (fn := Tryd.f73) [] 3000 (by kernel_rfl) (by kernel_rfl) okH2 (by kernel_rfl) (fun args w => by kernel_rfl) ?_
  intro xs bs r hs ho
  simp only [spEx, gEx] at hs
  split at hs
  · rename_i cs info n
    split at hs
    · rename_i key hr
      split at hs
      · rename_i hl
        have hl : key.length = 32 := by simpa using hl
        simp only [TL.sel, Option.some.injEq] at hs
        subst hs
        obtain ⟨h0, h1, h2, _⟩ := ho
        rw [agg_u8 hr hl]
        have b := b18 key info n h0 h1 h2
        rw [k32_self hl] at b
        exact ⟨_, b⟩
      · simp [TL.sel] at hs
    · simp [TL.sel] at hs
  · simp [TL.sel] at hs
noncomputable def H3 : Ctx := H2.add 73 (mkF spEx)
theorem okH3 : COKs Tryd.prog gl0 H3 := okH2.add c18
end Go.Sym

namespace Go.Spec
def exBad (n : Int) : Bool := decide (n < 0) || decide (8160 < n)
def tls : By := [116#8, 108#8, 115#8, 49#8, 51#8, 32#8]
def labInfo (l c : By) (n : Int) : By := [BitVec.ofInt 8 (n / 256), BitVec.ofInt 8 n, BitVec.ofNat 8 (l.length + 6)] ++ tls ++ l ++ [BitVec.ofNat 8 c.length] ++ c
def labBad (l c : By) (n : Int) : Bool := exBad n || decide (l.length < 1) || decide (249 < l.length) || decide (255 < c.length)
end Go.Spec
namespace Go.Sym
open Go.Proofs Go.Spec
set_option linter.unusedVariables false
def rXe : RL := ⟨[], .tup [.nils, .int .i64 1], [], []⟩
def rYe : RL := ⟨[], .tup [.nils, .bool false], [], []⟩
noncomputable def rX (T : By) (n : Nat) : RL := ⟨[], .tup [.slice 0 0 1 n (.kn n) .unk, .int .i64 0], [], [⟨.bytes T, true, 0⟩]⟩
noncomputable def rY (T : By) (n : Nat) : RL := ⟨[], .tup [.slice 0 0 1 n .un .unk, .bool true], [], [⟨.bytes T, true, 0⟩]⟩
noncomputable def gEy (xs : List AV) (bs : List ABlk) : TL := match xs, bs with
  | [.agg cs, .rb false info .unk, .int .i64 n], [] => (match rdU8 cs with
    | some key => (match key.length == 32 with
      | true => .br (exBad n) (.ok rXe) (.ok ⟨[info.length < 1099511627776], .tup [.slice 0 0 1 n.toNat (.kn n.toNat) .unk, .int .i64 0], [], [⟨.bytes (hkT key info ((n.toNat + 31) / 32)), true, 0⟩]⟩)
      | false => .no)
    | none => .no)
  | _, _ => .no
noncomputable def spEy : Spec := ⟨[.kp, .by0, .kp], fun _ _ => [], fun _ _ => [], gEy⟩
noncomputable def gEr (xs : List AV) (bs : List ABlk) : TL := match xs, bs with
  | [.agg cs, .rb false info .unk, .int .i64 n], [] => (match rdU8 cs with
    | some key => (match key.length == 32 with
      | true => .br (exBad n) (.ok rYe) (.ok ⟨[info.length < 1099511627776], .tup [.slice 0 0 1 n.toNat .un .unk, .bool true], [], [⟨.bytes (hkT key info ((n.toNat + 31) / 32)), true, 0⟩]⟩)
      | false => .no)
    | none => .no)
  | _, _ => .no
noncomputable def spEr : Spec := ⟨[.kp, .by0, .kp], fun _ _ => [], fun _ _ => [], gEr⟩
noncomputable def gLa (e : RL) (f : By → Nat → RL) (xs : List AV) (bs : List ABlk) : TL := match xs, bs with
  | [.agg cs, .str l, .rb false c .unk, .int .i64 n], [] => (match rdU8 cs with
    | some key => (match key.length == 32 with
      | true => .br (labBad l c n) (.ok e) (.ok (f (hkT key (labInfo l c n) ((n.toNat + 31) / 32)) n.toNat))
      | false => .no)
    | none => .no)
  | _, _ => .no
noncomputable def spL1 : Spec := ⟨[.kp, .kp, .by0, .kp], fun _ _ => [], fun _ _ => [], gLa rXe rX⟩
noncomputable def spL2 : Spec := ⟨[.kp, .kp, .by0, .kp], fun _ _ => [], fun _ _ => [], gLa rYe rY⟩
noncomputable def N3 : Ctx := H2.add 73 (mkF spEy)
noncomputable def N5 : Ctx := N3
noncomputable def N7 : Ctx := N5.add 60 (mkF spL1)
end Go.Sym

namespace Go.Sym
open Go.Proofs Go.Spec
set_option linter.unusedVariables false
set_option maxRecDepth 100000 in
theorem vc18e (key info : By) (n : Int) : bodyP Tryd.prog H2 gl0 [] [(6, lsEx key info n)] 3000 Tryd.f73 0 [aggB 32 (fun i => key.getD i 0), .rb false info .unk, .int .i64 n] [] (retQ Tryd.prog Tryd.f73 0 rXe) = (
let x1 := List.getD key 0 (0 : BitVec 8) = List.getD key 0 (0 : BitVec 8) ∧ List.getD key 1 (0 : BitVec 8) = List.getD key 1 (0 : BitVec 8) ∧ List.getD key 2 (0 : BitVec 8) = List.getD key 2 (0 : BitVec 8) ∧ List.getD key 3 (0 : BitVec 8) = List.getD key 3 (0 : BitVec 8) ∧ List.getD key 4 (0 : BitVec 8) = List.getD key 4 (0 : BitVec 8) ∧ List.getD key 5 (0 : BitVec 8) = List.getD key 5 (0 : BitVec 8) ∧ List.getD key 6 (0 : BitVec 8) = List.getD key 6 (0 : BitVec 8) ∧ List.getD key 7 (0 : BitVec 8) = List.getD key 7 (0 : BitVec 8) ∧ List.getD key 8 (0 : BitVec 8) = List.getD key 8 (0 : BitVec 8) ∧ List.getD key 9 (0 : BitVec 8) = List.getD key 9 (0 : BitVec 8) ∧ List.getD key 10 (0 : BitVec 8) = List.getD key 10 (0 : BitVec 8) ∧ List.getD key 11 (0 : BitVec 8) = List.getD key 11 (0 : BitVec 8) ∧ List.getD key 12 (0 : BitVec 8) = List.getD key 12 (0 : BitVec 8) ∧ List.getD key 13 (0 : BitVec 8) = List.getD key 13 (0 : BitVec 8) ∧ List.getD key 14 (0 : BitVec 8) = List.getD key 14 (0 : BitVec 8) ∧ List.getD key 15 (0 : BitVec 8) = List.getD key 15 (0 : BitVec 8) ∧ List.getD key 16 (0 : BitVec 8) = List.getD key 16 (0 : BitVec 8) ∧ List.getD key 17 (0 : BitVec 8) = List.getD key 17 (0 : BitVec 8) ∧ List.getD key 18 (0 : BitVec 8) = List.getD key 18 (0 : BitVec 8) ∧ List.getD key 19 (0 : BitVec 8) = List.getD key 19 (0 : BitVec 8) ∧ List.getD key 20 (0 : BitVec 8) = List.getD key 20 (0 : BitVec 8) ∧ List.getD key 21 (0 : BitVec 8) = List.getD key 21 (0 : BitVec 8) ∧ List.getD key 22 (0 : BitVec 8) = List.getD key 22 (0 : BitVec 8) ∧ List.getD key 23 (0 : BitVec 8) = List.getD key 23 (0 : BitVec 8) ∧ List.getD key 24 (0 : BitVec 8) = List.getD key 24 (0 : BitVec 8) ∧ List.getD key 25 (0 : BitVec 8) = List.getD key 25 (0 : BitVec 8) ∧ List.getD key 26 (0 : BitVec 8) = List.getD key 26 (0 : BitVec 8) ∧ List.getD key 27 (0 : BitVec 8) = List.getD key 27 (0 : BitVec 8) ∧ List.getD key 28 (0 : BitVec 8) = List.getD key 28 (0 : BitVec 8) ∧ List.getD key 29 (0 : BitVec 8) = List.getD key 29 (0 : BitVec 8) ∧ List.getD key 30 (0 : BitVec 8) = List.getD key 30 (0 : BitVec 8) ∧ List.getD key 31 (0 : BitVec 8) = List.getD key 31 (0 : BitVec 8) ∧ True; @Bool.rec (fun _ => Prop) ((1 : Int) = (1 : Int) ∧ True) (@Bool.rec (fun _ => Prop) ((∃ (x : Nat), ((32 : Int) * (↑x : Int) < n + (32 : Int) ∨ x = 0) ∧ info = info ∧ n = n ∧ 0 = 0 ∧ 32 * x = 0 ∧ hkB (k32 key) info x = [] ∧ (↑(x + 1) : Int) = (1 : Int) ∧ hkT (k32 key) info x = [] ∧ x1) ∧ ∀ (x : Nat), let x1_1 := IntKind.i64.wrap (IntKind.i64.wrap (IntKind.i64.wrap (IntKind.i64.wrap ((0 : Int) + (↑(List.length (hkB (k32 key) info x)) : Int)) + (↑(List.length info) : Int)) + Int.ofNat 1) - Int.ofNat 0); let x2 := [BitVec.ofInt 8 (↑(x + 1) : Int)]; let x3 := List.take 0 (List.replicate x1_1.toNat (0 : BitVec 8)) ++ hkB (k32 key) info x; let x4 := IntKind.i64.wrap (IntKind.i64.wrap ((0 : Int) + (↑(List.length (hkB (k32 key) info x)) : Int)) + (↑(List.length info) : Int)); (32 : Int) * (↑x : Int) < n + (32 : Int) ∨ x = 0 → @Bool.rec (fun _ => Prop) ((0 : Int) ≤ n ∧ (0 : Int) ≤ n ∧ n.toNat ≤ n.toNat ∧ n.toNat ≤ 32 * x ∧ False) (@Bool.rec (fun _ => Prop) (@Bool.rec (fun _ => Prop) (@Bool.rec (fun _ => Prop) (@Bool.rec (fun _ => Prop) (@Bool.rec (fun _ => Prop) ((0 : Int) ≤ (0 : Int) ∧ 0 < 3 ∧ (0 : Int) ≤ Int.ofNat 1 ∧ 1 < 3 ∧ (0 : Int) ≤ Int.ofNat 2 ∧ 2 < 3 ∧ (0 : Int) ≤ (0 : Int) ∧ 0 < 3 ∧ roomFor 0 (List.length (hkB (k32 key) info x)) 1 ∧ (0 : Int) ≤ Int.ofNat 1 ∧ 1 < 3 ∧ List.length (hkB (k32 key) info x) = List.length (hkB (k32 key) info x) ∧ roomFor (List.length (hkB (k32 key) info x)) (List.length info) 1 ∧ (0 : Int) ≤ Int.ofNat 2 ∧ 2 < 3 ∧ 1 = x2.length ∧ List.length (hkB (k32 key) info x) + List.length info = List.length (hkB (k32 key) info x ++ info) ∧ roomFor (List.length (hkB (k32 key) info x) + List.length info) x2.length 1 ∧ List.length (hkB (k32 key) info x) + List.length info + x2.length = List.length (hkB (k32 key) info x ++ info ++ x2) ∧ (List.length (k32 key) < 4611686018427387904 ∧ List.length (hkB (k32 key) info x ++ info ++ x2) < 4611686018427387904) ∧ 32 * x = List.length (hkT (k32 key) info x) ∧ roomFor (32 * x) (List.length (macL (k32 key) (hkB (k32 key) info x ++ info ++ x2))) 1 ∧ ∃ (y : Nat), 300 - y < 300 - x ∧ ((32 : Int) * (↑y : Int) < n + (32 : Int) ∨ y = 0) ∧ info = info ∧ n = n ∧ 0 = 0 ∧ 0 = 0 ∧ 0 = 0 ∧ 0 = 0 ∧ 32 * y = 32 * x + List.length (macL (k32 key) (hkB (k32 key) info x ++ info ++ x2)) ∧ hkB (k32 key) info y = macL (k32 key) (hkB (k32 key) info x ++ info ++ x2) ∧ 32 = List.length (hkB (k32 key) info y) ∧ (↑(y + 1) : Int) = IntKind.i64.wrap ((↑(x + 1) : Int) + (1 : Int)) ∧ hkT (k32 key) info y = hkT (k32 key) info x ++ macL (k32 key) (hkB (k32 key) info x ++ info ++ x2) ∧ x1) ((0 : Int) ≤ (0 : Int) ∧ 0 < 3 ∧ (0 : Int) ≤ Int.ofNat 1 ∧ 1 < 3 ∧ (0 : Int) ≤ Int.ofNat 2 ∧ 2 < 3 ∧ (0 : Int) ≤ (0 : Int) ∧ 0 ≤ 0 ∧ (0 : Int) ≤ x1_1 ∧ x1_1 < (9223372036854775808 : Int) ∧ roomFor 0 (List.replicate x1_1.toNat (0 : BitVec 8)).length 1 ∧ (0 : Int) ≤ (0 : Int) ∧ 0 ≤ (List.replicate x1_1.toNat (0 : BitVec 8)).length ∧ (0 : Int) ≤ (0 : Int) ∧ 0 < 3 ∧ 0 ≤ (List.replicate x1_1.toNat (0 : BitVec 8)).length ∧ 0 = (List.take 0 (List.replicate x1_1.toNat (0 : BitVec 8))).length ∧ roomFor 0 (List.length (hkB (k32 key) info x)) 1 ∧ (0 : Int) ≤ Int.ofNat 1 ∧ 1 < 3 ∧ 0 + List.length (hkB (k32 key) info x) = x3.length ∧ roomFor (0 + List.length (hkB (k32 key) info x)) (List.length info) 1 ∧ (0 : Int) ≤ Int.ofNat 2 ∧ 2 < 3 ∧ 1 = x2.length ∧ 0 + List.length (hkB (k32 key) info x) + List.length info = (x3 ++ info).length ∧ roomFor (0 + List.length (hkB (k32 key) info x) + List.length info) x2.length 1 ∧ 0 + List.length (hkB (k32 key) info x) + List.length info + x2.length = (x3 ++ info ++ x2).length ∧ (List.length (k32 key) < 4611686018427387904 ∧ (x3 ++ info ++ x2).length < 4611686018427387904) ∧ 32 * x = List.length (hkT (k32 key) info x) ∧ roomFor (32 * x) (List.length (macL (k32 key) (x3 ++ info ++ x2))) 1 ∧ ∃ (y : Nat), 300 - y < 300 - x ∧ ((32 : Int) * (↑y : Int) < n + (32 : Int) ∨ y = 0) ∧ info = info ∧ n = n ∧ 0 = 0 ∧ 0 = 0 ∧ 0 = 0 ∧ 0 = 0 ∧ 32 * y = 32 * x + List.length (macL (k32 key) (x3 ++ info ++ x2)) ∧ hkB (k32 key) info y = macL (k32 key) (x3 ++ info ++ x2) ∧ 32 = List.length (hkB (k32 key) info y) ∧ (↑(y + 1) : Int) = IntKind.i64.wrap ((↑(x + 1) : Int) + (1 : Int)) ∧ hkT (k32 key) info y = hkT (k32 key) info x ++ macL (k32 key) (x3 ++ info ++ x2) ∧ x1) (decide ((0 : Int) < x1_1))) False (decide (IntKind.i64.wrap (x4 + Int.ofNat 1) < (0 : Int)))) False (decide (IntKind.i64.wrap (x4 + Int.ofNat 1) < (0 : Int)))) False (decide (x4 < (0 : Int)))) False (decide (IntKind.i64.wrap ((0 : Int) + (↑(List.length (hkB (k32 key) info x)) : Int)) < (0 : Int)))) (decide ((↑(32 * x) : Int) < n))) ((1 : Int) = (1 : Int) ∧ True) (decide ((8160 : Int) < n))) !decide (n < (0 : Int)) : Prop) := by kernel_rfl
end Go.Sym

namespace Go.Sym
open Go.Proofs Go.Spec
set_option linter.unusedVariables false
set_option maxRecDepth 100000 in
theorem vc22 (key l c : By) (n : Int) : bodyP Tryd.prog N5 gl0 [] [] 3000 Tryd.f60 0 [aggB 32 (fun i => key.getD i 0), .str l, .rb false c .unk, .int .i64 n] [] (retQ Tryd.prog Tryd.f60 0 (rX (hkT (k32 key) (labInfo l c n) ((n.toNat + 31) / 32)) n.toNat)) = (
@Bool.rec (fun _ => Prop) False (@Bool.rec (fun _ => Prop) False (@Bool.rec (fun _ => Prop) (3 = [BitVec.ofInt 8 (n.fdiv (Int.ofNat 256)), BitVec.ofInt 8 n, BitVec.ofInt 8 (IntKind.i64.wrap ((6 : Int) + (↑(List.length l) : Int)))].length ∧
 roomFor 3 6 1 ∧
 9 = ([BitVec.ofInt 8 (n.fdiv (Int.ofNat 256)), BitVec.ofInt 8 n, BitVec.ofInt 8 (IntKind.i64.wrap ((6 : Int) + (↑(List.length l) : Int)))] ++ List.map UInt8.toBitVec #[(116 : UInt8), (108 : UInt8), (115 : UInt8), (49 : UInt8), (51 : UInt8), (32 : UInt8)].toList).length ∧
 roomFor 9 (List.length l) 1 ∧
 1 = [BitVec.ofInt 8 (↑(List.length c) : Int)].length ∧
 9 + List.length l = ([BitVec.ofInt 8 (n.fdiv (Int.ofNat 256)), BitVec.ofInt 8 n, BitVec.ofInt 8 (IntKind.i64.wrap ((6 : Int) + (↑(List.length l) : Int)))] ++ List.map UInt8.toBitVec #[(116 : UInt8), (108 : UInt8), (115 : UInt8), (49 : UInt8), (51 : UInt8), (32 : UInt8)].toList ++ l).length ∧
 roomFor (9 + List.length l) [BitVec.ofInt 8 (↑(List.length c) : Int)].length 1 ∧
 9 + List.length l + [BitVec.ofInt 8 (↑(List.length c) : Int)].length = ([BitVec.ofInt 8 (n.fdiv (Int.ofNat 256)), BitVec.ofInt 8 n, BitVec.ofInt 8 (IntKind.i64.wrap ((6 : Int) + (↑(List.length l) : Int)))] ++ List.map UInt8.toBitVec #[(116 : UInt8), (108 : UInt8), (115 : UInt8), (49 : UInt8), (51 : UInt8), (32 : UInt8)].toList ++ l ++ [BitVec.ofInt 8 (↑(List.length c) : Int)]).length ∧
 roomFor (9 + List.length l + [BitVec.ofInt 8 (↑(List.length c) : Int)].length) (List.length c) 1 ∧
 @Bool.rec (fun _ => Prop) (9 + List.length l + [BitVec.ofInt 8 (↑(List.length c) : Int)].length + List.length c = ([BitVec.ofInt 8 (n.fdiv (Int.ofNat 256)), BitVec.ofInt 8 n, BitVec.ofInt 8 (IntKind.i64.wrap ((6 : Int) + (↑(List.length l) : Int)))] ++ List.map UInt8.toBitVec #[(116 : UInt8), (108 : UInt8), (115 : UInt8), (49 : UInt8), (51 : UInt8), (32 : UInt8)].toList ++ l ++ [BitVec.ofInt 8 (↑(List.length c) : Int)] ++ c).length ∧
 ([BitVec.ofInt 8 (n.fdiv (Int.ofNat 256)), BitVec.ofInt 8 n, BitVec.ofInt 8 (IntKind.i64.wrap ((6 : Int) + (↑(List.length l) : Int)))] ++ List.map UInt8.toBitVec #[(116 : UInt8), (108 : UInt8), (115 : UInt8), (49 : UInt8), (51 : UInt8), (32 : UInt8)].toList ++ l ++ [BitVec.ofInt 8 (↑(List.length c) : Int)] ++ c).length < 1099511627776 ∧
 n.toNat = n.toNat ∧
 0 = 0 ∧
 0 = 0 ∧
 n.toNat = n.toNat ∧
 (0 : Int) = (0 : Int) ∧
 hkT (k32 key) (labInfo l c n) ((n.toNat + 31) / 32) = hkT (k32 key) ([BitVec.ofInt 8 (n.fdiv (Int.ofNat 256)), BitVec.ofInt 8 n, BitVec.ofInt 8 (IntKind.i64.wrap ((6 : Int) + (↑(List.length l) : Int)))] ++ List.map UInt8.toBitVec #[(116 : UInt8), (108 : UInt8), (115 : UInt8), (49 : UInt8), (51 : UInt8), (32 : UInt8)].toList ++ l ++ [BitVec.ofInt 8 (↑(List.length c) : Int)] ++ c) ((n.toNat + 31) / 32) ∧
 True) (9 + List.length l + [BitVec.ofInt 8 (↑(List.length c) : Int)].length + List.length c = ([BitVec.ofInt 8 (n.fdiv (Int.ofNat 256)), BitVec.ofInt 8 n, BitVec.ofInt 8 (IntKind.i64.wrap ((6 : Int) + (↑(List.length l) : Int)))] ++ List.map UInt8.toBitVec #[(116 : UInt8), (108 : UInt8), (115 : UInt8), (49 : UInt8), (51 : UInt8), (32 : UInt8)].toList ++ l ++ [BitVec.ofInt 8 (↑(List.length c) : Int)] ++ c).length ∧
 False) (exBad n)) False (decide ((255 : Int) < (↑(List.length c) : Int)))) !decide ((249 : Int) < (↑(List.length l) : Int))) !decide ((↑(List.length l) : Int) < (1 : Int)) : Prop) := by kernel_rfl
set_option maxRecDepth 100000 in
theorem vc22e (key l c : By) (n : Int) : bodyP Tryd.prog N5 gl0 [] [] 3000 Tryd.f60 0 [aggB 32 (fun i => key.getD i 0), .str l, .rb false c .unk, .int .i64 n] [] (retQ Tryd.prog Tryd.f60 0 rXe) = (
@Bool.rec (fun _ => Prop) ((1 : Int) = (1 : Int) ∧ True) (@Bool.rec (fun _ => Prop) ((1 : Int) = (1 : Int) ∧ True) (@Bool.rec (fun _ => Prop) (3 = [BitVec.ofInt 8 (n.fdiv (Int.ofNat 256)), BitVec.ofInt 8 n, BitVec.ofInt 8 (IntKind.i64.wrap ((6 : Int) + (↑(List.length l) : Int)))].length ∧ roomFor 3 6 1 ∧ 9 = ([BitVec.ofInt 8 (n.fdiv (Int.ofNat 256)), BitVec.ofInt 8 n, BitVec.ofInt 8 (IntKind.i64.wrap ((6 : Int) + (↑(List.length l) : Int)))] ++ List.map UInt8.toBitVec #[(116 : UInt8), (108 : UInt8), (115 : UInt8), (49 : UInt8), (51 : UInt8), (32 : UInt8)].toList).length ∧ roomFor 9 (List.length l) 1 ∧ 1 = [BitVec.ofInt 8 (↑(List.length c) : Int)].length ∧ 9 + List.length l = ([BitVec.ofInt 8 (n.fdiv (Int.ofNat 256)), BitVec.ofInt 8 n, BitVec.ofInt 8 (IntKind.i64.wrap ((6 : Int) + (↑(List.length l) : Int)))] ++ List.map UInt8.toBitVec #[(116 : UInt8), (108 : UInt8), (115 : UInt8), (49 : UInt8), (51 : UInt8), (32 : UInt8)].toList ++ l).length ∧ roomFor (9 + List.length l) [BitVec.ofInt 8 (↑(List.length c) : Int)].length 1 ∧ 9 + List.length l + [BitVec.ofInt 8 (↑(List.length c) : Int)].length = ([BitVec.ofInt 8 (n.fdiv (Int.ofNat 256)), BitVec.ofInt 8 n, BitVec.ofInt 8 (IntKind.i64.wrap ((6 : Int) + (↑(List.length l) : Int)))] ++ List.map UInt8.toBitVec #[(116 : UInt8), (108 : UInt8), (115 : UInt8), (49 : UInt8), (51 : UInt8), (32 : UInt8)].toList ++ l ++ [BitVec.ofInt 8 (↑(List.length c) : Int)]).length ∧ roomFor (9 + List.length l + [BitVec.ofInt 8 (↑(List.length c) : Int)].length) (List.length c) 1 ∧ @Bool.rec (fun _ => Prop) (9 + List.length l + [BitVec.ofInt 8 (↑(List.length c) : Int)].length + List.length c = ([BitVec.ofInt 8 (n.fdiv (Int.ofNat 256)), BitVec.ofInt 8 n, BitVec.ofInt 8 (IntKind.i64.wrap ((6 : Int) + (↑(List.length l) : Int)))] ++ List.map UInt8.toBitVec #[(116 : UInt8), (108 : UInt8), (115 : UInt8), (49 : UInt8), (51 : UInt8), (32 : UInt8)].toList ++ l ++ [BitVec.ofInt 8 (↑(List.length c) : Int)] ++ c).length ∧ ([BitVec.ofInt 8 (n.fdiv (Int.ofNat 256)), BitVec.ofInt 8 n, BitVec.ofInt 8 (IntKind.i64.wrap ((6 : Int) + (↑(List.length l) : Int)))] ++ List.map UInt8.toBitVec #[(116 : UInt8), (108 : UInt8), (115 : UInt8), (49 : UInt8), (51 : UInt8), (32 : UInt8)].toList ++ l ++ [BitVec.ofInt 8 (↑(List.length c) : Int)] ++ c).length < 1099511627776 ∧ False) (9 + List.length l + [BitVec.ofInt 8 (↑(List.length c) : Int)].length + List.length c = ([BitVec.ofInt 8 (n.fdiv (Int.ofNat 256)), BitVec.ofInt 8 n, BitVec.ofInt 8 (IntKind.i64.wrap ((6 : Int) + (↑(List.length l) : Int)))] ++ List.map UInt8.toBitVec #[(116 : UInt8), (108 : UInt8), (115 : UInt8), (49 : UInt8), (51 : UInt8), (32 : UInt8)].toList ++ l ++ [BitVec.ofInt 8 (↑(List.length c) : Int)] ++ c).length ∧ (1 : Int) = (1 : Int) ∧ True) (exBad n)) ((1 : Int) = (1 : Int) ∧ True) (decide ((255 : Int) < (↑(List.length c) : Int)))) !decide ((249 : Int) < (↑(List.length l) : Int))) !decide ((↑(List.length l) : Int) < (1 : Int)) : Prop) := by kernel_rfl
end Go.Sym

namespace Go.Spec
theorem exBad_f {n : Int} (h : exBad n = false) : 0 ≤ n ∧ n ≤ 8160 := by
  simp only [exBad, Bool.or_eq_false_iff, decide_eq_false_iff_not] at h
  omega
theorem exBad_t {n : Int} (h : exBad n = true) : n < 0 ∨ 8160 < n := by
  simpa only [exBad, Bool.or_eq_true, decide_eq_true_eq] using h
theorem exBad_mk {n : Int} (h : 0 ≤ n) (h2 : n ≤ 8160) : exBad n = false := by
  simp only [exBad, Bool.or_eq_false_iff, decide_eq_false_iff_not]
  omega
theorem hkT_take (K info : By) (m a : Nat) (hm : m ≤ 32 * a) : ∀ b, a ≤ b → (hkT K info b).take m = (hkT K info a).take m := by
  intro b hb
  induction b with
  | zero => obtain rfl : a = 0 := by omega
            rfl
  | succ b ih =>
    rcases Nat.lt_or_ge b a with h | h
    · obtain rfl : a = b + 1 := by omega
      rfl
    · rw [← ih h]
      simp only [hkT]
      rw [List.take_append_of_le_length (by rw [hkT_length]; omega)]
theorem labInfo_length (l c : By) (n : Int) : (labInfo l c n).length = 10 + l.length + c.length := by
  simp [labInfo, tls]
  omega
theorem labBad_f {l c : By} {n : Int} (h : labBad l c n = false) : exBad n = false ∧ ¬ l.length < 1 ∧ ¬ 249 < l.length ∧ ¬ 255 < c.length := by
  simp only [labBad, Bool.or_eq_false_iff, decide_eq_false_iff_not] at h
  exact ⟨h.1.1.1, h.1.1.2, h.1.2, h.2⟩
theorem labBad_t {l c : By} {n : Int} (h : labBad l c n = true) : exBad n = true ∨ l.length < 1 ∨ 249 < l.length ∨ 255 < c.length := by
  simp only [labBad, Bool.or_eq_true, decide_eq_true_eq] at h
  rcases h with ((h | h) | h) | h
  · exact .inl h
  · exact .inr (.inl h)
  · exact .inr (.inr (.inl h))
  · exact .inr (.inr (.inr h))
end Go.Spec
namespace Go.Sym
open Go.Proofs Go.Spec
set_option linter.unusedVariables false
theorem b18e (key info : By) (n : Int) (h : exBad n = true) : Must (bodyP Tryd.prog H2 gl0 [] [(6, lsEx key info n)] 3000 Tryd.f73 0 [aggB 32 (fun i => key.getD i 0), .rb false info .unk, .int .i64 n] [] (retQ Tryd.prog Tryd.f73 0 rXe)) := by
  constructor
  rw [vc18e]
  set_option simprocs false in dsimp only
  have h := exBad_t h
  refine brec (fun h1 => ?_) (fun h1 => by simp)
  refine brec (fun h2 => by simp) (fun h2 => ?_)
  exfalso
  simp at h1 h2
  omega
theorem b22e (key l c : By) (n : Int) (h : labBad l c n = true) : Must (bodyP Tryd.prog N5 gl0 [] [] 3000 Tryd.f60 0 [aggB 32 (fun i => key.getD i 0), .str l, .rb false c .unk, .int .i64 n] [] (retQ Tryd.prog Tryd.f60 0 rXe)) := by
  constructor
  rw [vc22e]
  have h := labBad_t h
  refine brec (fun h1 => ?_) (fun h1 => by simp)
  refine brec (fun h2 => ?_) (fun h2 => by simp)
  refine brec (fun h3 => by simp) (fun h3 => ?_)
  simp at h1 h2 h3
  have hb : exBad n = true := by rcases h with h | h | h | h <;> first | exact h | omega
  rw [hb]
  simp [roomFor]
  omega
theorem b22 (key l c : By) (n : Int) (h : labBad l c n = false) : Must (bodyP Tryd.prog N5 gl0 [] [] 3000 Tryd.f60 0 [aggB 32 (fun i => key.getD i 0), .str l, .rb false c .unk, .int .i64 n] [] (retQ Tryd.prog Tryd.f60 0 (rX (hkT (k32 key) (labInfo l c n) ((n.toNat + 31) / 32)) n.toNat))) := by
  constructor
  rw [vc22]
  obtain ⟨hb, h1, h2, h3⟩ := labBad_f h
  obtain ⟨h4, h5⟩ := exBad_f hb
  have w1 : IntKind.i64.wrap (6 + (l.length : Int)) = ((l.length + 6 : Nat) : Int) := wrap_nat _ (by omega) (by omega)
  have w2 : n.fdiv (Int.ofNat 256) = n / 256 := Int.fdiv_eq_ediv_of_nonneg n (by decide)
  have e : [BitVec.ofInt 8 (n / 256), BitVec.ofInt 8 n, BitVec.ofInt 8 ((l.length + 6 : Nat) : Int)] ++ List.map UInt8.toBitVec #[(116 : UInt8), (108 : UInt8), (115 : UInt8), (49 : UInt8), (51 : UInt8), (32 : UInt8)].toList ++ l ++ [BitVec.ofInt 8 (c.length : Int)] ++ c = labInfo l c n := by
    rw [BitVec.ofInt_natCast, BitVec.ofInt_natCast]
    simp [labInfo, tls]
  rw [w1, w2, hb, e]
  refine brec (fun h6 => ?_) (fun h6 => absurd h6 (by simp; omega))
  refine brec (fun h7 => ?_) (fun h7 => absurd h7 (by simp; omega))
  refine brec (fun h8 => absurd h8 (by simp; omega)) (fun h8 => ?_)
  simp [roomFor, labInfo_length]
  omega
end Go.Sym

namespace Go.Sym
open Go.Proofs Go.Spec
set_option linter.unusedVariables false
theorem c18y : COK Tryd.prog gl0 73 (mkF spEy) := by
  refine ctrE (fn := Tryd.f73) [] 3000 (by kernel_rfl) (by kernel_rfl) okH2 (by kernel_rfl) (fun args w => by kernel_rfl) ?_
  intro xs bs r hs ho
  simp only [spEy, gEy] at hs
  split at hs
  · rename_i cs info n
    split at hs
    · rename_i key hr
      split at hs
      · rename_i hl
        have hl : key.length = 32 := by simpa using hl
        rw [agg_u8 hr hl]
        cases hb : exBad n
        · rw [hb] at hs
          simp only [TL.sel, Option.some.injEq] at hs
          subst hs
          obtain ⟨h2, _⟩ := ho
          have h := exBad_f hb
          have b := b18 key info n h.1 h.2 h2
          rw [k32_self hl] at b
          exact ⟨_, b⟩
        · rw [hb] at hs
          simp only [TL.sel, Option.some.injEq] at hs
          subst hs
          exact ⟨_, b18e key info n hb⟩
      · simp [TL.sel] at hs
    · simp [TL.sel] at hs
  · simp [TL.sel] at hs
theorem okN3 : COKs Tryd.prog gl0 N3 := okH2.add c18y
theorem okN5 : COKs Tryd.prog gl0 N5 := okN3
theorem c22 : COK Tryd.prog gl0 60 (mkF spL1) := by
  refine ctrE (fn := Tryd.f60) [] 3000 (by kernel_rfl) (by kernel_rfl) okN5 (by kernel_rfl) (fun args w => by kernel_rfl) ?_
  intro xs bs r hs ho
  simp only [spL1, gLa] at hs
  split at hs
  · rename_i cs l c n
    split at hs
    · rename_i key hr
      split at hs
      · rename_i hl
        have hl : key.length = 32 := by simpa using hl
        rw [agg_u8 hr hl]
        cases hb : labBad l c n
        · rw [hb] at hs
          simp only [TL.sel, Option.some.injEq] at hs
          subst hs
          have b := b22 key l c n hb
          rw [k32_self hl] at b
          exact ⟨_, b⟩
        · rw [hb] at hs
          simp only [TL.sel, Option.some.injEq] at hs
          subst hs
          exact ⟨_, b22e key l c n hb⟩
      · simp [TL.sel] at hs
    · simp [TL.sel] at hs
  · simp [TL.sel] at hs
theorem okN7 : COKs Tryd.prog gl0 N7 := okN5.add c22
/-- A key of 32 bytes, as it is handed in. -/
theorem sh_key {avs : List AV} (h : shAll (List.replicate 32 (.i .u8)) avs) : ∃ key : By, avs = (List.range 32).map fun i => .u8 (key.getD i 0) := by
  obtain ⟨l, hl, rfl⟩ := sh_u8 h
  refine ⟨l, ?_⟩
  apply List.ext_getElem
  · simp [hl]
  · intro i h1 h2
    have : i < l.length := by simpa using h1
    simp [List.getD, this]
theorem sh_two {avs : List AV} (h : shAll [.s, .s] avs) : ∃ l c : By, avs = [.str l, .str c] := by
  obtain ⟨a, r, rfl, ha, h⟩ := sh_cons h
  obtain ⟨b, r, rfl, hb, h⟩ := sh_cons h
  obtain rfl := sh_nil h
  obtain ⟨l, rfl, _⟩ := ha
  obtain ⟨c, rfl, _⟩ := hb
  exact ⟨l, c, rfl⟩
end Go.Sym

namespace Go.Spec
/-- The 32 bytes of a label: of a key, a name and a context; noughts, where there is none. -/
noncomputable def labB (K l c : By) : Nat → BitVec 8 := fun i => if labBad l c 32 then 0 else macB K (labInfo l c 32 ++ [1#8]) i
/-- Cell by cell the same, from one place on, so many. -/
def allIs (f g : Nat → BitVec 8) : Nat → Nat → Prop
  | _, 0 => True
  | i, n + 1 => f i = g i ∧ allIs f g (i + 1) n
theorem allIs_of {f g : Nat → BitVec 8} : ∀ (n i : Nat), (∀ j, i ≤ j → j < i + n → f j = g j) → allIs f g i n
  | 0, _, _ => trivial
  | n + 1, i, h => ⟨h i (Nat.le_refl _) (by omega), allIs_of n (i + 1) fun j h1 h2 => h j (by omega) (by omega)⟩
end Go.Spec
namespace Go.Sym
open Go.Proofs Go.Spec
set_option linter.unusedVariables false
theorem lab_cond (key l c : By) : @Bool.rec (fun _ => Prop) (32 ≤ List.length (hkT (k32 key) (labInfo l c (32 : Int)) 1) ∧ allIs (labB (k32 key) l c) (fun i => if i < (List.take 32 (hkT (k32 key) (labInfo l c (32 : Int)) 1)).length then (List.take 32 (hkT (k32 key) (labInfo l c (32 : Int)) 1)).getD i (0 : BitVec 8) else BitVec.ofNat 8 0) 0 32)
   (allIs (labB (k32 key) l c) (fun _ => BitVec.ofNat 8 0) 0 32) (labBad l c (32 : Int)) := by
  refine brec (fun h => ?_) (fun h => ?_)
  · refine allIs_of _ _ fun j _ _ => ?_
    unfold labB
    rw [h]
    rfl
  · have hl : (hkT (k32 key) (labInfo l c 32) 1).length = 32 := by rw [hkT_length]
    have e : hkT (k32 key) (labInfo l c 32) 1 = macL (k32 key) (labInfo l c 32 ++ [1#8]) := by simp [hkT, hkB]
    refine ⟨by omega, allIs_of _ _ fun j _ hj => ?_⟩
    rw [List.take_of_length_le (by omega), hl, if_pos (by omega), e]
    unfold labB macL
    rw [h, getD_map_range _ _ _ _ (by omega)]
    rfl
noncomputable def gLb (xs : List AV) (bs : List ABlk) : TL := match xs, bs with
  | [.agg cs, .str l, .rb false c .unk], [] => (match rdU8 cs with
    | some key => (match key.length == 32 with
      | true => .ok ⟨[], aggB 32 (labB key l c), [], []⟩
      | false => .no)
    | none => .no)
  | _, _ => .no
noncomputable def spLb : Spec := ⟨[.kp, .kp, .by0], fun _ _ => [], fun _ _ => [], gLb⟩
theorem lb_sel {xs : List AV} {bs : List ABlk} {r : RL} (hs : (gLb xs bs).sel = some r) : ∃ cs l c key, xs = [.agg cs, .str l, .rb false c .unk] ∧ bs = [] ∧ rdU8 cs = some key ∧ key.length = 32 ∧ r = ⟨[], aggB 32 (labB key l c), [], []⟩ := by
  unfold gLb at hs
  split at hs
  · rename_i cs l c
    split at hs
    · rename_i key hk
      split at hs
      · rename_i hl
        simp only [TL.sel, Option.some.injEq] at hs
        exact ⟨cs, l, c, key, rfl, rfl, hk, by simpa using hl, hs.symm⟩
      · simp [TL.sel] at hs
    · simp [TL.sel] at hs
  · simp [TL.sel] at hs
end Go.Sym
