/- HkdfExtracts: of all salts and secrets what is taken out is what the document takes out; on the way: what hkdf.Expand answers. -/
import Derived.Test.YtmofcjjhgigkoaaDoorShaD
import Derived.Test.YtmofcjjhgigkoaaDoorShaC
namespace Go.Sym
open Go.Proofs Go.Spec
set_option linter.unusedVariables false
set_option maxRecDepth 100000 in
theorem vc4 (l k : By) (c d : Bool) : bodyP Tryd.prog R6 gl0 [] [] 3000 Tryd.f4 0 [.rb true l (.is c), .rb true k (.is d)] [] (retQ Tryd.prog Tryd.f4 0 ⟨[], .bool true, [], []⟩) = (
(0 : Int) ≤ Min.min (↑(List.length l) : Int) (150 : Int) ∧
 (Min.min (↑(List.length l) : Int) (150 : Int)).toNat ≤ List.length l ∧
 (0 : Int) ≤ Min.min (↑(List.length k) : Int) (150 : Int) ∧
 (Min.min (↑(List.length k) : Int) (150 : Int)).toNat ≤ List.length k ∧
 ((List.take (Min.min (↑(List.length l) : Int) (150 : Int)).toNat l).length < (4611686018427387904 : Nat) ∧ (List.take (Min.min (↑(List.length k) : Int) (150 : Int)).toNat k).length < (4611686018427387904 : Nat)) ∧
 (List.take (Min.min (↑(List.length l) : Int) (150 : Int)).toNat l).length < (17592186044416 : Nat) ∧
 (List.take (Min.min (↑(List.length k) : Int) (150 : Int)).toNat k).length < (17592186044416 : Nat) ∧
 Bool.true =
 (Decidable.decide (macB (List.take (Min.min (↑(List.length l) : Int) (150 : Int)).toNat l) (List.take (Min.min (↑(List.length k) : Int) (150 : Int)).toNat k) 0 = macB (List.take (Min.min (↑(List.length l) : Int) (150 : Int)).toNat l) (List.take (Min.min (↑(List.length k) : Int) (150 : Int)).toNat k) 0) &&
 (Decidable.decide (macB (List.take (Min.min (↑(List.length l) : Int) (150 : Int)).toNat l) (List.take (Min.min (↑(List.length k) : Int) (150 : Int)).toNat k) 1 = macB (List.take (Min.min (↑(List.length l) : Int) (150 : Int)).toNat l) (List.take (Min.min (↑(List.length k) : Int) (150 : Int)).toNat k) 1) &&
 (Decidable.decide (macB (List.take (Min.min (↑(List.length l) : Int) (150 : Int)).toNat l) (List.take (Min.min (↑(List.length k) : Int) (150 : Int)).toNat k) 2 = macB (List.take (Min.min (↑(List.length l) : Int) (150 : Int)).toNat l) (List.take (Min.min (↑(List.length k) : Int) (150 : Int)).toNat k) 2) &&
 (Decidable.decide (macB (List.take (Min.min (↑(List.length l) : Int) (150 : Int)).toNat l) (List.take (Min.min (↑(List.length k) : Int) (150 : Int)).toNat k) 3 = macB (List.take (Min.min (↑(List.length l) : Int) (150 : Int)).toNat l) (List.take (Min.min (↑(List.length k) : Int) (150 : Int)).toNat k) 3) &&
 (Decidable.decide (macB (List.take (Min.min (↑(List.length l) : Int) (150 : Int)).toNat l) (List.take (Min.min (↑(List.length k) : Int) (150 : Int)).toNat k) 4 = macB (List.take (Min.min (↑(List.length l) : Int) (150 : Int)).toNat l) (List.take (Min.min (↑(List.length k) : Int) (150 : Int)).toNat k) 4) &&
 (Decidable.decide (macB (List.take (Min.min (↑(List.length l) : Int) (150 : Int)).toNat l) (List.take (Min.min (↑(List.length k) : Int) (150 : Int)).toNat k) 5 = macB (List.take (Min.min (↑(List.length l) : Int) (150 : Int)).toNat l) (List.take (Min.min (↑(List.length k) : Int) (150 : Int)).toNat k) 5) &&
 (Decidable.decide (macB (List.take (Min.min (↑(List.length l) : Int) (150 : Int)).toNat l) (List.take (Min.min (↑(List.length k) : Int) (150 : Int)).toNat k) 6 = macB (List.take (Min.min (↑(List.length l) : Int) (150 : Int)).toNat l) (List.take (Min.min (↑(List.length k) : Int) (150 : Int)).toNat k) 6) &&
 (Decidable.decide (macB (List.take (Min.min (↑(List.length l) : Int) (150 : Int)).toNat l) (List.take (Min.min (↑(List.length k) : Int) (150 : Int)).toNat k) 7 = macB (List.take (Min.min (↑(List.length l) : Int) (150 : Int)).toNat l) (List.take (Min.min (↑(List.length k) : Int) (150 : Int)).toNat k) 7) &&
 (Decidable.decide (macB (List.take (Min.min (↑(List.length l) : Int) (150 : Int)).toNat l) (List.take (Min.min (↑(List.length k) : Int) (150 : Int)).toNat k) 8 = macB (List.take (Min.min (↑(List.length l) : Int) (150 : Int)).toNat l) (List.take (Min.min (↑(List.length k) : Int) (150 : Int)).toNat k) 8) &&
 (Decidable.decide (macB (List.take (Min.min (↑(List.length l) : Int) (150 : Int)).toNat l) (List.take (Min.min (↑(List.length k) : Int) (150 : Int)).toNat k) 9 = macB (List.take (Min.min (↑(List.length l) : Int) (150 : Int)).toNat l) (List.take (Min.min (↑(List.length k) : Int) (150 : Int)).toNat k) 9) &&
 (Decidable.decide (macB (List.take (Min.min (↑(List.length l) : Int) (150 : Int)).toNat l) (List.take (Min.min (↑(List.length k) : Int) (150 : Int)).toNat k) 10 = macB (List.take (Min.min (↑(List.length l) : Int) (150 : Int)).toNat l) (List.take (Min.min (↑(List.length k) : Int) (150 : Int)).toNat k) 10) &&
 (Decidable.decide (macB (List.take (Min.min (↑(List.length l) : Int) (150 : Int)).toNat l) (List.take (Min.min (↑(List.length k) : Int) (150 : Int)).toNat k) 11 = macB (List.take (Min.min (↑(List.length l) : Int) (150 : Int)).toNat l) (List.take (Min.min (↑(List.length k) : Int) (150 : Int)).toNat k) 11) &&
 (Decidable.decide (macB (List.take (Min.min (↑(List.length l) : Int) (150 : Int)).toNat l) (List.take (Min.min (↑(List.length k) : Int) (150 : Int)).toNat k) 12 = macB (List.take (Min.min (↑(List.length l) : Int) (150 : Int)).toNat l) (List.take (Min.min (↑(List.length k) : Int) (150 : Int)).toNat k) 12) &&
 (Decidable.decide (macB (List.take (Min.min (↑(List.length l) : Int) (150 : Int)).toNat l) (List.take (Min.min (↑(List.length k) : Int) (150 : Int)).toNat k) 13 = macB (List.take (Min.min (↑(List.length l) : Int) (150 : Int)).toNat l) (List.take (Min.min (↑(List.length k) : Int) (150 : Int)).toNat k) 13) &&
 (Decidable.decide (macB (List.take (Min.min (↑(List.length l) : Int) (150 : Int)).toNat l) (List.take (Min.min (↑(List.length k) : Int) (150 : Int)).toNat k) 14 = macB (List.take (Min.min (↑(List.length l) : Int) (150 : Int)).toNat l) (List.take (Min.min (↑(List.length k) : Int) (150 : Int)).toNat k) 14) &&
 (Decidable.decide (macB (List.take (Min.min (↑(List.length l) : Int) (150 : Int)).toNat l) (List.take (Min.min (↑(List.length k) : Int) (150 : Int)).toNat k) 15 = macB (List.take (Min.min (↑(List.length l) : Int) (150 : Int)).toNat l) (List.take (Min.min (↑(List.length k) : Int) (150 : Int)).toNat k) 15) &&
 (Decidable.decide (macB (List.take (Min.min (↑(List.length l) : Int) (150 : Int)).toNat l) (List.take (Min.min (↑(List.length k) : Int) (150 : Int)).toNat k) 16 = macB (List.take (Min.min (↑(List.length l) : Int) (150 : Int)).toNat l) (List.take (Min.min (↑(List.length k) : Int) (150 : Int)).toNat k) 16) &&
 (Decidable.decide (macB (List.take (Min.min (↑(List.length l) : Int) (150 : Int)).toNat l) (List.take (Min.min (↑(List.length k) : Int) (150 : Int)).toNat k) 17 = macB (List.take (Min.min (↑(List.length l) : Int) (150 : Int)).toNat l) (List.take (Min.min (↑(List.length k) : Int) (150 : Int)).toNat k) 17) &&
 (Decidable.decide (macB (List.take (Min.min (↑(List.length l) : Int) (150 : Int)).toNat l) (List.take (Min.min (↑(List.length k) : Int) (150 : Int)).toNat k) 18 = macB (List.take (Min.min (↑(List.length l) : Int) (150 : Int)).toNat l) (List.take (Min.min (↑(List.length k) : Int) (150 : Int)).toNat k) 18) &&
 (Decidable.decide (macB (List.take (Min.min (↑(List.length l) : Int) (150 : Int)).toNat l) (List.take (Min.min (↑(List.length k) : Int) (150 : Int)).toNat k) 19 = macB (List.take (Min.min (↑(List.length l) : Int) (150 : Int)).toNat l) (List.take (Min.min (↑(List.length k) : Int) (150 : Int)).toNat k) 19) &&
 (Decidable.decide (macB (List.take (Min.min (↑(List.length l) : Int) (150 : Int)).toNat l) (List.take (Min.min (↑(List.length k) : Int) (150 : Int)).toNat k) 20 = macB (List.take (Min.min (↑(List.length l) : Int) (150 : Int)).toNat l) (List.take (Min.min (↑(List.length k) : Int) (150 : Int)).toNat k) 20) &&
 (Decidable.decide (macB (List.take (Min.min (↑(List.length l) : Int) (150 : Int)).toNat l) (List.take (Min.min (↑(List.length k) : Int) (150 : Int)).toNat k) 21 = macB (List.take (Min.min (↑(List.length l) : Int) (150 : Int)).toNat l) (List.take (Min.min (↑(List.length k) : Int) (150 : Int)).toNat k) 21) && (Decidable.decide (macB (List.take (Min.min (↑(List.length l) : Int) (150 : Int)).toNat l) (List.take (Min.min (↑(List.length k) : Int) (150 : Int)).toNat k) 22 = macB (List.take (Min.min (↑(List.length l) : Int) (150 : Int)).toNat l) (List.take (Min.min (↑(List.length k) : Int) (150 : Int)).toNat k) 22) && (Decidable.decide (macB (List.take (Min.min (↑(List.length l) : Int) (150 : Int)).toNat l) (List.take (Min.min (↑(List.length k) : Int) (150 : Int)).toNat k) 23 = macB (List.take (Min.min (↑(List.length l) : Int) (150 : Int)).toNat l) (List.take (Min.min (↑(List.length k) : Int) (150 : Int)).toNat k) 23) && (Decidable.decide (macB (List.take (Min.min (↑(List.length l) : Int) (150 : Int)).toNat l) (List.take (Min.min (↑(List.length k) : Int) (150 : Int)).toNat k) 24 = macB (List.take (Min.min (↑(List.length l) : Int) (150 : Int)).toNat l) (List.take (Min.min (↑(List.length k) : Int) (150 : Int)).toNat k) 24) && (Decidable.decide (macB (List.take (Min.min (↑(List.length l) : Int) (150 : Int)).toNat l) (List.take (Min.min (↑(List.length k) : Int) (150 : Int)).toNat k) 25 = macB (List.take (Min.min (↑(List.length l) : Int) (150 : Int)).toNat l) (List.take (Min.min (↑(List.length k) : Int) (150 : Int)).toNat k) 25) && (Decidable.decide (macB (List.take (Min.min (↑(List.length l) : Int) (150 : Int)).toNat l) (List.take (Min.min (↑(List.length k) : Int) (150 : Int)).toNat k) 26 = macB (List.take (Min.min (↑(List.length l) : Int) (150 : Int)).toNat l) (List.take (Min.min (↑(List.length k) : Int) (150 : Int)).toNat k) 26) && (Decidable.decide (macB (List.take (Min.min (↑(List.length l) : Int) (150 : Int)).toNat l) (List.take (Min.min (↑(List.length k) : Int) (150 : Int)).toNat k) 27 = macB (List.take (Min.min (↑(List.length l) : Int) (150 : Int)).toNat l) (List.take (Min.min (↑(List.length k) : Int) (150 : Int)).toNat k) 27) && (Decidable.decide (macB (List.take (Min.min (↑(List.length l) : Int) (150 : Int)).toNat l) (List.take (Min.min (↑(List.length k) : Int) (150 : Int)).toNat k) 28 = macB (List.take (Min.min (↑(List.length l) : Int) (150 : Int)).toNat l) (List.take (Min.min (↑(List.length k) : Int) (150 : Int)).toNat k) 28) && (Decidable.decide (macB (List.take (Min.min (↑(List.length l) : Int) (150 : Int)).toNat l) (List.take (Min.min (↑(List.length k) : Int) (150 : Int)).toNat k) 29 = macB (List.take (Min.min (↑(List.length l) : Int) (150 : Int)).toNat l) (List.take (Min.min (↑(List.length k) : Int) (150 : Int)).toNat k) 29) && (Decidable.decide (macB (List.take (Min.min (↑(List.length l) : Int) (150 : Int)).toNat l) (List.take (Min.min (↑(List.length k) : Int) (150 : Int)).toNat k) 30 = macB (List.take (Min.min (↑(List.length l) : Int) (150 : Int)).toNat l) (List.take (Min.min (↑(List.length k) : Int) (150 : Int)).toNat k) 30) && (Decidable.decide (macB (List.take (Min.min (↑(List.length l) : Int) (150 : Int)).toNat l) (List.take (Min.min (↑(List.length k) : Int) (150 : Int)).toNat k) 31 = macB (List.take (Min.min (↑(List.length l) : Int) (150 : Int)).toNat l) (List.take (Min.min (↑(List.length k) : Int) (150 : Int)).toNat k) 31) && Bool.true)))))))))))))))))))))))))))))))) ∧
 True) := by kernel_rfl
end Go.Sym

namespace Go.Spec
/-- The blocks of bytes that follow from a key. -/
noncomputable def macL (key b : By) : By := (List.range 32).map (macB key b)
/-- Key of 32 bytes. -/
def k32 (key : By) : By := (List.range 32).map fun i => key.getD i 0
noncomputable def hkB (key info : By) : Nat → By
  | 0 => []
  | k + 1 => macL key (hkB key info k ++ (info ++ [BitVec.ofNat 8 (k + 1)]))
noncomputable def hkT (key info : By) : Nat → By
  | 0 => []
  | k + 1 => hkT key info k ++ hkB key info (k + 1)
end Go.Spec
namespace Go.Sym
open Go.Proofs Go.Spec
set_option linter.unusedVariables false
noncomputable def H1 : Ctx := R6.exe Tryd.prog gl0 [] 3000 Tryd.f32.params.size 32 Tryd.f32
theorem okH1 : COKs Tryd.prog gl0 H1 := okR6.exe [] 3000 _ (by kernel_rfl) (by kernel_rfl) (by kernel_rfl) (fun args w => by kernel_rfl)
noncomputable def H2 : Ctx := H1.exe Tryd.prog gl0 [] 3000 Tryd.f29.params.size 29 Tryd.f29
theorem okH2 : COKs Tryd.prog gl0 H2 := okH1.exe [] 3000 _ (by kernel_rfl) (by kernel_rfl) (by kernel_rfl) (fun args w => by kernel_rfl)
noncomputable def lsEx (key info : By) (n : Int) : LS := ⟨Nat, fun k => [(1, .rb false info .unk), (2, .int .i64 n), (3, .ptr 101 0 0 0), (8, .slice 100 0 1 (32 * k) .ow .unk), (9, .rb false (hkB (k32 key) info k) .unk), (10, .int .i64 ((k + 1 : Nat) : Int))],
  fun k => [(100, ⟨.bytes (hkT (k32 key) info k), true, 1⟩), (101, ⟨.cells ((List.range 32).map fun i => .u8 (key.getD i 0)), true, 0⟩)], 1000, fun k => 300 - k, fun k => 32 * k < n + 32 ∨ k = 0, fun _ => []⟩
end Go.Sym

namespace Go.Sym
open Go.Proofs Go.Spec
set_option linter.unusedVariables false
set_option maxRecDepth 100000 in
theorem vc18 (key info : By) (n : Int) : bodyP Tryd.prog H2 gl0 [] [(6, lsEx key info n)] 3000 Tryd.f18 0 [aggB 32 (fun i => key.getD i 0), .rb false info .unk, .int .i64 n] [] (retQ Tryd.prog Tryd.f18 0 ⟨[], .tup [.slice 0 0 1 n.toNat (.kn n.toNat) .unk, .int .i64 0], [], [⟨.bytes (hkT (k32 key) info ((n.toNat + 31) / 32)), true, 0⟩]⟩) = (fun (K : By) => (
@Bool.rec (fun _ => Prop) False (@Bool.rec (fun _ => Prop) ((∃ (x : Nat), ((32 : Int) * (↑x : Int) < n + (32 : Int) ∨ x = 0) ∧
 info = info ∧
 n = n ∧
 0 = 0 ∧
 32 * x = 0 ∧
 hkB K info x = [] ∧
 (↑(x + 1) : Int) = (1 : Int) ∧
 hkT K info x = [] ∧
 key.getD 0 0 = key.getD 0 0 ∧
 key.getD 1 0 = key.getD 1 0 ∧
 key.getD 2 0 = key.getD 2 0 ∧
 key.getD 3 0 = key.getD 3 0 ∧
 key.getD 4 0 = key.getD 4 0 ∧
 key.getD 5 0 = key.getD 5 0 ∧
 key.getD 6 0 = key.getD 6 0 ∧
 key.getD 7 0 = key.getD 7 0 ∧
 key.getD 8 0 = key.getD 8 0 ∧
 key.getD 9 0 = key.getD 9 0 ∧
 key.getD 10 0 = key.getD 10 0 ∧
 key.getD 11 0 = key.getD 11 0 ∧
 key.getD 12 0 = key.getD 12 0 ∧
 key.getD 13 0 = key.getD 13 0 ∧
 key.getD 14 0 = key.getD 14 0 ∧
 key.getD 15 0 = key.getD 15 0 ∧
 key.getD 16 0 = key.getD 16 0 ∧
 key.getD 17 0 = key.getD 17 0 ∧
 key.getD 18 0 = key.getD 18 0 ∧
 key.getD 19 0 = key.getD 19 0 ∧
 key.getD 20 0 = key.getD 20 0 ∧
 key.getD 21 0 = key.getD 21 0 ∧
 key.getD 22 0 = key.getD 22 0 ∧
 key.getD 23 0 = key.getD 23 0 ∧
 key.getD 24 0 = key.getD 24 0 ∧
 key.getD 25 0 = key.getD 25 0 ∧
 key.getD 26 0 = key.getD 26 0 ∧
 key.getD 27 0 = key.getD 27 0 ∧
 key.getD 28 0 = key.getD 28 0 ∧
 key.getD 29 0 = key.getD 29 0 ∧
 key.getD 30 0 = key.getD 30 0 ∧
 key.getD 31 0 = key.getD 31 0 ∧
 True) ∧
 ∀ (x : Nat), (32 : Int) * (↑x : Int) < n + (32 : Int) ∨ x = 0 → @Bool.rec (fun _ => Prop) ((0 : Int) ≤ n ∧
 (0 : Int) ≤ n ∧
 n.toNat ≤ n.toNat ∧
 n.toNat ≤ 32 * x ∧
 n.toNat = n.toNat ∧
 0 = 0 ∧
 0 = 0 ∧
 n.toNat = n.toNat ∧
 (0 : Int) = (0 : Int) ∧
 hkT K info ((n.toNat + 31) / 32) = hkT K info x ∧
 True) (@Bool.rec (fun _ => Prop) (@Bool.rec (fun _ => Prop) (@Bool.rec (fun _ => Prop) (@Bool.rec (fun _ => Prop) (@Bool.rec (fun _ => Prop) ((0 : Int) ≤ (0 : Int) ∧
 0 < 3 ∧
 (0 : Int) ≤ Int.ofNat 1 ∧
 1 < 3 ∧
 (0 : Int) ≤ Int.ofNat 2 ∧
 2 < 3 ∧
 (0 : Int) ≤ (0 : Int) ∧
 0 < 3 ∧
 roomFor 0 (List.length (hkB K info x)) 1 ∧
 (0 : Int) ≤ Int.ofNat 1 ∧
 1 < 3 ∧
 List.length (hkB K info x) = List.length (hkB K info x) ∧
 roomFor (List.length (hkB K info x)) (List.length info) 1 ∧
 (0 : Int) ≤ Int.ofNat 2 ∧
 2 < 3 ∧
 1 = [BitVec.ofInt 8 (↑(x + 1) : Int)].length ∧
 List.length (hkB K info x) + List.length info = (hkB K info x ++ info).length ∧
 roomFor (List.length (hkB K info x) + List.length info) [BitVec.ofInt 8 (↑(x + 1) : Int)].length 1 ∧
 List.length (hkB K info x) + List.length info + [BitVec.ofInt 8 (↑(x + 1) : Int)].length = (hkB K info x ++ info ++ [BitVec.ofInt 8 (↑(x + 1) : Int)]).length ∧
 (K.length < 4611686018427387904 ∧
 (hkB K info x ++ info ++ [BitVec.ofInt 8 (↑(x + 1) : Int)]).length < 4611686018427387904) ∧
 32 * x = List.length (hkT K info x) ∧
 roomFor (32 * x) (macL K (hkB K info x ++ info ++ [BitVec.ofInt 8 (↑(x + 1) : Int)])).length 1 ∧
 ∃ (y : Nat), 300 - y < 300 - x ∧
 ((32 : Int) * (↑y : Int) < n + (32 : Int) ∨ y = 0) ∧
 info = info ∧
 n = n ∧
 0 = 0 ∧
 0 = 0 ∧
 0 = 0 ∧
 0 = 0 ∧
 32 * y = 32 * x + (macL K (hkB K info x ++ info ++ [BitVec.ofInt 8 (↑(x + 1) : Int)])).length ∧
 hkB K info y = (macL K (hkB K info x ++ info ++ [BitVec.ofInt 8 (↑(x + 1) : Int)])) ∧
 32 = List.length (hkB K info y) ∧
 (↑(y + 1) : Int) = IntKind.i64.wrap ((↑(x + 1) : Int) + (1 : Int)) ∧
 hkT K info y = hkT K info x ++ (macL K (hkB K info x ++ info ++ [BitVec.ofInt 8 (↑(x + 1) : Int)])) ∧
 key.getD 0 0 = key.getD 0 0 ∧
 key.getD 1 0 = key.getD 1 0 ∧
 key.getD 2 0 = key.getD 2 0 ∧
 key.getD 3 0 = key.getD 3 0 ∧
 key.getD 4 0 = key.getD 4 0 ∧
 key.getD 5 0 = key.getD 5 0 ∧
 key.getD 6 0 = key.getD 6 0 ∧
 key.getD 7 0 = key.getD 7 0 ∧
 key.getD 8 0 = key.getD 8 0 ∧
 key.getD 9 0 = key.getD 9 0 ∧
 key.getD 10 0 = key.getD 10 0 ∧
 key.getD 11 0 = key.getD 11 0 ∧
 key.getD 12 0 = key.getD 12 0 ∧
 key.getD 13 0 = key.getD 13 0 ∧
 key.getD 14 0 = key.getD 14 0 ∧
 key.getD 15 0 = key.getD 15 0 ∧
 key.getD 16 0 = key.getD 16 0 ∧
 key.getD 17 0 = key.getD 17 0 ∧
 key.getD 18 0 = key.getD 18 0 ∧
 key.getD 19 0 = key.getD 19 0 ∧
 key.getD 20 0 = key.getD 20 0 ∧
 key.getD 21 0 = key.getD 21 0 ∧
 key.getD 22 0 = key.getD 22 0 ∧
 key.getD 23 0 = key.getD 23 0 ∧
 key.getD 24 0 = key.getD 24 0 ∧
 key.getD 25 0 = key.getD 25 0 ∧
 key.getD 26 0 = key.getD 26 0 ∧
 key.getD 27 0 = key.getD 27 0 ∧
 key.getD 28 0 = key.getD 28 0 ∧
 key.getD 29 0 = key.getD 29 0 ∧
 key.getD 30 0 = key.getD 30 0 ∧
 key.getD 31 0 = key.getD 31 0 ∧
 True) ((0 : Int) ≤ (0 : Int) ∧
 0 < 3 ∧
 (0 : Int) ≤ Int.ofNat 1 ∧
 1 < 3 ∧
 (0 : Int) ≤ Int.ofNat 2 ∧
 2 < 3 ∧
 (0 : Int) ≤ (0 : Int) ∧
 0 ≤ 0 ∧
 (0 : Int) ≤ IntKind.i64.wrap ((IntKind.i64.wrap (IntKind.i64.wrap (IntKind.i64.wrap ((0 : Int) + (↑(List.length (hkB K info x)) : Int)) + (↑(List.length info) : Int)) + Int.ofNat 1)) - Int.ofNat 0) ∧
 IntKind.i64.wrap ((IntKind.i64.wrap (IntKind.i64.wrap (IntKind.i64.wrap ((0 : Int) + (↑(List.length (hkB K info x)) : Int)) + (↑(List.length info) : Int)) + Int.ofNat 1)) - Int.ofNat 0) < (9223372036854775808 : Int) ∧
 roomFor 0 (List.replicate (IntKind.i64.wrap ((IntKind.i64.wrap (IntKind.i64.wrap (IntKind.i64.wrap ((0 : Int) + (↑(List.length (hkB K info x)) : Int)) + (↑(List.length info) : Int)) + Int.ofNat 1)) - Int.ofNat 0)).toNat (0 : BitVec 8)).length 1 ∧
 (0 : Int) ≤ (0 : Int) ∧
 0 ≤ (List.replicate (IntKind.i64.wrap ((IntKind.i64.wrap (IntKind.i64.wrap (IntKind.i64.wrap ((0 : Int) + (↑(List.length (hkB K info x)) : Int)) + (↑(List.length info) : Int)) + Int.ofNat 1)) - Int.ofNat 0)).toNat (0 : BitVec 8)).length ∧
 (0 : Int) ≤ (0 : Int) ∧
 0 < 3 ∧
 0 ≤ (List.replicate (IntKind.i64.wrap ((IntKind.i64.wrap (IntKind.i64.wrap (IntKind.i64.wrap ((0 : Int) + (↑(List.length (hkB K info x)) : Int)) + (↑(List.length info) : Int)) + Int.ofNat 1)) - Int.ofNat 0)).toNat (0 : BitVec 8)).length ∧
 0 = (List.take 0 (List.replicate (IntKind.i64.wrap ((IntKind.i64.wrap (IntKind.i64.wrap (IntKind.i64.wrap ((0 : Int) + (↑(List.length (hkB K info x)) : Int)) + (↑(List.length info) : Int)) + Int.ofNat 1)) - Int.ofNat 0)).toNat (0 : BitVec 8))).length ∧
 roomFor 0 (List.length (hkB K info x)) 1 ∧
 (0 : Int) ≤ Int.ofNat 1 ∧
 1 < 3 ∧
 0 + List.length (hkB K info x) = (List.take 0 (List.replicate (IntKind.i64.wrap ((IntKind.i64.wrap (IntKind.i64.wrap (IntKind.i64.wrap ((0 : Int) + (↑(List.length (hkB K info x)) : Int)) + (↑(List.length info) : Int)) + Int.ofNat 1)) - Int.ofNat 0)).toNat (0 : BitVec 8)) ++ hkB K info x).length ∧
 roomFor (0 + List.length (hkB K info x)) (List.length info) 1 ∧
 (0 : Int) ≤ Int.ofNat 2 ∧
 2 < 3 ∧
 1 = [BitVec.ofInt 8 (↑(x + 1) : Int)].length ∧
 0 + List.length (hkB K info x) + List.length info = (List.take 0 (List.replicate (IntKind.i64.wrap ((IntKind.i64.wrap (IntKind.i64.wrap (IntKind.i64.wrap ((0 : Int) + (↑(List.length (hkB K info x)) : Int)) + (↑(List.length info) : Int)) + Int.ofNat 1)) - Int.ofNat 0)).toNat (0 : BitVec 8)) ++ hkB K info x ++ info).length ∧
 roomFor (0 + List.length (hkB K info x) + List.length info) [BitVec.ofInt 8 (↑(x + 1) : Int)].length 1 ∧
 0 + List.length (hkB K info x) + List.length info + [BitVec.ofInt 8 (↑(x + 1) : Int)].length = (List.take 0 (List.replicate (IntKind.i64.wrap ((IntKind.i64.wrap (IntKind.i64.wrap (IntKind.i64.wrap ((0 : Int) + (↑(List.length (hkB K info x)) : Int)) + (↑(List.length info) : Int)) + Int.ofNat 1)) - Int.ofNat 0)).toNat (0 : BitVec 8)) ++ hkB K info x ++ info ++ [BitVec.ofInt 8 (↑(x + 1) : Int)]).length ∧
 (K.length < 4611686018427387904 ∧
 (List.take 0 (List.replicate (IntKind.i64.wrap ((IntKind.i64.wrap (IntKind.i64.wrap (IntKind.i64.wrap ((0 : Int) + (↑(List.length (hkB K info x)) : Int)) + (↑(List.length info) : Int)) + Int.ofNat 1)) - Int.ofNat 0)).toNat (0 : BitVec 8)) ++ hkB K info x ++ info ++ [BitVec.ofInt 8 (↑(x + 1) : Int)]).length < 4611686018427387904) ∧
 32 * x = List.length (hkT K info x) ∧
 roomFor (32 * x) (macL K (List.take 0 (List.replicate (IntKind.i64.wrap ((IntKind.i64.wrap (IntKind.i64.wrap (IntKind.i64.wrap ((0 : Int) + (↑(List.length (hkB K info x)) : Int)) + (↑(List.length info) : Int)) + Int.ofNat 1)) - Int.ofNat 0)).toNat (0 : BitVec 8)) ++ hkB K info x ++ info ++ [BitVec.ofInt 8 (↑(x + 1) : Int)])).length 1 ∧
 ∃ (y : Nat), 300 - y < 300 - x ∧
 ((32 : Int) * (↑y : Int) < n + (32 : Int) ∨ y = 0) ∧
 info = info ∧
 n = n ∧
 0 = 0 ∧
 0 = 0 ∧
 0 = 0 ∧
 0 = 0 ∧
 32 * y = 32 * x + (macL K (List.take 0 (List.replicate (IntKind.i64.wrap ((IntKind.i64.wrap (IntKind.i64.wrap (IntKind.i64.wrap ((0 : Int) + (↑(List.length (hkB K info x)) : Int)) + (↑(List.length info) : Int)) + Int.ofNat 1)) - Int.ofNat 0)).toNat (0 : BitVec 8)) ++ hkB K info x ++ info ++ [BitVec.ofInt 8 (↑(x + 1) : Int)])).length ∧
 hkB K info y = (macL K (List.take 0 (List.replicate (IntKind.i64.wrap ((IntKind.i64.wrap (IntKind.i64.wrap (IntKind.i64.wrap ((0 : Int) + (↑(List.length (hkB K info x)) : Int)) + (↑(List.length info) : Int)) + Int.ofNat 1)) - Int.ofNat 0)).toNat (0 : BitVec 8)) ++ hkB K info x ++ info ++ [BitVec.ofInt 8 (↑(x + 1) : Int)])) ∧
 32 = List.length (hkB K info y) ∧
 (↑(y + 1) : Int) = IntKind.i64.wrap ((↑(x + 1) : Int) + (1 : Int)) ∧
 hkT K info y = hkT K info x ++ (macL K (List.take 0 (List.replicate (IntKind.i64.wrap ((IntKind.i64.wrap (IntKind.i64.wrap (IntKind.i64.wrap ((0 : Int) + (↑(List.length (hkB K info x)) : Int)) + (↑(List.length info) : Int)) + Int.ofNat 1)) - Int.ofNat 0)).toNat (0 : BitVec 8)) ++ hkB K info x ++ info ++ [BitVec.ofInt 8 (↑(x + 1) : Int)])) ∧
 key.getD 0 0 = key.getD 0 0 ∧
 key.getD 1 0 = key.getD 1 0 ∧
 key.getD 2 0 = key.getD 2 0 ∧
 key.getD 3 0 = key.getD 3 0 ∧
 key.getD 4 0 = key.getD 4 0 ∧
 key.getD 5 0 = key.getD 5 0 ∧
 key.getD 6 0 = key.getD 6 0 ∧
 key.getD 7 0 = key.getD 7 0 ∧
 key.getD 8 0 = key.getD 8 0 ∧
 key.getD 9 0 = key.getD 9 0 ∧
 key.getD 10 0 = key.getD 10 0 ∧
 key.getD 11 0 = key.getD 11 0 ∧
 key.getD 12 0 = key.getD 12 0 ∧
 key.getD 13 0 = key.getD 13 0 ∧
 key.getD 14 0 = key.getD 14 0 ∧
 key.getD 15 0 = key.getD 15 0 ∧
 key.getD 16 0 = key.getD 16 0 ∧
 key.getD 17 0 = key.getD 17 0 ∧
 key.getD 18 0 = key.getD 18 0 ∧
 key.getD 19 0 = key.getD 19 0 ∧
 key.getD 20 0 = key.getD 20 0 ∧
 key.getD 21 0 = key.getD 21 0 ∧
 key.getD 22 0 = key.getD 22 0 ∧
 key.getD 23 0 = key.getD 23 0 ∧
 key.getD 24 0 = key.getD 24 0 ∧
 key.getD 25 0 = key.getD 25 0 ∧
 key.getD 26 0 = key.getD 26 0 ∧
 key.getD 27 0 = key.getD 27 0 ∧
 key.getD 28 0 = key.getD 28 0 ∧
 key.getD 29 0 = key.getD 29 0 ∧
 key.getD 30 0 = key.getD 30 0 ∧
 key.getD 31 0 = key.getD 31 0 ∧
 True) (decide ((0 : Int) < IntKind.i64.wrap ((IntKind.i64.wrap (IntKind.i64.wrap (IntKind.i64.wrap ((0 : Int) + (↑(List.length (hkB K info x)) : Int)) + (↑(List.length info) : Int)) + Int.ofNat 1)) - Int.ofNat 0)))) False (decide ((IntKind.i64.wrap (IntKind.i64.wrap (IntKind.i64.wrap ((0 : Int) + (↑(List.length (hkB K info x)) : Int)) + (↑(List.length info) : Int)) + Int.ofNat 1)) < (0 : Int)))) False (decide ((IntKind.i64.wrap (IntKind.i64.wrap (IntKind.i64.wrap ((0 : Int) + (↑(List.length (hkB K info x)) : Int)) + (↑(List.length info) : Int)) + Int.ofNat 1)) < (0 : Int)))) False (decide (IntKind.i64.wrap (IntKind.i64.wrap ((0 : Int) + (↑(List.length (hkB K info x)) : Int)) + (↑(List.length info) : Int)) < (0 : Int)))) False (decide (IntKind.i64.wrap ((0 : Int) + (↑(List.length (hkB K info x)) : Int)) < (0 : Int)))) (decide ((↑(32 * x) : Int) < n))) False (decide ((8160 : Int) < n))) (!decide (n < (0 : Int))) : Prop)) (k32 key) := by kernel_rfl
end Go.Sym

namespace Go.Spec
theorem macL_length (K m : By) : (macL K m).length = 32 := by simp [macL]
theorem hkB_length (K info : By) (x : Nat) : (hkB K info x).length ≤ 32 := by
  cases x with
  | zero => simp [hkB]
  | succ x => simp [hkB, macL]
theorem hkT_length (K info : By) : ∀ x, (hkT K info x).length = 32 * x
  | 0 => rfl
  | x + 1 => by
    simp only [hkT, hkB, List.length_append, macL_length, hkT_length K info x]
    omega
theorem hkB_succ (K info : By) (x : Nat) : macL K (hkB K info x ++ info ++ [BitVec.ofInt 8 ((x + 1 : Nat) : Int)]) = hkB K info (x + 1) := by
  simp only [hkB, List.append_assoc, BitVec.ofInt_natCast]
end Go.Spec
namespace Go.Sym
open Go.Proofs Go.Spec
set_option linter.unusedVariables false
theorem b18 (key info : By) (n : Int) (h0 : 0 ≤ n) (h1 : n ≤ 8160) (h2 : info.length < 1099511627776) : Must (bodyP Tryd.prog H2 gl0 [] [(6, lsEx key info n)] 3000 Tryd.f18 0 [aggB 32 (fun i => key.getD i 0), .rb false info .unk, .int .i64 n] [] (retQ Tryd.prog Tryd.f18 0 ⟨[], .tup [.slice 0 0 1 n.toNat (.kn n.toNat) .unk, .int .i64 0], [], [⟨.bytes (hkT (k32 key) info ((n.toNat + 31) / 32)), true, 0⟩]⟩)) := by
  constructor
  rw [vc18]
  dsimp only
  have hK : (k32 key).length = 32 := by simp [k32]
  generalize k32 key = K at *
  refine brec (fun _ => ?_) (fun h => absurd h (by simp; omega))
  refine brec (fun h => absurd (dlt.1 h) (by omega)) (fun _ => ?_)
  refine ⟨⟨0, .inr rfl, by simp [hkB, hkT]⟩, fun x hx => ?_⟩
  refine brec (fun h => ?_) (fun h => ?_)
  · replace h := dlt.1 h
    have ha := hkB_length K info x
    have hT := hkT_length K info x
    have hS := hkB_succ K info x
    have hl : (hkB K info (x + 1)).length = 32 := by simp [hkB, macL]
    have w1 : IntKind.i64.wrap ((0 : Int) + ((hkB K info x).length : Int)) = (((hkB K info x).length : Nat) : Int) := by
      rw [Int.zero_add]; exact wrap_i64 (by omega) (by omega)
    have w2 : IntKind.i64.wrap (((hkB K info x).length : Int) + (info.length : Int)) = (((hkB K info x).length + info.length : Nat) : Int) := wrap_nat _ (by omega) (by omega)
    have w3 : IntKind.i64.wrap ((((hkB K info x).length + info.length : Nat) : Int) + Int.ofNat 1) = (((hkB K info x).length + info.length + 1 : Nat) : Int) := wrap_nat _ (by simp) (by omega)
    have w4 : IntKind.i64.wrap ((((hkB K info x).length + info.length + 1 : Nat) : Int) - Int.ofNat 0) = (((hkB K info x).length + info.length + 1 : Nat) : Int) := wrap_nat _ (by simp) (by omega)
    have w5 : IntKind.i64.wrap (((x + 1 : Nat) : Int) + 1) = ((x + 1 + 1 : Nat) : Int) := wrap_nat _ (by simp) (by omega)
    have d1 : ∀ k : Nat, decide ((k : Int) < 0) = false := fun k => by simp
    have d2 : ∀ k : Nat, decide (0 < ((k + 1 : Nat) : Int)) = true := fun k => by simp only [decide_eq_true_eq]; omega
    simp only [w1, w2, w3, w4, w5, d1, d2]
    simp only [List.take_zero, List.nil_append, Nat.zero_add, hS, hl, hK, hT, Int.toNat_natCast, List.length_replicate, List.length_append, List.length_singleton, and_true]
    unfold roomFor
    repeat refine And.intro (by first | exact True.intro | omega | exact Int.natCast_nonneg _ | rfl) ?_
    exact ⟨x + 1, by omega, .inl (by omega), trivial, trivial, trivial, trivial, trivial, trivial, by omega, rfl, hl.symm, rfl, rfl⟩
  · replace h := ndlt.1 h
    have e : (n.toNat + 31) / 32 = x := by omega
    rw [e]
    simp only [and_true]
    omega
end Go.Sym

namespace Go.Spec
theorem k32_self {l : By} (h : l.length = 32) : k32 l = l := by
  apply List.ext_getElem
  · simp [k32, h]
  · intro i h1 h2
    simp [k32, List.getD, h2]
end Go.Spec
namespace Go.Sym
open Go.Proofs Go.Spec
set_option linter.unusedVariables false
theorem agg_u8 {cs : List AV} {l : By} (h : rdU8 cs = some l) (hl : l.length = 32) : AV.agg cs = aggB 32 (fun i => l.getD i 0) := by
  rw [rdU8_eq h]
  unfold aggB
  congr 1
  apply List.ext_getElem
  · simp [hl]
  · intro i h1 h2
    have : i < l.length := by simpa using h1
    simp [List.getD, this]
noncomputable def gEx (xs : List AV) (bs : List ABlk) : TL := match xs, bs with
  | [.agg cs, .rb false info .unk, .int .i64 n], [] => (match rdU8 cs with
    | some key => (match key.length == 32 with
      | true => .ok ⟨[0 ≤ n, n ≤ 8160, info.length < 1099511627776], .tup [.slice 0 0 1 n.toNat (.kn n.toNat) .unk, .int .i64 0], [], [⟨.bytes (hkT key info ((n.toNat + 31) / 32)), true, 0⟩]⟩
      | false => .no)
    | none => .no)
  | _, _ => .no
noncomputable def spEx : Spec := ⟨[.kp, .by0, .kp], fun _ _ => [], fun _ _ => [], gEx⟩
theorem c18 : COK Tryd.prog gl0 18 (mkF spEx) := by
  refine ctrE (fn := Tryd.f18) [] 3000 (by kernel_rfl) (by kernel_rfl) okH2 (by kernel_rfl) (fun args w => by kernel_rfl) ?_
  intro xs bs r hs ho
  simp only [spEx, gEx] at hs
  split at hs
  · rename_i cs info n
    split at hs
    · rename_i key hr
      split at hs
      · rename_i hl
        have hl : key.length = 32 := by simpa using hl
        simp only [TL.sel, Option.some.injEq] at hs
        subst hs
        obtain ⟨h0, h1, h2, _⟩ := ho
        rw [agg_u8 hr hl]
        have b := b18 key info n h0 h1 h2
        rw [k32_self hl] at b
        exact ⟨_, b⟩
      · simp [TL.sel] at hs
    · simp [TL.sel] at hs
  · simp [TL.sel] at hs
noncomputable def H3 : Ctx := H2.add 18 (mkF spEx)
theorem okH3 : COKs Tryd.prog gl0 H3 := okH2.add c18
end Go.Sym

namespace Go.Sym
open Go.Proofs Go.Spec
set_option linter.unusedVariables false
noncomputable def H4 : Ctx := H3.exe Tryd.prog gl0 [] 3000 Tryd.f21.params.size 21 Tryd.f21
theorem okH4 : COKs Tryd.prog gl0 H4 := okH3.exe [] 3000 _ (by kernel_rfl) (by kernel_rfl) (by kernel_rfl) (fun args w => by kernel_rfl)
def kA : By := [0#8, 1#8, 2#8, 3#8, 4#8, 5#8, 6#8, 7#8, 8#8, 9#8, 10#8, 11#8, 12#8]
def kS : By := List.replicate 22 11#8
theorem kAS0 : macB kA kS 0 = 7#8 := by rw [macB_un]; kernel_rfl
theorem kAS1 : macB kA kS 1 = 119#8 := by rw [macB_un]; kernel_rfl
theorem kAS7 : macB kA kS 7 = 223#8 := by rw [macB_un]; kernel_rfl
end Go.Sym

namespace Go.Sym
open Go.Proofs Go.Spec
set_option linter.unusedVariables false
set_option maxRecDepth 100000 in
theorem vc20 : bodyP Tryd.prog H4 gl0 [] [] 3000 Tryd.f20 0 [] [] (retQ Tryd.prog Tryd.f20 0 ⟨[], .bool true, [], []⟩) = (
(13 : Nat) ≤ (13 : Nat) ∧
 (13 : Nat) ≤ (281474976710656 : Nat) ∧
 (13 : Nat) ≤ (9223372036854775807 : Nat) ∧
 (22 : Nat) ≤ (22 : Nat) ∧
 (22 : Nat) ≤ (281474976710656 : Nat) ∧
 (22 : Nat) ≤ (9223372036854775807 : Nat) ∧
 (0 : Int) ≤ (0 : Int) ∧
 (0 : Nat) < (22 : Nat) ∧
 (0 : Nat) < (22 : Nat) ∧
 (0 : Int) ≤ (0 : Int) ∧
 (0 : Nat) < (13 : Nat) ∧
 (0 : Nat) < (13 : Nat) ∧
 (0 : Int) ≤ Int.ofNat (1 : Nat) ∧
 (1 : Nat) < (22 : Nat) ∧
 (1 : Nat) < (22 : Nat) ∧
 (0 : Int) ≤ Int.ofNat (1 : Nat) ∧
 (1 : Nat) < (13 : Nat) ∧
 (1 : Nat) < (13 : Nat) ∧
 (0 : Int) ≤ Int.ofNat (2 : Nat) ∧
 (2 : Nat) < (22 : Nat) ∧
 (2 : Nat) < (22 : Nat) ∧
 (0 : Int) ≤ Int.ofNat (2 : Nat) ∧
 (2 : Nat) < (13 : Nat) ∧
 (2 : Nat) < (13 : Nat) ∧
 (0 : Int) ≤ Int.ofNat (3 : Nat) ∧
 (3 : Nat) < (22 : Nat) ∧
 (3 : Nat) < (22 : Nat) ∧
 (0 : Int) ≤ Int.ofNat (3 : Nat) ∧
 (3 : Nat) < (13 : Nat) ∧
 (3 : Nat) < (13 : Nat) ∧
 (0 : Int) ≤ Int.ofNat (4 : Nat) ∧
 (4 : Nat) < (22 : Nat) ∧
 (4 : Nat) < (22 : Nat) ∧
 (0 : Int) ≤ Int.ofNat (4 : Nat) ∧
 (4 : Nat) < (13 : Nat) ∧
 (4 : Nat) < (13 : Nat) ∧
 (0 : Int) ≤ Int.ofNat (5 : Nat) ∧
 (5 : Nat) < (22 : Nat) ∧
 (5 : Nat) < (22 : Nat) ∧
 (0 : Int) ≤ Int.ofNat (5 : Nat) ∧
 (5 : Nat) < (13 : Nat) ∧
 (5 : Nat) < (13 : Nat) ∧
 (0 : Int) ≤ Int.ofNat (6 : Nat) ∧
 (6 : Nat) < (22 : Nat) ∧
 (6 : Nat) < (22 : Nat) ∧
 (0 : Int) ≤ Int.ofNat (6 : Nat) ∧
 (6 : Nat) < (13 : Nat) ∧
 (6 : Nat) < (13 : Nat) ∧
 (0 : Int) ≤ Int.ofNat (7 : Nat) ∧
 (7 : Nat) < (22 : Nat) ∧
 (7 : Nat) < (22 : Nat) ∧
 (0 : Int) ≤ Int.ofNat (7 : Nat) ∧
 (7 : Nat) < (13 : Nat) ∧
 (7 : Nat) < (13 : Nat) ∧
 (0 : Int) ≤ Int.ofNat (8 : Nat) ∧
 (8 : Nat) < (22 : Nat) ∧
 (8 : Nat) < (22 : Nat) ∧
 (0 : Int) ≤ Int.ofNat (8 : Nat) ∧
 (8 : Nat) < (13 : Nat) ∧
 (8 : Nat) < (13 : Nat) ∧
 (0 : Int) ≤ Int.ofNat (9 : Nat) ∧
 (9 : Nat) < (22 : Nat) ∧
 (9 : Nat) < (22 : Nat) ∧
 (0 : Int) ≤ Int.ofNat (9 : Nat) ∧
 (9 : Nat) < (13 : Nat) ∧
 (9 : Nat) < (13 : Nat) ∧
 (0 : Int) ≤ Int.ofNat (10 : Nat) ∧
 (10 : Nat) < (22 : Nat) ∧
 (10 : Nat) < (22 : Nat) ∧
 (0 : Int) ≤ Int.ofNat (10 : Nat) ∧
 (10 : Nat) < (13 : Nat) ∧
 (10 : Nat) < (13 : Nat) ∧
 (0 : Int) ≤ Int.ofNat (11 : Nat) ∧
 (11 : Nat) < (22 : Nat) ∧
 (11 : Nat) < (22 : Nat) ∧
 (0 : Int) ≤ Int.ofNat (11 : Nat) ∧
 (11 : Nat) < (13 : Nat) ∧
 (11 : Nat) < (13 : Nat) ∧
 (0 : Int) ≤ Int.ofNat (12 : Nat) ∧
 (12 : Nat) < (22 : Nat) ∧
 (12 : Nat) < (22 : Nat) ∧
 (0 : Int) ≤ Int.ofNat (12 : Nat) ∧
 (12 : Nat) < (13 : Nat) ∧
 (12 : Nat) < (13 : Nat) ∧
 (0 : Int) ≤ Int.ofNat (13 : Nat) ∧
 (13 : Nat) < (22 : Nat) ∧
 (13 : Nat) < (22 : Nat) ∧
 (0 : Int) ≤ Int.ofNat (14 : Nat) ∧
 (14 : Nat) < (22 : Nat) ∧
 (14 : Nat) < (22 : Nat) ∧
 (0 : Int) ≤ Int.ofNat (15 : Nat) ∧
 (15 : Nat) < (22 : Nat) ∧
 (15 : Nat) < (22 : Nat) ∧
 (0 : Int) ≤ Int.ofNat (16 : Nat) ∧
 (16 : Nat) < (22 : Nat) ∧
 (16 : Nat) < (22 : Nat) ∧
 (0 : Int) ≤ Int.ofNat (17 : Nat) ∧
 (17 : Nat) < (22 : Nat) ∧
 (17 : Nat) < (22 : Nat) ∧
 (0 : Int) ≤ Int.ofNat (18 : Nat) ∧
 (18 : Nat) < (22 : Nat) ∧
 (18 : Nat) < (22 : Nat) ∧
 (0 : Int) ≤ Int.ofNat (19 : Nat) ∧
 (19 : Nat) < (22 : Nat) ∧
 (19 : Nat) < (22 : Nat) ∧
 (0 : Int) ≤ Int.ofNat (20 : Nat) ∧
 (20 : Nat) < (22 : Nat) ∧
 (20 : Nat) < (22 : Nat) ∧
 (0 : Int) ≤ Int.ofNat (21 : Nat) ∧
 (21 : Nat) < (22 : Nat) ∧
 (21 : Nat) < (22 : Nat) ∧
 (13 : Nat) = (13 : Nat) ∧
 (22 : Nat) = (22 : Nat) ∧
 ((13 : Nat) < (4611686018427387904 : Nat) ∧
 (22 : Nat) < (4611686018427387904 : Nat)) ∧
 (0 : Int) ≤ (3 : Int) ∧
 (3 : Int) ≤ (8160 : Int) ∧
 (0 : Nat) < (1099511627776 : Nat) ∧
 @Bool.rec (fun _ => Prop) (Bool.true = Bool.false ∧
 True) (@Bool.rec (fun _ => Prop) (Bool.true = Bool.false ∧
 True) (@Bool.rec (fun _ => Prop) (Bool.true = Bool.false ∧
 True) (Bool.true = Bool.true ∧
 True) (Decidable.decide (macB kA kS 7 = BitVec.ofNat (8 : Nat) (223 : Nat)))) (Decidable.decide (macB kA kS 1 = BitVec.ofNat (8 : Nat) (119 : Nat)))) (Decidable.decide (macB kA kS 0 = BitVec.ofNat (8 : Nat) (7 : Nat)))) := by kernel_rfl
theorem b20 : Must (bodyP Tryd.prog H4 gl0 [] [] 3000 Tryd.f20 0 [] [] (retQ Tryd.prog Tryd.f20 0 ⟨[], .bool true, [], []⟩)) := by
  constructor
  rw [vc20]
  simp only [kAS0, kAS1, kAS7, decide_true]
  simp
theorem c20 : COK Tryd.prog gl0 20 (mkF spTr) := by
  refine ctrE (fn := Tryd.f20) [] 3000 (by kernel_rfl) (by kernel_rfl) okH4 (by kernel_rfl) (fun args w => by kernel_rfl) ?_
  intro xs bs r hs ho
  simp only [spTr, gTr] at hs
  split at hs
  · simp only [TL.sel, Option.some.injEq] at hs
    subst hs
    exact ⟨_, b20⟩
  · simp [TL.sel] at hs
noncomputable def H5 : Ctx := H4.add 20 (mkF spTr)
theorem okH5 : COKs Tryd.prog gl0 H5 := okH4.add c20
end Go.Sym

namespace Go.Sym
open Go.Proofs Go.Spec
set_option linter.unusedVariables false
set_option maxRecDepth 100000 in
theorem vc9 (l k : By) (c d : Bool) : bodyP Tryd.prog H5 gl0 [] [] 3000 Tryd.f9 0 [.rb true l (.is c), .rb true k (.is d)] [] (retQ Tryd.prog Tryd.f9 0 ⟨[], .bool true, [], []⟩) = (
(0 : Int) ≤ Min.min (↑(List.length l) : Int) (100 : Int) ∧
 (Min.min (↑(List.length l) : Int) (100 : Int)).toNat ≤ List.length l ∧
 (0 : Int) ≤ Min.min (↑(List.length k) : Int) (100 : Int) ∧
 (Min.min (↑(List.length k) : Int) (100 : Int)).toNat ≤ List.length k ∧
 ((List.take (Min.min (↑(List.length l) : Int) (100 : Int)).toNat l).length < (4611686018427387904 : Nat) ∧ (List.take (Min.min (↑(List.length k) : Int) (100 : Int)).toNat k).length < (4611686018427387904 : Nat)) ∧
 (List.take (Min.min (↑(List.length l) : Int) (100 : Int)).toNat l).length < (17592186044416 : Nat) ∧
 (List.take (Min.min (↑(List.length k) : Int) (100 : Int)).toNat k).length < (17592186044416 : Nat) ∧
 Bool.true =
 (Decidable.decide (macB (List.take (Min.min (↑(List.length l) : Int) (100 : Int)).toNat l) (List.take (Min.min (↑(List.length k) : Int) (100 : Int)).toNat k) 0 = macB (List.take (Min.min (↑(List.length l) : Int) (100 : Int)).toNat l) (List.take (Min.min (↑(List.length k) : Int) (100 : Int)).toNat k) 0) &&
 (Decidable.decide (macB (List.take (Min.min (↑(List.length l) : Int) (100 : Int)).toNat l) (List.take (Min.min (↑(List.length k) : Int) (100 : Int)).toNat k) 1 = macB (List.take (Min.min (↑(List.length l) : Int) (100 : Int)).toNat l) (List.take (Min.min (↑(List.length k) : Int) (100 : Int)).toNat k) 1) &&
 (Decidable.decide (macB (List.take (Min.min (↑(List.length l) : Int) (100 : Int)).toNat l) (List.take (Min.min (↑(List.length k) : Int) (100 : Int)).toNat k) 2 = macB (List.take (Min.min (↑(List.length l) : Int) (100 : Int)).toNat l) (List.take (Min.min (↑(List.length k) : Int) (100 : Int)).toNat k) 2) &&
 (Decidable.decide (macB (List.take (Min.min (↑(List.length l) : Int) (100 : Int)).toNat l) (List.take (Min.min (↑(List.length k) : Int) (100 : Int)).toNat k) 3 = macB (List.take (Min.min (↑(List.length l) : Int) (100 : Int)).toNat l) (List.take (Min.min (↑(List.length k) : Int) (100 : Int)).toNat k) 3) &&
 (Decidable.decide (macB (List.take (Min.min (↑(List.length l) : Int) (100 : Int)).toNat l) (List.take (Min.min (↑(List.length k) : Int) (100 : Int)).toNat k) 4 = macB (List.take (Min.min (↑(List.length l) : Int) (100 : Int)).toNat l) (List.take (Min.min (↑(List.length k) : Int) (100 : Int)).toNat k) 4) &&
 (Decidable.decide (macB (List.take (Min.min (↑(List.length l) : Int) (100 : Int)).toNat l) (List.take (Min.min (↑(List.length k) : Int) (100 : Int)).toNat k) 5 = macB (List.take (Min.min (↑(List.length l) : Int) (100 : Int)).toNat l) (List.take (Min.min (↑(List.length k) : Int) (100 : Int)).toNat k) 5) &&
 (Decidable.decide (macB (List.take (Min.min (↑(List.length l) : Int) (100 : Int)).toNat l) (List.take (Min.min (↑(List.length k) : Int) (100 : Int)).toNat k) 6 = macB (List.take (Min.min (↑(List.length l) : Int) (100 : Int)).toNat l) (List.take (Min.min (↑(List.length k) : Int) (100 : Int)).toNat k) 6) &&
 (Decidable.decide (macB (List.take (Min.min (↑(List.length l) : Int) (100 : Int)).toNat l) (List.take (Min.min (↑(List.length k) : Int) (100 : Int)).toNat k) 7 = macB (List.take (Min.min (↑(List.length l) : Int) (100 : Int)).toNat l) (List.take (Min.min (↑(List.length k) : Int) (100 : Int)).toNat k) 7) &&
 (Decidable.decide (macB (List.take (Min.min (↑(List.length l) : Int) (100 : Int)).toNat l) (List.take (Min.min (↑(List.length k) : Int) (100 : Int)).toNat k) 8 = macB (List.take (Min.min (↑(List.length l) : Int) (100 : Int)).toNat l) (List.take (Min.min (↑(List.length k) : Int) (100 : Int)).toNat k) 8) &&
 (Decidable.decide (macB (List.take (Min.min (↑(List.length l) : Int) (100 : Int)).toNat l) (List.take (Min.min (↑(List.length k) : Int) (100 : Int)).toNat k) 9 = macB (List.take (Min.min (↑(List.length l) : Int) (100 : Int)).toNat l) (List.take (Min.min (↑(List.length k) : Int) (100 : Int)).toNat k) 9) &&
 (Decidable.decide (macB (List.take (Min.min (↑(List.length l) : Int) (100 : Int)).toNat l) (List.take (Min.min (↑(List.length k) : Int) (100 : Int)).toNat k) 10 = macB (List.take (Min.min (↑(List.length l) : Int) (100 : Int)).toNat l) (List.take (Min.min (↑(List.length k) : Int) (100 : Int)).toNat k) 10) &&
 (Decidable.decide (macB (List.take (Min.min (↑(List.length l) : Int) (100 : Int)).toNat l) (List.take (Min.min (↑(List.length k) : Int) (100 : Int)).toNat k) 11 = macB (List.take (Min.min (↑(List.length l) : Int) (100 : Int)).toNat l) (List.take (Min.min (↑(List.length k) : Int) (100 : Int)).toNat k) 11) &&
 (Decidable.decide (macB (List.take (Min.min (↑(List.length l) : Int) (100 : Int)).toNat l) (List.take (Min.min (↑(List.length k) : Int) (100 : Int)).toNat k) 12 = macB (List.take (Min.min (↑(List.length l) : Int) (100 : Int)).toNat l) (List.take (Min.min (↑(List.length k) : Int) (100 : Int)).toNat k) 12) &&
 (Decidable.decide (macB (List.take (Min.min (↑(List.length l) : Int) (100 : Int)).toNat l) (List.take (Min.min (↑(List.length k) : Int) (100 : Int)).toNat k) 13 = macB (List.take (Min.min (↑(List.length l) : Int) (100 : Int)).toNat l) (List.take (Min.min (↑(List.length k) : Int) (100 : Int)).toNat k) 13) &&
 (Decidable.decide (macB (List.take (Min.min (↑(List.length l) : Int) (100 : Int)).toNat l) (List.take (Min.min (↑(List.length k) : Int) (100 : Int)).toNat k) 14 = macB (List.take (Min.min (↑(List.length l) : Int) (100 : Int)).toNat l) (List.take (Min.min (↑(List.length k) : Int) (100 : Int)).toNat k) 14) &&
 (Decidable.decide (macB (List.take (Min.min (↑(List.length l) : Int) (100 : Int)).toNat l) (List.take (Min.min (↑(List.length k) : Int) (100 : Int)).toNat k) 15 = macB (List.take (Min.min (↑(List.length l) : Int) (100 : Int)).toNat l) (List.take (Min.min (↑(List.length k) : Int) (100 : Int)).toNat k) 15) &&
 (Decidable.decide (macB (List.take (Min.min (↑(List.length l) : Int) (100 : Int)).toNat l) (List.take (Min.min (↑(List.length k) : Int) (100 : Int)).toNat k) 16 = macB (List.take (Min.min (↑(List.length l) : Int) (100 : Int)).toNat l) (List.take (Min.min (↑(List.length k) : Int) (100 : Int)).toNat k) 16) &&
 (Decidable.decide (macB (List.take (Min.min (↑(List.length l) : Int) (100 : Int)).toNat l) (List.take (Min.min (↑(List.length k) : Int) (100 : Int)).toNat k) 17 = macB (List.take (Min.min (↑(List.length l) : Int) (100 : Int)).toNat l) (List.take (Min.min (↑(List.length k) : Int) (100 : Int)).toNat k) 17) &&
 (Decidable.decide (macB (List.take (Min.min (↑(List.length l) : Int) (100 : Int)).toNat l) (List.take (Min.min (↑(List.length k) : Int) (100 : Int)).toNat k) 18 = macB (List.take (Min.min (↑(List.length l) : Int) (100 : Int)).toNat l) (List.take (Min.min (↑(List.length k) : Int) (100 : Int)).toNat k) 18) &&
 (Decidable.decide (macB (List.take (Min.min (↑(List.length l) : Int) (100 : Int)).toNat l) (List.take (Min.min (↑(List.length k) : Int) (100 : Int)).toNat k) 19 = macB (List.take (Min.min (↑(List.length l) : Int) (100 : Int)).toNat l) (List.take (Min.min (↑(List.length k) : Int) (100 : Int)).toNat k) 19) &&
 (Decidable.decide (macB (List.take (Min.min (↑(List.length l) : Int) (100 : Int)).toNat l) (List.take (Min.min (↑(List.length k) : Int) (100 : Int)).toNat k) 20 = macB (List.take (Min.min (↑(List.length l) : Int) (100 : Int)).toNat l) (List.take (Min.min (↑(List.length k) : Int) (100 : Int)).toNat k) 20) &&
 (Decidable.decide (macB (List.take (Min.min (↑(List.length l) : Int) (100 : Int)).toNat l) (List.take (Min.min (↑(List.length k) : Int) (100 : Int)).toNat k) 21 = macB (List.take (Min.min (↑(List.length l) : Int) (100 : Int)).toNat l) (List.take (Min.min (↑(List.length k) : Int) (100 : Int)).toNat k) 21) && (Decidable.decide (macB (List.take (Min.min (↑(List.length l) : Int) (100 : Int)).toNat l) (List.take (Min.min (↑(List.length k) : Int) (100 : Int)).toNat k) 22 = macB (List.take (Min.min (↑(List.length l) : Int) (100 : Int)).toNat l) (List.take (Min.min (↑(List.length k) : Int) (100 : Int)).toNat k) 22) && (Decidable.decide (macB (List.take (Min.min (↑(List.length l) : Int) (100 : Int)).toNat l) (List.take (Min.min (↑(List.length k) : Int) (100 : Int)).toNat k) 23 = macB (List.take (Min.min (↑(List.length l) : Int) (100 : Int)).toNat l) (List.take (Min.min (↑(List.length k) : Int) (100 : Int)).toNat k) 23) && (Decidable.decide (macB (List.take (Min.min (↑(List.length l) : Int) (100 : Int)).toNat l) (List.take (Min.min (↑(List.length k) : Int) (100 : Int)).toNat k) 24 = macB (List.take (Min.min (↑(List.length l) : Int) (100 : Int)).toNat l) (List.take (Min.min (↑(List.length k) : Int) (100 : Int)).toNat k) 24) && (Decidable.decide (macB (List.take (Min.min (↑(List.length l) : Int) (100 : Int)).toNat l) (List.take (Min.min (↑(List.length k) : Int) (100 : Int)).toNat k) 25 = macB (List.take (Min.min (↑(List.length l) : Int) (100 : Int)).toNat l) (List.take (Min.min (↑(List.length k) : Int) (100 : Int)).toNat k) 25) && (Decidable.decide (macB (List.take (Min.min (↑(List.length l) : Int) (100 : Int)).toNat l) (List.take (Min.min (↑(List.length k) : Int) (100 : Int)).toNat k) 26 = macB (List.take (Min.min (↑(List.length l) : Int) (100 : Int)).toNat l) (List.take (Min.min (↑(List.length k) : Int) (100 : Int)).toNat k) 26) && (Decidable.decide (macB (List.take (Min.min (↑(List.length l) : Int) (100 : Int)).toNat l) (List.take (Min.min (↑(List.length k) : Int) (100 : Int)).toNat k) 27 = macB (List.take (Min.min (↑(List.length l) : Int) (100 : Int)).toNat l) (List.take (Min.min (↑(List.length k) : Int) (100 : Int)).toNat k) 27) && (Decidable.decide (macB (List.take (Min.min (↑(List.length l) : Int) (100 : Int)).toNat l) (List.take (Min.min (↑(List.length k) : Int) (100 : Int)).toNat k) 28 = macB (List.take (Min.min (↑(List.length l) : Int) (100 : Int)).toNat l) (List.take (Min.min (↑(List.length k) : Int) (100 : Int)).toNat k) 28) && (Decidable.decide (macB (List.take (Min.min (↑(List.length l) : Int) (100 : Int)).toNat l) (List.take (Min.min (↑(List.length k) : Int) (100 : Int)).toNat k) 29 = macB (List.take (Min.min (↑(List.length l) : Int) (100 : Int)).toNat l) (List.take (Min.min (↑(List.length k) : Int) (100 : Int)).toNat k) 29) && (Decidable.decide (macB (List.take (Min.min (↑(List.length l) : Int) (100 : Int)).toNat l) (List.take (Min.min (↑(List.length k) : Int) (100 : Int)).toNat k) 30 = macB (List.take (Min.min (↑(List.length l) : Int) (100 : Int)).toNat l) (List.take (Min.min (↑(List.length k) : Int) (100 : Int)).toNat k) 30) && (Decidable.decide (macB (List.take (Min.min (↑(List.length l) : Int) (100 : Int)).toNat l) (List.take (Min.min (↑(List.length k) : Int) (100 : Int)).toNat k) 31 = macB (List.take (Min.min (↑(List.length l) : Int) (100 : Int)).toNat l) (List.take (Min.min (↑(List.length k) : Int) (100 : Int)).toNat k) 31) && Bool.true)))))))))))))))))))))))))))))))) ∧
 True) := by kernel_rfl
end Go.Sym

namespace Go.Sym
open Go.Proofs Go.Spec
set_option linter.unusedVariables false
theorem b9 (l k : By) (c d : Bool) : Must (bodyP Tryd.prog H5 gl0 [] [] 3000 Tryd.f9 0 [.rb true l (.is c), .rb true k (.is d)] [] (retQ Tryd.prog Tryd.f9 0 ⟨[], .bool true, [], []⟩)) := by
  constructor
  rw [vc9]
  have hM : (List.take (min (l.length : Int) 100).toNat l).length ≤ 100 := by simp; omega
  have hK : (List.take (min (k.length : Int) 100).toNat k).length ≤ 100 := by simp; omega
  have h0 : 0 ≤ min (l.length : Int) 100 ∧ (min (l.length : Int) 100).toNat ≤ l.length := by omega
  have h2 : 0 ≤ min (k.length : Int) 100 ∧ (min (k.length : Int) 100).toNat ≤ k.length := by omega
  generalize List.take (min (l.length : Int) 100).toNat l = M at *
  generalize List.take (min (k.length : Int) 100).toNat k = K at *
  simp only [decide_true, Bool.and_self, and_true]
  exact ⟨h0.1, h0.2, h2.1, h2.2, ⟨by omega, by omega⟩, by omega, by omega⟩
end Go.Sym

/- HkdfExtracts: of all salts and secrets what is taken out is what the document takes out. Condition: the two tables of the package start as the text of the program lays them, which the card ties. -/
namespace Go.Sym
open Go.Proofs
theorem w9 (W : World) (hG : GW gl0 W) (v0 : Value) (l0 : Go.Spec.By) (c0 : Bool) (h0 : VRel (κW W) (.rb true l0 (.is c0)) v0) (v1 : Value) (l1 : Go.Spec.By) (c1 : Bool) (h1 : VRel (κW W) (.rb true l1 (.is c1)) v1) :
    Calls Tryd.prog 9 #[v0, v1] W fun e w' => e = .returned (.bool true) ∧ RowKit.Below W.heap.size W w' := by
  have hv : VRels (κW W) [.rb true l0 (.is c0), .rb true l1 (.is c1)] [v0, v1] := by
    simp only [VRels]
    exact ⟨_, _, rfl, h0, _, _, rfl, h1, rfl⟩
  refine law_walk (gl := gl0) (Γ := H5) (fn := Tryd.f9) (av := [.rb true l0 (.is c0), .rb true l1 (.is c1)]) (ls := []) [] 3000 (by kernel_rfl) (by kernel_rfl) okH5 (by kernel_rfl) hG (by kernel_rfl) hv ?_
  exact b9 l0 l1 c0 c1
end Go.Sym
namespace Go.Proofs.YtmofcjjhgigkoaaDoor.hkdfExtracts
open Go.ChangeShapes Go.WideShapes Go.ChangeAt Go.WideMaps Go.WideElems Go.RowKit
set_option linter.unusedVariables false
set_option maxRecDepth 100000 in
theorem lifted (os : Os) (started : os.Started) (H : Type) (enc : TypeId × Value → H) :
    ReturnsInHanded {} Tryd.checked os 9 .any (fun w args => (Rows.hkdfExtractsSpec.pre enc Tryd.prog Tryd.f9 [] false w args ∧ laidMetH Tryd.prog laid2 w) ∧ sizedMet enc Tryd.prog Tryd.f9 (OpenSpec.ofChange Rows.hkdfExtractsSpec) false w args)
      (Rows.hkdfExtractsSpec.post enc Tryd.prog Tryd.f9 false true false false) := by
  refine returnsInHanded_of_change_and (C := Tryd.checked) (X := fun w _ => laidMetH Tryd.prog laid2 w) (fun _ _ _ hh h => h.of_heap hh) own started (by kernel_rfl) Tryd.func9
    (ChangeSpec.witness_shaped (enc := enc) (C := Tryd.checked) (os := os) (X := fun w _ => laidMetH Tryd.prog laid2 w) false (World.doorLaid Tryd.prog 400 os) #[.slice none 0 0, .slice none 0 0] 8 rfl (World.shaped_of_RefB (by kernel_rfl) (by kernel_rfl)) (by kernel_rfl) (by kernel_rfl) (by kernel_rfl) (door_met os _)) ?_
  intro W base args ds gs before hval0 hW _ _ hL _
  have hval : ∀ (j : Nat) t v, Tryd.f9.params[j]? = some t → args[j]? = some v → Value.okWide Tryd.prog W .any base t v := hval0
  have hW' := hW
  obtain ⟨p, q, hA0, hV, rfl, hfz, hnd⟩ := hW
  have hA : DataW.TrodAll enc Tryd.prog W 0 (fun _ => true) true Tryd.f9.params.toList args.toList ds p := hA0
  rw [Tryd.params9] at hA hval
  obtain ⟨v0, vs0, d0, ds0, p0, q0, hargs, rfl, rfl, h0, r0⟩ := trodAll_cons hA
  obtain ⟨v1, vs1, d1, ds1, p1, q1, rfl, rfl, rfl, h1, r1⟩ := trodAll_cons r0
  obtain ⟨rfl, rfl, rfl⟩ := trodAll_nil r1
  obtain rfl : args = #[v0, v1] := by cases args; simp_all
  obtain ⟨rfl, rfl⟩ := trodVars_none hV
  clear hA0 hval0
  have hlt0 : ∀ x ∈ p0, x.block < W.heap.size := fun x hx => hW'.lt x (by simp [hx])
  obtain ⟨fuel0, hf0⟩ := h0
  obtain ⟨u0, l0, c0, hc0, hcl0, hll0, hu0⟩ := Go.Sym.rd_bytes Tryd.underlying22 Tryd.underlying5 one5 hf0
  have hv0 : v0 = u0 := Go.Sym.cells_slice Tryd.underlying22 (hval 0 22 v0 rfl rfl) hc0
  subst hv0
  have hlt1 : ∀ x ∈ p1, x.block < W.heap.size := fun x hx => hW'.lt x (by simp [hx])
  obtain ⟨fuel1, hf1⟩ := h1
  obtain ⟨u1, l1, c1, hc1, hcl1, hll1, hu1⟩ := Go.Sym.rd_bytes Tryd.underlying22 Tryd.underlying5 one5 hf1
  have hv1 : v1 = u1 := Go.Sym.cells_slice Tryd.underlying22 (hval 1 22 v1 rfl rfl) hc1
  subst hv1
  refine (Go.Sym.w9 W (gw_laid hL) v0 l0 c0 hu0 v1 l1 c1 hu1).mono fun e W' ⟨he, bel⟩ => ?_
  subst he
  exact ⟨_, rfl, _, _, _, [], _, [], hW', trodAll_mk1 (shut_bool Tryd.underlying4 _), (trodAll_cons_mk (Below.trod laidO (by kernel_rfl) (of_decide_eq_true (by kernel_rfl)) ⟨fuel0, hf0⟩ bel hlt0) (trodAll_cons_mk (Below.trod laidO (by kernel_rfl) (of_decide_eq_true (by kernel_rfl)) ⟨fuel1, hf1⟩ bel hlt1) trodAll_mk0)), rfl, bel.frame _, fun h => by cases h⟩

theorem over : Rows.hkdfExtractsRow.holds Tryd.pinned (OpenSpec.ofChange Rows.hkdfExtractsSpec) :=
  OpenClaim.holds_of_wide 9 Tryd.f9 rfl rfl rfl rfl rfl rfl rfl ⟨rfl, rfl, rfl, rfl, rfl⟩ rfl rfl rfl rfl rfl (by kernel_rfl) Tryd.func9 (by kernel_rfl)
    (of_decide_eq_true (by kernel_rfl)) (by unfold Func.isWrapper; first | (rw [if_pos (by decide +kernel)]; kernel_rfl) | (rw [if_neg (by decide +kernel)]; exact ⟨rfl, rfl⟩))
    (fun os started H enc _ => lifted os started H enc)

theorem proved : Rows.HkdfExtractsCardSaid :=
  Claim7.holds_tied_plain_at .later [] [.data, .data] true (true, "44e11be570e4154174cda8b964177679c33fce583db925e342de0af1715ed693") false
    over (fun _ h => by cases h) (by kernel_rfl) (fun _ h => by cases h) hkdfExtracts_row_tie rfl ⟨rfl, rfl⟩ (by kernel_rfl) rfl
    (fun f fn hf hfn => by
      obtain rfl : f = 9 := Option.some.inj ((show Tryd.prog.funcNamed "relay/relaylaw02.HkdfExtracts" = some 9 by kernel_rfl).symm.trans hf) |>.symm
      obtain rfl : fn = Tryd.f9 := (Option.some.inj (Tryd.func9.symm.trans hfn)).symm
      exact ⟨by kernel_rfl, fun j t ht => by
        rw [Tryd.params9] at ht
        have hm : t ∈ [22, 22] := by simpa using Array.mem_of_getElem? ht
        have hall : ([22, 22].all fun u => !Tryd.prog.wantsStandIn u) = true := by kernel_rfl
        exact (show Tryd.prog.wantsStandIn t = false by simpa using List.all_eq_true.1 hall t hm)⟩)
    (by kernel_rfl)
#print axioms proved
end Go.Proofs.YtmofcjjhgigkoaaDoor.hkdfExtracts
