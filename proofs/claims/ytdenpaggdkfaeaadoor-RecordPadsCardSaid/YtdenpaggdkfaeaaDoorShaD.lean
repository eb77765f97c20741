/- The same: the sum under a key of the document. -/
import Derived.Test.YtdenpaggdkfaeaaDoorShaC
namespace Go.Spec
noncomputable def padTo (key : By) (p : BitVec 8) (x : Nat) : By := (List.range 64).map fun k => if k < x then (macKey key).getD k 0 ^^^ p else 0
end Go.Spec
namespace Go.Sym
open Go.Proofs Go.Spec
set_option linter.unusedVariables false
/-- The key as it is met: itself, or its sum. -/
noncomputable def lsRm (key b : By) : LS := ⟨Nat, fun i => [(0, .rb false (macKey key) .unk), (1, .rb false b .unk), (4, .ptr 100 0 0 0), (6, .slice 101 0 1 64 .ow (.is false)), (7, .slice 102 0 1 64 .ow (.is false)), (8, .int .i64 i)],
  fun i => [(100, ⟨.cells (List.replicate 32 (.u8 0)), true, 0⟩), (101, ⟨.bytes (padTo key 0x36#8 i), true, 1⟩), (102, ⟨.bytes (padTo key 0x5c#8 i), true, 1⟩)], 1000, fun i => 64 - i, fun i => i ≤ 64, fun _ => []⟩
end Go.Sym

namespace Go.Sym
open Go.Proofs Go.Spec
set_option linter.unusedVariables false
set_option maxRecDepth 100000 in
theorem vc16 (key b : By) : bodyP Tryd.prog R5 gl0 [] [(7, lsRm key b)] 3000 Tryd.f65 0 [.rb false key .unk, .rb false b .unk] [] (retQ Tryd.prog Tryd.f65 0 ⟨[], aggB 32 (shaB (padBlock key 0x5c#8 ++ sha (padBlock key 0x36#8 ++ b))), [], []⟩) = (
let x1 := padBlock key (BitVec.ofNat 8 92) ++ sha (padBlock key (BitVec.ofNat 8 54) ++ b); let x2 := (0 : BitVec 8) = BitVec.ofNat 8 0; @Bool.rec (fun _ => Prop) (64 ≤ 64 ∧ 64 ≤ 281474976710656 ∧ 64 ≤ 9223372036854775807 ∧ 64 ≤ 64 ∧ 64 ≤ 281474976710656 ∧ 64 ≤ 9223372036854775807 ∧ (∃ (x : Nat), x.le 64 ∧ macKey key = key ∧ b = b ∧ 0 = 0 ∧ Bool.false = Bool.false ∧ 0 = 0 ∧ 0 = 0 ∧ 0 = 0 ∧ 64 = 64 ∧ Bool.false = Bool.false ∧ 0 = 0 ∧ 0 = 0 ∧ 0 = 0 ∧ 64 = 64 ∧ (↑x : Int) = (0 : Int) ∧ x2 ∧ x2 ∧ x2 ∧ x2 ∧ x2 ∧ x2 ∧ x2 ∧ x2 ∧ x2 ∧ x2 ∧ x2 ∧ x2 ∧ x2 ∧ x2 ∧ x2 ∧ x2 ∧ x2 ∧ x2 ∧ x2 ∧ x2 ∧ x2 ∧ x2 ∧ x2 ∧ x2 ∧ x2 ∧ x2 ∧ x2 ∧ x2 ∧ x2 ∧ x2 ∧ x2 ∧ x2 ∧ padTo key (BitVec.ofNat 8 54) x = List.replicate 64 (0 : BitVec 8) ∧ padTo key (BitVec.ofNat 8 92) x = List.replicate 64 (0 : BitVec 8) ∧ True) ∧ ∀ (x : Nat), let x1_1 := padTo key (BitVec.ofNat 8 92) x ++ sha (padTo key (BitVec.ofNat 8 54) x ++ b); let x2 := padTo key (BitVec.ofNat 8 54) x; x.le 64 → @Bool.rec (fun _ => Prop) (64 = List.length x2 ∧ roomFor 64 (List.length b) 1 ∧ 64 + List.length b = List.length (x2 ++ b) ∧ List.length (x2 ++ b) < 35184372088832 ∧ 64 = List.length (padTo key (BitVec.ofNat 8 92) x) ∧ roomFor 64 (List.length (sha (x2 ++ b))) 1 ∧ 64 + List.length (sha (x2 ++ b)) = List.length x1_1 ∧ List.length x1_1 < 35184372088832 ∧ shaB x1 0 = shaB x1_1 0 ∧ shaB x1 1 = shaB x1_1 1 ∧ shaB x1 2 = shaB x1_1 2 ∧ shaB x1 3 = shaB x1_1 3 ∧ shaB x1 4 = shaB x1_1 4 ∧ shaB x1 5 = shaB x1_1 5 ∧ shaB x1 6 = shaB x1_1 6 ∧ shaB x1 7 = shaB x1_1 7 ∧ shaB x1 8 = shaB x1_1 8 ∧ shaB x1 9 = shaB x1_1 9 ∧ shaB x1 10 = shaB x1_1 10 ∧ shaB x1 11 = shaB x1_1 11 ∧ shaB x1 12 = shaB x1_1 12 ∧ shaB x1 13 = shaB x1_1 13 ∧ shaB x1 14 = shaB x1_1 14 ∧ shaB x1 15 = shaB x1_1 15 ∧ shaB x1 16 = shaB x1_1 16 ∧ shaB x1 17 = shaB x1_1 17 ∧ shaB x1 18 = shaB x1_1 18 ∧ shaB x1 19 = shaB x1_1 19 ∧ shaB x1 20 = shaB x1_1 20 ∧ shaB x1 21 = shaB x1_1 21 ∧ shaB x1 22 = shaB x1_1 22 ∧ shaB x1 23 = shaB x1_1 23 ∧ shaB x1 24 = shaB x1_1 24 ∧ shaB x1 25 = shaB x1_1 25 ∧ shaB x1 26 = shaB x1_1 26 ∧ shaB x1 27 = shaB x1_1 27 ∧ shaB x1 28 = shaB x1_1 28 ∧ shaB x1 29 = shaB x1_1 29 ∧ shaB x1 30 = shaB x1_1 30 ∧ shaB x1 31 = shaB x1_1 31 ∧ True) (@Bool.rec (fun _ => Prop) ((0 : Int) ≤ (↑x : Int) ∧ (↑x : Int).toNat < 64 ∧ (↑x : Int).toNat < List.length x2 ∧ (0 : Int) ≤ (↑x : Int) ∧ (↑x : Int).toNat < 64 ∧ (↑x : Int).toNat < List.length (padTo key (BitVec.ofNat 8 92) x) ∧ ∃ (y : Nat), 64 - y < 64 - x ∧ y.le 64 ∧ macKey key = macKey key ∧ b = b ∧ 0 = 0 ∧ Bool.false = Bool.false ∧ 0 = 0 ∧ 0 = 0 ∧ 0 = 0 ∧ 64 = 64 ∧ Bool.false = Bool.false ∧ 0 = 0 ∧ 0 = 0 ∧ 0 = 0 ∧ 64 = 64 ∧ (↑y : Int) = IntKind.i64.wrap ((↑x : Int) + (1 : Int)) ∧ (0 : BitVec 8) = (0 : BitVec 8) ∧ (0 : BitVec 8) = (0 : BitVec 8) ∧ (0 : BitVec 8) = (0 : BitVec 8) ∧ (0 : BitVec 8) = (0 : BitVec 8) ∧ (0 : BitVec 8) = (0 : BitVec 8) ∧ (0 : BitVec 8) = (0 : BitVec 8) ∧ (0 : BitVec 8) = (0 : BitVec 8) ∧ (0 : BitVec 8) = (0 : BitVec 8) ∧ (0 : BitVec 8) = (0 : BitVec 8) ∧ (0 : BitVec 8) = (0 : BitVec 8) ∧ (0 : BitVec 8) = (0 : BitVec 8) ∧ (0 : BitVec 8) = (0 : BitVec 8) ∧ (0 : BitVec 8) = (0 : BitVec 8) ∧ (0 : BitVec 8) = (0 : BitVec 8) ∧ (0 : BitVec 8) = (0 : BitVec 8) ∧ (0 : BitVec 8) = (0 : BitVec 8) ∧ (0 : BitVec 8) = (0 : BitVec 8) ∧ (0 : BitVec 8) = (0 : BitVec 8) ∧ (0 : BitVec 8) = (0 : BitVec 8) ∧ (0 : BitVec 8) = (0 : BitVec 8) ∧ (0 : BitVec 8) = (0 : BitVec 8) ∧ (0 : BitVec 8) = (0 : BitVec 8) ∧ (0 : BitVec 8) = (0 : BitVec 8) ∧ (0 : BitVec 8) = (0 : BitVec 8) ∧ (0 : BitVec 8) = (0 : BitVec 8) ∧ (0 : BitVec 8) = (0 : BitVec 8) ∧ (0 : BitVec 8) = (0 : BitVec 8) ∧ (0 : BitVec 8) = (0 : BitVec 8) ∧ (0 : BitVec 8) = (0 : BitVec 8) ∧ (0 : BitVec 8) = (0 : BitVec 8) ∧ (0 : BitVec 8) = (0 : BitVec 8) ∧ (0 : BitVec 8) = (0 : BitVec 8) ∧ padTo key (BitVec.ofNat 8 54) y = List.set x2 (↑x : Int).toNat (BitVec.ofNat 8 54) ∧ padTo key (BitVec.ofNat 8 92) y = List.set (padTo key (BitVec.ofNat 8 92) x) (↑x : Int).toNat (BitVec.ofNat 8 92) ∧ True) ((0 : Int) ≤ (↑x : Int) ∧ (↑x : Int).toNat < List.length (macKey key) ∧ (0 : Int) ≤ (↑x : Int) ∧ (↑x : Int).toNat < 64 ∧ (↑x : Int).toNat < List.length x2 ∧ (0 : Int) ≤ (↑x : Int) ∧ (↑x : Int).toNat < 64 ∧ (↑x : Int).toNat < List.length (padTo key (BitVec.ofNat 8 92) x) ∧ ∃ (y : Nat), 64 - y < 64 - x ∧ y.le 64 ∧ macKey key = macKey key ∧ b = b ∧ 0 = 0 ∧ Bool.false = Bool.false ∧ 0 = 0 ∧ 0 = 0 ∧ 0 = 0 ∧ 64 = 64 ∧ Bool.false = Bool.false ∧ 0 = 0 ∧ 0 = 0 ∧ 0 = 0 ∧ 64 = 64 ∧ (↑y : Int) = IntKind.i64.wrap ((↑x : Int) + (1 : Int)) ∧ (0 : BitVec 8) = (0 : BitVec 8) ∧ (0 : BitVec 8) = (0 : BitVec 8) ∧ (0 : BitVec 8) = (0 : BitVec 8) ∧ (0 : BitVec 8) = (0 : BitVec 8) ∧ (0 : BitVec 8) = (0 : BitVec 8) ∧ (0 : BitVec 8) = (0 : BitVec 8) ∧ (0 : BitVec 8) = (0 : BitVec 8) ∧ (0 : BitVec 8) = (0 : BitVec 8) ∧ (0 : BitVec 8) = (0 : BitVec 8) ∧ (0 : BitVec 8) = (0 : BitVec 8) ∧ (0 : BitVec 8) = (0 : BitVec 8) ∧ (0 : BitVec 8) = (0 : BitVec 8) ∧ (0 : BitVec 8) = (0 : BitVec 8) ∧ (0 : BitVec 8) = (0 : BitVec 8) ∧ (0 : BitVec 8) = (0 : BitVec 8) ∧ (0 : BitVec 8) = (0 : BitVec 8) ∧ (0 : BitVec 8) = (0 : BitVec 8) ∧ (0 : BitVec 8) = (0 : BitVec 8) ∧ (0 : BitVec 8) = (0 : BitVec 8) ∧ (0 : BitVec 8) = (0 : BitVec 8) ∧ (0 : BitVec 8) = (0 : BitVec 8) ∧ (0 : BitVec 8) = (0 : BitVec 8) ∧ (0 : BitVec 8) = (0 : BitVec 8) ∧ (0 : BitVec 8) = (0 : BitVec 8) ∧ (0 : BitVec 8) = (0 : BitVec 8) ∧ (0 : BitVec 8) = (0 : BitVec 8) ∧ (0 : BitVec 8) = (0 : BitVec 8) ∧ (0 : BitVec 8) = (0 : BitVec 8) ∧ (0 : BitVec 8) = (0 : BitVec 8) ∧ (0 : BitVec 8) = (0 : BitVec 8) ∧ (0 : BitVec 8) = (0 : BitVec 8) ∧ (0 : BitVec 8) = (0 : BitVec 8) ∧ padTo key (BitVec.ofNat 8 54) y = List.set x2 (↑x : Int).toNat (List.getD (macKey key) (↑x : Int).toNat (0 : BitVec 8) ^^^ BitVec.ofNat 8 54) ∧ padTo key (BitVec.ofNat 8 92) y = List.set (padTo key (BitVec.ofNat 8 92) x) (↑x : Int).toNat (List.getD (macKey key) (↑x : Int).toNat (0 : BitVec 8) ^^^ BitVec.ofNat 8 92) ∧ True) (decide ((↑x : Int) < (↑(List.length (macKey key)) : Int)))) (decide ((↑x : Int) < (64 : Int)))) (List.length key < 35184372088832 ∧ 0 = 0 ∧ roomFor 0 (List.length (sha key)) 1 ∧ 64 ≤ 64 ∧ 64 ≤ 281474976710656 ∧ 64 ≤ 9223372036854775807 ∧ 64 ≤ 64 ∧ 64 ≤ 281474976710656 ∧ 64 ≤ 9223372036854775807 ∧ (∃ (x : Nat), x.le 64 ∧ 0 + List.length (sha key) = ([] ++ sha key).length ∧ macKey key = [] ++ sha key ∧ 0 + List.length (sha key) = List.length (macKey key) ∧ b = b ∧ 0 = 0 ∧ Bool.false = Bool.false ∧ 0 = 0 ∧ 0 = 0 ∧ 0 = 0 ∧ 64 = 64 ∧ Bool.false = Bool.false ∧ 0 = 0 ∧ 0 = 0 ∧ 0 = 0 ∧ 64 = 64 ∧ (↑x : Int) = (0 : Int) ∧ x2 ∧ x2 ∧ x2 ∧ x2 ∧ x2 ∧ x2 ∧ x2 ∧ x2 ∧ x2 ∧ x2 ∧ x2 ∧ x2 ∧ x2 ∧ x2 ∧ x2 ∧ x2 ∧ x2 ∧ x2 ∧ x2 ∧ x2 ∧ x2 ∧ x2 ∧ x2 ∧ x2 ∧ x2 ∧ x2 ∧ x2 ∧ x2 ∧ x2 ∧ x2 ∧ x2 ∧ x2 ∧ padTo key (BitVec.ofNat 8 54) x = List.replicate 64 (0 : BitVec 8) ∧ padTo key (BitVec.ofNat 8 92) x = List.replicate 64 (0 : BitVec 8) ∧ True) ∧ ∀ (x : Nat), let x1_1 := padTo key (BitVec.ofNat 8 92) x ++ sha (padTo key (BitVec.ofNat 8 54) x ++ b); let x2 := padTo key (BitVec.ofNat 8 54) x; x.le 64 → @Bool.rec (fun _ => Prop) (64 = List.length x2 ∧ roomFor 64 (List.length b) 1 ∧ 64 + List.length b = List.length (x2 ++ b) ∧ List.length (x2 ++ b) < 35184372088832 ∧ 64 = List.length (padTo key (BitVec.ofNat 8 92) x) ∧ roomFor 64 (List.length (sha (x2 ++ b))) 1 ∧ 64 + List.length (sha (x2 ++ b)) = List.length x1_1 ∧ List.length x1_1 < 35184372088832 ∧ shaB x1 0 = shaB x1_1 0 ∧ shaB x1 1 = shaB x1_1 1 ∧ shaB x1 2 = shaB x1_1 2 ∧ shaB x1 3 = shaB x1_1 3 ∧ shaB x1 4 = shaB x1_1 4 ∧ shaB x1 5 = shaB x1_1 5 ∧ shaB x1 6 = shaB x1_1 6 ∧ shaB x1 7 = shaB x1_1 7 ∧ shaB x1 8 = shaB x1_1 8 ∧ shaB x1 9 = shaB x1_1 9 ∧ shaB x1 10 = shaB x1_1 10 ∧ shaB x1 11 = shaB x1_1 11 ∧ shaB x1 12 = shaB x1_1 12 ∧ shaB x1 13 = shaB x1_1 13 ∧ shaB x1 14 = shaB x1_1 14 ∧ shaB x1 15 = shaB x1_1 15 ∧ shaB x1 16 = shaB x1_1 16 ∧ shaB x1 17 = shaB x1_1 17 ∧ shaB x1 18 = shaB x1_1 18 ∧ shaB x1 19 = shaB x1_1 19 ∧ shaB x1 20 = shaB x1_1 20 ∧ shaB x1 21 = shaB x1_1 21 ∧ shaB x1 22 = shaB x1_1 22 ∧ shaB x1 23 = shaB x1_1 23 ∧ shaB x1 24 = shaB x1_1 24 ∧ shaB x1 25 = shaB x1_1 25 ∧ shaB x1 26 = shaB x1_1 26 ∧ shaB x1 27 = shaB x1_1 27 ∧ shaB x1 28 = shaB x1_1 28 ∧ shaB x1 29 = shaB x1_1 29 ∧ shaB x1 30 = shaB x1_1 30 ∧ shaB x1 31 = shaB x1_1 31 ∧ True) (@Bool.rec (fun _ => Prop) ((0 : Int) ≤ (↑x : Int) ∧ (↑x : Int).toNat < 64 ∧ (↑x : Int).toNat < List.length x2 ∧ (0 : Int) ≤ (↑x : Int) ∧ (↑x : Int).toNat < 64 ∧ (↑x : Int).toNat < List.length (padTo key (BitVec.ofNat 8 92) x) ∧ ∃ (y : Nat), 64 - y < 64 - x ∧ y.le 64 ∧ macKey key = macKey key ∧ b = b ∧ 0 = 0 ∧ Bool.false = Bool.false ∧ 0 = 0 ∧ 0 = 0 ∧ 0 = 0 ∧ 64 = 64 ∧ Bool.false = Bool.false ∧ 0 = 0 ∧ 0 = 0 ∧ 0 = 0 ∧ 64 = 64 ∧ (↑y : Int) = IntKind.i64.wrap ((↑x : Int) + (1 : Int)) ∧ (0 : BitVec 8) = (0 : BitVec 8) ∧ (0 : BitVec 8) = (0 : BitVec 8) ∧ (0 : BitVec 8) = (0 : BitVec 8) ∧ (0 : BitVec 8) = (0 : BitVec 8) ∧ (0 : BitVec 8) = (0 : BitVec 8) ∧ (0 : BitVec 8) = (0 : BitVec 8) ∧ (0 : BitVec 8) = (0 : BitVec 8) ∧ (0 : BitVec 8) = (0 : BitVec 8) ∧ (0 : BitVec 8) = (0 : BitVec 8) ∧ (0 : BitVec 8) = (0 : BitVec 8) ∧ (0 : BitVec 8) = (0 : BitVec 8) ∧ (0 : BitVec 8) = (0 : BitVec 8) ∧ (0 : BitVec 8) = (0 : BitVec 8) ∧ (0 : BitVec 8) = (0 : BitVec 8) ∧ (0 : BitVec 8) = (0 : BitVec 8) ∧ (0 : BitVec 8) = (0 : BitVec 8) ∧ (0 : BitVec 8) = (0 : BitVec 8) ∧ (0 : BitVec 8) = (0 : BitVec 8) ∧ (0 : BitVec 8) = (0 : BitVec 8) ∧ (0 : BitVec 8) = (0 : BitVec 8) ∧ (0 : BitVec 8) = (0 : BitVec 8) ∧ (0 : BitVec 8) = (0 : BitVec 8) ∧ (0 : BitVec 8) = (0 : BitVec 8) ∧ (0 : BitVec 8) = (0 : BitVec 8) ∧ (0 : BitVec 8) = (0 : BitVec 8) ∧ (0 : BitVec 8) = (0 : BitVec 8) ∧ (0 : BitVec 8) = (0 : BitVec 8) ∧ (0 : BitVec 8) = (0 : BitVec 8) ∧ (0 : BitVec 8) = (0 : BitVec 8) ∧ (0 : BitVec 8) = (0 : BitVec 8) ∧ (0 : BitVec 8) = (0 : BitVec 8) ∧ (0 : BitVec 8) = (0 : BitVec 8) ∧ padTo key (BitVec.ofNat 8 54) y = List.set x2 (↑x : Int).toNat (BitVec.ofNat 8 54) ∧ padTo key (BitVec.ofNat 8 92) y = List.set (padTo key (BitVec.ofNat 8 92) x) (↑x : Int).toNat (BitVec.ofNat 8 92) ∧ True) ((0 : Int) ≤ (↑x : Int) ∧ (↑x : Int).toNat < List.length (macKey key) ∧ (0 : Int) ≤ (↑x : Int) ∧ (↑x : Int).toNat < 64 ∧ (↑x : Int).toNat < List.length x2 ∧ (0 : Int) ≤ (↑x : Int) ∧ (↑x : Int).toNat < 64 ∧ (↑x : Int).toNat < List.length (padTo key (BitVec.ofNat 8 92) x) ∧ ∃ (y : Nat), 64 - y < 64 - x ∧ y.le 64 ∧ macKey key = macKey key ∧ b = b ∧ 0 = 0 ∧ Bool.false = Bool.false ∧ 0 = 0 ∧ 0 = 0 ∧ 0 = 0 ∧ 64 = 64 ∧ Bool.false = Bool.false ∧ 0 = 0 ∧ 0 = 0 ∧ 0 = 0 ∧ 64 = 64 ∧ (↑y : Int) = IntKind.i64.wrap ((↑x : Int) + (1 : Int)) ∧ (0 : BitVec 8) = (0 : BitVec 8) ∧ (0 : BitVec 8) = (0 : BitVec 8) ∧ (0 : BitVec 8) = (0 : BitVec 8) ∧ (0 : BitVec 8) = (0 : BitVec 8) ∧ (0 : BitVec 8) = (0 : BitVec 8) ∧ (0 : BitVec 8) = (0 : BitVec 8) ∧ (0 : BitVec 8) = (0 : BitVec 8) ∧ (0 : BitVec 8) = (0 : BitVec 8) ∧ (0 : BitVec 8) = (0 : BitVec 8) ∧ (0 : BitVec 8) = (0 : BitVec 8) ∧ (0 : BitVec 8) = (0 : BitVec 8) ∧ (0 : BitVec 8) = (0 : BitVec 8) ∧ (0 : BitVec 8) = (0 : BitVec 8) ∧ (0 : BitVec 8) = (0 : BitVec 8) ∧ (0 : BitVec 8) = (0 : BitVec 8) ∧ (0 : BitVec 8) = (0 : BitVec 8) ∧ (0 : BitVec 8) = (0 : BitVec 8) ∧ (0 : BitVec 8) = (0 : BitVec 8) ∧ (0 : BitVec 8) = (0 : BitVec 8) ∧ (0 : BitVec 8) = (0 : BitVec 8) ∧ (0 : BitVec 8) = (0 : BitVec 8) ∧ (0 : BitVec 8) = (0 : BitVec 8) ∧ (0 : BitVec 8) = (0 : BitVec 8) ∧ (0 : BitVec 8) = (0 : BitVec 8) ∧ (0 : BitVec 8) = (0 : BitVec 8) ∧ (0 : BitVec 8) = (0 : BitVec 8) ∧ (0 : BitVec 8) = (0 : BitVec 8) ∧ (0 : BitVec 8) = (0 : BitVec 8) ∧ (0 : BitVec 8) = (0 : BitVec 8) ∧ (0 : BitVec 8) = (0 : BitVec 8) ∧ (0 : BitVec 8) = (0 : BitVec 8) ∧ (0 : BitVec 8) = (0 : BitVec 8) ∧ padTo key (BitVec.ofNat 8 54) y = List.set x2 (↑x : Int).toNat (List.getD (macKey key) (↑x : Int).toNat (0 : BitVec 8) ^^^ BitVec.ofNat 8 54) ∧ padTo key (BitVec.ofNat 8 92) y = List.set (padTo key (BitVec.ofNat 8 92) x) (↑x : Int).toNat (List.getD (macKey key) (↑x : Int).toNat (0 : BitVec 8) ^^^ BitVec.ofNat 8 92) ∧ True) (decide ((↑x : Int) < (↑(List.length (macKey key)) : Int)))) (decide ((↑x : Int) < (64 : Int)))) (decide ((64 : Int) < (↑(List.length key) : Int))) : Prop) := by kernel_rfl
end Go.Sym

namespace Go.Spec
theorem padTo_len (key : By) (p : BitVec 8) (x : Nat) : (padTo key p x).length = 64 := by simp [padTo]
theorem padTo_set (key : By) (p : BitVec 8) (x : Nat) (hx : x < 64) : (padTo key p x).set x ((macKey key).getD x 0 ^^^ p) = padTo key p (x + 1) :=
  Go.Sym.fill_row (fun k => (macKey key).getD k 0 ^^^ p) 0 64 x hx
theorem padTo_all (key : By) (p : BitVec 8) : padTo key p 64 = padBlock key p := by
  unfold padTo padBlock
  apply List.map_congr_left
  intro i hi
  rw [if_pos (by simpa using hi)]
theorem padTo_none (key : By) (p : BitVec 8) : padTo key p 0 = List.replicate 64 0 := rfl
end Go.Spec
namespace Go.Sym
open Go.Proofs Go.Spec
set_option linter.unusedVariables false
set_option linter.unusedSimpArgs false
set_option maxRecDepth 100000 in
theorem b16 (key b : By) (h1 : key.length < 17592186044416) (h2 : b.length < 17592186044416) : Must (bodyP Tryd.prog R5 gl0 [] [(7, lsRm key b)] 3000 Tryd.f65 0 [.rb false key .unk, .rb false b .unk] [] (retQ Tryd.prog Tryd.f65 0 ⟨[], aggB 32 (shaB (padBlock key 0x5c#8 ++ sha (padBlock key 0x36#8 ++ b))), [], []⟩)) := by
  constructor
  rw [vc16]
  set_option simprocs false in dsimp only
  have hsl : ∀ l : By, (sha l).length = 32 := fun l => by simp [sha]
  have noSign : ∀ x : Nat, x < 64 → IntKind.i64.wrap ((x : Int) + 1) = ((x + 1 : Nat) : Int) := fun x h => wrap_nat _ (by omega) (by omega)
  have zero : ∀ x : Nat, ¬ x < (macKey key).length → (macKey key).getD x 0 = 0 := fun x h => by
    simp only [List.getD]
    rw [List.getElem?_eq_none (by omega)]
    rfl
  have set36 : ∀ x : Nat, x < 64 → ¬ x < (macKey key).length → (padTo key 54#8 x).set x 54#8 = padTo key 54#8 (x + 1) := fun x h hn => by
    rw [← padTo_set key 54#8 x h, zero x hn]
    simp
  have set5c : ∀ x : Nat, x < 64 → ¬ x < (macKey key).length → (padTo key 92#8 x).set x 92#8 = padTo key 92#8 (x + 1) := fun x h hn => by
    rw [← padTo_set key 92#8 x h, zero x hn]
    simp
  refine brec (fun h => ?_) (fun h => ?_)
  · have hlen : 64 < key.length := by have := dlt.1 h; omega
    have hm : macKey key = sha key := if_pos hlen
    simp (decide := true) only [true_and, and_true]
    refine ⟨by omega, by rw [hsl]; unfold roomFor; omega, ⟨0, Nat.zero_le _, by simp, by rw [hm]; simp, by first | rfl | (rw [hm]; simp), rfl, rfl, rfl⟩, fun x hx => ?_⟩
    replace hx : x ≤ 64 := hx
    refine brec (fun h => ?_) (fun h => ?_)
    · replace h : x < 64 := by have := dlt.1 h; omega
      refine brec (fun h3 => ?_) (fun h3 => ?_)
      · replace h3 : x < (macKey key).length := by have := dlt.1 h3; omega
        simp only [noSign x h, Int.toNat_natCast, Int.natCast_nonneg, padTo_len, padTo_set _ _ x h, true_and, and_true]
        exact ⟨h3, h, h, h, h, x + 1, by omega, h, rfl, rfl, rfl⟩
      · replace h3 : ¬ x < (macKey key).length := by have := ndlt.1 h3; omega
        simp only [noSign x h, Int.toNat_natCast, Int.natCast_nonneg, padTo_len, set36 x h h3, set5c x h h3, true_and, and_true]
        exact ⟨h, h, h, h, x + 1, by omega, h, rfl, rfl, rfl⟩
    · replace h : x = 64 := by have := ndlt.1 h; omega
      subst h
      simp only [padTo_all, padBlock_len, hsl, List.length_append, true_and, and_true]
      refine ⟨by unfold roomFor; omega, by omega, by unfold roomFor; omega, by omega⟩
  · have hlen : ¬ 64 < key.length := by have := ndlt.1 h; omega
    have hm : macKey key = key := if_neg hlen
    simp (decide := true) only [true_and, and_true]
    refine ⟨⟨0, Nat.zero_le _, hm, rfl, rfl, rfl⟩, fun x hx => ?_⟩
    replace hx : x ≤ 64 := hx
    refine brec (fun h => ?_) (fun h => ?_)
    · replace h : x < 64 := by have := dlt.1 h; omega
      refine brec (fun h3 => ?_) (fun h3 => ?_)
      · replace h3 : x < (macKey key).length := by have := dlt.1 h3; omega
        simp only [noSign x h, Int.toNat_natCast, Int.natCast_nonneg, padTo_len, padTo_set _ _ x h, true_and, and_true]
        exact ⟨h3, h, h, h, h, x + 1, by omega, h, rfl, rfl, rfl⟩
      · replace h3 : ¬ x < (macKey key).length := by have := ndlt.1 h3; omega
        simp only [noSign x h, Int.toNat_natCast, Int.natCast_nonneg, padTo_len, set36 x h h3, set5c x h h3, true_and, and_true]
        exact ⟨h, h, h, h, x + 1, by omega, h, rfl, rfl, rfl⟩
    · replace h : x = 64 := by have := ndlt.1 h; omega
      subst h
      simp only [padTo_all, padBlock_len, hsl, List.length_append, true_and, and_true]
      refine ⟨by unfold roomFor; omega, by omega, by unfold roomFor; omega, by omega⟩
noncomputable def gRm (xs : List AV) (bs : List ABlk) : TL := match xs, bs with
  | [.rb false key .unk, .rb false b .unk], [] => .ok ⟨[key.length < 17592186044416, b.length < 17592186044416], aggB 32 (macB key b), [], []⟩
  | _, _ => .no
noncomputable def spRm : Spec := ⟨[.by0, .by0], fun _ _ => [], fun _ _ => [], gRm⟩
theorem c16 : COK Tryd.prog gl0 65 (mkF spRm) := by
  refine ctrE (fn := Tryd.f65) [] 3000 (by kernel_rfl) (by kernel_rfl) okR5 (by kernel_rfl) (fun args w => by kernel_rfl) ?_
  intro xs bs r hs ho
  simp only [spRm, gRm] at hs
  split at hs
  · simp only [TL.sel, Option.some.injEq] at hs
    subst hs
    rw [macB_eq]
    exact ⟨_, b16 _ _ (obsT_cons.1 ho).1 (obsT_one.1 (obsT_cons.1 ho).2)⟩
  · simp [TL.sel] at hs
noncomputable def R6 : Ctx := R5.add 65 (mkF spRm)
theorem okR6 : COKs Tryd.prog gl0 R6 := okR5.add c16
end Go.Sym
