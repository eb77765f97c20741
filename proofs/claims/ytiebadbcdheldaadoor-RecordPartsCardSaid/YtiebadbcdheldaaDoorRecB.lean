/- Records: what is sealed is opened again. -/
import Derived.Test.YtiebadbcdheldaaDoorRecA
namespace Go.Sym
open Go.Proofs Go.Spec
set_option linter.unusedVariables false
set_option maxRecDepth 100000 in
theorem vr19b (k iv : F8) (s : BitVec 64) (t p : Int) (b : By) : bodyP Tryd.prog J25 gl0 [] [] 3000 Tryd.f7 0 [.agg (row8 32 k ++ row8 12 iv), .u64 s, .int .i64 t, .rb false b .unk, .int .i64 p] [] (retQ Tryd.prog Tryd.f7 0 (rSb)) = (
let x1 := [BitVec.ofNat 8 23, BitVec.ofNat 8 3, BitVec.ofNat 8 3, BitVec.ofInt 8 ((IntKind.i64.wrap ((↑(0 + List.length b + [BitVec.ofInt 8 t].length + (List.replicate p.toNat (0 : BitVec 8)).length) : Int) + (16 : Int))).fdiv (Int.ofNat 256)), BitVec.ofInt 8 (IntKind.i64.wrap ((↑(0 + List.length b + [BitVec.ofInt 8 t].length + (List.replicate p.toNat (0 : BitVec 8)).length) : Int) + (16 : Int)))]; let x2 := [BitVec.ofNat 8 23, BitVec.ofNat 8 3, BitVec.ofNat 8 3, BitVec.ofInt 8 ((IntKind.i64.wrap ((↑(List.length b + [BitVec.ofInt 8 t].length + (List.replicate p.toNat (0 : BitVec 8)).length) : Int) + (16 : Int))).fdiv (Int.ofNat 256)), BitVec.ofInt 8 (IntKind.i64.wrap ((↑(List.length b + [BitVec.ofInt 8 t].length + (List.replicate p.toNat (0 : BitVec 8)).length) : Int) + (16 : Int)))]; let x3 := List.take 0 (List.replicate (IntKind.i64.wrap (IntKind.i64.wrap (IntKind.i64.wrap (IntKind.i64.wrap ((0 : Int) + (↑(List.length b) : Int)) + Int.ofNat 1) + (↑p.toNat : Int)) - Int.ofNat 0)).toNat (0 : BitVec 8)) ++ b ++ [BitVec.ofInt 8 t] ++ List.replicate p.toNat (0 : BitVec 8); let x4 := fun (i : Nat) => (rg 12 (nonB (fun (i : Nat) => (rgA k 0 32 (rg 12 iv)).getD (32 + i) (0 : BitVec 8)) s)).getD i (0 : BitVec 8); let x5 := b ++ [BitVec.ofInt 8 t] ++ List.replicate p.toNat (0 : BitVec 8); let x6 := IntKind.i64.wrap (IntKind.i64.wrap (IntKind.i64.wrap (IntKind.i64.wrap ((0 : Int) + (↑(List.length b) : Int)) + Int.ofNat 1) + (↑p.toNat : Int)) - Int.ofNat 0); let x7 := IntKind.i64.wrap (IntKind.i64.wrap (Int.ofNat 5 + (↑(x5.length + 16) : Int)) - Int.ofNat 0); let x8 := IntKind.i64.wrap (IntKind.i64.wrap (Int.ofNat 5 + (↑(x3.length + 16) : Int)) - Int.ofNat 0); let x9 := fun (i : Nat) => (rg 32 k).getD i (0 : BitVec 8); @Bool.rec (fun _ => Prop) ((1 : Int) = (1 : Int) ∧ True) (@Bool.rec (fun _ => Prop) ((1 : Int) = (1 : Int) ∧ True) (@Bool.rec (fun _ => Prop) ((1 : Int) = (1 : Int) ∧ True) (@Bool.rec (fun _ => Prop) ((0 : Int) ≤ p ∧ (0 : Int) ≤ p ∧ p.toNat ≤ p.toNat ∧ 1 * p.toNat ≤ 281474976710656 ∧ p.toNat ≤ 9223372036854775807 ∧ @Bool.rec (fun _ => Prop) (@Bool.rec (fun _ => Prop) (@Bool.rec (fun _ => Prop) (@Bool.rec (fun _ => Prop) (@Bool.rec (fun _ => Prop) ((0 : Int) ≤ (0 : Int) ∧ 0 < 3 ∧ (0 : Int) ≤ Int.ofNat 1 ∧ 1 < 3 ∧ (0 : Int) ≤ Int.ofNat 2 ∧ 2 < 3 ∧ (0 : Int) ≤ (0 : Int) ∧ 0 < 3 ∧ roomFor 0 (List.length b) 1 ∧ (0 : Int) ≤ Int.ofNat 1 ∧ 1 < 3 ∧ 1 = [BitVec.ofInt 8 t].length ∧ List.length b = List.length b ∧ roomFor (List.length b) [BitVec.ofInt 8 t].length 1 ∧ (0 : Int) ≤ Int.ofNat 2 ∧ 2 < 3 ∧ p.toNat = (List.replicate p.toNat (0 : BitVec 8)).length ∧ List.length b + [BitVec.ofInt 8 t].length = (b ++ [BitVec.ofInt 8 t]).length ∧ roomFor (List.length b + [BitVec.ofInt 8 t].length) (List.replicate p.toNat (0 : BitVec 8)).length 1 ∧ List.length b + [BitVec.ofInt 8 t].length + (List.replicate p.toNat (0 : BitVec 8)).length = x5.length ∧ 5 = x2.length ∧ x5.length + x2.length + 256 < 1099511627776 ∧ @Bool.rec (fun _ => Prop) (@Bool.rec (fun _ => Prop) (@Bool.rec (fun _ => Prop) ((0 : Int) ≤ (0 : Int) ∧ 0 < 2 ∧ (0 : Int) ≤ Int.ofNat 1 ∧ 1 < 2 ∧ (0 : Int) ≤ (0 : Int) ∧ 0 < 2 ∧ 5 = x2.length ∧ roomFor 0 x2.length 1 ∧ (0 : Int) ≤ Int.ofNat 1 ∧ 1 < 2 ∧ x5.length + 16 = List.length (sealL x9 x4 x5 x2) ∧ x2.length = x2.length ∧ roomFor x2.length (List.length (sealL x9 x4 x5 x2)) 1 ∧ (Bool.true && decide (x2.length = 0) && decide (List.length (sealL x9 x4 x5 x2) = 0)) = Bool.true ∧ (1 : Int) = (0 : Int) ∧ True) ((0 : Int) ≤ (0 : Int) ∧ 0 < 2 ∧ (0 : Int) ≤ Int.ofNat 1 ∧ 1 < 2 ∧ (0 : Int) ≤ (0 : Int) ∧ 0 ≤ 0 ∧ (0 : Int) ≤ x7 ∧ x7 < (9223372036854775808 : Int) ∧ roomFor 0 (List.replicate x7.toNat (0 : BitVec 8)).length 1 ∧ (0 : Int) ≤ (0 : Int) ∧ 0 ≤ (List.replicate x7.toNat (0 : BitVec 8)).length ∧ (0 : Int) ≤ (0 : Int) ∧ 0 < 2 ∧ 0 ≤ (List.replicate x7.toNat (0 : BitVec 8)).length ∧ 5 = x2.length ∧ 0 = (List.take 0 (List.replicate x7.toNat (0 : BitVec 8))).length ∧ roomFor 0 x2.length 1 ∧ (0 : Int) ≤ Int.ofNat 1 ∧ 1 < 2 ∧ x5.length + 16 = List.length (sealL x9 x4 x5 x2) ∧ 0 + x2.length = (List.take 0 (List.replicate x7.toNat (0 : BitVec 8)) ++ x2).length ∧ roomFor (0 + x2.length) (List.length (sealL x9 x4 x5 x2)) 1 ∧ (Bool.true && decide ((List.replicate x7.toNat (0 : BitVec 8)).length = 0) && decide (x2.length = 0) && decide (List.length (sealL x9 x4 x5 x2) = 0)) = Bool.true ∧ (1 : Int) = (0 : Int) ∧ True) (decide ((0 : Int) < x7))) False (decide (IntKind.i64.wrap (Int.ofNat 5 + (↑(x5.length + 16) : Int)) < (0 : Int)))) False (decide (IntKind.i64.wrap (Int.ofNat 5 + (↑(x5.length + 16) : Int)) < (0 : Int)))) ((0 : Int) ≤ (0 : Int) ∧ 0 < 3 ∧ (0 : Int) ≤ Int.ofNat 1 ∧ 1 < 3 ∧ (0 : Int) ≤ Int.ofNat 2 ∧ 2 < 3 ∧ (0 : Int) ≤ (0 : Int) ∧ 0 ≤ 0 ∧ (0 : Int) ≤ x6 ∧ x6 < (9223372036854775808 : Int) ∧ roomFor 0 (List.replicate x6.toNat (0 : BitVec 8)).length 1 ∧ (0 : Int) ≤ (0 : Int) ∧ 0 ≤ (List.replicate x6.toNat (0 : BitVec 8)).length ∧ (0 : Int) ≤ (0 : Int) ∧ 0 < 3 ∧ 0 ≤ (List.replicate x6.toNat (0 : BitVec 8)).length ∧ 0 = (List.take 0 (List.replicate x6.toNat (0 : BitVec 8))).length ∧ roomFor 0 (List.length b) 1 ∧ (0 : Int) ≤ Int.ofNat 1 ∧ 1 < 3 ∧ 1 = [BitVec.ofInt 8 t].length ∧ 0 + List.length b = (List.take 0 (List.replicate x6.toNat (0 : BitVec 8)) ++ b).length ∧ roomFor (0 + List.length b) [BitVec.ofInt 8 t].length 1 ∧ (0 : Int) ≤ Int.ofNat 2 ∧ 2 < 3 ∧ p.toNat = (List.replicate p.toNat (0 : BitVec 8)).length ∧ 0 + List.length b + [BitVec.ofInt 8 t].length = (List.take 0 (List.replicate x6.toNat (0 : BitVec 8)) ++ b ++ [BitVec.ofInt 8 t]).length ∧ roomFor (0 + List.length b + [BitVec.ofInt 8 t].length) (List.replicate p.toNat (0 : BitVec 8)).length 1 ∧ 0 + List.length b + [BitVec.ofInt 8 t].length + (List.replicate p.toNat (0 : BitVec 8)).length = x3.length ∧ 5 = x1.length ∧ x3.length + x1.length + 256 < 1099511627776 ∧ @Bool.rec (fun _ => Prop) (@Bool.rec (fun _ => Prop) (@Bool.rec (fun _ => Prop) ((0 : Int) ≤ (0 : Int) ∧ 0 < 2 ∧ (0 : Int) ≤ Int.ofNat 1 ∧ 1 < 2 ∧ (0 : Int) ≤ (0 : Int) ∧ 0 < 2 ∧ 5 = x1.length ∧ roomFor 0 x1.length 1 ∧ (0 : Int) ≤ Int.ofNat 1 ∧ 1 < 2 ∧ x3.length + 16 = List.length (sealL x9 x4 x3 x1) ∧ x1.length = x1.length ∧ roomFor x1.length (List.length (sealL x9 x4 x3 x1)) 1 ∧ (Bool.true && decide (x1.length = 0) && decide (List.length (sealL x9 x4 x3 x1) = 0)) = Bool.true ∧ (1 : Int) = (0 : Int) ∧ True) ((0 : Int) ≤ (0 : Int) ∧ 0 < 2 ∧ (0 : Int) ≤ Int.ofNat 1 ∧ 1 < 2 ∧ (0 : Int) ≤ (0 : Int) ∧ 0 ≤ 0 ∧ (0 : Int) ≤ x8 ∧ x8 < (9223372036854775808 : Int) ∧ roomFor 0 (List.replicate x8.toNat (0 : BitVec 8)).length 1 ∧ (0 : Int) ≤ (0 : Int) ∧ 0 ≤ (List.replicate x8.toNat (0 : BitVec 8)).length ∧ (0 : Int) ≤ (0 : Int) ∧ 0 < 2 ∧ 0 ≤ (List.replicate x8.toNat (0 : BitVec 8)).length ∧ 5 = x1.length ∧ 0 = (List.take 0 (List.replicate x8.toNat (0 : BitVec 8))).length ∧ roomFor 0 x1.length 1 ∧ (0 : Int) ≤ Int.ofNat 1 ∧ 1 < 2 ∧ x3.length + 16 = List.length (sealL x9 x4 x3 x1) ∧ 0 + x1.length = (List.take 0 (List.replicate x8.toNat (0 : BitVec 8)) ++ x1).length ∧ roomFor (0 + x1.length) (List.length (sealL x9 x4 x3 x1)) 1 ∧ (Bool.true && decide ((List.replicate x8.toNat (0 : BitVec 8)).length = 0) && decide (x1.length = 0) && decide (List.length (sealL x9 x4 x3 x1) = 0)) = Bool.true ∧ (1 : Int) = (0 : Int) ∧ True) (decide ((0 : Int) < x8))) False (decide (IntKind.i64.wrap (Int.ofNat 5 + (↑(x3.length + 16) : Int)) < (0 : Int)))) False (decide (IntKind.i64.wrap (Int.ofNat 5 + (↑(x3.length + 16) : Int)) < (0 : Int)))) (decide ((0 : Int) < x6))) False (decide (IntKind.i64.wrap (IntKind.i64.wrap (IntKind.i64.wrap ((0 : Int) + (↑(List.length b) : Int)) + Int.ofNat 1) + (↑p.toNat : Int)) < (0 : Int)))) False (decide (IntKind.i64.wrap (IntKind.i64.wrap (IntKind.i64.wrap ((0 : Int) + (↑(List.length b) : Int)) + Int.ofNat 1) + (↑p.toNat : Int)) < (0 : Int)))) False (decide (IntKind.i64.wrap (IntKind.i64.wrap ((0 : Int) + (↑(List.length b) : Int)) + Int.ofNat 1) < (0 : Int)))) False (decide (IntKind.i64.wrap ((0 : Int) + (↑(List.length b) : Int)) < (0 : Int)))) ((1 : Int) = (1 : Int) ∧ True) (decide (IntKind.i64.wrap ((256 : Int) - (↑(List.length b) : Int)) < p))) !decide (p < (0 : Int))) !!decide (t ≤ (23 : Int))) (decide ((20 : Int) ≤ t)) : Prop) := by kernel_rfl
set_option maxRecDepth 100000 in
theorem vr19g (k iv : F8) (s : BitVec 64) (t p : Int) (b M : By) (L : Nat) : bodyP Tryd.prog J25 gl0 [] [] 3000 Tryd.f7 0 [.agg (row8 32 k ++ row8 12 iv), .u64 s, .int .i64 t, .rb false b .unk, .int .i64 p] [] (retQ Tryd.prog Tryd.f7 0 (rSg L M)) = (
let x1 := [BitVec.ofNat 8 23, BitVec.ofNat 8 3, BitVec.ofNat 8 3, BitVec.ofInt 8 ((IntKind.i64.wrap ((↑(0 + List.length b + [BitVec.ofInt 8 t].length + (List.replicate p.toNat (0 : BitVec 8)).length) : Int) + (16 : Int))).fdiv (Int.ofNat 256)), BitVec.ofInt 8 (IntKind.i64.wrap ((↑(0 + List.length b + [BitVec.ofInt 8 t].length + (List.replicate p.toNat (0 : BitVec 8)).length) : Int) + (16 : Int)))]; let x2 := [BitVec.ofNat 8 23, BitVec.ofNat 8 3, BitVec.ofNat 8 3, BitVec.ofInt 8 ((IntKind.i64.wrap ((↑(List.length b + [BitVec.ofInt 8 t].length + (List.replicate p.toNat (0 : BitVec 8)).length) : Int) + (16 : Int))).fdiv (Int.ofNat 256)), BitVec.ofInt 8 (IntKind.i64.wrap ((↑(List.length b + [BitVec.ofInt 8 t].length + (List.replicate p.toNat (0 : BitVec 8)).length) : Int) + (16 : Int)))]; let x3 := List.take 0 (List.replicate (IntKind.i64.wrap (IntKind.i64.wrap (IntKind.i64.wrap (IntKind.i64.wrap ((0 : Int) + (↑(List.length b) : Int)) + Int.ofNat 1) + (↑p.toNat : Int)) - Int.ofNat 0)).toNat (0 : BitVec 8)) ++ b ++ [BitVec.ofInt 8 t] ++ List.replicate p.toNat (0 : BitVec 8); let x4 := fun (i : Nat) => (rg 12 (nonB (fun (i : Nat) => (rgA k 0 32 (rg 12 iv)).getD (32 + i) (0 : BitVec 8)) s)).getD i (0 : BitVec 8); let x5 := b ++ [BitVec.ofInt 8 t] ++ List.replicate p.toNat (0 : BitVec 8); let x6 := IntKind.i64.wrap (IntKind.i64.wrap (IntKind.i64.wrap (IntKind.i64.wrap ((0 : Int) + (↑(List.length b) : Int)) + Int.ofNat 1) + (↑p.toNat : Int)) - Int.ofNat 0); let x7 := fun (i : Nat) => (rg 32 k).getD i (0 : BitVec 8); let x8 := IntKind.i64.wrap (IntKind.i64.wrap (Int.ofNat 5 + (↑(x5.length + 16) : Int)) - Int.ofNat 0); let x9 := IntKind.i64.wrap (IntKind.i64.wrap (Int.ofNat 5 + (↑(x3.length + 16) : Int)) - Int.ofNat 0); let x10 := L = 0 ∧ (0 : Int) = (1 : Int) ∧ M = [] ∧ True; @Bool.rec (fun _ => Prop) x10 (@Bool.rec (fun _ => Prop) x10 (@Bool.rec (fun _ => Prop) x10 (@Bool.rec (fun _ => Prop) ((0 : Int) ≤ p ∧ (0 : Int) ≤ p ∧ p.toNat ≤ p.toNat ∧ 1 * p.toNat ≤ 281474976710656 ∧ p.toNat ≤ 9223372036854775807 ∧ @Bool.rec (fun _ => Prop) (@Bool.rec (fun _ => Prop) (@Bool.rec (fun _ => Prop) (@Bool.rec (fun _ => Prop) (@Bool.rec (fun _ => Prop) ((0 : Int) ≤ (0 : Int) ∧ 0 < 3 ∧ (0 : Int) ≤ Int.ofNat 1 ∧ 1 < 3 ∧ (0 : Int) ≤ Int.ofNat 2 ∧ 2 < 3 ∧ (0 : Int) ≤ (0 : Int) ∧ 0 < 3 ∧ roomFor 0 (List.length b) 1 ∧ (0 : Int) ≤ Int.ofNat 1 ∧ 1 < 3 ∧ 1 = [BitVec.ofInt 8 t].length ∧ List.length b = List.length b ∧ roomFor (List.length b) [BitVec.ofInt 8 t].length 1 ∧ (0 : Int) ≤ Int.ofNat 2 ∧ 2 < 3 ∧ p.toNat = (List.replicate p.toNat (0 : BitVec 8)).length ∧ List.length b + [BitVec.ofInt 8 t].length = (b ++ [BitVec.ofInt 8 t]).length ∧ roomFor (List.length b + [BitVec.ofInt 8 t].length) (List.replicate p.toNat (0 : BitVec 8)).length 1 ∧ List.length b + [BitVec.ofInt 8 t].length + (List.replicate p.toNat (0 : BitVec 8)).length = x5.length ∧ 5 = x2.length ∧ x5.length + x2.length + 256 < 1099511627776 ∧ @Bool.rec (fun _ => Prop) (@Bool.rec (fun _ => Prop) (@Bool.rec (fun _ => Prop) ((0 : Int) ≤ (0 : Int) ∧ 0 < 2 ∧ (0 : Int) ≤ Int.ofNat 1 ∧ 1 < 2 ∧ (0 : Int) ≤ (0 : Int) ∧ 0 < 2 ∧ 5 = x2.length ∧ roomFor 0 x2.length 1 ∧ (0 : Int) ≤ Int.ofNat 1 ∧ 1 < 2 ∧ x5.length + 16 = List.length (sealL x7 x4 x5 x2) ∧ x2.length = x2.length ∧ roomFor x2.length (List.length (sealL x7 x4 x5 x2)) 1 ∧ 0 = 0 ∧ 0 = 0 ∧ 0 = 0 ∧ L = x2.length + List.length (sealL x7 x4 x5 x2) ∧ (0 : Int) = (0 : Int) ∧ M = x2 ++ sealL x7 x4 x5 x2 ∧ True) ((0 : Int) ≤ (0 : Int) ∧ 0 < 2 ∧ (0 : Int) ≤ Int.ofNat 1 ∧ 1 < 2 ∧ (0 : Int) ≤ (0 : Int) ∧ 0 ≤ 0 ∧ (0 : Int) ≤ x8 ∧ x8 < (9223372036854775808 : Int) ∧ roomFor 0 (List.replicate x8.toNat (0 : BitVec 8)).length 1 ∧ (0 : Int) ≤ (0 : Int) ∧ 0 ≤ (List.replicate x8.toNat (0 : BitVec 8)).length ∧ (0 : Int) ≤ (0 : Int) ∧ 0 < 2 ∧ 0 ≤ (List.replicate x8.toNat (0 : BitVec 8)).length ∧ 5 = x2.length ∧ 0 = (List.take 0 (List.replicate x8.toNat (0 : BitVec 8))).length ∧ roomFor 0 x2.length 1 ∧ (0 : Int) ≤ Int.ofNat 1 ∧ 1 < 2 ∧ x5.length + 16 = List.length (sealL x7 x4 x5 x2) ∧ 0 + x2.length = (List.take 0 (List.replicate x8.toNat (0 : BitVec 8)) ++ x2).length ∧ roomFor (0 + x2.length) (List.length (sealL x7 x4 x5 x2)) 1 ∧ 0 = 0 ∧ 0 = 0 ∧ 0 = 0 ∧ L = 0 + x2.length + List.length (sealL x7 x4 x5 x2) ∧ (0 : Int) = (0 : Int) ∧ M = List.take 0 (List.replicate x8.toNat (0 : BitVec 8)) ++ x2 ++ sealL x7 x4 x5 x2 ∧ True) (decide ((0 : Int) < x8))) False (decide (IntKind.i64.wrap (Int.ofNat 5 + (↑(x5.length + 16) : Int)) < (0 : Int)))) False (decide (IntKind.i64.wrap (Int.ofNat 5 + (↑(x5.length + 16) : Int)) < (0 : Int)))) ((0 : Int) ≤ (0 : Int) ∧ 0 < 3 ∧ (0 : Int) ≤ Int.ofNat 1 ∧ 1 < 3 ∧ (0 : Int) ≤ Int.ofNat 2 ∧ 2 < 3 ∧ (0 : Int) ≤ (0 : Int) ∧ 0 ≤ 0 ∧ (0 : Int) ≤ x6 ∧ x6 < (9223372036854775808 : Int) ∧ roomFor 0 (List.replicate x6.toNat (0 : BitVec 8)).length 1 ∧ (0 : Int) ≤ (0 : Int) ∧ 0 ≤ (List.replicate x6.toNat (0 : BitVec 8)).length ∧ (0 : Int) ≤ (0 : Int) ∧ 0 < 3 ∧ 0 ≤ (List.replicate x6.toNat (0 : BitVec 8)).length ∧ 0 = (List.take 0 (List.replicate x6.toNat (0 : BitVec 8))).length ∧ roomFor 0 (List.length b) 1 ∧ (0 : Int) ≤ Int.ofNat 1 ∧ 1 < 3 ∧ 1 = [BitVec.ofInt 8 t].length ∧ 0 + List.length b = (List.take 0 (List.replicate x6.toNat (0 : BitVec 8)) ++ b).length ∧ roomFor (0 + List.length b) [BitVec.ofInt 8 t].length 1 ∧ (0 : Int) ≤ Int.ofNat 2 ∧ 2 < 3 ∧ p.toNat = (List.replicate p.toNat (0 : BitVec 8)).length ∧ 0 + List.length b + [BitVec.ofInt 8 t].length = (List.take 0 (List.replicate x6.toNat (0 : BitVec 8)) ++ b ++ [BitVec.ofInt 8 t]).length ∧ roomFor (0 + List.length b + [BitVec.ofInt 8 t].length) (List.replicate p.toNat (0 : BitVec 8)).length 1 ∧ 0 + List.length b + [BitVec.ofInt 8 t].length + (List.replicate p.toNat (0 : BitVec 8)).length = x3.length ∧ 5 = x1.length ∧ x3.length + x1.length + 256 < 1099511627776 ∧ @Bool.rec (fun _ => Prop) (@Bool.rec (fun _ => Prop) (@Bool.rec (fun _ => Prop) ((0 : Int) ≤ (0 : Int) ∧ 0 < 2 ∧ (0 : Int) ≤ Int.ofNat 1 ∧ 1 < 2 ∧ (0 : Int) ≤ (0 : Int) ∧ 0 < 2 ∧ 5 = x1.length ∧ roomFor 0 x1.length 1 ∧ (0 : Int) ≤ Int.ofNat 1 ∧ 1 < 2 ∧ x3.length + 16 = List.length (sealL x7 x4 x3 x1) ∧ x1.length = x1.length ∧ roomFor x1.length (List.length (sealL x7 x4 x3 x1)) 1 ∧ 0 = 0 ∧ 0 = 0 ∧ 0 = 0 ∧ L = x1.length + List.length (sealL x7 x4 x3 x1) ∧ (0 : Int) = (0 : Int) ∧ M = x1 ++ sealL x7 x4 x3 x1 ∧ True) ((0 : Int) ≤ (0 : Int) ∧ 0 < 2 ∧ (0 : Int) ≤ Int.ofNat 1 ∧ 1 < 2 ∧ (0 : Int) ≤ (0 : Int) ∧ 0 ≤ 0 ∧ (0 : Int) ≤ x9 ∧ x9 < (9223372036854775808 : Int) ∧ roomFor 0 (List.replicate x9.toNat (0 : BitVec 8)).length 1 ∧ (0 : Int) ≤ (0 : Int) ∧ 0 ≤ (List.replicate x9.toNat (0 : BitVec 8)).length ∧ (0 : Int) ≤ (0 : Int) ∧ 0 < 2 ∧ 0 ≤ (List.replicate x9.toNat (0 : BitVec 8)).length ∧ 5 = x1.length ∧ 0 = (List.take 0 (List.replicate x9.toNat (0 : BitVec 8))).length ∧ roomFor 0 x1.length 1 ∧ (0 : Int) ≤ Int.ofNat 1 ∧ 1 < 2 ∧ x3.length + 16 = List.length (sealL x7 x4 x3 x1) ∧ 0 + x1.length = (List.take 0 (List.replicate x9.toNat (0 : BitVec 8)) ++ x1).length ∧ roomFor (0 + x1.length) (List.length (sealL x7 x4 x3 x1)) 1 ∧ 0 = 0 ∧ 0 = 0 ∧ 0 = 0 ∧ L = 0 + x1.length + List.length (sealL x7 x4 x3 x1) ∧ (0 : Int) = (0 : Int) ∧ M = List.take 0 (List.replicate x9.toNat (0 : BitVec 8)) ++ x1 ++ sealL x7 x4 x3 x1 ∧ True) (decide ((0 : Int) < x9))) False (decide (IntKind.i64.wrap (Int.ofNat 5 + (↑(x3.length + 16) : Int)) < (0 : Int)))) False (decide (IntKind.i64.wrap (Int.ofNat 5 + (↑(x3.length + 16) : Int)) < (0 : Int)))) (decide ((0 : Int) < x6))) False (decide (IntKind.i64.wrap (IntKind.i64.wrap (IntKind.i64.wrap ((0 : Int) + (↑(List.length b) : Int)) + Int.ofNat 1) + (↑p.toNat : Int)) < (0 : Int)))) False (decide (IntKind.i64.wrap (IntKind.i64.wrap (IntKind.i64.wrap ((0 : Int) + (↑(List.length b) : Int)) + Int.ofNat 1) + (↑p.toNat : Int)) < (0 : Int)))) False (decide (IntKind.i64.wrap (IntKind.i64.wrap ((0 : Int) + (↑(List.length b) : Int)) + Int.ofNat 1) < (0 : Int)))) False (decide (IntKind.i64.wrap ((0 : Int) + (↑(List.length b) : Int)) < (0 : Int)))) x10 (decide (IntKind.i64.wrap ((256 : Int) - (↑(List.length b) : Int)) < p))) !decide (p < (0 : Int))) !!decide (t ≤ (23 : Int))) (decide ((20 : Int) ≤ t)) : Prop) := by kernel_rfl
end Go.Sym

namespace Go.Spec
/-- Can there be no such record? -/
def recBad (t p : Int) (n : Nat) : Bool := !isT t || decide (p < 0) || decide ((256 : Int) - n < p)
def recI (t p : Int) (b : By) : By := b ++ [BitVec.ofInt 8 t] ++ List.replicate p.toNat 0
noncomputable def recS (k iv : F8) (s : BitVec 64) (t p : Int) (b : By) : By := headB (BitVec.ofNat 8 23) (((recI t p b).length + 16 : Nat) : Int) ++ sealL (kk k) (nn k iv s) (recI t p b) (headB (BitVec.ofNat 8 23) (((recI t p b).length + 16 : Nat) : Int))
theorem recI_length (t : Int) (P : Nat) (b : By) : (recI t P b).length = b.length + 1 + P := by simp [recI]; omega
theorem recS_length (k iv : F8) (s : BitVec 64) (t : Int) (P : Nat) (b : By) : (recS k iv s t P b).length = 5 + (b.length + 1 + P + 16) := by
  unfold recS
  rw [List.length_append, sealL_length, recI_length]
  simp [headB]
theorem recBad_f {t p : Int} {n : Nat} (h : recBad t p n = false) : 20 ≤ t ∧ t ≤ 23 ∧ 0 ≤ p ∧ p ≤ 256 - n := by
  unfold recBad isT at h
  simp at h
  omega
end Go.Spec
namespace Go.Sym
open Go.Proofs Go.Spec
set_option linter.unusedVariables false
set_option linter.unusedSimpArgs false
set_option maxRecDepth 100000 in
theorem br19g (k iv : F8) (s : BitVec 64) (t p : Int) (b : By) (h : recBad t p b.length = false) : Must (bodyP Tryd.prog J25 gl0 [] [] 3000 Tryd.f7 0 [.agg (row8 32 k ++ row8 12 iv), .u64 s, .int .i64 t, .rb false b .unk, .int .i64 p] [] (retQ Tryd.prog Tryd.f7 0 (rSg (recS k iv s t p b).length (recS k iv s t p b)))) := by
  constructor
  rw [vr19g]
  obtain ⟨h1, h2, h3, h4⟩ := recBad_f h
  obtain ⟨P, rfl⟩ : ∃ P : Nat, p = P := ⟨p.toNat, by omega⟩
  have hI := recI_length t P b
  have hS := recS_length k iv s t P b
  have eI : b ++ [BitVec.ofInt 8 t] ++ List.replicate P (0 : BitVec 8) = recI t P b := by simp [recI]
  have l1 : [BitVec.ofInt 8 t].length = 1 := rfl
  have w1 : IntKind.i64.wrap ((0 : Int) + (b.length : Int)) = (b.length : Int) := wrap_nat _ (by omega) (by omega)
  have w2 : IntKind.i64.wrap ((b.length : Int) + Int.ofNat 1) = ((b.length + 1 : Nat) : Int) := wrap_nat _ (by rw [show Int.ofNat 1 = (1 : Int) from rfl]; omega) (by omega)
  have w3 : IntKind.i64.wrap (((b.length + 1 : Nat) : Int) + (P : Int)) = ((b.length + 1 + P : Nat) : Int) := wrap_nat _ (by omega) (by omega)
  have w4 : IntKind.i64.wrap (((b.length + 1 + P : Nat) : Int) - Int.ofNat 0) = ((b.length + 1 + P : Nat) : Int) := wrap_nat _ (by rw [show Int.ofNat 0 = (0 : Int) from rfl]; omega) (by omega)
  have w5 : IntKind.i64.wrap (((b.length + 1 + P : Nat) : Int) + (16 : Int)) = ((b.length + 1 + P + 16 : Nat) : Int) := wrap_nat _ (by omega) (by omega)
  have w6 : IntKind.i64.wrap (Int.ofNat 5 + ((b.length + 1 + P + 16 : Nat) : Int)) = ((5 + (b.length + 1 + P + 16) : Nat) : Int) := wrap_nat _ (by rw [show Int.ofNat 5 = (5 : Int) from rfl]; omega) (by omega)
  have w7 : IntKind.i64.wrap (((5 + (b.length + 1 + P + 16) : Nat) : Int) - Int.ofNat 0) = ((5 + (b.length + 1 + P + 16) : Nat) : Int) := wrap_nat _ (by rw [show Int.ofNat 0 = (0 : Int) from rfl]; omega) (by omega)
  have w8 : IntKind.i64.wrap ((256 : Int) - (b.length : Int)) = (256 : Int) - b.length := wrap_i64 (by omega) (by omega)
  set_option simprocs false in simp only [Int.toNat_natCast, List.take_zero, List.nil_append, Nat.zero_add, w1, w2, w3, w4, l1, List.length_replicate, eI, w5, w8, hI, w6, w7]
  have d0 : ∀ m : Nat, decide ((m : Int) < 0) = false := fun m => decide_eq_false (by omega)
  have d1 : decide ((256 : Int) - (b.length : Int) < (P : Int)) = false := decide_eq_false (by omega)
  have d2 : decide ((0 : Int) < ((b.length + 1 + P : Nat) : Int)) = true := decide_eq_true (by omega)
  have d3 : decide ((0 : Int) < ((5 + (b.length + 1 + P + 16) : Nat) : Int)) = true := decide_eq_true (by omega)
  rw [decide_eq_true h1, decide_eq_true h2, d1, d2, d3]
  simp only [d0]
  have eS : recS k iv s t P b = headB (BitVec.ofNat 8 23) ((b.length + 1 + P + 16 : Nat) : Int) ++ sealL (kk k) (nn k iv s) (recI t P b) (headB (BitVec.ofNat 8 23) ((b.length + 1 + P + 16 : Nat) : Int)) := by
    unfold recS
    rw [hI]
  set_option simprocs false in simp only [Bool.not_true, Bool.not_false]
  and_intros <;> first | exact True.intro | omega | exact Int.natCast_nonneg _ | exact rfl | exact eS | (simp only [List.length_append, List.length_cons, List.length_nil]; done) | (simp only [sealL_length, hI]; done) | (rw [hS, sealL_length, hI]; simp only [List.length_cons, List.length_nil]; done) | (unfold roomFor; simp only [sealL_length, hI, List.length_cons, List.length_nil]; omega) | (simp only [List.length_cons, List.length_nil]; omega) | (unfold roomFor; omega)
theorem recBad_1 {t p : Int} {n : Nat} (h : ¬ 20 ≤ t) : recBad t p n = true := by simp [recBad, isT, h]
theorem recBad_2 {t p : Int} {n : Nat} (h : ¬ t ≤ 23) : recBad t p n = true := by simp [recBad, isT, h]
theorem recBad_3 {t p : Int} {n : Nat} (h : p < 0) : recBad t p n = true := by simp [recBad, h]
theorem recBad_4 {t p : Int} {n : Nat} (h : (256 : Int) - n < p) : recBad t p n = true := by simp [recBad, h]
theorem recBad_no {t p : Int} {n : Nat} (h1 : 20 ≤ t) (h2 : t ≤ 23) (h3 : ¬ p < 0) (h4 : ¬ (256 : Int) - n < p) : recBad t p n = false := by simp [recBad, isT, h1, h2, h3, h4]
theorem br19b (k iv : F8) (s : BitVec 64) (t p : Int) (b : By) (hb : b.length < 549755813888) (h : recBad t p b.length = true) : Must (bodyP Tryd.prog J25 gl0 [] [] 3000 Tryd.f7 0 [.agg (row8 32 k ++ row8 12 iv), .u64 s, .int .i64 t, .rb false b .unk, .int .i64 p] [] (retQ Tryd.prog Tryd.f7 0 rSb)) := by
  constructor
  rw [vr19b]
  have w8 : IntKind.i64.wrap ((256 : Int) - (b.length : Int)) = (256 : Int) - b.length := wrap_i64 (by omega) (by omega)
  set_option simprocs false in simp only [w8]
  refine brec (fun c1 => ?_) (fun c1 => ?_)
  · refine brec (fun c2 => ?_) (fun c2 => ?_)
    · refine brec (fun c3 => ?_) (fun c3 => ?_)
      · refine brec (fun c4 => ?_) (fun c4 => ?_)
        · simp
        · exfalso
          have c1 := of_decide_eq_true c1
          have c2 : t ≤ 23 := by simpa using c2
          have c3 : ¬ p < 0 := by simpa using c3
          have c4 := of_decide_eq_false c4
          rw [recBad_no c1 c2 c3 c4] at h
          cases h
      · simp
    · simp
  · simp
end Go.Sym

namespace Go.Sym
open Go.Proofs Go.Spec
set_option linter.unusedVariables false
set_option linter.unusedSimpArgs false
noncomputable def gr19 (xs : List AV) (bs : List ABlk) : TL := match xs, bs with
  | [.agg ks, .u64 s, .int .i64 t, .rb false b .unk, .int .i64 p], [] => asK ks fun k iv => .br (recBad t p b.length) (.ok ⟨[b.length < 549755813888], .tup [.nils, .int .i64 1], [], []⟩)
      (.ok ⟨[], .tup [.slice 0 0 1 (recS k iv s t p b).length .ow .unk, .int .i64 0], [], [⟨.bytes (recS k iv s t p b), true, 1⟩]⟩)
  | _, _ => .no
noncomputable def spr19 : Spec := ⟨[.kp, .kp, .kp, .by0, .kp], fun _ _ => [], fun _ _ => [], gr19⟩
noncomputable def gr21 (xs : List AV) (bs : List ABlk) : TL := match xs, bs with
  | [.agg ks, .u64 s, .int .i64 t, .rb false b .unk, .int .i64 p], [] => asK ks fun k iv => .br (recBad t p b.length) (.ok ⟨[b.length < 549755813888], .tup [.nils, .bool false], [], []⟩)
      (.ok ⟨[], .tup [.slice 0 0 1 (recS k iv s t p b).length .ow .unk, .bool true], [], [⟨.bytes (recS k iv s t p b), true, 1⟩]⟩)
  | _, _ => .no
noncomputable def spr21 : Spec := ⟨[.kp, .kp, .kp, .by0, .kp], fun _ _ => [], fun _ _ => [], gr21⟩
theorem cr19 : COK Tryd.prog gl0 7 (mkF spr19) := by
  refine ctrE (fn := Tryd.f7) [] 3000 (by kernel_rfl) (by kernel_rfl) okJ25 (by kernel_rfl) (fun args w => by kernel_rfl) fun xs bs r hs ho => ?_
  simp only [spr19, gr19] at hs
  split at hs
  · rename_i ks s t b p
    obtain ⟨k, iv, e, hs⟩ := asK_sel hs
    rw [e]
    cases h : recBad t p b.length
    · simp only [h, TL.sel, Option.some.injEq] at hs
      subst hs
      exact ⟨_, br19g k iv _ _ _ _ h⟩
    · simp only [h, TL.sel, Option.some.injEq] at hs
      subst hs
      exact ⟨_, br19b k iv _ _ _ _ (obsT_one.1 ho) h⟩
  · simp [TL.sel] at hs
noncomputable def J19 : Ctx := J25.add 7 (mkF spr19)
noncomputable def J21 : Ctx := J19
theorem okJ21 : COKs Tryd.prog gl0 J21 := okJ25.add cr19
noncomputable def J22 : Ctx := J21.exe Tryd.prog gl0 [] 3000 Tryd.f10.params.size 10 Tryd.f10
theorem okJ22 : COKs Tryd.prog gl0 J22 := okJ21.exe [] 3000 _ (by kernel_rfl) (by kernel_rfl) (by kernel_rfl) (fun args w => by kernel_rfl)
noncomputable def J23 : Ctx := J22.exe Tryd.prog gl0 [] 3000 Tryd.f11.params.size 11 Tryd.f11
theorem okJ23 : COKs Tryd.prog gl0 J23 := okJ22.exe [] 3000 _ (by kernel_rfl) (by kernel_rfl) (by kernel_rfl) (fun args w => by kernel_rfl)
end Go.Sym

namespace Go.Sym
open Go.Proofs Go.Spec
set_option linter.unusedVariables false
set_option maxRecDepth 100000 in
theorem vr12  : bodyP Tryd.prog J23 gl0 [] [] 3000 Tryd.f12 0 [] [] (retQ Tryd.prog Tryd.f12 0 ⟨[], .bool true, [], []⟩) = (
(fun (x1 : List (BitVec 8)) => (fun (x2 : By) => (fun (x3 : Bool) => 2 = 2 ∧
 5 = 5 ∧
 roomFor 5 2 1 ∧
 32 ≤ 32 ∧
 12 ≤ 32 ∧
 0 < 2 ∧
 0 < 2 ∧
 2 = 2 ∧
 5 ≤ 27 ∧
 @Bool.rec (fun _ => Prop) (27 ≤ 27 ∧
 22 < 549755813888 ∧
 7 = 7 ∧
 @Bool.rec (fun _ => Prop) (Bool.true = Bool.false ∧
 True) (Bool.true = Bool.false ∧
 True) x3) (27 ≤ 27 ∧
 22 < 549755813888 ∧
 7 = 7 ∧
 @Bool.rec (fun _ => Prop) (Bool.true = Bool.false ∧
 True) (0 + (trimN (BitVec.ofNat 8 0) x2 - 1) ≤ List.length x2 ∧
 Bool.true = decide (List.take (trimN (BitVec.ofNat 8 0) x2 - 1) x2 = [BitVec.ofNat 8 104, BitVec.ofNat 8 105]) ∧
 True) (decide (lastT x2 = (23 : Int)))) x3) (decide (recE (fun (i : Nat) => x1.getD i (0 : BitVec 8)) (fun (i : Nat) => x1.getD (32 + i) (0 : BitVec 8)) (BitVec.ofNat 64 5) (List.take 22 (List.drop 5 (recS (fun (i : Nat) => x1.getD i (0 : BitVec 8)) (fun (i : Nat) => x1.getD (32 + i) (0 : BitVec 8)) (BitVec.ofNat 64 5) (23 : Int) (3 : Int) [BitVec.ofNat 8 104, BitVec.ofNat 8 105]))) = (0 : Int)))) (opM (fun (i : Nat) => x1.getD i (0 : BitVec 8)) (fun (i : Nat) => x1.getD (32 + i) (0 : BitVec 8)) (BitVec.ofNat 64 5) (List.take 22 (List.drop 5 (recS (fun (i : Nat) => x1.getD i (0 : BitVec 8)) (fun (i : Nat) => x1.getD (32 + i) (0 : BitVec 8)) (BitVec.ofNat 64 5) (23 : Int) (3 : Int) [BitVec.ofNat 8 104, BitVec.ofNat 8 105]))))) [if 0 < 32 then (List.take 32 (hkT (BitVec.ofNat 8 1 :: List.replicate 31 (BitVec.ofNat 8 0)) (labInfo [BitVec.ofNat 8 107, BitVec.ofNat 8 101, BitVec.ofNat 8 121] [] (32 : Int)) 1)).getD 0 (0 : BitVec 8) else BitVec.ofNat 8 0, if 1 < 32 then (List.take 32 (hkT (BitVec.ofNat 8 1 :: List.replicate 31 (BitVec.ofNat 8 0)) (labInfo [BitVec.ofNat 8 107, BitVec.ofNat 8 101, BitVec.ofNat 8 121] [] (32 : Int)) 1)).getD 1 (0 : BitVec 8) else BitVec.ofNat 8 0, if 2 < 32 then (List.take 32 (hkT (BitVec.ofNat 8 1 :: List.replicate 31 (BitVec.ofNat 8 0)) (labInfo [BitVec.ofNat 8 107, BitVec.ofNat 8 101, BitVec.ofNat 8 121] [] (32 : Int)) 1)).getD 2 (0 : BitVec 8) else BitVec.ofNat 8 0, if 3 < 32 then (List.take 32 (hkT (BitVec.ofNat 8 1 :: List.replicate 31 (BitVec.ofNat 8 0)) (labInfo [BitVec.ofNat 8 107, BitVec.ofNat 8 101, BitVec.ofNat 8 121] [] (32 : Int)) 1)).getD 3 (0 : BitVec 8) else BitVec.ofNat 8 0, if 4 < 32 then (List.take 32 (hkT (BitVec.ofNat 8 1 :: List.replicate 31 (BitVec.ofNat 8 0)) (labInfo [BitVec.ofNat 8 107, BitVec.ofNat 8 101, BitVec.ofNat 8 121] [] (32 : Int)) 1)).getD 4 (0 : BitVec 8) else BitVec.ofNat 8 0, if 5 < 32 then (List.take 32 (hkT (BitVec.ofNat 8 1 :: List.replicate 31 (BitVec.ofNat 8 0)) (labInfo [BitVec.ofNat 8 107, BitVec.ofNat 8 101, BitVec.ofNat 8 121] [] (32 : Int)) 1)).getD 5 (0 : BitVec 8) else BitVec.ofNat 8 0, if 6 < 32 then (List.take 32 (hkT (BitVec.ofNat 8 1 :: List.replicate 31 (BitVec.ofNat 8 0)) (labInfo [BitVec.ofNat 8 107, BitVec.ofNat 8 101, BitVec.ofNat 8 121] [] (32 : Int)) 1)).getD 6 (0 : BitVec 8) else BitVec.ofNat 8 0, if 7 < 32 then (List.take 32 (hkT (BitVec.ofNat 8 1 :: List.replicate 31 (BitVec.ofNat 8 0)) (labInfo [BitVec.ofNat 8 107, BitVec.ofNat 8 101, BitVec.ofNat 8 121] [] (32 : Int)) 1)).getD 7 (0 : BitVec 8) else BitVec.ofNat 8 0, if 8 < 32 then (List.take 32 (hkT (BitVec.ofNat 8 1 :: List.replicate 31 (BitVec.ofNat 8 0)) (labInfo [BitVec.ofNat 8 107, BitVec.ofNat 8 101, BitVec.ofNat 8 121] [] (32 : Int)) 1)).getD 8 (0 : BitVec 8) else BitVec.ofNat 8 0, if 9 < 32 then (List.take 32 (hkT (BitVec.ofNat 8 1 :: List.replicate 31 (BitVec.ofNat 8 0)) (labInfo [BitVec.ofNat 8 107, BitVec.ofNat 8 101, BitVec.ofNat 8 121] [] (32 : Int)) 1)).getD 9 (0 : BitVec 8) else BitVec.ofNat 8 0, if 10 < 32 then (List.take 32 (hkT (BitVec.ofNat 8 1 :: List.replicate 31 (BitVec.ofNat 8 0)) (labInfo [BitVec.ofNat 8 107, BitVec.ofNat 8 101, BitVec.ofNat 8 121] [] (32 : Int)) 1)).getD 10 (0 : BitVec 8) else BitVec.ofNat 8 0, if 11 < 32 then (List.take 32 (hkT (BitVec.ofNat 8 1 :: List.replicate 31 (BitVec.ofNat 8 0)) (labInfo [BitVec.ofNat 8 107, BitVec.ofNat 8 101, BitVec.ofNat 8 121] [] (32 : Int)) 1)).getD 11 (0 : BitVec 8) else BitVec.ofNat 8 0, if 12 < 32 then (List.take 32 (hkT (BitVec.ofNat 8 1 :: List.replicate 31 (BitVec.ofNat 8 0)) (labInfo [BitVec.ofNat 8 107, BitVec.ofNat 8 101, BitVec.ofNat 8 121] [] (32 : Int)) 1)).getD 12 (0 : BitVec 8) else BitVec.ofNat 8 0, if 13 < 32 then (List.take 32 (hkT (BitVec.ofNat 8 1 :: List.replicate 31 (BitVec.ofNat 8 0)) (labInfo [BitVec.ofNat 8 107, BitVec.ofNat 8 101, BitVec.ofNat 8 121] [] (32 : Int)) 1)).getD 13 (0 : BitVec 8) else BitVec.ofNat 8 0, if 14 < 32 then (List.take 32 (hkT (BitVec.ofNat 8 1 :: List.replicate 31 (BitVec.ofNat 8 0)) (labInfo [BitVec.ofNat 8 107, BitVec.ofNat 8 101, BitVec.ofNat 8 121] [] (32 : Int)) 1)).getD 14 (0 : BitVec 8) else BitVec.ofNat 8 0, if 15 < 32 then (List.take 32 (hkT (BitVec.ofNat 8 1 :: List.replicate 31 (BitVec.ofNat 8 0)) (labInfo [BitVec.ofNat 8 107, BitVec.ofNat 8 101, BitVec.ofNat 8 121] [] (32 : Int)) 1)).getD 15 (0 : BitVec 8) else BitVec.ofNat 8 0, if 16 < 32 then (List.take 32 (hkT (BitVec.ofNat 8 1 :: List.replicate 31 (BitVec.ofNat 8 0)) (labInfo [BitVec.ofNat 8 107, BitVec.ofNat 8 101, BitVec.ofNat 8 121] [] (32 : Int)) 1)).getD 16 (0 : BitVec 8) else BitVec.ofNat 8 0, if 17 < 32 then (List.take 32 (hkT (BitVec.ofNat 8 1 :: List.replicate 31 (BitVec.ofNat 8 0)) (labInfo [BitVec.ofNat 8 107, BitVec.ofNat 8 101, BitVec.ofNat 8 121] [] (32 : Int)) 1)).getD 17 (0 : BitVec 8) else BitVec.ofNat 8 0, if 18 < 32 then (List.take 32 (hkT (BitVec.ofNat 8 1 :: List.replicate 31 (BitVec.ofNat 8 0)) (labInfo [BitVec.ofNat 8 107, BitVec.ofNat 8 101, BitVec.ofNat 8 121] [] (32 : Int)) 1)).getD 18 (0 : BitVec 8) else BitVec.ofNat 8 0, if 19 < 32 then (List.take 32 (hkT (BitVec.ofNat 8 1 :: List.replicate 31 (BitVec.ofNat 8 0)) (labInfo [BitVec.ofNat 8 107, BitVec.ofNat 8 101, BitVec.ofNat 8 121] [] (32 : Int)) 1)).getD 19 (0 : BitVec 8) else BitVec.ofNat 8 0, if 20 < 32 then (List.take 32 (hkT (BitVec.ofNat 8 1 :: List.replicate 31 (BitVec.ofNat 8 0)) (labInfo [BitVec.ofNat 8 107, BitVec.ofNat 8 101, BitVec.ofNat 8 121] [] (32 : Int)) 1)).getD 20 (0 : BitVec 8) else BitVec.ofNat 8 0, if 21 < 32 then (List.take 32 (hkT (BitVec.ofNat 8 1 :: List.replicate 31 (BitVec.ofNat 8 0)) (labInfo [BitVec.ofNat 8 107, BitVec.ofNat 8 101, BitVec.ofNat 8 121] [] (32 : Int)) 1)).getD 21 (0 : BitVec 8) else BitVec.ofNat 8 0, if 22 < 32 then (List.take 32 (hkT (BitVec.ofNat 8 1 :: List.replicate 31 (BitVec.ofNat 8 0)) (labInfo [BitVec.ofNat 8 107, BitVec.ofNat 8 101, BitVec.ofNat 8 121] [] (32 : Int)) 1)).getD 22 (0 : BitVec 8) else BitVec.ofNat 8 0, if 23 < 32 then (List.take 32 (hkT (BitVec.ofNat 8 1 :: List.replicate 31 (BitVec.ofNat 8 0)) (labInfo [BitVec.ofNat 8 107, BitVec.ofNat 8 101, BitVec.ofNat 8 121] [] (32 : Int)) 1)).getD 23 (0 : BitVec 8) else BitVec.ofNat 8 0, if 24 < 32 then (List.take 32 (hkT (BitVec.ofNat 8 1 :: List.replicate 31 (BitVec.ofNat 8 0)) (labInfo [BitVec.ofNat 8 107, BitVec.ofNat 8 101, BitVec.ofNat 8 121] [] (32 : Int)) 1)).getD 24 (0 : BitVec 8) else BitVec.ofNat 8 0, if 25 < 32 then (List.take 32 (hkT (BitVec.ofNat 8 1 :: List.replicate 31 (BitVec.ofNat 8 0)) (labInfo [BitVec.ofNat 8 107, BitVec.ofNat 8 101, BitVec.ofNat 8 121] [] (32 : Int)) 1)).getD 25 (0 : BitVec 8) else BitVec.ofNat 8 0, if 26 < 32 then (List.take 32 (hkT (BitVec.ofNat 8 1 :: List.replicate 31 (BitVec.ofNat 8 0)) (labInfo [BitVec.ofNat 8 107, BitVec.ofNat 8 101, BitVec.ofNat 8 121] [] (32 : Int)) 1)).getD 26 (0 : BitVec 8) else BitVec.ofNat 8 0, if 27 < 32 then (List.take 32 (hkT (BitVec.ofNat 8 1 :: List.replicate 31 (BitVec.ofNat 8 0)) (labInfo [BitVec.ofNat 8 107, BitVec.ofNat 8 101, BitVec.ofNat 8 121] [] (32 : Int)) 1)).getD 27 (0 : BitVec 8) else BitVec.ofNat 8 0, if 28 < 32 then (List.take 32 (hkT (BitVec.ofNat 8 1 :: List.replicate 31 (BitVec.ofNat 8 0)) (labInfo [BitVec.ofNat 8 107, BitVec.ofNat 8 101, BitVec.ofNat 8 121] [] (32 : Int)) 1)).getD 28 (0 : BitVec 8) else BitVec.ofNat 8 0, if 29 < 32 then (List.take 32 (hkT (BitVec.ofNat 8 1 :: List.replicate 31 (BitVec.ofNat 8 0)) (labInfo [BitVec.ofNat 8 107, BitVec.ofNat 8 101, BitVec.ofNat 8 121] [] (32 : Int)) 1)).getD 29 (0 : BitVec 8) else BitVec.ofNat 8 0, if 30 < 32 then (List.take 32 (hkT (BitVec.ofNat 8 1 :: List.replicate 31 (BitVec.ofNat 8 0)) (labInfo [BitVec.ofNat 8 107, BitVec.ofNat 8 101, BitVec.ofNat 8 121] [] (32 : Int)) 1)).getD 30 (0 : BitVec 8) else BitVec.ofNat 8 0, if 31 < 32 then (List.take 32 (hkT (BitVec.ofNat 8 1 :: List.replicate 31 (BitVec.ofNat 8 0)) (labInfo [BitVec.ofNat 8 107, BitVec.ofNat 8 101, BitVec.ofNat 8 121] [] (32 : Int)) 1)).getD 31 (0 : BitVec 8) else BitVec.ofNat 8 0, if 0 < 12 then (List.take 12 (hkT (BitVec.ofNat 8 1 :: List.replicate 31 (BitVec.ofNat 8 0)) (labInfo [BitVec.ofNat 8 105, BitVec.ofNat 8 118] [] (12 : Int)) 1)).getD 0 (0 : BitVec 8) else BitVec.ofNat 8 0, if 1 < 12 then (List.take 12 (hkT (BitVec.ofNat 8 1 :: List.replicate 31 (BitVec.ofNat 8 0)) (labInfo [BitVec.ofNat 8 105, BitVec.ofNat 8 118] [] (12 : Int)) 1)).getD 1 (0 : BitVec 8) else BitVec.ofNat 8 0, if 2 < 12 then (List.take 12 (hkT (BitVec.ofNat 8 1 :: List.replicate 31 (BitVec.ofNat 8 0)) (labInfo [BitVec.ofNat 8 105, BitVec.ofNat 8 118] [] (12 : Int)) 1)).getD 2 (0 : BitVec 8) else BitVec.ofNat 8 0, if 3 < 12 then (List.take 12 (hkT (BitVec.ofNat 8 1 :: List.replicate 31 (BitVec.ofNat 8 0)) (labInfo [BitVec.ofNat 8 105, BitVec.ofNat 8 118] [] (12 : Int)) 1)).getD 3 (0 : BitVec 8) else BitVec.ofNat 8 0, if 4 < 12 then (List.take 12 (hkT (BitVec.ofNat 8 1 :: List.replicate 31 (BitVec.ofNat 8 0)) (labInfo [BitVec.ofNat 8 105, BitVec.ofNat 8 118] [] (12 : Int)) 1)).getD 4 (0 : BitVec 8) else BitVec.ofNat 8 0, if 5 < 12 then (List.take 12 (hkT (BitVec.ofNat 8 1 :: List.replicate 31 (BitVec.ofNat 8 0)) (labInfo [BitVec.ofNat 8 105, BitVec.ofNat 8 118] [] (12 : Int)) 1)).getD 5 (0 : BitVec 8) else BitVec.ofNat 8 0, if 6 < 12 then (List.take 12 (hkT (BitVec.ofNat 8 1 :: List.replicate 31 (BitVec.ofNat 8 0)) (labInfo [BitVec.ofNat 8 105, BitVec.ofNat 8 118] [] (12 : Int)) 1)).getD 6 (0 : BitVec 8) else BitVec.ofNat 8 0, if 7 < 12 then (List.take 12 (hkT (BitVec.ofNat 8 1 :: List.replicate 31 (BitVec.ofNat 8 0)) (labInfo [BitVec.ofNat 8 105, BitVec.ofNat 8 118] [] (12 : Int)) 1)).getD 7 (0 : BitVec 8) else BitVec.ofNat 8 0, if 8 < 12 then (List.take 12 (hkT (BitVec.ofNat 8 1 :: List.replicate 31 (BitVec.ofNat 8 0)) (labInfo [BitVec.ofNat 8 105, BitVec.ofNat 8 118] [] (12 : Int)) 1)).getD 8 (0 : BitVec 8) else BitVec.ofNat 8 0, if 9 < 12 then (List.take 12 (hkT (BitVec.ofNat 8 1 :: List.replicate 31 (BitVec.ofNat 8 0)) (labInfo [BitVec.ofNat 8 105, BitVec.ofNat 8 118] [] (12 : Int)) 1)).getD 9 (0 : BitVec 8) else BitVec.ofNat 8 0, if 10 < 12 then (List.take 12 (hkT (BitVec.ofNat 8 1 :: List.replicate 31 (BitVec.ofNat 8 0)) (labInfo [BitVec.ofNat 8 105, BitVec.ofNat 8 118] [] (12 : Int)) 1)).getD 10 (0 : BitVec 8) else BitVec.ofNat 8 0, if 11 < 12 then (List.take 12 (hkT (BitVec.ofNat 8 1 :: List.replicate 31 (BitVec.ofNat 8 0)) (labInfo [BitVec.ofNat 8 105, BitVec.ofNat 8 118] [] (12 : Int)) 1)).getD 11 (0 : BitVec 8) else BitVec.ofNat 8 0] : Prop) := by kernel_rfl
end Go.Sym

namespace Go.Spec
theorem trimAt_zero (l : By) (m : Nat) (hm : m ≠ 0) (h : ¬ l.getD (m - 1) 0 = 0#8) : ∀ n, m ≤ n → (∀ j, m ≤ j → j < n → l.getD j 0 = 0#8) → trimAt 0#8 l n = m := by
  intro n
  induction n with
  | zero => intro hn _; omega
  | succ n ih =>
    intro hn hz
    rcases Nat.eq_or_lt_of_le hn with e | e
    · subst e
      exact trimAt_stop hm h
    · have hz' := hz n (by omega) (by omega)
      simp only [trimAt, if_pos hz']
      exact ih (by omega) (fun j h1 h2 => hz j h1 (by omega))
theorem byteT {t : Int} (h1 : 20 ≤ t) (h2 : t ≤ 23) : ¬ BitVec.ofInt 8 t = 0#8 ∧ ((BitVec.ofInt 8 t).toNat : Int) = t := by
  have : t = 20 ∨ t = 21 ∨ t = 22 ∨ t = 23 := by omega
  rcases this with rfl | rfl | rfl | rfl <;> exact ⟨by decide, by decide⟩
theorem recI_last (t p : Int) (b : By) : (recI t p b).getD b.length 0 = BitVec.ofInt 8 t := by
  unfold recI
  simp [List.getD]
theorem recI_zero (t p : Int) (b : By) (j : Nat) (h : b.length + 1 ≤ j) : (recI t p b).getD j 0 = 0#8 := by
  unfold recI
  simp only [List.getD]
  rw [List.getElem?_append_right (by simp; omega), List.getElem?_replicate]
  split <;> rfl
theorem trim_recI {t p : Int} (b : By) (h1 : 20 ≤ t) (h2 : t ≤ 23) : trimN 0#8 (recI t p b) = b.length + 1 := by
  unfold trimN
  refine trimAt_zero _ _ (by omega) ?_ _ (by simp [recI]) (fun j hj _ => recI_zero t p b j hj)
  rw [Nat.add_sub_cancel, recI_last]
  exact (byteT h1 h2).1
theorem lastT_recI {t p : Int} (b : By) (h1 : 20 ≤ t) (h2 : t ≤ 23) : lastT (recI t p b) = t := by
  unfold lastT
  rw [trim_recI b h1 h2, Nat.add_sub_cancel, recI_last]
  exact (byteT h1 h2).2
theorem take_recI (t p : Int) (b : By) : (recI t p b).take b.length = b := by
  unfold recI
  rw [List.append_assoc, List.take_append_of_le_length (Nat.le_refl _), List.take_length]
/-- A record's body. -/
noncomputable def recB (k iv : F8) (s : BitVec 64) (t p : Int) (b : By) : By := sealL (kk k) (nn k iv s) (recI t p b) (headB (BitVec.ofNat 8 23) (((recI t p b).length + 16 : Nat) : Int))
theorem recB_length (k iv : F8) (s : BitVec 64) (t p : Int) (b : By) : (recB k iv s t p b).length = (recI t p b).length + 16 := sealL_length _ _ _ _
theorem recS_drop (k iv : F8) (s : BitVec 64) (t p : Int) (b : By) : (recS k iv s t p b).drop 5 = recB k iv s t p b := rfl
theorem recS_len (k iv : F8) (s : BitVec 64) (t p : Int) (b : By) : (recS k iv s t p b).length = (recB k iv s t p b).length + 5 := by
  have : (recS k iv s t p b).length = 5 + (recB k iv s t p b).length := by
    show (headB _ _ ++ recB k iv s t p b).length = _
    rw [List.length_append]
    rfl
  omega
theorem opM_recB (k iv : F8) (s : BitVec 64) (t p : Int) (b : By) : opM k iv s (recB k iv s t p b) = recI t p b := by
  unfold opM
  rw [recB_length]
  exact openM_seal _ _ _ _
theorem opE_recB (k iv : F8) (s : BitVec 64) (t p : Int) (b : By) : opE k iv s (recB k iv s t p b) = 0 := by
  unfold opE
  rw [recB_length]
  exact openE_seal _ _ _ _
theorem recE_recB (k iv : F8) (s : BitVec 64) {t p : Int} {b : By} (h : recBad t p b.length = false) : recE k iv s (recB k iv s t p b) = 0 := by
  obtain ⟨h1, h2, h3, h4⟩ := recBad_f h
  obtain ⟨P, rfl⟩ : ∃ P : Nat, p = P := ⟨p.toNat, by omega⟩
  refine recE_0 (by rw [recB_length, recI_length]; omega) (opE_recB k iv s t P b) (by rw [opM_recB, trim_recI b h1 h2]; omega) ?_
  rw [opM_recB, lastT_recI b h1 h2]
  simp [isT, h1, h2]
end Go.Spec
namespace Go.Sym
open Go.Proofs Go.Spec
set_option linter.unusedVariables false
theorem recS_cut (k iv : F8) (s : BitVec 64) (t p : Int) (b : By) (n : Nat) (h : (recB k iv s t p b).length ≤ n) : List.take n (List.drop 5 (recS k iv s t p b)) = recB k iv s t p b := by
  rw [recS_drop]
  exact List.take_of_length_le h
theorem br12 : Must (bodyP Tryd.prog J23 gl0 [] [] 3000 Tryd.f12 0 [] [] (retQ Tryd.prog Tryd.f12 0 ⟨[], .bool true, [], []⟩)) := by
  constructor
  rw [vr12]
  set_option simprocs false in dsimp only
  rw [recS_cut _ _ _ _ _ _ _ (by rw [recB_length]; exact Nat.le_refl _), recE_recB _ _ _ (by rfl), opM_recB, lastT_recI _ (by omega) (by omega), trim_recI _ (by omega) (by omega)]
  simp only [recI, List.length_cons, List.length_nil]
  and_intros <;> first | omega | rfl | (unfold roomFor; omega) | trivial
theorem cr12 : COK Tryd.prog gl0 12 (mkF spTr) := by
  refine ctrE (fn := Tryd.f12) [] 3000 (by kernel_rfl) (by kernel_rfl) okJ23 (by kernel_rfl) (fun args w => by kernel_rfl) ?_
  intro xs bs r hs ho
  simp only [spTr, gTr] at hs
  split at hs
  · simp only [TL.sel, Option.some.injEq] at hs
    subst hs
    exact ⟨_, br12⟩
  · simp [TL.sel] at hs
noncomputable def J12 : Ctx := J23.add 12 (mkF spTr)
theorem okJ12 : COKs Tryd.prog gl0 J12 := okJ23.add cr12
end Go.Sym
