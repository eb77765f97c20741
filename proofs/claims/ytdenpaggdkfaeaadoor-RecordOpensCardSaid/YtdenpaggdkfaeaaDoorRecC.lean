/- Records: what the statements must be shown to say. -/
import Derived.Test.YtdenpaggdkfaeaaDoorRecB
namespace Go.Sym
open Go.Proofs Go.Spec
set_option linter.unusedVariables false
set_option maxRecDepth 100000 in
theorem vr3 (k : F8) (a b : BitVec 64) : bodyP Tryd.prog J12 gl0 [] [] 3000 Tryd.f3 0 [aggB 32 k, .u64 a, .u64 b] [] (retQ Tryd.prog Tryd.f3 0 ⟨[], .bool true, [], []⟩) = (
let x1 := fun (i : Nat) => (rgA (fun (i : Nat) => if i < (List.take 32 (hkT (rg 32 k) (labInfo [BitVec.ofNat 8 107, BitVec.ofNat 8 101, BitVec.ofNat 8 121] [] (32 : Int)) 1)).length then (List.take 32 (hkT (rg 32 k) (labInfo [BitVec.ofNat 8 107, BitVec.ofNat 8 101, BitVec.ofNat 8 121] [] (32 : Int)) 1)).getD i (0 : BitVec 8) else BitVec.ofNat 8 0) 0 32 (rg 12 fun (i : Nat) => if i < (List.take 12 (hkT (rg 32 k) (labInfo [BitVec.ofNat 8 105, BitVec.ofNat 8 118] [] (12 : Int)) 1)).length then (List.take 12 (hkT (rg 32 k) (labInfo [BitVec.ofNat 8 105, BitVec.ofNat 8 118] [] (12 : Int)) 1)).getD i (0 : BitVec 8) else BitVec.ofNat 8 0)).getD (32 + i) (0 : BitVec 8); let x2 := hkT (rg 32 k) (labInfo [BitVec.ofNat 8 116, BitVec.ofNat 8 114, BitVec.ofNat 8 97, BitVec.ofNat 8 102, BitVec.ofNat 8 102, BitVec.ofNat 8 105, BitVec.ofNat 8 99, BitVec.ofNat 8 32, BitVec.ofNat 8 117, BitVec.ofNat 8 112, BitVec.ofNat 8 100] [] (32 : Int)) 1; let x3 := hkT (rg 32 k) (labInfo [BitVec.ofNat 8 107, BitVec.ofNat 8 101, BitVec.ofNat 8 121] [] (32 : Int)) 1; let x4 := hkT (rg 32 k) (labInfo [BitVec.ofNat 8 105, BitVec.ofNat 8 118] [] (12 : Int)) 1; 32 ≤ List.length x3 ∧ 12 ≤ List.length x4 ∧ 32 ≤ List.length x3 ∧ 12 ≤ List.length x4 ∧ @Bool.rec (fun _ => Prop) (Bool.true = Bool.false ∧ True) (32 ≤ List.length x2 ∧ 32 ≤ List.length x2 ∧ @Bool.rec (fun _ => Prop) (Bool.true = Bool.false ∧ True) (@Bool.rec (fun _ => Prop) (Bool.true = Bool.false ∧ True) (Bool.true = decide (andP (fun (i : Nat) => decide (nonB x1 a i = nonB x1 b i)) 0 12 Bool.true = decide (a = b)) ∧ True) (andP (fun (i : Nat) => decide (nonB x1 a i = nonB x1 a i)) 0 12 Bool.true)) (andP (fun (i : Nat) => decide ((if i < (List.take 32 x2).length then (List.take 32 x2).getD i (0 : BitVec 8) else BitVec.ofNat 8 0) = if i < (List.take 32 x2).length then (List.take 32 x2).getD i (0 : BitVec 8) else BitVec.ofNat 8 0)) 0 32 Bool.true)) (andP (fun (i : Nat) => decide ((if i < (List.take 32 x3).length then (List.take 32 x3).getD i (0 : BitVec 8) else BitVec.ofNat 8 0) = if i < (List.take 32 x3).length then (List.take 32 x3).getD i (0 : BitVec 8) else BitVec.ofNat 8 0)) 0 32 Bool.true && (andP (fun (i : Nat) => decide ((if i < (List.take 12 x4).length then (List.take 12 x4).getD i (0 : BitVec 8) else BitVec.ofNat 8 0) = if i < (List.take 12 x4).length then (List.take 12 x4).getD i (0 : BitVec 8) else BitVec.ofNat 8 0)) 0 12 Bool.true && Bool.true)) : Prop) := by kernel_rfl
set_option maxRecDepth 100000 in
theorem vr5 (k iv : F8) (s : BitVec 64) (t p : Int) (b : By) (c : Bool) (x y : Int) : bodyP Tryd.prog J12 gl0 [] [] 3000 Tryd.f5 0 [.agg (row8 32 k ++ row8 12 iv ++ [.u64 s, .int .i64 t, .int .i64 p]), .rb true b (.is c), .agg [.int .i64 x, .int .i64 y]] [] (retQ Tryd.prog Tryd.f5 0 ⟨[], .bool true, [], []⟩) = (
let x1 := List.set (sealL (fun (i : Nat) => (rg 32 k).getD i (0 : BitVec 8)) (fun (i : Nat) => (rg 12 (nonB (fun (i : Nat) => (rgA k 0 32 (rg 12 iv)).getD (32 + i) (0 : BitVec 8)) s)).getD i (0 : BitVec 8)) (List.take (Min.min (↑(List.length b) : Int) (280 : Int)).toNat b) [BitVec.ofNat 8 23, BitVec.ofNat 8 3, BitVec.ofNat 8 3, BitVec.ofInt 8 ((IntKind.i64.wrap ((↑(List.take (Min.min (↑(List.length b) : Int) (280 : Int)).toNat b).length : Int) + (16 : Int))).fdiv (Int.ofNat 256)), BitVec.ofInt 8 (IntKind.i64.wrap ((↑(List.take (Min.min (↑(List.length b) : Int) (280 : Int)).toNat b).length : Int) + (16 : Int)))]) (IntKind.i64.wrap (↑(BitVec.ofInt 64 x % BitVec.ofInt 64 (↑((List.take (Min.min (↑(List.length b) : Int) (280 : Int)).toNat b).length + 16) : Int)).toNat : Int)).toNat (List.getD (sealL (fun (i : Nat) => (rg 32 k).getD i (0 : BitVec 8)) (fun (i : Nat) => (rg 12 (nonB (fun (i : Nat) => (rgA k 0 32 (rg 12 iv)).getD (32 + i) (0 : BitVec 8)) s)).getD i (0 : BitVec 8)) (List.take (Min.min (↑(List.length b) : Int) (280 : Int)).toNat b) [BitVec.ofNat 8 23, BitVec.ofNat 8 3, BitVec.ofNat 8 3, BitVec.ofInt 8 ((IntKind.i64.wrap ((↑(List.take (Min.min (↑(List.length b) : Int) (280 : Int)).toNat b).length : Int) + (16 : Int))).fdiv (Int.ofNat 256)), BitVec.ofInt 8 (IntKind.i64.wrap ((↑(List.take (Min.min (↑(List.length b) : Int) (280 : Int)).toNat b).length : Int) + (16 : Int)))]) (IntKind.i64.wrap (↑(BitVec.ofInt 64 x % BitVec.ofInt 64 (↑((List.take (Min.min (↑(List.length b) : Int) (280 : Int)).toNat b).length + 16) : Int)).toNat : Int)).toNat (0 : BitVec 8) ^^^ BitVec.ofInt 8 y); let x2 := opM (fun (i : Nat) => (rgA k 0 32 (rg 12 iv)).getD i (0 : BitVec 8)) (fun (i : Nat) => (rgA k 0 32 (rg 12 iv)).getD (32 + i) (0 : BitVec 8)) s x1; let x3 := (List.take (Min.min (↑(List.length b) : Int) (280 : Int)).toNat b).length + 16; let x4 := recE (fun (i : Nat) => (rgA k 0 32 (rg 12 iv)).getD i (0 : BitVec 8)) (fun (i : Nat) => (rgA k 0 32 (rg 12 iv)).getD (32 + i) (0 : BitVec 8)) s x1; let x5 := recE (fun (i : Nat) => (rgA k 0 32 (rg 12 iv)).getD i (0 : BitVec 8)) (fun (i : Nat) => (rgA k 0 32 (rg 12 iv)).getD (32 + i) (0 : BitVec 8)) s (List.take (Min.min (↑x3 : Int) (15 : Int)).toNat x1); let x6 := [BitVec.ofNat 8 23, BitVec.ofNat 8 3, BitVec.ofNat 8 3, BitVec.ofInt 8 ((IntKind.i64.wrap ((↑(List.take (Min.min (↑(List.length b) : Int) (280 : Int)).toNat b).length : Int) + (16 : Int))).fdiv (Int.ofNat 256)), BitVec.ofInt 8 (IntKind.i64.wrap ((↑(List.take (Min.min (↑(List.length b) : Int) (280 : Int)).toNat b).length : Int) + (16 : Int)))]; let x7 := trimN (BitVec.ofNat 8 0) x2 - 1; let x8 := (List.take (Min.min (↑x3 : Int) (15 : Int)).toNat x1).length < 549755813888; let x9 := 0 + (Min.min (↑x3 : Int) (15 : Int)).toNat ≤ x1.length; let x10 := IntKind.i64.wrap (↑(BitVec.ofInt 64 x % BitVec.ofInt 64 (↑x3 : Int)).toNat : Int); let x11 := x10.toNat < List.length (sealL (fun (i : Nat) => (rg 32 k).getD i (0 : BitVec 8)) (fun (i : Nat) => (rg 12 (nonB (fun (i : Nat) => (rgA k 0 32 (rg 12 iv)).getD (32 + i) (0 : BitVec 8)) s)).getD i (0 : BitVec 8)) (List.take (Min.min (↑(List.length b) : Int) (280 : Int)).toNat b) x6); (0 : Int) ≤ Min.min (↑(List.length b) : Int) (280 : Int) ∧
 (Min.min (↑(List.length b) : Int) (280 : Int)).toNat ≤ List.length b ∧
 5 = x6.length ∧
 (List.take (Min.min (↑(List.length b) : Int) (280 : Int)).toNat b).length + x6.length + 256 < 1099511627776 ∧
 (BitVec.ofInt 64 (↑x3 : Int)).toNat ≠ 0 ∧
 (0 : Int) ≤ x10 ∧
 x10.toNat < x3 ∧
 x11 ∧
 (0 : Int) ≤ x10 ∧
 x10.toNat < x3 ∧
 x11 ∧
 @Bool.rec (fun _ => Prop) (x3 = x1.length ∧
 x1.length < 549755813888 ∧
 @Bool.rec (fun _ => Prop) (x3 = x1.length ∧
 x1.length < 549755813888 ∧
 (0 : Int) ≤ Min.min (↑x3 : Int) (15 : Int) ∧
 (Min.min (↑x3 : Int) (15 : Int)).toNat ≤ x3 ∧
 @Bool.rec (fun _ => Prop) (x9 ∧
 x8 ∧
 @Bool.rec (fun _ => Prop) (Bool.true = Bool.false ∧
 True) (Bool.true = decide (x5 = (4 : Int)) ∧
 True) (decide (x4 = x4))) (x9 ∧
 x8 ∧
 @Bool.rec (fun _ => Prop) (Bool.true = Bool.false ∧
 True) (Bool.true = Bool.false ∧
 True) (decide (x4 = x4))) (decide (x5 = (0 : Int)))) (x3 = x1.length ∧
 x1.length < 549755813888 ∧
 (0 : Int) ≤ Min.min (↑x3 : Int) (15 : Int) ∧
 (Min.min (↑x3 : Int) (15 : Int)).toNat ≤ x3 ∧
 @Bool.rec (fun _ => Prop) (x9 ∧
 x8 ∧
 @Bool.rec (fun _ => Prop) (Bool.true = Bool.false ∧
 True) (0 + x7 ≤ List.length x2 ∧
 @Bool.rec (fun _ => Prop) (Bool.true = Bool.false ∧
 True) (@Bool.rec (fun _ => Prop) (Bool.true = Bool.false ∧
 True) (Bool.true = decide (x5 = (4 : Int)) ∧
 True) (decide (x4 = (0 : Int)))) (decide ([] = List.take x7 x2))) (decide ((0 : Int) = lastT x2))) (x9 ∧
 x8 ∧
 @Bool.rec (fun _ => Prop) (Bool.true = Bool.false ∧
 True) (0 + x7 ≤ List.length x2 ∧
 @Bool.rec (fun _ => Prop) (Bool.true = Bool.false ∧
 True) (@Bool.rec (fun _ => Prop) (Bool.true = Bool.false ∧
 True) (Bool.true = Bool.false ∧
 True) (decide (x4 = (0 : Int)))) (decide ([] = List.take x7 x2))) (decide ((0 : Int) = lastT x2))) (decide (x5 = (0 : Int)))) (decide (x4 = (0 : Int)))) (x3 = x1.length ∧
 x1.length < 549755813888 ∧
 @Bool.rec (fun _ => Prop) (x3 = x1.length ∧
 x1.length < 549755813888 ∧
 (0 : Int) ≤ Min.min (↑x3 : Int) (15 : Int) ∧
 (Min.min (↑x3 : Int) (15 : Int)).toNat ≤ x3 ∧
 @Bool.rec (fun _ => Prop) (x9 ∧
 x8 ∧
 @Bool.rec (fun _ => Prop) (Bool.true = Bool.false ∧
 True) (0 + x7 ≤ List.length x2 ∧
 @Bool.rec (fun _ => Prop) (Bool.true = Bool.false ∧
 True) (@Bool.rec (fun _ => Prop) (Bool.true = Bool.false ∧
 True) (Bool.true = decide (x5 = (4 : Int)) ∧
 True) (decide ((0 : Int) = x4))) (decide (List.take x7 x2 = []))) (decide (lastT x2 = (0 : Int)))) (x9 ∧
 x8 ∧
 @Bool.rec (fun _ => Prop) (Bool.true = Bool.false ∧
 True) (0 + x7 ≤ List.length x2 ∧
 @Bool.rec (fun _ => Prop) (Bool.true = Bool.false ∧
 True) (@Bool.rec (fun _ => Prop) (Bool.true = Bool.false ∧
 True) (Bool.true = Bool.false ∧
 True) (decide ((0 : Int) = x4))) (decide (List.take x7 x2 = []))) (decide (lastT x2 = (0 : Int)))) (decide (x5 = (0 : Int)))) (x3 = x1.length ∧
 x1.length < 549755813888 ∧
 (0 : Int) ≤ Min.min (↑x3 : Int) (15 : Int) ∧
 (Min.min (↑x3 : Int) (15 : Int)).toNat ≤ x3 ∧
 @Bool.rec (fun _ => Prop) (x9 ∧
 x8 ∧
 @Bool.rec (fun _ => Prop) (Bool.true = Bool.false ∧
 True) (0 + x7 ≤ List.length x2 ∧
 0 + x7 ≤ List.length x2 ∧
 @Bool.rec (fun _ => Prop) (Bool.true = Bool.false ∧
 True) (Bool.true = decide (x5 = (4 : Int)) ∧
 True) (decide (List.take x7 x2 = List.take x7 x2))) (decide (lastT x2 = lastT x2))) (x9 ∧
 x8 ∧
 @Bool.rec (fun _ => Prop) (Bool.true = Bool.false ∧
 True) (0 + x7 ≤ List.length x2 ∧
 0 + x7 ≤ List.length x2 ∧
 @Bool.rec (fun _ => Prop) (Bool.true = Bool.false ∧
 True) (Bool.true = Bool.false ∧
 True) (decide (List.take x7 x2 = List.take x7 x2))) (decide (lastT x2 = lastT x2))) (decide (x5 = (0 : Int)))) (decide (x4 = (0 : Int)))) (decide (x4 = (0 : Int))) : Prop) := by kernel_rfl
set_option maxRecDepth 100000 in
theorem vr7 (k iv : F8) (s : BitVec 64) (t p : Int) (b : By) (c : Bool) : bodyP Tryd.prog J12 gl0 [] [] 3000 Tryd.f7 0 [.agg (row8 32 k ++ row8 12 iv ++ [.u64 s, .int .i64 t, .int .i64 p]), .rb true b (.is c)] [] (retQ Tryd.prog Tryd.f7 0 ⟨[], .bool true, [], []⟩) = (
let x1 := fun (i : Nat) => (rgA k 0 32 (rg 12 iv)).getD (32 + i) (0 : BitVec 8); let x2 := fun (i : Nat) => (rgA k 0 32 (rg 12 iv)).getD i (0 : BitVec 8); let x3 := List.take (Min.min (↑(List.length b) : Int) (60 : Int)).toNat b; let x4 := recS x2 x1 s (22 : Int) (Int.ofNat 39) x3; let x5 := recS x2 x1 s (22 : Int) (Int.ofNat 13) x3; let x6 := recS x2 x1 s (22 : Int) (Int.ofNat 26) x3; let x7 := recS x2 x1 s (22 : Int) (0 : Int) x3; let x8 := List.take (List.length x4 - 5) (List.drop 5 x4); let x9 := List.take (List.length x6 - 5) (List.drop 5 x6); let x10 := List.take (List.length x7 - 5) (List.drop 5 x7); let x11 := List.take (List.length x5 - 5) (List.drop 5 x5); (0 : Int) ≤ Min.min (↑(List.length b) : Int) (60 : Int) ∧
 (Min.min (↑(List.length b) : Int) (60 : Int)).toNat ≤ List.length b ∧
 @Bool.rec (fun _ => Prop) (@Bool.rec (fun _ => Prop) (5 ≤ List.length x7 ∧
 @Bool.rec (fun _ => Prop) (5 + (List.length x7 - 5) ≤ List.length x7 ∧
 x10.length < 549755813888 ∧
 Bool.true = Bool.false ∧
 True) (5 + (List.length x7 - 5) ≤ List.length x7 ∧
 x10.length < 549755813888 ∧
 @Bool.rec (fun _ => Prop) (Bool.true = Bool.false ∧
 True) (0 + (trimN (BitVec.ofNat 8 0) (opM x2 x1 s x10) - 1) ≤ List.length (opM x2 x1 s x10) ∧
 @Bool.rec (fun _ => Prop) (Bool.true = Bool.false ∧
 True) (@Bool.rec (fun _ => Prop) (@Bool.rec (fun _ => Prop) (5 ≤ List.length x5 ∧
 @Bool.rec (fun _ => Prop) (5 + (List.length x5 - 5) ≤ List.length x5 ∧
 x11.length < 549755813888 ∧
 Bool.true = Bool.false ∧
 True) (5 + (List.length x5 - 5) ≤ List.length x5 ∧
 x11.length < 549755813888 ∧
 @Bool.rec (fun _ => Prop) (Bool.true = Bool.false ∧
 True) (0 + (trimN (BitVec.ofNat 8 0) (opM x2 x1 s x11) - 1) ≤ List.length (opM x2 x1 s x11) ∧
 @Bool.rec (fun _ => Prop) (Bool.true = Bool.false ∧
 True) (@Bool.rec (fun _ => Prop) (@Bool.rec (fun _ => Prop) (5 ≤ List.length x6 ∧
 @Bool.rec (fun _ => Prop) (5 + (List.length x6 - 5) ≤ List.length x6 ∧
 x9.length < 549755813888 ∧
 Bool.true = Bool.false ∧
 True) (5 + (List.length x6 - 5) ≤ List.length x6 ∧
 x9.length < 549755813888 ∧
 @Bool.rec (fun _ => Prop) (Bool.true = Bool.false ∧
 True) (0 + (trimN (BitVec.ofNat 8 0) (opM x2 x1 s x9) - 1) ≤ List.length (opM x2 x1 s x9) ∧
 @Bool.rec (fun _ => Prop) (Bool.true = Bool.false ∧
 True) (@Bool.rec (fun _ => Prop) (@Bool.rec (fun _ => Prop) (5 ≤ List.length x4 ∧
 @Bool.rec (fun _ => Prop) (5 + (List.length x4 - 5) ≤ List.length x4 ∧
 x8.length < 549755813888 ∧
 Bool.true = Bool.false ∧
 True) (5 + (List.length x4 - 5) ≤ List.length x4 ∧
 x8.length < 549755813888 ∧
 @Bool.rec (fun _ => Prop) (Bool.true = Bool.false ∧
 True) (0 + (trimN (BitVec.ofNat 8 0) (opM x2 x1 s x8) - 1) ≤ List.length (opM x2 x1 s x8) ∧
 @Bool.rec (fun _ => Prop) (Bool.true = Bool.false ∧
 True) (Bool.true = Bool.true ∧
 True) !!decide (List.take (trimN (BitVec.ofNat 8 0) (opM x2 x1 s x8) - 1) (opM x2 x1 s x8) = x3)) !!decide (lastT (opM x2 x1 s x8) = (22 : Int))) (decide (recE x2 x1 s x8 = (0 : Int)))) (Bool.true = Bool.false ∧
 True) !decide ((↑(List.length x4) : Int) = IntKind.i64.wrap (IntKind.i64.wrap ((22 : Int) + (↑x3.length : Int)) + Int.ofNat 39))) (x3.length < 549755813888 ∧
 Bool.true = Bool.false ∧
 True) (recBad (22 : Int) (Int.ofNat 39) x3.length)) !!decide (List.take (trimN (BitVec.ofNat 8 0) (opM x2 x1 s x9) - 1) (opM x2 x1 s x9) = x3)) !!decide (lastT (opM x2 x1 s x9) = (22 : Int))) (decide (recE x2 x1 s x9 = (0 : Int)))) (Bool.true = Bool.false ∧
 True) !decide ((↑(List.length x6) : Int) = IntKind.i64.wrap (IntKind.i64.wrap ((22 : Int) + (↑x3.length : Int)) + Int.ofNat 26))) (x3.length < 549755813888 ∧
 Bool.true = Bool.false ∧
 True) (recBad (22 : Int) (Int.ofNat 26) x3.length)) !!decide (List.take (trimN (BitVec.ofNat 8 0) (opM x2 x1 s x11) - 1) (opM x2 x1 s x11) = x3)) !!decide (lastT (opM x2 x1 s x11) = (22 : Int))) (decide (recE x2 x1 s x11 = (0 : Int)))) (Bool.true = Bool.false ∧
 True) !decide ((↑(List.length x5) : Int) = IntKind.i64.wrap (IntKind.i64.wrap ((22 : Int) + (↑x3.length : Int)) + Int.ofNat 13))) (x3.length < 549755813888 ∧
 Bool.true = Bool.false ∧
 True) (recBad (22 : Int) (Int.ofNat 13) x3.length)) !!decide (List.take (trimN (BitVec.ofNat 8 0) (opM x2 x1 s x10) - 1) (opM x2 x1 s x10) = x3)) !!decide (lastT (opM x2 x1 s x10) = (22 : Int))) (decide (recE x2 x1 s x10 = (0 : Int)))) (Bool.true = Bool.false ∧
 True) !decide ((↑(List.length x7) : Int) = IntKind.i64.wrap (IntKind.i64.wrap ((22 : Int) + (↑x3.length : Int)) + (0 : Int)))) (x3.length < 549755813888 ∧
 Bool.true = Bool.false ∧
 True) (recBad (22 : Int) (0 : Int) x3.length) : Prop) := by kernel_rfl
end Go.Sym

namespace Go.Spec
theorem xor_inj8 {c x y : BitVec 8} (h : c ^^^ x = c ^^^ y) : x = y := by
  have := congrArg (c ^^^ ·) h
  simpa [← BitVec.xor_assoc] using this
theorem non_inj {iv : F8} {a b : BitVec 64} (h : ∀ j, 4 ≤ j → j < 12 → nonB iv a j = nonB iv b j) : a = b := by
  apply BitVec.eq_of_getLsbD_eq
  intro i hi
  have hq : i / 8 < 8 := by omega
  have hj := h (11 - i / 8) (by omega) (by omega)
  unfold nonB at hj
  rw [if_neg (by omega), if_neg (by omega)] at hj
  have e := xor_inj8 hj
  have hx : 11 - (11 - i / 8) = i / 8 := by omega
  rw [hx] at e
  have e2 := congrArg (fun v => v.getLsbD (i % 8)) e
  simp only [BitVec.getLsbD_setWidth, BitVec.getLsbD_ushiftRight] at e2
  have hr : i % 8 < 8 := Nat.mod_lt _ (by omega)
  have hs : 8 * (i / 8) + i % 8 = i := by omega
  rw [hs] at e2
  simpa [hr] using e2
theorem non_eq (iv : F8) (a b : BitVec 64) : andP (fun i => decide (nonB iv a i = nonB iv b i)) 0 12 true = decide (a = b) := by
  by_cases h : a = b
  · subst h
    simp [andP_tt]
  · rw [decide_eq_false h]
    cases g : andP (fun i => decide (nonB iv a i = nonB iv b i)) 0 12 true
    · rfl
    · exfalso
      obtain ⟨h1, _⟩ := (andP_iff 12 0).1 g
      exact h (non_inj fun j _ h3 => of_decide_eq_true (h1 j (by omega) (by omega)))
end Go.Spec
namespace Go.Sym
open Go.Proofs Go.Spec
set_option linter.unusedVariables false
set_option linter.unusedSimpArgs false
theorem br3 (k : F8) (a b : BitVec 64) : Must (bodyP Tryd.prog J12 gl0 [] [] 3000 Tryd.f3 0 [aggB 32 k, .u64 a, .u64 b] [] (retQ Tryd.prog Tryd.f3 0 ⟨[], .bool true, [], []⟩)) := by
  constructor
  rw [vr3]
  intro x1 x2 x3 x4
  have h2 : x2.length = 32 := hkT_length _ _ _
  have h3 : x3.length = 32 := hkT_length _ _ _
  have h4 : x4.length = 32 := hkT_length _ _ _
  clear_value x1 x2 x3 x4
  simp only [decide_true, andP_tt, Bool.and_self, non_eq, and_true, h2, h3, h4]
  and_intros <;> first | omega | trivial
theorem recE_short (k iv : F8) (s : BitVec 64) (b : By) (h : b.length < 16) : recE k iv s b = 4 := by
  refine recE_4 (by omega) ?_
  unfold opE openE
  rw [if_pos h]
  decide
end Go.Sym
