/- The same: what the bodies of the streams and of the document must be shown to do. -/
import Derived.Test.YtiebadbcdheldaaDoorChaA
import Derived.Test.YtiebadbcdheldaaDoorShaA
namespace Go.Sym
open Go.Proofs Go.Spec
set_option linter.unusedVariables false
set_option maxRecDepth 100000 in
theorem vc15q (k : F8) (c : B32) (n : F8) (b : By) : bodyP Tryd.prog (K9.withSym sym15) gl0 [] [(5, ls15 k c n b)] 3000 Tryd.f50 0 [aggB 32 k, .u32 c, aggB 12 n, .rb false b .unk] [] (retQ Tryd.prog Tryd.f50 0 ⟨[], .slice 0 0 1 b.length .ow .unk, [], [⟨.bytes (strL k c n b), true, 1⟩]⟩) = (
(0 : Int) ≤ (↑(List.length b) : Int) ∧
 (0 : Int) ≤ (↑(List.length b) : Int) ∧
 (↑(List.length b) : Int).toNat ≤ (↑(List.length b) : Int).toNat ∧
 1 * (↑(List.length b) : Int).toNat ≤ 281474976710656 ∧
 (↑(List.length b) : Int).toNat ≤ 9223372036854775807 ∧
 (∃ (x : Nat), x.le (List.length b) ∧
 c + BitVec.ofNat 32 ((x + 63) / 64) = c ∧
 0 = 0 ∧
 0 = 0 ∧
 0 = 0 ∧
 0 = 0 ∧
 0 = 0 ∧
 List.length b = (↑(List.length b) : Int).toNat ∧
 0 = 0 ∧
 b = b ∧
 (↑(List.length b) : Int) = (↑(List.length b) : Int) ∧
 (↑x : Int) = (0 : Int) ∧
 outL k c n b x = List.replicate (↑(List.length b) : Int).toNat (0 : BitVec 8) ∧
 k 0 = k 0 ∧
 k 1 = k 1 ∧
 k 2 = k 2 ∧
 k 3 = k 3 ∧
 k 4 = k 4 ∧
 k 5 = k 5 ∧
 k 6 = k 6 ∧
 k 7 = k 7 ∧
 k 8 = k 8 ∧
 k 9 = k 9 ∧
 k 10 = k 10 ∧
 k 11 = k 11 ∧
 k 12 = k 12 ∧
 k 13 = k 13 ∧
 k 14 = k 14 ∧
 k 15 = k 15 ∧
 k 16 = k 16 ∧
 k 17 = k 17 ∧
 k 18 = k 18 ∧
 k 19 = k 19 ∧
 k 20 = k 20 ∧
 k 21 = k 21 ∧
 k 22 = k 22 ∧
 k 23 = k 23 ∧
 k 24 = k 24 ∧
 k 25 = k 25 ∧
 k 26 = k 26 ∧
 k 27 = k 27 ∧
 k 28 = k 28 ∧
 k 29 = k 29 ∧
 k 30 = k 30 ∧
 k 31 = k 31 ∧
 n 0 = n 0 ∧
 n 1 = n 1 ∧
 n 2 = n 2 ∧
 n 3 = n 3 ∧
 n 4 = n 4 ∧
 n 5 = n 5 ∧
 n 6 = n 6 ∧
 n 7 = n 7 ∧
 n 8 = n 8 ∧
 n 9 = n 9 ∧
 n 10 = n 10 ∧
 n 11 = n 11 ∧
 blkL k c n x = List.replicate 64 (0 : BitVec 8) ∧
 True) ∧
 ∀ (x : Nat), x.le (List.length b) → @Bool.rec (fun _ => Prop) (0 = 0 ∧
 0 = 0 ∧
 0 = 0 ∧
 List.length b = List.length b ∧
 strL k c n b = outL k c n b x ∧
 True) ((0 : Int) ≤ (↑x : Int) ∧
 (↑x : Int).toNat < List.length b ∧
 @Bool.rec (fun _ => Prop) ((0 : Int) ≤ (↑x : Int).tmod (64 : Int) ∧
 ((↑x : Int).tmod (64 : Int)).toNat < 64 ∧
 ((↑x : Int).tmod (64 : Int)).toNat < List.length (blkL k c n x) ∧
 (0 : Int) ≤ (↑x : Int) ∧
 (↑x : Int).toNat < List.length b ∧
 (↑x : Int).toNat < List.length (outL k c n b x) ∧
 ∃ (y : Nat), List.length b + 1 - y < List.length b + 1 - x ∧
 y.le (List.length b) ∧
 c + BitVec.ofNat 32 ((y + 63) / 64) = c + BitVec.ofNat 32 ((x + 63) / 64) ∧
 0 = 0 ∧
 0 = 0 ∧
 0 = 0 ∧
 0 = 0 ∧
 0 = 0 ∧
 List.length b = List.length b ∧
 0 = 0 ∧
 b = b ∧
 (↑(List.length b) : Int) = (↑(List.length b) : Int) ∧
 (↑y : Int) = IntKind.i64.wrap ((↑x : Int) + (1 : Int)) ∧
 outL k c n b y = List.set (outL k c n b x) (↑x : Int).toNat (List.getD b (↑x : Int).toNat (0 : BitVec 8) ^^^ List.getD (blkL k c n x) ((↑x : Int).tmod (64 : Int)).toNat (0 : BitVec 8)) ∧
 k 0 = k 0 ∧
 k 1 = k 1 ∧
 k 2 = k 2 ∧
 k 3 = k 3 ∧
 k 4 = k 4 ∧
 k 5 = k 5 ∧
 k 6 = k 6 ∧
 k 7 = k 7 ∧
 k 8 = k 8 ∧
 k 9 = k 9 ∧
 k 10 = k 10 ∧
 k 11 = k 11 ∧
 k 12 = k 12 ∧
 k 13 = k 13 ∧
 k 14 = k 14 ∧
 k 15 = k 15 ∧
 k 16 = k 16 ∧
 k 17 = k 17 ∧
 k 18 = k 18 ∧
 k 19 = k 19 ∧
 k 20 = k 20 ∧
 k 21 = k 21 ∧
 k 22 = k 22 ∧
 k 23 = k 23 ∧
 k 24 = k 24 ∧
 k 25 = k 25 ∧
 k 26 = k 26 ∧
 k 27 = k 27 ∧
 k 28 = k 28 ∧
 k 29 = k 29 ∧
 k 30 = k 30 ∧
 k 31 = k 31 ∧
 n 0 = n 0 ∧
 n 1 = n 1 ∧
 n 2 = n 2 ∧
 n 3 = n 3 ∧
 n 4 = n 4 ∧
 n 5 = n 5 ∧
 n 6 = n 6 ∧
 n 7 = n 7 ∧
 n 8 = n 8 ∧
 n 9 = n 9 ∧
 n 10 = n 10 ∧
 n 11 = n 11 ∧
 blkL k c n y = blkL k c n x ∧
 True) ((chaL (re32 k) (c + BitVec.ofNat 32 ((x + 63) / 64)) (re12 n)).length = List.length (blkL k c n x) ∧
 (0 : Int) ≤ (↑x : Int).tmod (64 : Int) ∧
 ((↑x : Int).tmod (64 : Int)).toNat < 64 ∧
 ((↑x : Int).tmod (64 : Int)).toNat < (chaL (re32 k) (c + BitVec.ofNat 32 ((x + 63) / 64)) (re12 n)).length ∧
 (0 : Int) ≤ (↑x : Int) ∧
 (↑x : Int).toNat < List.length b ∧
 (↑x : Int).toNat < List.length (outL k c n b x) ∧
 ∃ (y : Nat), List.length b + 1 - y < List.length b + 1 - x ∧
 y.le (List.length b) ∧
 c + BitVec.ofNat 32 ((y + 63) / 64) = c + BitVec.ofNat 32 ((x + 63) / 64) + BitVec.ofNat 32 1 ∧
 0 = 0 ∧
 0 = 0 ∧
 0 = 0 ∧
 0 = 0 ∧
 0 = 0 ∧
 List.length b = List.length b ∧
 0 = 0 ∧
 b = b ∧
 (↑(List.length b) : Int) = (↑(List.length b) : Int) ∧
 (↑y : Int) = IntKind.i64.wrap ((↑x : Int) + (1 : Int)) ∧
 outL k c n b y = List.set (outL k c n b x) (↑x : Int).toNat (List.getD b (↑x : Int).toNat (0 : BitVec 8) ^^^ (chaL (re32 k) (c + BitVec.ofNat 32 ((x + 63) / 64)) (re12 n)).getD ((↑x : Int).tmod (64 : Int)).toNat (0 : BitVec 8)) ∧
 k 0 = k 0 ∧
 k 1 = k 1 ∧
 k 2 = k 2 ∧
 k 3 = k 3 ∧
 k 4 = k 4 ∧
 k 5 = k 5 ∧
 k 6 = k 6 ∧
 k 7 = k 7 ∧
 k 8 = k 8 ∧
 k 9 = k 9 ∧
 k 10 = k 10 ∧
 k 11 = k 11 ∧
 k 12 = k 12 ∧
 k 13 = k 13 ∧
 k 14 = k 14 ∧
 k 15 = k 15 ∧
 k 16 = k 16 ∧
 k 17 = k 17 ∧
 k 18 = k 18 ∧
 k 19 = k 19 ∧
 k 20 = k 20 ∧
 k 21 = k 21 ∧
 k 22 = k 22 ∧
 k 23 = k 23 ∧
 k 24 = k 24 ∧
 k 25 = k 25 ∧
 k 26 = k 26 ∧
 k 27 = k 27 ∧
 k 28 = k 28 ∧
 k 29 = k 29 ∧
 k 30 = k 30 ∧
 k 31 = k 31 ∧
 n 0 = n 0 ∧
 n 1 = n 1 ∧
 n 2 = n 2 ∧
 n 3 = n 3 ∧
 n 4 = n 4 ∧
 n 5 = n 5 ∧
 n 6 = n 6 ∧
 n 7 = n 7 ∧
 n 8 = n 8 ∧
 n 9 = n 9 ∧
 n 10 = n 10 ∧
 n 11 = n 11 ∧
 blkL k c n y = (chaL (re32 k) (c + BitVec.ofNat 32 ((x + 63) / 64)) (re12 n)) ∧
 True) (decide ((↑x : Int).tmod (64 : Int) = (0 : Int)))) (decide ((↑x : Int) < (↑(List.length b) : Int))) : Prop) := by kernel_rfl
set_option maxRecDepth 100000 in
theorem vc16q (k : F8) (c : B32) (n : F8) (b : By) : bodyP Tryd.prog (K9.withSym sym16) gl0 [] [(4, ls16 k c n b)] 3000 Tryd.f52 0 [aggB 32 k, .u32 c, aggB 12 n, .rb false b .unk] [] (retQ Tryd.prog Tryd.f52 0 ⟨[], .slice 0 0 1 b.length .ow .unk, [], [⟨.bytes (strL k c n b), true, 1⟩]⟩) = (
(∃ (x : Nat), (64 * x < List.length b + 64 ∧
 (x = 0 ∨ 64 * (x - 1) < List.length b)) ∧
 c = c ∧
 b = b ∧
 0 = 0 ∧
 0 = 0 ∧
 0 = 0 ∧
 0 = 0 ∧
 0 = 0 ∧
 Min.min (64 * x) (List.length b) = 0 ∧
 (↑(64 * x) : Int) = (0 : Int) ∧
 strL k c n (List.take (64 * x) b) = [] ∧
 k 0 = k 0 ∧
 k 1 = k 1 ∧
 k 2 = k 2 ∧
 k 3 = k 3 ∧
 k 4 = k 4 ∧
 k 5 = k 5 ∧
 k 6 = k 6 ∧
 k 7 = k 7 ∧
 k 8 = k 8 ∧
 k 9 = k 9 ∧
 k 10 = k 10 ∧
 k 11 = k 11 ∧
 k 12 = k 12 ∧
 k 13 = k 13 ∧
 k 14 = k 14 ∧
 k 15 = k 15 ∧
 k 16 = k 16 ∧
 k 17 = k 17 ∧
 k 18 = k 18 ∧
 k 19 = k 19 ∧
 k 20 = k 20 ∧
 k 21 = k 21 ∧
 k 22 = k 22 ∧
 k 23 = k 23 ∧
 k 24 = k 24 ∧
 k 25 = k 25 ∧
 k 26 = k 26 ∧
 k 27 = k 27 ∧
 k 28 = k 28 ∧
 k 29 = k 29 ∧
 k 30 = k 30 ∧
 k 31 = k 31 ∧
 n 0 = n 0 ∧
 n 1 = n 1 ∧
 n 2 = n 2 ∧
 n 3 = n 3 ∧
 n 4 = n 4 ∧
 n 5 = n 5 ∧
 n 6 = n 6 ∧
 n 7 = n 7 ∧
 n 8 = n 8 ∧
 n 9 = n 9 ∧
 n 10 = n 10 ∧
 n 11 = n 11 ∧
 True) ∧
 ∀ (x : Nat), 64 * x < List.length b + 64 ∧
 (x = 0 ∨ 64 * (x - 1) < List.length b) → @Bool.rec (fun _ => Prop) (0 = 0 ∧
 0 = 0 ∧
 0 = 0 ∧
 List.length b = Min.min (64 * x) (List.length b) ∧
 strL k c n b = strL k c n (List.take (64 * x) b) ∧
 True) ((chaL (re32 k) (c + BitVec.ofInt 32 (IntKind.i64.wrap ((↑(64 * x) : Int).tdiv (64 : Int)))) (re12 n)).length = 64 ∧
 (∃ (x_1 : Nat), (64 * x ≤ x_1 ∧
 x_1 ≤ List.length b ∧
 x_1 ≤ 64 * x + 64) ∧
 c = c ∧
 b = b ∧
 0 = 0 ∧
 0 = 0 ∧
 0 = 0 ∧
 0 = 0 ∧
 0 = 0 ∧
 x_1 = Min.min (64 * x) (List.length b) ∧
 (↑(64 * x) : Int) = (↑(64 * x) : Int) ∧
 0 = 0 ∧
 (↑x_1 : Int) = (↑(64 * x) : Int) ∧
 strL k c n (List.take x_1 b) = strL k c n (List.take (64 * x) b) ∧
 k 0 = k 0 ∧
 k 1 = k 1 ∧
 k 2 = k 2 ∧
 k 3 = k 3 ∧
 k 4 = k 4 ∧
 k 5 = k 5 ∧
 k 6 = k 6 ∧
 k 7 = k 7 ∧
 k 8 = k 8 ∧
 k 9 = k 9 ∧
 k 10 = k 10 ∧
 k 11 = k 11 ∧
 k 12 = k 12 ∧
 k 13 = k 13 ∧
 k 14 = k 14 ∧
 k 15 = k 15 ∧
 k 16 = k 16 ∧
 k 17 = k 17 ∧
 k 18 = k 18 ∧
 k 19 = k 19 ∧
 k 20 = k 20 ∧
 k 21 = k 21 ∧
 k 22 = k 22 ∧
 k 23 = k 23 ∧
 k 24 = k 24 ∧
 k 25 = k 25 ∧
 k 26 = k 26 ∧
 k 27 = k 27 ∧
 k 28 = k 28 ∧
 k 29 = k 29 ∧
 k 30 = k 30 ∧
 k 31 = k 31 ∧
 n 0 = n 0 ∧
 n 1 = n 1 ∧
 n 2 = n 2 ∧
 n 3 = n 3 ∧
 n 4 = n 4 ∧
 n 5 = n 5 ∧
 n 6 = n 6 ∧
 n 7 = n 7 ∧
 n 8 = n 8 ∧
 n 9 = n 9 ∧
 n 10 = n 10 ∧
 n 11 = n 11 ∧
 chaL k (c + BitVec.ofNat 32 x) n = (chaL (re32 k) (c + BitVec.ofInt 32 (IntKind.i64.wrap ((↑(64 * x) : Int).tdiv (64 : Int)))) (re12 n)) ∧
 True) ∧
 ∀ (x_1 : Nat), 64 * x ≤ x_1 ∧
 x_1 ≤ List.length b ∧
 x_1 ≤ 64 * x + 64 → @Bool.rec (fun _ => Prop) (∃ (y : Nat), List.length b + 1 - y < List.length b + 1 - x ∧
 (64 * y < List.length b + 64 ∧
 (y = 0 ∨ 64 * (y - 1) < List.length b)) ∧
 c = c ∧
 b = b ∧
 0 = 0 ∧
 0 = 0 ∧
 0 = 0 ∧
 0 = 0 ∧
 0 = 0 ∧
 Min.min (64 * y) (List.length b) = x_1 ∧
 (↑(64 * y) : Int) = IntKind.i64.wrap ((↑(64 * x) : Int) + (64 : Int)) ∧
 strL k c n (List.take (64 * y) b) = strL k c n (List.take x_1 b) ∧
 k 0 = k 0 ∧
 k 1 = k 1 ∧
 k 2 = k 2 ∧
 k 3 = k 3 ∧
 k 4 = k 4 ∧
 k 5 = k 5 ∧
 k 6 = k 6 ∧
 k 7 = k 7 ∧
 k 8 = k 8 ∧
 k 9 = k 9 ∧
 k 10 = k 10 ∧
 k 11 = k 11 ∧
 k 12 = k 12 ∧
 k 13 = k 13 ∧
 k 14 = k 14 ∧
 k 15 = k 15 ∧
 k 16 = k 16 ∧
 k 17 = k 17 ∧
 k 18 = k 18 ∧
 k 19 = k 19 ∧
 k 20 = k 20 ∧
 k 21 = k 21 ∧
 k 22 = k 22 ∧
 k 23 = k 23 ∧
 k 24 = k 24 ∧
 k 25 = k 25 ∧
 k 26 = k 26 ∧
 k 27 = k 27 ∧
 k 28 = k 28 ∧
 k 29 = k 29 ∧
 k 30 = k 30 ∧
 k 31 = k 31 ∧
 n 0 = n 0 ∧
 n 1 = n 1 ∧
 n 2 = n 2 ∧
 n 3 = n 3 ∧
 n 4 = n 4 ∧
 n 5 = n 5 ∧
 n 6 = n 6 ∧
 n 7 = n 7 ∧
 n 8 = n 8 ∧
 n 9 = n 9 ∧
 n 10 = n 10 ∧
 n 11 = n 11 ∧
 True) (@Bool.rec (fun _ => Prop) (∃ (y : Nat), List.length b + 1 - y < List.length b + 1 - x ∧
 (64 * y < List.length b + 64 ∧
 (y = 0 ∨ 64 * (y - 1) < List.length b)) ∧
 c = c ∧
 b = b ∧
 0 = 0 ∧
 0 = 0 ∧
 0 = 0 ∧
 0 = 0 ∧
 0 = 0 ∧
 Min.min (64 * y) (List.length b) = x_1 ∧
 (↑(64 * y) : Int) = IntKind.i64.wrap ((↑(64 * x) : Int) + (64 : Int)) ∧
 strL k c n (List.take (64 * y) b) = strL k c n (List.take x_1 b) ∧
 k 0 = k 0 ∧
 k 1 = k 1 ∧
 k 2 = k 2 ∧
 k 3 = k 3 ∧
 k 4 = k 4 ∧
 k 5 = k 5 ∧
 k 6 = k 6 ∧
 k 7 = k 7 ∧
 k 8 = k 8 ∧
 k 9 = k 9 ∧
 k 10 = k 10 ∧
 k 11 = k 11 ∧
 k 12 = k 12 ∧
 k 13 = k 13 ∧
 k 14 = k 14 ∧
 k 15 = k 15 ∧
 k 16 = k 16 ∧
 k 17 = k 17 ∧
 k 18 = k 18 ∧
 k 19 = k 19 ∧
 k 20 = k 20 ∧
 k 21 = k 21 ∧
 k 22 = k 22 ∧
 k 23 = k 23 ∧
 k 24 = k 24 ∧
 k 25 = k 25 ∧
 k 26 = k 26 ∧
 k 27 = k 27 ∧
 k 28 = k 28 ∧
 k 29 = k 29 ∧
 k 30 = k 30 ∧
 k 31 = k 31 ∧
 n 0 = n 0 ∧
 n 1 = n 1 ∧
 n 2 = n 2 ∧
 n 3 = n 3 ∧
 n 4 = n 4 ∧
 n 5 = n 5 ∧
 n 6 = n 6 ∧
 n 7 = n 7 ∧
 n 8 = n 8 ∧
 n 9 = n 9 ∧
 n 10 = n 10 ∧
 n 11 = n 11 ∧
 True) ((0 : Int) ≤ (↑x_1 : Int) ∧
 (↑x_1 : Int).toNat < List.length b ∧
 (0 : Int) ≤ IntKind.i64.wrap ((↑x_1 : Int) - (↑(64 * x) : Int)) ∧
 (IntKind.i64.wrap ((↑x_1 : Int) - (↑(64 * x) : Int))).toNat < 64 ∧
 (IntKind.i64.wrap ((↑x_1 : Int) - (↑(64 * x) : Int))).toNat < List.length (chaL k (c + BitVec.ofNat 32 x) n) ∧
 1 = [List.getD b (↑x_1 : Int).toNat (0 : BitVec 8) ^^^ List.getD (chaL k (c + BitVec.ofNat 32 x) n) (IntKind.i64.wrap ((↑x_1 : Int) - (↑(64 * x) : Int))).toNat (0 : BitVec 8)].length ∧
 x_1 = List.length (strL k c n (List.take x_1 b)) ∧
 roomFor x_1 [List.getD b (↑x_1 : Int).toNat (0 : BitVec 8) ^^^ List.getD (chaL k (c + BitVec.ofNat 32 x) n) (IntKind.i64.wrap ((↑x_1 : Int) - (↑(64 * x) : Int))).toNat (0 : BitVec 8)].length 1 ∧
 ∃ (y : Nat), List.length b + 1 - y < List.length b + 1 - x_1 ∧
 (64 * x ≤ y ∧
 y ≤ List.length b ∧
 y ≤ 64 * x + 64) ∧
 c = c ∧
 b = b ∧
 0 = 0 ∧
 0 = 0 ∧
 0 = 0 ∧
 0 = 0 ∧
 0 = 0 ∧
 y = x_1 + [List.getD b (↑x_1 : Int).toNat (0 : BitVec 8) ^^^ List.getD (chaL k (c + BitVec.ofNat 32 x) n) (IntKind.i64.wrap ((↑x_1 : Int) - (↑(64 * x) : Int))).toNat (0 : BitVec 8)].length ∧
 (↑(64 * x) : Int) = (↑(64 * x) : Int) ∧
 0 = 0 ∧
 (↑y : Int) = IntKind.i64.wrap ((↑x_1 : Int) + (1 : Int)) ∧
 strL k c n (List.take y b) = strL k c n (List.take x_1 b) ++ [List.getD b (↑x_1 : Int).toNat (0 : BitVec 8) ^^^ List.getD (chaL k (c + BitVec.ofNat 32 x) n) (IntKind.i64.wrap ((↑x_1 : Int) - (↑(64 * x) : Int))).toNat (0 : BitVec 8)] ∧
 k 0 = k 0 ∧
 k 1 = k 1 ∧
 k 2 = k 2 ∧
 k 3 = k 3 ∧
 k 4 = k 4 ∧
 k 5 = k 5 ∧
 k 6 = k 6 ∧
 k 7 = k 7 ∧
 k 8 = k 8 ∧
 k 9 = k 9 ∧
 k 10 = k 10 ∧
 k 11 = k 11 ∧
 k 12 = k 12 ∧
 k 13 = k 13 ∧
 k 14 = k 14 ∧
 k 15 = k 15 ∧
 k 16 = k 16 ∧
 k 17 = k 17 ∧
 k 18 = k 18 ∧
 k 19 = k 19 ∧
 k 20 = k 20 ∧
 k 21 = k 21 ∧
 k 22 = k 22 ∧
 k 23 = k 23 ∧
 k 24 = k 24 ∧
 k 25 = k 25 ∧
 k 26 = k 26 ∧
 k 27 = k 27 ∧
 k 28 = k 28 ∧
 k 29 = k 29 ∧
 k 30 = k 30 ∧
 k 31 = k 31 ∧
 n 0 = n 0 ∧
 n 1 = n 1 ∧
 n 2 = n 2 ∧
 n 3 = n 3 ∧
 n 4 = n 4 ∧
 n 5 = n 5 ∧
 n 6 = n 6 ∧
 n 7 = n 7 ∧
 n 8 = n 8 ∧
 n 9 = n 9 ∧
 n 10 = n 10 ∧
 n 11 = n 11 ∧
 chaL k (c + BitVec.ofNat 32 x) n = chaL k (c + BitVec.ofNat 32 x) n ∧
 True) (decide ((↑x_1 : Int) < IntKind.i64.wrap ((↑(64 * x) : Int) + (64 : Int))))) (decide ((↑x_1 : Int) < (↑(List.length b) : Int)))) (decide ((↑(64 * x) : Int) < (↑(List.length b) : Int))) : Prop) := by kernel_rfl
end Go.Sym

namespace Go.Spec
theorem chaB_re (k : F8) (c : B32) (n : F8) : chaB (re32 k) c (re12 n) = chaB k c n := by kernel_rfl
theorem chaL_re (k : F8) (c : B32) (n : F8) : chaL (re32 k) c (re12 n) = chaL k c n := by unfold chaL; rw [chaB_re]
theorem chaL_length (k : F8) (c : B32) (n : F8) : (chaL k c n).length = 64 := by simp [chaL]
theorem chaL_get (k : F8) (c : B32) (n : F8) (j : Nat) (h : j < 64) : (chaL k c n).getD j 0 = chaB k c n j := by
  simp [chaL, List.getD, h]
theorem strL_take (k : F8) (c : B32) (n : F8) (b : By) (j : Nat) (h : j ≤ b.length) : strL k c n (b.take j) = (List.range j).map fun i => b.getD i 0 ^^^ strB k c n i := by
  unfold strL
  rw [List.length_take, Nat.min_eq_left h]
  apply List.map_congr_left
  intro i hi
  have hi : i < j := by simpa using hi
  congr 1
  simp only [List.getD]
  rw [List.getElem?_take, if_pos hi]
theorem strL_length (k : F8) (c : B32) (n : F8) (b : By) : (strL k c n b).length = b.length := by simp [strL]
theorem outL_zero (k : F8) (c : B32) (n : F8) (b : By) : outL k c n b 0 = List.replicate b.length 0 := by
  apply List.ext_getElem
  · simp [outL]
  · intro i h1 h2
    simp [outL]
theorem outL_all (k : F8) (c : B32) (n : F8) (b : By) : outL k c n b b.length = strL k c n b := by
  unfold outL strL
  apply List.map_congr_left
  intro i hi
  rw [if_pos (by simpa using hi)]
theorem outL_length (k : F8) (c : B32) (n : F8) (b : By) (x : Nat) : (outL k c n b x).length = b.length := by simp [outL]
theorem blkL_length (k : F8) (c : B32) (n : F8) (x : Nat) : (blkL k c n x).length = 64 := by
  unfold blkL; split <;> simp [chaL]
theorem outL_succ (k : F8) (c : B32) (n : F8) (b : By) (x : Nat) (h : x < b.length) : (outL k c n b x).set x (b.getD x 0 ^^^ strB k c n x) = outL k c n b (x + 1) :=
  Go.Sym.fill_row (fun i => b.getD i 0 ^^^ strB k c n i) 0 b.length x h
end Go.Spec
namespace Go.Sym
open Go.Proofs Go.Spec
set_option linter.unusedVariables false
theorem b15q (k : F8) (c : B32) (n : F8) (b : By) (hb : b.length < 1099511627776) : Must (bodyP Tryd.prog (K9.withSym sym15) gl0 [] [(5, ls15 k c n b)] 3000 Tryd.f50 0 [aggB 32 k, .u32 c, aggB 12 n, .rb false b .unk] [] (retQ Tryd.prog Tryd.f50 0 ⟨[], .slice 0 0 1 b.length .ow .unk, [], [⟨.bytes (strL k c n b), true, 1⟩]⟩)) := by
  constructor
  rw [vc15q]
  simp only [Int.toNat_natCast, chaL_re]
  refine ⟨by omega, by omega, by omega, by omega, by omega, ⟨0, Nat.zero_le _, ?_⟩, fun x hx => ?_⟩
  · simp [outL_zero, blkL]
  · replace hx : x ≤ b.length := hx
    refine brec (fun h => ?_) (fun h => ?_)
    · replace h : x < b.length := by have := dlt.1 h; omega
      have t1 : ((x : Int)).tmod 64 = ((x % 64 : Nat) : Int) := tmod_nat x 64
      have w1 : IntKind.i64.wrap ((x : Int) + 1) = ((x + 1 : Nat) : Int) := wrap_nat _ (by simp) (by omega)
      have hs := outL_succ k c n b x h
      have hm : x % 64 < 64 := Nat.mod_lt _ (by omega)
      simp only [t1, w1, Int.toNat_natCast, chaL_length, outL_length, blkL_length, true_and, and_true]
      refine ⟨by omega, h, ?_⟩
      refine brec (fun h2 => ?_) (fun h2 => ?_)
      · replace h2 : x % 64 = 0 := by simp at h2; omega
        have q1 : (x + 63) / 64 = x / 64 := by omega
        have q2 : (x + 1 + 63) / 64 = x / 64 + 1 := by omega
        rw [q1, chaL_get _ _ _ _ hm]
        have hs' : (outL k c n b x).set x (b.getD x 0 ^^^ chaB k (c + BitVec.ofNat 32 (x / 64)) n (x % 64)) = outL k c n b (x + 1) := hs
        rw [hs']
        refine ⟨by omega, hm, hm, by omega, h, h, x + 1, by omega, h, ?_⟩
        rw [q2]
        have hb2 : blkL k c n (x + 1) = chaL k (c + BitVec.ofNat 32 (x / 64)) n := by simp [blkL]
        rw [hb2]
        simp [BitVec.ofNat_add, BitVec.add_assoc]
      · replace h2 : x % 64 ≠ 0 := by simp at h2; omega
        have q1 : (x + 1 + 63) / 64 = (x + 63) / 64 := by omega
        have q2 : (x - 1) / 64 = x / 64 := by omega
        have hb1 : blkL k c n x = chaL k (c + BitVec.ofNat 32 (x / 64)) n := by
          unfold blkL; rw [if_neg (by omega), q2]
        have hb2 : blkL k c n (x + 1) = chaL k (c + BitVec.ofNat 32 (x / 64)) n := by simp [blkL]
        rw [hb1, chaL_get _ _ _ _ hm]
        have hs' : (outL k c n b x).set x (b.getD x 0 ^^^ chaB k (c + BitVec.ofNat 32 (x / 64)) n (x % 64)) = outL k c n b (x + 1) := hs
        rw [hs']
        refine ⟨by omega, hm, hm, by omega, h, h, x + 1, by omega, h, ?_⟩
        rw [q1, hb2]
        simp
    · replace h : x = b.length := by have := ndlt.1 h; omega
      subst h
      rw [outL_all]
      simp
theorem b16q (k : F8) (c : B32) (n : F8) (b : By) (hb : b.length < 1099511627776) : Must (bodyP Tryd.prog (K9.withSym sym16) gl0 [] [(4, ls16 k c n b)] 3000 Tryd.f52 0 [aggB 32 k, .u32 c, aggB 12 n, .rb false b .unk] [] (retQ Tryd.prog Tryd.f52 0 ⟨[], .slice 0 0 1 b.length .ow .unk, [], [⟨.bytes (strL k c n b), true, 1⟩]⟩)) := by
  constructor
  rw [vc16q]
  simp only [chaL_re]
  refine ⟨⟨0, by omega, by simp [strL]⟩, fun x hx => ?_⟩
  refine brec (fun h => ?_) (fun h => ?_)
  · replace h : 64 * x < b.length := by have := dlt.1 h; omega
    have t1 : (((64 * x : Nat) : Int)).tdiv 64 = ((64 * x / 64 : Nat) : Int) := tdiv_nat (64 * x) 64
    have w1 : IntKind.i64.wrap ((64 * x / 64 : Nat) : Int) = ((x : Nat) : Int) := wrap_nat _ (by omega) (by omega)
    have w2 : IntKind.i64.wrap (((64 * x : Nat) : Int) + 64) = ((64 * x + 64 : Nat) : Int) := wrap_nat _ (by simp) (by omega)
    have m1 : min (64 * x) b.length = 64 * x := by omega
    simp only [t1, w1, w2, m1, BitVec.ofInt_natCast, chaL_length, true_and, and_true]
    refine ⟨⟨64 * x, by omega, by simp⟩, fun j hj => ?_⟩
    have nxt : ¬ (j < b.length ∧ j < 64 * x + 64) → ∃ (y : Nat), b.length + 1 - y < b.length + 1 - x ∧ (64 * y < b.length + 64 ∧ (y = 0 ∨ 64 * (y - 1) < b.length)) ∧ min (64 * y) b.length = j ∧ ((64 * y : Nat) : Int) = ((64 * x + 64 : Nat) : Int) ∧ strL k c n (List.take (64 * y) b) = strL k c n (List.take j b) := by
      intro hn
      refine ⟨x + 1, by omega, by omega, by omega, by omega, ?_⟩
      have : min (64 * (x + 1)) b.length = j := by omega
      rw [← this]
      congr 1
      rcases Nat.le_total (64 * (x + 1)) b.length with h3 | h3
      · rw [Nat.min_eq_left h3]
      · rw [Nat.min_eq_right h3, List.take_of_length_le h3, List.take_of_length_le (Nat.le_refl _)]
    refine brec (fun h1 => brec (fun h2 => ?_) (fun h2 => ?_)) (fun h1 => ?_)
    · replace h1 : j < b.length := by have := dlt.1 h1; omega
      replace h2 : j < 64 * x + 64 := by have := dlt.1 h2; omega
      have w3 : IntKind.i64.wrap ((j : Int) - ((64 * x : Nat) : Int)) = ((j - 64 * x : Nat) : Int) := wrap_nat _ (by omega) (by omega)
      have w4 : IntKind.i64.wrap ((j : Int) + 1) = ((j + 1 : Nat) : Int) := wrap_nat _ (by simp) (by omega)
      have hg := chaL_get k (c + BitVec.ofNat 32 x) n (j - 64 * x) (by omega)
      have e1 : j / 64 = x := by omega
      have e2 : j % 64 = j - 64 * x := by omega
      have hs : strL k c n (b.take (j + 1)) = strL k c n (b.take j) ++ [b.getD j 0 ^^^ chaB k (c + BitVec.ofNat 32 x) n (j - 64 * x)] := by
        rw [strL_take _ _ _ _ _ (by omega), strL_take _ _ _ _ _ (by omega), List.range_succ, List.map_append]
        simp only [List.map_cons, List.map_nil, strB, e1, e2]
      have hl : (strL k c n (b.take j)).length = j := by rw [strL_length, List.length_take]; omega
      simp only [w3, w4, Int.toNat_natCast, hg, hl, List.length_singleton, true_and]
      unfold roomFor
      exact ⟨by omega, h1, by omega, by omega, by omega, by omega, j + 1, by omega, by omega, rfl, rfl, hs⟩
    · exact nxt (by have := ndlt.1 h2; omega)
    · exact nxt (by have := ndlt.1 h1; omega)
  · replace h : b.length ≤ 64 * x := by have := ndlt.1 h; omega
    rw [List.take_of_length_le h, Nat.min_eq_right h]
    simp
end Go.Sym

namespace Go.Spec
def sigL : By := [BitVec.ofNat 8 101, BitVec.ofNat 8 120, BitVec.ofNat 8 112, BitVec.ofNat 8 97, BitVec.ofNat 8 110, BitVec.ofNat 8 100, BitVec.ofNat 8 32, BitVec.ofNat 8 51, BitVec.ofNat 8 50, BitVec.ofNat 8 45, BitVec.ofNat 8 98, BitVec.ofNat 8 121, BitVec.ofNat 8 116, BitVec.ofNat 8 101, BitVec.ofNat 8 32, BitVec.ofNat 8 107]
def cntL (c : B32) : By := [BitVec.setWidth 8 c, BitVec.setWidth 8 (c >>> 8), BitVec.setWidth 8 (c >>> 16), BitVec.setWidth 8 (c >>> 24)]
end Go.Spec
namespace Go.Sym
open Go.Proofs Go.Spec
set_option linter.unusedVariables false
set_option maxRecDepth 100000 in
theorem v14 (k : F8) (c : B32) (n : F8) : bodyP Tryd.prog K8 gl0 [] [] 6000 Tryd.f68 0 [aggB 32 k, .u32 c, aggB 12 n] [] (retQ Tryd.prog Tryd.f68 0 (rt (aggB 64 (ref64 k c n)))) = (
0 < 16 ∧
 0 < 16 ∧
 16 = 16 ∧
 roomFor 16 (rg 32 k).length 1 ∧
 4 = (cntL c).length ∧
 16 + (rg 32 k).length = (sigL ++ (rg 32 k)).length ∧
 roomFor (16 + (rg 32 k).length) (cntL c).length 1 ∧
 16 + (rg 32 k).length + (cntL c).length = (sigL ++ (rg 32 k) ++ (cntL c)).length ∧
 roomFor (16 + (rg 32 k).length + (cntL c).length) (rg 12 n).length 1 ∧
 (0 : Int) ≤ Int.ofNat 15 ∧
 (0 : Int) ≤ (63 : Int) ∧
 63 < 16 + (rg 32 k).length + (cntL c).length + (rg 12 n).length ∧
 63 < (sigL ++ (rg 32 k) ++ (cntL c) ++ (rg 12 n)).length ∧
 (0 : Int) ≤ Int.ofNat 15 ∧
 (0 : Int) ≤ Int.ofNat 15 ∧
 (0 : Int) ≤ Int.ofNat 62 ∧
 62 < 16 + (rg 32 k).length + (cntL c).length + (rg 12 n).length ∧
 62 < (sigL ++ (rg 32 k) ++ (cntL c) ++ (rg 12 n)).length ∧
 (0 : Int) ≤ Int.ofNat 15 ∧
 (0 : Int) ≤ Int.ofNat 15 ∧
 (0 : Int) ≤ Int.ofNat 61 ∧
 61 < 16 + (rg 32 k).length + (cntL c).length + (rg 12 n).length ∧
 61 < (sigL ++ (rg 32 k) ++ (cntL c) ++ (rg 12 n)).length ∧
 (0 : Int) ≤ Int.ofNat 15 ∧
 (0 : Int) ≤ Int.ofNat 15 ∧
 (0 : Int) ≤ Int.ofNat 60 ∧
 60 < 16 + (rg 32 k).length + (cntL c).length + (rg 12 n).length ∧
 60 < (sigL ++ (rg 32 k) ++ (cntL c) ++ (rg 12 n)).length ∧
 (0 : Int) ≤ Int.ofNat 15 ∧
 (0 : Int) ≤ Int.ofNat 14 ∧
 (0 : Int) ≤ Int.ofNat 59 ∧
 59 < 16 + (rg 32 k).length + (cntL c).length + (rg 12 n).length ∧
 59 < (sigL ++ (rg 32 k) ++ (cntL c) ++ (rg 12 n)).length ∧
 (0 : Int) ≤ Int.ofNat 14 ∧
 (0 : Int) ≤ Int.ofNat 14 ∧
 (0 : Int) ≤ Int.ofNat 58 ∧
 58 < 16 + (rg 32 k).length + (cntL c).length + (rg 12 n).length ∧
 58 < (sigL ++ (rg 32 k) ++ (cntL c) ++ (rg 12 n)).length ∧
 (0 : Int) ≤ Int.ofNat 14 ∧
 (0 : Int) ≤ Int.ofNat 14 ∧
 (0 : Int) ≤ Int.ofNat 57 ∧
 57 < 16 + (rg 32 k).length + (cntL c).length + (rg 12 n).length ∧
 57 < (sigL ++ (rg 32 k) ++ (cntL c) ++ (rg 12 n)).length ∧
 (0 : Int) ≤ Int.ofNat 14 ∧
 (0 : Int) ≤ Int.ofNat 14 ∧
 (0 : Int) ≤ Int.ofNat 56 ∧
 56 < 16 + (rg 32 k).length + (cntL c).length + (rg 12 n).length ∧
 56 < (sigL ++ (rg 32 k) ++ (cntL c) ++ (rg 12 n)).length ∧
 (0 : Int) ≤ Int.ofNat 14 ∧
 (0 : Int) ≤ Int.ofNat 13 ∧
 (0 : Int) ≤ Int.ofNat 55 ∧
 55 < 16 + (rg 32 k).length + (cntL c).length + (rg 12 n).length ∧
 55 < (sigL ++ (rg 32 k) ++ (cntL c) ++ (rg 12 n)).length ∧
 (0 : Int) ≤ Int.ofNat 13 ∧
 (0 : Int) ≤ Int.ofNat 13 ∧
 (0 : Int) ≤ Int.ofNat 54 ∧
 54 < 16 + (rg 32 k).length + (cntL c).length + (rg 12 n).length ∧
 54 < (sigL ++ (rg 32 k) ++ (cntL c) ++ (rg 12 n)).length ∧
 (0 : Int) ≤ Int.ofNat 13 ∧
 (0 : Int) ≤ Int.ofNat 13 ∧
 (0 : Int) ≤ Int.ofNat 53 ∧
 53 < 16 + (rg 32 k).length + (cntL c).length + (rg 12 n).length ∧
 53 < (sigL ++ (rg 32 k) ++ (cntL c) ++ (rg 12 n)).length ∧
 (0 : Int) ≤ Int.ofNat 13 ∧
 (0 : Int) ≤ Int.ofNat 13 ∧
 (0 : Int) ≤ Int.ofNat 52 ∧
 52 < 16 + (rg 32 k).length + (cntL c).length + (rg 12 n).length ∧
 52 < (sigL ++ (rg 32 k) ++ (cntL c) ++ (rg 12 n)).length ∧
 (0 : Int) ≤ Int.ofNat 13 ∧
 (0 : Int) ≤ Int.ofNat 12 ∧
 (0 : Int) ≤ Int.ofNat 51 ∧
 51 < 16 + (rg 32 k).length + (cntL c).length + (rg 12 n).length ∧
 51 < (sigL ++ (rg 32 k) ++ (cntL c) ++ (rg 12 n)).length ∧
 (0 : Int) ≤ Int.ofNat 12 ∧
 (0 : Int) ≤ Int.ofNat 12 ∧
 (0 : Int) ≤ Int.ofNat 50 ∧
 50 < 16 + (rg 32 k).length + (cntL c).length + (rg 12 n).length ∧
 50 < (sigL ++ (rg 32 k) ++ (cntL c) ++ (rg 12 n)).length ∧
 (0 : Int) ≤ Int.ofNat 12 ∧
 (0 : Int) ≤ Int.ofNat 12 ∧
 (0 : Int) ≤ Int.ofNat 49 ∧
 49 < 16 + (rg 32 k).length + (cntL c).length + (rg 12 n).length ∧
 49 < (sigL ++ (rg 32 k) ++ (cntL c) ++ (rg 12 n)).length ∧
 (0 : Int) ≤ Int.ofNat 12 ∧
 (0 : Int) ≤ Int.ofNat 12 ∧
 (0 : Int) ≤ Int.ofNat 48 ∧
 48 < 16 + (rg 32 k).length + (cntL c).length + (rg 12 n).length ∧
 48 < (sigL ++ (rg 32 k) ++ (cntL c) ++ (rg 12 n)).length ∧
 (0 : Int) ≤ Int.ofNat 12 ∧
 (0 : Int) ≤ Int.ofNat 11 ∧
 (0 : Int) ≤ Int.ofNat 47 ∧
 47 < 16 + (rg 32 k).length + (cntL c).length + (rg 12 n).length ∧
 47 < (sigL ++ (rg 32 k) ++ (cntL c) ++ (rg 12 n)).length ∧
 (0 : Int) ≤ Int.ofNat 11 ∧
 (0 : Int) ≤ Int.ofNat 11 ∧
 (0 : Int) ≤ Int.ofNat 46 ∧
 46 < 16 + (rg 32 k).length + (cntL c).length + (rg 12 n).length ∧
 46 < (sigL ++ (rg 32 k) ++ (cntL c) ++ (rg 12 n)).length ∧
 (0 : Int) ≤ Int.ofNat 11 ∧
 (0 : Int) ≤ Int.ofNat 11 ∧
 (0 : Int) ≤ Int.ofNat 45 ∧
 45 < 16 + (rg 32 k).length + (cntL c).length + (rg 12 n).length ∧
 45 < (sigL ++ (rg 32 k) ++ (cntL c) ++ (rg 12 n)).length ∧
 (0 : Int) ≤ Int.ofNat 11 ∧
 (0 : Int) ≤ Int.ofNat 11 ∧
 (0 : Int) ≤ Int.ofNat 44 ∧
 44 < 16 + (rg 32 k).length + (cntL c).length + (rg 12 n).length ∧
 44 < (sigL ++ (rg 32 k) ++ (cntL c) ++ (rg 12 n)).length ∧
 (0 : Int) ≤ Int.ofNat 11 ∧
 (0 : Int) ≤ Int.ofNat 10 ∧
 (0 : Int) ≤ Int.ofNat 43 ∧
 43 < 16 + (rg 32 k).length + (cntL c).length + (rg 12 n).length ∧
 43 < (sigL ++ (rg 32 k) ++ (cntL c) ++ (rg 12 n)).length ∧
 (0 : Int) ≤ Int.ofNat 10 ∧
 (0 : Int) ≤ Int.ofNat 10 ∧
 (0 : Int) ≤ Int.ofNat 42 ∧
 42 < 16 + (rg 32 k).length + (cntL c).length + (rg 12 n).length ∧
 42 < (sigL ++ (rg 32 k) ++ (cntL c) ++ (rg 12 n)).length ∧
 (0 : Int) ≤ Int.ofNat 10 ∧
 (0 : Int) ≤ Int.ofNat 10 ∧
 (0 : Int) ≤ Int.ofNat 41 ∧
 41 < 16 + (rg 32 k).length + (cntL c).length + (rg 12 n).length ∧
 41 < (sigL ++ (rg 32 k) ++ (cntL c) ++ (rg 12 n)).length ∧
 (0 : Int) ≤ Int.ofNat 10 ∧
 (0 : Int) ≤ Int.ofNat 10 ∧
 (0 : Int) ≤ Int.ofNat 40 ∧
 40 < 16 + (rg 32 k).length + (cntL c).length + (rg 12 n).length ∧
 40 < (sigL ++ (rg 32 k) ++ (cntL c) ++ (rg 12 n)).length ∧
 (0 : Int) ≤ Int.ofNat 10 ∧
 (0 : Int) ≤ Int.ofNat 9 ∧
 (0 : Int) ≤ Int.ofNat 39 ∧
 39 < 16 + (rg 32 k).length + (cntL c).length + (rg 12 n).length ∧
 39 < (sigL ++ (rg 32 k) ++ (cntL c) ++ (rg 12 n)).length ∧
 (0 : Int) ≤ Int.ofNat 9 ∧
 (0 : Int) ≤ Int.ofNat 9 ∧
 (0 : Int) ≤ Int.ofNat 38 ∧
 38 < 16 + (rg 32 k).length + (cntL c).length + (rg 12 n).length ∧
 38 < (sigL ++ (rg 32 k) ++ (cntL c) ++ (rg 12 n)).length ∧
 (0 : Int) ≤ Int.ofNat 9 ∧
 (0 : Int) ≤ Int.ofNat 9 ∧
 (0 : Int) ≤ Int.ofNat 37 ∧
 37 < 16 + (rg 32 k).length + (cntL c).length + (rg 12 n).length ∧
 37 < (sigL ++ (rg 32 k) ++ (cntL c) ++ (rg 12 n)).length ∧
 (0 : Int) ≤ Int.ofNat 9 ∧
 (0 : Int) ≤ Int.ofNat 9 ∧
 (0 : Int) ≤ Int.ofNat 36 ∧
 36 < 16 + (rg 32 k).length + (cntL c).length + (rg 12 n).length ∧
 36 < (sigL ++ (rg 32 k) ++ (cntL c) ++ (rg 12 n)).length ∧
 (0 : Int) ≤ Int.ofNat 9 ∧
 (0 : Int) ≤ Int.ofNat 8 ∧
 (0 : Int) ≤ Int.ofNat 35 ∧
 35 < 16 + (rg 32 k).length + (cntL c).length + (rg 12 n).length ∧
 35 < (sigL ++ (rg 32 k) ++ (cntL c) ++ (rg 12 n)).length ∧
 (0 : Int) ≤ Int.ofNat 8 ∧
 (0 : Int) ≤ Int.ofNat 8 ∧
 (0 : Int) ≤ Int.ofNat 34 ∧
 34 < 16 + (rg 32 k).length + (cntL c).length + (rg 12 n).length ∧
 34 < (sigL ++ (rg 32 k) ++ (cntL c) ++ (rg 12 n)).length ∧
 (0 : Int) ≤ Int.ofNat 8 ∧
 (0 : Int) ≤ Int.ofNat 8 ∧
 (0 : Int) ≤ Int.ofNat 33 ∧
 33 < 16 + (rg 32 k).length + (cntL c).length + (rg 12 n).length ∧
 33 < (sigL ++ (rg 32 k) ++ (cntL c) ++ (rg 12 n)).length ∧
 (0 : Int) ≤ Int.ofNat 8 ∧
 (0 : Int) ≤ Int.ofNat 8 ∧
 (0 : Int) ≤ Int.ofNat 32 ∧
 32 < 16 + (rg 32 k).length + (cntL c).length + (rg 12 n).length ∧
 32 < (sigL ++ (rg 32 k) ++ (cntL c) ++ (rg 12 n)).length ∧
 (0 : Int) ≤ Int.ofNat 8 ∧
 (0 : Int) ≤ Int.ofNat 7 ∧
 (0 : Int) ≤ Int.ofNat 31 ∧
 31 < 16 + (rg 32 k).length + (cntL c).length + (rg 12 n).length ∧
 31 < (sigL ++ (rg 32 k) ++ (cntL c) ++ (rg 12 n)).length ∧
 (0 : Int) ≤ Int.ofNat 7 ∧
 (0 : Int) ≤ Int.ofNat 7 ∧
 (0 : Int) ≤ Int.ofNat 30 ∧
 30 < 16 + (rg 32 k).length + (cntL c).length + (rg 12 n).length ∧
 30 < (sigL ++ (rg 32 k) ++ (cntL c) ++ (rg 12 n)).length ∧
 (0 : Int) ≤ Int.ofNat 7 ∧
 (0 : Int) ≤ Int.ofNat 7 ∧
 (0 : Int) ≤ Int.ofNat 29 ∧
 29 < 16 + (rg 32 k).length + (cntL c).length + (rg 12 n).length ∧
 29 < (sigL ++ (rg 32 k) ++ (cntL c) ++ (rg 12 n)).length ∧
 (0 : Int) ≤ Int.ofNat 7 ∧
 (0 : Int) ≤ Int.ofNat 7 ∧
 (0 : Int) ≤ Int.ofNat 28 ∧
 28 < 16 + (rg 32 k).length + (cntL c).length + (rg 12 n).length ∧
 28 < (sigL ++ (rg 32 k) ++ (cntL c) ++ (rg 12 n)).length ∧
 (0 : Int) ≤ Int.ofNat 7 ∧
 (0 : Int) ≤ Int.ofNat 6 ∧
 (0 : Int) ≤ Int.ofNat 27 ∧
 27 < 16 + (rg 32 k).length + (cntL c).length + (rg 12 n).length ∧
 27 < (sigL ++ (rg 32 k) ++ (cntL c) ++ (rg 12 n)).length ∧
 (0 : Int) ≤ Int.ofNat 6 ∧
 (0 : Int) ≤ Int.ofNat 6 ∧
 (0 : Int) ≤ Int.ofNat 26 ∧
 26 < 16 + (rg 32 k).length + (cntL c).length + (rg 12 n).length ∧
 26 < (sigL ++ (rg 32 k) ++ (cntL c) ++ (rg 12 n)).length ∧
 (0 : Int) ≤ Int.ofNat 6 ∧
 (0 : Int) ≤ Int.ofNat 6 ∧
 (0 : Int) ≤ Int.ofNat 25 ∧
 25 < 16 + (rg 32 k).length + (cntL c).length + (rg 12 n).length ∧
 25 < (sigL ++ (rg 32 k) ++ (cntL c) ++ (rg 12 n)).length ∧
 (0 : Int) ≤ Int.ofNat 6 ∧
 (0 : Int) ≤ Int.ofNat 6 ∧
 (0 : Int) ≤ Int.ofNat 24 ∧
 24 < 16 + (rg 32 k).length + (cntL c).length + (rg 12 n).length ∧
 24 < (sigL ++ (rg 32 k) ++ (cntL c) ++ (rg 12 n)).length ∧
 (0 : Int) ≤ Int.ofNat 6 ∧
 (0 : Int) ≤ Int.ofNat 5 ∧
 (0 : Int) ≤ Int.ofNat 23 ∧
 23 < 16 + (rg 32 k).length + (cntL c).length + (rg 12 n).length ∧
 23 < (sigL ++ (rg 32 k) ++ (cntL c) ++ (rg 12 n)).length ∧
 (0 : Int) ≤ Int.ofNat 5 ∧
 (0 : Int) ≤ Int.ofNat 5 ∧
 (0 : Int) ≤ Int.ofNat 22 ∧
 22 < 16 + (rg 32 k).length + (cntL c).length + (rg 12 n).length ∧
 22 < (sigL ++ (rg 32 k) ++ (cntL c) ++ (rg 12 n)).length ∧
 (0 : Int) ≤ Int.ofNat 5 ∧
 (0 : Int) ≤ Int.ofNat 5 ∧
 (0 : Int) ≤ Int.ofNat 21 ∧
 21 < 16 + (rg 32 k).length + (cntL c).length + (rg 12 n).length ∧
 21 < (sigL ++ (rg 32 k) ++ (cntL c) ++ (rg 12 n)).length ∧
 (0 : Int) ≤ Int.ofNat 5 ∧
 (0 : Int) ≤ Int.ofNat 5 ∧
 (0 : Int) ≤ Int.ofNat 20 ∧
 20 < 16 + (rg 32 k).length + (cntL c).length + (rg 12 n).length ∧
 20 < (sigL ++ (rg 32 k) ++ (cntL c) ++ (rg 12 n)).length ∧
 (0 : Int) ≤ Int.ofNat 5 ∧
 (0 : Int) ≤ Int.ofNat 4 ∧
 (0 : Int) ≤ Int.ofNat 19 ∧
 19 < 16 + (rg 32 k).length + (cntL c).length + (rg 12 n).length ∧
 19 < (sigL ++ (rg 32 k) ++ (cntL c) ++ (rg 12 n)).length ∧
 (0 : Int) ≤ Int.ofNat 4 ∧
 (0 : Int) ≤ Int.ofNat 4 ∧
 (0 : Int) ≤ Int.ofNat 18 ∧
 18 < 16 + (rg 32 k).length + (cntL c).length + (rg 12 n).length ∧
 18 < (sigL ++ (rg 32 k) ++ (cntL c) ++ (rg 12 n)).length ∧
 (0 : Int) ≤ Int.ofNat 4 ∧
 (0 : Int) ≤ Int.ofNat 4 ∧
 (0 : Int) ≤ Int.ofNat 17 ∧
 17 < 16 + (rg 32 k).length + (cntL c).length + (rg 12 n).length ∧
 17 < (sigL ++ (rg 32 k) ++ (cntL c) ++ (rg 12 n)).length ∧
 (0 : Int) ≤ Int.ofNat 4 ∧
 (0 : Int) ≤ Int.ofNat 4 ∧
 (0 : Int) ≤ Int.ofNat 16 ∧
 16 < 16 + (rg 32 k).length + (cntL c).length + (rg 12 n).length ∧
 16 < (sigL ++ (rg 32 k) ++ (cntL c) ++ (rg 12 n)).length ∧
 (0 : Int) ≤ Int.ofNat 4 ∧
 (0 : Int) ≤ Int.ofNat 3 ∧
 (0 : Int) ≤ Int.ofNat 15 ∧
 15 < 16 + (rg 32 k).length + (cntL c).length + (rg 12 n).length ∧
 15 < (sigL ++ (rg 32 k) ++ (cntL c) ++ (rg 12 n)).length ∧
 (0 : Int) ≤ Int.ofNat 3 ∧
 (0 : Int) ≤ Int.ofNat 3 ∧
 (0 : Int) ≤ Int.ofNat 14 ∧
 14 < 16 + (rg 32 k).length + (cntL c).length + (rg 12 n).length ∧
 14 < (sigL ++ (rg 32 k) ++ (cntL c) ++ (rg 12 n)).length ∧
 (0 : Int) ≤ Int.ofNat 3 ∧
 (0 : Int) ≤ Int.ofNat 3 ∧
 (0 : Int) ≤ Int.ofNat 13 ∧
 13 < 16 + (rg 32 k).length + (cntL c).length + (rg 12 n).length ∧
 13 < (sigL ++ (rg 32 k) ++ (cntL c) ++ (rg 12 n)).length ∧
 (0 : Int) ≤ Int.ofNat 3 ∧
 (0 : Int) ≤ Int.ofNat 3 ∧
 (0 : Int) ≤ Int.ofNat 12 ∧
 12 < 16 + (rg 32 k).length + (cntL c).length + (rg 12 n).length ∧
 12 < (sigL ++ (rg 32 k) ++ (cntL c) ++ (rg 12 n)).length ∧
 (0 : Int) ≤ Int.ofNat 3 ∧
 (0 : Int) ≤ Int.ofNat 2 ∧
 (0 : Int) ≤ Int.ofNat 11 ∧
 11 < 16 + (rg 32 k).length + (cntL c).length + (rg 12 n).length ∧
 11 < (sigL ++ (rg 32 k) ++ (cntL c) ++ (rg 12 n)).length ∧
 (0 : Int) ≤ Int.ofNat 2 ∧
 (0 : Int) ≤ Int.ofNat 2 ∧
 (0 : Int) ≤ Int.ofNat 10 ∧
 10 < 16 + (rg 32 k).length + (cntL c).length + (rg 12 n).length ∧
 10 < (sigL ++ (rg 32 k) ++ (cntL c) ++ (rg 12 n)).length ∧
 (0 : Int) ≤ Int.ofNat 2 ∧
 (0 : Int) ≤ Int.ofNat 2 ∧
 (0 : Int) ≤ Int.ofNat 9 ∧
 9 < 16 + (rg 32 k).length + (cntL c).length + (rg 12 n).length ∧
 9 < (sigL ++ (rg 32 k) ++ (cntL c) ++ (rg 12 n)).length ∧
 (0 : Int) ≤ Int.ofNat 2 ∧
 (0 : Int) ≤ Int.ofNat 2 ∧
 (0 : Int) ≤ Int.ofNat 8 ∧
 8 < 16 + (rg 32 k).length + (cntL c).length + (rg 12 n).length ∧
 8 < (sigL ++ (rg 32 k) ++ (cntL c) ++ (rg 12 n)).length ∧
 (0 : Int) ≤ Int.ofNat 2 ∧
 (0 : Int) ≤ Int.ofNat 1 ∧
 (0 : Int) ≤ Int.ofNat 7 ∧
 7 < 16 + (rg 32 k).length + (cntL c).length + (rg 12 n).length ∧
 7 < (sigL ++ (rg 32 k) ++ (cntL c) ++ (rg 12 n)).length ∧
 (0 : Int) ≤ Int.ofNat 1 ∧
 (0 : Int) ≤ Int.ofNat 1 ∧
 (0 : Int) ≤ Int.ofNat 6 ∧
 6 < 16 + (rg 32 k).length + (cntL c).length + (rg 12 n).length ∧
 6 < (sigL ++ (rg 32 k) ++ (cntL c) ++ (rg 12 n)).length ∧
 (0 : Int) ≤ Int.ofNat 1 ∧
 (0 : Int) ≤ Int.ofNat 1 ∧
 (0 : Int) ≤ Int.ofNat 5 ∧
 5 < 16 + (rg 32 k).length + (cntL c).length + (rg 12 n).length ∧
 5 < (sigL ++ (rg 32 k) ++ (cntL c) ++ (rg 12 n)).length ∧
 (0 : Int) ≤ Int.ofNat 1 ∧
 (0 : Int) ≤ Int.ofNat 1 ∧
 (0 : Int) ≤ Int.ofNat 4 ∧
 4 < 16 + (rg 32 k).length + (cntL c).length + (rg 12 n).length ∧
 4 < (sigL ++ (rg 32 k) ++ (cntL c) ++ (rg 12 n)).length ∧
 (0 : Int) ≤ Int.ofNat 1 ∧
 (0 : Int) ≤ Int.ofNat 0 ∧
 (0 : Int) ≤ Int.ofNat 3 ∧
 3 < 16 + (rg 32 k).length + (cntL c).length + (rg 12 n).length ∧
 3 < (sigL ++ (rg 32 k) ++ (cntL c) ++ (rg 12 n)).length ∧
 (0 : Int) ≤ Int.ofNat 0 ∧
 (0 : Int) ≤ Int.ofNat 0 ∧
 (0 : Int) ≤ Int.ofNat 2 ∧
 2 < 16 + (rg 32 k).length + (cntL c).length + (rg 12 n).length ∧
 2 < (sigL ++ (rg 32 k) ++ (cntL c) ++ (rg 12 n)).length ∧
 (0 : Int) ≤ Int.ofNat 0 ∧
 (0 : Int) ≤ Int.ofNat 0 ∧
 (0 : Int) ≤ Int.ofNat 1 ∧
 1 < 16 + (rg 32 k).length + (cntL c).length + (rg 12 n).length ∧
 1 < (sigL ++ (rg 32 k) ++ (cntL c) ++ (rg 12 n)).length ∧
 (0 : Int) ≤ Int.ofNat 0 ∧
 (0 : Int) ≤ Int.ofNat 0 ∧
 (0 : Int) ≤ Int.ofNat 0 ∧
 0 < 16 + (rg 32 k).length + (cntL c).length + (rg 12 n).length ∧
 0 < (sigL ++ (rg 32 k) ++ (cntL c) ++ (rg 12 n)).length ∧
 (0 : Int) ≤ Int.ofNat 0 ∧
 (0 : Int) ≤ Int.ofNat 0 ∧
 (0 : Int) ≤ Int.ofNat 0 ∧
 (0 : Int) ≤ Int.ofNat 0 ∧
 (0 : Int) ≤ (0 : Int) ∧
 (0 : Int) ≤ Int.ofNat 0 ∧
 (0 : Int) ≤ Int.ofNat 0 ∧
 (0 : Int) ≤ Int.ofNat 8 ∧
 (0 : Int) ≤ Int.ofNat 1 ∧
 (0 : Int) ≤ Int.ofNat 0 ∧
 (0 : Int) ≤ Int.ofNat 0 ∧
 (0 : Int) ≤ Int.ofNat 16 ∧
 (0 : Int) ≤ Int.ofNat 2 ∧
 (0 : Int) ≤ Int.ofNat 0 ∧
 (0 : Int) ≤ Int.ofNat 0 ∧
 (0 : Int) ≤ Int.ofNat 24 ∧
 (0 : Int) ≤ Int.ofNat 3 ∧
 (0 : Int) ≤ Int.ofNat 1 ∧
 (0 : Int) ≤ Int.ofNat 1 ∧
 (0 : Int) ≤ Int.ofNat 0 ∧
 (0 : Int) ≤ Int.ofNat 4 ∧
 (0 : Int) ≤ Int.ofNat 1 ∧
 (0 : Int) ≤ Int.ofNat 1 ∧
 (0 : Int) ≤ Int.ofNat 8 ∧
 (0 : Int) ≤ Int.ofNat 5 ∧
 (0 : Int) ≤ Int.ofNat 1 ∧
 (0 : Int) ≤ Int.ofNat 1 ∧
 (0 : Int) ≤ Int.ofNat 16 ∧
 (0 : Int) ≤ Int.ofNat 6 ∧
 (0 : Int) ≤ Int.ofNat 1 ∧
 (0 : Int) ≤ Int.ofNat 1 ∧
 (0 : Int) ≤ Int.ofNat 24 ∧
 (0 : Int) ≤ Int.ofNat 7 ∧
 (0 : Int) ≤ Int.ofNat 2 ∧
 (0 : Int) ≤ Int.ofNat 2 ∧
 (0 : Int) ≤ Int.ofNat 0 ∧
 (0 : Int) ≤ Int.ofNat 8 ∧
 (0 : Int) ≤ Int.ofNat 2 ∧
 (0 : Int) ≤ Int.ofNat 2 ∧
 (0 : Int) ≤ Int.ofNat 8 ∧
 (0 : Int) ≤ Int.ofNat 9 ∧
 (0 : Int) ≤ Int.ofNat 2 ∧
 (0 : Int) ≤ Int.ofNat 2 ∧
 (0 : Int) ≤ Int.ofNat 16 ∧
 (0 : Int) ≤ Int.ofNat 10 ∧
 (0 : Int) ≤ Int.ofNat 2 ∧
 (0 : Int) ≤ Int.ofNat 2 ∧
 (0 : Int) ≤ Int.ofNat 24 ∧
 (0 : Int) ≤ Int.ofNat 11 ∧
 (0 : Int) ≤ Int.ofNat 3 ∧
 (0 : Int) ≤ Int.ofNat 3 ∧
 (0 : Int) ≤ Int.ofNat 0 ∧
 (0 : Int) ≤ Int.ofNat 12 ∧
 (0 : Int) ≤ Int.ofNat 3 ∧
 (0 : Int) ≤ Int.ofNat 3 ∧
 (0 : Int) ≤ Int.ofNat 8 ∧
 (0 : Int) ≤ Int.ofNat 13 ∧
 (0 : Int) ≤ Int.ofNat 3 ∧
 (0 : Int) ≤ Int.ofNat 3 ∧
 (0 : Int) ≤ Int.ofNat 16 ∧
 (0 : Int) ≤ Int.ofNat 14 ∧
 (0 : Int) ≤ Int.ofNat 3 ∧
 (0 : Int) ≤ Int.ofNat 3 ∧
 (0 : Int) ≤ Int.ofNat 24 ∧
 (0 : Int) ≤ Int.ofNat 15 ∧
 (0 : Int) ≤ Int.ofNat 4 ∧
 (0 : Int) ≤ Int.ofNat 4 ∧
 (0 : Int) ≤ Int.ofNat 0 ∧
 (0 : Int) ≤ Int.ofNat 16 ∧
 (0 : Int) ≤ Int.ofNat 4 ∧
 (0 : Int) ≤ Int.ofNat 4 ∧
 (0 : Int) ≤ Int.ofNat 8 ∧
 (0 : Int) ≤ Int.ofNat 17 ∧
 (0 : Int) ≤ Int.ofNat 4 ∧
 (0 : Int) ≤ Int.ofNat 4 ∧
 (0 : Int) ≤ Int.ofNat 16 ∧
 (0 : Int) ≤ Int.ofNat 18 ∧
 (0 : Int) ≤ Int.ofNat 4 ∧
 (0 : Int) ≤ Int.ofNat 4 ∧
 (0 : Int) ≤ Int.ofNat 24 ∧
 (0 : Int) ≤ Int.ofNat 19 ∧
 (0 : Int) ≤ Int.ofNat 5 ∧
 (0 : Int) ≤ Int.ofNat 5 ∧
 (0 : Int) ≤ Int.ofNat 0 ∧
 (0 : Int) ≤ Int.ofNat 20 ∧
 (0 : Int) ≤ Int.ofNat 5 ∧
 (0 : Int) ≤ Int.ofNat 5 ∧
 (0 : Int) ≤ Int.ofNat 8 ∧
 (0 : Int) ≤ Int.ofNat 21 ∧
 (0 : Int) ≤ Int.ofNat 5 ∧
 (0 : Int) ≤ Int.ofNat 5 ∧
 (0 : Int) ≤ Int.ofNat 16 ∧
 (0 : Int) ≤ Int.ofNat 22 ∧
 (0 : Int) ≤ Int.ofNat 5 ∧
 (0 : Int) ≤ Int.ofNat 5 ∧
 (0 : Int) ≤ Int.ofNat 24 ∧
 (0 : Int) ≤ Int.ofNat 23 ∧
 (0 : Int) ≤ Int.ofNat 6 ∧
 (0 : Int) ≤ Int.ofNat 6 ∧
 (0 : Int) ≤ Int.ofNat 0 ∧
 (0 : Int) ≤ Int.ofNat 24 ∧
 (0 : Int) ≤ Int.ofNat 6 ∧
 (0 : Int) ≤ Int.ofNat 6 ∧
 (0 : Int) ≤ Int.ofNat 8 ∧
 (0 : Int) ≤ Int.ofNat 25 ∧
 (0 : Int) ≤ Int.ofNat 6 ∧
 (0 : Int) ≤ Int.ofNat 6 ∧
 (0 : Int) ≤ Int.ofNat 16 ∧
 (0 : Int) ≤ Int.ofNat 26 ∧
 (0 : Int) ≤ Int.ofNat 6 ∧
 (0 : Int) ≤ Int.ofNat 6 ∧
 (0 : Int) ≤ Int.ofNat 24 ∧
 (0 : Int) ≤ Int.ofNat 27 ∧
 (0 : Int) ≤ Int.ofNat 7 ∧
 (0 : Int) ≤ Int.ofNat 7 ∧
 (0 : Int) ≤ Int.ofNat 0 ∧
 (0 : Int) ≤ Int.ofNat 28 ∧
 (0 : Int) ≤ Int.ofNat 7 ∧
 (0 : Int) ≤ Int.ofNat 7 ∧
 (0 : Int) ≤ Int.ofNat 8 ∧
 (0 : Int) ≤ Int.ofNat 29 ∧
 (0 : Int) ≤ Int.ofNat 7 ∧
 (0 : Int) ≤ Int.ofNat 7 ∧
 (0 : Int) ≤ Int.ofNat 16 ∧
 (0 : Int) ≤ Int.ofNat 30 ∧
 (0 : Int) ≤ Int.ofNat 7 ∧
 (0 : Int) ≤ Int.ofNat 7 ∧
 (0 : Int) ≤ Int.ofNat 24 ∧
 (0 : Int) ≤ Int.ofNat 31 ∧
 (0 : Int) ≤ Int.ofNat 8 ∧
 (0 : Int) ≤ Int.ofNat 8 ∧
 (0 : Int) ≤ Int.ofNat 0 ∧
 (0 : Int) ≤ Int.ofNat 32 ∧
 (0 : Int) ≤ Int.ofNat 8 ∧
 (0 : Int) ≤ Int.ofNat 8 ∧
 (0 : Int) ≤ Int.ofNat 8 ∧
 (0 : Int) ≤ Int.ofNat 33 ∧
 (0 : Int) ≤ Int.ofNat 8 ∧
 (0 : Int) ≤ Int.ofNat 8 ∧
 (0 : Int) ≤ Int.ofNat 16 ∧
 (0 : Int) ≤ Int.ofNat 34 ∧
 (0 : Int) ≤ Int.ofNat 8 ∧
 (0 : Int) ≤ Int.ofNat 8 ∧
 (0 : Int) ≤ Int.ofNat 24 ∧
 (0 : Int) ≤ Int.ofNat 35 ∧
 (0 : Int) ≤ Int.ofNat 9 ∧
 (0 : Int) ≤ Int.ofNat 9 ∧
 (0 : Int) ≤ Int.ofNat 0 ∧
 (0 : Int) ≤ Int.ofNat 36 ∧
 (0 : Int) ≤ Int.ofNat 9 ∧
 (0 : Int) ≤ Int.ofNat 9 ∧
 (0 : Int) ≤ Int.ofNat 8 ∧
 (0 : Int) ≤ Int.ofNat 37 ∧
 (0 : Int) ≤ Int.ofNat 9 ∧
 (0 : Int) ≤ Int.ofNat 9 ∧
 (0 : Int) ≤ Int.ofNat 16 ∧
 (0 : Int) ≤ Int.ofNat 38 ∧
 (0 : Int) ≤ Int.ofNat 9 ∧
 (0 : Int) ≤ Int.ofNat 9 ∧
 (0 : Int) ≤ Int.ofNat 24 ∧
 (0 : Int) ≤ Int.ofNat 39 ∧
 (0 : Int) ≤ Int.ofNat 10 ∧
 (0 : Int) ≤ Int.ofNat 10 ∧
 (0 : Int) ≤ Int.ofNat 0 ∧
 (0 : Int) ≤ Int.ofNat 40 ∧
 (0 : Int) ≤ Int.ofNat 10 ∧
 (0 : Int) ≤ Int.ofNat 10 ∧
 (0 : Int) ≤ Int.ofNat 8 ∧
 (0 : Int) ≤ Int.ofNat 41 ∧
 (0 : Int) ≤ Int.ofNat 10 ∧
 (0 : Int) ≤ Int.ofNat 10 ∧
 (0 : Int) ≤ Int.ofNat 16 ∧
 (0 : Int) ≤ Int.ofNat 42 ∧
 (0 : Int) ≤ Int.ofNat 10 ∧
 (0 : Int) ≤ Int.ofNat 10 ∧
 (0 : Int) ≤ Int.ofNat 24 ∧
 (0 : Int) ≤ Int.ofNat 43 ∧
 (0 : Int) ≤ Int.ofNat 11 ∧
 (0 : Int) ≤ Int.ofNat 11 ∧
 (0 : Int) ≤ Int.ofNat 0 ∧
 (0 : Int) ≤ Int.ofNat 44 ∧
 (0 : Int) ≤ Int.ofNat 11 ∧
 (0 : Int) ≤ Int.ofNat 11 ∧
 (0 : Int) ≤ Int.ofNat 8 ∧
 (0 : Int) ≤ Int.ofNat 45 ∧
 (0 : Int) ≤ Int.ofNat 11 ∧
 (0 : Int) ≤ Int.ofNat 11 ∧
 (0 : Int) ≤ Int.ofNat 16 ∧
 (0 : Int) ≤ Int.ofNat 46 ∧
 (0 : Int) ≤ Int.ofNat 11 ∧
 (0 : Int) ≤ Int.ofNat 11 ∧
 (0 : Int) ≤ Int.ofNat 24 ∧
 (0 : Int) ≤ Int.ofNat 47 ∧
 (0 : Int) ≤ Int.ofNat 12 ∧
 (0 : Int) ≤ Int.ofNat 12 ∧
 (0 : Int) ≤ Int.ofNat 0 ∧
 (0 : Int) ≤ Int.ofNat 48 ∧
 (0 : Int) ≤ Int.ofNat 12 ∧
 (0 : Int) ≤ Int.ofNat 12 ∧
 (0 : Int) ≤ Int.ofNat 8 ∧
 (0 : Int) ≤ Int.ofNat 49 ∧
 (0 : Int) ≤ Int.ofNat 12 ∧
 (0 : Int) ≤ Int.ofNat 12 ∧
 (0 : Int) ≤ Int.ofNat 16 ∧
 (0 : Int) ≤ Int.ofNat 50 ∧
 (0 : Int) ≤ Int.ofNat 12 ∧
 (0 : Int) ≤ Int.ofNat 12 ∧
 (0 : Int) ≤ Int.ofNat 24 ∧
 (0 : Int) ≤ Int.ofNat 51 ∧
 (0 : Int) ≤ Int.ofNat 13 ∧
 (0 : Int) ≤ Int.ofNat 13 ∧
 (0 : Int) ≤ Int.ofNat 0 ∧
 (0 : Int) ≤ Int.ofNat 52 ∧
 (0 : Int) ≤ Int.ofNat 13 ∧
 (0 : Int) ≤ Int.ofNat 13 ∧
 (0 : Int) ≤ Int.ofNat 8 ∧
 (0 : Int) ≤ Int.ofNat 53 ∧
 (0 : Int) ≤ Int.ofNat 13 ∧
 (0 : Int) ≤ Int.ofNat 13 ∧
 (0 : Int) ≤ Int.ofNat 16 ∧
 (0 : Int) ≤ Int.ofNat 54 ∧
 (0 : Int) ≤ Int.ofNat 13 ∧
 (0 : Int) ≤ Int.ofNat 13 ∧
 (0 : Int) ≤ Int.ofNat 24 ∧
 (0 : Int) ≤ Int.ofNat 55 ∧
 (0 : Int) ≤ Int.ofNat 14 ∧
 (0 : Int) ≤ Int.ofNat 14 ∧
 (0 : Int) ≤ Int.ofNat 0 ∧
 (0 : Int) ≤ Int.ofNat 56 ∧
 (0 : Int) ≤ Int.ofNat 14 ∧
 (0 : Int) ≤ Int.ofNat 14 ∧
 (0 : Int) ≤ Int.ofNat 8 ∧
 (0 : Int) ≤ Int.ofNat 57 ∧
 (0 : Int) ≤ Int.ofNat 14 ∧
 (0 : Int) ≤ Int.ofNat 14 ∧
 (0 : Int) ≤ Int.ofNat 16 ∧
 (0 : Int) ≤ Int.ofNat 58 ∧
 (0 : Int) ≤ Int.ofNat 14 ∧
 (0 : Int) ≤ Int.ofNat 14 ∧
 (0 : Int) ≤ Int.ofNat 24 ∧
 (0 : Int) ≤ Int.ofNat 59 ∧
 (0 : Int) ≤ Int.ofNat 15 ∧
 (0 : Int) ≤ Int.ofNat 15 ∧
 (0 : Int) ≤ Int.ofNat 0 ∧
 (0 : Int) ≤ Int.ofNat 60 ∧
 (0 : Int) ≤ Int.ofNat 15 ∧
 (0 : Int) ≤ Int.ofNat 15 ∧
 (0 : Int) ≤ Int.ofNat 8 ∧
 (0 : Int) ≤ Int.ofNat 61 ∧
 (0 : Int) ≤ Int.ofNat 15 ∧
 (0 : Int) ≤ Int.ofNat 15 ∧
 (0 : Int) ≤ Int.ofNat 16 ∧
 (0 : Int) ≤ Int.ofNat 62 ∧
 (0 : Int) ≤ Int.ofNat 15 ∧
 (0 : Int) ≤ Int.ofNat 15 ∧
 (0 : Int) ≤ Int.ofNat 24 ∧
 (0 : Int) ≤ Int.ofNat 63 ∧
 allRefl (ref64 k c n) 0 64 : Prop) := by kernel_rfl
end Go.Sym

namespace Go.Sym
open Go.Proofs Go.Spec
set_option linter.unusedVariables false
def g12 (xs : List AV) : TL := match xs with | [] => .ok (rt (.bool true)) | _ => .no
noncomputable def ls6 (a b A B : By) (M : Int) (L1 L2 : Nat) : LS := ⟨Nat, fun x => [(1, .rb true a .unk), (2, .rb true b .unk), (7, .int .i64 M), (8, .slice 100 0 1 L1 .ow .unk), (9, .slice 101 0 1 L2 .ow .unk), (10, .int .i64 x)],
  fun x => [(100, ⟨.bytes A, true, 1⟩), (101, ⟨.bytes B, true, 1⟩)], 1000, fun x => 201 - x, fun x => (x : Int) ≤ M, fun _ => []⟩
end Go.Sym
