/- StreamSingles: byte by byte no record is taken ahead of its last byte, and it is taken then; an error is told at its first byte. No conditions. -/
import Derived.Test.YtgniepaehjdjaaaStrA
import Derived.Test.YtgniepaehjdjaaaCurA
import Derived.Test.YtgniepaehjdjaaaRows
import Derived.WalkKit
import Derived.ProofKit
import Derived.OpenShut
import Derived.ChangeOld
import Derived.Below
import Derived.Carry
namespace Go.Spec
open Go.Sym
/-- A record of a kind, of k noughts. -/
def sgR (k : Nat) (c : BitVec 8) : By := (20#8 + c % 4#8) :: 3#8 :: c :: 0#8 :: BitVec.ofInt 8 (k : Int) :: List.replicate k 0#8
def sgB (k : Nat) (ks : By) : Nat → By
  | 0 => []
  | i + 1 => sgB k ks i ++ sgR k (ks.getD i 0)
def sgK (n : Int) : Nat := (BitVec.ofInt 64 n % 30#64).toNat
def sgW : List By := [[19#8], [24#8], [23#8, 2#8], [23#8, 3#8, 0#8, 1#8, 18#8], [21#8, 3#8, 0#8, 1#8, 1#8]]
/-- What isn't taken of the first i bytes. -/
def sgM (k : Nat) (B : By) (i : Nat) : By := (B.take i).drop ((5 + k) * (i / (5 + k)))
end Go.Spec
namespace Go.Sym
open Go.Proofs Go.Spec
set_option linter.unusedVariables false
def sgE (k m : Nat) : ABlk := ⟨.rows 1 m fun j => [.int .i64 (((5 + k) * (j + 1) : Nat) : Int)], true, 1⟩
def lsS1 (ks : By) (k : Nat) (bad : Int) : LS := ⟨Nat, fun i => [(0, .rb true ks .unk), (2, .int .i64 bad), (9, .int .i64 k), (10, .int .i64 i), (7, .slice 100 0 1 (sgB k ks i).length .ow .unk), (8, .slice 101 0 1 i .ow .unk)],
  fun i => [(100, ⟨.bytes (sgB k ks i), true, 1⟩), (101, sgE k i)], 1000, fun i => 8 - i, fun i => i ≤ 8 ∧ i ≤ ks.length, fun _ => []⟩
def lsS2 (ks : By) (k m : Nat) : LS := ⟨Nat × Nat × By × By, fun y => [(0, .rb true ks .unk), (9, .int .i64 k), (7, .slice 100 0 1 (sgB k ks m).length .ow .unk), (8, .slice 101 0 1 m .ow .unk), (11, .slice 104 0 1 y.2.2.2.length .ow (.is false)), (12, .ptr 102 0 0 0), (13, .int .i64 ((y.1 / (5 + k) : Nat) : Int)), (14, .int .i64 y.1)],
  fun y => [(100, ⟨.bytes (sgB k ks m), true, 1⟩), (101, sgE k m), (102, ⟨.cells [.slice 103 y.2.1 1 (y.2.2.1.length - y.2.1) .ox .unk, .int .i64 0], true, 0⟩), (103, ⟨.bytes y.2.2.1, true, 1⟩), (104, ⟨.bytes y.2.2.2, true, 1⟩)], 2000,
  fun y => (sgB k ks m).length - y.1, fun y => y.1 ≤ (sgB k ks m).length ∧ y.2.1 ≤ y.2.2.1.length ∧ y.2.2.1.length < 1000 ∧ y.2.2.1.drop y.2.1 = sgM k (sgB k ks m) y.1 ∧ y.2.2.2 ∈ sgW, fun _ => []⟩
def lsS3 (k m : Nat) : LS := ⟨Nat × Nat × By × By, fun y => [(8, .slice 101 0 1 m .ow .unk), (11, .slice 104 0 1 y.2.2.2.length .ow (.is false)), (12, .ptr 102 0 0 0), (13, .int .i64 m), (20, .int .i64 y.1)],
  fun y => [(101, sgE k m), (102, ⟨.cells [.slice 103 y.2.1 1 (y.2.2.1.length - y.2.1) .ox .unk, .int .i64 0], true, 0⟩), (103, ⟨.bytes y.2.2.1, true, 1⟩), (104, ⟨.bytes y.2.2.2, true, 1⟩)], 2000,
  fun y => 10 - y.1, fun y => y.1 < y.2.2.2.length ∧ y.2.1 ≤ y.2.2.1.length ∧ y.2.2.1.length < 1000 ∧ y.2.2.1.drop y.2.1 = y.2.2.2.take y.1 ∧ y.2.2.2 ∈ sgW, fun _ => []⟩
def lsS4 (k m : Nat) (e : Int) : LS := ⟨Nat × Nat × By × By, fun y => [(8, .slice 101 0 1 m .ow .unk), (11, .slice 104 0 1 y.2.2.2.length .ow (.is false)), (12, .ptr 102 0 0 0), (13, .int .i64 m), (20, .int .i64 y.1)],
  fun y => [(101, sgE k m), (102, ⟨.cells [.slice 103 y.2.1 1 (y.2.2.1.length - y.2.1) .ox .unk, .int .i64 e], true, 0⟩), (103, ⟨.bytes y.2.2.1, true, 1⟩), (104, ⟨.bytes y.2.2.2, true, 1⟩)], 2000,
  fun y => 10 - y.1, fun y => y.1 = y.2.2.2.length ∧ y.2.2.2 ∈ sgW, fun _ => []⟩
def lsSg (ks : By) (n bad : Int) : List (Nat × LS) := [(6, lsS1 ks (sgK n) bad), (15, lsS2 ks (sgK n) (min ks.length 8)), (26, lsS3 (sgK n) (min ks.length 8)), (26, lsS4 (sgK n) (min ks.length 8) 3), (26, lsS4 (sgK n) (min ks.length 8) 5)]
end Go.Sym

namespace Go.Sym
open Go.Proofs Go.Spec
set_option linter.unusedVariables false
set_option maxRecDepth 100000 in
theorem vt14 (ks : By) (nl : Bool) (n bad : Int) : bodyP Try.prog (T6.withSym [73]) gl0 [] (lsSg ks n bad) 3000 Try.f14 0 [.rb true ks (.is nl), .int .i64 n, .int .i64 bad] [] (retQ Try.prog Try.f14 0 ⟨[], .bool true, [], []⟩) = (
let x1 := let x1 := sgB (sgK n) ks (Min.min (List.length ks) 8); let x2 := ∀ (y : Nat), y < Min.min (List.length ks) 8 → datas Bool.false [AV.int IntKind.i64 (↑((5 + sgK n) * (y + 1)) : Int)] = Bool.true ∧ [AV.int IntKind.i64 (↑((5 + sgK n) * (y + 1)) : Int)] = [AV.int IntKind.i64 (↑((5 + sgK n) * (y + 1)) : Int)]; let x3 := Min.min (List.length ks) 8 = Min.min (List.length ks) 8; let x4 := (↑(Min.min (List.length ks) 8) : Int) = (↑(Min.min (List.length ks) 8) : Int); ∀ (x : Nat × Nat × By × By), let x1_1 := @Bool.rec (fun _ => Prop) (∃ (y : Nat × Nat × By × By), List.length x1 - y.fst < List.length x1 - x.fst ∧ (y.fst ≤ List.length x1 ∧ y.snd.fst ≤ List.length y.snd.snd.fst ∧ List.length y.snd.snd.fst < 1000 ∧ List.drop y.snd.fst y.snd.snd.fst = sgM (sgK n) x1 y.fst ∧ List.Mem y.snd.snd.snd sgW) ∧ ks = ks ∧ (↑(sgK n) : Int) = (↑(sgK n) : Int) ∧ 0 = 0 ∧ 0 = 0 ∧ 0 = 0 ∧ List.length x1 = List.length x1 ∧ 0 = 0 ∧ 0 = 0 ∧ 0 = 0 ∧ x3 ∧ Bool.false = Bool.false ∧ 0 = 0 ∧ 0 = 0 ∧ 0 = 0 ∧ List.length y.snd.snd.snd = List.length x.snd.snd.snd ∧ 0 = 0 ∧ (↑(y.fst / (5 + sgK n)) : Int) = (↑(x.fst / (5 + sgK n)) : Int) ∧ (↑y.fst : Int) = IntKind.i64.wrap ((↑x.fst : Int) + (1 : Int)) ∧ x1 = x1 ∧ x3 ∧ x2 ∧ y.snd.fst = 0 + stX (List.drop 0 (List.drop x.snd.fst x.snd.snd.fst ++ List.take (minus (IntKind.i64.wrap ((↑x.fst : Int) + (1 : Int))).toNat (↑x.fst : Int).toNat) (dropN (↑x.fst : Int).toNat x1))) ∧ 0 = 0 ∧ y.snd.fst = 0 + stX (List.drop 0 (List.drop x.snd.fst x.snd.snd.fst ++ List.take (minus (IntKind.i64.wrap ((↑x.fst : Int) + (1 : Int))).toNat (↑x.fst : Int).toNat) (dropN (↑x.fst : Int).toNat x1))) ∧ List.length y.snd.snd.fst - y.snd.fst = (List.drop x.snd.fst x.snd.snd.fst ++ List.take (minus (IntKind.i64.wrap ((↑x.fst : Int) + (1 : Int))).toNat (↑x.fst : Int).toNat) (dropN (↑x.fst : Int).toNat x1)).length - (0 + stX (List.drop 0 (List.drop x.snd.fst x.snd.snd.fst ++ List.take (minus (IntKind.i64.wrap ((↑x.fst : Int) + (1 : Int))).toNat (↑x.fst : Int).toNat) (dropN (↑x.fst : Int).toNat x1)))) ∧ (0 : Int) = stF (List.drop 0 (List.drop x.snd.fst x.snd.snd.fst ++ List.take (minus (IntKind.i64.wrap ((↑x.fst : Int) + (1 : Int))).toNat (↑x.fst : Int).toNat) (dropN (↑x.fst : Int).toNat x1))) ∧ y.snd.snd.fst = List.drop x.snd.fst x.snd.snd.fst ++ List.take (minus (IntKind.i64.wrap ((↑x.fst : Int) + (1 : Int))).toNat (↑x.fst : Int).toNat) (dropN (↑x.fst : Int).toNat x1) ∧ y.snd.snd.snd = x.snd.snd.snd ∧ True) (∃ (y : Nat × Nat × By × By), List.length x1 - y.fst < List.length x1 - x.fst ∧ (y.fst ≤ List.length x1 ∧ y.snd.fst ≤ List.length y.snd.snd.fst ∧ List.length y.snd.snd.fst < 1000 ∧ List.drop y.snd.fst y.snd.snd.fst = sgM (sgK n) x1 y.fst ∧ List.Mem y.snd.snd.snd sgW) ∧ ks = ks ∧ (↑(sgK n) : Int) = (↑(sgK n) : Int) ∧ 0 = 0 ∧ 0 = 0 ∧ 0 = 0 ∧ List.length x1 = List.length x1 ∧ 0 = 0 ∧ 0 = 0 ∧ 0 = 0 ∧ x3 ∧ Bool.false = Bool.false ∧ 0 = 0 ∧ 0 = 0 ∧ 0 = 0 ∧ List.length y.snd.snd.snd = List.length x.snd.snd.snd ∧ 0 = 0 ∧ (↑(y.fst / (5 + sgK n)) : Int) = IntKind.i64.wrap ((↑(x.fst / (5 + sgK n)) : Int) + (1 : Int)) ∧ (↑y.fst : Int) = IntKind.i64.wrap ((↑x.fst : Int) + (1 : Int)) ∧ x1 = x1 ∧ x3 ∧ x2 ∧ y.snd.fst = 0 + stX (List.drop 0 (List.drop x.snd.fst x.snd.snd.fst ++ List.take (minus (IntKind.i64.wrap ((↑x.fst : Int) + (1 : Int))).toNat (↑x.fst : Int).toNat) (dropN (↑x.fst : Int).toNat x1))) ∧ 0 = 0 ∧ y.snd.fst = 0 + stX (List.drop 0 (List.drop x.snd.fst x.snd.snd.fst ++ List.take (minus (IntKind.i64.wrap ((↑x.fst : Int) + (1 : Int))).toNat (↑x.fst : Int).toNat) (dropN (↑x.fst : Int).toNat x1))) ∧ List.length y.snd.snd.fst - y.snd.fst = (List.drop x.snd.fst x.snd.snd.fst ++ List.take (minus (IntKind.i64.wrap ((↑x.fst : Int) + (1 : Int))).toNat (↑x.fst : Int).toNat) (dropN (↑x.fst : Int).toNat x1)).length - (0 + stX (List.drop 0 (List.drop x.snd.fst x.snd.snd.fst ++ List.take (minus (IntKind.i64.wrap ((↑x.fst : Int) + (1 : Int))).toNat (↑x.fst : Int).toNat) (dropN (↑x.fst : Int).toNat x1)))) ∧ (0 : Int) = stF (List.drop 0 (List.drop x.snd.fst x.snd.snd.fst ++ List.take (minus (IntKind.i64.wrap ((↑x.fst : Int) + (1 : Int))).toNat (↑x.fst : Int).toNat) (dropN (↑x.fst : Int).toNat x1))) ∧ y.snd.snd.fst = List.drop x.snd.fst x.snd.snd.fst ++ List.take (minus (IntKind.i64.wrap ((↑x.fst : Int) + (1 : Int))).toNat (↑x.fst : Int).toNat) (dropN (↑x.fst : Int).toNat x1) ∧ y.snd.snd.snd = x.snd.snd.snd ∧ True) (stO (List.drop 0 (List.drop x.snd.fst x.snd.snd.fst ++ List.take (minus (IntKind.i64.wrap ((↑x.fst : Int) + (1 : Int))).toNat (↑x.fst : Int).toNat) (dropN (↑x.fst : Int).toNat x1)))); let x2_1 := List.drop x.snd.fst x.snd.snd.fst ++ List.take (minus (IntKind.i64.wrap ((↑x.fst : Int) + (1 : Int))).toNat (↑x.fst : Int).toNat) (dropN (↑x.fst : Int).toNat x1); let x3_1 := (↑(x.fst / (5 + sgK n)) : Int); let x4_1 := @Bool.rec (fun _ => Prop) x1_1 ((0 : Int) ≤ x3_1 ∧ x3_1.toNat < List.length ks ∧ @Bool.rec (fun _ => Prop) (Bool.true = Bool.false ∧ True) (@Bool.rec (fun _ => Prop) x1_1 (Bool.true = Bool.false ∧ True) !decide ((↑(List.length (stB (List.drop 0 x2_1))) : Int) = (↑(sgK n) : Int))) !!decide (stK (List.drop 0 x2_1) = IntKind.i64.wrap ((20 : Int) + (↑(List.getD ks x3_1.toNat (0 : BitVec 8) % BitVec.ofNat 8 4).toNat : Int)))) (stO (List.drop 0 x2_1)); x.fst ≤ List.length x1 ∧ x.snd.fst ≤ List.length x.snd.snd.fst ∧ List.length x.snd.snd.fst < 1000 ∧ List.drop x.snd.fst x.snd.snd.fst = sgM (sgK n) x1 x.fst ∧ List.Mem x.snd.snd.snd sgW → @Bool.rec (fun _ => Prop) (((∃ (y : Nat × Nat × By × By), True ∧ (y.fst < List.length y.snd.snd.snd ∧ y.snd.fst ≤ List.length y.snd.snd.fst ∧ List.length y.snd.snd.fst < 1000 ∧ List.drop y.snd.fst y.snd.snd.fst = List.take y.fst y.snd.snd.snd ∧ List.Mem y.snd.snd.snd sgW) ∧ 0 = 0 ∧ 0 = 0 ∧ 0 = 0 ∧ x3 ∧ Bool.false = Bool.false ∧ 0 = 0 ∧ 0 = 0 ∧ 0 = 0 ∧ List.length y.snd.snd.snd = List.length x.snd.snd.snd ∧ 0 = 0 ∧ (↑(Min.min (List.length ks) 8) : Int) = x3_1 ∧ (↑y.fst : Int) = (0 : Int) ∧ x3 ∧ x2 ∧ y.snd.fst = x.snd.fst ∧ 0 = 0 ∧ y.snd.fst = x.snd.fst ∧ List.length y.snd.snd.fst - y.snd.fst = List.length x.snd.snd.fst - x.snd.fst ∧ (0 : Int) = (0 : Int) ∧ y.snd.snd.fst = x.snd.snd.fst ∧ y.snd.snd.snd = x.snd.snd.snd ∧ True) ∨ (∃ (y : Nat × Nat × By × By), True ∧ (y.fst = List.length y.snd.snd.snd ∧ List.Mem y.snd.snd.snd sgW) ∧ 0 = 0 ∧ 0 = 0 ∧ 0 = 0 ∧ x3 ∧ Bool.false = Bool.false ∧ 0 = 0 ∧ 0 = 0 ∧ 0 = 0 ∧ List.length y.snd.snd.snd = List.length x.snd.snd.snd ∧ 0 = 0 ∧ (↑(Min.min (List.length ks) 8) : Int) = x3_1 ∧ (↑y.fst : Int) = (0 : Int) ∧ x3 ∧ x2 ∧ y.snd.fst = x.snd.fst ∧ 0 = 0 ∧ y.snd.fst = x.snd.fst ∧ List.length y.snd.snd.fst - y.snd.fst = List.length x.snd.snd.fst - x.snd.fst ∧ (3 : Int) = (0 : Int) ∧ y.snd.snd.fst = x.snd.snd.fst ∧ y.snd.snd.snd = x.snd.snd.snd ∧ True) ∨ ∃ (y : Nat × Nat × By × By), True ∧ (y.fst = List.length y.snd.snd.snd ∧ List.Mem y.snd.snd.snd sgW) ∧ 0 = 0 ∧ 0 = 0 ∧ 0 = 0 ∧ x3 ∧ Bool.false = Bool.false ∧ 0 = 0 ∧ 0 = 0 ∧ 0 = 0 ∧ List.length y.snd.snd.snd = List.length x.snd.snd.snd ∧ 0 = 0 ∧ (↑(Min.min (List.length ks) 8) : Int) = x3_1 ∧ (↑y.fst : Int) = (0 : Int) ∧ x3 ∧ x2 ∧ y.snd.fst = x.snd.fst ∧ 0 = 0 ∧ y.snd.fst = x.snd.fst ∧ List.length y.snd.snd.fst - y.snd.fst = List.length x.snd.snd.fst - x.snd.fst ∧ (5 : Int) = (0 : Int) ∧ y.snd.snd.fst = x.snd.snd.fst ∧ y.snd.snd.snd = x.snd.snd.snd ∧ True) ∧ (∀ (x : Nat × Nat × By × By), let x1 := List.drop x.snd.fst x.snd.snd.fst ++ List.take (minus (IntKind.i64.wrap ((↑x.fst : Int) + (1 : Int))).toNat (↑x.fst : Int).toNat) (dropN (↑x.fst : Int).toNat x.snd.snd.snd); let x2_2 := IntKind.i64.wrap ((↑x.fst : Int) + (1 : Int)); let x3_2 := 0 + stX (List.drop 0 x1); x.fst < List.length x.snd.snd.snd ∧ x.snd.fst ≤ List.length x.snd.snd.fst ∧ List.length x.snd.snd.fst < 1000 ∧ List.drop x.snd.fst x.snd.snd.fst = List.take x.fst x.snd.snd.snd ∧ List.Mem x.snd.snd.snd sgW → @Bool.rec (fun _ => Prop) (Bool.true = decide x4 ∧ True) ((0 : Int) ≤ (↑x.fst : Int) ∧ (0 : Int) ≤ x2_2 ∧ (↑x.fst : Int).toNat ≤ x2_2.toNat ∧ x2_2.toNat ≤ List.length x.snd.snd.snd ∧ (↑x.fst : Int).toNat + minus x2_2.toNat (↑x.fst : Int).toNat ≤ List.length x.snd.snd.snd ∧ x.snd.fst + (List.length x.snd.snd.fst - x.snd.fst) = List.length x.snd.snd.fst ∧ List.length x.snd.snd.fst + (List.take (minus x2_2.toNat (↑x.fst : Int).toNat) (dropN (↑x.fst : Int).toNat x.snd.snd.snd)).length < 1099511627776 ∧ 0 + (List.length x.snd.snd.fst - x.snd.fst + (List.take (minus x2_2.toNat (↑x.fst : Int).toNat) (dropN (↑x.fst : Int).toNat x.snd.snd.snd)).length) = x1.length ∧ x1.length < 1099511627776 ∧ @Bool.rec (fun _ => Prop) (Bool.true = Bool.false ∧ True) (@Bool.rec (fun _ => Prop) ((∃ (y : Nat × Nat × By × By), 10 - y.fst < 10 - x.fst ∧ (y.fst < List.length y.snd.snd.snd ∧ y.snd.fst ≤ List.length y.snd.snd.fst ∧ List.length y.snd.snd.fst < 1000 ∧ List.drop y.snd.fst y.snd.snd.fst = List.take y.fst y.snd.snd.snd ∧ List.Mem y.snd.snd.snd sgW) ∧ 0 = 0 ∧ 0 = 0 ∧ 0 = 0 ∧ x3 ∧ Bool.false = Bool.false ∧ 0 = 0 ∧ 0 = 0 ∧ 0 = 0 ∧ List.length y.snd.snd.snd = List.length x.snd.snd.snd ∧ 0 = 0 ∧ x4 ∧ (↑y.fst : Int) = x2_2 ∧ x3 ∧ x2 ∧ y.snd.fst = x3_2 ∧ 0 = 0 ∧ y.snd.fst = x3_2 ∧ List.length y.snd.snd.fst - y.snd.fst = x1.length - x3_2 ∧ (0 : Int) = stF (List.drop 0 x1) ∧ y.snd.snd.fst = x1 ∧ y.snd.snd.snd = x.snd.snd.snd ∧ True) ∨ (∃ (y : Nat × Nat × By × By), 10 - y.fst < 10 - x.fst ∧ (y.fst = List.length y.snd.snd.snd ∧ List.Mem y.snd.snd.snd sgW) ∧ 0 = 0 ∧ 0 = 0 ∧ 0 = 0 ∧ x3 ∧ Bool.false = Bool.false ∧ 0 = 0 ∧ 0 = 0 ∧ 0 = 0 ∧ List.length y.snd.snd.snd = List.length x.snd.snd.snd ∧ 0 = 0 ∧ x4 ∧ (↑y.fst : Int) = x2_2 ∧ x3 ∧ x2 ∧ y.snd.fst = x3_2 ∧ 0 = 0 ∧ y.snd.fst = x3_2 ∧ List.length y.snd.snd.fst - y.snd.fst = x1.length - x3_2 ∧ (3 : Int) = stF (List.drop 0 x1) ∧ y.snd.snd.fst = x1 ∧ y.snd.snd.snd = x.snd.snd.snd ∧ True) ∨ ∃ (y : Nat × Nat × By × By), 10 - y.fst < 10 - x.fst ∧ (y.fst = List.length y.snd.snd.snd ∧ List.Mem y.snd.snd.snd sgW) ∧ 0 = 0 ∧ 0 = 0 ∧ 0 = 0 ∧ x3 ∧ Bool.false = Bool.false ∧ 0 = 0 ∧ 0 = 0 ∧ 0 = 0 ∧ List.length y.snd.snd.snd = List.length x.snd.snd.snd ∧ 0 = 0 ∧ x4 ∧ (↑y.fst : Int) = x2_2 ∧ x3 ∧ x2 ∧ y.snd.fst = x3_2 ∧ 0 = 0 ∧ y.snd.fst = x3_2 ∧ List.length y.snd.snd.fst - y.snd.fst = x1.length - x3_2 ∧ (5 : Int) = stF (List.drop 0 x1) ∧ y.snd.snd.fst = x1 ∧ y.snd.snd.snd = x.snd.snd.snd ∧ True) (Bool.true = Bool.false ∧ True) !decide ((!decide (stF (List.drop 0 x1) = (0 : Int))) = decide ((↑x.fst : Int) = IntKind.i64.wrap ((↑(List.length x.snd.snd.snd) : Int) - (1 : Int))))) !stO (List.drop 0 x1)) (decide ((↑x.fst : Int) < (↑(List.length x.snd.snd.snd) : Int)))) ∧ (∀ (x : Nat × Nat × By × By), x.fst = List.length x.snd.snd.snd ∧ List.Mem x.snd.snd.snd sgW → @Bool.rec (fun _ => Prop) (Bool.true = decide x4 ∧ True) ((0 : Int) ≤ (↑x.fst : Int) ∧ (0 : Int) ≤ IntKind.i64.wrap ((↑x.fst : Int) + (1 : Int)) ∧ (↑x.fst : Int).toNat ≤ (IntKind.i64.wrap ((↑x.fst : Int) + (1 : Int))).toNat ∧ (IntKind.i64.wrap ((↑x.fst : Int) + (1 : Int))).toNat ≤ List.length x.snd.snd.snd ∧ (↑x.fst : Int).toNat + minus (IntKind.i64.wrap ((↑x.fst : Int) + (1 : Int))).toNat (↑x.fst : Int).toNat ≤ List.length x.snd.snd.snd ∧ (3 : Int) ≠ (0 : Int) ∧ Bool.true = Bool.false ∧ True) (decide ((↑x.fst : Int) < (↑(List.length x.snd.snd.snd) : Int)))) ∧ ∀ (x : Nat × Nat × By × By), x.fst = List.length x.snd.snd.snd ∧ List.Mem x.snd.snd.snd sgW → @Bool.rec (fun _ => Prop) (Bool.true = decide x4 ∧ True) ((0 : Int) ≤ (↑x.fst : Int) ∧ (0 : Int) ≤ IntKind.i64.wrap ((↑x.fst : Int) + (1 : Int)) ∧ (↑x.fst : Int).toNat ≤ (IntKind.i64.wrap ((↑x.fst : Int) + (1 : Int))).toNat ∧ (IntKind.i64.wrap ((↑x.fst : Int) + (1 : Int))).toNat ≤ List.length x.snd.snd.snd ∧ (↑x.fst : Int).toNat + minus (IntKind.i64.wrap ((↑x.fst : Int) + (1 : Int))).toNat (↑x.fst : Int).toNat ≤ List.length x.snd.snd.snd ∧ (5 : Int) ≠ (0 : Int) ∧ Bool.true = Bool.false ∧ True) (decide ((↑x.fst : Int) < (↑(List.length x.snd.snd.snd) : Int)))) ((0 : Int) ≤ (↑x.fst : Int) ∧ (0 : Int) ≤ IntKind.i64.wrap ((↑x.fst : Int) + (1 : Int)) ∧ (↑x.fst : Int).toNat ≤ (IntKind.i64.wrap ((↑x.fst : Int) + (1 : Int))).toNat ∧ (IntKind.i64.wrap ((↑x.fst : Int) + (1 : Int))).toNat ≤ List.length x1 ∧ (↑x.fst : Int).toNat + minus (IntKind.i64.wrap ((↑x.fst : Int) + (1 : Int))).toNat (↑x.fst : Int).toNat ≤ List.length x1 ∧ x.snd.fst + (List.length x.snd.snd.fst - x.snd.fst) = List.length x.snd.snd.fst ∧ List.length x.snd.snd.fst + (List.take (minus (IntKind.i64.wrap ((↑x.fst : Int) + (1 : Int))).toNat (↑x.fst : Int).toNat) (dropN (↑x.fst : Int).toNat x1)).length < 1099511627776 ∧ 0 + (List.length x.snd.snd.fst - x.snd.fst + (List.take (minus (IntKind.i64.wrap ((↑x.fst : Int) + (1 : Int))).toNat (↑x.fst : Int).toNat) (dropN (↑x.fst : Int).toNat x1)).length) = x2_1.length ∧ x2_1.length < 1099511627776 ∧ @Bool.rec (fun _ => Prop) (@Bool.rec (fun _ => Prop) (Bool.true = Bool.false ∧ True) (@Bool.rec (fun _ => Prop) (Bool.true = Bool.false ∧ True) x4_1 !!decide (stO (List.drop 0 x2_1) = Bool.false)) !!decide (stF (List.drop 0 x2_1) = (0 : Int))) ((0 : Int) ≤ x3_1 ∧ x3_1.toNat < Min.min (List.length ks) 8 ∧ x3_1.toNat < Min.min (List.length ks) 8 ∧ @Bool.rec (fun _ => Prop) (Bool.true = Bool.false ∧ True) (@Bool.rec (fun _ => Prop) (Bool.true = Bool.false ∧ True) x4_1 !!decide (stO (List.drop 0 x2_1) = decide (IntKind.i64.wrap ((↑x.fst : Int) + (1 : Int)) = (↑((5 + sgK n) * (x3_1.toNat + 1)) : Int)))) !!decide (stF (List.drop 0 x2_1) = (0 : Int))) (decide (x3_1 < (↑(Min.min (List.length ks) 8) : Int)))) (decide ((↑x.fst : Int) < (↑(List.length x1) : Int))); let x2 := ∀ (y : Nat), y < Min.min (List.length ks) 8 → datas Bool.false [AV.int IntKind.i64 (↑((5 + sgK n) * (y + 1)) : Int)] = Bool.true ∧ [AV.int IntKind.i64 (↑((5 + sgK n) * (y + 1)) : Int)] = [AV.int IntKind.i64 (↑((5 + sgK n) * (y + 1)) : Int)]; let x3 := sgB (sgK n) ks (Min.min (List.length ks) 8); let x4 := IntKind.i64.wrap (↑(BitVec.ofInt 64 bad % BitVec.ofNat 64 5).toNat : Int); let x5 := [BitVec.ofNat 8 0, BitVec.ofInt 8 (↑(sgK n) : Int)]; (∃ (x : Nat), (x ≤ 8 ∧ x ≤ List.length ks) ∧ ks = ks ∧ bad = bad ∧ (↑(sgK n) : Int) = IntKind.i64.wrap (↑(BitVec.ofInt 64 n % BitVec.ofNat 64 30).toNat : Int) ∧ (↑x : Int) = (0 : Int) ∧ List.length (sgB (sgK n) ks x) = 0 ∧ x = 0 ∧ sgB (sgK n) ks x = [] ∧ x = 0 ∧ True) ∧ ∀ (x : Nat), let x1 := (0 : Int) ≤ x4 ∧ x4.toNat < 5 ∧ @Bool.rec (fun _ => Prop) (@Bool.rec (fun _ => Prop) (@Bool.rec (fun _ => Prop) (@Bool.rec (fun _ => Prop) (@Bool.rec (fun _ => Prop) False (0 < 1099511627776 ∧ (∃ (x_1 : Nat × Nat × By × By), (x_1.fst ≤ List.length x3 ∧ x_1.snd.fst ≤ List.length x_1.snd.snd.fst ∧ List.length x_1.snd.snd.fst < 1000 ∧ List.drop x_1.snd.fst x_1.snd.snd.fst = sgM (sgK n) x3 x_1.fst ∧ List.Mem x_1.snd.snd.snd sgW) ∧ ks = ks ∧ (↑(sgK n) : Int) = (↑(sgK n) : Int) ∧ 0 = 0 ∧ 0 = 0 ∧ 0 = 0 ∧ List.length x3 = List.length (sgB (sgK n) ks x) ∧ 0 = 0 ∧ 0 = 0 ∧ 0 = 0 ∧ Min.min (List.length ks) 8 = x ∧ Bool.false = Bool.false ∧ 0 = 0 ∧ 0 = 0 ∧ 0 = 0 ∧ List.length x_1.snd.snd.snd = 5 ∧ 0 = 0 ∧ (↑(x_1.fst / (5 + sgK n)) : Int) = (0 : Int) ∧ (↑x_1.fst : Int) = (0 : Int) ∧ x3 = sgB (sgK n) ks x ∧ Min.min (List.length ks) 8 = x ∧ x2 ∧ x_1.snd.fst = 0 ∧ 0 = 0 ∧ x_1.snd.fst = 0 ∧ List.length x_1.snd.snd.fst - x_1.snd.fst = 0 ∧ (0 : Int) = (0 : Int) ∧ x_1.snd.snd.fst = [] ∧ x_1.snd.snd.snd = [BitVec.ofNat 8 21, BitVec.ofNat 8 3, BitVec.ofNat 8 0, BitVec.ofNat 8 1, BitVec.ofNat 8 1] ∧ True) ∧ x1) (decide (x4.toNat = 4))) (0 < 1099511627776 ∧ (∃ (x_1 : Nat × Nat × By × By), (x_1.fst ≤ List.length x3 ∧ x_1.snd.fst ≤ List.length x_1.snd.snd.fst ∧ List.length x_1.snd.snd.fst < 1000 ∧ List.drop x_1.snd.fst x_1.snd.snd.fst = sgM (sgK n) x3 x_1.fst ∧ List.Mem x_1.snd.snd.snd sgW) ∧ ks = ks ∧ (↑(sgK n) : Int) = (↑(sgK n) : Int) ∧ 0 = 0 ∧ 0 = 0 ∧ 0 = 0 ∧ List.length x3 = List.length (sgB (sgK n) ks x) ∧ 0 = 0 ∧ 0 = 0 ∧ 0 = 0 ∧ Min.min (List.length ks) 8 = x ∧ Bool.false = Bool.false ∧ 0 = 0 ∧ 0 = 0 ∧ 0 = 0 ∧ List.length x_1.snd.snd.snd = 5 ∧ 0 = 0 ∧ (↑(x_1.fst / (5 + sgK n)) : Int) = (0 : Int) ∧ (↑x_1.fst : Int) = (0 : Int) ∧ x3 = sgB (sgK n) ks x ∧ Min.min (List.length ks) 8 = x ∧ x2 ∧ x_1.snd.fst = 0 ∧ 0 = 0 ∧ x_1.snd.fst = 0 ∧ List.length x_1.snd.snd.fst - x_1.snd.fst = 0 ∧ (0 : Int) = (0 : Int) ∧ x_1.snd.snd.fst = [] ∧ x_1.snd.snd.snd = [BitVec.ofNat 8 23, BitVec.ofNat 8 3, BitVec.ofNat 8 0, BitVec.ofNat 8 1, BitVec.ofNat 8 18] ∧ True) ∧ x1) (decide (x4.toNat = 3))) (0 < 1099511627776 ∧ (∃ (x_1 : Nat × Nat × By × By), (x_1.fst ≤ List.length x3 ∧ x_1.snd.fst ≤ List.length x_1.snd.snd.fst ∧ List.length x_1.snd.snd.fst < 1000 ∧ List.drop x_1.snd.fst x_1.snd.snd.fst = sgM (sgK n) x3 x_1.fst ∧ List.Mem x_1.snd.snd.snd sgW) ∧ ks = ks ∧ (↑(sgK n) : Int) = (↑(sgK n) : Int) ∧ 0 = 0 ∧ 0 = 0 ∧ 0 = 0 ∧ List.length x3 = List.length (sgB (sgK n) ks x) ∧ 0 = 0 ∧ 0 = 0 ∧ 0 = 0 ∧ Min.min (List.length ks) 8 = x ∧ Bool.false = Bool.false ∧ 0 = 0 ∧ 0 = 0 ∧ 0 = 0 ∧ List.length x_1.snd.snd.snd = 2 ∧ 0 = 0 ∧ (↑(x_1.fst / (5 + sgK n)) : Int) = (0 : Int) ∧ (↑x_1.fst : Int) = (0 : Int) ∧ x3 = sgB (sgK n) ks x ∧ Min.min (List.length ks) 8 = x ∧ x2 ∧ x_1.snd.fst = 0 ∧ 0 = 0 ∧ x_1.snd.fst = 0 ∧ List.length x_1.snd.snd.fst - x_1.snd.fst = 0 ∧ (0 : Int) = (0 : Int) ∧ x_1.snd.snd.fst = [] ∧ x_1.snd.snd.snd = [BitVec.ofNat 8 23, BitVec.ofNat 8 2] ∧ True) ∧ x1) (decide (x4.toNat = 2))) (0 < 1099511627776 ∧ (∃ (x_1 : Nat × Nat × By × By), (x_1.fst ≤ List.length x3 ∧ x_1.snd.fst ≤ List.length x_1.snd.snd.fst ∧ List.length x_1.snd.snd.fst < 1000 ∧ List.drop x_1.snd.fst x_1.snd.snd.fst = sgM (sgK n) x3 x_1.fst ∧ List.Mem x_1.snd.snd.snd sgW) ∧ ks = ks ∧ (↑(sgK n) : Int) = (↑(sgK n) : Int) ∧ 0 = 0 ∧ 0 = 0 ∧ 0 = 0 ∧ List.length x3 = List.length (sgB (sgK n) ks x) ∧ 0 = 0 ∧ 0 = 0 ∧ 0 = 0 ∧ Min.min (List.length ks) 8 = x ∧ Bool.false = Bool.false ∧ 0 = 0 ∧ 0 = 0 ∧ 0 = 0 ∧ List.length x_1.snd.snd.snd = 1 ∧ 0 = 0 ∧ (↑(x_1.fst / (5 + sgK n)) : Int) = (0 : Int) ∧ (↑x_1.fst : Int) = (0 : Int) ∧ x3 = sgB (sgK n) ks x ∧ Min.min (List.length ks) 8 = x ∧ x2 ∧ x_1.snd.fst = 0 ∧ 0 = 0 ∧ x_1.snd.fst = 0 ∧ List.length x_1.snd.snd.fst - x_1.snd.fst = 0 ∧ (0 : Int) = (0 : Int) ∧ x_1.snd.snd.fst = [] ∧ x_1.snd.snd.snd = [BitVec.ofNat 8 24] ∧ True) ∧ x1) (decide (x4.toNat = 1))) (0 < 1099511627776 ∧ (∃ (x_1 : Nat × Nat × By × By), (x_1.fst ≤ List.length x3 ∧ x_1.snd.fst ≤ List.length x_1.snd.snd.fst ∧ List.length x_1.snd.snd.fst < 1000 ∧ List.drop x_1.snd.fst x_1.snd.snd.fst = sgM (sgK n) x3 x_1.fst ∧ List.Mem x_1.snd.snd.snd sgW) ∧ ks = ks ∧ (↑(sgK n) : Int) = (↑(sgK n) : Int) ∧ 0 = 0 ∧ 0 = 0 ∧ 0 = 0 ∧ List.length x3 = List.length (sgB (sgK n) ks x) ∧ 0 = 0 ∧ 0 = 0 ∧ 0 = 0 ∧ Min.min (List.length ks) 8 = x ∧ Bool.false = Bool.false ∧ 0 = 0 ∧ 0 = 0 ∧ 0 = 0 ∧ List.length x_1.snd.snd.snd = 1 ∧ 0 = 0 ∧ (↑(x_1.fst / (5 + sgK n)) : Int) = (0 : Int) ∧ (↑x_1.fst : Int) = (0 : Int) ∧ x3 = sgB (sgK n) ks x ∧ Min.min (List.length ks) 8 = x ∧ x2 ∧ x_1.snd.fst = 0 ∧ 0 = 0 ∧ x_1.snd.fst = 0 ∧ List.length x_1.snd.snd.fst - x_1.snd.fst = 0 ∧ (0 : Int) = (0 : Int) ∧ x_1.snd.snd.fst = [] ∧ x_1.snd.snd.snd = [BitVec.ofNat 8 19] ∧ True) ∧ x1) (decide (x4.toNat = 0)); let x2 := (BitVec.ofNat 8 20 + List.getD ks (↑x : Int).toNat (0 : BitVec 8) % BitVec.ofNat 8 4) :: BitVec.ofNat 8 3 :: List.getD ks (↑x : Int).toNat (0 : BitVec 8) :: x5; x ≤ 8 ∧ x ≤ List.length ks → @Bool.rec (fun _ => Prop) x1 (@Bool.rec (fun _ => Prop) x1 ((0 : Int) ≤ (↑x : Int) ∧ (↑x : Int).toNat < List.length ks ∧ (0 : Int) ≤ (↑x : Int) ∧ (↑x : Int).toNat < List.length ks ∧ 5 = x2.length ∧ List.length (sgB (sgK n) ks x) = List.length (sgB (sgK n) ks x) ∧ roomFor (List.length (sgB (sgK n) ks x)) x2.length 1 ∧ (0 : Int) ≤ (↑(sgK n) : Int) ∧ (↑(sgK n) : Int) < (9223372036854775808 : Int) ∧ List.length (sgB (sgK n) ks x) + x2.length = (sgB (sgK n) ks x ++ x2).length ∧ roomFor (List.length (sgB (sgK n) ks x) + x2.length) (List.replicate (↑(sgK n) : Int).toNat (0 : BitVec 8)).length 1 ∧ x = x ∧ roomFor x 1 8 ∧ ∃ (y : Nat), 8 - y < 8 - x ∧ (y ≤ 8 ∧ y ≤ List.length ks) ∧ ks = ks ∧ bad = bad ∧ (↑(sgK n) : Int) = (↑(sgK n) : Int) ∧ (↑y : Int) = IntKind.i64.wrap ((↑x : Int) + (1 : Int)) ∧ 0 = 0 ∧ 0 = 0 ∧ 0 = 0 ∧ List.length (sgB (sgK n) ks y) = List.length (sgB (sgK n) ks x) + x2.length + (List.replicate (↑(sgK n) : Int).toNat (0 : BitVec 8)).length ∧ 0 = 0 ∧ 0 = 0 ∧ 0 = 0 ∧ y = x + 1 ∧ sgB (sgK n) ks y = sgB (sgK n) ks x ++ x2 ++ List.replicate (↑(sgK n) : Int).toNat (0 : BitVec 8) ∧ y = x + 1 ∧ (∀ (y_1 : Nat), y_1 < y → datas Bool.false [AV.int IntKind.i64 (↑((5 + sgK n) * (y_1 + 1)) : Int)] = Bool.true ∧ glue (fun (j : Nat) => [AV.int IntKind.i64 (↑((5 + sgK n) * (j + 1)) : Int)]) x (cut 1 (List.take 1 (List.drop 0 [AV.int IntKind.i64 (↑(List.length (sgB (sgK n) ks x) + x2.length + (List.replicate (↑(sgK n) : Int).toNat (0 : BitVec 8)).length) : Int)]))) y_1 = [AV.int IntKind.i64 (↑((5 + sgK n) * (y_1 + 1)) : Int)]) ∧ True) (decide ((↑x : Int) < (8 : Int)))) (decide ((↑x : Int) < (↑(List.length ks) : Int))) : Prop) := by kernel_rfl
end Go.Sym

set_option linter.unusedSimpArgs false
namespace Go.Spec
open Go.Sym
theorem sgK_lt (n : Int) : sgK n < 30 := by
  have := BitVec.toNat_umod (x := BitVec.ofInt 64 n) (y := 30#64)
  unfold sgK
  rw [this]
  exact Nat.mod_lt _ (by decide)
theorem sgR_len (k : Nat) (c : BitVec 8) : (sgR k c).length = 5 + k := by simp [sgR]; omega
theorem sgB_len (k : Nat) (ks : By) : ∀ m, (sgB k ks m).length = (5 + k) * m
  | 0 => rfl
  | m + 1 => by simp only [sgB, List.length_append, sgB_len k ks m, sgR_len, Nat.mul_succ]
theorem sgB_drop (k : Nat) (ks : By) : ∀ m j, j < m → ∃ r, (sgB k ks m).drop ((5 + k) * j) = sgR k (ks.getD j 0) ++ r
  | 0, j, h => by omega
  | m + 1, j, h => by
    simp only [sgB]
    rcases Nat.lt_or_ge j m with h1 | h1
    · obtain ⟨r, hr⟩ := sgB_drop k ks m j h1
      refine ⟨r ++ sgR k (ks.getD m 0), ?_⟩
      rw [List.drop_append_of_le_length (by rw [sgB_len]; exact Nat.mul_le_mul_left _ (by omega)), hr, List.append_assoc]
    · obtain rfl : j = m := by omega
      refine ⟨[], ?_⟩
      rw [List.drop_append, List.drop_eq_nil_of_le (by rw [sgB_len]; exact Nat.le_refl _), sgB_len, Nat.sub_self]
      simp
theorem sgM_eq (k : Nat) (ks : By) (m i : Nat) (h : i < (5 + k) * m) : sgM k (sgB k ks m) i = (sgR k (ks.getD (i / (5 + k)) 0)).take (i % (5 + k)) ∧
    sgM k (sgB k ks m) i ++ ((sgB k ks m).drop i).take 1 = (sgR k (ks.getD (i / (5 + k)) 0)).take (i % (5 + k) + 1) := by
  have hT : 0 < 5 + k := by omega
  have hj : i / (5 + k) < m := (Nat.div_lt_iff_lt_mul hT).2 (by rw [Nat.mul_comm]; exact h)
  obtain ⟨r, hr⟩ := sgB_drop k ks m _ hj
  have hi : (5 + k) * (i / (5 + k)) + i % (5 + k) = i := Nat.div_add_mod i (5 + k)
  have hp : i % (5 + k) < 5 + k := Nat.mod_lt _ hT
  have e1 : sgM k (sgB k ks m) i = (sgR k (ks.getD (i / (5 + k)) 0)).take (i % (5 + k)) := by
    unfold sgM
    rw [List.drop_take, hr, show i - (5 + k) * (i / (5 + k)) = i % (5 + k) by omega, List.take_append_of_le_length (by rw [sgR_len]; omega)]
  refine ⟨e1, ?_⟩
  have e2 : (sgB k ks m).drop i = (sgR k (ks.getD (i / (5 + k)) 0)).drop (i % (5 + k)) ++ r := by
    have : (sgB k ks m).drop i = ((sgB k ks m).drop ((5 + k) * (i / (5 + k)))).drop (i % (5 + k)) := by rw [List.drop_drop, hi]
    rw [this, hr, List.drop_append_of_le_length (by rw [sgR_len]; omega)]
  rw [e1, e2, List.take_append_of_le_length (by rw [List.length_drop, sgR_len]; omega), List.take_add]
theorem sgM_end (k : Nat) (ks : By) (m i : Nat) (h : i + 1 ≤ (5 + k) * m) : sgM k (sgB k ks m) (i + 1) = if i % (5 + k) + 1 = 5 + k then [] else (sgR k (ks.getD (i / (5 + k)) 0)).take (i % (5 + k) + 1) := by
  have hT : 0 < 5 + k := by omega
  have hi : (5 + k) * (i / (5 + k)) + i % (5 + k) = i := Nat.div_add_mod i (5 + k)
  have hp : i % (5 + k) < 5 + k := Nat.mod_lt _ hT
  split
  · rename_i hq
    have e : (i + 1) / (5 + k) = i / (5 + k) + 1 := by
      rw [Nat.div_eq_iff hT, Nat.add_mul, Nat.mul_comm]
      omega
    unfold sgM
    rw [e]
    apply List.drop_eq_nil_of_le
    rw [List.length_take, Nat.mul_add]
    omega
  · rename_i hq
    have e : (i + 1) / (5 + k) = i / (5 + k) := by
      rw [Nat.div_eq_iff hT, Nat.mul_comm]
      omega
    have e2 : (i + 1) % (5 + k) = i % (5 + k) + 1 := by
      have := Nat.div_add_mod (i + 1) (5 + k)
      rw [e] at this
      omega
    rcases Nat.lt_or_ge (i + 1) ((5 + k) * m) with h2 | h2
    · rw [(sgM_eq k ks m (i + 1) h2).1, e, e2]
    · exfalso
      have h3 : i + 1 = (5 + k) * m := by omega
      rw [h3, Nat.mul_mod_right] at e2
      omega
/-- What a part of a record is. -/
theorem sgR_part (k : Nat) (c : BitVec 8) (q : Nat) (hk : k < 30) (hq : q ≤ 5 + k) : stF ((sgR k c).take q) = 0 ∧ stO ((sgR k c).take q) = decide (q = 5 + k) ∧
    stX ((sgR k c).take q) = (if q = 5 + k then 5 + k else 0) ∧ (q = 5 + k → stK ((sgR k c).take q) = 20 + ((c % 4#8).toNat : Int) ∧ (stB ((sgR k c).take q)).length = k) := by
  have h0 : (20#8 + c % 4#8).toNat = 20 + (c % 4#8).toNat := by
    rw [BitVec.toNat_add]
    have : (c % 4#8).toNat < 4 := by rw [BitVec.toNat_umod]; exact Nat.mod_lt _ (by decide)
    exact Nat.mod_eq_of_lt (by show 20 + _ < 256; omega)
  have h4 : (c % 4#8).toNat < 4 := by rw [BitVec.toNat_umod]; exact Nat.mod_lt _ (by decide)
  have hl : ((sgR k c).take q).length = q := by rw [List.length_take, sgR_len]; omega
  have g : ∀ i, i < q → ((sgR k c).take q).getD i 0 = (sgR k c).getD i 0 := fun i h => by
    simp only [List.getD, List.getElem?_take, if_pos h]
  have hk8 : (BitVec.ofInt 8 (k : Int)).toNat = k := by
    rw [BitVec.ofInt_natCast, BitVec.toNat_ofNat]
    omega
  have hN : 5 ≤ q → stN ((sgR k c).take q) = k := by
    intro h5
    unfold stN
    rw [g 3 (by omega), g 4 (by omega)]
    simp [sgR, hk8]
    omega
  have hF : stF ((sgR k c).take q) = 0 := by
    unfold stF
    rw [if_neg, if_neg]
    · rintro ⟨h5, h6⟩
      rw [hl] at h5
      rw [hN h5] at h6
      split at h6 <;> omega
    · rintro (⟨h5, h6⟩ | ⟨h5, h6⟩)
      · rw [hl] at h5
        rw [g 0 (by omega)] at h6
        apply h6
        have e : (sgR k c).getD 0 0 = 20#8 + c % 4#8 := rfl
        rw [e, h0]
        omega
      · rw [hl] at h5
        rw [g 1 (by omega)] at h6
        exact h6 rfl
  have hO : stO ((sgR k c).take q) = decide (q = 5 + k) := by
    unfold stO
    rw [hF, hl]
    by_cases h5 : 5 ≤ q
    · rw [hN h5]
      by_cases h6 : q = 5 + k
      · simp [h6]; omega
      · have : ¬ (k + 5 ≤ q) := by omega
        simp [h6, this]
    · have : q ≠ 5 + k := by omega
      simp [h5, this]
  refine ⟨hF, hO, ?_, fun hq2 => ?_⟩
  · unfold stX
    rw [hO]
    by_cases h6 : q = 5 + k
    · simp only [h6, decide_true, if_true]
      have := hN (by omega)
      rw [h6] at this
      rw [this]
    · simp [h6]
  · have hO' : stO ((sgR k c).take q) = true := by rw [hO, hq2]; simp
    refine ⟨?_, ?_⟩
    · unfold stK
      rw [if_pos hO', g 0 (by omega)]
      show ((20#8 + c % 4#8).toNat : Int) = _
      rw [h0]
      omega
    · unfold stB
      rw [if_pos hO', List.length_take, List.length_drop, hl, hN (by omega)]
      omega
theorem sgW_part {W : By} (hW : W ∈ sgW) (i : Nat) (hi : i < W.length) : W.length ≤ 5 ∧ stO (W.take (i + 1)) = false ∧ stX (W.take (i + 1)) = 0 ∧ ((i + 1 < W.length ∧ stF (W.take (i + 1)) = 0) ∨ (i + 1 = W.length ∧ (stF (W.take (i + 1)) = 3 ∨ stF (W.take (i + 1)) = 5))) := by
  simp only [sgW, List.mem_cons, List.not_mem_nil, or_false] at hW
  rcases hW with rfl | rfl | rfl | rfl | rfl
  all_goals
    simp only [List.length_cons, List.length_nil] at hi ⊢
  all_goals
    match i, hi with
    | 0, _ => decide
    | 1, h => first | (exfalso; omega) | decide
    | 2, h => first | (exfalso; omega) | decide
    | 3, h => first | (exfalso; omega) | decide
    | 4, h => first | (exfalso; omega) | decide
    | i + 5, h => exfalso; omega
end Go.Spec

set_option linter.unusedSimpArgs false
namespace Go.Sym
open Go.Proofs Go.Spec
set_option linter.unusedVariables false
theorem wrap1 (i : Nat) (h : i < 1000000) : IntKind.i64.wrap ((i : Int) + 1) = ((i + 1 : Nat) : Int) := wrap_nat _ (by omega) (by omega)
theorem bt14 (ks : By) (nl : Bool) (n bad : Int) : Must (bodyP Try.prog (T6.withSym [73]) gl0 [] (lsSg ks n bad) 3000 Try.f14 0 [.rb true ks (.is nl), .int .i64 n, .int .i64 bad] [] (retQ Try.prog Try.f14 0 ⟨[], .bool true, [], []⟩)) := by
  constructor
  rw [vt14]
  have hk := sgK_lt n
  have hk0 : (sgK n : Int) = IntKind.i64.wrap (↑(BitVec.ofInt 64 n % BitVec.ofNat 64 30).toNat : Int) := by
    rw [wrap_i64]
    · rfl
    · omega
    · have : (BitVec.ofInt 64 n % BitVec.ofNat 64 30).toNat = sgK n := rfl
      omega
  generalize hkk : sgK n = k at *
  generalize hm : Min.min (List.length ks) 8 = m at *
  have hm8 : m ≤ 8 := by omega
  have hmk : m ≤ ks.length := by omega
  have hBl := sgB_len k ks m
  have hrows : ∀ (y : Nat), y < m → datas Bool.false [AV.int IntKind.i64 (↑((5 + k) * (y + 1)) : Int)] = Bool.true ∧ [AV.int IntKind.i64 (↑((5 + k) * (y + 1)) : Int)] = [AV.int IntKind.i64 (↑((5 + k) * (y + 1)) : Int)] := fun y hy => ⟨rfl, rfl⟩
  have hT : 0 < 5 + k := by omega
  intro X1 X2 X3 X4 X5
  have hX1 : X1 := by
    unfold X1
    intro B E2 E3 E4 y
    have hBv : B = sgB k ks m := rfl
    have hE2 : E2 := hrows
    have hE3 : E3 := rfl
    have hE4 : E4 := rfl
    clear_value E2 E3
    obtain ⟨i, x, L, W⟩ := y
    intro x11 M J x41 h
    have h1 : i ≤ B.length := h.1
    have h2 : x ≤ L.length := h.2.1
    have h3 : L.length < 1000 := h.2.2.1
    have h4 : L.drop x = sgM k B i := h.2.2.2.1
    have h5 : W ∈ sgW := h.2.2.2.2
    have hBl2 : B.length = (5 + k) * m := hBl
    have hBs : B.length ≤ 300 := by
      rw [hBl2]
      exact Nat.le_trans (Nat.mul_le_mul (show 5 + k ≤ 35 by omega) hm8) (by decide)
    have hw := wrap1 i (by omega)
    have hM : M = L.drop x ++ List.take (minus (IntKind.i64.wrap ((i : Int) + (1 : Int))).toNat (i : Int).toNat) (dropN (i : Int).toNat B) := rfl
    refine brec (fun hd => ?_) (fun hd => ?_)
    · have hi : i < B.length := by have := dlt.1 hd; omega
      have hit : i < (5 + k) * m := by omega
      obtain ⟨f1, f2⟩ := sgM_eq k ks m i hit
      have f3 := sgM_end k ks m i (by omega)
      have hp : i % (5 + k) < 5 + k := Nat.mod_lt _ hT
      have hj : i / (5 + k) < m := (Nat.div_lt_iff_lt_mul hT).2 (by rw [Nat.mul_comm]; exact hit)
      have hMv : List.drop x L ++ List.take (minus (IntKind.i64.wrap ((i : Int) + (1 : Int))).toNat (i : Int).toNat) (dropN (i : Int).toNat B) = (sgR k (ks.getD (i / (5 + k)) 0)).take (i % (5 + k) + 1) := by
        rw [hw, minus_eq, dropN_eq, Int.toNat_natCast, Int.toNat_natCast, Nat.add_sub_cancel_left, h4]
        exact f2
      obtain ⟨g1, g2, g3, g4⟩ := sgR_part k (ks.getD (i / (5 + k)) 0) (i % (5 + k) + 1) hk (by omega)
      have hx11 : x11 := by
        unfold x11
        dsimp only
        rw [hMv, List.drop_zero, g1, g2, g3]
        by_cases hq : i % (5 + k) + 1 = 5 + k
        · rw [decide_eq_true hq]
          have hdiv : (i + 1) / (5 + k) = i / (5 + k) + 1 := by
            rw [Nat.div_eq_iff hT, Nat.add_mul, Nat.mul_comm]
            have := Nat.div_add_mod i (5 + k)
            omega
          refine ⟨(i + 1, 5 + k, (sgR k (ks.getD (i / (5 + k)) 0)).take (i % (5 + k) + 1), W), ?_⟩
          have hl : ((sgR k (ks.getD (i / (5 + k)) 0)).take (i % (5 + k) + 1)).length = 5 + k := by rw [List.length_take, sgR_len]; omega
          rw [if_pos hq]
          dsimp only
          rw [hl, hw, hdiv]
          and_intros
          all_goals first | rfl | trivial | omega | exact hE2 | exact h5 | skip
          · rw [f3, if_pos hq]; exact List.drop_eq_nil_of_le (by rw [hl]; omega)
          · rw [wrap1 _ (by omega)]
        · rw [decide_eq_false hq]
          have hdiv : (i + 1) / (5 + k) = i / (5 + k) := by
            rw [Nat.div_eq_iff hT, Nat.mul_comm]
            have := Nat.div_add_mod i (5 + k)
            omega
          refine ⟨(i + 1, 0, (sgR k (ks.getD (i / (5 + k)) 0)).take (i % (5 + k) + 1), W), ?_⟩
          have hl : ((sgR k (ks.getD (i / (5 + k)) 0)).take (i % (5 + k) + 1)).length = i % (5 + k) + 1 := by rw [List.length_take, sgR_len]; omega
          rw [if_neg hq]
          dsimp only
          rw [hl, hw, hdiv]
          and_intros
          all_goals first | rfl | trivial | omega | exact hE2 | exact h5 | skip
          · rw [f3, if_neg hq]; rfl
      clear_value x11
      have hMM : M = (sgR k (ks.getD (i / (5 + k)) 0)).take (i % (5 + k) + 1) := hMv
      have hJ : J = ((i / (5 + k) : Nat) : Int) := rfl
      clear_value M J
      have hl : ((sgR k (ks.getD (i / (5 + k)) 0)).take (i % (5 + k) + 1)).length = i % (5 + k) + 1 := by rw [List.length_take, sgR_len]; omega
      have j0 : 0 ≤ J := by rw [hJ]; exact Int.natCast_nonneg _
      have j1 : J.toNat < m := by rw [hJ, Int.toNat_natCast]; exact hj
      have j2 : J < (m : Int) := by rw [hJ]; exact Int.ofNat_lt.2 hj
      have hx41 : x41 := by
        unfold x41
        rw [hMM, List.drop_zero, g2]
        by_cases hq : i % (5 + k) + 1 = 5 + k
        · obtain ⟨q1, q2⟩ := g4 hq
          have h4' : (List.getD ks (i / (5 + k)) 0 % 4#8).toNat < 4 := by rw [BitVec.toNat_umod]; exact Nat.mod_lt _ (by decide)
          have e1 : IntKind.i64.wrap ((20 : Int) + (↑(List.getD ks J.toNat (0 : BitVec 8) % BitVec.ofNat 8 4).toNat : Int)) = 20 + ((List.getD ks (i / (5 + k)) 0 % 4#8).toNat : Int) := by
            rw [hJ, Int.toNat_natCast]
            exact wrap_i64 (by omega) (by omega)
          rw [decide_eq_true hq, q1, e1, q2]
          refine ⟨j0, Nat.lt_of_lt_of_le j1 hmk, ?_⟩
          rw [decide_eq_true rfl, decide_eq_true rfl]
          exact hx11
        · rw [decide_eq_false hq]
          exact hx11
      clear_value x41
      have hdl : (List.take (minus (IntKind.i64.wrap ((i : Int) + (1 : Int))).toNat (i : Int).toNat) (dropN (i : Int).toNat B)).length = 1 := by
        rw [hw, minus_eq, dropN_eq, Int.toNat_natCast, Int.toNat_natCast, Nat.add_sub_cancel_left, List.length_take, List.length_drop]
        omega
      have hLd : (L.drop x).length = i % (5 + k) := by
        have := congrArg List.length f1
        rw [← h4, List.length_take, sgR_len] at this
        omega
      rw [List.length_drop] at hLd
      dsimp only at hdl ⊢
      rw [hdl, hw, Int.toNat_natCast, Int.toNat_natCast, minus_eq, Nat.add_sub_cancel_left, hMM, hl, List.drop_zero, g1, g2]
      refine ⟨by omega, by omega, by omega, by omega, by omega, by omega, by omega, by omega, by omega, ?_⟩
      rw [decide_eq_true j2]
      refine ⟨j0, j1, j1, ?_⟩
      have e2 : decide (((i + 1 : Nat) : Int) = (↑((5 + k) * (J.toNat + 1)) : Int)) = decide (i % (5 + k) + 1 = 5 + k) := by
        rw [hJ, Int.toNat_natCast, Nat.mul_add]
        have := Nat.div_add_mod i (5 + k)
        apply decide_eq_decide.2
        constructor <;> intro <;> omega
      rw [e2, decide_eq_true rfl, decide_eq_true rfl]
      exact hx41
    · have hi : i = B.length := by have := ndlt.1 hd; omega
      have hdv : i / (5 + k) = m := by rw [hi, hBl2]; exact Nat.mul_div_cancel_left m hT
      have hL0 : L.drop x = [] := by
        rw [h4]
        unfold sgM
        rw [hdv, hi, List.take_length]
        exact List.drop_eq_nil_of_le (by rw [hBl2]; exact Nat.le_refl _)
      have hW : 0 < W.length ∧ W.length ≤ 5 := by
        simp only [sgW, List.mem_cons, List.not_mem_nil, or_false] at h5
        rcases h5 with rfl | rfl | rfl | rfl | rfl <;> decide
      have hJ : J = (m : Int) := by show ((i / (5 + k) : Nat) : Int) = _; rw [hdv]
      clear_value M J
      refine ⟨.inl ⟨(0, x, L, W), ?_⟩, ?_, ?_, ?_⟩
      · dsimp only
        and_intros
        all_goals first | rfl | trivial | omega | exact hE2 | exact h5 | exact hW.1 | exact hL0 | skip
      · intro y
        obtain ⟨j, x', L', W'⟩ := y
        intro M' w' z' h'
        have r1 : j < W'.length := h'.1
        have r2 : x' ≤ L'.length := h'.2.1
        have r3 : L'.length < 1000 := h'.2.2.1
        have r4 : L'.drop x' = W'.take j := h'.2.2.2.1
        have r5 : W' ∈ sgW := h'.2.2.2.2
        obtain ⟨t1, t2, t3, t4⟩ := sgW_part r5 j r1
        have hw' := wrap1 j (by omega)
        have hwv : w' = ((j + 1 : Nat) : Int) := hw'
        have hMv : M' = W'.take (j + 1) := by
          show List.drop x' L' ++ List.take (minus (IntKind.i64.wrap ((j : Int) + (1 : Int))).toNat (j : Int).toNat) (dropN (j : Int).toNat W') = _
          rw [hw', minus_eq, dropN_eq, Int.toNat_natCast, Int.toNat_natCast, Nat.add_sub_cancel_left, r4, List.take_add]
        have hzv : z' = 0 := by show 0 + stX (List.drop 0 M') = 0; rw [hMv, List.drop_zero, t3]
        have hLd := congrArg List.length r4
        rw [List.length_drop, List.length_take] at hLd
        refine brec (fun hd => ?_) (fun hd => ⟨(decide_eq_true hE4).symm, trivial⟩)
        have hdl : (List.take (minus w'.toNat (j : Int).toNat) (dropN (j : Int).toNat W')).length = 1 := by
          rw [hwv, minus_eq, dropN_eq, Int.toNat_natCast, Int.toNat_natCast, Nat.add_sub_cancel_left, List.length_take, List.length_drop]
          omega
        have hl : (W'.take (j + 1)).length = j + 1 := by rw [List.length_take]; omega
        have e3 : IntKind.i64.wrap ((W'.length : Int) - 1) = (W'.length : Int) - 1 := wrap_i64 (by omega) (by omega)
        dsimp only at hdl ⊢
        rw [hdl, hwv, Int.toNat_natCast, Int.toNat_natCast, minus_eq, Nat.add_sub_cancel_left, hMv, hzv, hl, List.drop_zero, t2, e3]
        refine ⟨by omega, by omega, by omega, by omega, by omega, by omega, by omega, by omega, by omega, ?_⟩
        rcases t4 with ⟨u1, u2⟩ | ⟨u1, u2⟩
        · have e4 : decide ((!decide (stF (List.take (j + 1) W') = 0)) = decide ((j : Int) = (W'.length : Int) - 1)) = true := by
            rw [u2, decide_eq_false (show ¬ (j : Int) = (W'.length : Int) - 1 by omega)]; rfl
          rw [e4]
          refine .inl ⟨(j + 1, 0, W'.take (j + 1), W'), ?_⟩
          dsimp only
          rw [u2, hl]
          and_intros
          all_goals first | rfl | trivial | omega | exact hE2 | exact r5 | exact hE4 | skip
        · have e4 : decide ((!decide (stF (List.take (j + 1) W') = 0)) = decide ((j : Int) = (W'.length : Int) - 1)) = true := by
            rw [decide_eq_true (show (j : Int) = (W'.length : Int) - 1 by omega)]
            rcases u2 with u2 | u2 <;> rw [u2] <;> rfl
          rw [e4]
          rcases u2 with u2 | u2
          · refine .inr (.inl ⟨(j + 1, 0, W'.take (j + 1), W'), ?_⟩)
            dsimp only
            rw [u2, hl]
            and_intros
            all_goals first | rfl | trivial | omega | exact hE2 | exact r5 | exact hE4 | skip
          · refine .inr (.inr ⟨(j + 1, 0, W'.take (j + 1), W'), ?_⟩)
            dsimp only
            rw [u2, hl]
            and_intros
            all_goals first | rfl | trivial | omega | exact hE2 | exact r5 | exact hE4 | skip
      all_goals
        intro y h'
        refine brec (fun hd => ?_) (fun hd => ⟨(decide_eq_true hE4).symm, trivial⟩)
        have := dlt.1 hd
        have := h'.1
        omega
  clear_value X1
  have hX2 : X2 := hrows
  have hX3 : X3 = sgB k ks m := rfl
  have hX4a : 0 ≤ X4 ∧ X4.toNat < 5 := by
    have e : (BitVec.ofInt 64 bad % BitVec.ofNat 64 5).toNat < 5 := by rw [BitVec.toNat_umod]; exact Nat.mod_lt _ (by decide)
    have : X4 = ((BitVec.ofInt 64 bad % BitVec.ofNat 64 5).toNat : Int) := wrap_i64 (by omega) (by omega)
    rw [this]
    omega
  clear_value X2 X3 X4
  refine ⟨⟨0, ?_⟩, ?_⟩
  · and_intros
    all_goals first | rfl | trivial | omega | exact hk0 | skip
  intro x Y1 Y2 hx
  have hx1 : x ≤ 8 := hx.1
  have hx2 : x ≤ ks.length := hx.2
  have hY1 : x = m → Y1 := by
    intro hxm
    unfold Y1
    subst hxm
    refine ⟨hX4a.1, hX4a.2, ?_⟩
    have m0 : sgM k (sgB k ks x) 0 = [] := by simp [sgM]
    have wit : ∀ (W : By), W ∈ sgW → (∃ (x_1 : Nat × Nat × By × By), (x_1.fst ≤ List.length X3 ∧ x_1.snd.fst ≤ List.length x_1.snd.snd.fst ∧ List.length x_1.snd.snd.fst < 1000 ∧ List.drop x_1.snd.fst x_1.snd.snd.fst = sgM k X3 x_1.fst ∧ List.Mem x_1.snd.snd.snd sgW) ∧ ks = ks ∧ (↑k : Int) = (↑k : Int) ∧ 0 = 0 ∧ 0 = 0 ∧ 0 = 0 ∧ List.length X3 = List.length (sgB k ks x) ∧ 0 = 0 ∧ 0 = 0 ∧ 0 = 0 ∧ x = x ∧ Bool.false = Bool.false ∧ 0 = 0 ∧ 0 = 0 ∧ 0 = 0 ∧ List.length x_1.snd.snd.snd = W.length ∧ 0 = 0 ∧ (↑(x_1.fst / (5 + k)) : Int) = (0 : Int) ∧ (↑x_1.fst : Int) = (0 : Int) ∧ X3 = sgB k ks x ∧ x = x ∧ X2 ∧ x_1.snd.fst = 0 ∧ 0 = 0 ∧ x_1.snd.fst = 0 ∧ List.length x_1.snd.snd.fst - x_1.snd.fst = 0 ∧ (0 : Int) = (0 : Int) ∧ x_1.snd.snd.fst = [] ∧ x_1.snd.snd.snd = W ∧ True) := by
      intro W hW
      refine ⟨(0, 0, [], W), ?_⟩
      rw [hX3]
      dsimp only
      rw [m0, Nat.zero_div]
      and_intros
      all_goals first | rfl | trivial | omega | exact hX2 | exact hW | exact Nat.zero_le _ | skip
    refine brec (fun _ => ⟨by omega, wit [19#8] (by decide), hX1⟩) fun d0 => ?_
    refine brec (fun _ => ⟨by omega, wit [24#8] (by decide), hX1⟩) fun d1 => ?_
    refine brec (fun _ => ⟨by omega, wit [23#8, 2#8] (by decide), hX1⟩) fun d2 => ?_
    refine brec (fun _ => ⟨by omega, wit [23#8, 3#8, 0#8, 1#8, 18#8] (by decide), hX1⟩) fun d3 => ?_
    refine brec (fun _ => ⟨by omega, wit [21#8, 3#8, 0#8, 1#8, 1#8] (by decide), hX1⟩) fun d4 => ?_
    simp only [decide_eq_false_iff_not] at d0 d1 d2 d3 d4
    have := hX4a.2
    omega
  clear_value Y1
  refine brec (fun c1 => brec (fun c2 => ?_) (fun c2 => hY1 (by have := dlt.1 c1; have := ndlt.1 c2; omega))) (fun c1 => hY1 (by have := ndlt.1 c1; omega))
  have c1 := dlt.1 c1
  have c2 := dlt.1 c2
  have hl := sgB_len k ks x
  have hxb : (5 + k) * x ≤ 300 := Nat.le_trans (Nat.mul_le_mul (show 5 + k ≤ 35 by omega) hx1) (by decide)
  have hY2 : Y2.length = 5 := rfl
  have hY2v : Y2 = (BitVec.ofNat 8 20 + List.getD ks x (0 : BitVec 8) % BitVec.ofNat 8 4) :: BitVec.ofNat 8 3 :: List.getD ks x (0 : BitVec 8) :: X5 := rfl
  have hY2w : Y2 ++ List.replicate k 0 = sgR k (ks.getD x 0) := rfl
  clear_value Y2
  have hrep : (List.replicate (k : Int).toNat (0 : BitVec 8)).length = k := by rw [List.length_replicate]; omega
  rw [hrep, hY2, hl]
  have hln : (sgB k ks x ++ Y2).length = (5 + k) * x + 5 := by rw [List.length_append, hl, hY2]
  rw [hln]
  refine ⟨by omega, by omega, by omega, by omega, rfl, rfl, by unfold roomFor; omega, by omega, by omega, rfl, by unfold roomFor; omega, rfl, by unfold roomFor; omega, x + 1, ?_⟩
  rw [sgB_len, wrap1 x (by omega), Int.toNat_natCast]
  and_intros
  all_goals first | rfl | trivial | omega | skip
  · rw [Nat.mul_succ]; omega
  · simp only [sgB]
    rw [List.append_assoc, hY2w]
  · intro y hy
    refine ⟨rfl, ?_⟩
    unfold glue
    by_cases hyx : y < x
    · rw [if_pos hyx]
    · rw [if_neg hyx]
      obtain rfl : y = x := by omega
      have e : (5 + k) * y + 5 + k = (5 + k) * (y + 1) := by rw [Nat.mul_succ]; omega
      rw [e, Nat.sub_self]
      rfl
def a14 : Nat := 0
end Go.Sym

/- StreamSingles: byte by byte no record is taken ahead of its last byte, and it is taken then; an error is told at its first byte. No conditions. -/
namespace Go.Sym
open Go.Proofs Go.Spec
theorem w14 (W : World) (v0 : Value) (l0 : List (BitVec 8)) (c0 : Bool) (h0 : VRel (κW W) (.rb true l0 (.is c0)) v0) (_k0 : l0.length ≤ maxLen) (n1 : Int) (n2 : Int) :
    Calls Try.prog 14 #[v0, .int .i64 n1, .int .i64 n2] W fun e w' => e = .returned (.bool true) ∧ RowKit.Below W.heap.size W w' := by
  have hv : VRels (κW W) [.rb true l0 (.is c0), .int .i64 n1, .int .i64 n2] [v0, .int .i64 n1, .int .i64 n2] := by
    simp only [VRels]
    exact ⟨_, _, rfl, h0, _, _, rfl, rfl, _, _, rfl, rfl, rfl⟩
  refine law_walk (gl := gl0) (Γ := (T6.withSym [73])) (fn := Try.f14) (av := [.rb true l0 (.is c0), .int .i64 n1, .int .i64 n2]) (ls := (lsSg l0 n1 n2)) [] 3000 (by kernel_rfl) (by kernel_rfl) (okT6.withSym [73]) (by kernel_rfl) (GW.nil W) (by kernel_rfl) hv ?_
  exact bt14 l0 c0 n1 n2
end Go.Sym
namespace Go.Proofs.Ytgniepaehjdjaaa.streamSingles
open Go.ChangeShapes Go.WideShapes Go.ChangeAt Go.RowKit
set_option linter.unusedVariables false

theorem own : ownKnob Try.prog.godebug = none := by kernel_rfl
theorem laid : laidOutB Try.prog = true := by kernel_rfl

set_option maxRecDepth 100000 in
theorem lifted (os : Os) (started : os.Started) (H : Type) (enc : TypeId × Value → H) :
    ReturnsInHanded {} Try.checked os 14 .any (Rows.streamSinglesSpec.pre6 enc Try.prog Try.f14 Rows.streamSinglesRow.domain false) (Rows.streamSinglesSpec.post enc Try.prog Try.f14 false true false false) := by
  refine returnsInHanded_of_change (C := Try.checked) own started (by kernel_rfl) Try.func14
    (ChangeSpec.witness6 (enc := enc) (C := Try.checked) false ⟨#[], #[.slice none 0 0, .int .i64 0, .int .i64 0], []⟩ 8 (by kernel_rfl) (by kernel_rfl) (by kernel_rfl) (by kernel_rfl)) ?_
  intro W base args ds gs before hval0 hW hcnd _
  have hval : ∀ (j : Nat) t v, Try.f14.params[j]? = some t → args[j]? = some v → Value.okWide Try.prog W .any base t v := hval0
  have hW' := hW
  obtain ⟨p, q, hA0, hV, rfl, hfz, hnd⟩ := hW
  have hA : DataW.TrodAll enc Try.prog W 0 (fun _ => true) true Try.f14.params.toList args.toList ds p := hA0
  rw [Try.params14] at hA hval
  obtain ⟨v0, vs0, d0, ds0, p0, q0, hargs, rfl, rfl, h0, r0⟩ := trodAll_cons hA
  obtain ⟨v1, vs1, d1, ds1, p1, q1, rfl, rfl, rfl, h1, r1⟩ := trodAll_cons r0
  obtain ⟨v2, vs2, d2, ds2, p2, q2, rfl, rfl, rfl, h2, r2⟩ := trodAll_cons r1
  obtain ⟨rfl, rfl, rfl⟩ := trodAll_nil r2
  obtain rfl : args = #[v0, v1, v2] := by cases args; simp_all
  obtain ⟨rfl, rfl⟩ := trodVars_none hV
  obtain ⟨a1, rfl, rfl, rfl, w1⟩ := open_int Try.underlying3 (hval 1 3 v1 rfl rfl) h1
  obtain ⟨a2, rfl, rfl, rfl, w2⟩ := open_int Try.underlying3 (hval 2 3 v2 rfl rfl) h2
  clear hA0 hval0
  have hlt0 : ∀ x ∈ p0, x.block < W.heap.size := fun x hx => hW'.lt x (by simp [hx])
  obtain ⟨fuel0, hf0⟩ := h0
  obtain ⟨u0, l0, c0, hc0, hcl0, hll0, hu0⟩ := Go.Sym.rd_bytes Try.underlying22 Try.underlying5 (by kernel_rfl) hf0
  have hv0 : v0 = u0 := Go.Sym.cells_slice Try.underlying22 (hval 0 22 v0 rfl rfl) hc0
  subst hv0
  refine (Go.Sym.w14 W v0 l0 c0 hu0 hll0 a1 a2).mono fun e W' ⟨he, bel⟩ => ?_
  subst he
  exact ⟨_, rfl, _, _, _, [], _, [], hW', trodAll_mk1 (shut_bool Try.underlying4 _), (trodAll_cons_mk (Below.trod laid (by kernel_rfl) (of_decide_eq_true (by kernel_rfl)) ⟨fuel0, hf0⟩ bel hlt0) (trodAll_cons_mk (shut_int Try.underlying3 w1) (trodAll_cons_mk (shut_int Try.underlying3 w2) trodAll_mk0))), rfl, bel.frame _, fun h => by cases h⟩

theorem over : Rows.streamSinglesRow.holds Try.pinned (OpenSpec.ofChange Rows.streamSinglesSpec) :=
  OpenClaim.holds_of_wide 14 Try.f14 rfl rfl rfl rfl rfl rfl rfl ⟨rfl, rfl, rfl, rfl, rfl⟩ rfl rfl rfl rfl rfl (by kernel_rfl) Try.func14 (by kernel_rfl)
    (of_decide_eq_true (by kernel_rfl)) (by unfold Func.isWrapper; first | (rw [if_pos (by decide +kernel)]; kernel_rfl) | (rw [if_neg (by decide +kernel)]; exact ⟨rfl, rfl⟩))
    (fun os started H enc _ => lifted os started H enc)

theorem proved : Rows.StreamSinglesSaid :=
  over
#print axioms proved
end Go.Proofs.Ytgniepaehjdjaaa.streamSingles
