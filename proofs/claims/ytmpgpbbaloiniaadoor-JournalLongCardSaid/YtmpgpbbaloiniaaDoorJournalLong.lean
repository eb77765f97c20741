/- JournalLong: ever more entries, with what is old left out when there is no room, are the last ones, in order; opened again, too. Condition: the two tables of the package start as the text of the program lays them, which the card ties. -/
import Derived.Test.YtmpgpbbaloiniaaDoorJouI
import Derived.Test.YtmpgpbbaloiniaaDoorJouA
import Derived.Test.YtmpgpbbaloiniaaDoorShaB
namespace Go.Sym
open Go.Proofs Go.Spec
set_option linter.unusedVariables false
/-- What must be shown behind what a round appends. -/
def jlB (sz N : Nat) (nn : Int) (x : LJ) : Prop :=
∀ (x_1 : LJ), Inv sz (arZ sz) x_1.a x_1.g x_1.n x_1.F x_1.L ∧ (0 : Int) ≤ x_1.7 ∧ x_1.7 ≤ (2 : Int) + (100 : Int) * (↑(x.1 + 1) : Int) ∧ x_1.2.toNat ≤ x.1 + 2 ∧ x.1 < 120 ∧ x.1 < N ∧ x_1.1 = x.1 → @Bool.rec (fun _ => Prop) (∃ (y : LJ), N - y.1 < N - x.1 ∧ ((Inv sz (arZ sz) y.a y.g y.n y.F y.L ∧ (0 : Int) ≤ y.7 ∧ y.7 ≤ (2 : Int) + (100 : Int) * (↑y.1 : Int) ∧ y.2.toNat ≤ y.1 + 1 ∧ y.1 ≤ 120) ∧ y.1 ≤ N) ∧ nn = nn ∧ 0 = 0 ∧ 0 = 0 ∧ 0 = 0 ∧ 0 = 0 ∧ 0 = 0 ∧ y.4 = x_1.4 ∧ (↑y.1 : Int) = IntKind.i64.wrap ((↑x.1 : Int) + (1 : Int)) ∧ 0 = 0 ∧ y.2 = x_1.2 ∧ y.3 = x_1.3 ∧ (↑(y.2.toNat % 2) : Int) = (↑(x_1.2.toNat % 2) : Int) ∧ arZ sz = arZ sz ∧ 0 = 0 ∧ 0 = 0 ∧ 0 = 0 ∧ y.4 = x_1.4 ∧ Bool.false = Bool.false ∧ Bool.false = Bool.false ∧ 0 = 0 ∧ 0 = 0 ∧ 0 = 0 ∧ sz = sz ∧ Bool.true = Bool.true ∧ y.7 = x_1.7 ∧ Int.negSucc 0 = Int.negSucc 0 ∧ (0 : Int) = (0 : Int) ∧ y.6 = x_1.6 ∧ y.4 = x_1.4 ∧ (∀ (y_1 : Nat), y_1 < y.4 → datas Bool.false [AV.rb Bool.true (y.5 y_1) NL.unk] = Bool.true ∧ [AV.rb Bool.true (x_1.5 y_1) NL.unk] = [AV.rb Bool.true (y.5 y_1) NL.unk]) ∧ y.4 = x_1.4 ∧ (∀ (y_1 : Nat), y_1 < y.4 → datas Bool.false [AV.rb Bool.true (y.5 y_1) NL.unk] = Bool.true ∧ [AV.rb Bool.true (x_1.5 y_1) NL.unk] = [AV.rb Bool.true (y.5 y_1) NL.unk]) ∧ True) (@Bool.rec (fun _ => Prop) (List.length x_1.6 = sz * 64 ∧ 4 ≤ sz ∧ sz < 1099511627776 ∧ List.length x_1.6 = sz * 64 ∧ arZ sz < (1099511627776 : Int) ∧ (∀ (k : Nat), (↑k : Int) < arZ sz → (0 : Int) ≤ plJ (lkA x_1.6) (arZ sz) (↑k : Int) ∧ plJ (lkA x_1.6) (arZ sz) (↑k : Int) < (↑sz : Int) ∧ nqS (jSec (lkA x_1.6) (arZ sz) (↑k : Int) x_1.6) ≤ (46 : Int)) ∧ (∀ (y : Nat), y < lenJ (lkG x_1.6) (lkA x_1.6) (arZ sz) x_1.6 → outs Bool.true [AV.rb Bool.true (entJ (lkA x_1.6) (arZ sz) x_1.6 y) NL.unk] = Bool.true) ∧ ∃ (y : LJ), N - y.1 < N - x.1 ∧ ((Inv sz (arZ sz) y.a y.g y.n y.F y.L ∧ (0 : Int) ≤ y.7 ∧ y.7 ≤ (2 : Int) + (100 : Int) * (↑y.1 : Int) ∧ y.2.toNat ≤ y.1 + 1 ∧ y.1 ≤ 120) ∧ y.1 ≤ N) ∧ nn = nn ∧ 0 = 0 ∧ 0 = 0 ∧ 0 = 0 ∧ 0 = 0 ∧ 0 = 0 ∧ y.4 = x_1.4 ∧ (↑y.1 : Int) = IntKind.i64.wrap ((↑x.1 : Int) + (1 : Int)) ∧ 0 = 0 ∧ y.2 = lkG x_1.6 ∧ y.3 = lkA x_1.6 ∧ (↑(y.2.toNat % 2) : Int) = lkS x_1.6 ∧ arZ sz = arZ sz ∧ 0 = 0 ∧ 0 = 0 ∧ 0 = 0 ∧ y.4 = lenJ (lkG x_1.6) (lkA x_1.6) (arZ sz) x_1.6 ∧ Bool.false = Bool.false ∧ Bool.false = Bool.false ∧ 0 = 0 ∧ 0 = 0 ∧ 0 = 0 ∧ sz = sz ∧ Bool.true = Bool.true ∧ y.7 = x_1.7 ∧ Int.negSucc 0 = Int.negSucc 0 ∧ (0 : Int) = (0 : Int) ∧ y.6 = x_1.6 ∧ y.4 = lenJ (lkG x_1.6) (lkA x_1.6) (arZ sz) x_1.6 ∧ (∀ (y_1 : Nat), y_1 < y.4 → datas Bool.false [AV.rb Bool.true (y.5 y_1) NL.unk] = Bool.true ∧ [AV.rb Bool.true (entJ (lkA x_1.6) (arZ sz) x_1.6 y_1) NL.unk] = [AV.rb Bool.true (y.5 y_1) NL.unk]) ∧ y.4 = x_1.4 ∧ (∀ (y_1 : Nat), y_1 < y.4 → datas Bool.false [AV.rb Bool.true (y.5 y_1) NL.unk] = Bool.true ∧ [AV.rb Bool.true (x_1.5 y_1) NL.unk] = [AV.rb Bool.true (y.5 y_1) NL.unk]) ∧ True) (List.length x_1.6 = sz * 64 ∧ 4 ≤ sz ∧ sz < 1099511627776 ∧ Bool.true = Bool.false ∧ True) !lkF x_1.6) (decide ((↑x.1 : Int).tmod (7 : Int) = (6 : Int)))
set_option maxRecDepth 100000 in
theorem vjLong (sz N : Nat) (size nn : Int) : bodyP Tryd.prog Z1 gl0 [] [(8, lsLJ sz N nn)] 3000 Tryd.f9 0 [.int .i64 size, .int .i64 nn] [] (retQ Tryd.prog Tryd.f9 0 ⟨[], .bool true, [], []⟩) = (
let x1 := IntKind.i64.wrap ((10 : Int) + IntKind.i64.wrap (↑(BitVec.ofInt 64 size % BitVec.ofNat 64 60).toNat : Int)); @Bool.rec (fun _ => Prop) False (@Bool.rec (fun _ => Prop) ((0 : Int) ≤ x1 ∧ (0 : Int) ≤ x1 ∧ x1.toNat ≤ x1.toNat ∧ 64 * x1.toNat ≤ 281474976710656 ∧ x1.toNat ≤ 9223372036854775807 ∧ 4 ≤ x1.toNat ∧ x1.toNat < 1099511627776 ∧ (0 : Int) ≤ (0 : Int) ∧ (0 : Int) < (1152921504606846976 : Int) ∧ List.replicate (x1.toNat * 64) (0 : BitVec 8) = noL x1.toNat ∧ (∃ (x : LJ), ((Inv sz (arZ sz) x.a x.g x.n x.F x.L ∧ (0 : Int) ≤ x.7 ∧ x.7 ≤ (2 : Int) + (100 : Int) * (↑x.1 : Int) ∧ x.2.toNat ≤ x.1 + 1 ∧ x.1 ≤ 120) ∧ x.1 ≤ N) ∧ nn = nn ∧ 0 = 0 ∧ 0 = 0 ∧ x.4 = 0 ∧ (↑x.1 : Int) = (0 : Int) ∧ 0 = 0 ∧ x.2 = (1 : BitVec 64) ∧ x.3 = (0 : Int) ∧ (↑(x.2.toNat % 2) : Int) = (1 : Int) ∧ arZ sz = arZ x1.toNat ∧ x.4 = 0 ∧ Bool.false = Bool.false ∧ Bool.false = Bool.false ∧ 0 = 0 ∧ 0 = 0 ∧ 0 = 0 ∧ sz = x1.toNat ∧ Bool.true = Bool.true ∧ x.7 = Int.ofNat 2 ∧ Int.negSucc 0 = Int.negSucc 0 ∧ (0 : Int) = (0 : Int) ∧ x.6 = dPut (noL x1.toNat) 1 (slB (1 : BitVec 64) (0 : Int)) ∧ x.4 = 0 ∧ x.4 = 0 ∧ True) ∧ ∀ (x : LJ), let x1 := jlB sz N nn x; let x2 := (IntKind.i64.wrap (IntKind.i64.wrap ((↑x.4 : Int).tdiv (2 : Int)) + (1 : Int))).toNat; let x3 := 0; let x4 := [BitVec.ofInt 8 (↑x.1 : Int), BitVec.ofInt 8 ((↑x.1 : Int).fdiv (Int.ofNat 256)), BitVec.ofNat 8 1]; let x5 := fun (i : Nat) => [AV.rb Bool.true (x.5 i) NL.unk]; let x6 := fun (y : Nat) => [AV.rb Bool.true (x.5 (plus x2 y)) NL.unk]; let x7 := ∀ (y : Nat), y < x.4 → datas Bool.false [AV.rb Bool.true (x.5 y) NL.unk] = Bool.true; let x8 := ∀ (y : Nat), y < x.4 → datas Bool.false [AV.rb Bool.true (x.5 y) NL.unk] = Bool.true ∧ [AV.rb Bool.true (x.5 y) NL.unk].length ≤ 1; let x9 := apB (minus x.4 x2) (arZ sz) (bI x.1) (fun (i : Nat) => x.5 (plus x2 i)); (Inv sz (arZ sz) x.a x.g x.n x.F x.L ∧ (0 : Int) ≤ x.7 ∧ x.7 ≤ (2 : Int) + (100 : Int) * (↑x.1 : Int) ∧ x.2.toNat ≤ x.1 + 1 ∧ x.1 ≤ 120) ∧ x.1 ≤ N → @Bool.rec (fun _ => Prop) (x7 ∧ x7 ∧ (∀ (y : Nat), y < x.4 → outs Bool.true [AV.rb Bool.true (x.5 y) NL.unk] = Bool.true) ∧ 0 + x.4 ≤ x.4 ∧ x8 ∧ x.4 < 1099511627776 ∧ (∀ (i : Nat), i < x.4 → List.length (x.5 i) < 1099511627776) ∧ x5 = x5 ∧ (∀ (y : Nat), y < x.4 → outs Bool.true [AV.rb Bool.true (x.5 y) NL.unk] = Bool.true) ∧ (∀ (y : Nat), y < x.4 → outs Bool.true [AV.rb Bool.true (x.5 y) NL.unk] = Bool.true) ∧ 0 + x.4 ≤ x.4 ∧ x8 ∧ 0 + x.4 ≤ x.4 ∧ x8 ∧ x.4 = x.4 ∧ x.4 < 1099511627776 ∧ x5 = x5 ∧ x5 = x5 ∧ (∀ (i : Nat), i < x.4 → x.5 i = x.5 i) ∧ Bool.true = Bool.true ∧ True) ((3 = x4.length ∧ ∃ (y : Unit), True ∧ nn = nn ∧ 0 = 0 ∧ 0 = 0 ∧ 0 = 0 ∧ 0 = 0 ∧ 0 = 0 ∧ x.4 = x.4 ∧ (↑x.1 : Int) = (↑x.1 : Int) ∧ x4 = x4 ∧ 0 = 0 ∧ x.2 = x.2 ∧ x.3 = x.3 ∧ (↑(x.2.toNat % 2) : Int) = (↑(x.2.toNat % 2) : Int) ∧ arZ sz = arZ sz ∧ 0 = 0 ∧ 0 = 0 ∧ 0 = 0 ∧ x.4 = x.4 ∧ Bool.false = Bool.false ∧ Bool.false = Bool.false ∧ 0 = 0 ∧ 0 = 0 ∧ 0 = 0 ∧ sz = sz ∧ Bool.true = Bool.true ∧ x.7 = x.7 ∧ Int.negSucc 0 = Int.negSucc 0 ∧ (0 : Int) = (0 : Int) ∧ x.6 = x.6 ∧ x.4 = x.4 ∧ (∀ (y : Nat), y < x.4 → datas Bool.false [AV.rb Bool.true (x.5 y) NL.unk] = Bool.true ∧ [AV.rb Bool.true (x.5 y) NL.unk] = [AV.rb Bool.true (x.5 y) NL.unk]) ∧ x.4 = x.4 ∧ (∀ (y : Nat), y < x.4 → datas Bool.false [AV.rb Bool.true (x.5 y) NL.unk] = Bool.true ∧ [AV.rb Bool.true (x.5 y) NL.unk] = [AV.rb Bool.true (x.5 y) NL.unk]) ∧ True) ∧ ∀ (x_1 : Unit), True → @Bool.rec (fun _ => Prop) (x7 ∧ x.4 = x.4 ∧ x5 = x5 ∧ apB x.4 (arZ sz) (bI x.1) x.5 ∧ (0 : Int) ≤ IntKind.i64.wrap (IntKind.i64.wrap ((↑x.4 : Int).tdiv (2 : Int)) + (1 : Int)) ∧ x2 ≤ x.4 ∧ x2 + minus x.4 x2 ≤ x.4 ∧ (∀ (y : Nat), y < minus x.4 x2 → datas Bool.false [AV.rb Bool.true (x.5 (plus x2 y)) NL.unk] = Bool.true ∧ [AV.rb Bool.true (x.5 (plus x2 y)) NL.unk].length ≤ 1) ∧ x7 ∧ x.4 = x.4 ∧ x5 = x5 ∧ x6 = x6 ∧ coOk sz (minus x.4 x2) x.7 x.3 (↑(x.2.toNat % 2) : Int) (arZ sz) x.2 x.6 (fun (i : Nat) => x.5 (plus x2 i)) ∧ @Bool.rec (fun _ => Prop) ((∀ (y : Nat), y < minus x.4 x2 → datas Bool.false [AV.rb Bool.true (x.5 (plus x2 y)) NL.unk] = Bool.true) ∧ minus x.4 x2 = minus x.4 x2 ∧ x6 = x6 ∧ x9 ∧ Bool.true = Bool.false ∧ True) ((∀ (y : Nat), y < minus x.4 x2 → datas Bool.false [AV.rb Bool.true (x.5 (plus x2 y)) NL.unk] = Bool.true) ∧ minus x.4 x2 = minus x.4 x2 ∧ x6 = x6 ∧ x9 ∧ apOk sz (minus x.4 x2) (x.7 + arZ sz + (1 : Int)) ((1 : Int) - x.3) (arZ sz) (x.2 + (1 : BitVec 64)) (coL x.2 x.3 (arZ sz) x.6 (fun (i : Nat) => x.5 (plus x2 i)) (minus x.4 x2)) ∧ (x2 ≤ x.4 ∧ minus x.4 x2 = minus x.4 x2 ∧ roomFor (minus x.4 x2) 1 24 ∧ ∃ (y : LJ), (Inv sz (arZ sz) y.a y.g y.n y.F y.L ∧ (0 : Int) ≤ y.7 ∧ y.7 ≤ (2 : Int) + (100 : Int) * (↑(x.1 + 1) : Int) ∧ y.2.toNat ≤ x.1 + 2 ∧ x.1 < 120 ∧ x.1 < N ∧ y.1 = x.1) ∧ nn = nn ∧ 0 = 0 ∧ 0 = 0 ∧ 0 = 0 ∧ 0 = 0 ∧ 0 = 0 ∧ y.4 = minus x.4 x2 + 1 ∧ (↑x.1 : Int) = (↑x.1 : Int) ∧ 0 = 0 ∧ y.2 = x.2 + (1 : BitVec 64) ∧ y.3 = (1 : Int) - x.3 ∧ (↑(y.2.toNat % 2) : Int) = (↑((x.2 + (1 : BitVec 64)).toNat % 2) : Int) ∧ arZ sz = arZ sz ∧ 0 = 0 ∧ 0 = 0 ∧ 0 = 0 ∧ y.4 = minus x.4 x2 + 1 ∧ Bool.false = Bool.false ∧ Bool.false = Bool.false ∧ 0 = 0 ∧ 0 = 0 ∧ 0 = 0 ∧ sz = sz ∧ Bool.true = Bool.true ∧ y.7 = x.7 + arZ sz + (1 : Int) + (1 : Int) ∧ Int.negSucc 0 = Int.negSucc 0 ∧ (0 : Int) = (0 : Int) ∧ y.6 = dPut (dPut (dPut x.6 ((2 : Int) + ((1 : Int) - x.3) * arZ sz).toNat (imA (x.2 + (1 : BitVec 64)) (fun (i : Nat) => x.5 (plus x2 i)) (minus x.4 x2) (arZ sz))) ((x.2 + (1 : BitVec 64)).toNat % 2) (slB (x.2 + (1 : BitVec 64)) ((1 : Int) - x.3))) (plJ ((1 : Int) - x.3) (arZ sz) (↑(minus x.4 x2) : Int)).toNat (enB (x.2 + (1 : BitVec 64)) (↑(minus x.4 x2) : Int) x4) ∧ y.4 = minus x.4 x2 + 1 ∧ (∀ (y_1 : Nat), y_1 < y.4 → datas Bool.false [AV.rb Bool.true (y.5 y_1) NL.unk] = Bool.true ∧ [AV.rb Bool.true (oneM (minus x.4 x2) (fun (i : Nat) => x.5 (plus x2 i)) x4 y_1) NL.unk] = [AV.rb Bool.true (y.5 y_1) NL.unk]) ∧ y.4 = minus x.4 x2 + 1 ∧ (∀ (y_1 : Nat), y_1 < y.4 → datas Bool.false [AV.rb Bool.true (y.5 y_1) NL.unk] = Bool.true ∧ glue x6 (minus x.4 x2) (cut 1 (List.take 1 (List.drop 0 [AV.rb Bool.true x4 NL.unk]))) y_1 = [AV.rb Bool.true (y.5 y_1) NL.unk]) ∧ True) ∧ x1) (decide ((↑(minus x.4 x2) : Int) < arZ sz))) (x7 ∧ x.4 = x.4 ∧ x5 = x5 ∧ apB x.4 (arZ sz) (bI x.1) x.5 ∧ apOk sz x.n x.w x.a (arZ sz) x.g x.L ∧ (x.4 = x.4 ∧ roomFor x.4 1 24 ∧ ∃ (y : LJ), (Inv sz (arZ sz) y.a y.g y.n y.F y.L ∧ (0 : Int) ≤ y.7 ∧ y.7 ≤ (2 : Int) + (100 : Int) * (↑(x.1 + 1) : Int) ∧ y.2.toNat ≤ x.1 + 2 ∧ x.1 < 120 ∧ x.1 < N ∧ y.1 = x.1) ∧ nn = nn ∧ 0 = 0 ∧ 0 = 0 ∧ 0 = 0 ∧ 0 = 0 ∧ 0 = 0 ∧ y.4 = x.4 + 1 ∧ (↑x.1 : Int) = (↑x.1 : Int) ∧ 0 = 0 ∧ y.2 = x.2 ∧ y.3 = x.3 ∧ (↑(y.2.toNat % 2) : Int) = (↑(x.2.toNat % 2) : Int) ∧ arZ sz = arZ sz ∧ 0 = 0 ∧ 0 = 0 ∧ 0 = 0 ∧ y.4 = x.4 + 1 ∧ Bool.false = Bool.false ∧ Bool.false = Bool.false ∧ 0 = 0 ∧ 0 = 0 ∧ 0 = 0 ∧ sz = sz ∧ Bool.true = Bool.true ∧ y.7 = x.7 + (1 : Int) ∧ Int.negSucc 0 = Int.negSucc 0 ∧ (0 : Int) = (0 : Int) ∧ y.6 = dPut x.6 (plJ x.3 (arZ sz) (↑x.4 : Int)).toNat (enB x.2 (↑x.4 : Int) x4) ∧ y.4 = x.4 + 1 ∧ (∀ (y_1 : Nat), y_1 < y.4 → datas Bool.false [AV.rb Bool.true (y.5 y_1) NL.unk] = Bool.true ∧ [AV.rb Bool.true (oneM x.4 (fun (i : Nat) => x.5 i) x4 y_1) NL.unk] = [AV.rb Bool.true (y.5 y_1) NL.unk]) ∧ y.4 = x.4 + 1 ∧ (∀ (y_1 : Nat), y_1 < y.4 → datas Bool.false [AV.rb Bool.true (y.5 y_1) NL.unk] = Bool.true ∧ glue x5 x.4 (cut 1 (List.take 1 (List.drop 0 [AV.rb Bool.true x4 NL.unk]))) y_1 = [AV.rb Bool.true (y.5 y_1) NL.unk]) ∧ True) ∧ x1) (decide ((↑x.4 : Int) < arZ sz))) (decide ((↑x.1 : Int) < IntKind.i64.wrap (↑(BitVec.ofInt 64 nn % BitVec.ofNat 64 120).toNat : Int)))) False (decide ((512 : Int) < x1))) !decide (x1 < (1 : Int)) : Prop) := by kernel_rfl
end Go.Sym

set_option linter.unusedSimpArgs false
namespace Go.Sym
open Go.Proofs Go.Spec
set_option linter.unusedVariables false
theorem b3_I (i : Nat) : b3 (bI i) := ⟨_, _, _, rfl⟩
theorem jl_B {sz N : Nat} {nn : Int} {x : LJ} (hs : sz < 1073741824) (h4 : 4 ≤ sz) (hN : N ≤ 120) : jlB sz N nn x := by
  intro y hy
  obtain ⟨h, w0, w1, g1, i1, i2, i3⟩ := hy
  have hz : arZ sz = (((sz - 2) / 2 : Nat) : Int) := rfl
  have hw : ((x.1 + 1 : Nat) : Int) = IntKind.i64.wrap ((x.1 : Int) + 1) := (wrap_nat (x.1 + 1) (by omega) (by omega)).symm
  refine brec (fun _ => brec (fun c => ?_) (fun _ => ?_)) (fun _ => ?_)
  · have c : (!lkF y.6) = true := c
    rw [h.found] at c
    cases c
  · have eA := h.A
    have eG := h.G
    have eS := h.S
    have eL := h.len hs
    have eE := h.ent hs
    have eN : ∀ k : Nat, (k : Int) < arZ sz → 0 ≤ plJ (lkA y.6) (arZ sz) k ∧ plJ (lkA y.6) (arZ sz) k < sz ∧ nqS (jSec (lkA y.6) (arZ sz) k y.6) ≤ 46 := fun k hk => by
      have e : lkA y.6 = y.a := eA
      rw [e]
      exact h.nq hs k hk
    have hL : y.6.length = sz * 64 := h.hL
    have q1 : y.2 = lkG y.6 := eG.symm
    have q2 : y.3 = lkA y.6 := eA.symm
    have q3 : ((y.2.toNat % 2 : Nat) : Int) = lkS y.6 := eS.symm
    have q4 : y.4 = lenJ (lkG y.6) (lkA y.6) (arZ sz) y.6 := by rw [← q1, ← q2]; exact eL.symm
    refine ⟨hL, h4, by omega, hL, by omega, eN, fun _ _ => rfl, ⟨x.1 + 1, y.2, y.3, y.4, y.5, y.6, y.7⟩, by show N - (x.1 + 1) < N - x.1; omega, ⟨⟨h, w0, w1, by show y.2.toNat ≤ x.1 + 1 + 1; omega, by show x.1 + 1 ≤ 120; omega⟩, by show x.1 + 1 ≤ N; omega⟩, rfl, rfl, rfl, rfl, rfl, rfl, rfl, hw, rfl, q1, q2, q3, rfl, rfl, rfl, rfl, q4, rfl, rfl, rfl, rfl, rfl, rfl, rfl, rfl, rfl, rfl, rfl, q4, fun j hj => ⟨rfl, ?_⟩, rfl, fun j hj => ⟨rfl, rfl⟩, trivial⟩
    have e := eE j hj
    have q5 : entJ (lkA y.6) (arZ sz) y.6 j = y.5 j := by rw [← q2]; exact e
    rw [q5]
  · exact ⟨⟨x.1 + 1, y.2, y.3, y.4, y.5, y.6, y.7⟩, by show N - (x.1 + 1) < N - x.1; omega, ⟨⟨h, w0, w1, by show y.2.toNat ≤ x.1 + 1 + 1; omega, by show x.1 + 1 ≤ 120; omega⟩, by show x.1 + 1 ≤ N; omega⟩, rfl, rfl, rfl, rfl, rfl, rfl, rfl, hw, rfl, rfl, rfl, rfl, rfl, rfl, rfl, rfl, rfl, rfl, rfl, rfl, rfl, rfl, rfl, rfl, rfl, rfl, rfl, rfl, rfl, fun j hj => ⟨rfl, rfl⟩, rfl, fun j hj => ⟨rfl, rfl⟩, trivial⟩
theorem glue_3 {E : Nat → By} (n y : Nat) (B : By) (hy : y < n + 1) : glue (fun j => [AV.rb true (E j) NL.unk]) n (cut 1 (List.take 1 (List.drop 0 [AV.rb true B NL.unk]))) y = [AV.rb true (oneM n E B y) NL.unk] := glue_1 n y B hy
def szL (size : Int) : Nat := 10 + (BitVec.ofInt 64 size % BitVec.ofNat 64 60).toNat
def nL (nn : Int) : Nat := (BitVec.ofInt 64 nn % BitVec.ofNat 64 120).toNat
theorem bjLong (size nn : Int) : Must (bodyP Tryd.prog Z1 gl0 [] [(8, lsLJ (szL size) (nL nn) nn)] 3000 Tryd.f9 0 [.int .i64 size, .int .i64 nn] [] (retQ Tryd.prog Tryd.f9 0 ⟨[], .bool true, [], []⟩)) := by
  have m1 : (BitVec.ofInt 64 size % BitVec.ofNat 64 60).toNat < 60 := by
    rw [BitVec.toNat_umod]
    exact Nat.mod_lt _ (by decide)
  have m2 : (BitVec.ofInt 64 nn % BitVec.ofNat 64 120).toNat < 120 := by
    rw [BitVec.toNat_umod]
    exact Nat.mod_lt _ (by decide)
  unfold szL nL
  constructor
  rw [vjLong]
  generalize (BitVec.ofInt 64 size % BitVec.ofNat 64 60).toNat = s0 at *
  generalize (BitVec.ofInt 64 nn % BitVec.ofNat 64 120).toNat = N at *
  have wN : IntKind.i64.wrap (N : Int) = N := wrap_i64 (by omega) (by omega)
  have wS : IntKind.i64.wrap (10 + IntKind.i64.wrap (s0 : Int)) = ((10 + s0 : Nat) : Int) := by
    rw [wrap_i64 (x := (s0 : Int)) (by omega) (by omega), wrap_i64 (by omega) (by omega)]
    omega
  rw [wS, wN]
  intro x1
  have t1 : x1.toNat = 10 + s0 := Int.toNat_natCast _
  have v1 : x1 = ((10 + s0 : Nat) : Int) := rfl
  clear_value x1
  rw [t1]
  generalize hsz : 10 + s0 = sz at *
  have hs : sz < 1073741824 := by omega
  have h4 : 4 ≤ sz := by omega
  have hz : arZ sz = (((sz - 2) / 2 : Nat) : Int) := rfl
  refine brec (fun _ => brec (fun c => ?_) (fun _ => ?_)) (fun c => ?_)
  · have := dtr c
    omega
  rotate_left
  · have c : decide (x1 < 1) = true := by simpa using c
    have := dtr c
    omega
  refine ⟨by omega, by omega, Nat.le_refl _, by omega, by omega, h4, by omega, by omega, by omega, rfl, ⟨⟨0, 1, 0, 0, fun _ => [], dPut (noL sz) 1 (slB 1 0), 2⟩, ⟨⟨Inv.init h4, by show (0 : Int) ≤ 2; decide, by show (2 : Int) ≤ 2 + 100 * ((0 : Nat) : Int); decide, by show (1 : BitVec 64).toNat ≤ 0 + 1; decide, by show 0 ≤ 120; decide⟩, Nat.zero_le _⟩, rfl, rfl, rfl, rfl, rfl, rfl, rfl, rfl, rfl, rfl, rfl, rfl, rfl, rfl, rfl, rfl, rfl, rfl, rfl, rfl, rfl, rfl, rfl, rfl, trivial⟩, fun x => ?_⟩
  intro y1 x2 x3 x4 x5 x6 x7 x8 x9 hx
  obtain ⟨⟨h, w0, w1, g1, i1⟩, i2⟩ := hx
  have h1 : y1 := jl_B hs h4 (by omega)
  have hn := h.hn
  have hn' : (x.4 : Int) ≤ arZ sz := hn
  have h7 : x7 := fun _ _ => rfl
  have h8 : x8 := fun _ _ => ⟨rfl, Nat.le_refl _⟩
  have hb : b3 (bI x.1) := b3_I x.1
  have e4 : x4 = bI x.1 := rfl
  have f3 := h.f3
  have q2 : x2 = x.4 / 2 + 1 := by
    show (IntKind.i64.wrap (IntKind.i64.wrap ((x.4 : Int).tdiv 2) + 1)).toNat = _
    rw [show (x.4 : Int).tdiv 2 = ((x.4 / 2 : Nat) : Int) from tdiv_nat x.4 2, wrap_i64 (x := ((x.4 / 2 : Nat) : Int)) (by omega) (by omega), wrap_i64 (by omega) (by omega)]
    omega
  have q2i : 0 ≤ IntKind.i64.wrap (IntKind.i64.wrap ((x.4 : Int).tdiv 2) + 1) := by
    rw [show (x.4 : Int).tdiv 2 = ((x.4 / 2 : Nat) : Int) from tdiv_nat x.4 2, wrap_i64 (x := ((x.4 / 2 : Nat) : Int)) (by omega) (by omega), wrap_i64 (by omega) (by omega)]
    omega
  clear_value y1 x7 x8
  refine brec (fun c => ?_) (fun _ => ?_)
  · have c := dtr c
    refine ⟨⟨rfl, (), trivial, rfl, rfl, rfl, rfl, rfl, rfl, rfl, rfl, rfl, rfl, rfl, rfl, rfl, rfl, rfl, rfl, rfl, rfl, rfl, rfl, rfl, rfl, rfl, rfl, rfl, rfl, rfl, rfl, rfl, rfl, fun _ _ => ⟨rfl, rfl⟩, rfl, fun _ _ => ⟨rfl, rfl⟩, trivial⟩, fun _ _ => brec (fun d => ?_) (fun d => ?_)⟩
    · have d : (x.4 : Int) < arZ sz := dtr d
      have a := h.app d hb
      have pl := h.pl hs x.4 (by omega)
      have a' : Inv sz (arZ sz) x.3 x.2 (x.4 + 1) (oneM x.4 x.5 (bI x.1)) (dPut x.6 (plJ x.3 (arZ sz) x.4).toNat (enB x.2 x.4 (bI x.1))) := by
        have pl' : plJ x.3 (arZ sz) x.4 = 2 + x.3 * arZ sz + x.4 := pl
        rw [pl']
        exact a
      exact ⟨h7, rfl, rfl, h.apb hs hb, h.apk hs d w0 (by omega), ⟨rfl, by unfold roomFor; omega, ⟨x.1, x.2, x.3, x.4 + 1, oneM x.4 x.5 (bI x.1), dPut x.6 (plJ x.3 (arZ sz) x.4).toNat (enB x.2 x.4 (bI x.1)), x.7 + 1⟩, ⟨a', by show 0 ≤ x.7 + 1; omega, by show x.7 + 1 ≤ _; omega, by show x.2.toNat ≤ _; omega, by omega, by omega, rfl⟩, rfl, rfl, rfl, rfl, rfl, rfl, rfl, rfl, rfl, rfl, rfl, rfl, rfl, rfl, rfl, rfl, rfl, rfl, rfl, rfl, rfl, rfl, rfl, rfl, rfl, rfl, rfl, rfl, rfl, fun _ _ => ⟨rfl, rfl⟩, rfl, fun j hj => ⟨rfl, glue_3 x.4 j (bI x.1) hj⟩, trivial⟩, h1⟩
    · have d : ¬ (x.4 : Int) < arZ sz := dfl d
      have hm : minus x.4 x2 = x.4 - x2 := minus_eq _ _
      have hk : ∀ i, i < minus x.4 x2 → b3 (x.5 (plus x2 i)) := fun i hi => by
        rw [plus_eq]
        exact f3 _ (by show x2 + i < x.4; omega)
      have hg : x.2.toNat < 18446744073709551615 := by omega
      have hm2 : ((minus x.4 x2 : Nat) : Int) ≤ arZ sz := by omega
      have hm3 : ((minus x.4 x2 : Nat) : Int) < arZ sz := by omega
      have co := h.co (m := minus x.4 x2) (K := fun i => x.5 (plus x2 i)) hm2 hk hg
      have ck := h.cok hs (m := minus x.4 x2) (K := fun i => x.5 (plus x2 i)) hm2 hk hg w0 (by omega)
      have a := co.app hm3 hb
      have pl := co.pl hs (minus x.4 x2) hm2
      have eg : (x.2 + 1).toNat = x.2.toNat + 1 := by
        rw [BitVec.toNat_add]
        have : (1 : BitVec 64).toNat = 1 := rfl
        omega
      have a' : Inv sz (arZ sz) (1 - x.3) (x.2 + 1) (minus x.4 x2 + 1) (oneM (minus x.4 x2) (fun i => x.5 (plus x2 i)) (bI x.1)) (dPut (coL x.2 x.3 (arZ sz) x.6 (fun i => x.5 (plus x2 i)) (minus x.4 x2)) (plJ (1 - x.3) (arZ sz) (minus x.4 x2 : Nat)).toNat (enB (x.2 + 1) (minus x.4 x2 : Nat) (bI x.1))) := by
        have pl' : plJ (1 - x.3) (arZ sz) (minus x.4 x2 : Nat) = 2 + (1 - x.3) * arZ sz + (minus x.4 x2 : Nat) := pl
        rw [pl']
        exact a
      have d0 : ∀ y, y < minus x.4 x2 → datas false [AV.rb true (x.5 (plus x2 y)) NL.unk] = true := fun _ _ => rfl
      refine ⟨h7, rfl, rfl, h.apb hs hb, q2i, by omega, by omega, fun _ _ => ⟨rfl, Nat.le_refl _⟩, h7, rfl, rfl, rfl, ck, brec (fun e => ?_) (fun e => absurd hm3 (dfl e))⟩
      exact ⟨d0, rfl, rfl, co.apb hs hb, co.apk hs hm3 (by omega) (by omega), ⟨by omega, rfl, by unfold roomFor; omega, ⟨x.1, x.2 + 1, 1 - x.3, minus x.4 x2 + 1, oneM (minus x.4 x2) (fun i => x.5 (plus x2 i)) (bI x.1), dPut (coL x.2 x.3 (arZ sz) x.6 (fun i => x.5 (plus x2 i)) (minus x.4 x2)) (plJ (1 - x.3) (arZ sz) (minus x.4 x2 : Nat)).toNat (enB (x.2 + 1) (minus x.4 x2 : Nat) (bI x.1)), x.7 + arZ sz + 1 + 1⟩, ⟨a', by show 0 ≤ x.7 + arZ sz + 1 + 1; omega, by show x.7 + arZ sz + 1 + 1 ≤ _; omega, by show (x.2 + 1).toNat ≤ _; omega, by omega, by omega, rfl⟩, rfl, rfl, rfl, rfl, rfl, rfl, rfl, rfl, rfl, rfl, rfl, rfl, rfl, rfl, rfl, rfl, rfl, rfl, rfl, rfl, rfl, rfl, rfl, rfl, rfl, rfl, rfl, rfl, rfl, fun _ _ => ⟨rfl, rfl⟩, rfl, fun j hj => ⟨rfl, glue_3 (E := fun i => x.5 (plus x2 i)) (minus x.4 x2) j (bI x.1) hj⟩, trivial⟩, h1⟩
  · exact ⟨h7, h7, fun _ _ => rfl, by omega, h8, by omega, fun i hi => by have := b3_len (f3 i hi); show (x.F i).length < _; omega, rfl, fun _ _ => rfl, fun _ _ => rfl, by omega, h8, by omega, h8, rfl, by omega, rfl, rfl, fun _ _ => rfl, rfl, trivial⟩
end Go.Sym

/- JournalLong: ever more entries, with what is old left out when there is no room, are the last ones, in order; opened again, too. Condition: the two tables of the package start as the text of the program lays them, which the card ties. -/
namespace Go.Sym
open Go.Proofs Go.Spec
theorem w9 (W : World) (hG : GW gl0 W) (n0 : Int) (n1 : Int) :
    Calls Tryd.prog 9 #[.int .i64 n0, .int .i64 n1] W fun e w' => e = .returned (.bool true) ∧ RowKit.Below W.heap.size W w' := by
  have hv : VRels (κW W) [.int .i64 n0, .int .i64 n1] [.int .i64 n0, .int .i64 n1] := by
    simp only [VRels]
    exact ⟨_, _, rfl, rfl, _, _, rfl, rfl, rfl⟩
  refine law_walk (gl := gl0) (Γ := Z1) (fn := Tryd.f9) (av := [.int .i64 n0, .int .i64 n1]) (ls := [(8, lsLJ (szL n0) (nL n1) n1)]) [] 3000 (by kernel_rfl) (by kernel_rfl) okZ1 (by kernel_rfl) hG (by kernel_rfl) hv ?_
  exact bjLong n0 n1
end Go.Sym
namespace Go.Proofs.YtmpgpbbaloiniaaDoor.journalLong
open Go.ChangeShapes Go.WideShapes Go.ChangeAt Go.WideMaps Go.WideElems Go.RowKit
set_option linter.unusedVariables false
set_option maxRecDepth 100000 in
theorem lifted (os : Os) (started : os.Started) (H : Type) (enc : TypeId × Value → H) :
    ReturnsInHanded {} Tryd.checked os 9 .any (fun w args => (Rows.journalLongSpec.pre enc Tryd.prog Tryd.f9 [] false w args ∧ laidMetH Tryd.prog laid2 w) ∧ sizedMet enc Tryd.prog Tryd.f9 (OpenSpec.ofChange Rows.journalLongSpec) false w args)
      (Rows.journalLongSpec.post enc Tryd.prog Tryd.f9 false true false false) := by
  refine returnsInHanded_of_change_and (C := Tryd.checked) (X := fun w _ => laidMetH Tryd.prog laid2 w) (fun _ _ _ hh h => h.of_heap hh) own started (by kernel_rfl) Tryd.func9
    (ChangeSpec.witness_shaped (enc := enc) (C := Tryd.checked) (os := os) (X := fun w _ => laidMetH Tryd.prog laid2 w) false (World.doorLaid Tryd.prog 400 os) #[.int .i64 0, .int .i64 0] 8 rfl (World.shaped_of_RefB (by kernel_rfl) (by kernel_rfl)) (by kernel_rfl) (by kernel_rfl) (by kernel_rfl) (door_met os _)) ?_
  intro W base args ds gs before hval0 hW _ _ hL _
  have hval : ∀ (j : Nat) t v, Tryd.f9.params[j]? = some t → args[j]? = some v → Value.okWide Tryd.prog W .any base t v := hval0
  have hW' := hW
  obtain ⟨p, q, hA0, hV, rfl, hfz, hnd⟩ := hW
  have hA : DataW.TrodAll enc Tryd.prog W 0 (fun _ => true) true Tryd.f9.params.toList args.toList ds p := hA0
  rw [Tryd.params9] at hA hval
  obtain ⟨v0, vs0, d0, ds0, p0, q0, hargs, rfl, rfl, h0, r0⟩ := trodAll_cons hA
  obtain ⟨v1, vs1, d1, ds1, p1, q1, rfl, rfl, rfl, h1, r1⟩ := trodAll_cons r0
  obtain ⟨rfl, rfl, rfl⟩ := trodAll_nil r1
  obtain rfl : args = #[v0, v1] := by cases args; simp_all
  obtain ⟨rfl, rfl⟩ := trodVars_none hV
  obtain ⟨a0, rfl, rfl, rfl, w0⟩ := open_int Tryd.underlying3 (hval 0 3 v0 rfl rfl) h0
  obtain ⟨a1, rfl, rfl, rfl, w1⟩ := open_int Tryd.underlying3 (hval 1 3 v1 rfl rfl) h1
  clear hA0 hval0
  refine (Go.Sym.w9 W (gw_laid hL) a0 a1).mono fun e W' ⟨he, bel⟩ => ?_
  subst he
  exact ⟨_, rfl, _, _, _, [], _, [], hW', trodAll_mk1 (shut_bool Tryd.underlying4 _), (trodAll_cons_mk (shut_int Tryd.underlying3 w0) (trodAll_cons_mk (shut_int Tryd.underlying3 w1) trodAll_mk0)), rfl, bel.frame _, fun h => by cases h⟩

theorem over : Rows.journalLongRow.holds Tryd.pinned (OpenSpec.ofChange Rows.journalLongSpec) :=
  OpenClaim.holds_of_wide 9 Tryd.f9 rfl rfl rfl rfl rfl rfl rfl ⟨rfl, rfl, rfl, rfl, rfl⟩ rfl rfl rfl rfl rfl (by kernel_rfl) Tryd.func9 (by kernel_rfl)
    (of_decide_eq_true (by kernel_rfl)) (by unfold Func.isWrapper; first | (rw [if_pos (by decide +kernel)]; kernel_rfl) | (rw [if_neg (by decide +kernel)]; exact ⟨rfl, rfl⟩))
    (fun os started H enc _ => lifted os started H enc)

theorem proved : Rows.JournalLongCardSaid :=
  Claim7.holds_tied_plain_at .later [] [.data, .data] true (true, "509a89b67618beb9fd1f9164ca8e5d72b3360772a5436b980171c475dab6690a") false
    over (fun _ h => by cases h) (by kernel_rfl) (fun _ h => by cases h) journalLong_row_tie rfl ⟨rfl, rfl⟩ (by kernel_rfl) rfl
    (fun f fn hf hfn => by
      obtain rfl : f = 9 := Option.some.inj ((show Tryd.prog.funcNamed "relay/relaylaw11.JournalLong" = some 9 by kernel_rfl).symm.trans hf) |>.symm
      obtain rfl : fn = Tryd.f9 := (Option.some.inj (Tryd.func9.symm.trans hfn)).symm
      exact ⟨by kernel_rfl, fun j t ht => by
        rw [Tryd.params9] at ht
        have hm : t ∈ [3, 3] := by simpa using Array.mem_of_getElem? ht
        have hall : ([3, 3].all fun u => !Tryd.prog.wantsStandIn u) = true := by kernel_rfl
        exact (show Tryd.prog.wantsStandIn t = false by simpa using List.all_eq_true.1 hall t hm)⟩)
    (by kernel_rfl)
#print axioms proved
end Go.Proofs.YtmpgpbbaloiniaaDoor.journalLong
