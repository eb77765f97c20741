/- The same: the cut of the document is the rest modulo 2^130 - 5; what its Tag must be shown to do. -/
import Derived.Test.YtiebadbcdheldaaDoorPolyA
namespace Go.Spec
/-- Cells while they are carried: the first i are. -/
def crI (f : FN) (i : Nat) : FN := fun y => if y < i then cc f y % 256 else if y = i then cc f i else f y
def addI (g : FN) (i : Nat) : FN := fun y => if y < i then lo g 40 y + 5 * hi g 40 y else lo g 40 y
def cpI (f : FN) (i : Nat) : FN := fun y => if y < i then crI f 39 y else 0
def subI (N i : Nat) : FN := fun y => if y < i then dg (N - PP) y else dg N y
end Go.Spec
namespace Go.Sym
open Go.Proofs Go.Spec
set_option linter.unusedVariables false
def rw1 (n : Nat) (f : FN) : ABlk := ⟨.rows 1 n fun y => [.int .i64 ((f y : Nat) : Int)], true, 0⟩
def zz : ABlk := ⟨.cells ((List.range 17).map fun _ => .int .i64 0), true, 0⟩
def lsCa (F : FN) (k : Nat) : LS := ⟨Nat, fun i => [(1, .ptr 101 0 0 0), (2, .ptr 104 0 0 0), (3, .int .i64 (k : Nat)), (4, .int .i64 (i : Nat))], fun i => [(101, rw1 40 (crI F i)), (104, zz)], 2000, fun i => 40 - i, fun i => i ≤ 39, fun _ => []⟩
def lsFo (F : FN) (k : Nat) : LS := ⟨Nat, fun i => [(1, .ptr 101 0 0 0), (2, .ptr 104 0 0 0), (3, .int .i64 (k : Nat)), (5, .ptr 102 0 0 0), (6, .int .i64 (i : Nat))], fun i => [(101, rw1 40 (lo (carr F) i)), (102, rw1 40 (hi (carr F) i)), (104, zz)], 3000, fun i => 41 - i, fun i => 16 ≤ i ∧ i ≤ 40, fun _ => []⟩
def lsAd (F : FN) (k : Nat) : LS := ⟨Nat, fun i => [(1, .ptr 101 0 0 0), (2, .ptr 104 0 0 0), (3, .int .i64 (k : Nat)), (5, .ptr 102 0 0 0), (8, .int .i64 (i : Nat))], fun i => [(101, rw1 40 (addI (carr F) i)), (102, rw1 40 (hi (carr F) 40)), (104, zz)], 4000, fun i => 41 - i, fun i => i ≤ 40, fun _ => []⟩
def lsRo (f : FN) : LS := ⟨Nat, fun k => [(1, .ptr 101 0 0 0), (2, .ptr 104 0 0 0), (3, .int .i64 (k : Nat))], fun k => [(101, rw1 40 (rndk k f)), (104, zz)], 1000, fun k => 5 - k, fun k => k ≤ 4, fun k => [(6, lsCa (rndk k f) k), (12, lsFo (rndk k f) k), (22, lsAd (rndk k f) k)]⟩
def lsC2 (F : FN) : LS := ⟨Nat, fun i => [(1, .ptr 101 0 0 0), (2, .ptr 104 0 0 0), (9, .int .i64 (i : Nat))], fun i => [(101, rw1 40 (crI F i)), (104, zz)], 5000, fun i => 40 - i, fun i => i ≤ 39, fun _ => []⟩
def lsCp (F : FN) : LS := ⟨Nat, fun i => [(1, .ptr 101 0 0 0), (2, .ptr 104 0 0 0), (10, .ptr 103 0 0 0), (11, .int .i64 (i : Nat))], fun i => [(101, rw1 40 (crI F 39)), (103, rw1 17 (cpI F i)), (104, zz)], 6000, fun i => 18 - i, fun i => i ≤ 17, fun _ => []⟩
def lsAb (N : Nat) : LS := ⟨Nat, fun i => [(2, .ptr 104 0 0 0), (10, .ptr 103 0 0 0), (12, .ptr 105 0 0 0), (13, .bool (decide (V (dg PP) i ≤ V (dg N) i))), (14, .int .i64 (i : Nat))], fun i => [(103, rw1 17 (dg N)), (105, rw1 17 (dg PP)), (104, zz)], 7000, fun i => 18 - i, fun i => i ≤ 17, fun _ => []⟩
def lsBo (N : Nat) : LS := ⟨Nat, fun i => [(2, .ptr 104 0 0 0), (10, .ptr 103 0 0 0), (12, .ptr 105 0 0 0), (15, .int .i64 (bw N PP i : Nat)), (16, .int .i64 (i : Nat))], fun i => [(103, rw1 17 (subI N i)), (105, rw1 17 (dg PP)), (104, zz)], 8000, fun i => 18 - i, fun i => i ≤ 17 ∧ PP ≤ N, fun _ => []⟩
def sym35 : List Nat := [5, 10, 12, 30, 31, 33, 34, 37, 40, 41, 43, 49, 50, 55, 58, 63, 64, 68, 73, 74, 79, 81, 88, 89, 91, 92, 95, 104, 105, 107, 108, 111, 114, 115, 117, 124, 125, 126, 133, 134, 136, 137, 140, 141, 143, 144, 152, 153, 155, 156, 166]
def agN (n : Nat) (f : FN) : AV := .agg ((List.range n).map fun i => .int .i64 ((f i : Nat) : Int))
noncomputable def U0 : Ctx := K11.exe Tryd.prog gl0 [] 3000 Tryd.f96.params.size 96 Tryd.f96
end Go.Sym

namespace Go.Sym
open Go.Proofs Go.Spec
set_option linter.unusedVariables false
set_option maxRecDepth 100000 in
theorem vc35 (f F : FN) (N : Nat) : bodyP Tryd.prog (U0.withSym sym35) gl0 [] [(3, lsRo f), (26, lsC2 F), (32, lsCp F), (38, lsAb N), (45, lsBo N)] 3000 Tryd.f86 0 [agN 40 f] [] (retQ Tryd.prog Tryd.f86 0 (rt (agN 17 (dg (N % PP))))) = (
let x1 := (0 : Int) = (0 : Int) ∧ (0 : Int) = (0 : Int) ∧ (0 : Int) = (0 : Int) ∧ (0 : Int) = (0 : Int) ∧ (0 : Int) = (0 : Int) ∧ (0 : Int) = (0 : Int) ∧ (0 : Int) = (0 : Int) ∧ (0 : Int) = (0 : Int) ∧ (0 : Int) = (0 : Int) ∧ (0 : Int) = (0 : Int) ∧ (0 : Int) = (0 : Int) ∧ (0 : Int) = (0 : Int) ∧ (0 : Int) = (0 : Int) ∧ (0 : Int) = (0 : Int) ∧ (0 : Int) = (0 : Int) ∧ (0 : Int) = (0 : Int) ∧ (0 : Int) = (0 : Int) ∧ True; let x2 := 17 = 17 ∧ (∀ (y : Nat), y < 17 → datas Bool.false [AV.int IntKind.i64 (↑(dg 1361129467683753853853498429727072845819 y) : Int)] = Bool.true ∧ [AV.int IntKind.i64 (↑(dg 1361129467683753853853498429727072845819 y) : Int)] = [AV.int IntKind.i64 (↑(dg 1361129467683753853853498429727072845819 y) : Int)]) ∧ x1; let x3 := 17 = 17 ∧ (∀ (y : Nat), y < 17 → datas Bool.false [AV.int IntKind.i64 (↑(dg N y) : Int)] = Bool.true ∧ [AV.int IntKind.i64 (↑(dg N y) : Int)] = [AV.int IntKind.i64 (↑(dg N y) : Int)]) ∧ x2; let x4 := [AV.int IntKind.i64 (↑(f 35) : Int), AV.int IntKind.i64 (↑(f 36) : Int), AV.int IntKind.i64 (↑(f 37) : Int), AV.int IntKind.i64 (↑(f 38) : Int), AV.int IntKind.i64 (↑(f 39) : Int)]; (∃ (x : Nat), x.le 4 ∧ 0 = 0 ∧ 0 = 0 ∧ (↑x : Int) = (0 : Int) ∧ 40 = (have y := have y := have y := x4; AV.int IntKind.i64 (↑(f 30) : Int) :: AV.int IntKind.i64 (↑(f 31) : Int) :: AV.int IntKind.i64 (↑(f 32) : Int) :: AV.int IntKind.i64 (↑(f 33) : Int) :: AV.int IntKind.i64 (↑(f 34) : Int) :: y; have y := AV.int IntKind.i64 (↑(f 25) : Int) :: AV.int IntKind.i64 (↑(f 26) : Int) :: AV.int IntKind.i64 (↑(f 27) : Int) :: AV.int IntKind.i64 (↑(f 28) : Int) :: AV.int IntKind.i64 (↑(f 29) : Int) :: y; AV.int IntKind.i64 (↑(f 20) : Int) :: AV.int IntKind.i64 (↑(f 21) : Int) :: AV.int IntKind.i64 (↑(f 22) : Int) :: AV.int IntKind.i64 (↑(f 23) : Int) :: AV.int IntKind.i64 (↑(f 24) : Int) :: y; have y := have y := AV.int IntKind.i64 (↑(f 15) : Int) :: AV.int IntKind.i64 (↑(f 16) : Int) :: AV.int IntKind.i64 (↑(f 17) : Int) :: AV.int IntKind.i64 (↑(f 18) : Int) :: AV.int IntKind.i64 (↑(f 19) : Int) :: y; AV.int IntKind.i64 (↑(f 10) : Int) :: AV.int IntKind.i64 (↑(f 11) : Int) :: AV.int IntKind.i64 (↑(f 12) : Int) :: AV.int IntKind.i64 (↑(f 13) : Int) :: AV.int IntKind.i64 (↑(f 14) : Int) :: y; have y := AV.int IntKind.i64 (↑(f 5) : Int) :: AV.int IntKind.i64 (↑(f 6) : Int) :: AV.int IntKind.i64 (↑(f 7) : Int) :: AV.int IntKind.i64 (↑(f 8) : Int) :: AV.int IntKind.i64 (↑(f 9) : Int) :: y; AV.int IntKind.i64 (↑(f 0) : Int) :: AV.int IntKind.i64 (↑(f 1) : Int) :: AV.int IntKind.i64 (↑(f 2) : Int) :: AV.int IntKind.i64 (↑(f 3) : Int) :: AV.int IntKind.i64 (↑(f 4) : Int) :: y).length ∧ (∀ (y : Nat), y < 40 → datas Bool.false [AV.int IntKind.i64 (↑(rndk x f y) : Int)] = Bool.true ∧ cut 1 (have y := have y := have y := x4; AV.int IntKind.i64 (↑(f 30) : Int) :: AV.int IntKind.i64 (↑(f 31) : Int) :: AV.int IntKind.i64 (↑(f 32) : Int) :: AV.int IntKind.i64 (↑(f 33) : Int) :: AV.int IntKind.i64 (↑(f 34) : Int) :: y; have y := AV.int IntKind.i64 (↑(f 25) : Int) :: AV.int IntKind.i64 (↑(f 26) : Int) :: AV.int IntKind.i64 (↑(f 27) : Int) :: AV.int IntKind.i64 (↑(f 28) : Int) :: AV.int IntKind.i64 (↑(f 29) : Int) :: y; AV.int IntKind.i64 (↑(f 20) : Int) :: AV.int IntKind.i64 (↑(f 21) : Int) :: AV.int IntKind.i64 (↑(f 22) : Int) :: AV.int IntKind.i64 (↑(f 23) : Int) :: AV.int IntKind.i64 (↑(f 24) : Int) :: y; have y := have y := AV.int IntKind.i64 (↑(f 15) : Int) :: AV.int IntKind.i64 (↑(f 16) : Int) :: AV.int IntKind.i64 (↑(f 17) : Int) :: AV.int IntKind.i64 (↑(f 18) : Int) :: AV.int IntKind.i64 (↑(f 19) : Int) :: y; AV.int IntKind.i64 (↑(f 10) : Int) :: AV.int IntKind.i64 (↑(f 11) : Int) :: AV.int IntKind.i64 (↑(f 12) : Int) :: AV.int IntKind.i64 (↑(f 13) : Int) :: AV.int IntKind.i64 (↑(f 14) : Int) :: y; have y := AV.int IntKind.i64 (↑(f 5) : Int) :: AV.int IntKind.i64 (↑(f 6) : Int) :: AV.int IntKind.i64 (↑(f 7) : Int) :: AV.int IntKind.i64 (↑(f 8) : Int) :: AV.int IntKind.i64 (↑(f 9) : Int) :: y; AV.int IntKind.i64 (↑(f 0) : Int) :: AV.int IntKind.i64 (↑(f 1) : Int) :: AV.int IntKind.i64 (↑(f 2) : Int) :: AV.int IntKind.i64 (↑(f 3) : Int) :: AV.int IntKind.i64 (↑(f 4) : Int) :: y) y = [AV.int IntKind.i64 (↑(rndk x f y) : Int)]) ∧ x1) ∧ ∀ (x : Nat), x.le 4 → @Bool.rec (fun _ => Prop) ((∃ (x_1 : Nat), x_1.le 39 ∧ 0 = 0 ∧ 0 = 0 ∧ (↑x_1 : Int) = (0 : Int) ∧ 40 = 40 ∧ (∀ (y : Nat), y < 40 → datas Bool.false [AV.int IntKind.i64 (↑(crI F x_1 y) : Int)] = Bool.true ∧ [AV.int IntKind.i64 (↑(rndk x f y) : Int)] = [AV.int IntKind.i64 (↑(crI F x_1 y) : Int)]) ∧ x1) ∧ ∀ (x : Nat), let x1_1 := bif (↑x : Int).toNat == (IntKind.i64.wrap ((↑x : Int) + (1 : Int))).toNat then [AV.int IntKind.i64 (IntKind.i64.wrap ((if IntKind.i64 = IntKind.i64 then (↑(crI F x (IntKind.i64.wrap ((↑x : Int) + (1 : Int))).toNat) : Int) else (0 : Int)) + IntKind.i64.wrap ((if IntKind.i64 = IntKind.i64 then (↑(crI F x (↑x : Int).toNat) : Int) else (0 : Int)).tdiv (256 : Int))))] else [AV.int IntKind.i64 (↑(crI F x (↑x : Int).toNat) : Int)]; x.le 39 → @Bool.rec (fun _ => Prop) ((∃ (x_1 : Nat), x_1.le 17 ∧ 0 = 0 ∧ 0 = 0 ∧ 0 = 0 ∧ (↑x_1 : Int) = (0 : Int) ∧ 40 = 40 ∧ (∀ (y : Nat), y < 40 → datas Bool.false [AV.int IntKind.i64 (↑(crI F 39 y) : Int)] = Bool.true ∧ [AV.int IntKind.i64 (↑(crI F x y) : Int)] = [AV.int IntKind.i64 (↑(crI F 39 y) : Int)]) ∧ 17 = 17 ∧ (∀ (y : Nat), y < 17 → datas Bool.false [AV.int IntKind.i64 (↑(cpI F x_1 y) : Int)] = Bool.true ∧ [AV.int IntKind.i64 (0 : Int)] = [AV.int IntKind.i64 (↑(cpI F x_1 y) : Int)]) ∧ x1) ∧ ∀ (x : Nat), x.le 17 → @Bool.rec (fun _ => Prop) ((0 : Int) ≤ (0 : Int) ∧ (0 : Int) ≤ Int.ofNat 1 ∧ (0 : Int) ≤ Int.ofNat 2 ∧ (0 : Int) ≤ Int.ofNat 3 ∧ (0 : Int) ≤ Int.ofNat 4 ∧ (0 : Int) ≤ Int.ofNat 5 ∧ (0 : Int) ≤ Int.ofNat 6 ∧ (0 : Int) ≤ Int.ofNat 7 ∧ (0 : Int) ≤ Int.ofNat 8 ∧ (0 : Int) ≤ Int.ofNat 9 ∧ (0 : Int) ≤ Int.ofNat 10 ∧ (0 : Int) ≤ Int.ofNat 11 ∧ (0 : Int) ≤ Int.ofNat 12 ∧ (0 : Int) ≤ Int.ofNat 13 ∧ (0 : Int) ≤ Int.ofNat 14 ∧ (0 : Int) ≤ Int.ofNat 15 ∧ 17 = 17 ∧ (∀ (y : Nat), y < 17 → [AV.int IntKind.i64 (0 : Int)].length = 1) ∧ (∃ (x_1 : Nat), x_1.le 17 ∧ 0 = 0 ∧ 0 = 0 ∧ 0 = 0 ∧ decide (V (dg 1361129467683753853853498429727072845819) x_1 ≤ V (dg N) x_1) = Bool.true ∧ (↑x_1 : Int) = (0 : Int) ∧ 17 = 17 ∧ (∀ (y : Nat), y < 17 → datas Bool.false [AV.int IntKind.i64 (↑(dg N y) : Int)] = Bool.true ∧ [AV.int IntKind.i64 (↑(cpI F x y) : Int)] = [AV.int IntKind.i64 (↑(dg N y) : Int)]) ∧ 17 = 17 ∧ (∀ (y : Nat), y < 17 → datas Bool.false [AV.int IntKind.i64 (↑(dg 1361129467683753853853498429727072845819 y) : Int)] = Bool.true ∧ [[AV.int IntKind.i64 (251 : Int), AV.int IntKind.i64 (255 : Int), AV.int IntKind.i64 (255 : Int), AV.int IntKind.i64 (255 : Int), AV.int IntKind.i64 (255 : Int), AV.int IntKind.i64 (255 : Int), AV.int IntKind.i64 (255 : Int), AV.int IntKind.i64 (255 : Int), AV.int IntKind.i64 (255 : Int), AV.int IntKind.i64 (255 : Int), AV.int IntKind.i64 (255 : Int), AV.int IntKind.i64 (255 : Int), AV.int IntKind.i64 (255 : Int), AV.int IntKind.i64 (255 : Int), AV.int IntKind.i64 (255 : Int), AV.int IntKind.i64 (255 : Int), AV.int IntKind.i64 (3 : Int)].getD y AV.any] = [AV.int IntKind.i64 (↑(dg 1361129467683753853853498429727072845819 y) : Int)]) ∧ x1) ∧ ∀ (x : Nat), x.le 17 → @Bool.rec (fun _ => Prop) (@Bool.rec (fun _ => Prop) (17 ≤ 17 ∧ (↑(dg (N % 1361129467683753853853498429727072845819) 0) : Int) = (↑(dg N 0) : Int) ∧ (↑(dg (N % 1361129467683753853853498429727072845819) 1) : Int) = (↑(dg N 1) : Int) ∧ (↑(dg (N % 1361129467683753853853498429727072845819) 2) : Int) = (↑(dg N 2) : Int) ∧ (↑(dg (N % 1361129467683753853853498429727072845819) 3) : Int) = (↑(dg N 3) : Int) ∧ (↑(dg (N % 1361129467683753853853498429727072845819) 4) : Int) = (↑(dg N 4) : Int) ∧ (↑(dg (N % 1361129467683753853853498429727072845819) 5) : Int) = (↑(dg N 5) : Int) ∧ (↑(dg (N % 1361129467683753853853498429727072845819) 6) : Int) = (↑(dg N 6) : Int) ∧ (↑(dg (N % 1361129467683753853853498429727072845819) 7) : Int) = (↑(dg N 7) : Int) ∧ (↑(dg (N % 1361129467683753853853498429727072845819) 8) : Int) = (↑(dg N 8) : Int) ∧ (↑(dg (N % 1361129467683753853853498429727072845819) 9) : Int) = (↑(dg N 9) : Int) ∧ (↑(dg (N % 1361129467683753853853498429727072845819) 10) : Int) = (↑(dg N 10) : Int) ∧ (↑(dg (N % 1361129467683753853853498429727072845819) 11) : Int) = (↑(dg N 11) : Int) ∧ (↑(dg (N % 1361129467683753853853498429727072845819) 12) : Int) = (↑(dg N 12) : Int) ∧ (↑(dg (N % 1361129467683753853853498429727072845819) 13) : Int) = (↑(dg N 13) : Int) ∧ (↑(dg (N % 1361129467683753853853498429727072845819) 14) : Int) = (↑(dg N 14) : Int) ∧ (↑(dg (N % 1361129467683753853853498429727072845819) 15) : Int) = (↑(dg N 15) : Int) ∧ (↑(dg (N % 1361129467683753853853498429727072845819) 16) : Int) = (↑(dg N 16) : Int) ∧ True) ((∃ (x : Nat), (x ≤ 17 ∧ 1361129467683753853853498429727072845819 ≤ N) ∧ 0 = 0 ∧ 0 = 0 ∧ 0 = 0 ∧ (↑(bw N 1361129467683753853853498429727072845819 x) : Int) = (0 : Int) ∧ (↑x : Int) = (0 : Int) ∧ 17 = 17 ∧ (∀ (y : Nat), y < 17 → datas Bool.false [AV.int IntKind.i64 (↑(subI N x y) : Int)] = Bool.true ∧ [AV.int IntKind.i64 (↑(dg N y) : Int)] = [AV.int IntKind.i64 (↑(subI N x y) : Int)]) ∧ x2) ∧ ∀ (x : Nat), let x1 := IntKind.i64.wrap (IntKind.i64.wrap ((if IntKind.i64 = IntKind.i64 then (↑(subI N x (↑x : Int).toNat) : Int) else (0 : Int)) - if IntKind.i64 = IntKind.i64 then (↑(dg 1361129467683753853853498429727072845819 (↑x : Int).toNat) : Int) else (0 : Int)) - (↑(bw N 1361129467683753853853498429727072845819 x) : Int)); x ≤ 17 ∧ 1361129467683753853853498429727072845819 ≤ N → @Bool.rec (fun _ => Prop) (17 ≤ 17 ∧ (↑(dg (N % 1361129467683753853853498429727072845819) 0) : Int) = (↑(subI N x 0) : Int) ∧ (↑(dg (N % 1361129467683753853853498429727072845819) 1) : Int) = (↑(subI N x 1) : Int) ∧ (↑(dg (N % 1361129467683753853853498429727072845819) 2) : Int) = (↑(subI N x 2) : Int) ∧ (↑(dg (N % 1361129467683753853853498429727072845819) 3) : Int) = (↑(subI N x 3) : Int) ∧ (↑(dg (N % 1361129467683753853853498429727072845819) 4) : Int) = (↑(subI N x 4) : Int) ∧ (↑(dg (N % 1361129467683753853853498429727072845819) 5) : Int) = (↑(subI N x 5) : Int) ∧ (↑(dg (N % 1361129467683753853853498429727072845819) 6) : Int) = (↑(subI N x 6) : Int) ∧ (↑(dg (N % 1361129467683753853853498429727072845819) 7) : Int) = (↑(subI N x 7) : Int) ∧ (↑(dg (N % 1361129467683753853853498429727072845819) 8) : Int) = (↑(subI N x 8) : Int) ∧ (↑(dg (N % 1361129467683753853853498429727072845819) 9) : Int) = (↑(subI N x 9) : Int) ∧ (↑(dg (N % 1361129467683753853853498429727072845819) 10) : Int) = (↑(subI N x 10) : Int) ∧ (↑(dg (N % 1361129467683753853853498429727072845819) 11) : Int) = (↑(subI N x 11) : Int) ∧ (↑(dg (N % 1361129467683753853853498429727072845819) 12) : Int) = (↑(subI N x 12) : Int) ∧ (↑(dg (N % 1361129467683753853853498429727072845819) 13) : Int) = (↑(subI N x 13) : Int) ∧ (↑(dg (N % 1361129467683753853853498429727072845819) 14) : Int) = (↑(subI N x 14) : Int) ∧ (↑(dg (N % 1361129467683753853853498429727072845819) 15) : Int) = (↑(subI N x 15) : Int) ∧ (↑(dg (N % 1361129467683753853853498429727072845819) 16) : Int) = (↑(subI N x 16) : Int) ∧ True) ((0 : Int) ≤ (↑x : Int) ∧ (↑x : Int).toNat < 17 ∧ (↑x : Int).toNat < 17 ∧ IntKind.i64 = IntKind.i64 ∧ (0 : Int) ≤ (↑x : Int) ∧ (↑x : Int).toNat < 17 ∧ (↑x : Int).toNat < 17 ∧ IntKind.i64 = IntKind.i64 ∧ @Bool.rec (fun _ => Prop) ((0 : Int) ≤ (↑x : Int) ∧ (↑x : Int).toNat < 17 ∧ (↑x : Int).toNat < 17 ∧ [AV.int IntKind.i64 (↑(subI N x (↑x : Int).toNat) : Int)].length = 1 ∧ ∃ (y : Nat), 18 - y < 18 - x ∧ (y ≤ 17 ∧ 1361129467683753853853498429727072845819 ≤ N) ∧ 0 = 0 ∧ 0 = 0 ∧ 0 = 0 ∧ (↑(bw N 1361129467683753853853498429727072845819 y) : Int) = (0 : Int) ∧ (↑y : Int) = IntKind.i64.wrap ((↑x : Int) + (1 : Int)) ∧ 17 = 17 ∧ (∀ (y_1 : Nat), y_1 < 17 → datas Bool.false [AV.int IntKind.i64 (↑(subI N y y_1) : Int)] = Bool.true ∧ (bif y_1 == (↑x : Int).toNat then [AV.int IntKind.i64 x1] else [AV.int IntKind.i64 (↑(subI N x y_1) : Int)]) = [AV.int IntKind.i64 (↑(subI N y y_1) : Int)]) ∧ x2) ((0 : Int) ≤ (↑x : Int) ∧ (↑x : Int).toNat < 17 ∧ (↑x : Int).toNat < 17 ∧ [AV.int IntKind.i64 (↑(subI N x (↑x : Int).toNat) : Int)].length = 1 ∧ ∃ (y : Nat), 18 - y < 18 - x ∧ (y ≤ 17 ∧ 1361129467683753853853498429727072845819 ≤ N) ∧ 0 = 0 ∧ 0 = 0 ∧ 0 = 0 ∧ (↑(bw N 1361129467683753853853498429727072845819 y) : Int) = (1 : Int) ∧ (↑y : Int) = IntKind.i64.wrap ((↑x : Int) + (1 : Int)) ∧ 17 = 17 ∧ (∀ (y_1 : Nat), y_1 < 17 → datas Bool.false [AV.int IntKind.i64 (↑(subI N y y_1) : Int)] = Bool.true ∧ (bif y_1 == (↑x : Int).toNat then [AV.int IntKind.i64 (IntKind.i64.wrap (x1 + (256 : Int)))] else [AV.int IntKind.i64 (↑(subI N x y_1) : Int)]) = [AV.int IntKind.i64 (↑(subI N y y_1) : Int)]) ∧ x2) (decide (x1 < (0 : Int)))) (decide ((↑x : Int) < (17 : Int)))) (decide (V (dg 1361129467683753853853498429727072845819) x ≤ V (dg N) x))) ((0 : Int) ≤ (↑x : Int) ∧ (↑x : Int).toNat < 17 ∧ (↑x : Int).toNat < 17 ∧ IntKind.i64 = IntKind.i64 ∧ (0 : Int) ≤ (↑x : Int) ∧ (↑x : Int).toNat < 17 ∧ (↑x : Int).toNat < 17 ∧ IntKind.i64 = IntKind.i64 ∧ @Bool.rec (fun _ => Prop) (∃ (y : Nat), 18 - y < 18 - x ∧ y.le 17 ∧ 0 = 0 ∧ 0 = 0 ∧ 0 = 0 ∧ decide (V (dg 1361129467683753853853498429727072845819) y ≤ V (dg N) y) = decide (V (dg 1361129467683753853853498429727072845819) x ≤ V (dg N) x) ∧ (↑y : Int) = IntKind.i64.wrap ((↑x : Int) + (1 : Int)) ∧ x3) ((0 : Int) ≤ (↑x : Int) ∧ (↑x : Int).toNat < 17 ∧ (↑x : Int).toNat < 17 ∧ IntKind.i64 = IntKind.i64 ∧ (0 : Int) ≤ (↑x : Int) ∧ (↑x : Int).toNat < 17 ∧ (↑x : Int).toNat < 17 ∧ IntKind.i64 = IntKind.i64 ∧ ∃ (y : Nat), 18 - y < 18 - x ∧ y.le 17 ∧ 0 = 0 ∧ 0 = 0 ∧ 0 = 0 ∧ decide (V (dg 1361129467683753853853498429727072845819) y ≤ V (dg N) y) = decide ((if IntKind.i64 = IntKind.i64 then (↑(dg 1361129467683753853853498429727072845819 (↑x : Int).toNat) : Int) else (0 : Int)) < if IntKind.i64 = IntKind.i64 then (↑(dg N (↑x : Int).toNat) : Int) else (0 : Int)) ∧ (↑y : Int) = IntKind.i64.wrap ((↑x : Int) + (1 : Int)) ∧ x3) !decide ((if IntKind.i64 = IntKind.i64 then (↑(dg N (↑x : Int).toNat) : Int) else (0 : Int)) = if IntKind.i64 = IntKind.i64 then (↑(dg 1361129467683753853853498429727072845819 (↑x : Int).toNat) : Int) else (0 : Int))) (decide ((↑x : Int) < (17 : Int)))) ((0 : Int) ≤ (↑x : Int) ∧ (↑x : Int).toNat < 40 ∧ (↑x : Int).toNat < 40 ∧ IntKind.i64 = IntKind.i64 ∧ (0 : Int) ≤ (↑x : Int) ∧ (↑x : Int).toNat < 17 ∧ (↑x : Int).toNat < 17 ∧ [AV.int IntKind.i64 (↑(cpI F x (↑x : Int).toNat) : Int)].length = 1 ∧ ∃ (y : Nat), 18 - y < 18 - x ∧ y.le 17 ∧ 0 = 0 ∧ 0 = 0 ∧ 0 = 0 ∧ (↑y : Int) = IntKind.i64.wrap ((↑x : Int) + (1 : Int)) ∧ 40 = 40 ∧ (∀ (y : Nat), y < 40 → datas Bool.false [AV.int IntKind.i64 (↑(crI F 39 y) : Int)] = Bool.true ∧ [AV.int IntKind.i64 (↑(crI F 39 y) : Int)] = [AV.int IntKind.i64 (↑(crI F 39 y) : Int)]) ∧ 17 = 17 ∧ (∀ (y_1 : Nat), y_1 < 17 → datas Bool.false [AV.int IntKind.i64 (↑(cpI F y y_1) : Int)] = Bool.true ∧ (bif y_1 == (↑x : Int).toNat then [AV.int IntKind.i64 (if IntKind.i64 = IntKind.i64 then (↑(crI F 39 (↑x : Int).toNat) : Int) else (0 : Int))] else [AV.int IntKind.i64 (↑(cpI F x y_1) : Int)]) = [AV.int IntKind.i64 (↑(cpI F y y_1) : Int)]) ∧ x1) (decide ((↑x : Int) < (17 : Int)))) ((0 : Int) ≤ IntKind.i64.wrap ((↑x : Int) + (1 : Int)) ∧ (IntKind.i64.wrap ((↑x : Int) + (1 : Int))).toNat < 40 ∧ (IntKind.i64.wrap ((↑x : Int) + (1 : Int))).toNat < 40 ∧ IntKind.i64 = IntKind.i64 ∧ (0 : Int) ≤ (↑x : Int) ∧ (↑x : Int).toNat < 40 ∧ (↑x : Int).toNat < 40 ∧ IntKind.i64 = IntKind.i64 ∧ (0 : Int) ≤ IntKind.i64.wrap ((↑x : Int) + (1 : Int)) ∧ (IntKind.i64.wrap ((↑x : Int) + (1 : Int))).toNat < 40 ∧ (IntKind.i64.wrap ((↑x : Int) + (1 : Int))).toNat < 40 ∧ [AV.int IntKind.i64 (↑(crI F x (IntKind.i64.wrap ((↑x : Int) + (1 : Int))).toNat) : Int)].length = 1 ∧ (0 : Int) ≤ (↑x : Int) ∧ (↑x : Int).toNat < 40 ∧ (↑x : Int).toNat < 40 ∧ isI IntKind.i64 x1_1 ∧ (0 : Int) ≤ (↑x : Int) ∧ (↑x : Int).toNat < 40 ∧ (↑x : Int).toNat < 40 ∧ x1_1.length = 1 ∧ ∃ (y : Nat), 40 - y < 40 - x ∧ y.le 39 ∧ 0 = 0 ∧ 0 = 0 ∧ (↑y : Int) = IntKind.i64.wrap ((↑x : Int) + (1 : Int)) ∧ 40 = 40 ∧ (∀ (y_1 : Nat), y_1 < 40 → datas Bool.false [AV.int IntKind.i64 (↑(crI F y y_1) : Int)] = Bool.true ∧ (bif y_1 == (↑x : Int).toNat then [AV.int IntKind.i64 ((ofI IntKind.i64 x1_1).tmod (256 : Int))] else bif y_1 == (IntKind.i64.wrap ((↑x : Int) + (1 : Int))).toNat then [AV.int IntKind.i64 (IntKind.i64.wrap ((if IntKind.i64 = IntKind.i64 then (↑(crI F x (IntKind.i64.wrap ((↑x : Int) + (1 : Int))).toNat) : Int) else (0 : Int)) + IntKind.i64.wrap ((if IntKind.i64 = IntKind.i64 then (↑(crI F x (↑x : Int).toNat) : Int) else (0 : Int)).tdiv (256 : Int))))] else [AV.int IntKind.i64 (↑(crI F x y_1) : Int)]) = [AV.int IntKind.i64 (↑(crI F y y_1) : Int)]) ∧ x1) (decide ((↑x : Int) < (39 : Int)))) ((∃ (x_1 : Nat), x_1.le 39 ∧ 0 = 0 ∧ 0 = 0 ∧ (↑x : Int) = (↑x : Int) ∧ (↑x_1 : Int) = (0 : Int) ∧ 40 = 40 ∧ (∀ (y : Nat), y < 40 → datas Bool.false [AV.int IntKind.i64 (↑(crI (rndk x f) x_1 y) : Int)] = Bool.true ∧ [AV.int IntKind.i64 (↑(rndk x f y) : Int)] = [AV.int IntKind.i64 (↑(crI (rndk x f) x_1 y) : Int)]) ∧ x1) ∧ ∀ (x_1 : Nat), let x1_1 := bif (↑x_1 : Int).toNat == (IntKind.i64.wrap ((↑x_1 : Int) + (1 : Int))).toNat then [AV.int IntKind.i64 (IntKind.i64.wrap ((if IntKind.i64 = IntKind.i64 then (↑(crI (rndk x f) x_1 (IntKind.i64.wrap ((↑x_1 : Int) + (1 : Int))).toNat) : Int) else (0 : Int)) + IntKind.i64.wrap ((if IntKind.i64 = IntKind.i64 then (↑(crI (rndk x f) x_1 (↑x_1 : Int).toNat) : Int) else (0 : Int)).tdiv (256 : Int))))] else [AV.int IntKind.i64 (↑(crI (rndk x f) x_1 (↑x_1 : Int).toNat) : Int)]; x_1.le 39 → @Bool.rec (fun _ => Prop) ((∃ (x_2 : Nat), (16 ≤ x_2 ∧ x_2 ≤ 40) ∧ 0 = 0 ∧ 0 = 0 ∧ (↑x : Int) = (↑x : Int) ∧ 0 = 0 ∧ (↑x_2 : Int) = (16 : Int) ∧ 40 = 40 ∧ (∀ (y : Nat), y < 40 → datas Bool.false [AV.int IntKind.i64 (↑(lo (carr (rndk x f)) x_2 y) : Int)] = Bool.true ∧ [AV.int IntKind.i64 (↑(crI (rndk x f) x_1 y) : Int)] = [AV.int IntKind.i64 (↑(lo (carr (rndk x f)) x_2 y) : Int)]) ∧ 40 = 40 ∧ (∀ (y : Nat), y < 40 → datas Bool.false [AV.int IntKind.i64 (↑(hi (carr (rndk x f)) x_2 y) : Int)] = Bool.true ∧ [AV.int IntKind.i64 (0 : Int)] = [AV.int IntKind.i64 (↑(hi (carr (rndk x f)) x_2 y) : Int)]) ∧ x1) ∧ ∀ (x_2 : Nat), let x1_2 := bif (IntKind.i64.wrap ((↑x_2 : Int) - (17 : Int))).toNat == (IntKind.i64.wrap ((↑x_2 : Int) - (16 : Int))).toNat then [AV.int IntKind.i64 (IntKind.i64.wrap ((if IntKind.i64 = IntKind.i64 then (↑(hi (carr (rndk x f)) x_2 (IntKind.i64.wrap ((↑x_2 : Int) - (16 : Int))).toNat) : Int) else (0 : Int)) + IntKind.i64.wrap ((if IntKind.i64 = IntKind.i64 then (↑(lo (carr (rndk x f)) x_2 (↑x_2 : Int).toNat) : Int) else (0 : Int)).tdiv (4 : Int))))] else [AV.int IntKind.i64 (↑(hi (carr (rndk x f)) x_2 (IntKind.i64.wrap ((↑x_2 : Int) - (17 : Int))).toNat) : Int)]; let x2 := if IntKind.i64 = IntKind.i64 then (↑(lo (carr (rndk x f)) x_2 (↑x_2 : Int).toNat) : Int) else (0 : Int); 16 ≤ x_2 ∧ x_2 ≤ 40 → @Bool.rec (fun _ => Prop) ((∃ (x_3 : Nat), x_3.le 40 ∧ 0 = 0 ∧ 0 = 0 ∧ (↑x : Int) = (↑x : Int) ∧ 0 = 0 ∧ (↑x_3 : Int) = (0 : Int) ∧ 40 = 40 ∧ (∀ (y : Nat), y < 40 → datas Bool.false [AV.int IntKind.i64 (↑(addI (carr (rndk x f)) x_3 y) : Int)] = Bool.true ∧ [AV.int IntKind.i64 (↑(lo (carr (rndk x f)) x_2 y) : Int)] = [AV.int IntKind.i64 (↑(addI (carr (rndk x f)) x_3 y) : Int)]) ∧ 40 = 40 ∧ (∀ (y : Nat), y < 40 → datas Bool.false [AV.int IntKind.i64 (↑(hi (carr (rndk x f)) 40 y) : Int)] = Bool.true ∧ [AV.int IntKind.i64 (↑(hi (carr (rndk x f)) x_2 y) : Int)] = [AV.int IntKind.i64 (↑(hi (carr (rndk x f)) 40 y) : Int)]) ∧ x1) ∧ ∀ (x_3 : Nat), x_3.le 40 → @Bool.rec (fun _ => Prop) (∃ (y : Nat), 5 - y < 5 - x ∧ y.le 4 ∧ 0 = 0 ∧ 0 = 0 ∧ (↑y : Int) = IntKind.i64.wrap ((↑x : Int) + (1 : Int)) ∧ 40 = 40 ∧ (∀ (y_1 : Nat), y_1 < 40 → datas Bool.false [AV.int IntKind.i64 (↑(rndk y f y_1) : Int)] = Bool.true ∧ [AV.int IntKind.i64 (↑(addI (carr (rndk x f)) x_3 y_1) : Int)] = [AV.int IntKind.i64 (↑(rndk y f y_1) : Int)]) ∧ x1) ((0 : Int) ≤ (↑x_3 : Int) ∧ (↑x_3 : Int).toNat < 40 ∧ (↑x_3 : Int).toNat < 40 ∧ IntKind.i64 = IntKind.i64 ∧ (0 : Int) ≤ (↑x_3 : Int) ∧ (↑x_3 : Int).toNat < 40 ∧ (↑x_3 : Int).toNat < 40 ∧ IntKind.i64 = IntKind.i64 ∧ (0 : Int) ≤ (↑x_3 : Int) ∧ (↑x_3 : Int).toNat < 40 ∧ (↑x_3 : Int).toNat < 40 ∧ [AV.int IntKind.i64 (↑(addI (carr (rndk x f)) x_3 (↑x_3 : Int).toNat) : Int)].length = 1 ∧ ∃ (y : Nat), 41 - y < 41 - x_3 ∧ y.le 40 ∧ 0 = 0 ∧ 0 = 0 ∧ (↑x : Int) = (↑x : Int) ∧ 0 = 0 ∧ (↑y : Int) = IntKind.i64.wrap ((↑x_3 : Int) + (1 : Int)) ∧ 40 = 40 ∧ (∀ (y_1 : Nat), y_1 < 40 → datas Bool.false [AV.int IntKind.i64 (↑(addI (carr (rndk x f)) y y_1) : Int)] = Bool.true ∧ (bif y_1 == (↑x_3 : Int).toNat then [AV.int IntKind.i64 (IntKind.i64.wrap ((if IntKind.i64 = IntKind.i64 then (↑(addI (carr (rndk x f)) x_3 (↑x_3 : Int).toNat) : Int) else (0 : Int)) + IntKind.i64.wrap ((5 : Int) * if IntKind.i64 = IntKind.i64 then (↑(hi (carr (rndk x f)) 40 (↑x_3 : Int).toNat) : Int) else (0 : Int))))] else [AV.int IntKind.i64 (↑(addI (carr (rndk x f)) x_3 y_1) : Int)]) = [AV.int IntKind.i64 (↑(addI (carr (rndk x f)) y y_1) : Int)]) ∧ 40 = 40 ∧ (∀ (y : Nat), y < 40 → datas Bool.false [AV.int IntKind.i64 (↑(hi (carr (rndk x f)) 40 y) : Int)] = Bool.true ∧ [AV.int IntKind.i64 (↑(hi (carr (rndk x f)) 40 y) : Int)] = [AV.int IntKind.i64 (↑(hi (carr (rndk x f)) 40 y) : Int)]) ∧ x1) (decide ((↑x_3 : Int) < (40 : Int)))) ((0 : Int) ≤ (↑x_2 : Int) ∧ (↑x_2 : Int).toNat < 40 ∧ (↑x_2 : Int).toNat < 40 ∧ IntKind.i64 = IntKind.i64 ∧ @Bool.rec (fun _ => Prop) ((0 : Int) ≤ IntKind.i64.wrap ((↑x_2 : Int) - (16 : Int)) ∧ (IntKind.i64.wrap ((↑x_2 : Int) - (16 : Int))).toNat < 40 ∧ (IntKind.i64.wrap ((↑x_2 : Int) - (16 : Int))).toNat < 40 ∧ IntKind.i64 = IntKind.i64 ∧ (0 : Int) ≤ IntKind.i64.wrap ((↑x_2 : Int) - (16 : Int)) ∧ (IntKind.i64.wrap ((↑x_2 : Int) - (16 : Int))).toNat < 40 ∧ (IntKind.i64.wrap ((↑x_2 : Int) - (16 : Int))).toNat < 40 ∧ [AV.int IntKind.i64 (↑(hi (carr (rndk x f)) x_2 (IntKind.i64.wrap ((↑x_2 : Int) - (16 : Int))).toNat) : Int)].length = 1 ∧ (0 : Int) ≤ IntKind.i64.wrap ((↑x_2 : Int) - (17 : Int)) ∧ (IntKind.i64.wrap ((↑x_2 : Int) - (17 : Int))).toNat < 40 ∧ (IntKind.i64.wrap ((↑x_2 : Int) - (17 : Int))).toNat < 40 ∧ isI IntKind.i64 x1_2 ∧ (0 : Int) ≤ IntKind.i64.wrap ((↑x_2 : Int) - (17 : Int)) ∧ (IntKind.i64.wrap ((↑x_2 : Int) - (17 : Int))).toNat < 40 ∧ (IntKind.i64.wrap ((↑x_2 : Int) - (17 : Int))).toNat < 40 ∧ x1_2.length = 1 ∧ (0 : Int) ≤ (↑x_2 : Int) ∧ (↑x_2 : Int).toNat < 40 ∧ (↑x_2 : Int).toNat < 40 ∧ [AV.int IntKind.i64 (↑(lo (carr (rndk x f)) x_2 (↑x_2 : Int).toNat) : Int)].length = 1 ∧ ∃ (y : Nat), 41 - y < 41 - x_2 ∧ (16 ≤ y ∧ y ≤ 40) ∧ 0 = 0 ∧ 0 = 0 ∧ (↑x : Int) = (↑x : Int) ∧ 0 = 0 ∧ (↑y : Int) = IntKind.i64.wrap ((↑x_2 : Int) + (1 : Int)) ∧ 40 = 40 ∧ (∀ (y_1 : Nat), y_1 < 40 → datas Bool.false [AV.int IntKind.i64 (↑(lo (carr (rndk x f)) y y_1) : Int)] = Bool.true ∧ (bif y_1 == (↑x_2 : Int).toNat then [AV.int IntKind.i64 (0 : Int)] else [AV.int IntKind.i64 (↑(lo (carr (rndk x f)) x_2 y_1) : Int)]) = [AV.int IntKind.i64 (↑(lo (carr (rndk x f)) y y_1) : Int)]) ∧ 40 = 40 ∧ (∀ (y_1 : Nat), y_1 < 40 → datas Bool.false [AV.int IntKind.i64 (↑(hi (carr (rndk x f)) y y_1) : Int)] = Bool.true ∧ (bif y_1 == (IntKind.i64.wrap ((↑x_2 : Int) - (17 : Int))).toNat then [AV.int IntKind.i64 (IntKind.i64.wrap (ofI IntKind.i64 x1_2 + IntKind.i64.wrap (x2.tmod (4 : Int) * (64 : Int))))] else bif y_1 == (IntKind.i64.wrap ((↑x_2 : Int) - (16 : Int))).toNat then [AV.int IntKind.i64 (IntKind.i64.wrap ((if IntKind.i64 = IntKind.i64 then (↑(hi (carr (rndk x f)) x_2 (IntKind.i64.wrap ((↑x_2 : Int) - (16 : Int))).toNat) : Int) else (0 : Int)) + IntKind.i64.wrap (x2.tdiv (4 : Int))))] else [AV.int IntKind.i64 (↑(hi (carr (rndk x f)) x_2 y_1) : Int)]) = [AV.int IntKind.i64 (↑(hi (carr (rndk x f)) y y_1) : Int)]) ∧ x1) (0 < 40 ∧ 0 < 40 ∧ [AV.int IntKind.i64 (↑(hi (carr (rndk x f)) x_2 0) : Int)].length = 1 ∧ 16 < 40 ∧ 16 < 40 ∧ [AV.int IntKind.i64 (↑(lo (carr (rndk x f)) x_2 16) : Int)].length = 1 ∧ ∃ (y : Nat), 41 - y < 41 - x_2 ∧ (16 ≤ y ∧ y ≤ 40) ∧ 0 = 0 ∧ 0 = 0 ∧ (↑x : Int) = (↑x : Int) ∧ 0 = 0 ∧ (↑y : Int) = IntKind.i64.wrap ((↑x_2 : Int) + (1 : Int)) ∧ 40 = 40 ∧ (∀ (y_1 : Nat), y_1 < 40 → datas Bool.false [AV.int IntKind.i64 (↑(lo (carr (rndk x f)) y y_1) : Int)] = Bool.true ∧ (bif y_1 == 16 then [AV.int IntKind.i64 (x2.tmod (4 : Int))] else [AV.int IntKind.i64 (↑(lo (carr (rndk x f)) x_2 y_1) : Int)]) = [AV.int IntKind.i64 (↑(lo (carr (rndk x f)) y y_1) : Int)]) ∧ 40 = 40 ∧ (∀ (y_1 : Nat), y_1 < 40 → datas Bool.false [AV.int IntKind.i64 (↑(hi (carr (rndk x f)) y y_1) : Int)] = Bool.true ∧ (bif y_1 == 0 then [AV.int IntKind.i64 (IntKind.i64.wrap (x2.tdiv (4 : Int)))] else [AV.int IntKind.i64 (↑(hi (carr (rndk x f)) x_2 y_1) : Int)]) = [AV.int IntKind.i64 (↑(hi (carr (rndk x f)) y y_1) : Int)]) ∧ x1) (decide ((↑x_2 : Int) = (16 : Int)))) (decide ((↑x_2 : Int) < (40 : Int)))) ((0 : Int) ≤ IntKind.i64.wrap ((↑x_1 : Int) + (1 : Int)) ∧ (IntKind.i64.wrap ((↑x_1 : Int) + (1 : Int))).toNat < 40 ∧ (IntKind.i64.wrap ((↑x_1 : Int) + (1 : Int))).toNat < 40 ∧ IntKind.i64 = IntKind.i64 ∧ (0 : Int) ≤ (↑x_1 : Int) ∧ (↑x_1 : Int).toNat < 40 ∧ (↑x_1 : Int).toNat < 40 ∧ IntKind.i64 = IntKind.i64 ∧ (0 : Int) ≤ IntKind.i64.wrap ((↑x_1 : Int) + (1 : Int)) ∧ (IntKind.i64.wrap ((↑x_1 : Int) + (1 : Int))).toNat < 40 ∧ (IntKind.i64.wrap ((↑x_1 : Int) + (1 : Int))).toNat < 40 ∧ [AV.int IntKind.i64 (↑(crI (rndk x f) x_1 (IntKind.i64.wrap ((↑x_1 : Int) + (1 : Int))).toNat) : Int)].length = 1 ∧ (0 : Int) ≤ (↑x_1 : Int) ∧ (↑x_1 : Int).toNat < 40 ∧ (↑x_1 : Int).toNat < 40 ∧ isI IntKind.i64 x1_1 ∧ (0 : Int) ≤ (↑x_1 : Int) ∧ (↑x_1 : Int).toNat < 40 ∧ (↑x_1 : Int).toNat < 40 ∧ x1_1.length = 1 ∧ ∃ (y : Nat), 40 - y < 40 - x_1 ∧ y.le 39 ∧ 0 = 0 ∧ 0 = 0 ∧ (↑x : Int) = (↑x : Int) ∧ (↑y : Int) = IntKind.i64.wrap ((↑x_1 : Int) + (1 : Int)) ∧ 40 = 40 ∧ (∀ (y_1 : Nat), y_1 < 40 → datas Bool.false [AV.int IntKind.i64 (↑(crI (rndk x f) y y_1) : Int)] = Bool.true ∧ (bif y_1 == (↑x_1 : Int).toNat then [AV.int IntKind.i64 ((ofI IntKind.i64 x1_1).tmod (256 : Int))] else bif y_1 == (IntKind.i64.wrap ((↑x_1 : Int) + (1 : Int))).toNat then [AV.int IntKind.i64 (IntKind.i64.wrap ((if IntKind.i64 = IntKind.i64 then (↑(crI (rndk x f) x_1 (IntKind.i64.wrap ((↑x_1 : Int) + (1 : Int))).toNat) : Int) else (0 : Int)) + IntKind.i64.wrap ((if IntKind.i64 = IntKind.i64 then (↑(crI (rndk x f) x_1 (↑x_1 : Int).toNat) : Int) else (0 : Int)).tdiv (256 : Int))))] else [AV.int IntKind.i64 (↑(crI (rndk x f) x_1 y_1) : Int)]) = [AV.int IntKind.i64 (↑(crI (rndk x f) y y_1) : Int)]) ∧ x1) (decide ((↑x_1 : Int) < (39 : Int)))) (decide ((↑x : Int) < (4 : Int))) : Prop) := by kernel_rfl
end Go.Sym

namespace Go.Sym
open Go.Proofs Go.Spec
set_option linter.unusedVariables false
theorem row1 {x y : Nat} {v : Int} {f g : FN} (hv : v = ((g x : Nat) : Int)) (h : y ≠ x → g y = f y) : (bif y == x then [AV.int .i64 v] else [AV.int .i64 ((f y : Nat) : Int)]) = [AV.int .i64 ((g y : Nat) : Int)] := by
  by_cases e : y = x
  · subst e; simp [hv]
  · have : (y == x) = false := by simp [e]
    rw [this, h e]; rfl
theorem row2 {x z y : Nat} {v w : Int} {f g : FN} (hv : v = ((g x : Nat) : Int)) (hw : w = ((g z : Nat) : Int)) (h : y ≠ x → y ≠ z → g y = f y) : (bif y == x then [AV.int .i64 v] else bif y == z then [AV.int .i64 w] else [AV.int .i64 ((f y : Nat) : Int)]) = [AV.int .i64 ((g y : Nat) : Int)] := by
  by_cases e : y = x
  · subst e; simp [hv]
  · have : (y == x) = false := by simp [e]
    rw [this]
    exact row1 hw (h e)
theorem isI_int (k : IntKind) (a : Int) : isI k [AV.int k a] = True := by simp [isI]
theorem ofI_int (k : IntKind) (a : Int) : ofI k [AV.int k a] = a := by simp [ofI]
theorem one_eq {a b : FN} {y : Nat} (h : a y = b y) : [AV.int .i64 ((a y : Nat) : Int)] = [AV.int .i64 ((b y : Nat) : Int)] := by rw [h]
theorem crI_self (F : FN) (x : Nat) : crI F x x = cc F x := by simp [crI]
theorem crI_next (F : FN) (x : Nat) : crI F x (x + 1) = F (x + 1) := by
  unfold crI; rw [if_neg (by omega), if_neg (by omega)]
theorem crI_zero (F : FN) (y : Nat) : crI F 0 y = F y := by
  unfold crI
  by_cases h : y = 0
  · subst h; rfl
  · simp [h]
theorem crI_end (F : FN) (y : Nat) (h : y < 40) : crI F 39 y = carr F y := by
  unfold crI carr
  by_cases h1 : y < 39
  · simp [h1]
  · have : y = 39 := by omega
    subst this
    simp
/-- One step of carrying. -/
theorem st_carry (F : FN) (hF : okF F) (x : Nat) (hx : x < 39) :
    IntKind.i64.wrap (((F (x + 1) : Nat) : Int) + IntKind.i64.wrap (((cc F x : Nat) : Int).tdiv 256)) = ((crI F (x + 1) (x + 1) : Nat) : Int) ∧ ((cc F x : Nat) : Int).tmod 256 = ((crI F (x + 1) x : Nat) : Int) ∧ ∀ y, y ≠ x → y ≠ x + 1 → crI F (x + 1) y = crI F x y := by
  have h1 := cc_lt F hF x (by omega)
  have h2 := hF (x + 1) (by omega)
  have t1 : ((cc F x : Nat) : Int).tdiv 256 = ((cc F x / 256 : Nat) : Int) := tdiv_nat _ 256
  have t2 : ((cc F x : Nat) : Int).tmod 256 = ((cc F x % 256 : Nat) : Int) := tmod_nat _ 256
  have w1 : IntKind.i64.wrap ((cc F x / 256 : Nat) : Int) = ((cc F x / 256 : Nat) : Int) := wrap_nat _ rfl (by omega)
  refine ⟨?_, ?_, ?_⟩
  · rw [t1, w1, crI_self]
    exact wrap_nat _ (by simp [cc]) (by simp only [cc]; omega)
  · rw [t2]
    simp [crI]
  · intro y e1 e2
    unfold crI
    by_cases h : y < x
    · rw [if_pos h, if_pos (by omega)]
    · rw [if_neg (by omega), if_neg e2, if_neg h, if_neg e1]
theorem car_lt (F : FN) (hF : okF F) (hT : okT F) (y : Nat) (hy : y < 40) : carr F y < 65536 := by
  unfold carr
  split
  · omega
  · have hc := cc_lt F hF 37 (by omega)
    have e38 : cc F 38 = F 38 + cc F 37 / 256 := rfl
    have e39 : cc F 39 = F 39 + cc F 38 / 256 := rfl
    have : y = 39 := by omega
    subst this
    rw [e39, e38, hT.1, hT.2]
    omega
theorem lo_start (g : FN) (y : Nat) : lo g 16 y = g y := by
  unfold lo
  by_cases h : y < 16
  · rw [if_pos h]
  · rw [if_neg h, if_pos (by omega)]
theorem hi_start (g : FN) (y : Nat) : hi g 16 y = 0 := by
  unfold hi
  rw [if_neg (by omega), if_neg (by omega)]
theorem lo_self (g : FN) (j : Nat) (h : 16 ≤ j) : lo g j j = g j := by
  unfold lo
  rw [if_neg (by omega), if_pos (by omega)]
/-- One step of what is beyond 130 bits, the first one. -/
theorem st_first (g : FN) (hg : ∀ y, y < 40 → g y < 65536) :
    IntKind.i64.wrap (((g 16 : Nat) : Int).tdiv 4) = ((hi g 17 0 : Nat) : Int) ∧ ((g 16 : Nat) : Int).tmod 4 = ((lo g 17 16 : Nat) : Int) ∧ (∀ y, y ≠ 0 → hi g 17 y = hi g 16 y) ∧ ∀ y, y ≠ 16 → lo g 17 y = lo g 16 y := by
  have h := hg 16 (by omega)
  have t1 : ((g 16 : Nat) : Int).tdiv 4 = ((g 16 / 4 : Nat) : Int) := tdiv_nat _ 4
  have t2 : ((g 16 : Nat) : Int).tmod 4 = ((g 16 % 4 : Nat) : Int) := tmod_nat _ 4
  refine ⟨?_, ?_, fun y hy => ?_, fun y hy => ?_⟩
  · rw [t1]; exact wrap_nat _ (by simp [hi]) (by simp [hi]; omega)
  · rw [t2]; simp [lo]
  · unfold hi
    rw [if_neg (by omega), if_neg (by omega), if_neg (by omega), if_neg (by omega)]
  · unfold lo
    by_cases h1 : y < 16
    · rw [if_pos h1, if_pos h1]
    · rw [if_neg h1, if_neg h1, if_pos (by omega), if_pos (by omega)]
theorem st_fold (g : FN) (hg : ∀ y, y < 40 → g y < 65536) (j : Nat) (h1 : 17 ≤ j) (h2 : j < 40) :
    IntKind.i64.wrap (((hi g j (j - 16) : Nat) : Int) + IntKind.i64.wrap (((g j : Nat) : Int).tdiv 4)) = ((hi g (j + 1) (j - 16) : Nat) : Int) ∧
    IntKind.i64.wrap (((hi g j (j - 17) : Nat) : Int) + IntKind.i64.wrap (((g j : Nat) : Int).tmod 4 * 64)) = ((hi g (j + 1) (j - 17) : Nat) : Int) ∧
    (∀ y, y ≠ j - 17 → y ≠ j - 16 → hi g (j + 1) y = hi g j y) ∧ (0 : Int) = ((lo g (j + 1) j : Nat) : Int) ∧ ∀ y, y ≠ j → lo g (j + 1) y = lo g j y := by
  have h := hg j h2
  have t1 : ((g j : Nat) : Int).tdiv 4 = ((g j / 4 : Nat) : Int) := tdiv_nat _ 4
  have t2 : ((g j : Nat) : Int).tmod 4 = ((g j % 4 : Nat) : Int) := tmod_nat _ 4
  have w1 : IntKind.i64.wrap ((g j / 4 : Nat) : Int) = ((g j / 4 : Nat) : Int) := wrap_nat _ rfl (by omega)
  have w2 : IntKind.i64.wrap (((g j % 4 : Nat) : Int) * 64) = ((g j % 4 * 64 : Nat) : Int) := wrap_nat _ (by simp) (by omega)
  have a1 : hi g j (j - 16) = 0 := by unfold hi; rw [if_neg (by omega), if_neg (by omega)]
  have a2 : hi g (j + 1) (j - 16) = g j / 4 := by
    unfold hi; rw [if_pos (by omega), if_neg (by omega), show j - 16 + 16 = j by omega]; omega
  have a3 : hi g j (j - 17) = g (j - 1) / 4 := by
    unfold hi; rw [if_pos (by omega), if_neg (by omega), show j - 17 + 16 = j - 1 by omega]; omega
  have a4 : hi g (j + 1) (j - 17) = g (j - 1) / 4 + g j % 4 * 64 := by
    unfold hi; rw [if_pos (by omega), if_pos (by omega), show j - 17 + 16 = j - 1 by omega, show j - 17 + 17 = j by omega]
  have h3 := hg (j - 1) (by omega)
  refine ⟨?_, ?_, fun y e1 e2 => ?_, ?_, fun y e1 => ?_⟩
  · rw [t1, w1, a1, a2]; exact wrap_nat _ (by omega) (by omega)
  · rw [t2, w2, a3, a4]; exact wrap_nat _ (by omega) (by omega)
  · unfold hi
    by_cases c1 : y + 16 < j
    · rw [if_pos c1, if_pos (by omega)]
      by_cases c2 : y + 17 < j
      · rw [if_pos c2, if_pos (by omega)]
      · rw [if_neg c2, if_neg (by omega)]
    · rw [if_neg c1, if_neg (by omega), if_neg (by omega), if_neg (by omega)]
  · unfold lo
    rw [if_neg (by omega), if_neg (by omega), if_neg (by omega)]; rfl
  · unfold lo
    by_cases c1 : y < 16
    · rw [if_pos c1, if_pos c1]
    · rw [if_neg c1, if_neg c1]
      by_cases c2 : j ≤ y
      · rw [if_pos c2, if_pos (by omega)]
      · rw [if_neg c2, if_neg (by omega)]
theorem lo_lt (g : FN) (hg : ∀ y, y < 40 → g y < 65536) (y : Nat) (hy : y < 40) : lo g 40 y < 65536 := by
  unfold lo
  split
  · exact hg y hy
  · rw [if_neg (by omega)]
    split <;> omega
theorem addI_self (g : FN) (j : Nat) : addI g j j = lo g 40 j := by simp [addI]
theorem st_add (g : FN) (hg : ∀ y, y < 40 → g y < 65536) (hh : ∀ y, y < 40 → hi g 40 y < 65536) (j : Nat) (h : j < 40) :
    IntKind.i64.wrap (((lo g 40 j : Nat) : Int) + IntKind.i64.wrap (5 * ((hi g 40 j : Nat) : Int))) = ((addI g (j + 1) j : Nat) : Int) ∧ ∀ y, y ≠ j → addI g (j + 1) y = addI g j y := by
  have h1 := lo_lt g hg j h
  have h2 := hh j h
  have w1 : IntKind.i64.wrap (5 * ((hi g 40 j : Nat) : Int)) = ((5 * hi g 40 j : Nat) : Int) := wrap_nat _ (by simp) (by omega)
  refine ⟨?_, fun y e => ?_⟩
  · rw [w1]
    have : addI g (j + 1) j = lo g 40 j + 5 * hi g 40 j := by simp [addI]
    rw [this]
    exact wrap_nat _ (by simp) (by omega)
  · unfold addI
    by_cases c : y < j
    · rw [if_pos c, if_pos (by omega)]
    · rw [if_neg c, if_neg (by omega)]
theorem addI_end (F : FN) (y : Nat) (h : y < 40) : addI (carr F) 40 y = rndF F y := by
  unfold addI rndF; rw [if_pos h]
theorem dg_lt (N i : Nat) : dg N i < 256 := Nat.mod_lt _ (by omega)
theorem subI_self (N i : Nat) : subI N i i = dg N i := by simp [subI]
theorem bw_lt (N M i : Nat) : bw N M i ≤ 1 := by unfold bw; split <;> omega
/-- What is said of the first digits. -/
theorem st_above (N i : Nat) : decide (V (dg PP) (i + 1) ≤ V (dg N) (i + 1)) = if dg N i = dg PP i then decide (V (dg PP) i ≤ V (dg N) i) else decide (dg PP i < dg N i) := by
  have h1 := V_lt (dg PP) i (fun j _ => dg_lt _ _)
  have h2 := V_lt (dg N) i (fun j _ => dg_lt _ _)
  by_cases e : dg N i = dg PP i
  · rw [if_pos e, decide_eq_decide]
    simp only [V]
    rw [e]
    omega
  · rw [if_neg e, decide_eq_decide]
    simp only [V]
    generalize V (dg PP) i = a at *
    generalize V (dg N) i = b at *
    generalize dg PP i = p at *
    generalize dg N i = q at *
    generalize 256 ^ i = w at *
    rcases Nat.lt_or_ge p q with h | h
    · have := Nat.mul_le_mul_right w (show p + 1 ≤ q from h)
      rw [Nat.add_mul, Nat.one_mul] at this
      constructor <;> intro _ <;> omega
    · have := Nat.mul_le_mul_right w (show q + 1 ≤ p by omega)
      rw [Nat.add_mul, Nat.one_mul] at this
      constructor <;> intro _ <;> omega
theorem lt17 {P : Nat → Prop} (h : ∀ i, i < 16 → P i) (h16 : P 16) : ∀ i, i < 17 → P i := by
  intro i hi
  rcases Nat.lt_or_ge i 16 with h1 | h1
  · exact h i h1
  · obtain rfl : i = 16 := by omega
    exact h16
theorem less_dg : ∀ y, y < 17 → [[AV.int IntKind.i64 (251 : Int), AV.int IntKind.i64 (255 : Int), AV.int IntKind.i64 (255 : Int), AV.int IntKind.i64 (255 : Int), AV.int IntKind.i64 (255 : Int), AV.int IntKind.i64 (255 : Int), AV.int IntKind.i64 (255 : Int), AV.int IntKind.i64 (255 : Int), AV.int IntKind.i64 (255 : Int), AV.int IntKind.i64 (255 : Int), AV.int IntKind.i64 (255 : Int), AV.int IntKind.i64 (255 : Int), AV.int IntKind.i64 (255 : Int), AV.int IntKind.i64 (255 : Int), AV.int IntKind.i64 (255 : Int), AV.int IntKind.i64 (255 : Int), AV.int IntKind.i64 (3 : Int)].getD y AV.any] = [AV.int IntKind.i64 ((dg 1361129467683753853853498429727072845819 y : Nat) : Int)] := by
  apply lt17
  · apply lt16 <;> kernel_rfl
  · kernel_rfl
theorem st_sub (N i : Nat) (h : PP ≤ N) : 
    IntKind.i64.wrap (IntKind.i64.wrap (((dg N i : Nat) : Int) - ((dg PP i : Nat) : Int)) - ((bw N PP i : Nat) : Int)) = ((dg N i : Nat) : Int) - ((dg PP i : Nat) : Int) - ((bw N PP i : Nat) : Int) ∧
    (((dg N i : Nat) : Int) - ((dg PP i : Nat) : Int) - ((bw N PP i : Nat) : Int) < 0 → ((bw N PP (i + 1) : Nat) : Int) = 1 ∧ IntKind.i64.wrap (((dg N i : Nat) : Int) - ((dg PP i : Nat) : Int) - ((bw N PP i : Nat) : Int) + 256) = ((subI N (i + 1) i : Nat) : Int)) ∧
    (0 ≤ ((dg N i : Nat) : Int) - ((dg PP i : Nat) : Int) - ((bw N PP i : Nat) : Int) → ((bw N PP (i + 1) : Nat) : Int) = 0 ∧ ((dg N i : Nat) : Int) - ((dg PP i : Nat) : Int) - ((bw N PP i : Nat) : Int) = ((subI N (i + 1) i : Nat) : Int)) ∧
    ∀ y, y ≠ i → subI N (i + 1) y = subI N i y := by
  obtain ⟨d1, d2⟩ := sub_dg N PP i h
  have a := dg_lt N i
  have b := dg_lt PP i
  have c := bw_lt N PP i
  have e : subI N (i + 1) i = dg (N - PP) i := by simp [subI]
  rw [e, d1, d2]
  generalize dg N i = p at *
  generalize dg PP i = q at *
  generalize bw N PP i = r at *
  refine ⟨?_, fun hn => ⟨?_, ?_⟩, fun hn => ⟨?_, ?_⟩, fun y hy => ?_⟩
  · rw [wrap_i64 (x := (p : Int) - (q : Int)) (by omega) (by omega)]
    exact wrap_i64 (by omega) (by omega)
  · rw [if_pos (by omega)]; rfl
  · exact wrap_nat _ (by omega) (by omega)
  · rw [if_neg (by omega)]; rfl
  · omega
  · unfold subI
    by_cases c1 : y < i
    · rw [if_pos c1, if_pos (by omega)]
    · rw [if_neg c1, if_neg (by omega)]
theorem b35 (f : FN) (hf : okF f) (ht : okT f) : Must (bodyP Tryd.prog (U0.withSym sym35) gl0 [] [(3, lsRo f), (26, lsC2 (rndk 4 f)), (32, lsCp (rndk 4 f)), (38, lsAb (V (rndk 4 f) 40)), (45, lsBo (V (rndk 4 f) 40))] 3000 Tryd.f86 0 [agN 40 f] [] (retQ Tryd.prog Tryd.f86 0 (rt (agN 17 (dg (V (rndk 4 f) 40 % PP)))))) := by
  constructor
  rw [vc35]
  set_option simprocs false in dsimp only
  have hN := (rnd4 f hf).1
  have hok := fun k => (rndk_ok f hf ht k).1
  have hokT := fun k => (rndk_ok f hf ht k).2
  have hout := out_dg (rndk 4 f) hN
  have hcut : ∀ y, y < 40 → cut 1 [AV.int IntKind.i64 ((f 0 : Nat) : Int), AV.int IntKind.i64 ((f 1 : Nat) : Int), AV.int IntKind.i64 ((f 2 : Nat) : Int), AV.int IntKind.i64 ((f 3 : Nat) : Int), AV.int IntKind.i64 ((f 4 : Nat) : Int), AV.int IntKind.i64 ((f 5 : Nat) : Int), AV.int IntKind.i64 ((f 6 : Nat) : Int), AV.int IntKind.i64 ((f 7 : Nat) : Int), AV.int IntKind.i64 ((f 8 : Nat) : Int), AV.int IntKind.i64 ((f 9 : Nat) : Int), AV.int IntKind.i64 ((f 10 : Nat) : Int), AV.int IntKind.i64 ((f 11 : Nat) : Int), AV.int IntKind.i64 ((f 12 : Nat) : Int), AV.int IntKind.i64 ((f 13 : Nat) : Int), AV.int IntKind.i64 ((f 14 : Nat) : Int), AV.int IntKind.i64 ((f 15 : Nat) : Int), AV.int IntKind.i64 ((f 16 : Nat) : Int), AV.int IntKind.i64 ((f 17 : Nat) : Int), AV.int IntKind.i64 ((f 18 : Nat) : Int), AV.int IntKind.i64 ((f 19 : Nat) : Int), AV.int IntKind.i64 ((f 20 : Nat) : Int), AV.int IntKind.i64 ((f 21 : Nat) : Int), AV.int IntKind.i64 ((f 22 : Nat) : Int), AV.int IntKind.i64 ((f 23 : Nat) : Int), AV.int IntKind.i64 ((f 24 : Nat) : Int), AV.int IntKind.i64 ((f 25 : Nat) : Int), AV.int IntKind.i64 ((f 26 : Nat) : Int), AV.int IntKind.i64 ((f 27 : Nat) : Int), AV.int IntKind.i64 ((f 28 : Nat) : Int), AV.int IntKind.i64 ((f 29 : Nat) : Int), AV.int IntKind.i64 ((f 30 : Nat) : Int), AV.int IntKind.i64 ((f 31 : Nat) : Int), AV.int IntKind.i64 ((f 32 : Nat) : Int), AV.int IntKind.i64 ((f 33 : Nat) : Int), AV.int IntKind.i64 ((f 34 : Nat) : Int), AV.int IntKind.i64 ((f 35 : Nat) : Int), AV.int IntKind.i64 ((f 36 : Nat) : Int), AV.int IntKind.i64 ((f 37 : Nat) : Int), AV.int IntKind.i64 ((f 38 : Nat) : Int), AV.int IntKind.i64 ((f 39 : Nat) : Int)] y = [AV.int IntKind.i64 ((f y : Nat) : Int)] := by
    intro y hy
    have e := cut_map (fun i => AV.int IntKind.i64 ((f i : Nat) : Int)) (List.range 40) 0 y (by simpa using hy)
    have e2 : (List.range 40).getD y 0 = y := by simp [List.getD, hy]
    rw [e2] at e
    exact e
  simp only [dI, true_and, and_true, implies_true, Int.toNat_natCast, reduceIte, List.length_cons, List.length_nil]
  refine ⟨⟨0, Nat.zero_le _, rfl, fun y hy => hcut y hy⟩, fun k hk => ?_⟩
  replace hk : k ≤ 4 := hk
  refine brec (fun h => ?_) (fun h => ?_)
  · replace h : k < 4 := by have := dlt.1 h; omega
    have hF := hok k
    have hT := hokT k
    have e5 : rndk (k + 1) f = rndF (rndk k f) := rfl
    generalize rndk k f = F at *
    have hG := car_lt F hF hT
    have hH := hi_lt F hF hT
    refine ⟨⟨0, Nat.zero_le _, rfl, fun y hy => one_eq (crI_zero F y).symm⟩, fun i hi0 => ?_⟩
    replace hi0 : i ≤ 39 := hi0
    refine brec (fun h1 => ?_) (fun h1 => ?_)
    · replace h1 : i < 39 := by have := dlt.1 h1; omega
      have w1 : IntKind.i64.wrap ((i : Int) + 1) = ((i + 1 : Nat) : Int) := wrap_nat _ (by simp) (by omega)
      have hb : (i == i + 1) = false := by simp
      obtain ⟨s1, s2, s3⟩ := st_carry F hF i h1
      simp only [w1, Int.toNat_natCast, hb, cond_false, crI_self, crI_next, isI_int, ofI_int, List.length_singleton, true_and]
      repeat refine And.intro (by omega) ?_
      exact ⟨i + 1, by omega, h1, rfl, fun y hy => row2 s2 s1 (s3 y)⟩
    · obtain rfl : i = 39 := by have := ndlt.1 h1; omega
      refine ⟨⟨16, by omega, rfl, fun y hy => one_eq ((crI_end F y hy).trans (lo_start _ y).symm), fun y hy => by rw [hi_start]; rfl⟩, fun j hj => ?_⟩
      refine brec (fun h2 => ?_) (fun h2 => ?_)
      · replace h2 : j < 40 := by have := dlt.1 h2; omega
        have w1 : IntKind.i64.wrap ((j : Int) + 1) = ((j + 1 : Nat) : Int) := wrap_nat _ (by simp) (by omega)
        have w2 : IntKind.i64.wrap ((j : Int) - 16) = ((j - 16 : Nat) : Int) := wrap_nat _ (by omega) (by omega)
        have ls := lo_self (carr F) j hj.1
        repeat refine And.intro (by omega) ?_
        refine brec (fun h3 => ?_) (fun h3 => ?_)
        · obtain rfl : j = 16 := by simp at h3; omega
          obtain ⟨s1, s2, s3, s4⟩ := st_first (carr F) hG
          simp only [w1, ls]
          repeat refine And.intro (by omega) ?_
          exact ⟨17, by omega, by omega, rfl, fun y hy => row1 s2 (s4 y), fun y hy => row1 s1 (s3 y)⟩
        · have h4 : 17 ≤ j := by simp at h3; omega
          have w3 : IntKind.i64.wrap ((j : Int) - 17) = ((j - 17 : Nat) : Int) := wrap_nat _ (by omega) (by omega)
          have hb : (j - 17 == j - 16) = false := by simp; omega
          obtain ⟨s1, s2, s3, s4, s5⟩ := st_fold (carr F) hG j h4 h2
          simp only [w1, w2, w3, ls, Int.toNat_natCast, hb, cond_false, isI_int, ofI_int, List.length_singleton, true_and]
          repeat refine And.intro (by omega) ?_
          exact ⟨j + 1, by omega, by omega, rfl, fun y hy => row1 s4 (s5 y), fun y hy => row2 s2 s1 (s3 y)⟩
      · obtain rfl : j = 40 := by have := ndlt.1 h2; omega
        refine ⟨⟨0, Nat.zero_le _, rfl, fun y hy => one_eq (by simp [addI]), fun y hy => rfl⟩, fun l hl => ?_⟩
        replace hl : l ≤ 40 := hl
        refine brec (fun h3 => ?_) (fun h3 => ?_)
        · replace h3 : l < 40 := by have := dlt.1 h3; omega
          have w1 : IntKind.i64.wrap ((l : Int) + 1) = ((l + 1 : Nat) : Int) := wrap_nat _ (by simp) (by omega)
          obtain ⟨s1, s2⟩ := st_add (carr F) hG hH l h3
          simp only [w1, addI_self]
          repeat refine And.intro (by omega) ?_
          exact ⟨l + 1, by omega, h3, rfl, fun y hy => row1 s1 (s2 y)⟩
        · obtain rfl : l = 40 := by have := ndlt.1 h3; omega
          have w1 : IntKind.i64.wrap ((k : Int) + 1) = ((k + 1 : Nat) : Int) := wrap_nat _ (by simp) (by omega)
          refine ⟨k + 1, by omega, h, w1.symm, fun y hy => one_eq ?_⟩
          rw [e5]
          exact addI_end F y hy
  · obtain rfl : k = 4 := by have := ndlt.1 h; omega
    have hF := hok 4
    generalize rndk 4 f = F at *
    refine ⟨⟨0, Nat.zero_le _, rfl, fun y hy => one_eq (crI_zero F y).symm⟩, fun i hi0 => ?_⟩
    replace hi0 : i ≤ 39 := hi0
    refine brec (fun h1 => ?_) (fun h1 => ?_)
    · replace h1 : i < 39 := by have := dlt.1 h1; omega
      have w1 : IntKind.i64.wrap ((i : Int) + 1) = ((i + 1 : Nat) : Int) := wrap_nat _ (by simp) (by omega)
      have hb : (i == i + 1) = false := by simp
      obtain ⟨s1, s2, s3⟩ := st_carry F hF i h1
      simp only [w1, Int.toNat_natCast, hb, cond_false, crI_self, crI_next, isI_int, ofI_int, List.length_singleton, true_and]
      repeat refine And.intro (by omega) ?_
      exact ⟨i + 1, by omega, h1, rfl, fun y hy => row2 s2 s1 (s3 y)⟩
    · obtain rfl : i = 39 := by have := ndlt.1 h1; omega
      refine ⟨⟨0, Nat.zero_le _, rfl, fun y hy => rfl, fun y hy => by simp [cpI]⟩, fun j hj => ?_⟩
      replace hj : j ≤ 17 := hj
      refine brec (fun h2 => ?_) (fun h2 => ?_)
      · replace h2 : j < 17 := by have := dlt.1 h2; omega
        have w1 : IntKind.i64.wrap ((j : Int) + 1) = ((j + 1 : Nat) : Int) := wrap_nat _ (by simp) (by omega)
        simp only [w1]
        repeat refine And.intro (by omega) ?_
        refine ⟨j + 1, by omega, h2, rfl, fun y hy => row1 (g := cpI F (j + 1)) (by simp [cpI]) (fun e => ?_)⟩
        unfold cpI
        by_cases c : y < j
        · rw [if_pos c, if_pos (by omega)]
        · rw [if_neg c, if_neg (by omega)]
      · obtain rfl : j = 17 := by have := ndlt.1 h2; omega
        generalize V F 40 = N at *
        have pN : V (dg N) 17 = N := by rw [V_dg]; exact Nat.mod_eq_of_lt (by omega)
        have pP : V (dg PP) 17 = PP := by kernel_rfl
        repeat refine And.intro (of_decide_eq_true (by kernel_rfl)) ?_
        refine ⟨⟨0, Nat.zero_le _, by simp [V], rfl, fun y hy => one_eq ?_, less_dg⟩, fun i hi1 => ?_⟩
        · rw [← hout y hy, ← crI_end F y (by omega)]
          unfold cpI; rw [if_pos hy]
        · replace hi1 : i ≤ 17 := hi1
          refine brec (fun h3 => ?_) (fun h3 => ?_)
          · replace h3 : i < 17 := by have := dlt.1 h3; omega
            have w1 : IntKind.i64.wrap ((i : Int) + 1) = ((i + 1 : Nat) : Int) := wrap_nat _ (by simp) (by omega)
            have sa := st_above N i
            have sa' : decide (V (dg 1361129467683753853853498429727072845819) (i + 1) ≤ V (dg N) (i + 1)) = if dg N i = dg PP i then decide (V (dg PP) i ≤ V (dg N) i) else decide (dg PP i < dg N i) := sa
            repeat refine And.intro (by omega) ?_
            refine brec (fun h4 => ?_) (fun h4 => ?_)
            · have h5 : ¬ dg N i = dg PP i := by
                intro e
                have e' : ((dg N i : Nat) : Int) = ((dg 1361129467683753853853498429727072845819 i : Nat) : Int) := by rw [e]; rfl
                simp [e'] at h4
              rw [if_neg h5] at sa'
              repeat refine And.intro (by omega) ?_
              refine ⟨i + 1, by omega, h3, ?_, w1.symm⟩
              rw [sa', decide_eq_decide]
              show dg PP i < dg N i ↔ ((dg PP i : Nat) : Int) < ((dg N i : Nat) : Int)
              omega
            · have h5 : dg N i = dg PP i := by
                have e' : ((dg N i : Nat) : Int) = ((dg 1361129467683753853853498429727072845819 i : Nat) : Int) := by simpa using h4
                have e'' : ((dg N i : Nat) : Int) = ((dg PP i : Nat) : Int) := e'
                omega
              rw [if_pos h5] at sa'
              exact ⟨i + 1, by omega, h3, sa', w1.symm⟩
          · obtain rfl : i = 17 := by have := ndlt.1 h3; omega
            refine brec (fun h4 => ?_) (fun h4 => ?_)
            · have hPN : PP ≤ N := by
                have : V (dg PP) 17 ≤ V (dg N) 17 := of_decide_eq_true h4
                rw [pN, pP] at this
                exact this
              refine ⟨⟨0, ⟨by omega, hPN⟩, by simp [bw, Nat.mod_one], rfl, fun y hy => one_eq (by simp [subI])⟩, fun l hl => ?_⟩
              refine brec (fun h5 => ?_) (fun h5 => ?_)
              · replace h5 : l < 17 := by have := dlt.1 h5; omega
                have w1 : IntKind.i64.wrap ((l : Int) + 1) = ((l + 1 : Nat) : Int) := wrap_nat _ (by simp) (by omega)
                obtain ⟨s1, s2, s3, s4⟩ := st_sub N l hPN
                have s1' : IntKind.i64.wrap (IntKind.i64.wrap (((dg N l : Nat) : Int) - ((dg 1361129467683753853853498429727072845819 l : Nat) : Int)) - ((bw N 1361129467683753853853498429727072845819 l : Nat) : Int)) = ((dg N l : Nat) : Int) - ((dg PP l : Nat) : Int) - ((bw N PP l : Nat) : Int) := s1
                simp only [subI_self, s1', w1]
                repeat refine And.intro (by omega) ?_
                refine brec (fun h6 => ?_) (fun h6 => ?_)
                · obtain ⟨u1, u2⟩ := s2 (dlt.1 h6)
                  repeat refine And.intro (by omega) ?_
                  exact ⟨l + 1, by omega, ⟨h5, hPN⟩, u1, rfl, fun y hy => row1 u2 (s4 y)⟩
                · obtain ⟨u1, u2⟩ := s3 (ndlt.1 h6)
                  repeat refine And.intro (by omega) ?_
                  exact ⟨l + 1, by omega, ⟨h5, hPN⟩, u1, rfl, fun y hy => row1 u2 (s4 y)⟩
              · obtain rfl : l = 17 := by have := ndlt.1 h5; omega
                have em : N % 1361129467683753853853498429727072845819 = N - PP := by
                  have hPN' : 1361129467683753853853498429727072845819 ≤ N := hPN
                  show N % 1361129467683753853853498429727072845819 = N - 1361129467683753853853498429727072845819
                  omega
                rw [em]
                have hs : ∀ y, y < 17 → subI N 17 y = dg (N - PP) y := fun y hy => by unfold subI; rw [if_pos hy]
                rw [hs 0 (by omega), hs 1 (by omega), hs 2 (by omega), hs 3 (by omega), hs 4 (by omega), hs 5 (by omega), hs 6 (by omega), hs 7 (by omega), hs 8 (by omega), hs 9 (by omega), hs 10 (by omega), hs 11 (by omega), hs 12 (by omega), hs 13 (by omega), hs 14 (by omega), hs 15 (by omega), hs 16 (by omega)]
                simp
            · have hPN : N < PP := by
                have : ¬ V (dg PP) 17 ≤ V (dg N) 17 := of_decide_eq_false h4
                rw [pN, pP] at this
                omega
              have em : N % 1361129467683753853853498429727072845819 = N := Nat.mod_eq_of_lt hPN
              rw [em]
              simp
end Go.Sym

namespace Go.Spec
def VL (L : List Int) : Nat := V (fun i => (L.getD i 0).toNat) 40
def okI (L : List Int) : Prop := (∀ i, i < 40 → 0 ≤ L.getD i 0 ∧ L.getD i 0 < 8388608) ∧ L.getD 39 0 = 0 ∧ L.getD 38 0 = 0
def rN (k : F8) : FN := fun i => (clampS k i).toNat
/-- A block's number, with 1 behind. -/
def partN (b : By) (x : Nat) : FN := fun i => (partF b x i).toNat
def HN (k : F8) (b : By) : Nat → Nat
  | 0 => 0
  | x + 1 => (HN k b x + V (partN b x) 17) * V (rN k) 16 % PP
/-- The number's bytes, while a block is added to them. -/
def hI (N : Nat) (b : By) (x i : Nat) : FN := fun y => if y < i then dg N y + (b.getD (16 * x + y) 0).toNat else dg N y
def hP (N : Nat) (b : By) (x : Nat) : FN := fun y => dg N y + partN b x y
/-- Products, while they are made. -/
def pl (h r : FN) : Nat → FN
  | 0 => fun _ => 0
  | i + 1 => fun y => pl h r i y + (if i ≤ y ∧ y < i + 16 then h i * r (y - i) else 0)
def plJ (h r : FN) (i j : Nat) : FN := fun y => pl h r i y + (if i ≤ y ∧ y < i + j then h i * r (y - i) else 0)
def xR (h : FN) (k : F8) : Nat → Int
  | 0 => i64w (i64w (((h 0 : Nat) : Int) + (((k 16).toNat : Nat) : Int)) + 0)
  | i + 1 => i64w (i64w (((h (i + 1) : Nat) : Int) + (((k (16 + (i + 1))).toNat : Nat) : Int)) + i64w ((xR h k i).tdiv 256))
def outR (h : FN) (k : F8) : F8 := fun i => BitVec.ofInt 8 ((xR h k i).tmod 256)
end Go.Spec
namespace Go.Sym
open Go.Proofs Go.Spec
set_option linter.unusedVariables false
def asI (n : Nat) (cs : List AV) (k : List Int → TL) : TL := match rdI .i64 cs with | some l => (match l.length == n with | true => k l | false => .no) | none => .no
noncomputable def g35 (xs : List AV) : TL := match xs with | [.agg cs] => asI 40 cs fun L => .ok ⟨[okI L], agN 17 (dg (VL L % PP)), [], []⟩ | _ => .no
noncomputable def U5c : Ctx := Q9.add 86 (mkF (spK 1 g35))
def z16 : ABlk := ⟨.cells (cl 16 fun _ => 0), true, 0⟩
def ck (k : F8) : ABlk := ⟨.cells (cl 32 k), true, 0⟩
noncomputable def lsJ (k : F8) (b : By) (x : Nat) (n : Int) (h : FN) (i : Nat) : LS := ⟨Nat, fun j => [(1, .rb false b .unk), (2, .ptr 101 0 0 0), (4, .ptr 104 0 0 0), (5, .ptr 102 0 0 0), (7, .ptr 103 0 0 0), (8, .int .i64 ((16 * x : Nat) : Int)), (11, .ptr 105 0 0 0), (12, .int .i64 (i : Nat)), (13, .int .i64 (j : Nat))],
  fun j => [(101, ck k), (102, rw1 16 (rN k)), (103, rw1 17 h), (104, z16), (105, rw1 40 (plJ h (rN k) i j))], 4000, fun j => 17 - j, fun j => j ≤ 16, fun _ => []⟩
noncomputable def lsI (k : F8) (b : By) (x : Nat) (n : Int) (h : FN) : LS := ⟨Nat, fun i => [(1, .rb false b .unk), (2, .ptr 101 0 0 0), (4, .ptr 104 0 0 0), (5, .ptr 102 0 0 0), (7, .ptr 103 0 0 0), (8, .int .i64 ((16 * x : Nat) : Int)), (11, .ptr 105 0 0 0), (12, .int .i64 (i : Nat))],
  fun i => [(101, ck k), (102, rw1 16 (rN k)), (103, rw1 17 h), (104, z16), (105, rw1 40 (pl h (rN k) i))], 3000, fun i => 18 - i, fun i => i ≤ 17, fun i => [(26, lsJ k b x n h i)]⟩
noncomputable def lsA (k : F8) (b : By) (x : Nat) (n : Int) (N : Nat) : LS := ⟨Nat, fun i => [(1, .rb false b .unk), (2, .ptr 101 0 0 0), (4, .ptr 104 0 0 0), (5, .ptr 102 0 0 0), (7, .ptr 103 0 0 0), (8, .int .i64 ((16 * x : Nat) : Int)), (9, .int .i64 n), (10, .int .i64 (i : Nat))],
  fun i => [(101, ck k), (102, rw1 16 (rN k)), (103, rw1 17 (hI N b x i)), (104, z16)], 2000, fun i => 17 - i, fun i => (i : Int) ≤ n, fun _ => []⟩
noncomputable def lsBq (k : F8) (b : By) : LS := ⟨Nat, fun x => [(1, .rb false b .unk), (2, .ptr 101 0 0 0), (4, .ptr 104 0 0 0), (5, .ptr 102 0 0 0), (7, .ptr 103 0 0 0), (8, .int .i64 ((16 * x : Nat) : Int))],
  fun x => [(101, ck k), (102, rw1 16 (rN k)), (103, rw1 17 (dg (HN k b x))), (104, z16)], 1000, fun x => b.length + 1 - x, fun x => 16 * x < b.length + 16,
  fun x => [(17, lsA k b x (min ((b.length : Int) - ((16 * x : Nat) : Int)) 16) (HN k b x)), (23, lsI k b x (min ((b.length : Int) - ((16 * x : Nat) : Int)) 16) (hP (HN k b x) b x))]⟩
def sym19 : List Nat := [7, 11, 69, 70, 79, 82, 83, 85, 100, 101, 103, 104, 106, 107, 110]
noncomputable def tagR (k : F8) (b : By) : F8 := outR (dg (HN k b ((b.length + 15) / 16))) k
noncomputable def g19 (xs : List AV) : TL := match xs with
  | [.agg ks, .rb false b .unk] => asB 32 ks fun k => .ok ⟨[b.length < 1099511627776], aggB 16 (tagR k b), [], []⟩
  | _ => .no
noncomputable def sp19 : Spec := ⟨[.kp, .by0], fun _ _ => [], fun _ _ => [], fun xs bs => match bs with | [] => g19 xs | _ => .no⟩
end Go.Sym

namespace Go.Sym
open Go.Proofs Go.Spec
set_option linter.unusedVariables false
set_option maxRecDepth 100000 in
theorem vc19q (k : F8) (b : By) : bodyP Tryd.prog (U5c.withSym sym19) gl0 [] [(13, lsBq k b)] 6000 Tryd.f69 0 [aggB 32 k, .rb false b .unk] [] (retQ Tryd.prog Tryd.f69 0 (rt (aggB 16 (tagR k b)))) = (
let x1 := (0 : BitVec 8) = (0 : BitVec 8) ∧ (0 : BitVec 8) = (0 : BitVec 8) ∧ (0 : BitVec 8) = (0 : BitVec 8) ∧ (0 : BitVec 8) = (0 : BitVec 8) ∧ (0 : BitVec 8) = (0 : BitVec 8) ∧ (0 : BitVec 8) = (0 : BitVec 8) ∧ (0 : BitVec 8) = (0 : BitVec 8) ∧ (0 : BitVec 8) = (0 : BitVec 8) ∧ (0 : BitVec 8) = (0 : BitVec 8) ∧ (0 : BitVec 8) = (0 : BitVec 8) ∧ (0 : BitVec 8) = (0 : BitVec 8) ∧ (0 : BitVec 8) = (0 : BitVec 8) ∧ (0 : BitVec 8) = (0 : BitVec 8) ∧ (0 : BitVec 8) = (0 : BitVec 8) ∧ (0 : BitVec 8) = (0 : BitVec 8) ∧ (0 : BitVec 8) = (0 : BitVec 8) ∧ True; let x2 := dg (HN k b ((List.length b + 15) / 16)); let x3 := [AV.int IntKind.i64 (↑(k 0).toNat : Int), AV.int IntKind.i64 (↑(k 1).toNat : Int), AV.int IntKind.i64 (↑(k 2).toNat : Int), AV.int IntKind.i64 ((↑(k 3).toNat : Int).tmod (16 : Int)), AV.int IntKind.i64 (IntKind.i64.wrap (IntKind.i64.wrap ((↑(k 4).toNat : Int).tdiv (4 : Int)) * (4 : Int))), AV.int IntKind.i64 (↑(k 5).toNat : Int), AV.int IntKind.i64 (↑(k 6).toNat : Int), AV.int IntKind.i64 ((↑(k 7).toNat : Int).tmod (16 : Int)), AV.int IntKind.i64 (IntKind.i64.wrap (IntKind.i64.wrap ((↑(k 8).toNat : Int).tdiv (4 : Int)) * (4 : Int))), AV.int IntKind.i64 (↑(k 9).toNat : Int), AV.int IntKind.i64 (↑(k 10).toNat : Int), AV.int IntKind.i64 ((↑(k 11).toNat : Int).tmod (16 : Int)), AV.int IntKind.i64 (IntKind.i64.wrap (IntKind.i64.wrap ((↑(k 12).toNat : Int).tdiv (4 : Int)) * (4 : Int))), AV.int IntKind.i64 (↑(k 13).toNat : Int), AV.int IntKind.i64 (↑(k 14).toNat : Int), AV.int IntKind.i64 ((↑(k 15).toNat : Int).tmod (16 : Int))]; let x4 := (0 : BitVec 8) = BitVec.ofNat 8 0; (0 : Int) ≤ (0 : Int) ∧ (0 : Int) ≤ (0 : Int) ∧ (0 : Int) ≤ Int.ofNat 1 ∧ (0 : Int) ≤ Int.ofNat 1 ∧ (0 : Int) ≤ Int.ofNat 2 ∧ (0 : Int) ≤ Int.ofNat 2 ∧ (0 : Int) ≤ Int.ofNat 3 ∧ (0 : Int) ≤ Int.ofNat 3 ∧ (0 : Int) ≤ Int.ofNat 3 ∧ (0 : Int) ≤ Int.ofNat 3 ∧ (0 : Int) ≤ Int.ofNat 4 ∧ (0 : Int) ≤ Int.ofNat 4 ∧ (0 : Int) ≤ Int.ofNat 4 ∧ (0 : Int) ≤ Int.ofNat 4 ∧ (0 : Int) ≤ Int.ofNat 5 ∧ (0 : Int) ≤ Int.ofNat 5 ∧ (0 : Int) ≤ Int.ofNat 6 ∧ (0 : Int) ≤ Int.ofNat 6 ∧ (0 : Int) ≤ Int.ofNat 7 ∧ (0 : Int) ≤ Int.ofNat 7 ∧ (0 : Int) ≤ Int.ofNat 7 ∧ (0 : Int) ≤ Int.ofNat 7 ∧ (0 : Int) ≤ Int.ofNat 8 ∧ (0 : Int) ≤ Int.ofNat 8 ∧ (0 : Int) ≤ Int.ofNat 8 ∧ (0 : Int) ≤ Int.ofNat 8 ∧ (0 : Int) ≤ Int.ofNat 9 ∧ (0 : Int) ≤ Int.ofNat 9 ∧ (0 : Int) ≤ Int.ofNat 10 ∧ (0 : Int) ≤ Int.ofNat 10 ∧ (0 : Int) ≤ Int.ofNat 11 ∧ (0 : Int) ≤ Int.ofNat 11 ∧ (0 : Int) ≤ Int.ofNat 11 ∧ (0 : Int) ≤ Int.ofNat 11 ∧ (0 : Int) ≤ Int.ofNat 12 ∧ (0 : Int) ≤ Int.ofNat 12 ∧ (0 : Int) ≤ Int.ofNat 12 ∧ (0 : Int) ≤ Int.ofNat 12 ∧ (0 : Int) ≤ Int.ofNat 13 ∧ (0 : Int) ≤ Int.ofNat 13 ∧ (0 : Int) ≤ Int.ofNat 14 ∧ (0 : Int) ≤ Int.ofNat 14 ∧ (0 : Int) ≤ Int.ofNat 15 ∧ (0 : Int) ≤ Int.ofNat 15 ∧ (0 : Int) ≤ Int.ofNat 15 ∧ (0 : Int) ≤ Int.ofNat 15 ∧ (∃ (x : Nat), (16 * x).succ.le (List.length b + 16) ∧ b = b ∧ 0 = 0 ∧ 0 = 0 ∧ 0 = 0 ∧ 0 = 0 ∧ (↑(16 * x) : Int) = (0 : Int) ∧ k 0 = k 0 ∧ k 1 = k 1 ∧ k 2 = k 2 ∧ k 3 = k 3 ∧ k 4 = k 4 ∧ k 5 = k 5 ∧ k 6 = k 6 ∧ k 7 = k 7 ∧ k 8 = k 8 ∧ k 9 = k 9 ∧ k 10 = k 10 ∧ k 11 = k 11 ∧ k 12 = k 12 ∧ k 13 = k 13 ∧ k 14 = k 14 ∧ k 15 = k 15 ∧ k 16 = k 16 ∧ k 17 = k 17 ∧ k 18 = k 18 ∧ k 19 = k 19 ∧ k 20 = k 20 ∧ k 21 = k 21 ∧ k 22 = k 22 ∧ k 23 = k 23 ∧ k 24 = k 24 ∧ k 25 = k 25 ∧ k 26 = k 26 ∧ k 27 = k 27 ∧ k 28 = k 28 ∧ k 29 = k 29 ∧ k 30 = k 30 ∧ k 31 = k 31 ∧ 16 = x3.length ∧ (∀ (y : Nat), y < 16 → datas Bool.false [AV.int IntKind.i64 (↑(rN k y) : Int)] = Bool.true ∧ cut 1 x3 y = [AV.int IntKind.i64 (↑(rN k y) : Int)]) ∧ 17 = 17 ∧ (∀ (y : Nat), y < 17 → datas Bool.false [AV.int IntKind.i64 (↑(dg (HN k b x) y) : Int)] = Bool.true ∧ [AV.int IntKind.i64 (0 : Int)] = [AV.int IntKind.i64 (↑(dg (HN k b x) y) : Int)]) ∧ x4 ∧ x4 ∧ x4 ∧ x4 ∧ x4 ∧ x4 ∧ x4 ∧ x4 ∧ x4 ∧ x4 ∧ x4 ∧ x4 ∧ x4 ∧ x4 ∧ x4 ∧ x4 ∧ True) ∧ ∀ (x : Nat), let x1_1 := IntKind.i64.wrap (IntKind.i64.wrap ((↑(dg (HN k b x) 7) : Int) + (↑(k 23).toNat : Int)) + IntKind.i64.wrap ((IntKind.i64.wrap (IntKind.i64.wrap ((↑(dg (HN k b x) 6) : Int) + (↑(k 22).toNat : Int)) + IntKind.i64.wrap ((IntKind.i64.wrap (IntKind.i64.wrap ((↑(dg (HN k b x) 5) : Int) + (↑(k 21).toNat : Int)) + IntKind.i64.wrap ((IntKind.i64.wrap (IntKind.i64.wrap ((↑(dg (HN k b x) 4) : Int) + (↑(k 20).toNat : Int)) + IntKind.i64.wrap ((IntKind.i64.wrap (IntKind.i64.wrap ((↑(dg (HN k b x) 3) : Int) + (↑(k 19).toNat : Int)) + IntKind.i64.wrap ((IntKind.i64.wrap (IntKind.i64.wrap ((↑(dg (HN k b x) 2) : Int) + (↑(k 18).toNat : Int)) + IntKind.i64.wrap ((IntKind.i64.wrap (IntKind.i64.wrap ((↑(dg (HN k b x) 1) : Int) + (↑(k 17).toNat : Int)) + IntKind.i64.wrap ((IntKind.i64.wrap (IntKind.i64.wrap ((↑(dg (HN k b x) 0) : Int) + (↑(k 16).toNat : Int)) + (0 : Int))).tdiv (256 : Int)))).tdiv (256 : Int)))).tdiv (256 : Int)))).tdiv (256 : Int)))).tdiv (256 : Int)))).tdiv (256 : Int)))).tdiv (256 : Int))); let x2_1 := IntKind.i64.wrap (IntKind.i64.wrap ((↑(dg (HN k b x) 11) : Int) + (↑(k 27).toNat : Int)) + IntKind.i64.wrap ((IntKind.i64.wrap (IntKind.i64.wrap ((↑(dg (HN k b x) 10) : Int) + (↑(k 26).toNat : Int)) + IntKind.i64.wrap ((IntKind.i64.wrap (IntKind.i64.wrap ((↑(dg (HN k b x) 9) : Int) + (↑(k 25).toNat : Int)) + IntKind.i64.wrap ((IntKind.i64.wrap (IntKind.i64.wrap ((↑(dg (HN k b x) 8) : Int) + (↑(k 24).toNat : Int)) + IntKind.i64.wrap (x1_1.tdiv (256 : Int)))).tdiv (256 : Int)))).tdiv (256 : Int)))).tdiv (256 : Int))); let x3 := IntKind.i64.wrap (IntKind.i64.wrap ((↑(dg (HN k b x) 3) : Int) + (↑(k 19).toNat : Int)) + IntKind.i64.wrap ((IntKind.i64.wrap (IntKind.i64.wrap ((↑(dg (HN k b x) 2) : Int) + (↑(k 18).toNat : Int)) + IntKind.i64.wrap ((IntKind.i64.wrap (IntKind.i64.wrap ((↑(dg (HN k b x) 1) : Int) + (↑(k 17).toNat : Int)) + IntKind.i64.wrap ((IntKind.i64.wrap (IntKind.i64.wrap ((↑(dg (HN k b x) 0) : Int) + (↑(k 16).toNat : Int)) + (0 : Int))).tdiv (256 : Int)))).tdiv (256 : Int)))).tdiv (256 : Int))); let x4 := Min.min ((↑(List.length b) : Int) - (↑(16 * x) : Int)) (16 : Int); let x5 := IntKind.i64.wrap (IntKind.i64.wrap ((↑(dg (HN k b x) 13) : Int) + (↑(k 29).toNat : Int)) + IntKind.i64.wrap ((IntKind.i64.wrap (IntKind.i64.wrap ((↑(dg (HN k b x) 12) : Int) + (↑(k 28).toNat : Int)) + IntKind.i64.wrap (x2_1.tdiv (256 : Int)))).tdiv (256 : Int))); let x6 := (↑(16 * x) : Int) = (↑(16 * x) : Int); let x7 := IntKind.i64.wrap (IntKind.i64.wrap ((↑(dg (HN k b x) 8) : Int) + (↑(k 24).toNat : Int)) + IntKind.i64.wrap (x1_1.tdiv (256 : Int))); let x8 := IntKind.i64.wrap (IntKind.i64.wrap ((↑(dg (HN k b x) 4) : Int) + (↑(k 20).toNat : Int)) + IntKind.i64.wrap (x3.tdiv (256 : Int))); let x9 := IntKind.i64.wrap (IntKind.i64.wrap ((↑(dg (HN k b x) 1) : Int) + (↑(k 17).toNat : Int)) + IntKind.i64.wrap ((IntKind.i64.wrap (IntKind.i64.wrap ((↑(dg (HN k b x) 0) : Int) + (↑(k 16).toNat : Int)) + (0 : Int))).tdiv (256 : Int))); (16 * x).succ.le (List.length b + 16) → @Bool.rec (fun _ => Prop) ((0 : Int) ≤ (0 : Int) ∧ 1 ≤ 17 ∧ (0 : Int) ≤ Int.ofNat 16 ∧ (0 : Int) ≤ (0 : Int) ∧ (0 : Int) ≤ Int.ofNat 1 ∧ 2 ≤ 17 ∧ (0 : Int) ≤ Int.ofNat 17 ∧ (0 : Int) ≤ Int.ofNat 1 ∧ (0 : Int) ≤ Int.ofNat 2 ∧ 3 ≤ 17 ∧ (0 : Int) ≤ Int.ofNat 18 ∧ (0 : Int) ≤ Int.ofNat 2 ∧ (0 : Int) ≤ Int.ofNat 3 ∧ 4 ≤ 17 ∧ (0 : Int) ≤ Int.ofNat 19 ∧ (0 : Int) ≤ Int.ofNat 3 ∧ (0 : Int) ≤ Int.ofNat 4 ∧ 5 ≤ 17 ∧ (0 : Int) ≤ Int.ofNat 20 ∧ (0 : Int) ≤ Int.ofNat 4 ∧ (0 : Int) ≤ Int.ofNat 5 ∧ 6 ≤ 17 ∧ (0 : Int) ≤ Int.ofNat 21 ∧ (0 : Int) ≤ Int.ofNat 5 ∧ (0 : Int) ≤ Int.ofNat 6 ∧ 7 ≤ 17 ∧ (0 : Int) ≤ Int.ofNat 22 ∧ (0 : Int) ≤ Int.ofNat 6 ∧ (0 : Int) ≤ Int.ofNat 7 ∧ 8 ≤ 17 ∧ (0 : Int) ≤ Int.ofNat 23 ∧ (0 : Int) ≤ Int.ofNat 7 ∧ (0 : Int) ≤ Int.ofNat 8 ∧ 9 ≤ 17 ∧ (0 : Int) ≤ Int.ofNat 24 ∧ (0 : Int) ≤ Int.ofNat 8 ∧ (0 : Int) ≤ Int.ofNat 9 ∧ 10 ≤ 17 ∧ (0 : Int) ≤ Int.ofNat 25 ∧ (0 : Int) ≤ Int.ofNat 9 ∧ (0 : Int) ≤ Int.ofNat 10 ∧ 11 ≤ 17 ∧ (0 : Int) ≤ Int.ofNat 26 ∧ (0 : Int) ≤ Int.ofNat 10 ∧ (0 : Int) ≤ Int.ofNat 11 ∧ 12 ≤ 17 ∧ (0 : Int) ≤ Int.ofNat 27 ∧ (0 : Int) ≤ Int.ofNat 11 ∧ (0 : Int) ≤ Int.ofNat 12 ∧ 13 ≤ 17 ∧ (0 : Int) ≤ Int.ofNat 28 ∧ (0 : Int) ≤ Int.ofNat 12 ∧ (0 : Int) ≤ Int.ofNat 13 ∧ 14 ≤ 17 ∧ (0 : Int) ≤ Int.ofNat 29 ∧ (0 : Int) ≤ Int.ofNat 13 ∧ (0 : Int) ≤ Int.ofNat 14 ∧ 15 ≤ 17 ∧ (0 : Int) ≤ Int.ofNat 30 ∧ (0 : Int) ≤ Int.ofNat 14 ∧ (0 : Int) ≤ Int.ofNat 15 ∧ 16 ≤ 17 ∧ (0 : Int) ≤ Int.ofNat 31 ∧ (0 : Int) ≤ Int.ofNat 15 ∧ outR x2 k 0 = BitVec.ofInt 8 ((IntKind.i64.wrap (IntKind.i64.wrap ((↑(dg (HN k b x) 0) : Int) + (↑(k 16).toNat : Int)) + (0 : Int))).tmod (256 : Int)) ∧ outR x2 k 1 = BitVec.ofInt 8 (x9.tmod (256 : Int)) ∧ outR x2 k 2 = BitVec.ofInt 8 ((IntKind.i64.wrap (IntKind.i64.wrap ((↑(dg (HN k b x) 2) : Int) + (↑(k 18).toNat : Int)) + IntKind.i64.wrap (x9.tdiv (256 : Int)))).tmod (256 : Int)) ∧ outR x2 k 3 = BitVec.ofInt 8 (x3.tmod (256 : Int)) ∧ outR x2 k 4 = BitVec.ofInt 8 (x8.tmod (256 : Int)) ∧ outR x2 k 5 = BitVec.ofInt 8 ((IntKind.i64.wrap (IntKind.i64.wrap ((↑(dg (HN k b x) 5) : Int) + (↑(k 21).toNat : Int)) + IntKind.i64.wrap (x8.tdiv (256 : Int)))).tmod (256 : Int)) ∧ outR x2 k 6 = BitVec.ofInt 8 ((IntKind.i64.wrap (IntKind.i64.wrap ((↑(dg (HN k b x) 6) : Int) + (↑(k 22).toNat : Int)) + IntKind.i64.wrap ((IntKind.i64.wrap (IntKind.i64.wrap ((↑(dg (HN k b x) 5) : Int) + (↑(k 21).toNat : Int)) + IntKind.i64.wrap (x8.tdiv (256 : Int)))).tdiv (256 : Int)))).tmod (256 : Int)) ∧ outR x2 k 7 = BitVec.ofInt 8 (x1_1.tmod (256 : Int)) ∧ outR x2 k 8 = BitVec.ofInt 8 (x7.tmod (256 : Int)) ∧ outR x2 k 9 = BitVec.ofInt 8 ((IntKind.i64.wrap (IntKind.i64.wrap ((↑(dg (HN k b x) 9) : Int) + (↑(k 25).toNat : Int)) + IntKind.i64.wrap (x7.tdiv (256 : Int)))).tmod (256 : Int)) ∧ outR x2 k 10 = BitVec.ofInt 8 ((IntKind.i64.wrap (IntKind.i64.wrap ((↑(dg (HN k b x) 10) : Int) + (↑(k 26).toNat : Int)) + IntKind.i64.wrap ((IntKind.i64.wrap (IntKind.i64.wrap ((↑(dg (HN k b x) 9) : Int) + (↑(k 25).toNat : Int)) + IntKind.i64.wrap (x7.tdiv (256 : Int)))).tdiv (256 : Int)))).tmod (256 : Int)) ∧ outR x2 k 11 = BitVec.ofInt 8 (x2_1.tmod (256 : Int)) ∧ outR x2 k 12 = BitVec.ofInt 8 ((IntKind.i64.wrap (IntKind.i64.wrap ((↑(dg (HN k b x) 12) : Int) + (↑(k 28).toNat : Int)) + IntKind.i64.wrap (x2_1.tdiv (256 : Int)))).tmod (256 : Int)) ∧ outR x2 k 13 = BitVec.ofInt 8 (x5.tmod (256 : Int)) ∧ outR x2 k 14 = BitVec.ofInt 8 ((IntKind.i64.wrap (IntKind.i64.wrap ((↑(dg (HN k b x) 14) : Int) + (↑(k 30).toNat : Int)) + IntKind.i64.wrap (x5.tdiv (256 : Int)))).tmod (256 : Int)) ∧ outR x2 k 15 = BitVec.ofInt 8 ((IntKind.i64.wrap (IntKind.i64.wrap ((↑(dg (HN k b x) 15) : Int) + (↑(k 31).toNat : Int)) + IntKind.i64.wrap ((IntKind.i64.wrap (IntKind.i64.wrap ((↑(dg (HN k b x) 14) : Int) + (↑(k 30).toNat : Int)) + IntKind.i64.wrap (x5.tdiv (256 : Int)))).tdiv (256 : Int)))).tmod (256 : Int)) ∧ True) ((∃ (x_1 : Nat), (x4 - (↑x_1 : Int)).NonNeg ∧ b = b ∧ 0 = 0 ∧ 0 = 0 ∧ 0 = 0 ∧ 0 = 0 ∧ x6 ∧ x4 = Min.min (IntKind.i64.wrap ((↑(List.length b) : Int) - (↑(16 * x) : Int))) (16 : Int) ∧ (↑x_1 : Int) = (0 : Int) ∧ k 0 = k 0 ∧ k 1 = k 1 ∧ k 2 = k 2 ∧ k 3 = k 3 ∧ k 4 = k 4 ∧ k 5 = k 5 ∧ k 6 = k 6 ∧ k 7 = k 7 ∧ k 8 = k 8 ∧ k 9 = k 9 ∧ k 10 = k 10 ∧ k 11 = k 11 ∧ k 12 = k 12 ∧ k 13 = k 13 ∧ k 14 = k 14 ∧ k 15 = k 15 ∧ k 16 = k 16 ∧ k 17 = k 17 ∧ k 18 = k 18 ∧ k 19 = k 19 ∧ k 20 = k 20 ∧ k 21 = k 21 ∧ k 22 = k 22 ∧ k 23 = k 23 ∧ k 24 = k 24 ∧ k 25 = k 25 ∧ k 26 = k 26 ∧ k 27 = k 27 ∧ k 28 = k 28 ∧ k 29 = k 29 ∧ k 30 = k 30 ∧ k 31 = k 31 ∧ 16 = 16 ∧ (∀ (y : Nat), y < 16 → datas Bool.false [AV.int IntKind.i64 (↑(rN k y) : Int)] = Bool.true ∧ [AV.int IntKind.i64 (↑(rN k y) : Int)] = [AV.int IntKind.i64 (↑(rN k y) : Int)]) ∧ 17 = 17 ∧ (∀ (y : Nat), y < 17 → datas Bool.false [AV.int IntKind.i64 (↑(hI (HN k b x) b x x_1 y) : Int)] = Bool.true ∧ [AV.int IntKind.i64 (↑(dg (HN k b x) y) : Int)] = [AV.int IntKind.i64 (↑(hI (HN k b x) b x x_1 y) : Int)]) ∧ x1) ∧ ∀ (x_1 : Nat), (x4 - (↑x_1 : Int)).NonNeg → @Bool.rec (fun _ => Prop) ((0 : Int) ≤ x4 ∧ x4.toNat < 17 ∧ x4.toNat < 17 ∧ IntKind.i64 = IntKind.i64 ∧ (0 : Int) ≤ x4 ∧ x4.toNat < 17 ∧ x4.toNat < 17 ∧ [AV.int IntKind.i64 (↑(hI (HN k b x) b x x_1 x4.toNat) : Int)].length = 1 ∧ (∃ (x_2 : Nat), x_2.le 17 ∧ b = b ∧ 0 = 0 ∧ 0 = 0 ∧ 0 = 0 ∧ 0 = 0 ∧ x6 ∧ 0 = 0 ∧ (↑x_2 : Int) = (0 : Int) ∧ k 0 = k 0 ∧ k 1 = k 1 ∧ k 2 = k 2 ∧ k 3 = k 3 ∧ k 4 = k 4 ∧ k 5 = k 5 ∧ k 6 = k 6 ∧ k 7 = k 7 ∧ k 8 = k 8 ∧ k 9 = k 9 ∧ k 10 = k 10 ∧ k 11 = k 11 ∧ k 12 = k 12 ∧ k 13 = k 13 ∧ k 14 = k 14 ∧ k 15 = k 15 ∧ k 16 = k 16 ∧ k 17 = k 17 ∧ k 18 = k 18 ∧ k 19 = k 19 ∧ k 20 = k 20 ∧ k 21 = k 21 ∧ k 22 = k 22 ∧ k 23 = k 23 ∧ k 24 = k 24 ∧ k 25 = k 25 ∧ k 26 = k 26 ∧ k 27 = k 27 ∧ k 28 = k 28 ∧ k 29 = k 29 ∧ k 30 = k 30 ∧ k 31 = k 31 ∧ 16 = 16 ∧ (∀ (y : Nat), y < 16 → datas Bool.false [AV.int IntKind.i64 (↑(rN k y) : Int)] = Bool.true ∧ [AV.int IntKind.i64 (↑(rN k y) : Int)] = [AV.int IntKind.i64 (↑(rN k y) : Int)]) ∧ 17 = 17 ∧ (∀ (y : Nat), y < 17 → datas Bool.false [AV.int IntKind.i64 (↑(hP (HN k b x) b x y) : Int)] = Bool.true ∧ (bif y == x4.toNat then [AV.int IntKind.i64 (IntKind.i64.wrap ((if IntKind.i64 = IntKind.i64 then (↑(hI (HN k b x) b x x_1 x4.toNat) : Int) else (0 : Int)) + (1 : Int)))] else [AV.int IntKind.i64 (↑(hI (HN k b x) b x x_1 y) : Int)]) = [AV.int IntKind.i64 (↑(hP (HN k b x) b x y) : Int)]) ∧ (0 : BitVec 8) = (0 : BitVec 8) ∧ (0 : BitVec 8) = (0 : BitVec 8) ∧ (0 : BitVec 8) = (0 : BitVec 8) ∧ (0 : BitVec 8) = (0 : BitVec 8) ∧ (0 : BitVec 8) = (0 : BitVec 8) ∧ (0 : BitVec 8) = (0 : BitVec 8) ∧ (0 : BitVec 8) = (0 : BitVec 8) ∧ (0 : BitVec 8) = (0 : BitVec 8) ∧ (0 : BitVec 8) = (0 : BitVec 8) ∧ (0 : BitVec 8) = (0 : BitVec 8) ∧ (0 : BitVec 8) = (0 : BitVec 8) ∧ (0 : BitVec 8) = (0 : BitVec 8) ∧ (0 : BitVec 8) = (0 : BitVec 8) ∧ (0 : BitVec 8) = (0 : BitVec 8) ∧ (0 : BitVec 8) = (0 : BitVec 8) ∧ (0 : BitVec 8) = (0 : BitVec 8) ∧ 40 = 40 ∧ (∀ (y : Nat), y < 40 → datas Bool.false [AV.int IntKind.i64 (↑(pl (hP (HN k b x) b x) (rN k) x_2 y) : Int)] = Bool.true ∧ [AV.int IntKind.i64 (0 : Int)] = [AV.int IntKind.i64 (↑(pl (hP (HN k b x) b x) (rN k) x_2 y) : Int)]) ∧ True) ∧ ∀ (x_2 : Nat), let x1_2 := VL (have y := have y := have y := [(↑(pl (hP (HN k b x) b x) (rN k) x_2 35) : Int), (↑(pl (hP (HN k b x) b x) (rN k) x_2 36) : Int), (↑(pl (hP (HN k b x) b x) (rN k) x_2 37) : Int), (↑(pl (hP (HN k b x) b x) (rN k) x_2 38) : Int), (↑(pl (hP (HN k b x) b x) (rN k) x_2 39) : Int)]; (↑(pl (hP (HN k b x) b x) (rN k) x_2 30) : Int) :: (↑(pl (hP (HN k b x) b x) (rN k) x_2 31) : Int) :: (↑(pl (hP (HN k b x) b x) (rN k) x_2 32) : Int) :: (↑(pl (hP (HN k b x) b x) (rN k) x_2 33) : Int) :: (↑(pl (hP (HN k b x) b x) (rN k) x_2 34) : Int) :: y; have y := (↑(pl (hP (HN k b x) b x) (rN k) x_2 25) : Int) :: (↑(pl (hP (HN k b x) b x) (rN k) x_2 26) : Int) :: (↑(pl (hP (HN k b x) b x) (rN k) x_2 27) : Int) :: (↑(pl (hP (HN k b x) b x) (rN k) x_2 28) : Int) :: (↑(pl (hP (HN k b x) b x) (rN k) x_2 29) : Int) :: y; (↑(pl (hP (HN k b x) b x) (rN k) x_2 20) : Int) :: (↑(pl (hP (HN k b x) b x) (rN k) x_2 21) : Int) :: (↑(pl (hP (HN k b x) b x) (rN k) x_2 22) : Int) :: (↑(pl (hP (HN k b x) b x) (rN k) x_2 23) : Int) :: (↑(pl (hP (HN k b x) b x) (rN k) x_2 24) : Int) :: y; have y := have y := (↑(pl (hP (HN k b x) b x) (rN k) x_2 15) : Int) :: (↑(pl (hP (HN k b x) b x) (rN k) x_2 16) : Int) :: (↑(pl (hP (HN k b x) b x) (rN k) x_2 17) : Int) :: (↑(pl (hP (HN k b x) b x) (rN k) x_2 18) : Int) :: (↑(pl (hP (HN k b x) b x) (rN k) x_2 19) : Int) :: y; (↑(pl (hP (HN k b x) b x) (rN k) x_2 10) : Int) :: (↑(pl (hP (HN k b x) b x) (rN k) x_2 11) : Int) :: (↑(pl (hP (HN k b x) b x) (rN k) x_2 12) : Int) :: (↑(pl (hP (HN k b x) b x) (rN k) x_2 13) : Int) :: (↑(pl (hP (HN k b x) b x) (rN k) x_2 14) : Int) :: y; have y := (↑(pl (hP (HN k b x) b x) (rN k) x_2 5) : Int) :: (↑(pl (hP (HN k b x) b x) (rN k) x_2 6) : Int) :: (↑(pl (hP (HN k b x) b x) (rN k) x_2 7) : Int) :: (↑(pl (hP (HN k b x) b x) (rN k) x_2 8) : Int) :: (↑(pl (hP (HN k b x) b x) (rN k) x_2 9) : Int) :: y; (↑(pl (hP (HN k b x) b x) (rN k) x_2 0) : Int) :: (↑(pl (hP (HN k b x) b x) (rN k) x_2 1) : Int) :: (↑(pl (hP (HN k b x) b x) (rN k) x_2 2) : Int) :: (↑(pl (hP (HN k b x) b x) (rN k) x_2 3) : Int) :: (↑(pl (hP (HN k b x) b x) (rN k) x_2 4) : Int) :: y) % 1361129467683753853853498429727072845819; let x2 := [(↑(pl (hP (HN k b x) b x) (rN k) x_2 35) : Int), (↑(pl (hP (HN k b x) b x) (rN k) x_2 36) : Int), (↑(pl (hP (HN k b x) b x) (rN k) x_2 37) : Int), (↑(pl (hP (HN k b x) b x) (rN k) x_2 38) : Int), (↑(pl (hP (HN k b x) b x) (rN k) x_2 39) : Int)]; let x3 := [AV.int IntKind.i64 (↑(dg x1_2 0) : Int), AV.int IntKind.i64 (↑(dg x1_2 1) : Int), AV.int IntKind.i64 (↑(dg x1_2 2) : Int), AV.int IntKind.i64 (↑(dg x1_2 3) : Int), AV.int IntKind.i64 (↑(dg x1_2 4) : Int), AV.int IntKind.i64 (↑(dg x1_2 5) : Int), AV.int IntKind.i64 (↑(dg x1_2 6) : Int), AV.int IntKind.i64 (↑(dg x1_2 7) : Int), AV.int IntKind.i64 (↑(dg x1_2 8) : Int), AV.int IntKind.i64 (↑(dg x1_2 9) : Int), AV.int IntKind.i64 (↑(dg x1_2 10) : Int), AV.int IntKind.i64 (↑(dg x1_2 11) : Int), AV.int IntKind.i64 (↑(dg x1_2 12) : Int), AV.int IntKind.i64 (↑(dg x1_2 13) : Int), AV.int IntKind.i64 (↑(dg x1_2 14) : Int), AV.int IntKind.i64 (↑(dg x1_2 15) : Int), AV.int IntKind.i64 (↑(dg x1_2 16) : Int)]; let x4 := (↑(pl (hP (HN k b x) b x) (rN k) x_2 16) : Int); let x5 := (↑(pl (hP (HN k b x) b x) (rN k) x_2 6) : Int); let x6_1 := (↑(pl (hP (HN k b x) b x) (rN k) x_2 20) : Int); let x7 := (↑(pl (hP (HN k b x) b x) (rN k) x_2 25) : Int); let x8 := (↑(pl (hP (HN k b x) b x) (rN k) x_2 24) : Int); let x9 := (↑(pl (hP (HN k b x) b x) (rN k) x_2 28) : Int); let x10 := (↑(pl (hP (HN k b x) b x) (rN k) x_2 31) : Int); let x11 := (↑(pl (hP (HN k b x) b x) (rN k) x_2 11) : Int); let x12 := (↑(pl (hP (HN k b x) b x) (rN k) x_2 22) : Int); let x13 := (↑(pl (hP (HN k b x) b x) (rN k) x_2 29) : Int); let x14 := (↑(pl (hP (HN k b x) b x) (rN k) x_2 14) : Int); let x15 := (↑(pl (hP (HN k b x) b x) (rN k) x_2 9) : Int); let x16 := (↑(pl (hP (HN k b x) b x) (rN k) x_2 26) : Int); let x17 := (↑(pl (hP (HN k b x) b x) (rN k) x_2 0) : Int); let x18 := (↑(pl (hP (HN k b x) b x) (rN k) x_2 32) : Int); let x19 := (↑(pl (hP (HN k b x) b x) (rN k) x_2 27) : Int); let x20 := (↑(pl (hP (HN k b x) b x) (rN k) x_2 21) : Int); let x21 := (↑(pl (hP (HN k b x) b x) (rN k) x_2 4) : Int); let x22 := (↑(pl (hP (HN k b x) b x) (rN k) x_2 10) : Int); let x23 := (↑(pl (hP (HN k b x) b x) (rN k) x_2 33) : Int); let x24 := (↑(pl (hP (HN k b x) b x) (rN k) x_2 2) : Int); let x25 := (↑(pl (hP (HN k b x) b x) (rN k) x_2 34) : Int); let x26 := (↑(pl (hP (HN k b x) b x) (rN k) x_2 30) : Int); let x27 := (↑(pl (hP (HN k b x) b x) (rN k) x_2 13) : Int); let x28 := (↑(pl (hP (HN k b x) b x) (rN k) x_2 17) : Int); let x29 := (↑(pl (hP (HN k b x) b x) (rN k) x_2 18) : Int); let x30 := (↑(pl (hP (HN k b x) b x) (rN k) x_2 19) : Int); let x31 := (↑(pl (hP (HN k b x) b x) (rN k) x_2 12) : Int); let x32 := (↑(pl (hP (HN k b x) b x) (rN k) x_2 8) : Int); let x33 := (↑(pl (hP (HN k b x) b x) (rN k) x_2 3) : Int); let x34 := (↑(pl (hP (HN k b x) b x) (rN k) x_2 7) : Int); let x35 := (↑(pl (hP (HN k b x) b x) (rN k) x_2 5) : Int); let x36 := (↑(pl (hP (HN k b x) b x) (rN k) x_2 15) : Int); let x37 := (↑(pl (hP (HN k b x) b x) (rN k) x_2 23) : Int); let x38 := (↑(pl (hP (HN k b x) b x) (rN k) x_2 1) : Int); x_2.le 17 → @Bool.rec (fun _ => Prop) (40 ≤ 40 ∧ ((∀ (i : Nat), let x1 := (have y := have y := have y := x2; x26 :: x10 :: x18 :: x23 :: x25 :: y; have y := x7 :: x16 :: x19 :: x9 :: x13 :: y; x6_1 :: x20 :: x12 :: x37 :: x8 :: y; have y := have y := x36 :: x4 :: x28 :: x29 :: x30 :: y; x22 :: x11 :: x31 :: x27 :: x14 :: y; have y := x35 :: x5 :: x34 :: x32 :: x15 :: y; x17 :: x38 :: x24 :: x33 :: x21 :: y).getD i (0 : Int); i < 40 → (0 : Int) ≤ x1 ∧ x1 < (8388608 : Int)) ∧ (have y := have y := have y := x2; x26 :: x10 :: x18 :: x23 :: x25 :: y; have y := x7 :: x16 :: x19 :: x9 :: x13 :: y; x6_1 :: x20 :: x12 :: x37 :: x8 :: y; have y := have y := x36 :: x4 :: x28 :: x29 :: x30 :: y; x22 :: x11 :: x31 :: x27 :: x14 :: y; have y := x35 :: x5 :: x34 :: x32 :: x15 :: y; x17 :: x38 :: x24 :: x33 :: x21 :: y).getD 39 (0 : Int) = (0 : Int) ∧ (have y := have y := have y := x2; x26 :: x10 :: x18 :: x23 :: x25 :: y; have y := x7 :: x16 :: x19 :: x9 :: x13 :: y; x6_1 :: x20 :: x12 :: x37 :: x8 :: y; have y := have y := x36 :: x4 :: x28 :: x29 :: x30 :: y; x22 :: x11 :: x31 :: x27 :: x14 :: y; have y := x35 :: x5 :: x34 :: x32 :: x15 :: y; x17 :: x38 :: x24 :: x33 :: x21 :: y).getD 38 (0 : Int) = (0 : Int)) ∧ x3.length = 17 ∧ (∀ (y : Nat), y < 17 → [AV.int IntKind.i64 (↑(hP (HN k b x) b x y) : Int)].length = 1) ∧ ∃ (y : Nat), List.length b + 1 - y < List.length b + 1 - x ∧ (16 * y).succ.le (List.length b + 16) ∧ b = b ∧ 0 = 0 ∧ 0 = 0 ∧ 0 = 0 ∧ 0 = 0 ∧ (↑(16 * y) : Int) = IntKind.i64.wrap ((↑(16 * x) : Int) + (16 : Int)) ∧ k 0 = k 0 ∧ k 1 = k 1 ∧ k 2 = k 2 ∧ k 3 = k 3 ∧ k 4 = k 4 ∧ k 5 = k 5 ∧ k 6 = k 6 ∧ k 7 = k 7 ∧ k 8 = k 8 ∧ k 9 = k 9 ∧ k 10 = k 10 ∧ k 11 = k 11 ∧ k 12 = k 12 ∧ k 13 = k 13 ∧ k 14 = k 14 ∧ k 15 = k 15 ∧ k 16 = k 16 ∧ k 17 = k 17 ∧ k 18 = k 18 ∧ k 19 = k 19 ∧ k 20 = k 20 ∧ k 21 = k 21 ∧ k 22 = k 22 ∧ k 23 = k 23 ∧ k 24 = k 24 ∧ k 25 = k 25 ∧ k 26 = k 26 ∧ k 27 = k 27 ∧ k 28 = k 28 ∧ k 29 = k 29 ∧ k 30 = k 30 ∧ k 31 = k 31 ∧ 16 = 16 ∧ (∀ (y : Nat), y < 16 → datas Bool.false [AV.int IntKind.i64 (↑(rN k y) : Int)] = Bool.true ∧ [AV.int IntKind.i64 (↑(rN k y) : Int)] = [AV.int IntKind.i64 (↑(rN k y) : Int)]) ∧ 17 = 17 ∧ (∀ (y_1 : Nat), y_1 < 17 → datas Bool.false [AV.int IntKind.i64 (↑(dg (HN k b y) y_1) : Int)] = Bool.true ∧ [x3.getD y_1 AV.any] = [AV.int IntKind.i64 (↑(dg (HN k b y) y_1) : Int)]) ∧ x1) ((∃ (x_3 : Nat), x_3.le 16 ∧ b = b ∧ 0 = 0 ∧ 0 = 0 ∧ 0 = 0 ∧ 0 = 0 ∧ x6 ∧ 0 = 0 ∧ (↑x_2 : Int) = (↑x_2 : Int) ∧ (↑x_3 : Int) = (0 : Int) ∧ k 0 = k 0 ∧ k 1 = k 1 ∧ k 2 = k 2 ∧ k 3 = k 3 ∧ k 4 = k 4 ∧ k 5 = k 5 ∧ k 6 = k 6 ∧ k 7 = k 7 ∧ k 8 = k 8 ∧ k 9 = k 9 ∧ k 10 = k 10 ∧ k 11 = k 11 ∧ k 12 = k 12 ∧ k 13 = k 13 ∧ k 14 = k 14 ∧ k 15 = k 15 ∧ k 16 = k 16 ∧ k 17 = k 17 ∧ k 18 = k 18 ∧ k 19 = k 19 ∧ k 20 = k 20 ∧ k 21 = k 21 ∧ k 22 = k 22 ∧ k 23 = k 23 ∧ k 24 = k 24 ∧ k 25 = k 25 ∧ k 26 = k 26 ∧ k 27 = k 27 ∧ k 28 = k 28 ∧ k 29 = k 29 ∧ k 30 = k 30 ∧ k 31 = k 31 ∧ 16 = 16 ∧ (∀ (y : Nat), y < 16 → datas Bool.false [AV.int IntKind.i64 (↑(rN k y) : Int)] = Bool.true ∧ [AV.int IntKind.i64 (↑(rN k y) : Int)] = [AV.int IntKind.i64 (↑(rN k y) : Int)]) ∧ 17 = 17 ∧ (∀ (y : Nat), y < 17 → datas Bool.false [AV.int IntKind.i64 (↑(hP (HN k b x) b x y) : Int)] = Bool.true ∧ [AV.int IntKind.i64 (↑(hP (HN k b x) b x y) : Int)] = [AV.int IntKind.i64 (↑(hP (HN k b x) b x y) : Int)]) ∧ (0 : BitVec 8) = (0 : BitVec 8) ∧ (0 : BitVec 8) = (0 : BitVec 8) ∧ (0 : BitVec 8) = (0 : BitVec 8) ∧ (0 : BitVec 8) = (0 : BitVec 8) ∧ (0 : BitVec 8) = (0 : BitVec 8) ∧ (0 : BitVec 8) = (0 : BitVec 8) ∧ (0 : BitVec 8) = (0 : BitVec 8) ∧ (0 : BitVec 8) = (0 : BitVec 8) ∧ (0 : BitVec 8) = (0 : BitVec 8) ∧ (0 : BitVec 8) = (0 : BitVec 8) ∧ (0 : BitVec 8) = (0 : BitVec 8) ∧ (0 : BitVec 8) = (0 : BitVec 8) ∧ (0 : BitVec 8) = (0 : BitVec 8) ∧ (0 : BitVec 8) = (0 : BitVec 8) ∧ (0 : BitVec 8) = (0 : BitVec 8) ∧ (0 : BitVec 8) = (0 : BitVec 8) ∧ 40 = 40 ∧ (∀ (y : Nat), y < 40 → datas Bool.false [AV.int IntKind.i64 (↑(plJ (hP (HN k b x) b x) (rN k) x_2 x_3 y) : Int)] = Bool.true ∧ [AV.int IntKind.i64 (↑(pl (hP (HN k b x) b x) (rN k) x_2 y) : Int)] = [AV.int IntKind.i64 (↑(plJ (hP (HN k b x) b x) (rN k) x_2 x_3 y) : Int)]) ∧ True) ∧ ∀ (x_3 : Nat), x_3.le 16 → @Bool.rec (fun _ => Prop) (∃ (y : Nat), 18 - y < 18 - x_2 ∧ y.le 17 ∧ b = b ∧ 0 = 0 ∧ 0 = 0 ∧ 0 = 0 ∧ 0 = 0 ∧ x6 ∧ 0 = 0 ∧ (↑y : Int) = IntKind.i64.wrap ((↑x_2 : Int) + (1 : Int)) ∧ k 0 = k 0 ∧ k 1 = k 1 ∧ k 2 = k 2 ∧ k 3 = k 3 ∧ k 4 = k 4 ∧ k 5 = k 5 ∧ k 6 = k 6 ∧ k 7 = k 7 ∧ k 8 = k 8 ∧ k 9 = k 9 ∧ k 10 = k 10 ∧ k 11 = k 11 ∧ k 12 = k 12 ∧ k 13 = k 13 ∧ k 14 = k 14 ∧ k 15 = k 15 ∧ k 16 = k 16 ∧ k 17 = k 17 ∧ k 18 = k 18 ∧ k 19 = k 19 ∧ k 20 = k 20 ∧ k 21 = k 21 ∧ k 22 = k 22 ∧ k 23 = k 23 ∧ k 24 = k 24 ∧ k 25 = k 25 ∧ k 26 = k 26 ∧ k 27 = k 27 ∧ k 28 = k 28 ∧ k 29 = k 29 ∧ k 30 = k 30 ∧ k 31 = k 31 ∧ 16 = 16 ∧ (∀ (y : Nat), y < 16 → datas Bool.false [AV.int IntKind.i64 (↑(rN k y) : Int)] = Bool.true ∧ [AV.int IntKind.i64 (↑(rN k y) : Int)] = [AV.int IntKind.i64 (↑(rN k y) : Int)]) ∧ 17 = 17 ∧ (∀ (y : Nat), y < 17 → datas Bool.false [AV.int IntKind.i64 (↑(hP (HN k b x) b x y) : Int)] = Bool.true ∧ [AV.int IntKind.i64 (↑(hP (HN k b x) b x y) : Int)] = [AV.int IntKind.i64 (↑(hP (HN k b x) b x y) : Int)]) ∧ (0 : BitVec 8) = (0 : BitVec 8) ∧ (0 : BitVec 8) = (0 : BitVec 8) ∧ (0 : BitVec 8) = (0 : BitVec 8) ∧ (0 : BitVec 8) = (0 : BitVec 8) ∧ (0 : BitVec 8) = (0 : BitVec 8) ∧ (0 : BitVec 8) = (0 : BitVec 8) ∧ (0 : BitVec 8) = (0 : BitVec 8) ∧ (0 : BitVec 8) = (0 : BitVec 8) ∧ (0 : BitVec 8) = (0 : BitVec 8) ∧ (0 : BitVec 8) = (0 : BitVec 8) ∧ (0 : BitVec 8) = (0 : BitVec 8) ∧ (0 : BitVec 8) = (0 : BitVec 8) ∧ (0 : BitVec 8) = (0 : BitVec 8) ∧ (0 : BitVec 8) = (0 : BitVec 8) ∧ (0 : BitVec 8) = (0 : BitVec 8) ∧ (0 : BitVec 8) = (0 : BitVec 8) ∧ 40 = 40 ∧ (∀ (y_1 : Nat), y_1 < 40 → datas Bool.false [AV.int IntKind.i64 (↑(pl (hP (HN k b x) b x) (rN k) y y_1) : Int)] = Bool.true ∧ [AV.int IntKind.i64 (↑(plJ (hP (HN k b x) b x) (rN k) x_2 x_3 y_1) : Int)] = [AV.int IntKind.i64 (↑(pl (hP (HN k b x) b x) (rN k) y y_1) : Int)]) ∧ True) ((0 : Int) ≤ IntKind.i64.wrap ((↑x_2 : Int) + (↑x_3 : Int)) ∧ (IntKind.i64.wrap ((↑x_2 : Int) + (↑x_3 : Int))).toNat < 40 ∧ (IntKind.i64.wrap ((↑x_2 : Int) + (↑x_3 : Int))).toNat < 40 ∧ IntKind.i64 = IntKind.i64 ∧ (0 : Int) ≤ (↑x_2 : Int) ∧ (↑x_2 : Int).toNat < 17 ∧ (↑x_2 : Int).toNat < 17 ∧ IntKind.i64 = IntKind.i64 ∧ (0 : Int) ≤ (↑x_3 : Int) ∧ (↑x_3 : Int).toNat < 16 ∧ (↑x_3 : Int).toNat < 16 ∧ IntKind.i64 = IntKind.i64 ∧ (0 : Int) ≤ IntKind.i64.wrap ((↑x_2 : Int) + (↑x_3 : Int)) ∧ (IntKind.i64.wrap ((↑x_2 : Int) + (↑x_3 : Int))).toNat < 40 ∧ (IntKind.i64.wrap ((↑x_2 : Int) + (↑x_3 : Int))).toNat < 40 ∧ [AV.int IntKind.i64 (↑(plJ (hP (HN k b x) b x) (rN k) x_2 x_3 (IntKind.i64.wrap ((↑x_2 : Int) + (↑x_3 : Int))).toNat) : Int)].length = 1 ∧ ∃ (y : Nat), 17 - y < 17 - x_3 ∧ y.le 16 ∧ b = b ∧ 0 = 0 ∧ 0 = 0 ∧ 0 = 0 ∧ 0 = 0 ∧ x6 ∧ 0 = 0 ∧ (↑x_2 : Int) = (↑x_2 : Int) ∧ (↑y : Int) = IntKind.i64.wrap ((↑x_3 : Int) + (1 : Int)) ∧ k 0 = k 0 ∧ k 1 = k 1 ∧ k 2 = k 2 ∧ k 3 = k 3 ∧ k 4 = k 4 ∧ k 5 = k 5 ∧ k 6 = k 6 ∧ k 7 = k 7 ∧ k 8 = k 8 ∧ k 9 = k 9 ∧ k 10 = k 10 ∧ k 11 = k 11 ∧ k 12 = k 12 ∧ k 13 = k 13 ∧ k 14 = k 14 ∧ k 15 = k 15 ∧ k 16 = k 16 ∧ k 17 = k 17 ∧ k 18 = k 18 ∧ k 19 = k 19 ∧ k 20 = k 20 ∧ k 21 = k 21 ∧ k 22 = k 22 ∧ k 23 = k 23 ∧ k 24 = k 24 ∧ k 25 = k 25 ∧ k 26 = k 26 ∧ k 27 = k 27 ∧ k 28 = k 28 ∧ k 29 = k 29 ∧ k 30 = k 30 ∧ k 31 = k 31 ∧ 16 = 16 ∧ (∀ (y : Nat), y < 16 → datas Bool.false [AV.int IntKind.i64 (↑(rN k y) : Int)] = Bool.true ∧ [AV.int IntKind.i64 (↑(rN k y) : Int)] = [AV.int IntKind.i64 (↑(rN k y) : Int)]) ∧ 17 = 17 ∧ (∀ (y : Nat), y < 17 → datas Bool.false [AV.int IntKind.i64 (↑(hP (HN k b x) b x y) : Int)] = Bool.true ∧ [AV.int IntKind.i64 (↑(hP (HN k b x) b x y) : Int)] = [AV.int IntKind.i64 (↑(hP (HN k b x) b x y) : Int)]) ∧ (0 : BitVec 8) = (0 : BitVec 8) ∧ (0 : BitVec 8) = (0 : BitVec 8) ∧ (0 : BitVec 8) = (0 : BitVec 8) ∧ (0 : BitVec 8) = (0 : BitVec 8) ∧ (0 : BitVec 8) = (0 : BitVec 8) ∧ (0 : BitVec 8) = (0 : BitVec 8) ∧ (0 : BitVec 8) = (0 : BitVec 8) ∧ (0 : BitVec 8) = (0 : BitVec 8) ∧ (0 : BitVec 8) = (0 : BitVec 8) ∧ (0 : BitVec 8) = (0 : BitVec 8) ∧ (0 : BitVec 8) = (0 : BitVec 8) ∧ (0 : BitVec 8) = (0 : BitVec 8) ∧ (0 : BitVec 8) = (0 : BitVec 8) ∧ (0 : BitVec 8) = (0 : BitVec 8) ∧ (0 : BitVec 8) = (0 : BitVec 8) ∧ (0 : BitVec 8) = (0 : BitVec 8) ∧ 40 = 40 ∧ (∀ (y_1 : Nat), y_1 < 40 → datas Bool.false [AV.int IntKind.i64 (↑(plJ (hP (HN k b x) b x) (rN k) x_2 y y_1) : Int)] = Bool.true ∧ (bif y_1 == (IntKind.i64.wrap ((↑x_2 : Int) + (↑x_3 : Int))).toNat then [AV.int IntKind.i64 (IntKind.i64.wrap ((if IntKind.i64 = IntKind.i64 then (↑(plJ (hP (HN k b x) b x) (rN k) x_2 x_3 (IntKind.i64.wrap ((↑x_2 : Int) + (↑x_3 : Int))).toNat) : Int) else (0 : Int)) + IntKind.i64.wrap ((if IntKind.i64 = IntKind.i64 then (↑(hP (HN k b x) b x (↑x_2 : Int).toNat) : Int) else (0 : Int)) * if IntKind.i64 = IntKind.i64 then (↑(rN k (↑x_3 : Int).toNat) : Int) else (0 : Int))))] else [AV.int IntKind.i64 (↑(plJ (hP (HN k b x) b x) (rN k) x_2 x_3 y_1) : Int)]) = [AV.int IntKind.i64 (↑(plJ (hP (HN k b x) b x) (rN k) x_2 y y_1) : Int)]) ∧ True) (decide ((↑x_3 : Int) < (16 : Int)))) (decide ((↑x_2 : Int) < (17 : Int)))) ((0 : Int) ≤ (↑x_1 : Int) ∧ (↑x_1 : Int).toNat < 17 ∧ (↑x_1 : Int).toNat < 17 ∧ IntKind.i64 = IntKind.i64 ∧ (0 : Int) ≤ IntKind.i64.wrap ((↑(16 * x) : Int) + (↑x_1 : Int)) ∧ (IntKind.i64.wrap ((↑(16 * x) : Int) + (↑x_1 : Int))).toNat < List.length b ∧ (0 : Int) ≤ (↑x_1 : Int) ∧ (↑x_1 : Int).toNat < 17 ∧ (↑x_1 : Int).toNat < 17 ∧ [AV.int IntKind.i64 (↑(hI (HN k b x) b x x_1 (↑x_1 : Int).toNat) : Int)].length = 1 ∧ ∃ (y : Nat), 17 - y < 17 - x_1 ∧ (x4 - (↑y : Int)).NonNeg ∧ b = b ∧ 0 = 0 ∧ 0 = 0 ∧ 0 = 0 ∧ 0 = 0 ∧ x6 ∧ x4 = x4 ∧ (↑y : Int) = IntKind.i64.wrap ((↑x_1 : Int) + (1 : Int)) ∧ k 0 = k 0 ∧ k 1 = k 1 ∧ k 2 = k 2 ∧ k 3 = k 3 ∧ k 4 = k 4 ∧ k 5 = k 5 ∧ k 6 = k 6 ∧ k 7 = k 7 ∧ k 8 = k 8 ∧ k 9 = k 9 ∧ k 10 = k 10 ∧ k 11 = k 11 ∧ k 12 = k 12 ∧ k 13 = k 13 ∧ k 14 = k 14 ∧ k 15 = k 15 ∧ k 16 = k 16 ∧ k 17 = k 17 ∧ k 18 = k 18 ∧ k 19 = k 19 ∧ k 20 = k 20 ∧ k 21 = k 21 ∧ k 22 = k 22 ∧ k 23 = k 23 ∧ k 24 = k 24 ∧ k 25 = k 25 ∧ k 26 = k 26 ∧ k 27 = k 27 ∧ k 28 = k 28 ∧ k 29 = k 29 ∧ k 30 = k 30 ∧ k 31 = k 31 ∧ 16 = 16 ∧ (∀ (y : Nat), y < 16 → datas Bool.false [AV.int IntKind.i64 (↑(rN k y) : Int)] = Bool.true ∧ [AV.int IntKind.i64 (↑(rN k y) : Int)] = [AV.int IntKind.i64 (↑(rN k y) : Int)]) ∧ 17 = 17 ∧ (∀ (y_1 : Nat), y_1 < 17 → datas Bool.false [AV.int IntKind.i64 (↑(hI (HN k b x) b x y y_1) : Int)] = Bool.true ∧ (bif y_1 == (↑x_1 : Int).toNat then [AV.int IntKind.i64 (IntKind.i64.wrap ((if IntKind.i64 = IntKind.i64 then (↑(hI (HN k b x) b x x_1 (↑x_1 : Int).toNat) : Int) else (0 : Int)) + (↑(List.getD b (IntKind.i64.wrap ((↑(16 * x) : Int) + (↑x_1 : Int))).toNat (0 : BitVec 8)).toNat : Int)))] else [AV.int IntKind.i64 (↑(hI (HN k b x) b x x_1 y_1) : Int)]) = [AV.int IntKind.i64 (↑(hI (HN k b x) b x y y_1) : Int)]) ∧ x1) (decide ((↑x_1 : Int) < x4))) (decide ((↑(16 * x) : Int) < (↑(List.length b) : Int))) : Prop) := by kernel_rfl
end Go.Sym
