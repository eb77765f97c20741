/- SnapPuts: of all states and versions the bytes are the document's, or that they can't be; they are read again, as far as the version has them; upgraded they have version 3. No conditions. -/
import Derived.Test.YtgniepaehjdjaaaSnaC
import Derived.Test.YtgniepaehjdjaaaSnaA
import Derived.Test.YtgniepaehjdjaaaRows
import Derived.WalkKit
import Derived.ProofKit
import Derived.OpenShut
import Derived.ChangeOld
import Derived.Below
import Derived.Carry
namespace Go.Sym
open Go.Proofs Go.Spec
set_option linter.unusedVariables false
set_option maxRecDepth 100000 in
theorem vs10 (v p i o ie oe al : Int) (lg pt us : By) (c1 c2 c3 : Bool) (S : G8) (sl : Bool) : bodyP Try.prog Z18 gl0 [] [] 3000 Try.f10 0 [snS p (.rb true lg (.is c1)) S i o ie oe sl (.rb true pt (.is c2)) (.rb true us (.is c3)) al, .int .i64 v] [] (retQ Try.prog Try.f10 0 ⟨[], .bool true, [], []⟩) = (
let x1 := snPM v p lg (fun (j : Nat) => (rg 224 S).getD j (0 : BitVec 8)) i o ie oe sl pt us al; let x2 := List.length (gUp x1) < 1099511627776 ∧ gE (List.getD (gUp x1) 0 (0 : BitVec 8)).toNat (gUp x1) = List.length (gUp x1) ∧ gN1 (gUp x1) ≤ 20000 ∧ gN2 (gUp x1) ≤ 4096 ∧ gN3 (List.getD (gUp x1) 0 (0 : BitVec 8)).toNat (gUp x1) ≤ 255 ∧ gSl (gUp x1) ≤ 1 ∧ snOk (↑(beN (cutB (gUp x1) 1 1)) : Int) (gN1 (gUp x1)) (↑(beN (cutB (gUp x1) (gY (gUp x1)) 1)) : Int) (↑(beN (cutB (gUp x1) (gY (gUp x1) + 1) 1)) : Int) (↑(beN (cutB (gUp x1) (gY (gUp x1) + 1 + 1) 2)) : Int) (↑(beN (cutB (gUp x1) (gY (gUp x1) + 1 + 1 + 2) 2)) : Int) (gN2 (gUp x1)) (gN3 (List.getD (gUp x1) 0 (0 : BitVec 8)).toNat (gUp x1)) (gAl (List.getD (gUp x1) 0 (0 : BitVec 8)).toNat (gUp x1)) = Bool.true; let x3 := List.length x1 < 1099511627776 ∧ gE (List.getD x1 0 (0 : BitVec 8)).toNat x1 = List.length x1 ∧ gN1 x1 ≤ 20000 ∧ gN2 x1 ≤ 4096 ∧ gN3 (List.getD x1 0 (0 : BitVec 8)).toNat x1 ≤ 255 ∧ gSl x1 ≤ 1 ∧ snOk (↑(beN (cutB x1 1 1)) : Int) (gN1 x1) (↑(beN (cutB x1 (gY x1) 1)) : Int) (↑(beN (cutB x1 (gY x1 + 1) 1)) : Int) (↑(beN (cutB x1 (gY x1 + 1 + 1) 2)) : Int) (↑(beN (cutB x1 (gY x1 + 1 + 1 + 2) 2)) : Int) (gN2 x1) (gN3 (List.getD x1 0 (0 : BitVec 8)).toNat x1) (gAl (List.getD x1 0 (0 : BitVec 8)).toNat x1) = Bool.true; let x4 := (List.getD (gUp x1) 0 (0 : BitVec 8)).toNat; let x5 := cutB (gUp x1) (gQ (gUp x1) + 1 + 2) (gN2 (gUp x1)); let x6 := 1 ≤ (List.getD x1 0 (0 : BitVec 8)).toNat ∧ (List.getD x1 0 (0 : BitVec 8)).toNat ≤ 3; let x7 := cutB x1 (gQ x1 + 1 + 2) (gN2 x1); let x8 := (↑(beN (cutB (gUp x1) (gY (gUp x1) + 1 + 1 + 2) 2)) : Int) = oe; let x9 := gUs (List.getD x1 0 (0 : BitVec 8)).toNat x1; let x10 := 1 ≤ x4 ∧ x4 ≤ 3; let x11 := (↑(beN (cutB x1 (gY x1 + 1 + 1 + 2) 2)) : Int) = oe; let x12 := cutB (gUp x1) 4 (gN1 (gUp x1)); let x13 := (↑(beN (cutB (gUp x1) (gY (gUp x1) + 1 + 1) 2)) : Int) = ie; let x14 := (↑(beN (cutB x1 (gY x1 + 1 + 1) 2)) : Int) = ie; let x15 := (↑(beN (cutB (gUp x1) (gY (gUp x1) + 1) 1)) : Int) = o; @Bool.rec (fun _ => Prop) (Bool.true = Bool.false ∧ True) (@Bool.rec (fun _ => Prop) (Bool.true = Bool.false ∧ True) (List.length x1 = List.length x1 ∧ List.length x1 = List.length x1 ∧ @Bool.rec (fun _ => Prop) (@Bool.rec (fun _ => Prop) (List.length x1 = List.length x1 ∧ x6 ∧ x3 ∧ @Bool.rec (fun _ => Prop) (@Bool.rec (fun _ => Prop) (List.length x1 = List.length x1 ∧ x6 ∧ x3 ∧ List.length (gUp x1) = List.length (gUp x1) ∧ x10 ∧ x2 ∧ List.length (gUp x1) = List.length (gUp x1) ∧ x10 ∧ x2 ∧ @Bool.rec (fun _ => Prop) (Bool.true = Bool.false ∧ True) (gN1 x1 = List.length (cutB x1 4 (gN1 x1)) ∧ gN2 x1 = List.length x7 ∧ gN3 (List.getD x1 0 (0 : BitVec 8)).toNat x1 = List.length x9 ∧ (((↑(beN (cutB x1 1 1)) : Int) = p ∧ cutB x1 4 (gN1 x1) = lg ∧ (↑(beN (cutB x1 (gY x1) 1)) : Int) = i ∧ (↑(beN (cutB x1 (gY x1 + 1) 1)) : Int) = o ∧ x14 ∧ x11 ∧ decide ((↑(gSl x1) : Int) = Int.ofNat 1) = sl ∧ x7 = pt ∧ x9 = us ∧ gAl (List.getD x1 0 (0 : BitVec 8)).toNat x1 = al) ∧ ∀ (j : Nat), j < 224 → (rg 224 (gS x1)).getD j (0 : BitVec 8) = (rg 224 S).getD j (0 : BitVec 8)) ∧ List.length (gUp x1) = List.length (gUp x1) ∧ List.length (gUp (gUp x1)) = List.length (gUp (gUp x1)) ∧ @Bool.rec (fun _ => Prop) (Bool.true = Bool.false ∧ True) (gN1 (gUp x1) = List.length x12 ∧ gN2 (gUp x1) = List.length x5 ∧ gN3 x4 (gUp x1) = List.length (gUs x4 (gUp x1)) ∧ (((↑(beN (cutB (gUp x1) 1 1)) : Int) = p ∧ x12 = lg ∧ (↑(beN (cutB (gUp x1) (gY (gUp x1)) 1)) : Int) = i ∧ x15 ∧ x13 ∧ x8 ∧ decide ((↑(gSl (gUp x1)) : Int) = Int.ofNat 1) = sl ∧ x5 = pt ∧ gUs x4 (gUp x1) = us ∧ gAl x4 (gUp x1) = al) ∧ ∀ (j : Nat), j < 224 → (rg 224 (gS (gUp x1))).getD j (0 : BitVec 8) = (rg 224 S).getD j (0 : BitVec 8)) ∧ Bool.true = Bool.true ∧ True) (decide (gUp x1 = gUp (gUp x1)))) (decide ((↑(List.getD x1 0 (0 : BitVec 8)).toNat : Int) = v))) (List.length x1 = List.length x1 ∧ x6 ∧ x3 ∧ List.length (gUp x1) = List.length (gUp x1) ∧ x10 ∧ x2 ∧ List.length (gUp x1) = List.length (gUp x1) ∧ x10 ∧ x2 ∧ @Bool.rec (fun _ => Prop) (Bool.true = Bool.false ∧ True) (gN1 x1 = List.length (cutB x1 4 (gN1 x1)) ∧ gN2 x1 = List.length x7 ∧ gN3 (List.getD x1 0 (0 : BitVec 8)).toNat x1 = List.length x9 ∧ (((↑(beN (cutB x1 1 1)) : Int) = p ∧ cutB x1 4 (gN1 x1) = lg ∧ (↑(beN (cutB x1 (gY x1) 1)) : Int) = i ∧ (↑(beN (cutB x1 (gY x1 + 1) 1)) : Int) = o ∧ x14 ∧ x11 ∧ decide ((↑(gSl x1) : Int) = Int.ofNat 1) = sl ∧ x7 = pt ∧ x9 = [] ∧ gAl (List.getD x1 0 (0 : BitVec 8)).toNat x1 = al) ∧ ∀ (j : Nat), j < 224 → (rg 224 (gS x1)).getD j (0 : BitVec 8) = (rg 224 S).getD j (0 : BitVec 8)) ∧ List.length (gUp x1) = List.length (gUp x1) ∧ List.length (gUp (gUp x1)) = List.length (gUp (gUp x1)) ∧ @Bool.rec (fun _ => Prop) (Bool.true = Bool.false ∧ True) (gN1 (gUp x1) = List.length x12 ∧ gN2 (gUp x1) = List.length x5 ∧ gN3 x4 (gUp x1) = List.length (gUs x4 (gUp x1)) ∧ (((↑(beN (cutB (gUp x1) 1 1)) : Int) = p ∧ x12 = lg ∧ (↑(beN (cutB (gUp x1) (gY (gUp x1)) 1)) : Int) = i ∧ x15 ∧ x13 ∧ x8 ∧ decide ((↑(gSl (gUp x1)) : Int) = Int.ofNat 1) = sl ∧ x5 = pt ∧ gUs x4 (gUp x1) = [] ∧ gAl x4 (gUp x1) = al) ∧ ∀ (j : Nat), j < 224 → (rg 224 (gS (gUp x1))).getD j (0 : BitVec 8) = (rg 224 S).getD j (0 : BitVec 8)) ∧ Bool.true = Bool.true ∧ True) (decide (gUp x1 = gUp (gUp x1)))) (decide ((↑(List.getD x1 0 (0 : BitVec 8)).toNat : Int) = v))) (decide (v < (2 : Int)))) (@Bool.rec (fun _ => Prop) (List.length x1 = List.length x1 ∧ x6 ∧ x3 ∧ List.length (gUp x1) = List.length (gUp x1) ∧ x10 ∧ x2 ∧ List.length (gUp x1) = List.length (gUp x1) ∧ x10 ∧ x2 ∧ @Bool.rec (fun _ => Prop) (Bool.true = Bool.false ∧ True) (gN1 x1 = List.length (cutB x1 4 (gN1 x1)) ∧ gN2 x1 = List.length x7 ∧ gN3 (List.getD x1 0 (0 : BitVec 8)).toNat x1 = List.length x9 ∧ (((↑(beN (cutB x1 1 1)) : Int) = p ∧ cutB x1 4 (gN1 x1) = lg ∧ (↑(beN (cutB x1 (gY x1) 1)) : Int) = i ∧ (↑(beN (cutB x1 (gY x1 + 1) 1)) : Int) = o ∧ x14 ∧ x11 ∧ decide ((↑(gSl x1) : Int) = Int.ofNat 1) = sl ∧ x7 = pt ∧ x9 = us ∧ gAl (List.getD x1 0 (0 : BitVec 8)).toNat x1 = Int.negSucc 0) ∧ ∀ (j : Nat), j < 224 → (rg 224 (gS x1)).getD j (0 : BitVec 8) = (rg 224 S).getD j (0 : BitVec 8)) ∧ List.length (gUp x1) = List.length (gUp x1) ∧ List.length (gUp (gUp x1)) = List.length (gUp (gUp x1)) ∧ @Bool.rec (fun _ => Prop) (Bool.true = Bool.false ∧ True) (gN1 (gUp x1) = List.length x12 ∧ gN2 (gUp x1) = List.length x5 ∧ gN3 x4 (gUp x1) = List.length (gUs x4 (gUp x1)) ∧ (((↑(beN (cutB (gUp x1) 1 1)) : Int) = p ∧ x12 = lg ∧ (↑(beN (cutB (gUp x1) (gY (gUp x1)) 1)) : Int) = i ∧ x15 ∧ x13 ∧ x8 ∧ decide ((↑(gSl (gUp x1)) : Int) = Int.ofNat 1) = sl ∧ x5 = pt ∧ gUs x4 (gUp x1) = us ∧ gAl x4 (gUp x1) = Int.negSucc 0) ∧ ∀ (j : Nat), j < 224 → (rg 224 (gS (gUp x1))).getD j (0 : BitVec 8) = (rg 224 S).getD j (0 : BitVec 8)) ∧ Bool.true = Bool.true ∧ True) (decide (gUp x1 = gUp (gUp x1)))) (decide ((↑(List.getD x1 0 (0 : BitVec 8)).toNat : Int) = v))) (List.length x1 = List.length x1 ∧ x6 ∧ x3 ∧ List.length (gUp x1) = List.length (gUp x1) ∧ x10 ∧ x2 ∧ List.length (gUp x1) = List.length (gUp x1) ∧ x10 ∧ x2 ∧ @Bool.rec (fun _ => Prop) (Bool.true = Bool.false ∧ True) (gN1 x1 = List.length (cutB x1 4 (gN1 x1)) ∧ gN2 x1 = List.length x7 ∧ gN3 (List.getD x1 0 (0 : BitVec 8)).toNat x1 = List.length x9 ∧ (((↑(beN (cutB x1 1 1)) : Int) = p ∧ cutB x1 4 (gN1 x1) = lg ∧ (↑(beN (cutB x1 (gY x1) 1)) : Int) = i ∧ (↑(beN (cutB x1 (gY x1 + 1) 1)) : Int) = o ∧ x14 ∧ x11 ∧ decide ((↑(gSl x1) : Int) = Int.ofNat 1) = sl ∧ x7 = pt ∧ x9 = [] ∧ gAl (List.getD x1 0 (0 : BitVec 8)).toNat x1 = Int.negSucc 0) ∧ ∀ (j : Nat), j < 224 → (rg 224 (gS x1)).getD j (0 : BitVec 8) = (rg 224 S).getD j (0 : BitVec 8)) ∧ List.length (gUp x1) = List.length (gUp x1) ∧ List.length (gUp (gUp x1)) = List.length (gUp (gUp x1)) ∧ @Bool.rec (fun _ => Prop) (Bool.true = Bool.false ∧ True) (gN1 (gUp x1) = List.length x12 ∧ gN2 (gUp x1) = List.length x5 ∧ gN3 x4 (gUp x1) = List.length (gUs x4 (gUp x1)) ∧ (((↑(beN (cutB (gUp x1) 1 1)) : Int) = p ∧ x12 = lg ∧ (↑(beN (cutB (gUp x1) (gY (gUp x1)) 1)) : Int) = i ∧ x15 ∧ x13 ∧ x8 ∧ decide ((↑(gSl (gUp x1)) : Int) = Int.ofNat 1) = sl ∧ x5 = pt ∧ gUs x4 (gUp x1) = [] ∧ gAl x4 (gUp x1) = Int.negSucc 0) ∧ ∀ (j : Nat), j < 224 → (rg 224 (gS (gUp x1))).getD j (0 : BitVec 8) = (rg 224 S).getD j (0 : BitVec 8)) ∧ Bool.true = Bool.true ∧ True) (decide (gUp x1 = gUp (gUp x1)))) (decide ((↑(List.getD x1 0 (0 : BitVec 8)).toNat : Int) = v))) (decide (v < (2 : Int)))) (decide (v < (3 : Int)))) (Bool.true = decide (snPE v p (List.length lg) i o ie oe (List.length pt) (List.length us) al = (1 : Int)) ∧ True) !decide (snPE v p (List.length lg) i o ie oe (List.length pt) (List.length us) al = (0 : Int))) (Bool.true = Bool.false ∧ True) !decide (x1 = x1)) !!decide (decide (snPE v p (List.length lg) i o ie oe (List.length pt) (List.length us) al = (0 : Int)) = snKK v p (List.length lg) i o ie oe (List.length pt) (List.length us) al)) !!decide (snOk p (List.length lg) i o ie oe (List.length pt) (List.length us) al = snOk p (List.length lg) i o ie oe (List.length pt) (List.length us) al) : Prop) := by kernel_rfl
end Go.Sym

set_option linter.unusedSimpArgs false
namespace Go.Sym
open Go.Proofs Go.Spec
set_option linter.unusedVariables false
def lf10 (L : By) (v0 p i o ie oe al : Int) (lg pt us : By) (S : G8) (sl : Bool) : Prop := (List.length L = List.length L ∧ (1 ≤ (List.getD L 0 (0 : BitVec 8)).toNat ∧ (List.getD L 0 (0 : BitVec 8)).toNat ≤ 3) ∧ (List.length L < 1099511627776 ∧ gE (List.getD L 0 (0 : BitVec 8)).toNat L = List.length L ∧ gN1 L ≤ 20000 ∧ gN2 L ≤ 4096 ∧ gN3 (List.getD L 0 (0 : BitVec 8)).toNat L ≤ 255 ∧ gSl L ≤ 1 ∧ snOk (↑(beN (cutB L 1 1)) : Int) (gN1 L) (↑(beN (cutB L (gY L) 1)) : Int) (↑(beN (cutB L (gY L + 1) 1)) : Int) (↑(beN (cutB L (gY L + 1 + 1) 2)) : Int) (↑(beN (cutB L (gY L + 1 + 1 + 2) 2)) : Int) (gN2 L) (gN3 (List.getD L 0 (0 : BitVec 8)).toNat L) (gAl (List.getD L 0 (0 : BitVec 8)).toNat L) = Bool.true) ∧ List.length (gUp L) = List.length (gUp L) ∧ (1 ≤ ((List.getD (gUp L) 0 (0 : BitVec 8)).toNat) ∧ ((List.getD (gUp L) 0 (0 : BitVec 8)).toNat) ≤ 3) ∧ (List.length (gUp L) < 1099511627776 ∧ gE (List.getD (gUp L) 0 (0 : BitVec 8)).toNat (gUp L) = List.length (gUp L) ∧ gN1 (gUp L) ≤ 20000 ∧ gN2 (gUp L) ≤ 4096 ∧ gN3 (List.getD (gUp L) 0 (0 : BitVec 8)).toNat (gUp L) ≤ 255 ∧ gSl (gUp L) ≤ 1 ∧ snOk (↑(beN (cutB (gUp L) 1 1)) : Int) (gN1 (gUp L)) (↑(beN (cutB (gUp L) (gY (gUp L)) 1)) : Int) (↑(beN (cutB (gUp L) (gY (gUp L) + 1) 1)) : Int) (↑(beN (cutB (gUp L) (gY (gUp L) + 1 + 1) 2)) : Int) (↑(beN (cutB (gUp L) (gY (gUp L) + 1 + 1 + 2) 2)) : Int) (gN2 (gUp L)) (gN3 (List.getD (gUp L) 0 (0 : BitVec 8)).toNat (gUp L)) (gAl (List.getD (gUp L) 0 (0 : BitVec 8)).toNat (gUp L)) = Bool.true) ∧ List.length (gUp L) = List.length (gUp L) ∧ (1 ≤ ((List.getD (gUp L) 0 (0 : BitVec 8)).toNat) ∧ ((List.getD (gUp L) 0 (0 : BitVec 8)).toNat) ≤ 3) ∧ (List.length (gUp L) < 1099511627776 ∧ gE (List.getD (gUp L) 0 (0 : BitVec 8)).toNat (gUp L) = List.length (gUp L) ∧ gN1 (gUp L) ≤ 20000 ∧ gN2 (gUp L) ≤ 4096 ∧ gN3 (List.getD (gUp L) 0 (0 : BitVec 8)).toNat (gUp L) ≤ 255 ∧ gSl (gUp L) ≤ 1 ∧ snOk (↑(beN (cutB (gUp L) 1 1)) : Int) (gN1 (gUp L)) (↑(beN (cutB (gUp L) (gY (gUp L)) 1)) : Int) (↑(beN (cutB (gUp L) (gY (gUp L) + 1) 1)) : Int) (↑(beN (cutB (gUp L) (gY (gUp L) + 1 + 1) 2)) : Int) (↑(beN (cutB (gUp L) (gY (gUp L) + 1 + 1 + 2) 2)) : Int) (gN2 (gUp L)) (gN3 (List.getD (gUp L) 0 (0 : BitVec 8)).toNat (gUp L)) (gAl (List.getD (gUp L) 0 (0 : BitVec 8)).toNat (gUp L)) = Bool.true) ∧ @Bool.rec (fun _ => Prop) (Bool.true = Bool.false ∧ True) (gN1 L = List.length (cutB L 4 (gN1 L)) ∧ gN2 L = List.length (cutB L (gQ L + 1 + 2) (gN2 L)) ∧ gN3 (List.getD L 0 (0 : BitVec 8)).toNat L = List.length (gUs (List.getD L 0 (0 : BitVec 8)).toNat L) ∧ (((↑(beN (cutB L 1 1)) : Int) = p ∧ cutB L 4 (gN1 L) = lg ∧ (↑(beN (cutB L (gY L) 1)) : Int) = i ∧ (↑(beN (cutB L (gY L + 1) 1)) : Int) = o ∧ ((↑(beN (cutB L (gY L + 1 + 1) 2)) : Int) = ie) ∧ ((↑(beN (cutB L (gY L + 1 + 1 + 2) 2)) : Int) = oe) ∧ decide ((↑(gSl L) : Int) = Int.ofNat 1) = sl ∧ (cutB L (gQ L + 1 + 2) (gN2 L)) = pt ∧ (gUs (List.getD L 0 (0 : BitVec 8)).toNat L) = us ∧ gAl (List.getD L 0 (0 : BitVec 8)).toNat L = al) ∧ ∀ (j : Nat), j < 224 → (rg 224 (gS L)).getD j (0 : BitVec 8) = (rg 224 S).getD j (0 : BitVec 8)) ∧ List.length (gUp L) = List.length (gUp L) ∧ List.length (gUp (gUp L)) = List.length (gUp (gUp L)) ∧ @Bool.rec (fun _ => Prop) (Bool.true = Bool.false ∧ True) (gN1 (gUp L) = List.length (cutB (gUp L) 4 (gN1 (gUp L))) ∧ gN2 (gUp L) = List.length (cutB (gUp L) (gQ (gUp L) + 1 + 2) (gN2 (gUp L))) ∧ gN3 ((List.getD (gUp L) 0 (0 : BitVec 8)).toNat) (gUp L) = List.length (gUs ((List.getD (gUp L) 0 (0 : BitVec 8)).toNat) (gUp L)) ∧ (((↑(beN (cutB (gUp L) 1 1)) : Int) = p ∧ (cutB (gUp L) 4 (gN1 (gUp L))) = lg ∧ (↑(beN (cutB (gUp L) (gY (gUp L)) 1)) : Int) = i ∧ ((↑(beN (cutB (gUp L) (gY (gUp L) + 1) 1)) : Int) = o) ∧ ((↑(beN (cutB (gUp L) (gY (gUp L) + 1 + 1) 2)) : Int) = ie) ∧ ((↑(beN (cutB (gUp L) (gY (gUp L) + 1 + 1 + 2) 2)) : Int) = oe) ∧ decide ((↑(gSl (gUp L)) : Int) = Int.ofNat 1) = sl ∧ (cutB (gUp L) (gQ (gUp L) + 1 + 2) (gN2 (gUp L))) = pt ∧ gUs ((List.getD (gUp L) 0 (0 : BitVec 8)).toNat) (gUp L) = us ∧ gAl ((List.getD (gUp L) 0 (0 : BitVec 8)).toNat) (gUp L) = al) ∧ ∀ (j : Nat), j < 224 → (rg 224 (gS (gUp L))).getD j (0 : BitVec 8) = (rg 224 S).getD j (0 : BitVec 8)) ∧ Bool.true = Bool.true ∧ True) (decide (gUp L = gUp (gUp L)))) (decide ((↑(List.getD L 0 (0 : BitVec 8)).toNat : Int) = v0)))
theorem bl10 {L : By} {v : Nat} {p i o ie oe al : Int} {lg pt us : By} {S : G8} {sl : Bool} (h : Full L v p lg S i o ie oe sl pt us al) : lf10 L v p i o ie oe al lg pt us S sl := by
  have hok : snOk p lg.length i o ie oe pt.length us.length al = true := by
    have h2 := h.hg.2.2.2.2.2.2
    rw [h.hd.hp, h.hd.hn1, h.hd.hi, h.hd.ho, h.hd.hie, h.hd.hoe, h.hd.hn2, h.hn3, h.hal] at h2
    exact h2
  have hU : gUp L = snB 3 p lg S i o ie oe sl pt us al := h.up
  have F3 : Full (gUp L) 3 p lg S i o ie oe sl pt us al := by rw [hU]; exact full_3 S sl hok
  have hUU : gUp (gUp L) = gUp L := by rw [F3.up, hU]
  unfold lf10
  rw [h.hv, F3.hv, decide_eq_true hUU.symm, decide_eq_true (rfl : (v : Int) = v)]
  generalize gUp L = U at *
  refine ⟨rfl, h.hr, h.hg, rfl, ⟨by omega, by omega⟩, F3.hg, rfl, ⟨by omega, by omega⟩, F3.hg, ?_⟩
  refine ⟨(cutB_len ..).symm, (cutB_len ..).symm, gUs_len.symm, ⟨⟨h.hd.hp, h.hd.hlg, h.hd.hi, h.hd.ho, h.hd.hie, h.hd.hoe, h.hd.hsl, h.hd.hpt, h.hus, h.hal⟩, fun j hj => ?_⟩, rfl, rfl, ?_⟩
  · rw [rg_getD _ _ _ _ hj, rg_getD _ _ _ _ hj]; exact h.hd.hs j hj
  refine ⟨(cutB_len ..).symm, (cutB_len ..).symm, gUs_len.symm, ⟨⟨F3.hd.hp, F3.hd.hlg, F3.hd.hi, F3.hd.ho, F3.hd.hie, F3.hd.hoe, F3.hd.hsl, F3.hd.hpt, F3.hus, F3.hal⟩, fun j hj => ?_⟩, rfl, trivial⟩
  rw [rg_getD _ _ _ _ hj, rg_getD _ _ _ _ hj]; exact F3.hd.hs j hj
theorem bs10 (v p i o ie oe al : Int) (lg pt us : By) (c1 c2 c3 : Bool) (S : G8) (sl : Bool) : Must (bodyP Try.prog Z18 gl0 [] [] 3000 Try.f10 0 [snS p (.rb true lg (.is c1)) S i o ie oe sl (.rb true pt (.is c2)) (.rb true us (.is c3)) al, .int .i64 v] [] (retQ Try.prog Try.f10 0 ⟨[], .bool true, [], []⟩)) := by
  constructor
  rw [vs10]
  have e1 : decide (snOk p lg.length i o ie oe pt.length us.length al = snOk p lg.length i o ie oe pt.length us.length al) = true := decide_eq_true rfl
  have e2 : decide (decide (snPE v p lg.length i o ie oe pt.length us.length al = (0 : Int)) = snKK v p lg.length i o ie oe pt.length us.length al) = true := by
    unfold snPE
    cases snKK v p lg.length i o ie oe pt.length us.length al <;> rfl
  rw [e1, e2]
  intro x1 x2 x3 x4 x5 x6 x7 x8 x9 x10 x11 x12 x13 x14 x15
  rw [decide_eq_true (rfl : x1 = x1)]
  refine ⟨rfl, rfl, ?_⟩
  cases h : snKK v p lg.length i o ie oe pt.length us.length al
  · have hE : snPE v p lg.length i o ie oe pt.length us.length al = 1 := by unfold snPE; rw [h]; rfl
    rw [hE]
    exact ⟨rfl, trivial⟩
  have hE : snPE v p lg.length i o ie oe pt.length us.length al = 0 := by unfold snPE; rw [h]; rfl
  rw [hE]
  have hx : x1 = snB v p lg S i o ie oe sl pt us al := by
    show snPM v p lg (fun (j : Nat) => (rg 224 S).getD j (0 : BitVec 8)) i o ie oe sl pt us al = _
    unfold snPM
    rw [if_pos h]
    exact snB_cg (fun j hj => rg_getD _ _ _ _ hj)
  have h0 := h
  unfold snKK at h0
  rw [Bool.and_eq_true, Bool.and_eq_true, decide_eq_true_eq, decide_eq_true_eq] at h0
  obtain ⟨h1, h2, h3⟩ := h0
  have hv : v = 1 ∨ v = 2 ∨ v = 3 := by omega
  rcases hv with e | e | e
  · subst e
    have hF : Full x1 1 p lg S i o ie oe sl pt [] (-1) := by rw [hx]; exact full_1 S sl h1
    refine ⟨rfl, by show 1 ≤ (x1.getD 0 0).toNat ∧ (x1.getD 0 0).toNat ≤ 3; rw [hF.hv]; omega, by show gG (x1.getD 0 0).toNat x1; rw [hF.hv]; exact hF.hg, ?_⟩
    rw [decide_eq_true (show (1 : Int) < 3 by omega), decide_eq_true (show (1 : Int) < 2 by omega)]
    exact bl10 hF
  · subst e
    have hF : Full x1 2 p lg S i o ie oe sl pt us (-1) := by rw [hx]; exact full_2 S sl h1
    refine ⟨rfl, by show 1 ≤ (x1.getD 0 0).toNat ∧ (x1.getD 0 0).toNat ≤ 3; rw [hF.hv]; omega, by show gG (x1.getD 0 0).toNat x1; rw [hF.hv]; exact hF.hg, ?_⟩
    rw [decide_eq_true (show (2 : Int) < 3 by omega), decide_eq_false (show ¬ (2 : Int) < 2 by omega)]
    exact bl10 hF
  · subst e
    have hF : Full x1 3 p lg S i o ie oe sl pt us al := by rw [hx]; exact full_3 S sl h1
    refine ⟨rfl, by show 1 ≤ (x1.getD 0 0).toNat ∧ (x1.getD 0 0).toNat ≤ 3; rw [hF.hv]; omega, by show gG (x1.getD 0 0).toNat x1; rw [hF.hv]; exact hF.hg, ?_⟩
    rw [decide_eq_false (show ¬ (3 : Int) < 3 by omega), decide_eq_false (show ¬ (3 : Int) < 2 by omega)]
    exact bl10 hF
end Go.Sym

/- SnapPuts: of all states and versions the bytes are the document's, or that they can't be; they are read again, as far as the version has them; upgraded they have version 3. No conditions. -/
namespace Go.Sym
open Go.Proofs Go.Spec
theorem w10 (W : World) (v0 : Value) (p : Int) (lg : List (BitVec 8)) (c1 : Bool) (S : Nat → BitVec 8) (i o ie oe : Int) (sl : Bool) (pt : List (BitVec 8)) (c2 : Bool) (us : List (BitVec 8)) (c3 : Bool) (al : Int) (h0 : VRel (κW W) (.agg (snC p (.rb true lg (.is c1)) S i o ie oe sl (.rb true pt (.is c2)) (.rb true us (.is c3)) al)) v0) (n1 : Int) :
    Calls Try.prog 10 #[v0, .int .i64 n1] W fun e w' => e = .returned (.bool true) ∧ RowKit.Below W.heap.size W w' := by
  have hv : VRels (κW W) [.agg (snC p (.rb true lg (.is c1)) S i o ie oe sl (.rb true pt (.is c2)) (.rb true us (.is c3)) al), .int .i64 n1] [v0, .int .i64 n1] := by
    simp only [VRels]
    exact ⟨_, _, rfl, h0, _, _, rfl, rfl, rfl⟩
  refine law_walk (gl := gl0) (Γ := Z18) (fn := Try.f10) (av := [.agg (snC p (.rb true lg (.is c1)) S i o ie oe sl (.rb true pt (.is c2)) (.rb true us (.is c3)) al), .int .i64 n1]) (ls := []) [] 3000 (by kernel_rfl) (by kernel_rfl) okZ18 (by kernel_rfl) (GW.nil W) (by kernel_rfl) hv ?_
  exact bs10 n1 p i o ie oe al lg pt us c1 c2 c3 S sl
end Go.Sym
namespace Go.Proofs.Ytgniepaehjdjaaa.snapPuts
open Go.ChangeShapes Go.WideShapes Go.ChangeAt Go.RowKit
set_option linter.unusedVariables false

theorem own : ownKnob Try.prog.godebug = none := by kernel_rfl
theorem laid : laidOutB Try.prog = true := by kernel_rfl

set_option maxRecDepth 100000 in
theorem lifted (os : Os) (started : os.Started) (H : Type) (enc : TypeId × Value → H) :
    ReturnsInHanded {} Try.checked os 10 .any (Rows.snapPutsSpec.pre6 enc Try.prog Try.f10 Rows.snapPutsRow.domain false) (Rows.snapPutsSpec.post enc Try.prog Try.f10 false true false false) := by
  refine returnsInHanded_of_change (C := Try.checked) own started (by kernel_rfl) Try.func10
    (ChangeSpec.witness6 (enc := enc) (C := Try.checked) false ⟨#[], #[.agg (#[.int .i64 0, .slice none 0 0] ++ Array.replicate 224 (.int .u8 0) ++ #[.int .i64 0, .int .i64 0, .int .i64 0, .int .i64 0, .bool false, .slice none 0 0, .slice none 0 0, .int .i64 0]), .int .i64 0], []⟩ 8 (by kernel_rfl) (by kernel_rfl) (by kernel_rfl) (by kernel_rfl)) ?_
  intro W base args ds gs before hval0 hW hcnd _
  have hval : ∀ (j : Nat) t v, Try.f10.params[j]? = some t → args[j]? = some v → Value.okWide Try.prog W .any base t v := hval0
  have hW' := hW
  obtain ⟨p, q, hA0, hV, rfl, hfz, hnd⟩ := hW
  have hA : DataW.TrodAll enc Try.prog W 0 (fun _ => true) true Try.f10.params.toList args.toList ds p := hA0
  rw [Try.params10] at hA hval
  obtain ⟨v0, vs0, d0, ds0, p0, q0, hargs, rfl, rfl, h0, r0⟩ := trodAll_cons hA
  obtain ⟨v1, vs1, d1, ds1, p1, q1, rfl, rfl, rfl, h1, r1⟩ := trodAll_cons r0
  obtain ⟨rfl, rfl, rfl⟩ := trodAll_nil r1
  obtain rfl : args = #[v0, v1] := by cases args; simp_all
  obtain ⟨rfl, rfl⟩ := trodVars_none hV
  obtain ⟨a1, rfl, rfl, rfl, w1⟩ := open_int Try.underlying3 (hval 1 3 v1 rfl rfl) h1
  clear hA0 hval0
  have hlt0 : ∀ x ∈ p0, x.block < W.heap.size := fun x hx => hW'.lt x (by simp [hx])
  obtain ⟨fuel0, hf0⟩ := h0
  obtain ⟨avs0, hs0, hd0, hr0⟩ := Go.Sym.rd_flat 9 93 ([.i .i64, .y] ++ (List.replicate 224 (.i .u8) ++ [.i .i64, .i .i64, .i .i64, .i .i64, .b, .y, .y, .i .i64])) _ _ _ (by kernel_rfl) hf0
  obtain ⟨p, lg, c1, S, i, o, ie, oe, sl, pt, c2, us, c3, al, rfl⟩ := Go.Sym.sh_state hs0
  have hu0 := Go.Sym.agg_of_cells hr0 (by simp [Go.Sym.snC_len])
  refine (Go.Sym.w10 W v0 p lg c1 S i o ie oe sl pt c2 us c3 al hu0 a1).mono fun e W' ⟨he, bel⟩ => ?_
  subst he
  exact ⟨_, rfl, _, _, _, [], _, [], hW', trodAll_mk1 (shut_bool Try.underlying4 _), (trodAll_cons_mk (Below.trod laid (by kernel_rfl) (of_decide_eq_true (by kernel_rfl)) ⟨fuel0, hf0⟩ bel hlt0) (trodAll_cons_mk (shut_int Try.underlying3 w1) trodAll_mk0)), rfl, bel.frame _, fun h => by cases h⟩

theorem over : Rows.snapPutsRow.holds Try.pinned (OpenSpec.ofChange Rows.snapPutsSpec) :=
  OpenClaim.holds_of_wide 10 Try.f10 rfl rfl rfl rfl rfl rfl rfl ⟨rfl, rfl, rfl, rfl, rfl⟩ rfl rfl rfl rfl rfl (by kernel_rfl) Try.func10 (by kernel_rfl)
    (of_decide_eq_true (by kernel_rfl)) (by unfold Func.isWrapper; first | (rw [if_pos (by decide +kernel)]; kernel_rfl) | (rw [if_neg (by decide +kernel)]; exact ⟨rfl, rfl⟩))
    (fun os started H enc _ => lifted os started H enc)

theorem proved : Rows.SnapPutsSaid :=
  over
#print axioms proved
end Go.Proofs.Ytgniepaehjdjaaa.snapPuts
