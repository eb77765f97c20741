/- What is read of a journal; which slot counts. -/
import Derived.Test.YtmpgpbbaloiniaaDoorJouB
/- Where a sector of an area is. -/
namespace Go.Sym
open Go.Proofs Go.Spec
set_option linter.unusedVariables false
noncomputable def E1 : Ctx := (Ctx.none []).exe Tryd.prog gl0 [] 3000 Tryd.f63.params.size 63 Tryd.f63
theorem okE1 : COKs Tryd.prog gl0 E1 := COKs.none.exe [] 3000 _ (by kernel_rfl) (by kernel_rfl) (by kernel_rfl) (fun args w => by kernel_rfl)
end Go.Sym

namespace Go.Sym
open Go.Proofs Go.Spec
set_option linter.unusedVariables false
set_option maxRecDepth 100000 in
theorem vjL (g : BitVec 64) (a s z at' e : Int) (b : Bool) : bodyP Tryd.prog E1 gl0 [] [] 3000 Tryd.f60 0 [.rp false [.any, .u64 g, .int .i64 a, .int .i64 s, .int .i64 z, .any, .bool b], .int .i64 at'] [] (retQ Tryd.prog Tryd.f60 0 ⟨[], .int .i64 e, [], []⟩) = (
e = IntKind.i64.wrap (IntKind.i64.wrap ((2 : Int) + IntKind.i64.wrap (a * z)) + at') ∧ True : Prop) := by kernel_rfl
set_option maxRecDepth 100000 in
theorem vjLn (g : BitVec 64) (a s z at' e : Int) (b : Bool) : bodyP Tryd.prog E1 gl0 [] [] 3000 Tryd.f60 0 [.rp false [.any, .u64 g, .int .i64 a, .int .i64 s, .int .i64 z, .nils, .bool b], .int .i64 at'] [] (retQ Tryd.prog Tryd.f60 0 ⟨[], .int .i64 e, [], []⟩) = (
e = IntKind.i64.wrap (IntKind.i64.wrap ((2 : Int) + IntKind.i64.wrap (a * z)) + at') ∧ True : Prop) := by kernel_rfl
end Go.Sym

/- A journal; what is read of it. -/
namespace Go.Spec
/-- Where a sector of an area is. -/
def plJ (a z at' : Int) : Int := IntKind.i64.wrap (IntKind.i64.wrap (2 + IntKind.i64.wrap (a * z)) + at')
end Go.Spec
namespace Go.Sym
open Go.Proofs Go.Spec
set_option linter.unusedVariables false
def gjL (xs : List AV) (bs : List ABlk) : TL := match xs, bs with
  | [.rp false [.any, .u64 g, .int .i64 a, .int .i64 s, .int .i64 z, .any, .bool b], .int .i64 at'], [] => .ok ⟨[], .int .i64 (plJ a z at'), [], []⟩
  | [.rp false [.any, .u64 g, .int .i64 a, .int .i64 s, .int .i64 z, .nils, .bool b], .int .i64 at'], [] => .ok ⟨[], .int .i64 (plJ a z at'), [], []⟩
  | _, _ => .no
def spjL : Spec := ⟨[.p [.kp, .kp, .kp, .kp, .kp, .kp, .kp], .kp], fun _ _ => [], fun _ _ => [], gjL⟩
theorem bjL (g : BitVec 64) (a s z at' : Int) (b : Bool) : Must (bodyP Tryd.prog E1 gl0 [] [] 3000 Tryd.f60 0 [.rp false [.any, .u64 g, .int .i64 a, .int .i64 s, .int .i64 z, .any, .bool b], .int .i64 at'] [] (retQ Tryd.prog Tryd.f60 0 ⟨[], .int .i64 (plJ a z at'), [], []⟩)) := by
  constructor
  rw [vjL]
  exact ⟨rfl, trivial⟩
theorem bjLn (g : BitVec 64) (a s z at' : Int) (b : Bool) : Must (bodyP Tryd.prog E1 gl0 [] [] 3000 Tryd.f60 0 [.rp false [.any, .u64 g, .int .i64 a, .int .i64 s, .int .i64 z, .nils, .bool b], .int .i64 at'] [] (retQ Tryd.prog Tryd.f60 0 ⟨[], .int .i64 (plJ a z at'), [], []⟩)) := by
  constructor
  rw [vjLn]
  exact ⟨rfl, trivial⟩
theorem cjL : COK Tryd.prog gl0 60 (mkF spjL) := by
  refine ctrE (fn := Tryd.f60) [] 3000 (by kernel_rfl) (by kernel_rfl) okE1 (by kernel_rfl) (fun args w => by kernel_rfl) fun xs bs r hs ho => ?_
  replace hs : (gjL xs bs).sel = some r := hs
  unfold gjL at hs
  split at hs
  · rename_i g a s z b at'
    simp only [TL.sel, Option.some.injEq] at hs
    subst hs
    exact ⟨_, bjL g a s z at' b⟩
  · rename_i g a s z b at'
    simp only [TL.sel, Option.some.injEq] at hs
    subst hs
    exact ⟨_, bjLn g a s z at' b⟩
  · simp [TL.sel] at hs
def dkB (sz : Nat) (w : Int) : ABlk := ⟨.cells [.slice 2 0 64 sz .ow (.is false), .bool true, .int .i64 w, .int .i64 (-1), .int .i64 0], true, 0⟩
/-- A journal, with no entries; with entries. -/
def jnN (g : BitVec 64) (a s z : Int) : ABlk := ⟨.cells [.ptr 1 0 0 0, .u64 g, .int .i64 a, .int .i64 s, .int .i64 z, .nils, .bool false], true, 0⟩
def jnA (g : BitVec 64) (a s z : Int) (n : Nat) : ABlk := ⟨.cells [.ptr 1 0 0 0, .u64 g, .int .i64 a, .int .i64 s, .int .i64 z, .slice 3 0 1 n .ow .unk, .bool false], true, 0⟩
def enR (n : Nat) (F : Nat → By) : ABlk := ⟨.rows 1 n (fun i => [.rb true (F i) .unk]), true, 1⟩
noncomputable def E3 : Ctx := (Ctx.none []).exe Tryd.prog gl0 [] 3000 Tryd.f92.params.size 92 Tryd.f92
theorem okE3 : COKs Tryd.prog gl0 E3 := COKs.none.exe [] 3000 _ (by kernel_rfl) (by kernel_rfl) (by kernel_rfl) (fun args w => by kernel_rfl)
noncomputable def E4 : Ctx := ((((E3.add 24 (mkF spjN)).add 61 (mkF spjE)).add 99 (mkF spjR)).add 100 (mkF spjO)).add 60 (mkF spjL)
theorem okE4 : COKs Tryd.prog gl0 E4 := ((((okE3.add cjN).add cjE).add cjR).add cjO).add cjL
def lsRd (g : BitVec 64) (a s z at' num : Int) (sz : Nat) (w : Int) (L q : By) (nq : Int) : LS := ⟨Unit, fun _ => [(0, .ptr 0 0 0 0), (1, .int .i64 at'), (2, .int .i64 num), (8, .slice 100 0 1 64 .ow .unk), (10, .int .i64 nq), (11, .int .i64 1)],
  fun _ => [(0, jnN g a s z), (1, dkB sz w), (2, dkL L), (100, ⟨.bytes q, true, 1⟩)], 1000, fun _ => 0, fun _ => True, fun _ => []⟩
def lsRs (g : BitVec 64) (a s z at' num : Int) (n : Nat) (F : Nat → By) (sz : Nat) (w : Int) (L q : By) (nq : Int) : LS := ⟨Unit, fun _ => [(0, .ptr 0 0 0 0), (1, .int .i64 at'), (2, .int .i64 num), (8, .slice 100 0 1 64 .ow .unk), (10, .int .i64 nq), (11, .int .i64 1)],
  fun _ => [(0, jnA g a s z n), (1, dkB sz w), (2, dkL L), (3, enR n F), (100, ⟨.bytes q, true, 1⟩)], 1000, fun _ => 0, fun _ => True, fun _ => []⟩
end Go.Sym

namespace Go.Sym
open Go.Proofs Go.Spec
set_option linter.unusedVariables false
set_option maxRecDepth 100000 in
theorem vjr0 (g : BitVec 64) (a s z at' num nq w : Int) (sz : Nat) (L q : By) : bodyP Tryd.prog E4 gl0 [] [(11, lsRd g a s z at' num sz w L q nq)] 3000 Tryd.f104 3 [.ptr 0 0 0 0, .int .i64 at', .int .i64 num] [jnN g a s z, dkB sz w, dkL L] (retQ Tryd.prog Tryd.f104 3 ⟨[], .tup [.nils, .int .i64 0], [some (some (jnN g a s z)), some (some (dkB sz w)), some (some (dkL L))], []⟩) = (
let x1 := (0 : Int) = (0 : Int) ∧ 0 = 0 ∧ g = g ∧ a = a ∧ s = s ∧ z = z ∧ Bool.false = Bool.false ∧ Bool.false = Bool.false ∧ 0 = 0 ∧ 0 = 0 ∧ 0 = 0 ∧ sz = sz ∧ Bool.true = Bool.true ∧ w = w ∧ Int.negSucc 0 = Int.negSucc 0 ∧ (0 : Int) = (0 : Int) ∧ L = L ∧ True; let x2 := IntKind.i64.wrap (↑(BitVec.ofInt 64 (IntKind.i64.wrap ((↑(List.getD (dGet L (plJ a z at').toNat) 16 (0 : BitVec 8)).toNat : Int) * Int.ofNat 256)) ||| BitVec.ofInt 64 (↑(List.getD (dGet L (plJ a z at').toNat) 17 (0 : BitVec 8)).toNat : Int)).toNat : Int); let x3 := List.take ((IntKind.i64.wrap ((18 : Int) + nq)).toNat - 18) (List.drop 18 q); @Bool.rec (fun _ => Prop) (List.length L = sz * 64 ∧ (0 : Int) ≤ plJ a z at' ∧ plJ a z at' < (↑sz : Int) ∧ 16 < 64 ∧ 16 < List.length (dGet L (plJ a z at').toNat) ∧ 17 < 64 ∧ 17 < List.length (dGet L (plJ a z at').toNat) ∧ @Bool.rec (fun _ => Prop) x1 (@Bool.rec (fun _ => Prop) x1 ((0 : Int) ≤ x2 ∧ x2 < (1099511627776 : Int) ∧ @Bool.rec (fun _ => Prop) ((∃ (x : Unit), True ∧ 0 = 0 ∧ at' = at' ∧ num = num ∧ 0 = 0 ∧ 0 = 0 ∧ 0 = 0 ∧ 64 = 64 ∧ nq = x2 ∧ (1 : Int) = (1 : Int) ∧ 0 = 0 ∧ g = g ∧ a = a ∧ s = s ∧ z = z ∧ Bool.false = Bool.false ∧ Bool.false = Bool.false ∧ 0 = 0 ∧ 0 = 0 ∧ 0 = 0 ∧ sz = sz ∧ Bool.true = Bool.true ∧ w = w ∧ Int.negSucc 0 = Int.negSucc 0 ∧ (0 : Int) = (0 : Int) ∧ L = L ∧ q = dGet L (plJ a z at').toNat ∧ True) ∧ ∀ (x : Unit), True → (0 : Int) ≤ nq ∧ nq < (1099511627776 : Int) ∧ @Bool.rec (fun _ => Prop) ((0 : Int) ≤ IntKind.i64.wrap ((18 : Int) + nq) ∧ 18 ≤ (IntKind.i64.wrap ((18 : Int) + nq)).toNat ∧ (IntKind.i64.wrap ((18 : Int) + nq)).toNat ≤ 64 ∧ 18 + ((IntKind.i64.wrap ((18 : Int) + nq)).toNat - 18) ≤ List.length q ∧ x3.length < 1099511627776 ∧ 64 = List.length q ∧ needN x3.length * 64 = List.length (enB g num x3) ∧ @Bool.rec (fun _ => Prop) False x1 !decide (q = enB g num x3)) (List.length L = sz * 64 ∧ (0 : Int) ≤ plJ a z (IntKind.i64.wrap (at' + (1 : Int))) ∧ plJ a z (IntKind.i64.wrap (at' + (1 : Int))) < (↑sz : Int) ∧ 64 = List.length (dGet L (plJ a z (IntKind.i64.wrap (at' + (1 : Int)))).toNat) ∧ 64 = List.length q ∧ roomFor 64 (List.length (dGet L (plJ a z (IntKind.i64.wrap (at' + (1 : Int)))).toNat)) 1 ∧ ∃ (y : Unit), 0 < 0 ∧ True ∧ 0 = 0 ∧ at' = at' ∧ num = num ∧ 0 = 0 ∧ 0 = 0 ∧ 0 = 0 ∧ 64 = 64 + List.length (dGet L (plJ a z (IntKind.i64.wrap (at' + (1 : Int)))).toNat) ∧ nq = nq ∧ (1 : Int) = Int.ofNat 2 ∧ 0 = 0 ∧ g = g ∧ a = a ∧ s = s ∧ z = z ∧ Bool.false = Bool.false ∧ Bool.false = Bool.false ∧ 0 = 0 ∧ 0 = 0 ∧ 0 = 0 ∧ sz = sz ∧ Bool.true = Bool.true ∧ w = w ∧ Int.negSucc 0 = Int.negSucc 0 ∧ (0 : Int) = (0 : Int) ∧ L = L ∧ q = q ++ dGet L (plJ a z (IntKind.i64.wrap (at' + (1 : Int)))).toNat ∧ True) (decide ((1 : Int) < (↑(needN nq.toNat) : Int)))) x1 (decide (z < IntKind.i64.wrap (at' + (↑(needN x2.toNat) : Int))))) !decide ((4096 : Int) < x2)) !decide (x2 < (1 : Int))) x1 (decide (z ≤ at')) : Prop) := by kernel_rfl
set_option maxRecDepth 100000 in
theorem vjr1 (g : BitVec 64) (a s z at' num nq w : Int) (sz m : Nat) (L q B : By) : bodyP Tryd.prog E4 gl0 [] [(11, lsRd g a s z at' num sz w L q nq)] 3000 Tryd.f104 3 [.ptr 0 0 0 0, .int .i64 at', .int .i64 num] [jnN g a s z, dkB sz w, dkL L] (retQ Tryd.prog Tryd.f104 3 ⟨[], .tup [.slice 3 18 1 m .un .unk, .int .i64 0], [some (some (jnN g a s z)), some (some (dkB sz w)), some (some (dkL L))], [⟨.bytes B, true, 1⟩]⟩) = (
let x1 := IntKind.i64.wrap (↑(BitVec.ofInt 64 (IntKind.i64.wrap ((↑(List.getD (dGet L (plJ a z at').toNat) 16 (0 : BitVec 8)).toNat : Int) * Int.ofNat 256)) ||| BitVec.ofInt 64 (↑(List.getD (dGet L (plJ a z at').toNat) 17 (0 : BitVec 8)).toNat : Int)).toNat : Int); let x2 := (IntKind.i64.wrap ((18 : Int) + nq)).toNat - 18; @Bool.rec (fun _ => Prop) (List.length L = sz * 64 ∧ (0 : Int) ≤ plJ a z at' ∧ plJ a z at' < (↑sz : Int) ∧ 16 < 64 ∧ 16 < List.length (dGet L (plJ a z at').toNat) ∧ 17 < 64 ∧ 17 < List.length (dGet L (plJ a z at').toNat) ∧ @Bool.rec (fun _ => Prop) False (@Bool.rec (fun _ => Prop) False ((0 : Int) ≤ x1 ∧ x1 < (1099511627776 : Int) ∧ @Bool.rec (fun _ => Prop) ((∃ (x : Unit), True ∧ 0 = 0 ∧ at' = at' ∧ num = num ∧ 0 = 0 ∧ 0 = 0 ∧ 0 = 0 ∧ 64 = 64 ∧ nq = x1 ∧ (1 : Int) = (1 : Int) ∧ 0 = 0 ∧ g = g ∧ a = a ∧ s = s ∧ z = z ∧ Bool.false = Bool.false ∧ Bool.false = Bool.false ∧ 0 = 0 ∧ 0 = 0 ∧ 0 = 0 ∧ sz = sz ∧ Bool.true = Bool.true ∧ w = w ∧ Int.negSucc 0 = Int.negSucc 0 ∧ (0 : Int) = (0 : Int) ∧ L = L ∧ q = dGet L (plJ a z at').toNat ∧ True) ∧ ∀ (x : Unit), True → (0 : Int) ≤ nq ∧ nq < (1099511627776 : Int) ∧ @Bool.rec (fun _ => Prop) ((0 : Int) ≤ IntKind.i64.wrap ((18 : Int) + nq) ∧ 18 ≤ (IntKind.i64.wrap ((18 : Int) + nq)).toNat ∧ (IntKind.i64.wrap ((18 : Int) + nq)).toNat ≤ 64 ∧ 18 + x2 ≤ List.length q ∧ (List.take x2 (List.drop 18 q)).length < 1099511627776 ∧ 64 = List.length q ∧ needN (List.take x2 (List.drop 18 q)).length * 64 = List.length (enB g num (List.take x2 (List.drop 18 q))) ∧ @Bool.rec (fun _ => Prop) (18 = 18 ∧ 0 = 0 ∧ m = x2 ∧ (0 : Int) = (0 : Int) ∧ 0 = 0 ∧ g = g ∧ a = a ∧ s = s ∧ z = z ∧ Bool.false = Bool.false ∧ Bool.false = Bool.false ∧ 0 = 0 ∧ 0 = 0 ∧ 0 = 0 ∧ sz = sz ∧ Bool.true = Bool.true ∧ w = w ∧ Int.negSucc 0 = Int.negSucc 0 ∧ (0 : Int) = (0 : Int) ∧ L = L ∧ B = q ∧ True) False !decide (q = enB g num (List.take x2 (List.drop 18 q)))) (List.length L = sz * 64 ∧ (0 : Int) ≤ plJ a z (IntKind.i64.wrap (at' + (1 : Int))) ∧ plJ a z (IntKind.i64.wrap (at' + (1 : Int))) < (↑sz : Int) ∧ 64 = List.length (dGet L (plJ a z (IntKind.i64.wrap (at' + (1 : Int)))).toNat) ∧ 64 = List.length q ∧ roomFor 64 (List.length (dGet L (plJ a z (IntKind.i64.wrap (at' + (1 : Int)))).toNat)) 1 ∧ ∃ (y : Unit), 0 < 0 ∧ True ∧ 0 = 0 ∧ at' = at' ∧ num = num ∧ 0 = 0 ∧ 0 = 0 ∧ 0 = 0 ∧ 64 = 64 + List.length (dGet L (plJ a z (IntKind.i64.wrap (at' + (1 : Int)))).toNat) ∧ nq = nq ∧ (1 : Int) = Int.ofNat 2 ∧ 0 = 0 ∧ g = g ∧ a = a ∧ s = s ∧ z = z ∧ Bool.false = Bool.false ∧ Bool.false = Bool.false ∧ 0 = 0 ∧ 0 = 0 ∧ 0 = 0 ∧ sz = sz ∧ Bool.true = Bool.true ∧ w = w ∧ Int.negSucc 0 = Int.negSucc 0 ∧ (0 : Int) = (0 : Int) ∧ L = L ∧ q = q ++ dGet L (plJ a z (IntKind.i64.wrap (at' + (1 : Int)))).toNat ∧ True) (decide ((1 : Int) < (↑(needN nq.toNat) : Int)))) False (decide (z < IntKind.i64.wrap (at' + (↑(needN x1.toNat) : Int))))) !decide ((4096 : Int) < x1)) !decide (x1 < (1 : Int))) False (decide (z ≤ at')) : Prop) := by kernel_rfl
set_option maxRecDepth 100000 in
theorem vjr2 (g : BitVec 64) (a s z at' num nq w : Int) (n : Nat) (F : Nat → By) (sz : Nat) (L q : By) : bodyP Tryd.prog E4 gl0 [] [(11, lsRs g a s z at' num n F sz w L q nq)] 3000 Tryd.f104 4 [.ptr 0 0 0 0, .int .i64 at', .int .i64 num] [jnA g a s z n, dkB sz w, dkL L, enR n F] (retQ Tryd.prog Tryd.f104 4 ⟨[], .tup [.nils, .int .i64 0], [some (some (jnA g a s z n)), some (some (dkB sz w)), some (some (dkL L)), some (some (enR n F))], []⟩) = (
let x1 := (∀ (y : Nat), y < n → outs Bool.true [AV.rb Bool.true (F y) NL.unk] = Bool.true) ∧ (0 : Int) = (0 : Int) ∧ 0 = 0 ∧ g = g ∧ a = a ∧ s = s ∧ z = z ∧ 0 = 0 ∧ 0 = 0 ∧ 0 = 0 ∧ n = n ∧ Bool.false = Bool.false ∧ Bool.false = Bool.false ∧ 0 = 0 ∧ 0 = 0 ∧ 0 = 0 ∧ sz = sz ∧ Bool.true = Bool.true ∧ w = w ∧ Int.negSucc 0 = Int.negSucc 0 ∧ (0 : Int) = (0 : Int) ∧ L = L ∧ n = n ∧ (∀ (y : Nat), y < n → datas Bool.false [AV.rb Bool.true (F y) NL.unk] = Bool.true ∧ [AV.rb Bool.true (F y) NL.unk] = [AV.rb Bool.true (F y) NL.unk]) ∧ True; let x2 := IntKind.i64.wrap (↑(BitVec.ofInt 64 (IntKind.i64.wrap ((↑(List.getD (dGet L (plJ a z at').toNat) 16 (0 : BitVec 8)).toNat : Int) * Int.ofNat 256)) ||| BitVec.ofInt 64 (↑(List.getD (dGet L (plJ a z at').toNat) 17 (0 : BitVec 8)).toNat : Int)).toNat : Int); let x3 := List.take ((IntKind.i64.wrap ((18 : Int) + nq)).toNat - 18) (List.drop 18 q); @Bool.rec (fun _ => Prop) (List.length L = sz * 64 ∧ (0 : Int) ≤ plJ a z at' ∧ plJ a z at' < (↑sz : Int) ∧ 16 < 64 ∧ 16 < List.length (dGet L (plJ a z at').toNat) ∧ 17 < 64 ∧ 17 < List.length (dGet L (plJ a z at').toNat) ∧ @Bool.rec (fun _ => Prop) x1 (@Bool.rec (fun _ => Prop) x1 ((0 : Int) ≤ x2 ∧ x2 < (1099511627776 : Int) ∧ @Bool.rec (fun _ => Prop) ((∃ (x : Unit), True ∧ 0 = 0 ∧ at' = at' ∧ num = num ∧ 0 = 0 ∧ 0 = 0 ∧ 0 = 0 ∧ 64 = 64 ∧ nq = x2 ∧ (1 : Int) = (1 : Int) ∧ 0 = 0 ∧ g = g ∧ a = a ∧ s = s ∧ z = z ∧ 0 = 0 ∧ 0 = 0 ∧ 0 = 0 ∧ n = n ∧ Bool.false = Bool.false ∧ Bool.false = Bool.false ∧ 0 = 0 ∧ 0 = 0 ∧ 0 = 0 ∧ sz = sz ∧ Bool.true = Bool.true ∧ w = w ∧ Int.negSucc 0 = Int.negSucc 0 ∧ (0 : Int) = (0 : Int) ∧ L = L ∧ n = n ∧ (∀ (y : Nat), y < n → datas Bool.false [AV.rb Bool.true (F y) NL.unk] = Bool.true ∧ [AV.rb Bool.true (F y) NL.unk] = [AV.rb Bool.true (F y) NL.unk]) ∧ q = dGet L (plJ a z at').toNat ∧ True) ∧ ∀ (x : Unit), True → (0 : Int) ≤ nq ∧ nq < (1099511627776 : Int) ∧ @Bool.rec (fun _ => Prop) ((0 : Int) ≤ IntKind.i64.wrap ((18 : Int) + nq) ∧ 18 ≤ (IntKind.i64.wrap ((18 : Int) + nq)).toNat ∧ (IntKind.i64.wrap ((18 : Int) + nq)).toNat ≤ 64 ∧ 18 + ((IntKind.i64.wrap ((18 : Int) + nq)).toNat - 18) ≤ List.length q ∧ x3.length < 1099511627776 ∧ 64 = List.length q ∧ needN x3.length * 64 = List.length (enB g num x3) ∧ @Bool.rec (fun _ => Prop) ((∀ (y : Nat), y < n → outs Bool.true [AV.rb Bool.true (F y) NL.unk] = Bool.true) ∧ False) x1 !decide (q = enB g num x3)) (List.length L = sz * 64 ∧ (0 : Int) ≤ plJ a z (IntKind.i64.wrap (at' + (1 : Int))) ∧ plJ a z (IntKind.i64.wrap (at' + (1 : Int))) < (↑sz : Int) ∧ 64 = List.length (dGet L (plJ a z (IntKind.i64.wrap (at' + (1 : Int)))).toNat) ∧ 64 = List.length q ∧ roomFor 64 (List.length (dGet L (plJ a z (IntKind.i64.wrap (at' + (1 : Int)))).toNat)) 1 ∧ ∃ (y : Unit), 0 < 0 ∧ True ∧ 0 = 0 ∧ at' = at' ∧ num = num ∧ 0 = 0 ∧ 0 = 0 ∧ 0 = 0 ∧ 64 = 64 + List.length (dGet L (plJ a z (IntKind.i64.wrap (at' + (1 : Int)))).toNat) ∧ nq = nq ∧ (1 : Int) = Int.ofNat 2 ∧ 0 = 0 ∧ g = g ∧ a = a ∧ s = s ∧ z = z ∧ 0 = 0 ∧ 0 = 0 ∧ 0 = 0 ∧ n = n ∧ Bool.false = Bool.false ∧ Bool.false = Bool.false ∧ 0 = 0 ∧ 0 = 0 ∧ 0 = 0 ∧ sz = sz ∧ Bool.true = Bool.true ∧ w = w ∧ Int.negSucc 0 = Int.negSucc 0 ∧ (0 : Int) = (0 : Int) ∧ L = L ∧ n = n ∧ (∀ (y : Nat), y < n → datas Bool.false [AV.rb Bool.true (F y) NL.unk] = Bool.true ∧ [AV.rb Bool.true (F y) NL.unk] = [AV.rb Bool.true (F y) NL.unk]) ∧ q = q ++ dGet L (plJ a z (IntKind.i64.wrap (at' + (1 : Int)))).toNat ∧ True) (decide ((1 : Int) < (↑(needN nq.toNat) : Int)))) x1 (decide (z < IntKind.i64.wrap (at' + (↑(needN x2.toNat) : Int))))) !decide ((4096 : Int) < x2)) !decide (x2 < (1 : Int))) x1 (decide (z ≤ at')) : Prop) := by kernel_rfl
set_option maxRecDepth 100000 in
theorem vjr3 (g : BitVec 64) (a s z at' num nq w : Int) (n : Nat) (F : Nat → By) (sz m : Nat) (L q B : By) : bodyP Tryd.prog E4 gl0 [] [(11, lsRs g a s z at' num n F sz w L q nq)] 3000 Tryd.f104 4 [.ptr 0 0 0 0, .int .i64 at', .int .i64 num] [jnA g a s z n, dkB sz w, dkL L, enR n F] (retQ Tryd.prog Tryd.f104 4 ⟨[], .tup [.slice 4 18 1 m .un .unk, .int .i64 0], [some (some (jnA g a s z n)), some (some (dkB sz w)), some (some (dkL L)), some (some (enR n F))], [⟨.bytes B, true, 1⟩]⟩) = (
let x1 := IntKind.i64.wrap (↑(BitVec.ofInt 64 (IntKind.i64.wrap ((↑(List.getD (dGet L (plJ a z at').toNat) 16 (0 : BitVec 8)).toNat : Int) * Int.ofNat 256)) ||| BitVec.ofInt 64 (↑(List.getD (dGet L (plJ a z at').toNat) 17 (0 : BitVec 8)).toNat : Int)).toNat : Int); let x2 := ∀ (y : Nat), y < n → outs Bool.true [AV.rb Bool.true (F y) NL.unk] = Bool.true; let x3 := ∀ (y : Nat), y < n → datas Bool.false [AV.rb Bool.true (F y) NL.unk] = Bool.true ∧ [AV.rb Bool.true (F y) NL.unk] = [AV.rb Bool.true (F y) NL.unk]; let x4 := (IntKind.i64.wrap ((18 : Int) + nq)).toNat - 18; @Bool.rec (fun _ => Prop) (List.length L = sz * 64 ∧ (0 : Int) ≤ plJ a z at' ∧ plJ a z at' < (↑sz : Int) ∧ 16 < 64 ∧ 16 < List.length (dGet L (plJ a z at').toNat) ∧ 17 < 64 ∧ 17 < List.length (dGet L (plJ a z at').toNat) ∧ @Bool.rec (fun _ => Prop) (x2 ∧ False) (@Bool.rec (fun _ => Prop) (x2 ∧ False) ((0 : Int) ≤ x1 ∧ x1 < (1099511627776 : Int) ∧ @Bool.rec (fun _ => Prop) ((∃ (x : Unit), True ∧ 0 = 0 ∧ at' = at' ∧ num = num ∧ 0 = 0 ∧ 0 = 0 ∧ 0 = 0 ∧ 64 = 64 ∧ nq = x1 ∧ (1 : Int) = (1 : Int) ∧ 0 = 0 ∧ g = g ∧ a = a ∧ s = s ∧ z = z ∧ 0 = 0 ∧ 0 = 0 ∧ 0 = 0 ∧ n = n ∧ Bool.false = Bool.false ∧ Bool.false = Bool.false ∧ 0 = 0 ∧ 0 = 0 ∧ 0 = 0 ∧ sz = sz ∧ Bool.true = Bool.true ∧ w = w ∧ Int.negSucc 0 = Int.negSucc 0 ∧ (0 : Int) = (0 : Int) ∧ L = L ∧ n = n ∧ x3 ∧ q = dGet L (plJ a z at').toNat ∧ True) ∧ ∀ (x : Unit), True → (0 : Int) ≤ nq ∧ nq < (1099511627776 : Int) ∧ @Bool.rec (fun _ => Prop) ((0 : Int) ≤ IntKind.i64.wrap ((18 : Int) + nq) ∧ 18 ≤ (IntKind.i64.wrap ((18 : Int) + nq)).toNat ∧ (IntKind.i64.wrap ((18 : Int) + nq)).toNat ≤ 64 ∧ 18 + x4 ≤ List.length q ∧ (List.take x4 (List.drop 18 q)).length < 1099511627776 ∧ 64 = List.length q ∧ needN (List.take x4 (List.drop 18 q)).length * 64 = List.length (enB g num (List.take x4 (List.drop 18 q))) ∧ @Bool.rec (fun _ => Prop) (x2 ∧ 18 = 18 ∧ 0 = 0 ∧ m = x4 ∧ (0 : Int) = (0 : Int) ∧ 0 = 0 ∧ g = g ∧ a = a ∧ s = s ∧ z = z ∧ 0 = 0 ∧ 0 = 0 ∧ 0 = 0 ∧ n = n ∧ Bool.false = Bool.false ∧ Bool.false = Bool.false ∧ 0 = 0 ∧ 0 = 0 ∧ 0 = 0 ∧ sz = sz ∧ Bool.true = Bool.true ∧ w = w ∧ Int.negSucc 0 = Int.negSucc 0 ∧ (0 : Int) = (0 : Int) ∧ L = L ∧ n = n ∧ x3 ∧ B = q ∧ True) (x2 ∧ False) !decide (q = enB g num (List.take x4 (List.drop 18 q)))) (List.length L = sz * 64 ∧ (0 : Int) ≤ plJ a z (IntKind.i64.wrap (at' + (1 : Int))) ∧ plJ a z (IntKind.i64.wrap (at' + (1 : Int))) < (↑sz : Int) ∧ 64 = List.length (dGet L (plJ a z (IntKind.i64.wrap (at' + (1 : Int)))).toNat) ∧ 64 = List.length q ∧ roomFor 64 (List.length (dGet L (plJ a z (IntKind.i64.wrap (at' + (1 : Int)))).toNat)) 1 ∧ ∃ (y : Unit), 0 < 0 ∧ True ∧ 0 = 0 ∧ at' = at' ∧ num = num ∧ 0 = 0 ∧ 0 = 0 ∧ 0 = 0 ∧ 64 = 64 + List.length (dGet L (plJ a z (IntKind.i64.wrap (at' + (1 : Int)))).toNat) ∧ nq = nq ∧ (1 : Int) = Int.ofNat 2 ∧ 0 = 0 ∧ g = g ∧ a = a ∧ s = s ∧ z = z ∧ 0 = 0 ∧ 0 = 0 ∧ 0 = 0 ∧ n = n ∧ Bool.false = Bool.false ∧ Bool.false = Bool.false ∧ 0 = 0 ∧ 0 = 0 ∧ 0 = 0 ∧ sz = sz ∧ Bool.true = Bool.true ∧ w = w ∧ Int.negSucc 0 = Int.negSucc 0 ∧ (0 : Int) = (0 : Int) ∧ L = L ∧ n = n ∧ x3 ∧ q = q ++ dGet L (plJ a z (IntKind.i64.wrap (at' + (1 : Int)))).toNat ∧ True) (decide ((1 : Int) < (↑(needN nq.toNat) : Int)))) (x2 ∧ False) (decide (z < IntKind.i64.wrap (at' + (↑(needN x1.toNat) : Int))))) !decide ((4096 : Int) < x1)) !decide (x1 < (1 : Int))) (x2 ∧ False) (decide (z ≤ at')) : Prop) := by kernel_rfl
end Go.Sym

set_option linter.unusedSimpArgs false
namespace Go.Spec
/-- How long the entry is that a sector tells of; the entry. -/
def nqS (q : By) : Int := IntKind.i64.wrap (↑(BitVec.ofInt 64 (IntKind.i64.wrap ((↑(q.getD 16 0).toNat : Int) * Int.ofNat 256)) ||| BitVec.ofInt 64 (↑(q.getD 17 0).toNat : Int)).toNat : Int)
def rdB (q : By) : By := (q.drop 18).take (nqS q).toNat
/-- Whether no entry is read. -/
noncomputable def rdN (g : BitVec 64) (z at' num : Int) (q : By) : Bool := decide (z ≤ at' ∨ nqS q < 1 ∨ 4096 < nqS q ∨ z < IntKind.i64.wrap (at' + (needN (nqS q).toNat : Int)) ∨ q ≠ enB g num (rdB q))
def jSec (a z at' : Int) (L : By) : By := dGet L (plJ a z at').toNat
end Go.Spec
namespace Go.Sym
open Go.Proofs Go.Spec
set_option linter.unusedVariables false
theorem need1 {n : Int} (h : n ≤ 46) : needN n.toNat = 1 ∨ n.toNat = n.toNat ∧ needN n.toNat ≤ 1 := by
  right
  unfold needN
  omega
set_option maxRecDepth 100000 in
theorem bjr0 (g : BitVec 64) (a s z at' num w : Int) (sz : Nat) (L : By) (hL : L.length = sz * 64) (hp : at' < z → 0 ≤ plJ a z at' ∧ plJ a z at' < sz ∧ nqS (jSec a z at' L) ≤ 46) (H : rdN g z at' num (jSec a z at' L) = true) :
    Must (bodyP Tryd.prog E4 gl0 [] [(11, lsRd g a s z at' num sz w L (jSec a z at' L) (nqS (jSec a z at' L)))] 3000 Tryd.f104 3 [.ptr 0 0 0 0, .int .i64 at', .int .i64 num] [jnN g a s z, dkB sz w, dkL L] (retQ Tryd.prog Tryd.f104 3 ⟨[], .tup [.nils, .int .i64 0], [some (some (jnN g a s z)), some (some (dkB sz w)), some (some (dkL L))], []⟩)) := by
  have hH := H
  unfold rdN at hH
  constructor
  rw [vjr0]
  intro x1 x2 x3
  have en : x2 = nqS (jSec a z at' L) := rfl
  have hn : x1 := by
    and_intros <;> first | rfl | trivial | (intro y hy; exact ⟨rfl, rfl⟩) | (intro y hy; rfl)
  have hH := of_decide_eq_true hH
  refine brec (fun c0 => ?_) (fun c0 => ?_)
  · have c0 := dtr c0
    exact hn
  have c0 := dfl c0
  obtain ⟨p1, p2, p3⟩ := hp (by omega)
  have hq : (dGet L (plJ a z at').toNat).length = 64 := dGet_len (by omega)
  have hq2 : (jSec a z at' L).length = 64 := hq
  rw [en]
  clear_value x2
  refine ⟨hL, p1, p2, by omega, by omega, by omega, by omega, brec (fun c1 => ?_) (fun c1 => ?_)⟩
  · have c1 := ntr c1
    refine brec (fun c2 => ?_) (fun c2 => ?_)
    · have c2 := ntr c2
      have e18 : IntKind.i64.wrap (18 + nqS (jSec a z at' L)) = 18 + nqS (jSec a z at' L) := wrap_i64 (by omega) (by omega)
      have e18' : (IntKind.i64.wrap (18 + nqS (jSec a z at' L))).toNat - 18 = (nqS (jSec a z at' L)).toNat := by rw [e18]; omega
      have hT : x3 = rdB (jSec a z at' L) := by
        show List.take ((IntKind.i64.wrap (18 + nqS (jSec a z at' L))).toNat - 18) (List.drop 18 (jSec a z at' L)) = _
        rw [e18']; rfl
      have hTl : (rdB (jSec a z at' L)).length = (nqS (jSec a z at' L)).toNat := by unfold rdB; rw [List.length_take, List.length_drop]; omega
      refine ⟨by omega, by omega, brec (fun c3 => ?_) (fun c3 => ?_)⟩
      · have c3 := dtr c3
        exact hn
      · have c3 := dfl c3
        refine ⟨⟨(), by and_intros <;> first | rfl | trivial | (intro y hy; exact ⟨rfl, rfl⟩)⟩, fun _ _ => ⟨by omega, by omega, brec (fun c4 => ?_) (fun c4 => ?_)⟩⟩
        · exfalso
          have c4 := dtr c4
          unfold needN at c4
          omega
        · rw [hT]
          refine ⟨by omega, by omega, by omega, by omega, by omega, hq2.symm, by rw [enB_len], brec (fun c5 => ?_) (fun c5 => ?_)⟩
          · have c5 := ntr c5
            exact hn
          · have c5 := nfl c5
            exact absurd hH (fun h => h.elim c0 fun h => h.elim c1 fun h => h.elim c2 fun h => h.elim c3 fun h => h c5)
    · have c2 := nfl c2
      exact hn
  · have c1 := nfl c1
    exact hn
set_option maxRecDepth 100000 in
theorem bjr1 (g : BitVec 64) (a s z at' num w : Int) (sz : Nat) (L : By) (hL : L.length = sz * 64) (hp : at' < z → 0 ≤ plJ a z at' ∧ plJ a z at' < sz ∧ nqS (jSec a z at' L) ≤ 46) (H : rdN g z at' num (jSec a z at' L) = false) :
    Must (bodyP Tryd.prog E4 gl0 [] [(11, lsRd g a s z at' num sz w L (jSec a z at' L) (nqS (jSec a z at' L)))] 3000 Tryd.f104 3 [.ptr 0 0 0 0, .int .i64 at', .int .i64 num] [jnN g a s z, dkB sz w, dkL L] (retQ Tryd.prog Tryd.f104 3 ⟨[], .tup [.slice 3 18 1 (nqS (jSec a z at' L)).toNat .un .unk, .int .i64 0], [some (some (jnN g a s z)), some (some (dkB sz w)), some (some (dkL L))], [⟨.bytes (jSec a z at' L), true, 1⟩]⟩)) := by
  have hH := H
  unfold rdN at hH
  constructor
  rw [vjr1]
  intro x1 x2
  have en : x1 = nqS (jSec a z at' L) := rfl
  have hH := of_decide_eq_false hH
  simp only [not_or] at hH
  obtain ⟨a1, a2, a3, a4, a5⟩ := hH
  refine brec (fun c0 => ?_) (fun c0 => ?_)
  · have c0 := dtr c0
    exact absurd (c0) a1
  have c0 := dfl c0
  obtain ⟨p1, p2, p3⟩ := hp (by omega)
  have hq : (dGet L (plJ a z at').toNat).length = 64 := dGet_len (by omega)
  have hq2 : (jSec a z at' L).length = 64 := hq
  rw [en]
  clear_value x1
  refine ⟨hL, p1, p2, by omega, by omega, by omega, by omega, brec (fun c1 => ?_) (fun c1 => ?_)⟩
  · have c1 := ntr c1
    refine brec (fun c2 => ?_) (fun c2 => ?_)
    · have c2 := ntr c2
      have e18 : IntKind.i64.wrap (18 + nqS (jSec a z at' L)) = 18 + nqS (jSec a z at' L) := wrap_i64 (by omega) (by omega)
      have e18' : (IntKind.i64.wrap (18 + nqS (jSec a z at' L))).toNat - 18 = (nqS (jSec a z at' L)).toNat := by rw [e18]; omega
      have hT : List.take x2 (List.drop 18 (jSec a z at' L)) = rdB (jSec a z at' L) := by
        show List.take ((IntKind.i64.wrap (18 + nqS (jSec a z at' L))).toNat - 18) (List.drop 18 (jSec a z at' L)) = _
        rw [e18']; rfl
      have hTl : (rdB (jSec a z at' L)).length = (nqS (jSec a z at' L)).toNat := by unfold rdB; rw [List.length_take, List.length_drop]; omega
      refine ⟨by omega, by omega, brec (fun c3 => ?_) (fun c3 => ?_)⟩
      · have c3 := dtr c3
        exact absurd (c3) a4
      · have c3 := dfl c3
        refine ⟨⟨(), by and_intros <;> first | rfl | trivial | (intro y hy; exact ⟨rfl, rfl⟩)⟩, fun _ _ => ⟨by omega, by omega, brec (fun c4 => ?_) (fun c4 => ?_)⟩⟩
        · exfalso
          have c4 := dtr c4
          unfold needN at c4
          omega
        · rw [hT]
          refine ⟨by omega, by omega, by omega, by show 18 + ((IntKind.i64.wrap (18 + nqS (jSec a z at' L))).toNat - 18) ≤ _; omega, by omega, hq2.symm, by rw [enB_len], brec (fun c5 => ?_) (fun c5 => ?_)⟩
          · have c5 := ntr c5
            exact absurd (fun h => c5 h) a5
          · have c5 := nfl c5
            and_intros <;> first | rfl | trivial | exact e18'.symm
    · have c2 := nfl c2
      exact absurd (c2) a3
  · have c1 := nfl c1
    exact absurd (c1) a2
set_option maxRecDepth 100000 in
theorem bjr2 (g : BitVec 64) (a s z at' num w : Int) (n : Nat) (F : Nat → By) (sz : Nat) (L : By) (hL : L.length = sz * 64) (hp : at' < z → 0 ≤ plJ a z at' ∧ plJ a z at' < sz ∧ nqS (jSec a z at' L) ≤ 46) (H : rdN g z at' num (jSec a z at' L) = true) :
    Must (bodyP Tryd.prog E4 gl0 [] [(11, lsRs g a s z at' num n F sz w L (jSec a z at' L) (nqS (jSec a z at' L)))] 3000 Tryd.f104 4 [.ptr 0 0 0 0, .int .i64 at', .int .i64 num] [jnA g a s z n, dkB sz w, dkL L, enR n F] (retQ Tryd.prog Tryd.f104 4 ⟨[], .tup [.nils, .int .i64 0], [some (some (jnA g a s z n)), some (some (dkB sz w)), some (some (dkL L)), some (some (enR n F))], []⟩)) := by
  have hH := H
  unfold rdN at hH
  constructor
  rw [vjr2]
  intro x1 x2 x3
  have en : x2 = nqS (jSec a z at' L) := rfl
  have hn : x1 := by
    and_intros <;> first | rfl | trivial | (intro y hy; exact ⟨rfl, rfl⟩) | (intro y hy; rfl)
  have hH := of_decide_eq_true hH
  refine brec (fun c0 => ?_) (fun c0 => ?_)
  · have c0 := dtr c0
    exact hn
  have c0 := dfl c0
  obtain ⟨p1, p2, p3⟩ := hp (by omega)
  have hq : (dGet L (plJ a z at').toNat).length = 64 := dGet_len (by omega)
  have hq2 : (jSec a z at' L).length = 64 := hq
  rw [en]
  clear_value x2
  refine ⟨hL, p1, p2, by omega, by omega, by omega, by omega, brec (fun c1 => ?_) (fun c1 => ?_)⟩
  · have c1 := ntr c1
    refine brec (fun c2 => ?_) (fun c2 => ?_)
    · have c2 := ntr c2
      have e18 : IntKind.i64.wrap (18 + nqS (jSec a z at' L)) = 18 + nqS (jSec a z at' L) := wrap_i64 (by omega) (by omega)
      have e18' : (IntKind.i64.wrap (18 + nqS (jSec a z at' L))).toNat - 18 = (nqS (jSec a z at' L)).toNat := by rw [e18]; omega
      have hT : x3 = rdB (jSec a z at' L) := by
        show List.take ((IntKind.i64.wrap (18 + nqS (jSec a z at' L))).toNat - 18) (List.drop 18 (jSec a z at' L)) = _
        rw [e18']; rfl
      have hTl : (rdB (jSec a z at' L)).length = (nqS (jSec a z at' L)).toNat := by unfold rdB; rw [List.length_take, List.length_drop]; omega
      refine ⟨by omega, by omega, brec (fun c3 => ?_) (fun c3 => ?_)⟩
      · have c3 := dtr c3
        exact hn
      · have c3 := dfl c3
        refine ⟨⟨(), by and_intros <;> first | rfl | trivial | (intro y hy; exact ⟨rfl, rfl⟩)⟩, fun _ _ => ⟨by omega, by omega, brec (fun c4 => ?_) (fun c4 => ?_)⟩⟩
        · exfalso
          have c4 := dtr c4
          unfold needN at c4
          omega
        · rw [hT]
          refine ⟨by omega, by omega, by omega, by omega, by omega, hq2.symm, by rw [enB_len], brec (fun c5 => ?_) (fun c5 => ?_)⟩
          · have c5 := ntr c5
            exact hn
          · have c5 := nfl c5
            exact absurd hH (fun h => h.elim c0 fun h => h.elim c1 fun h => h.elim c2 fun h => h.elim c3 fun h => h c5)
    · have c2 := nfl c2
      exact hn
  · have c1 := nfl c1
    exact hn
set_option maxRecDepth 100000 in
theorem bjr3 (g : BitVec 64) (a s z at' num w : Int) (n : Nat) (F : Nat → By) (sz : Nat) (L : By) (hL : L.length = sz * 64) (hp : at' < z → 0 ≤ plJ a z at' ∧ plJ a z at' < sz ∧ nqS (jSec a z at' L) ≤ 46) (H : rdN g z at' num (jSec a z at' L) = false) :
    Must (bodyP Tryd.prog E4 gl0 [] [(11, lsRs g a s z at' num n F sz w L (jSec a z at' L) (nqS (jSec a z at' L)))] 3000 Tryd.f104 4 [.ptr 0 0 0 0, .int .i64 at', .int .i64 num] [jnA g a s z n, dkB sz w, dkL L, enR n F] (retQ Tryd.prog Tryd.f104 4 ⟨[], .tup [.slice 4 18 1 (nqS (jSec a z at' L)).toNat .un .unk, .int .i64 0], [some (some (jnA g a s z n)), some (some (dkB sz w)), some (some (dkL L)), some (some (enR n F))], [⟨.bytes (jSec a z at' L), true, 1⟩]⟩)) := by
  have hH := H
  unfold rdN at hH
  constructor
  rw [vjr3]
  intro x1 x2 x3 x4
  have en : x1 = nqS (jSec a z at' L) := rfl
  have hH := of_decide_eq_false hH
  simp only [not_or] at hH
  obtain ⟨a1, a2, a3, a4, a5⟩ := hH
  have hx3 : x3 := fun y hy => ⟨rfl, rfl⟩
  refine brec (fun c0 => ?_) (fun c0 => ?_)
  · have c0 := dtr c0
    exact absurd (c0) a1
  have c0 := dfl c0
  obtain ⟨p1, p2, p3⟩ := hp (by omega)
  have hq : (dGet L (plJ a z at').toNat).length = 64 := dGet_len (by omega)
  have hq2 : (jSec a z at' L).length = 64 := hq
  rw [en]
  clear_value x1
  refine ⟨hL, p1, p2, by omega, by omega, by omega, by omega, brec (fun c1 => ?_) (fun c1 => ?_)⟩
  · have c1 := ntr c1
    refine brec (fun c2 => ?_) (fun c2 => ?_)
    · have c2 := ntr c2
      have e18 : IntKind.i64.wrap (18 + nqS (jSec a z at' L)) = 18 + nqS (jSec a z at' L) := wrap_i64 (by omega) (by omega)
      have e18' : (IntKind.i64.wrap (18 + nqS (jSec a z at' L))).toNat - 18 = (nqS (jSec a z at' L)).toNat := by rw [e18]; omega
      have hT : List.take x4 (List.drop 18 (jSec a z at' L)) = rdB (jSec a z at' L) := by
        show List.take ((IntKind.i64.wrap (18 + nqS (jSec a z at' L))).toNat - 18) (List.drop 18 (jSec a z at' L)) = _
        rw [e18']; rfl
      have hTl : (rdB (jSec a z at' L)).length = (nqS (jSec a z at' L)).toNat := by unfold rdB; rw [List.length_take, List.length_drop]; omega
      refine ⟨by omega, by omega, brec (fun c3 => ?_) (fun c3 => ?_)⟩
      · have c3 := dtr c3
        exact absurd (c3) a4
      · have c3 := dfl c3
        refine ⟨⟨(), by and_intros <;> first | rfl | trivial | (intro y hy; exact ⟨rfl, rfl⟩)⟩, fun _ _ => ⟨by omega, by omega, brec (fun c4 => ?_) (fun c4 => ?_)⟩⟩
        · exfalso
          have c4 := dtr c4
          unfold needN at c4
          omega
        · rw [hT]
          refine ⟨by omega, by omega, by omega, by show 18 + ((IntKind.i64.wrap (18 + nqS (jSec a z at' L))).toNat - 18) ≤ _; omega, by omega, hq2.symm, by rw [enB_len], brec (fun c5 => ?_) (fun c5 => ?_)⟩
          · have c5 := ntr c5
            exact absurd (fun h => c5 h) a5
          · have c5 := nfl c5
            and_intros <;> first | rfl | trivial | exact e18'.symm | (intro y hy; exact ⟨rfl, rfl⟩) | (intro y hy; rfl)
    · have c2 := nfl c2
      exact absurd (c2) a3
  · have c1 := nfl c1
    exact absurd (c1) a2
end Go.Sym

namespace Go.Sym
open Go.Proofs Go.Spec
set_option linter.unusedVariables false
/-- What a reading asks. -/
def rdO (sz : Nat) (a z at' : Int) (L : By) : List Prop := [L.length = sz * 64, at' < z → 0 ≤ plJ a z at' ∧ plJ a z at' < sz ∧ nqS (jSec a z at' L) ≤ 46]
def rowF (F : Nat → List AV) (i : Nat) : By := match F i with | [.rb true l _] => l | _ => []
/-- Nothing is read. -/
noncomputable def gjr0 (xs : List AV) (bs : List ABlk) : TL := match xs, bs with
  | [.ptr 0 0 0 0, .int .i64 at', .int .i64 num], [⟨.cells [.ptr 1 0 0 0, .u64 g, .int .i64 a, .int .i64 s, .int .i64 z, .nils, .bool false], true, 0⟩, ⟨.cells [.slice 2 0 64 sz .ow (.is false), .bool true, .int .i64 w, .int .i64 (-1), .int .i64 0], true, 0⟩, ⟨.bytes L, true, 64⟩] =>
    .ok ⟨rdO sz a z at' L ++ [rdN g z at' num (jSec a z at' L) = true], .tup [.nils, .int .i64 0], [some (some (jnN g a s z)), some (some (dkB sz w)), some (some (dkL L))], []⟩
  | [.ptr 0 0 0 0, .int .i64 at', .int .i64 num], [⟨.cells [.ptr 1 0 0 0, .u64 g, .int .i64 a, .int .i64 s, .int .i64 z, .slice 3 0 1 n .ow .unk, .bool false], true, 0⟩, ⟨.cells [.slice 2 0 64 sz .ow (.is false), .bool true, .int .i64 w, .int .i64 (-1), .int .i64 0], true, 0⟩, ⟨.bytes L, true, 64⟩, ⟨.rows 1 n2 G, true, 1⟩] =>
    .ok ⟨rdO sz a z at' L ++ [rdN g z at' num (jSec a z at' L) = true, n2 = n ∧ G = fun i => [.rb true (rowF G i) .unk]], .tup [.nils, .int .i64 0], [some (some (jnA g a s z n)), some (some (dkB sz w)), some (some (dkL L)), some (some (enR n (rowF G)))], []⟩
  | _, _ => .no
noncomputable def spjr0 : Spec := ⟨[.kp, .kp, .kp], fun xs h => reachX h 200 (namesL (xs.take 1)) [], kinds, gjr0⟩
theorem cjr0 : COK Tryd.prog gl0 104 (mkF spjr0) := by
  refine ctrE (fn := Tryd.f104) [] 3000 (by kernel_rfl) (by kernel_rfl) okE4 (by kernel_rfl) (fun args w => by kernel_rfl) fun xs bs r hs ho => ?_
  replace hs : (gjr0 xs bs).sel = some r := hs
  unfold gjr0 at hs
  split at hs
  · simp only [TL.sel, Option.some.injEq] at hs
    subst hs
    obtain ⟨h1, ho⟩ := obsT_cons.1 ho
    obtain ⟨h2, ho⟩ := obsT_cons.1 ho
    exact ⟨_, bjr0 _ _ _ _ _ _ _ _ _ h1 h2 (obsT_one.1 ho)⟩
  · rename_i at' num g a s z n sz w L n2 G
    simp only [TL.sel, Option.some.injEq] at hs
    subst hs
    obtain ⟨h1, ho⟩ := obsT_cons.1 ho
    obtain ⟨h2, ho⟩ := obsT_cons.1 ho
    obtain ⟨h3, ho⟩ := obsT_cons.1 ho
    obtain ⟨rfl, h4⟩ := obsT_one.1 ho
    generalize rowF G = F at h4 ⊢
    subst h4
    exact ⟨_, bjr2 g a s z at' num w n2 F sz L h1 h2 h3⟩
  · simp [TL.sel] at hs
/-- The entry at the end is read, or nothing. -/
noncomputable def gjr1 (xs : List AV) (bs : List ABlk) : TL := match xs, bs with
  | [.ptr 0 0 0 0, .int .i64 at', .int .i64 num], [⟨.cells [.ptr 1 0 0 0, .u64 g, .int .i64 a, .int .i64 s, .int .i64 z, .slice 3 0 1 n .ow .unk, .bool false], true, 0⟩, ⟨.cells [.slice 2 0 64 sz .ow (.is false), .bool true, .int .i64 w, .int .i64 (-1), .int .i64 0], true, 0⟩, ⟨.bytes L, true, 64⟩, ⟨.rows 1 n2 G, true, 1⟩] =>
    .br (rdN g z at' num (jSec a z at' L))
      (.ok ⟨rdO sz a z at' L ++ [n2 = n ∧ G = fun i => [.rb true (rowF G i) .unk]], .tup [.nils, .int .i64 0], [some (some (jnA g a s z n)), some (some (dkB sz w)), some (some (dkL L)), some (some (enR n (rowF G)))], []⟩)
      (.ok ⟨rdO sz a z at' L ++ [n2 = n ∧ G = fun i => [.rb true (rowF G i) .unk]], .tup [.slice 4 18 1 (nqS (jSec a z at' L)).toNat .un .unk, .int .i64 0], [some (some (jnA g a s z n)), some (some (dkB sz w)), some (some (dkL L)), some (some (enR n (rowF G)))], [⟨.bytes (jSec a z at' L), true, 1⟩]⟩)
  | _, _ => .no
noncomputable def spjr1 : Spec := ⟨[.kp, .kp, .kp], fun xs h => reachX h 200 (namesL (xs.take 1)) [], kinds, gjr1⟩
theorem cjr1 : COK Tryd.prog gl0 104 (mkF spjr1) := by
  refine ctrE (fn := Tryd.f104) [] 3000 (by kernel_rfl) (by kernel_rfl) okE4 (by kernel_rfl) (fun args w => by kernel_rfl) fun xs bs r hs ho => ?_
  replace hs : (gjr1 xs bs).sel = some r := hs
  unfold gjr1 at hs
  split at hs
  · rename_i at' num g a s z n sz w L n2 G
    cases hb : rdN g z at' num (jSec a z at' L) with
    | true =>
      rw [hb] at hs
      simp only [TL.sel, Option.some.injEq] at hs
      subst hs
      obtain ⟨h1, ho⟩ := obsT_cons.1 ho
      obtain ⟨h2, ho⟩ := obsT_cons.1 ho
      obtain ⟨rfl, h4⟩ := obsT_one.1 ho
      generalize rowF G = F at h4 ⊢
      subst h4
      exact ⟨_, bjr2 g a s z at' num w n2 F sz L h1 h2 hb⟩
    | false =>
      rw [hb] at hs
      simp only [TL.sel, Option.some.injEq] at hs
      subst hs
      obtain ⟨h1, ho⟩ := obsT_cons.1 ho
      obtain ⟨h2, ho⟩ := obsT_cons.1 ho
      obtain ⟨rfl, h4⟩ := obsT_one.1 ho
      generalize rowF G = F at h4 ⊢
      subst h4
      exact ⟨_, bjr3 g a s z at' num w n2 F sz L h1 h2 hb⟩
  · simp [TL.sel] at hs
end Go.Sym

namespace Go.Sym
open Go.Proofs Go.Spec
set_option linter.unusedVariables false
noncomputable def T1 : Ctx := (Ctx.none []).add 24 (mkF spjN)
theorem okT1 : COKs Tryd.prog gl0 T1 := COKs.none.add cjN
def lsSe (n : Nat) (F : Nat → By) : LS := ⟨Nat, fun k => [(3, .int .i64 k), (6, .ros false 1 n (fun i => [.rb true (F i) .unk]) .unk), (7, .int .i64 n), (8, .int .i64 k)], fun _ => [], 1000, fun k => n - k, fun k => k ≤ n, fun _ => []⟩
noncomputable def T2 : Ctx := (Ctx.none []).exe Tryd.prog gl0 [] 3000 Tryd.f101.params.size 101 Tryd.f101
theorem okT2 : COKs Tryd.prog gl0 T2 := COKs.none.exe [] 3000 _ (by kernel_rfl) (by kernel_rfl) (by kernel_rfl) (fun args w => by kernel_rfl)
noncomputable def T3 : Ctx := (T2.add 99 (mkF spjR)).add 100 (mkF spjO)
theorem okT3 : COKs Tryd.prog gl0 T3 := (okT2.add cjR).add cjO
end Go.Sym

namespace Go.Sym
open Go.Proofs Go.Spec
set_option linter.unusedVariables false
set_option maxRecDepth 100000 in
theorem vjS (n : Nat) (F : Nat → By) (e : Int) : bodyP Tryd.prog T1 gl0 [] [(4, lsSe n F)] 3000 Tryd.f58 0 [.ros false 1 n (fun i => [.rb true (F i) .unk]) .unk] [] (retQ Tryd.prog Tryd.f58 0 ⟨[], .int .i64 e, [], []⟩) = (
(∃ (x : Nat), x.le n ∧ (↑x : Int) = (0 : Int) ∧ n = n ∧ (∀ (y : Nat), y < n → datas Bool.false [AV.rb Bool.true (F y) NL.unk] = Bool.true ∧ F y = F y ∧ True) ∧ (↑n : Int) = (↑n : Int) ∧ (↑x : Int) = (0 : Int) ∧ True) ∧ ∀ (x : Nat), x.le n → @Bool.rec (fun _ => Prop) (e = (↑x : Int) ∧ True) ((0 : Int) ≤ (↑x : Int) ∧ (↑x : Int).toNat < n ∧ (0 : Int) ≤ (↑(List.length (F (↑x : Int).toNat)) : Int) ∧ (↑(List.length (F (↑x : Int).toNat)) : Int) < (1099511627776 : Int) ∧ ∃ (y : Nat), n - y < n - x ∧ y.le n ∧ (↑y : Int) = IntKind.i64.wrap ((↑x : Int) + (↑(needN (↑(List.length (F (↑x : Int).toNat)) : Int).toNat) : Int)) ∧ n = n ∧ (∀ (y : Nat), y < n → datas Bool.false [AV.rb Bool.true (F y) NL.unk] = Bool.true ∧ F y = F y ∧ True) ∧ (↑n : Int) = (↑n : Int) ∧ (↑y : Int) = IntKind.i64.wrap ((↑x : Int) + (1 : Int)) ∧ True) (decide ((↑x : Int) < (↑n : Int))) : Prop) := by kernel_rfl
set_option maxRecDepth 100000 in
theorem vjS0 (G : Nat → List AV) (e : Int) : bodyP Tryd.prog T1 gl0 [] [] 3000 Tryd.f58 0 [.ros true 1 0 G (.is true)] [] (retQ Tryd.prog Tryd.f58 0 ⟨[], .int .i64 e, [], []⟩) = (
e = (0 : Int) ∧ True : Prop) := by kernel_rfl
set_option maxRecDepth 100000 in
theorem vjK (sz : Nat) (w a s z : Int) (g : BitVec 64) (f : Bool) (L : By) : bodyP Tryd.prog T3 gl0 [] [] 3000 Tryd.f50 2 [.ptr 0 0 0 0] [dkA sz w, dkL L] (retQ Tryd.prog Tryd.f50 2 ⟨[], .tup [.ptr 2 0 0 0, .bool f, .int .i64 0], [some (some (dkA sz w)), some (some (dkL L))], [⟨.cells [.ptr 0 0 0 0, .u64 g, .int .i64 a, .int .i64 s, .int .i64 z, .nils, .bool false], true, 0⟩]⟩) = (
let x1 := @Bool.rec (fun _ => Prop) (0 = 0 ∧ f = Bool.true ∧ (0 : Int) = (0 : Int) ∧ Bool.false = Bool.false ∧ 0 = 0 ∧ 0 = 0 ∧ 0 = 0 ∧ sz = sz ∧ Bool.true = Bool.true ∧ w = w ∧ Int.negSucc 0 = Int.negSucc 0 ∧ (0 : Int) = (0 : Int) ∧ L = L ∧ 0 = 0 ∧ (g = if okS (dGet L 1) = Bool.true then genS (dGet L 1) else (0 : BitVec 64)) ∧ (a = if okS (dGet L 1) = Bool.true then areS (dGet L 1) else (0 : Int)) ∧ s = Int.ofNat 1 ∧ z = IntKind.i64.wrap ((IntKind.i64.wrap ((↑sz : Int) - (2 : Int))).tdiv (2 : Int)) ∧ Bool.false = Bool.false ∧ True) False (decide ((↑sz : Int) < (4 : Int))); let x2 := @Bool.rec (fun _ => Prop) (0 = 0 ∧ f = Bool.true ∧ (0 : Int) = (0 : Int) ∧ Bool.false = Bool.false ∧ 0 = 0 ∧ 0 = 0 ∧ 0 = 0 ∧ sz = sz ∧ Bool.true = Bool.true ∧ w = w ∧ Int.negSucc 0 = Int.negSucc 0 ∧ (0 : Int) = (0 : Int) ∧ L = L ∧ 0 = 0 ∧ (g = if okS (dGet L 0) = Bool.true then genS (dGet L 0) else (0 : BitVec 64)) ∧ (a = if okS (dGet L 0) = Bool.true then areS (dGet L 0) else (0 : Int)) ∧ s = (0 : Int) ∧ z = IntKind.i64.wrap ((IntKind.i64.wrap ((↑sz : Int) - (2 : Int))).tdiv (2 : Int)) ∧ Bool.false = Bool.false ∧ True) False (decide ((↑sz : Int) < (4 : Int))); List.length L = sz * 64 ∧ (0 : Int) ≤ (0 : Int) ∧ (0 : Int) < (↑sz : Int) ∧ 64 = List.length (dGet L 0) ∧ List.length (dGet L 0) = 64 ∧ @Bool.rec (fun _ => Prop) (List.length L = sz * 64 ∧ (0 : Int) ≤ Int.ofNat 1 ∧ Int.ofNat 1 < (↑sz : Int) ∧ 64 = List.length (dGet L 1) ∧ List.length (dGet L 1) = 64 ∧ @Bool.rec (fun _ => Prop) (@Bool.rec (fun _ => Prop) (0 = 0 ∧ f = Bool.false ∧ (0 : Int) = (0 : Int) ∧ Bool.false = Bool.false ∧ 0 = 0 ∧ 0 = 0 ∧ 0 = 0 ∧ sz = sz ∧ Bool.true = Bool.true ∧ w = w ∧ Int.negSucc 0 = Int.negSucc 0 ∧ (0 : Int) = (0 : Int) ∧ L = L ∧ 0 = 0 ∧ g = BitVec.ofNat 64 0 ∧ a = (0 : Int) ∧ s = (0 : Int) ∧ z = IntKind.i64.wrap ((IntKind.i64.wrap ((↑sz : Int) - (2 : Int))).tdiv (2 : Int)) ∧ Bool.false = Bool.false ∧ True) False (decide ((↑sz : Int) < (4 : Int)))) x1 (okS (dGet L 1))) (List.length L = sz * 64 ∧ (0 : Int) ≤ Int.ofNat 1 ∧ Int.ofNat 1 < (↑sz : Int) ∧ 64 = List.length (dGet L 1) ∧ List.length (dGet L 1) = 64 ∧ @Bool.rec (fun _ => Prop) x2 (@Bool.rec (fun _ => Prop) x2 x1 (decide ((if okS (dGet L 0) = Bool.true then genS (dGet L 0) else (0 : BitVec 64)).toNat < (if okS (dGet L 1) = Bool.true then genS (dGet L 1) else (0 : BitVec 64)).toNat))) (okS (dGet L 1))) (okS (dGet L 0)) : Prop) := by kernel_rfl
end Go.Sym

set_option linter.unusedSimpArgs false
namespace Go.Spec
/-- Which slot counts; whether there is one; what it says. -/
noncomputable def lkU (L : By) : Bool := okS (dGet L 1) && (!okS (dGet L 0) || decide ((genS (dGet L 0)).toNat < (genS (dGet L 1)).toNat))
noncomputable def lkF (L : By) : Bool := okS (dGet L 0) || okS (dGet L 1)
noncomputable def lkG (L : By) : BitVec 64 := if lkU L then genS (dGet L 1) else if okS (dGet L 0) then genS (dGet L 0) else 0
noncomputable def lkA (L : By) : Int := if lkU L then areS (dGet L 1) else if okS (dGet L 0) then areS (dGet L 0) else 0
noncomputable def lkS (L : By) : Int := if lkU L then 1 else 0
def arZ (sz : Nat) : Int := (((sz - 2) / 2 : Nat) : Int)
end Go.Spec
namespace Go.Sym
open Go.Proofs Go.Spec
set_option linter.unusedVariables false
theorem arZ_eq {sz : Nat} (h : 4 ≤ sz) (h2 : sz < 1099511627776) : arZ sz = IntKind.i64.wrap ((IntKind.i64.wrap ((↑sz : Int) - 2)).tdiv 2) := by
  have e0 : IntKind.i64.wrap ((↑sz : Int) - 2) = ((sz - 2 : Nat) : Int) := wrap_nat (sz - 2) (by omega) (by omega)
  have e : ((sz - 2 : Nat) : Int).tdiv 2 = (((sz - 2) / 2 : Nat) : Int) := by
    rw [Int.tdiv_eq_ediv_of_nonneg (by omega)]
    rfl
  rw [e0, e, wrap_nat ((sz - 2) / 2) rfl (by omega)]
  rfl
def jnL (g : BitVec 64) (a s z : Int) : ABlk := ⟨.cells [.ptr 0 0 0 0, .u64 g, .int .i64 a, .int .i64 s, .int .i64 z, .nils, .bool false], true, 0⟩
theorem bjK (sz : Nat) (w : Int) (L : By) (hL : L.length = sz * 64) (h4 : 4 ≤ sz) (hs : sz < 1099511627776) : Must (bodyP Tryd.prog T3 gl0 [] [] 3000 Tryd.f50 2 [.ptr 0 0 0 0] [dkA sz w, dkL L] (retQ Tryd.prog Tryd.f50 2 ⟨[], .tup [.ptr 2 0 0 0, .bool (lkF L), .int .i64 0], [some (some (dkA sz w)), some (some (dkL L))], [jnL (lkG L) (lkA L) (lkS L) (arZ sz)]⟩)) := by
  constructor
  unfold jnL
  rw [vjK]
  have l0 : (dGet L 0).length = 64 := dGet_len (by omega)
  have l1 : (dGet L 1).length = 64 := dGet_len (by omega)
  have d4 : decide ((sz : Int) < 4) = false := decide_eq_false (by omega)
  have n1 : Int.ofNat 1 = 1 := rfl
  have ez := arZ_eq h4 hs
  rw [d4, ← ez, n1]
  set_option simprocs false in dsimp only
  have hc : ∀ {p : Prop}, p → L.length = sz * 64 ∧ (0 : Int) ≤ 1 ∧ (1 : Int) < sz ∧ 64 = (dGet L 1).length ∧ (dGet L 1).length = 64 ∧ p := fun h => ⟨hL, by omega, by omega, l1.symm, l1, h⟩
  refine ⟨hL, by omega, by omega, l0.symm, l0, ?_⟩
  unfold lkF lkG lkA lkS lkU
  cases h0 : okS (dGet L 0) <;> cases h1 : okS (dGet L 1) <;> cases hd : decide ((genS (dGet L 0)).toNat < (genS (dGet L 1)).toNat) <;> simp only [Bool.and_true, Bool.and_false, Bool.true_and, Bool.false_and, Bool.not_true, Bool.not_false, Bool.or_true, Bool.or_false, Bool.true_or, Bool.false_or, if_true, if_false, Bool.false_eq_true, hd] <;> refine hc ?_ <;> and_intros <;> first | rfl | trivial
noncomputable def gjK (xs : List AV) (bs : List ABlk) : TL := match xs, bs with
  | [.ptr 0 0 0 0], [⟨.cells [.slice 1 0 64 sz .ow (.is false), .bool true, .int .i64 w, .int .i64 (-1), .int .i64 0], true, 0⟩, ⟨.bytes L, true, 64⟩] =>
    .ok ⟨[L.length = sz * 64, 4 ≤ sz, sz < 1099511627776], .tup [.ptr 2 0 0 0, .bool (lkF L), .int .i64 0], [some (some (dkA sz w)), some (some (dkL L))], [jnL (lkG L) (lkA L) (lkS L) (arZ sz)]⟩
  | _, _ => .no
noncomputable def spjK : Spec := ⟨[.kp], fun xs h => reachX h 200 (namesL (xs.take 1)) [], kinds, gjK⟩
theorem cjK : COK Tryd.prog gl0 50 (mkF spjK) := by
  refine ctrE (fn := Tryd.f50) [] 3000 (by kernel_rfl) (by kernel_rfl) okT3 (by kernel_rfl) (fun args w => by kernel_rfl) fun xs bs r hs ho => ?_
  replace hs : (gjK xs bs).sel = some r := hs
  unfold gjK at hs
  split at hs
  · simp only [TL.sel, Option.some.injEq] at hs
    subst hs
    obtain ⟨h1, ho⟩ := obsT_cons.1 ho
    obtain ⟨h2, ho⟩ := obsT_cons.1 ho
    exact ⟨_, bjK _ _ _ h1 h2 (obsT_one.1 ho)⟩
  · simp [TL.sel] at hs
theorem needL {b : By} (h : b.length ≤ 46) : needN b.length = 1 ∨ needN b.length ≤ 1 := by right; unfold needN; omega
theorem need_1 {n : Nat} (h : n ≤ 46) : needN n = 1 := by unfold needN; omega
theorem bjS (n : Nat) (F : Nat → By) (hn : n < 1099511627776) (hF : ∀ i, i < n → (F i).length ≤ 46) : Must (bodyP Tryd.prog T1 gl0 [] [(4, lsSe n F)] 3000 Tryd.f58 0 [.ros false 1 n (fun i => [.rb true (F i) .unk]) .unk] [] (retQ Tryd.prog Tryd.f58 0 ⟨[], .int .i64 n, [], []⟩)) := by
  constructor
  rw [vjS]
  refine ⟨⟨0, Nat.zero_le _, rfl, rfl, fun y hy => ⟨rfl, rfl, trivial⟩, rfl, rfl, trivial⟩, fun x hx => ?_⟩
  have hx : x ≤ n := hx
  refine brec (fun c => ?_) (fun c => ?_)
  · have c := dtr c
    have hF := hF x (by omega)
    rw [Int.toNat_natCast, Int.toNat_natCast, need_1 hF]
    refine ⟨by omega, by omega, by omega, by omega, x + 1, by omega, ?_, (wrap_nat (x + 1) (by omega) (by omega)).symm, rfl, fun y hy => ⟨rfl, rfl, trivial⟩, rfl, (wrap_nat (x + 1) (by omega) (by omega)).symm, trivial⟩
    show x + 1 ≤ n
    omega
  · have c := dfl c
    exact ⟨by omega, trivial⟩
theorem bjS0 (G : Nat → List AV) : Must (bodyP Tryd.prog T1 gl0 [] [] 3000 Tryd.f58 0 [.ros true 1 0 G (.is true)] [] (retQ Tryd.prog Tryd.f58 0 ⟨[], .int .i64 0, [], []⟩)) := by
  constructor
  rw [vjS0]
  exact ⟨rfl, trivial⟩
noncomputable def gjS (xs : List AV) (bs : List ABlk) : TL := match xs, bs with
  | [.ros true 1 0 G (.is true)], [] => .ok ⟨[], .int .i64 0, [], []⟩
  | [.ros false 1 n G .unk], [] => .ok ⟨[n < 1099511627776, ∀ i, i < n → (rowF G i).length ≤ 46, G = fun i => [.rb true (rowF G i) .unk]], .int .i64 n, [], []⟩
  | _, _ => .no
noncomputable def spjS : Spec := ⟨[.r 1], fun _ _ => [], fun _ _ => [], gjS⟩
theorem cjS : COK Tryd.prog gl0 58 (mkF spjS) := by
  refine ctrE (fn := Tryd.f58) [] 3000 (by kernel_rfl) (by kernel_rfl) okT1 (by kernel_rfl) (fun args w => by kernel_rfl) fun xs bs r hs ho => ?_
  replace hs : (gjS xs bs).sel = some r := hs
  unfold gjS at hs
  split at hs
  · simp only [TL.sel, Option.some.injEq] at hs
    subst hs
    exact ⟨_, bjS0 _⟩
  · rename_i n G
    simp only [TL.sel, Option.some.injEq] at hs
    subst hs
    obtain ⟨h1, ho⟩ := obsT_cons.1 ho
    obtain ⟨h2, ho⟩ := obsT_cons.1 ho
    have h4 := obsT_one.1 ho
    generalize rowF G = F at h2 h4
    subst h4
    exact ⟨_, bjS n F h1 h2⟩
  · simp [TL.sel] at hs
end Go.Sym
