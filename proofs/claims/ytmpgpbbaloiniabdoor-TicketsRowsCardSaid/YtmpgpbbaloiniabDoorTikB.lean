/- The same by the document; what is minted once is good once. -/
import Derived.Test.YtmpgpbbaloiniabDoorTikA
namespace Go.Sym
open Go.Proofs Go.Spec
set_option linter.unusedVariables false
def bxZ : ABlk := ⟨.cells (tabC tz .nils), true, 0⟩
def lsTo (p : Bool) (t : Tab) : LS := ⟨Nat, fun j => [(1, .ptr 101 0 0 0), (2, .ptr 103 0 0 0), (3, .ptr 102 0 0 0), (4, .int .i64 j)], fun j => [(101, bxT p t), (103, bxZ), (102, ⟨.cells (tabC t (.slice 100 0 33 j .ow .unk)), true, 0⟩), (100, ⟨.rows 33 j (rowE t), true, 33⟩)], 1000, fun j => t.n - j, fun j => j ≤ t.n ∧ t.n < 3518437208781, fun _ => []⟩
end Go.Sym

namespace Go.Sym
open Go.Proofs Go.Spec
set_option linter.unusedVariables false
set_option maxRecDepth 100000 in
theorem vt19 (t : Tab) (u : NL) : bodyP Tryd.prog (Ctx.none []) gl0 [] [(4, lsTo true t)] 3000 Tryd.f19 0 [tabA true t u] [] (retQ Tryd.prog Tryd.f19 0 ⟨[], tabR t, [], [blkR t]⟩) = (
let x1 := ∀ (y : Nat), y < t.n → datas Bool.true (AV.int IntKind.i64 (t.I y) :: List.map (fun (i : Nat) => AV.u8 (t.P y i)) (List.range 32)) = Bool.true ∧ t.I y = t.I y ∧ allP (fun (i : Nat) => t.P y i = t.P y i) 0 32 True; (∃ (x : Nat), (x ≤ t.n ∧ t.n < 3518437208781) ∧ 0 = 0 ∧ 0 = 0 ∧ 0 = 0 ∧ (↑x : Int) = (0 : Int) ∧ allP (fun (i : Nat) => t.key i = t.key i) 0 32 (t.nx = t.nx ∧ t.n = t.n ∧ x1 ∧ allP (fun (i : Nat) => BitVec.ofNat 8 0 = BitVec.ofNat 8 0) 0 32 (Int.ofNat 0 = (0 : Int) ∧ allP (fun (i : Nat) => t.key i = t.key i) 0 32 (t.nx = t.nx ∧ x = 0 ∧ x = 0 ∧ True)))) ∧ ∀ (x : Nat), x ≤ t.n ∧ t.n < 3518437208781 → @Bool.rec (fun _ => Prop) ((∀ (y : Nat), y < t.n → outs Bool.true (AV.int IntKind.i64 (t.I y) :: List.map (fun (i : Nat) => AV.u8 (t.P y i)) (List.range 32)) = Bool.true) ∧ allP (fun (i : Nat) => t.key i = t.key i) 0 32 (t.nx = t.nx ∧ 0 = 0 ∧ 0 = 0 ∧ 0 = 0 ∧ t.n = x ∧ t.n = x ∧ (∀ (y : Nat), let x1 := AV.int IntKind.i64 (t.I y) :: List.map (fun (i : Nat) => AV.u8 (t.P y i)) (List.range 32); y < t.n → datas Bool.false x1 = Bool.true ∧ x1 = x1) ∧ True)) ((0 : Int) ≤ (↑x : Int) ∧ (↑x : Int).toNat < t.n ∧ (0 : Int) ≤ (↑x : Int) ∧ (↑x : Int).toNat < t.n ∧ x = x ∧ roomFor x 1 40 ∧ ∃ (y : Nat), t.n - y < t.n - x ∧ (y ≤ t.n ∧ t.n < 3518437208781) ∧ 0 = 0 ∧ 0 = 0 ∧ 0 = 0 ∧ (↑y : Int) = IntKind.i64.wrap ((↑x : Int) + (1 : Int)) ∧ allP (fun (i : Nat) => t.key i = t.key i) 0 32 (t.nx = t.nx ∧ t.n = t.n ∧ x1 ∧ allP (fun (i : Nat) => BitVec.ofNat 8 0 = BitVec.ofNat 8 0) 0 32 (Int.ofNat 0 = Int.ofNat 0 ∧ allP (fun (i : Nat) => t.key i = t.key i) 0 32 (t.nx = t.nx ∧ 0 = 0 ∧ 0 = 0 ∧ 0 = 0 ∧ y = x + 1 ∧ y = x + 1 ∧ (∀ (y_1 : Nat), y_1 < y → datas Bool.false (AV.int IntKind.i64 (t.I y_1) :: List.map (fun (i : Nat) => AV.u8 (t.P y_1 i)) (List.range 32)) = Bool.true ∧ glue (fun (j : Nat) => AV.int IntKind.i64 (t.I j) :: List.map (fun (i : Nat) => AV.u8 (t.P j i)) (List.range 32)) x (cut 33 (List.take 33 (List.drop 0 (AV.int IntKind.i64 (t.I (↑x : Int).toNat) :: rg 32 fun (i : Nat) => AV.u8 (t.P (↑x : Int).toNat i))))) y_1 = AV.int IntKind.i64 (t.I y_1) :: List.map (fun (i : Nat) => AV.u8 (t.P y_1 i)) (List.range 32)) ∧ True)))) (decide ((↑x : Int) < (↑t.n : Int))) : Prop) := by kernel_rfl
set_option maxRecDepth 100000 in
theorem vt10 (t : Tab) (u : NL) : bodyP Tryd.prog (Ctx.none []) gl0 [] [(4, lsTo false t)] 3000 Tryd.f10 0 [tabA false t u] [] (retQ Tryd.prog Tryd.f10 0 ⟨[], tabR t, [], [blkR t]⟩) = (
let x1 := ∀ (y : Nat), y < t.n → datas Bool.false (AV.int IntKind.i64 (t.I y) :: List.map (fun (i : Nat) => AV.u8 (t.P y i)) (List.range 32)) = Bool.true ∧ t.I y = t.I y ∧ allP (fun (i : Nat) => t.P y i = t.P y i) 0 32 True; (∃ (x : Nat), (x ≤ t.n ∧ t.n < 3518437208781) ∧ 0 = 0 ∧ 0 = 0 ∧ 0 = 0 ∧ (↑x : Int) = (0 : Int) ∧ allP (fun (i : Nat) => t.key i = t.key i) 0 32 (t.nx = t.nx ∧ t.n = t.n ∧ x1 ∧ allP (fun (i : Nat) => BitVec.ofNat 8 0 = BitVec.ofNat 8 0) 0 32 (Int.ofNat 0 = (0 : Int) ∧ allP (fun (i : Nat) => t.key i = t.key i) 0 32 (t.nx = t.nx ∧ x = 0 ∧ x = 0 ∧ True)))) ∧ ∀ (x : Nat), x ≤ t.n ∧ t.n < 3518437208781 → @Bool.rec (fun _ => Prop) ((∀ (y : Nat), y < t.n → outs Bool.true (AV.int IntKind.i64 (t.I y) :: List.map (fun (i : Nat) => AV.u8 (t.P y i)) (List.range 32)) = Bool.true) ∧ allP (fun (i : Nat) => t.key i = t.key i) 0 32 (t.nx = t.nx ∧ 0 = 0 ∧ 0 = 0 ∧ 0 = 0 ∧ t.n = x ∧ t.n = x ∧ (∀ (y : Nat), let x1 := AV.int IntKind.i64 (t.I y) :: List.map (fun (i : Nat) => AV.u8 (t.P y i)) (List.range 32); y < t.n → datas Bool.false x1 = Bool.true ∧ x1 = x1) ∧ True)) ((0 : Int) ≤ (↑x : Int) ∧ (↑x : Int).toNat < t.n ∧ (0 : Int) ≤ (↑x : Int) ∧ (↑x : Int).toNat < t.n ∧ x = x ∧ roomFor x 1 40 ∧ ∃ (y : Nat), t.n - y < t.n - x ∧ (y ≤ t.n ∧ t.n < 3518437208781) ∧ 0 = 0 ∧ 0 = 0 ∧ 0 = 0 ∧ (↑y : Int) = IntKind.i64.wrap ((↑x : Int) + (1 : Int)) ∧ allP (fun (i : Nat) => t.key i = t.key i) 0 32 (t.nx = t.nx ∧ t.n = t.n ∧ x1 ∧ allP (fun (i : Nat) => BitVec.ofNat 8 0 = BitVec.ofNat 8 0) 0 32 (Int.ofNat 0 = Int.ofNat 0 ∧ allP (fun (i : Nat) => t.key i = t.key i) 0 32 (t.nx = t.nx ∧ 0 = 0 ∧ 0 = 0 ∧ 0 = 0 ∧ y = x + 1 ∧ y = x + 1 ∧ (∀ (y_1 : Nat), y_1 < y → datas Bool.false (AV.int IntKind.i64 (t.I y_1) :: List.map (fun (i : Nat) => AV.u8 (t.P y_1 i)) (List.range 32)) = Bool.true ∧ glue (fun (j : Nat) => AV.int IntKind.i64 (t.I j) :: List.map (fun (i : Nat) => AV.u8 (t.P j i)) (List.range 32)) x (cut 33 (List.take 33 (List.drop 0 (AV.int IntKind.i64 (t.I (↑x : Int).toNat) :: rg 32 fun (i : Nat) => AV.u8 (t.P (↑x : Int).toNat i))))) y_1 = AV.int IntKind.i64 (t.I y_1) :: List.map (fun (i : Nat) => AV.u8 (t.P y_1 i)) (List.range 32)) ∧ True)))) (decide ((↑x : Int) < (↑t.n : Int))) : Prop) := by kernel_rfl
end Go.Sym

namespace Go.Sym
open Go.Proofs Go.Spec
set_option linter.unusedVariables false
theorem row_next (t : Tab) (x y : Nat) (hy : y < x + 1) : glue (fun (j : Nat) => AV.int IntKind.i64 (t.I j) :: List.map (fun (i : Nat) => AV.u8 (t.P j i)) (List.range 32)) x (cut 33 (List.take 33 (List.drop 0 (AV.int IntKind.i64 (t.I x) :: rg 32 fun (i : Nat) => AV.u8 (t.P x i))))) y = AV.int IntKind.i64 (t.I y) :: List.map (fun (i : Nat) => AV.u8 (t.P y i)) (List.range 32) := by
  unfold glue
  by_cases c : y < x
  · simp only [if_pos c]
  · simp only [if_neg c]
    have : y = x := by omega
    subst this
    rw [Nat.sub_self]
    rfl
set_option maxRecDepth 100000 in
theorem bt19 (t : Tab) (u : NL) (hn : t.n < 3518437208781) : Must (bodyP Tryd.prog (Ctx.none []) gl0 [] [(4, lsTo true t)] 3000 Tryd.f19 0 [tabA true t u] [] (retQ Tryd.prog Tryd.f19 0 ⟨[], tabR t, [], [blkR t]⟩)) := by
  constructor
  rw [vt19]
  set_option simprocs false in dsimp only
  have hr := tk_rows true t
  refine ⟨⟨0, ⟨Nat.zero_le _, hn⟩, rfl, rfl, rfl, rfl, allP_of 32 0 (fun _ _ _ => rfl) ⟨rfl, rfl, hr, allP_of 32 0 (fun _ _ _ => rfl) ⟨rfl, allP_of 32 0 (fun _ _ _ => rfl) ⟨rfl, rfl, rfl, trivial⟩⟩⟩⟩, fun x hx => ?_⟩
  obtain ⟨hx, -⟩ := hx
  refine brec (fun h1 => ?_) (fun h1 => ?_)
  · have h1 := dyes h1
    have h1 : x < t.n := by omega
    rw [Int.toNat_natCast]
    exact ⟨Int.natCast_nonneg _, h1, Int.natCast_nonneg _, h1, rfl, by unfold roomFor; omega, x + 1, by omega, ⟨by omega, hn⟩, rfl, rfl, rfl, (wrap_nat (x + 1) (by omega) (by omega)).symm, allP_of 32 0 (fun _ _ _ => rfl) ⟨rfl, rfl, hr, allP_of 32 0 (fun _ _ _ => rfl) ⟨rfl, allP_of 32 0 (fun _ _ _ => rfl) ⟨rfl, rfl, rfl, rfl, rfl, rfl, fun y hy => ⟨rfl, row_next t x y hy⟩, trivial⟩⟩⟩⟩
  · have h1 := dno h1
    have : x = t.n := by omega
    exact ⟨fun _ _ => rfl, allP_of 32 0 (fun _ _ _ => rfl) ⟨rfl, rfl, rfl, rfl, this.symm, this.symm, fun _ _ => ⟨rfl, rfl⟩, trivial⟩⟩
noncomputable def g19 (xs : List AV) (bs : List ABlk) : TL := match xs, bs with
  | [.agg cs], [] => asTab true cs fun t nl o => .ok ⟨(t.n < 3518437208781) :: o, tabR t, [], [blkR t]⟩
  | _, _ => .no
noncomputable def sp19 : Spec := ⟨[tabK], fun _ _ => [], fun _ _ => [], g19⟩
theorem ct19 : COK Tryd.prog gl0 19 (mkF sp19) := by
  refine ctrE (fn := Tryd.f19) [] 3000 (by kernel_rfl) (by kernel_rfl) (COKs.none (keep := [])) (by kernel_rfl) (fun args w => by kernel_rfl) fun xs bs r hs ho => ?_
  replace hs : (g19 xs bs).sel = some r := hs
  unfold g19 at hs
  split at hs
  · obtain ⟨t, nl, o, hs, hc⟩ := asTab_sel hs
    simp only [TL.sel, Option.some.injEq] at hs
    subst hs
    obtain ⟨hn, ho⟩ := obsT_cons.1 ho
    rw [hc ho]
    exact ⟨_, bt19 t nl hn⟩
  · simp [TL.sel] at hs
set_option maxRecDepth 100000 in
theorem bt10 (t : Tab) (u : NL) (hn : t.n < 3518437208781) : Must (bodyP Tryd.prog (Ctx.none []) gl0 [] [(4, lsTo false t)] 3000 Tryd.f10 0 [tabA false t u] [] (retQ Tryd.prog Tryd.f10 0 ⟨[], tabR t, [], [blkR t]⟩)) := by
  constructor
  rw [vt10]
  set_option simprocs false in dsimp only
  have hr := tk_rows false t
  refine ⟨⟨0, ⟨Nat.zero_le _, hn⟩, rfl, rfl, rfl, rfl, allP_of 32 0 (fun _ _ _ => rfl) ⟨rfl, rfl, hr, allP_of 32 0 (fun _ _ _ => rfl) ⟨rfl, allP_of 32 0 (fun _ _ _ => rfl) ⟨rfl, rfl, rfl, trivial⟩⟩⟩⟩, fun x hx => ?_⟩
  obtain ⟨hx, -⟩ := hx
  refine brec (fun h1 => ?_) (fun h1 => ?_)
  · have h1 := dyes h1
    have h1 : x < t.n := by omega
    rw [Int.toNat_natCast]
    exact ⟨Int.natCast_nonneg _, h1, Int.natCast_nonneg _, h1, rfl, by unfold roomFor; omega, x + 1, by omega, ⟨by omega, hn⟩, rfl, rfl, rfl, (wrap_nat (x + 1) (by omega) (by omega)).symm, allP_of 32 0 (fun _ _ _ => rfl) ⟨rfl, rfl, hr, allP_of 32 0 (fun _ _ _ => rfl) ⟨rfl, allP_of 32 0 (fun _ _ _ => rfl) ⟨rfl, rfl, rfl, rfl, rfl, rfl, fun y hy => ⟨rfl, row_next t x y hy⟩, trivial⟩⟩⟩⟩
  · have h1 := dno h1
    have : x = t.n := by omega
    exact ⟨fun _ _ => rfl, allP_of 32 0 (fun _ _ _ => rfl) ⟨rfl, rfl, rfl, rfl, this.symm, this.symm, fun _ _ => ⟨rfl, rfl⟩, trivial⟩⟩
noncomputable def g10 (xs : List AV) (bs : List ABlk) : TL := match xs, bs with
  | [.agg cs], [] => asTab false cs fun t nl o => .ok ⟨(t.n < 3518437208781) :: o, tabR t, [], [blkR t]⟩
  | _, _ => .no
noncomputable def sp10 : Spec := ⟨[tabK], fun _ _ => [], fun _ _ => [], g10⟩
theorem ct10 : COK Tryd.prog gl0 10 (mkF sp10) := by
  refine ctrE (fn := Tryd.f10) [] 3000 (by kernel_rfl) (by kernel_rfl) (COKs.none (keep := [])) (by kernel_rfl) (fun args w => by kernel_rfl) fun xs bs r hs ho => ?_
  replace hs : (g10 xs bs).sel = some r := hs
  unfold g10 at hs
  split at hs
  · obtain ⟨t, nl, o, hs, hc⟩ := asTab_sel hs
    simp only [TL.sel, Option.some.injEq] at hs
    subst hs
    obtain ⟨hn, ho⟩ := obsT_cons.1 ho
    rw [hc ho]
    exact ⟨_, bt10 t nl hn⟩
  · simp [TL.sel] at hs
end Go.Sym

namespace Go.Spec
/-- Rows that are the same. -/
def rowSame (a b : Tab) (j : Nat) : Prop := a.I j = b.I j ∧ ∀ i, i < 32 → a.P j i = b.P j i
end Go.Spec
namespace Go.Sym
open Go.Proofs Go.Spec
set_option linter.unusedVariables false
def ls12 (a b : Tab) : LS := ⟨Nat, fun j => [(2, .ptr 101 0 0 0), (3, .ptr 102 0 0 0), (5, .int .i64 j)], fun j => [(101, bxT false a), (102, bxT false b)], 1000, fun j => a.n - j, fun j => j ≤ a.n ∧ a.n < 3518437208781 ∧ a.n = b.n ∧ ∀ k, k < j → rowSame a b k, fun _ => []⟩
end Go.Sym

namespace Go.Sym
open Go.Proofs Go.Spec
set_option linter.unusedVariables false
set_option maxRecDepth 100000 in
theorem vt12 (a b : Tab) (u v : NL) (z : Bool) : bodyP Tryd.prog (Ctx.none []) gl0 [] [(5, ls12 a b)] 3000 Tryd.f12 0 [tabA false a u, tabA false b v] [] (retQ Tryd.prog Tryd.f12 0 ⟨[], .bool z, [], []⟩) = (
let x1 := allP (fun (i : Nat) => a.key i = a.key i) 0 32 (a.nx = a.nx ∧ a.n = a.n ∧ (∀ (y : Nat), y < a.n → datas Bool.false (AV.int IntKind.i64 (a.I y) :: List.map (fun (i : Nat) => AV.u8 (a.P y i)) (List.range 32)) = Bool.true ∧ a.I y = a.I y ∧ allP (fun (i : Nat) => a.P y i = a.P y i) 0 32 True) ∧ allP (fun (i : Nat) => b.key i = b.key i) 0 32 (b.nx = b.nx ∧ b.n = b.n ∧ (∀ (y : Nat), y < b.n → datas Bool.false (AV.int IntKind.i64 (b.I y) :: List.map (fun (i : Nat) => AV.u8 (b.P y i)) (List.range 32)) = Bool.true ∧ b.I y = b.I y ∧ allP (fun (i : Nat) => b.P y i = b.P y i) 0 32 True) ∧ True)); @Bool.rec (fun _ => Prop) (z = Bool.false ∧ True) (@Bool.rec (fun _ => Prop) (z = Bool.false ∧ True) (@Bool.rec (fun _ => Prop) ((∃ (x : Nat), (x ≤ a.n ∧ a.n < 3518437208781 ∧ a.n = b.n ∧ ∀ (k : Nat), k < x → a.I k = b.I k ∧ ∀ (i : Nat), i < 32 → a.P k i = b.P k i) ∧ 0 = 0 ∧ 0 = 0 ∧ (↑x : Int) = (0 : Int) ∧ x1) ∧ ∀ (x : Nat), (x ≤ a.n ∧ a.n < 3518437208781 ∧ a.n = b.n ∧ ∀ (k : Nat), k < x → a.I k = b.I k ∧ ∀ (i : Nat), i < 32 → a.P k i = b.P k i) → @Bool.rec (fun _ => Prop) (z = Bool.true ∧ True) ((0 : Int) ≤ (↑x : Int) ∧ (↑x : Int).toNat < a.n ∧ (0 : Int) ≤ (↑x : Int) ∧ (↑x : Int).toNat < b.n ∧ @Bool.rec (fun _ => Prop) (∃ (y : Nat), a.n - y < a.n - x ∧ (y ≤ a.n ∧ a.n < 3518437208781 ∧ a.n = b.n ∧ ∀ (k : Nat), k < y → a.I k = b.I k ∧ ∀ (i : Nat), i < 32 → a.P k i = b.P k i) ∧ 0 = 0 ∧ 0 = 0 ∧ (↑y : Int) = IntKind.i64.wrap ((↑x : Int) + (1 : Int)) ∧ x1) (z = Bool.false ∧ True) !(decide (a.I (↑x : Int).toNat = b.I (↑x : Int).toNat) && (andP (fun (i : Nat) => decide (a.P (↑x : Int).toNat i = b.P (↑x : Int).toNat i)) 0 32 Bool.true && Bool.true))) (decide ((↑x : Int) < (↑a.n : Int)))) (z = Bool.false ∧ True) !decide ((↑a.n : Int) = (↑b.n : Int))) !!decide (a.nx = b.nx)) !!andP (fun (i : Nat) => decide (a.key i = b.key i)) 0 32 Bool.true : Prop) := by kernel_rfl
end Go.Sym

namespace Go.Spec
def tSame (a b : Tab) : Prop := (∀ i, i < 32 → a.key i = b.key i) ∧ a.nx = b.nx ∧ a.n = b.n ∧ ∀ k, k < a.n → rowSame a b k
open Classical in
noncomputable def tSameB (a b : Tab) : Bool := decide (tSame a b)
theorem tSameB_yes {a b : Tab} (h : tSame a b) : tSameB a b = true := by unfold tSameB; exact (@decide_eq_true_iff _ (Classical.propDecidable _)).2 h
theorem tSameB_no {a b : Tab} (h : ¬ tSame a b) : tSameB a b = false := by unfold tSameB; exact (@decide_eq_false_iff_not _ (Classical.propDecidable _)).2 h
end Go.Spec
namespace Go.Sym
open Go.Proofs Go.Spec
set_option linter.unusedVariables false
theorem keyEq {f g : Nat → BitVec 8} : andP (fun i => decide (f i = g i)) 0 32 true = true ↔ ∀ i, i < 32 → f i = g i := by
  rw [andP_iff]
  exact ⟨fun h i hi => of_decide_eq_true (h.1 i (Nat.zero_le _) (by omega)), fun h => ⟨fun i _ hi => decide_eq_true (h i (by omega)), rfl⟩⟩
theorem rowEq {a b : Tab} {x : Nat} : (decide (a.I x = b.I x) && (andP (fun (i : Nat) => decide (a.P x i = b.P x i)) 0 32 true && true)) = true ↔ rowSame a b x := by
  rw [Bool.and_true, Bool.and_eq_true, keyEq]
  exact ⟨fun h => ⟨of_decide_eq_true h.1, h.2⟩, fun h => ⟨decide_eq_true h.1, h.2⟩⟩
theorem keep_t {b : Bool} (h : (!!b) = true) : b = true := by cases b <;> first | rfl | cases h
theorem keep_f {b : Bool} (h : (!!b) = false) : b = false := by cases b <;> first | rfl | cases h
theorem fls {b : Bool} {p : Prop} (i : b = true ↔ p) (h : b = false) : ¬ p := fun c => by rw [i.2 c] at h; cases h
set_option maxRecDepth 100000 in
theorem bt12 (a b : Tab) (u v : NL) (hn : a.n < 3518437208781) : Must (bodyP Tryd.prog (Ctx.none []) gl0 [] [(5, ls12 a b)] 3000 Tryd.f12 0 [tabA false a u, tabA false b v] [] (retQ Tryd.prog Tryd.f12 0 ⟨[], .bool (tSameB a b), [], []⟩)) := by
  constructor
  rw [vt12]
  set_option simprocs false in dsimp only
  have ha := tk_rows false a
  have hb := tk_rows false b
  have hx1 : allP (fun (i : Nat) => a.key i = a.key i) 0 32 (a.nx = a.nx ∧ a.n = a.n ∧ (∀ (y : Nat), y < a.n → datas Bool.false (AV.int IntKind.i64 (a.I y) :: List.map (fun (i : Nat) => AV.u8 (a.P y i)) (List.range 32)) = Bool.true ∧ a.I y = a.I y ∧ allP (fun (i : Nat) => a.P y i = a.P y i) 0 32 True) ∧ allP (fun (i : Nat) => b.key i = b.key i) 0 32 (b.nx = b.nx ∧ b.n = b.n ∧ (∀ (y : Nat), y < b.n → datas Bool.false (AV.int IntKind.i64 (b.I y) :: List.map (fun (i : Nat) => AV.u8 (b.P y i)) (List.range 32)) = Bool.true ∧ b.I y = b.I y ∧ allP (fun (i : Nat) => b.P y i = b.P y i) 0 32 True) ∧ True)) := allP_of 32 0 (fun _ _ _ => rfl) ⟨rfl, rfl, ha, allP_of 32 0 (fun _ _ _ => rfl) ⟨rfl, rfl, hb, trivial⟩⟩
  refine brec (fun h0 => ?_) (fun h0 => ?_)
  rotate_left
  · have h0 := fls keyEq (keep_f h0)
    exact ⟨tSameB_no (fun c => h0 c.1), trivial⟩
  have h0 := keyEq.1 (keep_t h0)
  refine brec (fun h1 => ?_) (fun h1 => ?_)
  rotate_left
  · have h1 := dno (keep_f h1)
    exact ⟨tSameB_no (fun c => h1 c.2.1), trivial⟩
  have h1 := dyes (keep_t h1)
  refine brec (fun h2 => ?_) (fun h2 => ?_)
  · have h2 := dno (bnot_t h2)
    exact ⟨tSameB_no (fun c => h2 (by rw [c.2.2.1])), trivial⟩
  have h2 := dyes (bnot_f h2)
  have h2 : a.n = b.n := by omega
  refine ⟨⟨0, ⟨Nat.zero_le _, hn, h2, fun k hk => absurd hk (Nat.not_lt_zero k)⟩, rfl, rfl, rfl, hx1⟩, fun x hx => ?_⟩
  obtain ⟨hx, -, -, hk⟩ := hx
  refine brec (fun h3 => ?_) (fun h3 => ?_)
  · have h3 := dyes h3
    have h3 : x < a.n := by omega
    rw [Int.toNat_natCast]
    refine ⟨Int.natCast_nonneg _, h3, Int.natCast_nonneg _, by omega, ?_⟩
    refine brec (fun h4 => ?_) (fun h4 => ?_)
    · have h4 := fls rowEq (bnot_t h4)
      exact ⟨tSameB_no (fun c => h4 (c.2.2.2 x h3)), trivial⟩
    · have h4 := rowEq.1 (bnot_f h4)
      refine ⟨x + 1, by omega, ⟨by omega, hn, h2, fun k hk' => ?_⟩, rfl, rfl, (wrap_nat (x + 1) (by omega) (by omega)).symm, hx1⟩
      by_cases e : k = x
      · subst e; exact h4
      · exact hk k (by omega)
  · have h3 := dno h3
    exact ⟨tSameB_yes ⟨h0, h1, h2, fun k hk' => hk k (by omega)⟩, trivial⟩
noncomputable def g12 (xs : List AV) (bs : List ABlk) : TL := match xs, bs with
  | [.agg cs, .agg ds], [] => asTab false cs fun a nl o => asTab false ds fun b nl2 o2 => .ok ⟨[a.n < 3518437208781, obsT o, obsT o2], .bool (tSameB a b), [], []⟩
  | _, _ => .no
noncomputable def sp12 : Spec := ⟨[tabK, tabK], fun _ _ => [], fun _ _ => [], g12⟩
theorem ct12 : COK Tryd.prog gl0 12 (mkF sp12) := by
  refine ctrE (fn := Tryd.f12) [] 3000 (by kernel_rfl) (by kernel_rfl) (COKs.none (keep := [])) (by kernel_rfl) (fun args w => by kernel_rfl) fun xs bs r hs ho => ?_
  replace hs : (g12 xs bs).sel = some r := hs
  unfold g12 at hs
  split at hs
  · obtain ⟨a, nl, o, hs, hc⟩ := asTab_sel hs
    obtain ⟨b, nl2, o2, hs, hc2⟩ := asTab_sel hs
    simp only [TL.sel, Option.some.injEq] at hs
    subst hs
    obtain ⟨hn, ho⟩ := obsT_cons.1 ho
    obtain ⟨ho, ho2⟩ := obsT_cons.1 ho
    rw [hc ho, hc2 (obsT_one.1 ho2)]
    exact ⟨_, bt12 a b nl nl2 hn⟩
  · simp [TL.sel] at hs
end Go.Sym

namespace Go.Spec
/-- Which are kept of the first j, where the one at a is left out. -/
def cntA (a j : Nat) : Nat := if a < j then j - 1 else j
end Go.Spec
namespace Go.Sym
open Go.Proofs Go.Spec
set_option linter.unusedVariables false
def ls15 (p : Bool) (t : Tab) (a : Nat) (id : Int) : LS := ⟨Nat, fun j => [(2, .ptr 101 0 0 0), (4, .ptr 103 0 0 0), (7, .int .i64 id), (8, .ptr 102 0 0 0), (9, .bool (decide (a < j))), (10, .int .i64 j)], fun j => [(101, bxT p t), (103, bxZ), (102, ⟨.cells (tabC t (.slice 100 0 33 (cntA a j) .ow .unk)), true, 0⟩), (100, ⟨.rows 33 (cntA a j) (rowE (t.del a)), true, 33⟩)], 1000, fun j => t.n - j, fun j => j ≤ t.n ∧ t.n < 3518437208781, fun _ => []⟩
def ls15c (p : Bool) (t : Tab) (a : Nat) (id : Int) : LS := ⟨Nat, fun j => [(2, .ptr 101 0 0 0), (4, .ptr 103 0 0 0), (7, .int .i64 id), (8, .ptr 102 0 0 0), (9, .bool (decide (a < j + 1))), (10, .int .i64 j)], fun j => [(101, bxT p t), (103, bxZ), (102, ⟨.cells (tabC t (.slice 100 0 33 (cntA a (j + 1)) .ow .unk)), true, 0⟩), (100, ⟨.rows 33 (cntA a (j + 1)) (rowE (t.del a)), true, 33⟩)], 1000, fun j => t.n - j, fun j => j < t.n ∧ t.n < 3518437208781, fun _ => []⟩
def ls15k (p : Bool) (t : Tab) (k : By) (id : Int) : LS := ⟨Unit, fun _ => [(1, .rb false k .unk), (2, .ptr 101 0 0 0), (4, .ptr 103 0 0 0), (7, .int .i64 id)], fun _ => [(101, bxT p t), (103, bxZ)], 1000, fun _ => 0, fun _ => True, fun _ => []⟩
end Go.Sym

namespace Go.Sym
open Go.Proofs Go.Spec
set_option linter.unusedVariables false
set_option maxRecDepth 100000 in
theorem vt15 (t R : Tab) (a : Nat) (i0 : Int) (u : NL) (k : By) (id e : Int) : bodyP Tryd.prog T2 gl0 [] [(20004, ls15k true t k i0), (10, ls15 true t a i0), (10013, ls15c true t a i0)] 3000 Tryd.f15 0 [tabA true t u, .rb false k .unk] [] (retQ Tryd.prog Tryd.f15 0 ⟨[], .tup [tabR R, .int .i64 id, .int .i64 e], [], [blkR R]⟩) = (
let x1 := (∀ (y : Nat), y < R.n → outs Bool.true (AV.int IntKind.i64 (R.I y) :: List.map (fun (i : Nat) => AV.u8 (R.P y i)) (List.range 32)) = Bool.true) ∧ allP (fun (i : Nat) => R.key i = BitVec.ofNat 8 0) 0 32 (R.nx = (0 : Int) ∧ R.n = 0 ∧ id = (0 : Int) ∧ e = (13 : Int) ∧ R.n = 0 ∧ True); let x2 := ∀ (y : Nat), y < t.n → datas Bool.true (AV.int IntKind.i64 (t.I y) :: List.map (fun (i : Nat) => AV.u8 (t.P y i)) (List.range 32)) = Bool.true ∧ t.I y = t.I y ∧ allP (fun (i : Nat) => t.P y i = t.P y i) 0 32 True; let x3 := fun (i : Nat) => t.key i = t.key i; let x4 := fun (i : Nat) => BitVec.ofNat 8 0 = BitVec.ofNat 8 0; @Bool.rec (fun _ => Prop) x1 (0 < List.length k ∧ @Bool.rec (fun _ => Prop) ((0 < List.length k ∧ 1 < List.length k ∧ 2 < List.length k ∧ 3 < List.length k ∧ ∃ (y : Unit), True ∧ k = k ∧ 0 = 0 ∧ 0 = 0 ∧ i0 = IntKind.i64.wrap (IntKind.i64.wrap (IntKind.i64.wrap (IntKind.i64.wrap ((↑(List.getD k 0 (0 : BitVec 8)).toNat : Int) * Int.ofNat 16777216) + IntKind.i64.wrap ((↑(List.getD k 1 (0 : BitVec 8)).toNat : Int) * Int.ofNat 65536)) + IntKind.i64.wrap ((↑(List.getD k 2 (0 : BitVec 8)).toNat : Int) * Int.ofNat 256)) + (↑(List.getD k 3 (0 : BitVec 8)).toNat : Int)) ∧ allP x3 0 32 (t.nx = t.nx ∧ t.n = t.n ∧ x2 ∧ allP x4 0 32 (Int.ofNat 0 = (0 : Int) ∧ True))) ∧ ∀ (x : Unit), True → List.length (tkB (fun (i : Nat) => (rg 32 t.key).getD i (0 : BitVec 8)) i0) = List.length (tkB (fun (i : Nat) => (rg 32 t.key).getD i (0 : BitVec 8)) i0) ∧ @Bool.rec (fun _ => Prop) x1 (@Bool.rec (fun _ => Prop) ((∃ (x : Nat), (x ≤ t.n ∧ t.n < 3518437208781) ∧ 0 = 0 ∧ 0 = 0 ∧ i0 = i0 ∧ 0 = 0 ∧ decide (a < x) = Bool.false ∧ (↑x : Int) = (0 : Int) ∧ allP x3 0 32 (t.nx = t.nx ∧ t.n = t.n ∧ x2 ∧ allP x4 0 32 (Int.ofNat 0 = Int.ofNat 0 ∧ allP x3 0 32 (t.nx = t.nx ∧ cntA a x = 0 ∧ cntA a x = 0 ∧ True)))) ∧ ∀ (x : Nat), x ≤ t.n ∧ t.n < 3518437208781 → @Bool.rec (fun _ => Prop) (@Bool.rec (fun _ => Prop) ((∀ (y : Nat), y < R.n → outs Bool.true (AV.int IntKind.i64 (R.I y) :: List.map (fun (i : Nat) => AV.u8 (R.P y i)) (List.range 32)) = Bool.true) ∧ allP (fun (i : Nat) => R.key i = t.key i) 0 32 (R.nx = t.nx ∧ 0 = 0 ∧ 0 = 0 ∧ 0 = 0 ∧ R.n = cntA a x ∧ id = i0 ∧ e = (0 : Int) ∧ R.n = cntA a x ∧ (∀ (y : Nat), y < R.n → datas Bool.false (AV.int IntKind.i64 (R.I y) :: List.map (fun (i : Nat) => AV.u8 (R.P y i)) (List.range 32)) = Bool.true ∧ AV.int IntKind.i64 ((t.del a).I y) :: List.map (fun (i : Nat) => AV.u8 ((t.del a).P y i)) (List.range 32) = AV.int IntKind.i64 (R.I y) :: List.map (fun (i : Nat) => AV.u8 (R.P y i)) (List.range 32)) ∧ True)) ((∀ (y : Nat), y < R.n → outs Bool.true (AV.int IntKind.i64 (R.I y) :: List.map (fun (i : Nat) => AV.u8 (R.P y i)) (List.range 32)) = Bool.true) ∧ allP (fun (i : Nat) => R.key i = BitVec.ofNat 8 0) 0 32 (R.nx = (0 : Int) ∧ R.n = 0 ∧ id = (0 : Int) ∧ e = (11 : Int) ∧ R.n = 0 ∧ True)) !decide (a < x)) ((0 : Int) ≤ (↑x : Int) ∧ (↑x : Int).toNat < t.n ∧ @Bool.rec (fun _ => Prop) ((0 : Int) ≤ (↑x : Int) ∧ (↑x : Int).toNat < t.n ∧ cntA a x = cntA a x ∧ roomFor (cntA a x) 1 40 ∧ ∃ (y : Nat), t.n - y < t.n - x ∧ (y ≤ t.n ∧ t.n < 3518437208781) ∧ 0 = 0 ∧ 0 = 0 ∧ i0 = i0 ∧ 0 = 0 ∧ decide (a < y) = decide (a < x) ∧ (↑y : Int) = IntKind.i64.wrap ((↑x : Int) + (1 : Int)) ∧ allP x3 0 32 (t.nx = t.nx ∧ t.n = t.n ∧ x2 ∧ allP x4 0 32 (Int.ofNat 0 = Int.ofNat 0 ∧ allP x3 0 32 (t.nx = t.nx ∧ 0 = 0 ∧ 0 = 0 ∧ 0 = 0 ∧ cntA a y = cntA a x + 1 ∧ cntA a y = cntA a x + 1 ∧ (∀ (y_1 : Nat), y_1 < cntA a y → datas Bool.false (AV.int IntKind.i64 ((t.del a).I y_1) :: List.map (fun (i : Nat) => AV.u8 ((t.del a).P y_1 i)) (List.range 32)) = Bool.true ∧ glue (fun (j : Nat) => AV.int IntKind.i64 ((t.del a).I j) :: List.map (fun (i : Nat) => AV.u8 ((t.del a).P j i)) (List.range 32)) (cntA a x) (cut 33 (List.take 33 (List.drop 0 (AV.int IntKind.i64 (t.I (↑x : Int).toNat) :: rg 32 fun (i : Nat) => AV.u8 (t.P (↑x : Int).toNat i))))) y_1 = AV.int IntKind.i64 ((t.del a).I y_1) :: List.map (fun (i : Nat) => AV.u8 ((t.del a).P y_1 i)) (List.range 32)) ∧ True)))) (∃ (y : Nat), t.n - y < t.n - x ∧ (y ≤ t.n ∧ t.n < 3518437208781) ∧ 0 = 0 ∧ 0 = 0 ∧ i0 = i0 ∧ 0 = 0 ∧ decide (a < y) = Bool.true ∧ (↑y : Int) = IntKind.i64.wrap ((↑x : Int) + (1 : Int)) ∧ allP x3 0 32 (t.nx = t.nx ∧ t.n = t.n ∧ x2 ∧ allP x4 0 32 (Int.ofNat 0 = Int.ofNat 0 ∧ allP x3 0 32 (t.nx = t.nx ∧ 0 = 0 ∧ 0 = 0 ∧ 0 = 0 ∧ cntA a y = cntA a x ∧ cntA a y = cntA a x ∧ (∀ (y_1 : Nat), let x1 := AV.int IntKind.i64 ((t.del a).I y_1) :: List.map (fun (i : Nat) => AV.u8 ((t.del a).P y_1 i)) (List.range 32); y_1 < cntA a y → datas Bool.false x1 = Bool.true ∧ x1 = x1) ∧ True)))) (decide (t.I (↑x : Int).toNat = i0))) (decide ((↑x : Int) < (↑t.n : Int)))) x1 (decide (t.nx ≤ i0))) !!decide (tkB (fun (i : Nat) => (rg 32 t.key).getD i (0 : BitVec 8)) i0 = k)) x1 (decide (127 < (List.getD k 0 (0 : BitVec 8)).toNat))) !!decide ((↑(List.length k) : Int) = (16 : Int)) : Prop) := by kernel_rfl
end Go.Sym

namespace Go.Spec
open Go.Sym
theorem Tab.ok.lt {t : Tab} (h : t.ok) (j : Nat) : ∀ d, j + d + 1 < t.n → t.I j < t.I (j + d + 1)
  | 0, hd => by
    have := (h.h3 (j + 1) hd).1
    exact this
  | d + 1, hd => by
    have h1 := h.lt j d (by omega)
    have h2 := (h.h3 (j + d + 1 + 1) hd).1
    have h2 : t.I (j + d + 1) < t.I (j + d + 1 + 1) := h2
    exact Int.lt_trans h1 h2
theorem Tab.ok.one {t : Tab} (h : t.ok) {j l : Nat} (hj : j < t.n) (hl : l < t.n) (e : t.I j = t.I l) : j = l := by
  rcases Nat.lt_trichotomy j l with c | c | c
  · have := h.lt j (l - j - 1) (by omega)
    rw [show j + (l - j - 1) + 1 = l by omega] at this
    omega
  · exact c
  · have := h.lt l (j - l - 1) (by omega)
    rw [show l + (j - l - 1) + 1 = j by omega] at this
    omega
/-- The place of the number; behind all: there is none. -/
noncomputable def useA (t : Tab) (k : By) : Nat := if useI t k < 0 then t.n else (useI t k).toNat
theorem useA_iff {t : Tab} (h : t.ok) (k : By) {j : Nat} (hj : j < t.n) : t.I j = idI k ↔ j = useA t k := by
  unfold useA useI
  by_cases c : ixP (fun j => t.I j ≠ idI k) t.n < 0
  · rw [if_pos c]
    constructor
    · intro e
      exfalso
      have : ¬ 0 ≤ ixP (fun j => t.I j ≠ idI k) t.n := by omega
      exact this (ixP_ge.2 (fun d => d j hj e))
    · intro e; omega
  · rw [if_neg c]
    obtain ⟨a, ha, han, hn, -⟩ := ixP_lt c
    have hn : t.I a = idI k := Classical.not_not.1 hn
    rw [ha, Int.toNat_natCast]
    constructor
    · intro e; exact h.one hj han (e.trans hn.symm)
    · intro e; rw [e]; exact hn
theorem useA_lt {t : Tab} (k : By) : useA t k < t.n ↔ ¬ useI t k < 0 := by
  unfold useA
  by_cases c : useI t k < 0
  · rw [if_pos c]; exact ⟨fun h => absurd h (Nat.lt_irrefl _), fun h => absurd c h⟩
  · rw [if_neg c]
    obtain ⟨a, ha, han, -, -⟩ := ixP_lt c
    have ha : useI t k = (a : Int) := ha
    rw [ha, Int.toNat_natCast]
    exact ⟨fun _ h => by omega, fun _ => han⟩
theorem id4 (k : By) : IntKind.i64.wrap (IntKind.i64.wrap (IntKind.i64.wrap (IntKind.i64.wrap ((↑(List.getD k 0 (0 : BitVec 8)).toNat : Int) * Int.ofNat 16777216) + IntKind.i64.wrap ((↑(List.getD k 1 (0 : BitVec 8)).toNat : Int) * Int.ofNat 65536)) + IntKind.i64.wrap ((↑(List.getD k 2 (0 : BitVec 8)).toNat : Int) * Int.ofNat 256)) + (↑(List.getD k 3 (0 : BitVec 8)).toNat : Int)) = beN k 4 := by
  have w : ∀ x : Int, 0 ≤ x → x < 9223372036854775808 → IntKind.i64.wrap x = x := fun x h1 h2 => wrap_i64 (by omega) h2
  have h0 := (List.getD k 0 (0 : BitVec 8)).isLt
  have h1 := (List.getD k 1 (0 : BitVec 8)).isLt
  have h2 := (List.getD k 2 (0 : BitVec 8)).isLt
  have h3 := (List.getD k 3 (0 : BitVec 8)).isLt
  have e : beN k 4 = ((((0 : Int) * 256 + (k.getD 0 0).toNat) * 256 + (k.getD 1 0).toNat) * 256 + (k.getD 2 0).toNat) * 256 + (k.getD 3 0).toNat := rfl
  rw [e]
  have q1 : Int.ofNat 16777216 = 16777216 := rfl
  have q2 : Int.ofNat 65536 = 65536 := rfl
  have q3 : Int.ofNat 256 = 256 := rfl
  rw [q1, q2, q3]
  generalize (List.getD k 0 (0 : BitVec 8)).toNat = b0 at *
  generalize (List.getD k 1 (0 : BitVec 8)).toNat = b1 at *
  generalize (List.getD k 2 (0 : BitVec 8)).toNat = b2 at *
  generalize (List.getD k 3 (0 : BitVec 8)).toNat = b3 at *
  rw [w ((b0 : Int) * 16777216) (by omega) (by omega), w ((b1 : Int) * 65536) (by omega) (by omega), w ((b2 : Int) * 256) (by omega) (by omega), w ((b0 : Int) * 16777216 + (b1 : Int) * 65536) (by omega) (by omega), w ((b0 : Int) * 16777216 + (b1 : Int) * 65536 + (b2 : Int) * 256) (by omega) (by omega), w _ (by omega) (by omega)]
  omega
end Go.Spec

namespace Go.Sym
open Go.Proofs Go.Spec
set_option linter.unusedVariables false
theorem row_keep (t : Tab) (a x y : Nat) (hx : x ≠ a) (hy : y < cntA a x + 1) : glue (fun (j : Nat) => AV.int IntKind.i64 ((t.del a).I j) :: List.map (fun (i : Nat) => AV.u8 ((t.del a).P j i)) (List.range 32)) (cntA a x) (cut 33 (List.take 33 (List.drop 0 (AV.int IntKind.i64 (t.I x) :: rg 32 fun (i : Nat) => AV.u8 (t.P x i))))) y = AV.int IntKind.i64 ((t.del a).I y) :: List.map (fun (i : Nat) => AV.u8 ((t.del a).P y i)) (List.range 32) := by
  unfold glue
  by_cases c : y < cntA a x
  · simp only [if_pos c]
  · simp only [if_neg c]
    have e : y = cntA a x := by omega
    rw [e, Nat.sub_self]
    have e1 : (t.del a).I (cntA a x) = t.I x ∧ (t.del a).P (cntA a x) = t.P x := by
      unfold Tab.del cntA
      by_cases d : a < x
      · simp only [if_pos d]
        rw [if_neg (by omega), if_neg (by omega), show x - 1 + 1 = x by omega]
        exact ⟨rfl, rfl⟩
      · simp only [if_neg d]
        rw [if_pos (by omega), if_pos (by omega)]
        exact ⟨rfl, rfl⟩
    rw [e1.1, e1.2]
    rfl
set_option maxRecDepth 100000 in
theorem bt15 (t : Tab) (u : NL) (k : By) (hok : t.ok) : Must (bodyP Tryd.prog T2 gl0 [] [(20004, ls15k true t k (beN k 4)), (10, ls15 true t (useA t k) (beN k 4)), (10013, ls15c true t (useA t k) (beN k 4))] 3000 Tryd.f15 0 [tabA true t u, .rb false k .unk] [] (retQ Tryd.prog Tryd.f15 0 ⟨[], .tup [tabR (useT t k), .int .i64 (useN t k), .int .i64 (useE t k)], [], [blkR (useT t k)]⟩)) := by
  constructor
  rw [vt15, tkB_rg, id4]
  set_option simprocs false in dsimp only
  have hr := tk_rows true t
  have hB := Tab.okB_iff.2 hok
  have h0' : ¬ t.okB = false := by rw [hB]; decide
  have hn8 := hok.h2
  have hx3 : ∀ R : Tab, ∀ (y : Nat), y < R.n → outs Bool.true (AV.int IntKind.i64 (R.I y) :: List.map (fun (i : Nat) => AV.u8 (R.P y i)) (List.range 32)) = Bool.true := fun _ _ _ => rfl
  have bad : ∀ e : Int, useE t k = e → e ≠ 0 → (∀ (y : Nat), y < (useT t k).n → outs Bool.true (AV.int IntKind.i64 ((useT t k).I y) :: List.map (fun (i : Nat) => AV.u8 ((useT t k).P y i)) (List.range 32)) = Bool.true) ∧ allP (fun (i : Nat) => (useT t k).key i = BitVec.ofNat 8 0) 0 32 ((useT t k).nx = (0 : Int) ∧ (useT t k).n = 0 ∧ useN t k = (0 : Int) ∧ useE t k = e ∧ (useT t k).n = 0 ∧ True) := by
    intro e he hz
    have h1 : useT t k = tz := if_neg (by rw [he]; exact hz)
    have h2 : useN t k = 0 := if_neg (by rw [he]; exact hz)
    rw [h1]
    exact ⟨hx3 _, allP_of 32 0 (fun _ _ _ => rfl) ⟨rfl, rfl, h2, he, rfl, trivial⟩⟩
  have b13 : (idZ t.key k = false ∨ t.nx ≤ idI k) → _ := fun c => bad 13 ((if_neg h0').trans (if_pos c)) (by decide)
  refine brec (fun h0 => ?_) (fun h0 => ?_)
  rotate_left
  · have h0 := dno (keep_f h0)
    have hl : ¬ k.length = 16 := fun e => h0 (by rw [e]; rfl)
    exact b13 (Or.inl (if_neg hl))
  have h0 := dyes (keep_t h0)
  have hl : k.length = 16 := by omega
  have e1 : idI k = beN k 4 := if_pos hl
  have e2 : idZ t.key k = sameB k (tkB t.key (beN k 4)) := if_pos hl
  refine ⟨by omega, brec (fun h1 => ?_) (fun h1 => ?_)⟩
  · have h1 := dyes h1
    refine b13 (Or.inl ?_)
    have hb : beN k 4 = ((((0 : Int) * 256 + (k.getD 0 0).toNat) * 256 + (k.getD 1 0).toNat) * 256 + (k.getD 2 0).toNat) * 256 + (k.getD 3 0).toNat := rfl
    have hg : 2147483647 < beN k 4 := by
      rw [hb]
      omega
    have ht : tkB t.key (beN k 4) = [] := if_pos (Or.inr hg)
    rw [e2, ht, sameB_eq]
    have : k ≠ [] := fun c => by rw [c] at hl; cases hl
    exact decide_eq_false this
  refine ⟨⟨by omega, by omega, by omega, by omega, (), trivial, rfl, rfl, rfl, rfl, allP_of 32 0 (fun _ _ _ => rfl) ⟨rfl, rfl, hr, allP_of 32 0 (fun _ _ _ => rfl) ⟨rfl, trivial⟩⟩⟩, fun _ _ => ⟨rfl, ?_⟩⟩
  refine brec (fun h2 => ?_) (fun h2 => ?_)
  rotate_left
  · have h2 := dno (keep_f h2)
    refine b13 (Or.inl ?_)
    rw [e2, sameB_eq]
    exact decide_eq_false (fun c => h2 c.symm)
  have h2 := dyes (keep_t h2)
  refine brec (fun h3 => ?_) (fun h3 => ?_)
  · have h3 := dyes h3
    exact b13 (Or.inr (by rw [e1]; exact h3))
  have h3 := dno h3
  have h12 : ¬ (idZ t.key k = false ∨ t.nx ≤ idI k) := by
    intro c
    cases c with
    | inl c => rw [e2, h2, sameB_self] at c; cases c
    | inr c => rw [e1] at c; exact h3 c
  refine ⟨⟨0, ⟨Nat.zero_le _, by omega⟩, rfl, rfl, rfl, rfl, rfl, rfl, allP_of 32 0 (fun _ _ _ => rfl) ⟨rfl, rfl, hr, allP_of 32 0 (fun _ _ _ => rfl) ⟨rfl, allP_of 32 0 (fun _ _ _ => rfl) ⟨rfl, rfl, rfl, trivial⟩⟩⟩⟩, fun x hx => ?_⟩
  obtain ⟨hx, -⟩ := hx
  refine brec (fun h4 => ?_) (fun h4 => ?_)
  · have h4 := dyes h4
    have h4 : x < t.n := by omega
    rw [Int.toNat_natCast]
    refine ⟨Int.natCast_nonneg _, h4, brec (fun h5 => ?_) (fun h5 => ?_)⟩
    · have h5 := dyes h5
      have ha : x = useA t k := (useA_iff hok k h4).1 (h5.trans e1.symm)
      have hc : cntA (useA t k) (x + 1) = cntA (useA t k) x := by
        unfold cntA
        rw [if_pos (by omega), if_neg (by omega)]
        omega
      exact ⟨x + 1, by omega, ⟨by omega, by omega⟩, rfl, rfl, rfl, rfl, decide_eq_true (by omega), (i_succ h4 hn8).symm, allP_of 32 0 (fun _ _ _ => rfl) ⟨rfl, rfl, hr, allP_of 32 0 (fun _ _ _ => rfl) ⟨rfl, allP_of 32 0 (fun _ _ _ => rfl) ⟨rfl, rfl, rfl, rfl, hc, hc, fun _ _ => ⟨rfl, rfl⟩, trivial⟩⟩⟩⟩
    · have h5 := dno h5
      have ha : x ≠ useA t k := fun c => h5 (((useA_iff hok k h4).2 c).trans e1)
      have hc : cntA (useA t k) (x + 1) = cntA (useA t k) x + 1 := by
        unfold cntA
        by_cases d : useA t k < x
        · rw [if_pos (by omega), if_pos d]; omega
        · rw [if_neg (by omega), if_neg d]
      have hd : decide (useA t k < x + 1) = decide (useA t k < x) := by
        by_cases d : useA t k < x
        · rw [decide_eq_true d, decide_eq_true (by omega)]
        · rw [decide_eq_false d, decide_eq_false (by omega)]
      have hcl : cntA (useA t k) x ≤ x := by unfold cntA; split <;> omega
      exact ⟨Int.natCast_nonneg _, h4, rfl, by unfold roomFor; omega, x + 1, by omega, ⟨by omega, by omega⟩, rfl, rfl, rfl, rfl, hd, (i_succ h4 hn8).symm, allP_of 32 0 (fun _ _ _ => rfl) ⟨rfl, rfl, hr, allP_of 32 0 (fun _ _ _ => rfl) ⟨rfl, allP_of 32 0 (fun _ _ _ => rfl) ⟨rfl, rfl, rfl, rfl, hc, hc, fun y hy => ⟨rfl, row_keep t _ x y ha (by omega)⟩, trivial⟩⟩⟩⟩
  · have h4 := dno h4
    have hx : x = t.n := by omega
    subst hx
    refine brec (fun h5 => ?_) (fun h5 => ?_)
    · have h5 := dno (bnot_t h5)
      have h5 : useI t k < 0 := Classical.not_not.1 (fun c => h5 ((useA_lt k).2 c))
      exact bad 11 ((if_neg h0').trans ((if_neg h12).trans (if_pos h5))) (by decide)
    · have h5 := dyes (bnot_f h5)
      have h6 := (useA_lt k).1 h5
      have he : useE t k = 0 := (if_neg h0').trans ((if_neg h12).trans (if_neg h6))
      have hT : useT t k = t.del (useA t k) := (if_pos he).trans (by unfold useA; rw [if_neg h6])
      have hN : useN t k = beN k 4 := (if_pos he).trans e1
      have hm : (t.del (useA t k)).n = cntA (useA t k) t.n := (if_pos h5).symm
      rw [hT]
      exact ⟨hx3 _, allP_of 32 0 (fun _ _ _ => rfl) ⟨rfl, rfl, rfl, rfl, hm, hN, he, hm, fun _ _ => ⟨rfl, rfl⟩, trivial⟩⟩
end Go.Sym

namespace Go.Sym
open Go.Proofs Go.Spec
set_option linter.unusedVariables false
/-- The document's Use, of a table that is right. -/
noncomputable def g15 (xs : List AV) (bs : List ABlk) : TL := match xs, bs with
  | [.agg cs, .rb false k .unk], [] => asTab true cs fun t nl o => .ok (rUse t k (t.ok :: o))
  | _, _ => .no
noncomputable def sp15 : Spec := ⟨[tabK, .by0], fun _ _ => [], fun _ _ => [], g15⟩
theorem ct15 : COK Tryd.prog gl0 15 (mkF sp15) := by
  refine ctrE (fn := Tryd.f15) [] 3000 (by kernel_rfl) (by kernel_rfl) okT2 (by kernel_rfl) (fun args w => by kernel_rfl) fun xs bs r hs ho => ?_
  replace hs : (g15 xs bs).sel = some r := hs
  unfold g15 at hs
  split at hs
  · obtain ⟨t, nl, o, hs, hc⟩ := asTab_sel hs
    simp only [TL.sel, Option.some.injEq] at hs
    subst hs
    obtain ⟨hk, ho⟩ := obsT_cons.1 ho
    rw [hc ho]
    exact ⟨_, bt15 t nl _ hk⟩
  · simp [TL.sel] at hs
/-- All that the laws call, of both sides. -/
noncomputable def T11 : Ctx := (((((T10.add 38 (mkF spRm)).add 20 (mkF sp20)).add 13 (mkF sp13)).add 15 (mkF sp15)).add 19 (mkF sp19)).add 10 (mkF sp10) |>.add 12 (mkF sp12)
theorem okT11 : COKs Tryd.prog gl0 T11 := (((((((okT10.add c16).add ct20).add ct13).add ct15).add ct19).add ct10).add ct12)
end Go.Sym

namespace Go.Sym
open Go.Proofs Go.Spec
set_option linter.unusedVariables false
/-- The concrete run: Mint of nothing is carried out. -/
noncomputable def V1 : Ctx := T10.exe Tryd.prog gl0 [] 100 Tryd.f9.params.size 9 Tryd.f9
theorem okV1 : COKs Tryd.prog gl0 V1 := okT10.exe [] 100 _ (by kernel_rfl) (by kernel_rfl) (by kernel_rfl) (fun args w => by kernel_rfl)
noncomputable def V2 : Ctx := V1.exe Tryd.prog gl0 [] 600 Tryd.f17.params.size 17 Tryd.f17
theorem okV2 : COKs Tryd.prog gl0 V2 := okV1.exe [] 600 _ (by kernel_rfl) (by kernel_rfl) (by kernel_rfl) (fun args w => by kernel_rfl)
noncomputable def V3 : Ctx := V2.exe Tryd.prog gl0 [] 900 Tryd.f11.params.size 11 Tryd.f11
theorem okV3 : COKs Tryd.prog gl0 V3 := okV2.exe [] 900 _ (by kernel_rfl) (by kernel_rfl) (by kernel_rfl) (fun args w => by kernel_rfl)
end Go.Sym
namespace Go.Spec
/-- What mints mints first: one ticket, number 0. -/
def tOne : Tab := ⟨fun i => if i = 0 then 1 else 0, 1, 1, fun _ => 0, fun _ i => if i = 0 then 2 else 0⟩
end Go.Spec
namespace Go.Sym
open Go.Proofs Go.Spec
def ls18 : LS := ⟨Unit, fun _ => [(1, .ptr 101 0 0 0), (2, .int .i64 0), (3, .int .i64 0)], fun _ => [(101, ⟨.cells (tabC tOne (.slice 100 0 33 1 .un .unk)), true, 0⟩), (100, ⟨.rows 33 1 (rowE tOne), true, 33⟩)], 1000, fun _ => 0, fun _ => True, fun _ => []⟩
end Go.Sym

namespace Go.Sym
open Go.Proofs Go.Spec
set_option linter.unusedVariables false
set_option maxRecDepth 100000 in
theorem vt18 (z : Bool) : bodyP Tryd.prog V3 gl0 [] [(20002, ls18)] 3000 Tryd.f18 0 [] [] (retQ Tryd.prog Tryd.f18 0 ⟨[], .bool z, [], []⟩) = (
let x1 := useT ({ key := fun (i : Nat) => (BitVec.ofNat 8 1 :: List.replicate 31 (BitVec.ofNat 8 0)).getD i (0 : BitVec 8), nx := Int.ofNat 1, n := 1, I := fun (j : Nat) => tOne.I j, P := fun (j i : Nat) => (rg 32 (tOne.P j)).getD i (0 : BitVec 8) } : Tab) (tkB (fun (i : Nat) => (BitVec.ofNat 8 1 :: List.replicate 31 (BitVec.ofNat 8 0)).getD i (0 : BitVec 8)) (0 : Int)); let x2 := fun (i : Nat) => (BitVec.ofNat 8 1 :: List.replicate 31 (BitVec.ofNat 8 0)).getD i (0 : BitVec 8); let x3 := ∀ (y : Nat), y < 1 → datas Bool.false (AV.int IntKind.i64 (tOne.I y) :: List.map (fun (i : Nat) => AV.u8 (tOne.P y i)) (List.range 32)) = Bool.true ∧ (AV.int IntKind.i64 (tOne.I y) :: List.map (fun (i : Nat) => AV.u8 (tOne.P y i)) (List.range 32)).length ≤ 33; let x4 := (fun (y : Nat) => AV.int IntKind.i64 (tOne.I y) :: List.map (fun (i : Nat) => AV.u8 (tOne.P y i)) (List.range 32)) = fun (j : Nat) => AV.int IntKind.i64 (tOne.I j) :: List.map (fun (i : Nat) => AV.u8 ((rg 32 (tOne.P j)).getD i (0 : BitVec 8))) (List.range 32); let x5 := AV.int IntKind.i64 (0 : Int) :: List.replicate 32 (if (0 : Int) ≤ (0 : Int) ∧ (0 : Int) < (256 : Int) then AV.u8 (BitVec.ofNat 8 0) else AV.raw (Go.Value.int IntKind.u8 (0 : Int))); let x6 := fun (i : Nat) => if 0 = i then Option.some 0 else Option.map (fun (x : Nat) => x + 1) (if 1 = i then Option.some 0 else Option.map (fun (x : Nat) => x + 1) (if 3520 = i then Option.some 0 else Option.none)); let x7 := cut 33 (List.take 33 (List.drop 0 (AV.int IntKind.i64 (0 : Int) :: AV.u8 (BitVec.ofNat 8 2) :: List.replicate 31 (AV.u8 (BitVec.ofNat 8 0))))); let x8 := ({ key := x2, nx := Int.ofNat 1, n := 1, I := fun (j : Nat) => tOne.I j, P := fun (j i : Nat) => (rg 32 (tOne.P j)).getD i (0 : BitVec 8) } : Tab); let x9 := fun (i : Nat) => if 8388608 ≤ i then Option.none else match [1472, 1408][i]? with | Option.some j => Option.some j | Option.none => Option.some (1536 + (i - 2)); ((0 : Int) ≤ (0 : Int) ∧ 0 < 2 ∧ (0 : Int) ≤ Int.ofNat 1 ∧ 1 < 2 ∧ (0 : Int) ≤ (0 : Int) ∧ 0 ≤ 0 ∧ (0 : Int) ≤ Int.ofNat 1 ∧ Int.ofNat 1 < (9223372036854775808 : Int) ∧ roomFor 0 1 40 ∧ (0 : Int) ≤ (0 : Int) ∧ 0 ≤ 1 ∧ (∀ (y : Nat), y < 1 → outs Bool.true x5 = Bool.true) ∧ (0 : Int) ≤ (0 : Int) ∧ 0 < 2 ∧ 0 ≤ 1 ∧ (∀ (y : Nat), y < 0 → rowOK 33 [] = Bool.true) ∧ 0 = 0 ∧ roomFor 0 0 40 ∧ (0 : Int) ≤ Int.ofNat 1 ∧ 1 < 2 ∧ 0 = 0 ∧ roomFor 0 1 40 ∧ (∀ (y : Nat), y < 1 → outs Bool.true (renL x6 (glue (glue (fun (y : Nat) => x5) 0 fun (x : Nat) => []) 0 x7 y)) = Bool.true) ∧ (0 : Int) ≤ Int.ofNat 0 ∧ 0 ≤ 1 ∧ (∀ (y : Nat), y < 1 → outs Bool.true (renL (fun (i : Nat) => if 1536 = i then Option.some 0 else Option.none) (renL x9 (renL x6 (glue (glue (fun (y : Nat) => x5) 0 fun (x : Nat) => []) 0 x7 y)))) = Bool.true) ∧ ∃ (y : Unit), True ∧ 0 = 0 ∧ (0 : Int) = (0 : Int) ∧ (0 : Int) = (0 : Int) ∧ BitVec.ofNat 8 1 = BitVec.ofNat 8 1 ∧ allP (fun (i : Nat) => BitVec.ofNat 8 0 = BitVec.ofNat 8 0) 0 31 (Int.ofNat 1 = Int.ofNat 1 ∧ 0 = 0 ∧ 0 = 0 ∧ 1 = 1 ∧ 1 = 1 ∧ (∀ (y : Nat), y < 1 → datas Bool.false (AV.int IntKind.i64 (tOne.I y) :: List.map (fun (i : Nat) => AV.u8 (tOne.P y i)) (List.range 32)) = Bool.true ∧ renL (fun (i : Nat) => if 8388608 ≤ i then Option.none else Option.some (320 + (i - 0))) (renL (fun (i : Nat) => if 1536 = i then Option.some 0 else Option.none) (renL x9 (renL x6 (glue (glue (fun (y : Nat) => x5) 0 fun (x : Nat) => []) 0 x7 y)))) = AV.int IntKind.i64 (tOne.I y) :: List.map (fun (i : Nat) => AV.u8 (tOne.P y i)) (List.range 32)) ∧ True)) ∧ ∀ (x : Unit), True → 1 ≤ 1 ∧ x3 ∧ x4 ∧ 1 ≤ 1 ∧ x3 ∧ 16 = 16 ∧ 16 < 4611686018427387904 ∧ x4 ∧ 0 + x1.n ≤ x1.n ∧ (∀ (y : Nat), y < x1.n → datas Bool.false (AV.int IntKind.i64 (x1.I y) :: rg 32 fun (i : Nat) => AV.u8 (x1.P y i)) = Bool.true ∧ (AV.int IntKind.i64 (x1.I y) :: rg 32 fun (i : Nat) => AV.u8 (x1.P y i)).length ≤ 33) ∧ 16 = 16 ∧ 16 < 4611686018427387904 ∧ ((fun (y : Nat) => AV.int IntKind.i64 (x1.I y) :: rg 32 fun (i : Nat) => AV.u8 (x1.P y i)) = fun (j : Nat) => AV.int IntKind.i64 (x1.I j) :: List.map (fun (i : Nat) => AV.u8 ((rg 32 (x1.P j)).getD i (0 : BitVec 8))) (List.range 32)) ∧ @Bool.rec (fun _ => Prop) (z = Bool.false ∧ True) (@Bool.rec (fun _ => Prop) (z = Bool.false ∧ True) (1 ≤ 1 ∧ x3 ∧ x4 ∧ @Bool.rec (fun _ => Prop) (z = Bool.false ∧ True) (z = decide (useE ({ key := fun (i : Nat) => (rg 32 x1.key).getD i (0 : BitVec 8), nx := x1.nx, n := x1.n, I := fun (j : Nat) => x1.I j, P := fun (j i : Nat) => (rg 32 (x1.P j)).getD i (0 : BitVec 8) } : Tab) (tkB x2 (0 : Int)) = (11 : Int)) ∧ True) (decide ((↑(knN x8) : Int) = (1 : Int)))) (decide (useN x8 (tkB x2 (0 : Int)) = (0 : Int)))) (decide (useE x8 (tkB x2 (0 : Int)) = (0 : Int))) : Prop) := by kernel_rfl
end Go.Sym

namespace Go.Spec
open Go.Sym
theorem b4_len (i : Int) : (b4 i).length = 4 := rfl
theorem ofInt8 (x : Int) : (BitVec.ofInt 8 x).toNat = (x % 256).toNat := by rw [BitVec.toNat_ofInt]; rfl
theorem b4_be {i : Int} (h0 : 0 ≤ i) (h1 : i ≤ 2147483647) (l : By) : beN (b4 i ++ l) 4 = i := by
  have e : beN (b4 i ++ l) 4 = ((((0 : Int) * 256 + (BitVec.ofInt 8 (i.fdiv (Int.ofNat 16777216))).toNat) * 256 + (BitVec.ofInt 8 (i.fdiv (Int.ofNat 65536))).toNat) * 256 + (BitVec.ofInt 8 (i.fdiv (Int.ofNat 256))).toNat) * 256 + (BitVec.ofInt 8 (i.fdiv (Int.ofNat 1))).toNat := rfl
  rw [e, ofInt8, ofInt8, ofInt8, ofInt8]
  have d : ∀ n : Nat, i.fdiv (Int.ofNat n) = i / (n : Int) := fun n => Int.fdiv_eq_ediv_of_nonneg _ (Int.natCast_nonneg _)
  rw [d, d, d, d]
  omega
theorem tkB_in {key : Nat → BitVec 8} {i : Int} (h0 : 0 ≤ i) (h1 : i ≤ 2147483647) : tkB key i = b4 i ++ rg 12 (macB (rg 32 key) (b4 i)) := if_neg (by omega)
theorem tkB_len {key : Nat → BitVec 8} {i : Int} (h0 : 0 ≤ i) (h1 : i ≤ 2147483647) : (tkB key i).length = 16 := by
  rw [tkB_in h0 h1, List.length_append, rg_length, b4_len]
theorem idI_tk {key : Nat → BitVec 8} {i : Int} (h0 : 0 ≤ i) (h1 : i ≤ 2147483647) : idI (tkB key i) = i := by
  unfold idI
  rw [if_pos (tkB_len h0 h1), tkB_in h0 h1, b4_be h0 h1]
theorem idZ_tk {key : Nat → BitVec 8} {i : Int} (h0 : 0 ≤ i) (h1 : i ≤ 2147483647) : idZ key (tkB key i) = true := by
  unfold idZ
  rw [if_pos (tkB_len h0 h1)]
  have e : beN (tkB key i) 4 = i := by rw [tkB_in h0 h1, b4_be h0 h1]
  rw [e]
  exact sameB_self _
end Go.Spec

namespace Go.Sym
open Go.Proofs Go.Spec
set_option linter.unusedVariables false
noncomputable def g18 (xs : List AV) (bs : List ABlk) : TL := match xs, bs with
  | [], [] => .ok ⟨[], .bool true, [], []⟩
  | _, _ => .no
noncomputable def sp18 : Spec := ⟨[], fun _ _ => [], fun _ _ => [], g18⟩
noncomputable def T14 : Ctx := T11.add 18 (mkF sp18)
def bRaw (t : Tab) : ABlk := ⟨.cells (tabC t (.ros true 33 t.n (rowE t) .unk)), true, 0⟩
def bTab (t : Tab) (i : Nat) : ABlk := ⟨.cells (tabC t (.slice i 0 33 t.n .ow .unk)), true, 0⟩
def lr1 (t : Tab) (k : By) (id : Int) : LS := ⟨Unit, fun _ => [(1, .rb true k .unk), (2, .int .i64 id), (3, .ptr 101 0 0 0), (7, .ptr 102 0 0 0)], fun _ => [(101, bRaw t), (102, bTab t 100), (100, blkR t)], 1000, fun _ => 0, fun _ => t.n < 3518437208781, fun _ => []⟩
noncomputable def lr2 (t : Tab) (k : By) (id : Int) : LS := ⟨Unit, fun _ => [(1, .rb true k .unk), (2, .int .i64 id), (3, .ptr 101 0 0 0), (7, .ptr 102 0 0 0), (9, .int .i64 (minN t)), (10, .int .i64 (minE t))], fun _ => [(101, bRaw t), (102, bTab t 100), (100, blkR t)], 1000, fun _ => 0, fun _ => t.n < 3518437208781, fun _ => []⟩
noncomputable def lr3 (t : Tab) (k : By) (id : Int) : LS := ⟨Unit, fun _ => [(1, .rb true k .unk), (2, .int .i64 id), (3, .ptr 101 0 0 0), (7, .ptr 102 0 0 0), (9, .int .i64 (minN t)), (10, .int .i64 (minE t)), (11, .ptr 104 0 0 0), (12, .int .i64 (useN t k)), (13, .int .i64 (useE t k))], fun _ => [(101, bRaw t), (102, bTab t 100), (100, blkR t), (104, bTab (useT t k) 103), (103, blkR (useT t k))], 1000, fun _ => 0, fun _ => t.n < 3518437208781, fun _ => []⟩
noncomputable def lr8 (t : Tab) (k : By) : LS := ⟨Unit, fun _ => [(3, .ptr 101 0 0 0), (7, .ptr 102 0 0 0), (9, .int .i64 (minN t)), (10, .int .i64 (minE t)), (11, .ptr 104 0 0 0), (12, .int .i64 (useN t k)), (13, .int .i64 (useE t k)), (14, .ptr 106 0 0 0), (15, .int .i64 (useN t k)), (16, .int .i64 (useE t k))], fun _ => [(101, bRaw t), (102, bTab t 100), (100, blkR t), (104, bTab (useT t k) 103), (103, blkR (useT t k)), (106, bTab (useT t k) 105), (105, blkR (useT t k))], 1000, fun _ => 0, fun _ => t.n < 3518437208781 ∧ t.ok, fun _ => []⟩
end Go.Sym

namespace Go.Spec
open Go.Sym
/-- A table read back. -/
def Tab.re (t : Tab) : Tab := ⟨fun i => (rg 32 t.key).getD i (0 : BitVec 8), t.nx, t.n, fun j => t.I j, fun j i => (rg 32 (t.P j)).getD i (0 : BitVec 8)⟩
theorem Tab.re_ok {t : Tab} : t.re.ok ↔ t.ok := ⟨fun h => ⟨h.h0, h.h1, h.h2, h.h3⟩, fun h => ⟨h.h0, h.h1, h.h2, h.h3⟩⟩
theorem Tab.re_okB (t : Tab) : t.re.okB = t.okB := Tab.okB_eq Tab.re_ok
theorem re_minE (t : Tab) : minE t.re = minE t := by unfold minE; rw [t.re_okB]; rfl
theorem re_knN (t : Tab) : knN t.re = knN t := by unfold knN; rw [t.re_okB]; rfl
theorem re_idZ (t : Tab) (k : By) : idZ t.re.key k = idZ t.key k := idZ_rg t.key k
theorem re_useE (t : Tab) (k : By) : useE t.re k = useE t k := by unfold useE; rw [t.re_okB, re_idZ]; rfl
theorem re_useN (t : Tab) (k : By) : useN t.re k = useN t k := by unfold useN; rw [re_useE]
theorem re_useT (t : Tab) (k : By) : useT t.re k = if useE t k = 0 then t.re.del (useI t k).toNat else tz := by unfold useT; rw [re_useE]; rfl
theorem re_useT_nx (t : Tab) (k : By) : (useT t.re k).nx = (useT t k).nx := by rw [re_useT]; unfold useT; split <;> rfl
theorem re_useT_n (t : Tab) (k : By) : (useT t.re k).n = (useT t k).n := by rw [re_useT]; unfold useT; split <;> rfl
theorem re_useT_key (t : Tab) (k : By) {i : Nat} (hi : i < 32) : (useT t.re k).key i = (useT t k).key i := by
  rw [re_useT]; unfold useT
  split
  · exact rg_get t.key hi
  · rfl
theorem re_useT_I (t : Tab) (k : By) (y : Nat) : (useT t.re k).I y = (useT t k).I y := by
  rw [re_useT]; unfold useT; split <;> rfl
theorem re_useT_P (t : Tab) (k : By) (y : Nat) {i : Nat} (hi : i < 32) : (useT t.re k).P y i = (useT t k).P y i := by
  rw [re_useT]; unfold useT
  split
  · unfold Tab.del
    by_cases c : y < (useI t k).toNat
    · simp only [if_pos c]; exact rg_get _ hi
    · simp only [if_neg c]; exact rg_get _ hi
  · rfl
theorem rg_map {α : Type} (F : Nat → α) : rg 32 F = (List.range 32).map F := rfl
theorem re_row (R S : Tab) (y : Nat) (h1 : R.I y = S.I y) (h2 : ∀ i, i < 32 → R.P y i = S.P y i) : (AV.int IntKind.i64 (R.I y) :: rg 32 fun (i : Nat) => AV.u8 (R.P y i)) = AV.int IntKind.i64 (S.I y) :: List.map (fun (i : Nat) => AV.u8 (S.P y i)) (List.range 32) := by
  rw [h1, rg_map]
  congr 1
  exact List.map_congr_left fun i hi => by rw [h2 i (by simpa using hi)]
theorem re_same (R : Tab) : tSame R.re.re R.re := ⟨fun i hi => (rg_get _ hi), rfl, rfl, fun k _ => ⟨rfl, fun i hi => rg_get _ hi⟩⟩
/-- Using up the only ticket. -/
theorem one_useI {t : Tab} (h1 : t.n = 1) (h0 : t.I 0 = 0) {k : By} (hk : idI k = 0) : useI t k = 0 := by
  unfold useI
  rw [h1]
  exact ixP_at (j := 0) (by decide) (fun c => c (by rw [h0, hk])) (fun i hi => absurd hi (Nat.not_lt_zero i))
theorem one_useE {t : Tab} (h1 : t.n = 1) (hx : t.nx = 1) (h0 : t.I 0 = 0) : useE t (tkB t.key 0) = 0 := by
  have hok : t.ok := ⟨by omega, by omega, by omega, fun j hj => by
    obtain rfl : j = 0 := by omega
    refine ⟨?_, by omega⟩
    show (-1 : Int) < _
    omega⟩
  unfold useE
  rw [Tab.okB_iff.2 hok, idZ_tk (by decide) (by decide), idI_tk (by decide) (by decide), one_useI h1 h0 (idI_tk (key := t.key) (i := 0) (by decide) (by decide)), hx]
  rfl
theorem one_useN {t : Tab} (h1 : t.n = 1) (hx : t.nx = 1) (h0 : t.I 0 = 0) : useN t (tkB t.key 0) = 0 := by
  unfold useN
  rw [one_useE h1 hx h0]
  exact idI_tk (key := t.key) (i := 0) (by decide) (by decide)
theorem one_useT {t : Tab} (h1 : t.n = 1) (hx : t.nx = 1) (h0 : t.I 0 = 0) : useT t (tkB t.key 0) = t.del 0 := by
  unfold useT
  rw [one_useE h1 hx h0, one_useI h1 h0 (idI_tk (key := t.key) (i := 0) (by decide) (by decide))]
  rfl
theorem one_two {s : Tab} (hn : s.n = 0) (hx : s.nx = 1) {k : By} (h1 : idZ s.key k = true) (h2 : idI k = 0) : useE s k = 11 := by
  have hok : s.ok := ⟨by omega, by omega, by omega, fun j hj => by omega⟩
  have : useI s k = -1 := ixP_no (fun j hj => by omega)
  unfold useE
  rw [Tab.okB_iff.2 hok, h1, h2, this, hx]
  rfl
theorem one_knN {t : Tab} (h1 : t.n = 1) (hx : t.nx = 1) (h0 : t.I 0 = 0) : knN t = 1 := by
  have hok : t.ok := ⟨by omega, by omega, by omega, fun j hj => by
    obtain rfl : j = 0 := by omega
    refine ⟨?_, by omega⟩
    show (-1 : Int) < _
    omega⟩
  unfold knN
  rw [if_pos (Tab.okB_iff.2 hok), h1]
end Go.Spec
namespace Go.Sym
open Go.Proofs Go.Spec
set_option linter.unusedVariables false
set_option maxRecDepth 100000 in
theorem bt18 : Must (bodyP Tryd.prog V3 gl0 [] [(20002, ls18)] 3000 Tryd.f18 0 [] [] (retQ Tryd.prog Tryd.f18 0 ⟨[], .bool true, [], []⟩)) := by
  constructor
  rw [vt18]
  intro x1 x2 x3 x4 x5 x6 x7 x8 x9
  have e1 : useE x8 (tkB x2 (0 : Int)) = 0 := one_useE (t := x8) rfl rfl rfl
  have e2 : useN x8 (tkB x2 (0 : Int)) = 0 := one_useN (t := x8) rfl rfl rfl
  have e3 : x1 = x8.del 0 := one_useT (t := x8) rfl rfl rfl
  have e4 : knN x8 = 1 := one_knN (t := x8) rfl rfl rfl
  have e5 : useE x1.re (tkB x2 (0 : Int)) = 11 := by
    rw [e3]
    exact one_two rfl rfl ((re_idZ (x8.del 0) _).trans (idZ_tk (key := x8.key) (by decide) (by decide))) (idI_tk (key := x8.key) (by decide) (by decide))
  have e6 : x1.n = 0 := by rw [e3]; rfl
  have h3 : x3 := fun y _ => ⟨rfl, by simp⟩
  have h4 : x4 := rfl
  have z : ∀ {y : Nat} {p : Nat → Prop}, p 0 → y < 1 → p y := fun {y p} h hy => by
    obtain rfl : y = 0 := by omega
    exact h
  refine ⟨⟨by decide, by decide, by decide, by decide, by decide, by decide, by decide, by decide, by unfold roomFor; decide, by decide, by decide, fun _ _ => rfl, by decide, by decide, by decide, fun y hy => absurd hy (Nat.not_lt_zero y), rfl, by unfold roomFor; decide, by decide, by decide, rfl, by unfold roomFor; decide, fun y => z (p := fun y => outs Bool.true (renL x6 (glue (glue (fun (y : Nat) => x5) 0 fun (x : Nat) => []) 0 x7 y)) = Bool.true) rfl, by decide, by decide, ?_, (), trivial, rfl, rfl, rfl, rfl, allP_of 31 0 (fun _ _ _ => rfl) ⟨rfl, rfl, rfl, rfl, rfl, ?_, trivial⟩⟩, fun _ _ => ⟨by decide, h3, h4, by decide, h3, rfl, by decide, h4, ?_⟩⟩
  · intro y hy
    obtain rfl : y = 0 := by omega
    rfl
  · intro y hy
    obtain rfl : y = 0 := by omega
    exact ⟨rfl, rfl⟩
  · clear_value x1
    refine ⟨by omega, fun y _ => ⟨rfl, by simp [rg_map]⟩, rfl, by decide, rfl, ?_⟩
    rw [e1, e2, e4]
    have e7 : decide (useE x1.re (tkB x2 (0 : Int)) = 11) = true := decide_eq_true e5
    exact ⟨by decide, h3, h4, e7.symm, trivial⟩
theorem ct18 : COK Tryd.prog gl0 18 (mkF sp18) := by
  refine ctrE (fn := Tryd.f18) [] 3000 (by kernel_rfl) (by kernel_rfl) okV3 (by kernel_rfl) (fun args w => by kernel_rfl) fun xs bs r hs ho => ?_
  replace hs : (g18 xs bs).sel = some r := hs
  unfold g18 at hs
  split at hs
  · simp only [TL.sel, Option.some.injEq] at hs
    subst hs
    exact ⟨_, bt18⟩
  · simp [TL.sel] at hs
theorem okT14 : COKs Tryd.prog gl0 T14 := okT11.add ct18
end Go.Sym
