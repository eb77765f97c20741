/- Tables of tickets, and what the calls of the package make of them. -/
import Derived.Test.YtmpgpbbaloiniabDoorShaA
import Derived.Test.YtmpgpbbaloiniabDoorSymC
import Derived.Test.YtmpgpbbaloiniabDoorShaB
namespace Go.Spec
open Go.Sym
/-- Tickets: a key, the next number, those that are there. -/
structure Tab where
  key : Nat → BitVec 8
  nx : Int
  n : Nat
  I : Nat → Int
  P : Nat → Nat → BitVec 8
/-- The number ahead. -/
def Tab.ah (t : Tab) : Nat → Int
  | 0 => -1
  | j + 1 => t.I j
structure Tab.ok (t : Tab) : Prop where
  h0 : 0 ≤ t.nx
  h1 : t.nx ≤ 2147483647
  h2 : t.n ≤ 8
  h3 : ∀ j, j < t.n → t.ah j < t.I j ∧ t.I j < t.nx
theorem Tab.ok.pos {t : Tab} (h : t.ok) : ∀ j, j < t.n → 0 ≤ t.I j
  | 0, hj => by
    have := (h.h3 0 hj).1
    have e : t.ah 0 = -1 := rfl
    omega
  | j + 1, hj => by
    have h1 := h.pos j (by omega)
    have := (h.h3 (j + 1) hj).1
    have e : t.ah (j + 1) = t.I j := rfl
    omega
open Classical in
noncomputable def Tab.okB (t : Tab) : Bool := decide t.ok
theorem Tab.okB_iff {t : Tab} : t.okB = true ↔ t.ok := by unfold Tab.okB; exact @decide_eq_true_iff _ (Classical.propDecidable _)
theorem Tab.okB_no {t : Tab} (h : ¬ t.ok) : t.okB = false := by
  cases e : t.okB
  · rfl
  · exact absurd (Tab.okB_iff.1 e) h
end Go.Spec
namespace Go.Sym
open Go.Proofs Go.Spec
set_option linter.unusedVariables false
def rowE (t : Tab) (j : Nat) : List AV := .int .i64 (t.I j) :: ((List.range 32).map fun i => .u8 (t.P j i))
def tabC (t : Tab) (r : AV) : List AV := ((List.range 32).map fun i => .u8 (t.key i)) ++ [.int .i64 t.nx, r]
def tabA (p : Bool) (t : Tab) (nl : NL) : AV := .agg (tabC t (.ros p 33 t.n (rowE t) nl))
def bxT (p : Bool) (t : Tab) : ABlk := ⟨.cells (tabC t (.ros p 33 t.n (rowE t) .unk)), true, 0⟩
def ls17 (p : Bool) (t : Tab) : LS := ⟨Nat, fun j => [(1, .ptr 101 0 0 0), (3, .int .i64 (t.ah j)), (21, .ros p 33 t.n (rowE t) .unk), (22, .int .i64 t.n), (23, .int .i64 j)], fun j => [(101, bxT p t)], 1000, fun j => t.n - j, fun j => j ≤ t.n ∧ ∀ k, k < j → t.ah k < t.I k ∧ t.I k < t.nx, fun _ => []⟩
def ls20 (p : Bool) (t : Tab) : LS := ⟨Nat, fun j => [(1, .ptr 101 0 0 0), (3, .int .i64 j)], fun j => [(101, bxT p t)], 1000, fun j => t.n - j, fun j => j ≤ t.n ∧ ∀ k, k < j → t.ah k < t.I k ∧ t.I k < t.nx, fun _ => []⟩
end Go.Sym

namespace Go.Sym
open Go.Proofs Go.Spec
set_option linter.unusedVariables false
set_option maxRecDepth 100000 in
theorem vt17 (t : Tab) (nl : NL) (z : Bool) : bodyP Tryd.prog (Ctx.none []) gl0 [] [(6, ls17 false t)] 3000 Tryd.f17 0 [tabA false t nl] [] (retQ Tryd.prog Tryd.f17 0 ⟨[], .bool z, [], []⟩) = (
let x1 := ∀ (y : Nat), y < t.n → datas Bool.false (AV.int IntKind.i64 (t.I y) :: List.map (fun (i : Nat) => AV.u8 (t.P y i)) (List.range 32)) = Bool.true ∧ t.I y = t.I y ∧ allP (fun (i : Nat) => t.P y i = t.P y i) 0 32 True; @Bool.rec (fun _ => Prop) (z = Bool.false ∧ True) (@Bool.rec (fun _ => Prop) (z = Bool.false ∧ True) (@Bool.rec (fun _ => Prop) ((∃ (x : Nat), (x ≤ t.n ∧ ∀ (k : Nat), k < x → t.ah k < t.I k ∧ t.I k < t.nx) ∧ 0 = 0 ∧ t.ah x = Int.negSucc 0 ∧ t.n = t.n ∧ x1 ∧ (↑t.n : Int) = (↑t.n : Int) ∧ (↑x : Int) = (0 : Int) ∧ allP (fun (i : Nat) => t.key i = t.key i) 0 32 (t.nx = t.nx ∧ t.n = t.n ∧ x1 ∧ True)) ∧ ∀ (x : Nat), (x ≤ t.n ∧ ∀ (k : Nat), k < x → t.ah k < t.I k ∧ t.I k < t.nx) → @Bool.rec (fun _ => Prop) (z = Bool.true ∧ True) ((0 : Int) ≤ (↑x : Int) ∧ (↑x : Int).toNat < t.n ∧ @Bool.rec (fun _ => Prop) (z = Bool.false ∧ True) (@Bool.rec (fun _ => Prop) (∃ (y : Nat), t.n - y < t.n - x ∧ (y ≤ t.n ∧ ∀ (k : Nat), k < y → t.ah k < t.I k ∧ t.I k < t.nx) ∧ 0 = 0 ∧ t.ah y = t.I (↑x : Int).toNat ∧ t.n = t.n ∧ x1 ∧ (↑t.n : Int) = (↑t.n : Int) ∧ (↑y : Int) = IntKind.i64.wrap ((↑x : Int) + (1 : Int)) ∧ allP (fun (i : Nat) => t.key i = t.key i) 0 32 (t.nx = t.nx ∧ t.n = t.n ∧ x1 ∧ True)) (z = Bool.false ∧ True) (decide (t.nx ≤ t.I (↑x : Int).toNat))) !decide (t.I (↑x : Int).toNat ≤ t.ah x)) (decide ((↑x : Int) < (↑t.n : Int)))) (z = Bool.false ∧ True) (decide ((8 : Int) < (↑t.n : Int)))) !decide ((2147483647 : Int) < t.nx)) !decide (t.nx < (0 : Int)) : Prop) := by kernel_rfl
set_option maxRecDepth 100000 in
theorem vt20 (t : Tab) (nl : NL) (z : Bool) : bodyP Tryd.prog (Ctx.none []) gl0 [] [(5, ls20 true t)] 3000 Tryd.f20 0 [tabA true t nl] [] (retQ Tryd.prog Tryd.f20 0 ⟨[], .bool z, [], []⟩) = (
let x1 := allP (fun (i : Nat) => t.key i = t.key i) 0 32 (t.nx = t.nx ∧ t.n = t.n ∧ (∀ (y : Nat), y < t.n → datas Bool.true (AV.int IntKind.i64 (t.I y) :: List.map (fun (i : Nat) => AV.u8 (t.P y i)) (List.range 32)) = Bool.true ∧ t.I y = t.I y ∧ allP (fun (i : Nat) => t.P y i = t.P y i) 0 32 True) ∧ True); @Bool.rec (fun _ => Prop) (z = Bool.false ∧ True) (@Bool.rec (fun _ => Prop) (z = Bool.false ∧ True) (@Bool.rec (fun _ => Prop) ((∃ (x : Nat), (x ≤ t.n ∧ ∀ (k : Nat), k < x → t.ah k < t.I k ∧ t.I k < t.nx) ∧ 0 = 0 ∧ (↑x : Int) = (0 : Int) ∧ x1) ∧ ∀ (x : Nat), let x1 := ∃ (y : Nat), t.n - y < t.n - x ∧ (y ≤ t.n ∧ ∀ (k : Nat), k < y → t.ah k < t.I k ∧ t.I k < t.nx) ∧ 0 = 0 ∧ (↑y : Int) = IntKind.i64.wrap ((↑x : Int) + (1 : Int)) ∧ x1; (x ≤ t.n ∧ ∀ (k : Nat), k < x → t.ah k < t.I k ∧ t.I k < t.nx) → @Bool.rec (fun _ => Prop) (z = Bool.true ∧ True) ((0 : Int) ≤ (↑x : Int) ∧ (↑x : Int).toNat < t.n ∧ @Bool.rec (fun _ => Prop) (z = Bool.false ∧ True) ((0 : Int) ≤ (↑x : Int) ∧ (↑x : Int).toNat < t.n ∧ @Bool.rec (fun _ => Prop) (z = Bool.false ∧ True) (@Bool.rec (fun _ => Prop) x1 ((0 : Int) ≤ IntKind.i64.wrap ((↑x : Int) - (1 : Int)) ∧ (IntKind.i64.wrap ((↑x : Int) - (1 : Int))).toNat < t.n ∧ (0 : Int) ≤ (↑x : Int) ∧ (↑x : Int).toNat < t.n ∧ @Bool.rec (fun _ => Prop) x1 (z = Bool.false ∧ True) (decide (t.I (↑x : Int).toNat ≤ t.I (IntKind.i64.wrap ((↑x : Int) - (1 : Int))).toNat))) (decide ((0 : Int) < (↑x : Int)))) !decide (t.nx ≤ t.I (↑x : Int).toNat)) !decide (t.I (↑x : Int).toNat < (0 : Int))) (decide ((↑x : Int) < (↑t.n : Int)))) (z = Bool.false ∧ True) (decide ((8 : Int) < (↑t.n : Int)))) !decide ((2147483647 : Int) < t.nx)) !decide (t.nx < (0 : Int)) : Prop) := by kernel_rfl
end Go.Sym

namespace Go.Sym
open Go.Proofs Go.Spec
set_option linter.unusedVariables false
set_option linter.unusedSimpArgs false
theorem i_succ {j n : Nat} (h : j < n) (hn : n ≤ 8) : IntKind.i64.wrap ((j : Int) + 1) = ((j + 1 : Nat) : Int) := wrap_nat _ (by omega) (by omega)
theorem bnot_t {b : Bool} (h : (!b) = true) : b = false := by cases b <;> first | rfl | cases h
theorem bnot_f {b : Bool} (h : (!b) = false) : b = true := by cases b <;> first | rfl | cases h
theorem dno {p : Prop} [Decidable p] (h : decide p = false) : ¬ p := of_decide_eq_false h
theorem dyes {p : Prop} [Decidable p] (h : decide p = true) : p := of_decide_eq_true h
theorem tk_rows (p : Bool) (t : Tab) : ∀ y : Nat, y < t.n → datas p (AV.int IntKind.i64 (t.I y) :: List.map (fun (i : Nat) => AV.u8 (t.P y i)) (List.range 32)) = true ∧ t.I y = t.I y ∧ allP (fun (i : Nat) => t.P y i = t.P y i) 0 32 True :=
  fun y _ => ⟨rfl, rfl, allP_of 32 0 (fun _ _ _ => rfl) trivial⟩
set_option maxRecDepth 100000 in
theorem bt17 (t : Tab) (nl : NL) : Must (bodyP Tryd.prog (Ctx.none []) gl0 [] [(6, ls17 false t)] 3000 Tryd.f17 0 [tabA false t nl] [] (retQ Tryd.prog Tryd.f17 0 ⟨[], .bool t.okB, [], []⟩)) := by
  constructor
  rw [vt17]
  set_option simprocs false in dsimp only
  have hr := tk_rows false t
  refine brec (fun h0 => ?_) (fun h0 => ?_)
  rotate_left
  · have := dyes (bnot_f h0)
    exact ⟨Tab.okB_no (fun k => by have := k.h0; omega), trivial⟩
  replace h0 := dno (bnot_t h0)
  refine brec (fun h1 => ?_) (fun h1 => ?_)
  rotate_left
  · have := dyes (bnot_f h1)
    exact ⟨Tab.okB_no (fun k => by have := k.h1; omega), trivial⟩
  replace h1 := dno (bnot_t h1)
  refine brec (fun h2 => ?_) (fun h2 => ?_)
  · have := dyes h2
    exact ⟨Tab.okB_no (fun k => by have := k.h2; omega), trivial⟩
  replace h2 := dno h2
  refine ⟨⟨0, ⟨Nat.zero_le _, fun k hk => absurd hk (Nat.not_lt_zero k)⟩, rfl, rfl, rfl, hr, rfl, rfl, allP_of 32 0 (fun _ _ _ => rfl) ⟨rfl, rfl, hr, trivial⟩⟩, fun x hx => ?_⟩
  obtain ⟨hx, hk⟩ := hx
  refine brec (fun h3 => ?_) (fun h3 => ?_)
  rotate_left
  · have h3 := dno h3
    refine ⟨Tab.okB_iff.2 ⟨by omega, by omega, by omega, fun j hj => hk j (by omega)⟩, trivial⟩
  have h3 := dyes h3
  have h3 : x < t.n := by omega
  refine ⟨Int.natCast_nonneg _, h3, ?_⟩
  rw [Int.toNat_natCast]
  refine brec (fun h4 => ?_) (fun h4 => ?_)
  rotate_left
  · have h4 := dyes (bnot_f h4)
    exact ⟨Tab.okB_no (fun k => by have := (k.h3 x h3).1; omega), trivial⟩
  have h4 := dno (bnot_t h4)
  refine brec (fun h5 => ?_) (fun h5 => ?_)
  · have h5 := dyes h5
    exact ⟨Tab.okB_no (fun k => by have := (k.h3 x h3).2; omega), trivial⟩
  have h5 := dno h5
  refine ⟨x + 1, by omega, ⟨by omega, fun k hk' => ?_⟩, rfl, rfl, rfl, hr, rfl, (i_succ h3 (by omega)).symm, allP_of 32 0 (fun _ _ _ => rfl) ⟨rfl, rfl, hr, trivial⟩⟩
  by_cases e : k = x
  · subst e; exact ⟨by omega, by omega⟩
  · exact hk k (by omega)
set_option maxRecDepth 100000 in
theorem bt20 (t : Tab) (nl : NL) : Must (bodyP Tryd.prog (Ctx.none []) gl0 [] [(5, ls20 true t)] 3000 Tryd.f20 0 [tabA true t nl] [] (retQ Tryd.prog Tryd.f20 0 ⟨[], .bool t.okB, [], []⟩)) := by
  constructor
  rw [vt20]
  set_option simprocs false in dsimp only
  have hr := tk_rows true t
  have ha : allP (fun (i : Nat) => t.key i = t.key i) 0 32 (t.nx = t.nx ∧ t.n = t.n ∧ (∀ (y : Nat), y < t.n → datas Bool.true (AV.int IntKind.i64 (t.I y) :: List.map (fun (i : Nat) => AV.u8 (t.P y i)) (List.range 32)) = Bool.true ∧ t.I y = t.I y ∧ allP (fun (i : Nat) => t.P y i = t.P y i) 0 32 True) ∧ True) := allP_of 32 0 (fun _ _ _ => rfl) ⟨rfl, rfl, hr, trivial⟩
  refine brec (fun h0 => ?_) (fun h0 => ?_)
  rotate_left
  · have := dyes (bnot_f h0)
    exact ⟨Tab.okB_no (fun k => by have := k.h0; omega), trivial⟩
  replace h0 := dno (bnot_t h0)
  refine brec (fun h1 => ?_) (fun h1 => ?_)
  rotate_left
  · have := dyes (bnot_f h1)
    exact ⟨Tab.okB_no (fun k => by have := k.h1; omega), trivial⟩
  replace h1 := dno (bnot_t h1)
  refine brec (fun h2 => ?_) (fun h2 => ?_)
  · have := dyes h2
    exact ⟨Tab.okB_no (fun k => by have := k.h2; omega), trivial⟩
  replace h2 := dno h2
  refine ⟨⟨0, ⟨Nat.zero_le _, fun k hk => absurd hk (Nat.not_lt_zero k)⟩, rfl, rfl, ha⟩, fun x hx => ?_⟩
  obtain ⟨hx, hk⟩ := hx
  refine brec (fun h3 => ?_) (fun h3 => ?_)
  rotate_left
  · have h3 := dno h3
    refine ⟨Tab.okB_iff.2 ⟨by omega, by omega, by omega, fun j hj => hk j (by omega)⟩, trivial⟩
  have h3 := dyes h3
  have h3 : x < t.n := by omega
  refine ⟨Int.natCast_nonneg _, h3, ?_⟩
  rw [Int.toNat_natCast]
  refine brec (fun h4 => ?_) (fun h4 => ?_)
  rotate_left
  · have h4 := dyes (bnot_f h4)
    exact ⟨Tab.okB_no (fun k => by have := k.pos x h3; omega), trivial⟩
  have h4 := dno (bnot_t h4)
  refine ⟨Int.natCast_nonneg _, h3, ?_⟩
  refine brec (fun h5 => ?_) (fun h5 => ?_)
  rotate_left
  · have h5 := dyes (bnot_f h5)
    exact ⟨Tab.okB_no (fun k => by have := (k.h3 x h3).2; omega), trivial⟩
  have h5 := dno (bnot_t h5)
  have nxt : t.ah x < t.I x → ∃ (y : Nat), t.n - y < t.n - x ∧ (y ≤ t.n ∧ ∀ (k : Nat), k < y → t.ah k < t.I k ∧ t.I k < t.nx) ∧ 0 = 0 ∧ (↑y : Int) = IntKind.i64.wrap ((↑x : Int) + (1 : Int)) ∧ allP (fun (i : Nat) => t.key i = t.key i) 0 32 (t.nx = t.nx ∧ t.n = t.n ∧ (∀ (y : Nat), y < t.n → datas Bool.true (AV.int IntKind.i64 (t.I y) :: List.map (fun (i : Nat) => AV.u8 (t.P y i)) (List.range 32)) = Bool.true ∧ t.I y = t.I y ∧ allP (fun (i : Nat) => t.P y i = t.P y i) 0 32 True) ∧ True) := by
    intro ha'
    refine ⟨x + 1, by omega, ⟨by omega, fun k hk' => ?_⟩, rfl, (i_succ h3 (by omega)).symm, ha⟩
    by_cases e : k = x
    · subst e; exact ⟨ha', by omega⟩
    · exact hk k (by omega)
  refine brec (fun h6 => ?_) (fun h6 => ?_)
  rotate_left
  · have h6 := dno h6
    have : x = 0 := by omega
    subst this
    refine nxt ?_
    show (-1 : Int) < _
    omega
  have h6 := dyes h6
  obtain ⟨w, rfl⟩ : ∃ w, x = w + 1 := ⟨x - 1, by omega⟩
  have e1 : IntKind.i64.wrap (((w + 1 : Nat) : Int) - 1) = ((w : Nat) : Int) := by
    have : (((w + 1 : Nat) : Int) - 1) = (w : Int) := by omega
    rw [this]
    exact wrap_nat _ (by omega) (by omega)
  have e2 : t.ah (w + 1) = t.I w := rfl
  rw [e1, Int.toNat_natCast]
  refine ⟨Int.natCast_nonneg _, by omega, Int.natCast_nonneg _, h3, ?_⟩
  refine brec (fun h7 => ?_) (fun h7 => ?_)
  · have h7 := dyes h7
    exact ⟨Tab.okB_no (fun k => by have := (k.h3 (w + 1) h3).1; omega), trivial⟩
  · have h7 := dno h7
    exact nxt (by omega)
end Go.Sym

namespace Go.Sym
open Go.Proofs Go.Spec
set_option linter.unusedVariables false
set_option maxRecDepth 100000 in
theorem vt21 (p : Bool) (t : Tab) (id : Int) (nl : NL) (V : By) : bodyP Tryd.prog B8 gl0 [] [] 3000 Tryd.f21 0 [tabA p t nl, .int .i64 id] [] (retQ Tryd.prog Tryd.f21 0 ⟨[], .slice 0 0 1 V.length .ow .unk, [], [⟨.bytes V, true, 1⟩]⟩) = (
let x1 := [BitVec.ofInt 8 (id.fdiv (Int.ofNat 16777216))] ++ [BitVec.ofInt 8 (id.fdiv (Int.ofNat 65536))] ++ [BitVec.ofInt 8 (id.fdiv (Int.ofNat 256))] ++ [BitVec.ofInt 8 (id.fdiv (Int.ofNat 1))]; let x2 := [BitVec.ofInt 8 (id.fdiv (Int.ofNat 16777216))].length + [BitVec.ofInt 8 (id.fdiv (Int.ofNat 65536))].length + [BitVec.ofInt 8 (id.fdiv (Int.ofNat 256))].length; let x3 := [BitVec.ofInt 8 (id.fdiv (Int.ofNat 16777216))]; let x4 := [BitVec.ofInt 8 (id.fdiv (Int.ofNat 1))].length; let x5 := [BitVec.ofInt 8 (id.fdiv (Int.ofNat 65536))]; @Bool.rec (fun _ => Prop) (List.length V = 0 ∧ V = [] ∧ True) (@Bool.rec (fun _ => Prop) ((0 : Int) ≤ Int.ofNat 24 ∧ 1 = x3.length ∧ roomFor 0 x3.length 1 ∧ (0 : Int) ≤ Int.ofNat 16 ∧ 1 = x5.length ∧ x3.length = x3.length ∧ roomFor x3.length x5.length 1 ∧ (0 : Int) ≤ Int.ofNat 8 ∧ 1 = [BitVec.ofInt 8 (id.fdiv (Int.ofNat 256))].length ∧ x3.length + x5.length = (x3 ++ x5).length ∧ roomFor (x3.length + x5.length) [BitVec.ofInt 8 (id.fdiv (Int.ofNat 256))].length 1 ∧ (0 : Int) ≤ Int.ofNat 0 ∧ 1 = x4 ∧ x2 = (x3 ++ x5 ++ [BitVec.ofInt 8 (id.fdiv (Int.ofNat 256))]).length ∧ roomFor x2 x4 1 ∧ x2 + x4 = x1.length ∧ ((rg 32 t.key).length < 4611686018427387904 ∧ x1.length < 4611686018427387904) ∧ 12 ≤ 32 ∧ x2 + x4 = x1.length ∧ roomFor (x2 + x4) (rg 12 (macB (rg 32 t.key) x1)).length 1 ∧ 0 = 0 ∧ 0 = 0 ∧ 0 = 0 ∧ List.length V = x2 + x4 + (rg 12 (macB (rg 32 t.key) x1)).length ∧ V = x1 ++ rg 12 (macB (rg 32 t.key) x1) ∧ True) (List.length V = 0 ∧ V = [] ∧ True) (decide ((2147483647 : Int) < id))) !decide (id < (0 : Int)) : Prop) := by kernel_rfl
set_option maxRecDepth 100000 in
theorem vt13 (key : Nat → BitVec 8) (id : Int) (V : By) : bodyP Tryd.prog R6 gl0 [] [] 3000 Tryd.f13 0 [aggB 32 key, .int .i64 id] [] (retQ Tryd.prog Tryd.f13 0 ⟨[], .slice 0 0 1 V.length .ow .unk, [], [⟨.bytes V, true, 1⟩]⟩) = (
let x1 := [BitVec.ofInt 8 (id.fdiv (Int.ofNat 16777216)), BitVec.ofInt 8 (id.fdiv (Int.ofNat 65536)), BitVec.ofInt 8 (id.fdiv (Int.ofNat 256)), BitVec.ofInt 8 id]; @Bool.rec (fun _ => Prop) (List.length V = 0 ∧ V = [] ∧ True) (@Bool.rec (fun _ => Prop) (0 = 0 ∧ roomFor 0 (rg 32 key).length 1 ∧ 0 + (rg 32 key).length = ([] ++ rg 32 key).length ∧ 4 = x1.length ∧ ([] ++ rg 32 key).length < 17592186044416 ∧ x1.length < 17592186044416 ∧ 12 ≤ 32 ∧ 4 = x1.length ∧ roomFor 4 (rg 12 (macB ([] ++ rg 32 key) x1)).length 1 ∧ 0 = 0 ∧ 0 = 0 ∧ 0 = 0 ∧ List.length V = 4 + (rg 12 (macB ([] ++ rg 32 key) x1)).length ∧ V = x1 ++ rg 12 (macB ([] ++ rg 32 key) x1) ∧ True) (List.length V = 0 ∧ V = [] ∧ True) (decide ((2147483647 : Int) < id))) !decide (id < (0 : Int)) : Prop) := by kernel_rfl
end Go.Sym

namespace Go.Spec
/-- A number's four bytes. -/
def b4 (id : Int) : By := [BitVec.ofInt 8 (id.fdiv (Int.ofNat 16777216)), BitVec.ofInt 8 (id.fdiv (Int.ofNat 65536)), BitVec.ofInt 8 (id.fdiv (Int.ofNat 256)), BitVec.ofInt 8 (id.fdiv (Int.ofNat 1))]
/-- A ticket's text. -/
noncomputable def tkB (key : Nat → BitVec 8) (id : Int) : By := if id < 0 ∨ 2147483647 < id then [] else b4 id ++ rg 12 (macB (rg 32 key) (b4 id))
end Go.Spec
namespace Go.Sym
open Go.Proofs Go.Spec
set_option linter.unusedVariables false
set_option linter.unusedSimpArgs false
theorem bt21 (p : Bool) (t : Tab) (id : Int) (nl : NL) : Must (bodyP Tryd.prog B8 gl0 [] [] 3000 Tryd.f21 0 [tabA p t nl, .int .i64 id] [] (retQ Tryd.prog Tryd.f21 0 ⟨[], .slice 0 0 1 (tkB t.key id).length .ow .unk, [], [⟨.bytes (tkB t.key id), true, 1⟩]⟩)) := by
  constructor
  rw [vt21]
  set_option simprocs false in dsimp only
  have l1 : ∀ m : Nat → BitVec 8, (rg 12 m).length = 12 := fun m => rg_length _ m
  have l2 : ∀ m : Nat → BitVec 8, (rg 32 m).length = 32 := fun m => rg_length _ m
  refine brec (fun h0 => ?_) (fun h0 => ?_)
  rotate_left
  · have := dyes (bnot_f h0)
    have e : tkB t.key id = [] := if_pos (Or.inl this)
    rw [e]
    exact ⟨rfl, rfl, trivial⟩
  replace h0 := dno (bnot_t h0)
  refine brec (fun h1 => ?_) (fun h1 => ?_)
  · have := dyes h1
    have e : tkB t.key id = [] := if_pos (Or.inr this)
    rw [e]
    exact ⟨rfl, rfl, trivial⟩
  replace h1 := dno h1
  have e : tkB t.key id = b4 id ++ rg 12 (macB (rg 32 t.key) (b4 id)) := if_neg (fun k => k.elim h0 h1)
  rw [e]
  refine ⟨by decide, rfl, by unfold roomFor; simp, by decide, rfl, rfl, by unfold roomFor; simp, by decide, rfl, rfl, by unfold roomFor; simp, by decide, rfl, rfl, by unfold roomFor; simp, rfl, ⟨by rw [l2]; decide, by simp⟩, by decide, rfl, by rw [l1]; unfold roomFor; simp, rfl, rfl, rfl, ?_, rfl, trivial⟩
  rw [List.length_append]
  rfl
theorem bt13 (key : Nat → BitVec 8) (id : Int) : Must (bodyP Tryd.prog R6 gl0 [] [] 3000 Tryd.f13 0 [aggB 32 key, .int .i64 id] [] (retQ Tryd.prog Tryd.f13 0 ⟨[], .slice 0 0 1 (tkB key id).length .ow .unk, [], [⟨.bytes (tkB key id), true, 1⟩]⟩)) := by
  constructor
  rw [vt13]
  set_option simprocs false in dsimp only
  have l1 : ∀ m : Nat → BitVec 8, (rg 12 m).length = 12 := fun m => rg_length _ m
  have l2 : ∀ m : Nat → BitVec 8, (rg 32 m).length = 32 := fun m => rg_length _ m
  refine brec (fun h0 => ?_) (fun h0 => ?_)
  rotate_left
  · have := dyes (bnot_f h0)
    have e : tkB key id = [] := if_pos (Or.inl this)
    rw [e]
    exact ⟨rfl, rfl, trivial⟩
  replace h0 := dno (bnot_t h0)
  refine brec (fun h1 => ?_) (fun h1 => ?_)
  · have := dyes h1
    have e : tkB key id = [] := if_pos (Or.inr this)
    rw [e]
    exact ⟨rfl, rfl, trivial⟩
  replace h1 := dno h1
  have e : tkB key id = b4 id ++ rg 12 (macB (rg 32 key) (b4 id)) := if_neg (fun k => k.elim h0 h1)
  have e4 : [BitVec.ofInt 8 (id.fdiv (Int.ofNat 16777216)), BitVec.ofInt 8 (id.fdiv (Int.ofNat 65536)), BitVec.ofInt 8 (id.fdiv (Int.ofNat 256)), BitVec.ofInt 8 id] = b4 id := by
    unfold b4
    have : id.fdiv (Int.ofNat 1) = id := Int.fdiv_one id
    rw [this]
  rw [e, e4, List.nil_append]
  refine ⟨rfl, by rw [l2]; unfold roomFor; simp, by simp, rfl, by rw [l2]; decide, by simp [b4], by decide, rfl, by rw [l1]; unfold roomFor; simp, rfl, rfl, rfl, ?_, rfl, trivial⟩
  rw [List.length_append]
  rfl
end Go.Sym

namespace Go.Sym
open Go.Proofs Go.Spec
set_option linter.unusedVariables false
set_option linter.unusedSimpArgs false
def fn8 (l : List (BitVec 8)) : Nat → BitVec 8 := fun i => l.getD i 0
def rowN (g : Nat → List AV) (j : Nat) : Int := match g j with | .int .i64 l :: _ => l | _ => 0
def rowP (g : Nat → List AV) (j : Nat) : Nat → BitVec 8 := match g j with | _ :: l => (match rdU8 l with | some m => fn8 m | none => fun _ => 0) | _ => fun _ => 0
def mkTab (l : List (BitVec 8)) (nx : Int) (n : Nat) (g : Nat → List AV) : Tab := ⟨fn8 l, nx, n, rowN g, rowP g⟩
/-- A table among the inputs, its rows of the kind. -/
def asTab (p : Bool) (cs : List AV) (k : Tab → NL → List Prop → TL) : TL :=
  match cs.drop 32, rdU8 (cs.take 32) with
  | [.int .i64 nx, .ros q 33 n g nl], some l =>
    (match l.length == 32, q == p with
    | true, true => k (mkTab l nx n g) nl [g = rowE (mkTab l nx n g)]
    | _, _ => .no)
  | _, _ => .no
theorem key_of {cs : List AV} {l : List (BitVec 8)} (h : rdU8 cs = some l) (hl : (l.length == 32) = true) : cs = (List.range 32).map fun i => .u8 (fn8 l i) := by
  have hl : l.length = 32 := by simpa using hl
  rw [rdU8_eq h]
  apply List.ext_getElem
  · simp [hl]
  · intro i h1 h2
    have : i < l.length := by simpa using h1
    simp [fn8, List.getD, this]
theorem asTab_sel {p : Bool} {cs : List AV} {k : Tab → NL → List Prop → TL} {r : RL} (h : (asTab p cs k).sel = some r) : ∃ t nl o, (k t nl o).sel = some r ∧ (obsT o → AV.agg cs = tabA p t nl) := by
  unfold asTab at h
  split at h
  · rename_i nx q n g nl l hd hl
    split at h
    · rename_i hn hq
      have hq : q = p := by simpa using hq
      subst hq
      refine ⟨_, _, _, h, fun ho => ?_⟩
      have hg := obsT_one.1 ho
      have e := List.take_append_drop 32 cs
      rw [hd, key_of hl hn] at e
      unfold tabA tabC
      rw [← e, ← hg]
      rfl
    · simp [TL.sel] at h
  · simp [TL.sel] at h
def tabK : Kd := .a (List.replicate 32 .kp ++ [.kp, .r 33])
noncomputable def g17 (xs : List AV) (bs : List ABlk) : TL := match xs, bs with
  | [.agg cs], [] => asTab false cs fun t nl o => .ok ⟨o, .bool t.okB, [], []⟩
  | _, _ => .no
noncomputable def sp17 : Spec := ⟨[tabK], fun _ _ => [], fun _ _ => [], g17⟩
theorem ct17 : COK Tryd.prog gl0 17 (mkF sp17) := by
  refine ctrE (fn := Tryd.f17) [] 3000 (by kernel_rfl) (by kernel_rfl) (COKs.none (keep := [])) (by kernel_rfl) (fun args w => by kernel_rfl) fun xs bs r hs ho => ?_
  replace hs : (g17 xs bs).sel = some r := hs
  unfold g17 at hs
  split at hs
  · obtain ⟨t, nl, o, hs, hc⟩ := asTab_sel hs
    simp only [TL.sel, Option.some.injEq] at hs
    subst hs
    rw [hc ho]
    exact ⟨_, bt17 t nl⟩
  · simp [TL.sel] at hs
noncomputable def g20 (xs : List AV) (bs : List ABlk) : TL := match xs, bs with
  | [.agg cs], [] => asTab true cs fun t nl o => .ok ⟨o, .bool t.okB, [], []⟩
  | _, _ => .no
noncomputable def sp20 : Spec := ⟨[tabK], fun _ _ => [], fun _ _ => [], g20⟩
theorem ct20 : COK Tryd.prog gl0 20 (mkF sp20) := by
  refine ctrE (fn := Tryd.f20) [] 3000 (by kernel_rfl) (by kernel_rfl) (COKs.none (keep := [])) (by kernel_rfl) (fun args w => by kernel_rfl) fun xs bs r hs ho => ?_
  replace hs : (g20 xs bs).sel = some r := hs
  unfold g20 at hs
  split at hs
  · obtain ⟨t, nl, o, hs, hc⟩ := asTab_sel hs
    simp only [TL.sel, Option.some.injEq] at hs
    subst hs
    rw [hc ho]
    exact ⟨_, bt20 t nl⟩
  · simp [TL.sel] at hs
noncomputable def g21 (xs : List AV) (bs : List ABlk) : TL := match xs, bs with
  | [.agg cs, .int .i64 id], [] => asTab false cs fun t nl o => .ok ⟨o, .slice 0 0 1 (tkB t.key id).length .ow .unk, [], [⟨.bytes (tkB t.key id), true, 1⟩]⟩
  | _, _ => .no
noncomputable def sp21 : Spec := ⟨[tabK, .kp], fun _ _ => [], fun _ _ => [], g21⟩
theorem ct21 : COK Tryd.prog gl0 21 (mkF sp21) := by
  refine ctrE (fn := Tryd.f21) [] 3000 (by kernel_rfl) (by kernel_rfl) okB8 (by kernel_rfl) (fun args w => by kernel_rfl) fun xs bs r hs ho => ?_
  replace hs : (g21 xs bs).sel = some r := hs
  unfold g21 at hs
  split at hs
  · obtain ⟨t, nl, o, hs, hc⟩ := asTab_sel hs
    simp only [TL.sel, Option.some.injEq] at hs
    subst hs
    rw [hc ho]
    exact ⟨_, bt21 false t _ nl⟩
  · simp [TL.sel] at hs
def asKey (cs : List AV) (k : (Nat → BitVec 8) → TL) : TL := match rdU8 cs with | some l => (match l.length == 32 with | true => k (fn8 l) | false => .no) | none => .no
theorem asKey_sel {cs : List AV} {k : (Nat → BitVec 8) → TL} {r : RL} (h : (asKey cs k).sel = some r) : ∃ f, AV.agg cs = aggB 32 f ∧ (k f).sel = some r := by
  unfold asKey at h
  split at h
  · rename_i l hl
    split at h
    · rename_i hn
      exact ⟨_, by unfold aggB; rw [key_of hl hn], h⟩
    · simp [TL.sel] at h
  · simp [TL.sel] at h
noncomputable def g13 (xs : List AV) (bs : List ABlk) : TL := match xs, bs with
  | [.agg cs, .int .i64 id], [] => asKey cs fun key => .ok ⟨[], .slice 0 0 1 (tkB key id).length .ow .unk, [], [⟨.bytes (tkB key id), true, 1⟩]⟩
  | _, _ => .no
noncomputable def sp13 : Spec := ⟨[.a (List.replicate 32 .kp), .kp], fun _ _ => [], fun _ _ => [], g13⟩
theorem ct13 : COK Tryd.prog gl0 13 (mkF sp13) := by
  refine ctrE (fn := Tryd.f13) [] 3000 (by kernel_rfl) (by kernel_rfl) okR6 (by kernel_rfl) (fun args w => by kernel_rfl) fun xs bs r hs ho => ?_
  replace hs : (g13 xs bs).sel = some r := hs
  unfold g13 at hs
  split at hs
  · obtain ⟨key, e, hs⟩ := asKey_sel hs
    simp only [TL.sel, Option.some.injEq] at hs
    subst hs
    rw [e]
    exact ⟨_, bt13 key _⟩
  · simp [TL.sel] at hs
/-- What the later ones call: both halves' texts, the first half's look at a table. -/
noncomputable def T1 : Ctx := ((B8.add 17 (mkF sp17)).add 21 (mkF sp21))
theorem okT1 : COKs Tryd.prog gl0 T1 := (okB8.add ct17).add ct21
noncomputable def T2 : Ctx := ((R6.add 20 (mkF sp20)).add 13 (mkF sp13))
theorem okT2 : COKs Tryd.prog gl0 T2 := (okR6.add ct20).add ct13
end Go.Sym

namespace Go.Spec
/-- The number in the first bytes. -/
def beN (k : By) : Nat → Int
  | 0 => 0
  | j + 1 => beN k j * 256 + ((k.getD j 0).toNat : Int)
end Go.Spec
namespace Go.Sym
open Go.Proofs Go.Spec
set_option linter.unusedVariables false
def ls39 (t : Tab) (k : By) : LS := ⟨Nat, fun j => [(1, .rb false k .unk), (2, .ptr 101 0 0 0), (6, .int .i64 (beN k j)), (13, .rb false (k.take 4) .unk), (14, .int .i64 4), (15, .int .i64 j)], fun j => [(101, bxT false t)], 1000, fun j => 4 - j, fun j => j ≤ 4, fun _ => []⟩
end Go.Sym

namespace Go.Sym
open Go.Proofs Go.Spec
set_option linter.unusedVariables false
set_option maxRecDepth 100000 in
theorem vt39 (t : Tab) (nl : NL) (k : By) (id : Int) (z : Bool) : bodyP Tryd.prog T1 gl0 [] [(6, ls39 t k)] 3000 Tryd.f39 0 [tabA false t nl, .rb false k .unk] [] (retQ Tryd.prog Tryd.f39 0 ⟨[], .tup [.int .i64 id, .bool z], [], []⟩) = (
let x1 := allP (fun (i : Nat) => t.key i = t.key i) 0 32 (t.nx = t.nx ∧ t.n = t.n ∧ (∀ (y : Nat), y < t.n → datas Bool.false (AV.int IntKind.i64 (t.I y) :: List.map (fun (i : Nat) => AV.u8 (t.P y i)) (List.range 32)) = Bool.true ∧ t.I y = t.I y ∧ allP (fun (i : Nat) => t.P y i = t.P y i) 0 32 True) ∧ True); @Bool.rec (fun _ => Prop) (4 ≤ List.length k ∧ (∃ (x : Nat), x.le 4 ∧ k = k ∧ 0 = 0 ∧ beN k x = (0 : Int) ∧ List.take 4 k = List.take 4 k ∧ (4 : Int) = (↑(List.take 4 k).length : Int) ∧ (↑x : Int) = (0 : Int) ∧ x1) ∧ ∀ (x : Nat), x.le 4 → @Bool.rec (fun _ => Prop) (((fun (j : Nat) => AV.int IntKind.i64 (t.I j) :: List.map (fun (i : Nat) => AV.u8 (t.P j i)) (List.range 32)) = fun (j : Nat) => AV.int IntKind.i64 (t.I j) :: List.map (fun (i : Nat) => AV.u8 ((rg 32 (t.P j)).getD i (0 : BitVec 8))) (List.range 32)) ∧ List.length (tkB (fun (i : Nat) => (rg 32 t.key).getD i (0 : BitVec 8)) (beN k x)) = List.length (tkB (fun (i : Nat) => (rg 32 t.key).getD i (0 : BitVec 8)) (beN k x)) ∧ List.length k < 4611686018427387904 ∧ id = beN k x ∧ z = sameB k (tkB (fun (i : Nat) => (rg 32 t.key).getD i (0 : BitVec 8)) (beN k x)) ∧ True) ((0 : Int) ≤ (↑x : Int) ∧ (↑x : Int).toNat < (List.take 4 k).length ∧ ∃ (y : Nat), 4 - y < 4 - x ∧ y.le 4 ∧ k = k ∧ 0 = 0 ∧ beN k y = IntKind.i64.wrap (↑(BitVec.ofInt 64 (IntKind.i64.wrap (beN k x * Int.ofNat 256)) ||| BitVec.ofInt 64 (↑((List.take 4 k).getD (↑x : Int).toNat (0 : BitVec 8)).toNat : Int)).toNat : Int) ∧ List.take 4 k = List.take 4 k ∧ (4 : Int) = (4 : Int) ∧ (↑y : Int) = IntKind.i64.wrap ((↑x : Int) + (1 : Int)) ∧ x1) (decide ((↑x : Int) < (4 : Int)))) (id = (0 : Int) ∧ z = Bool.false ∧ True) !decide ((↑(List.length k) : Int) = (16 : Int)) : Prop) := by kernel_rfl
end Go.Sym

namespace Go.Spec
theorem beN_nat (k : By) : ∀ j : Nat, ∃ n : Nat, beN k j = (n : Int) ∧ n < 256 ^ j
  | 0 => ⟨0, rfl, by decide⟩
  | j + 1 => by
    obtain ⟨n, e, h⟩ := beN_nat k j
    have hb := (k.getD j 0).isLt
    refine ⟨n * 256 + (k.getD j 0).toNat, ?_, ?_⟩
    · show beN k j * 256 + _ = _
      rw [e]; omega
    · rw [Nat.pow_succ]; omega
theorem rg_get {n i : Nat} (F : Nat → BitVec 8) (h : i < n) : (rg n F).getD i 0 = F i := by
  rw [rg_eq]; simp [List.getD, h]
theorem rg_rg (n : Nat) (F : Nat → BitVec 8) : rg n (fun i => (rg n F).getD i 0) = rg n F := by
  rw [rg_eq, rg_eq]
  apply List.map_congr_left
  intro i hi
  have : i < n := by simpa using hi
  simp [List.getD, this]
theorem tkB_rg (F : Nat → BitVec 8) (id : Int) : tkB (fun i => (rg 32 F).getD i 0) id = tkB F id := by unfold tkB; rw [rg_rg]
/-- The number that a ticket's bytes tell, and whether they are its text. -/
def idI (k : By) : Int := if k.length = 16 then beN k 4 else 0
noncomputable def idZ (key : Nat → BitVec 8) (k : By) : Bool := if k.length = 16 then sameB k (tkB key (beN k 4)) else false
end Go.Spec
namespace Go.Sym
open Go.Proofs Go.Spec
set_option linter.unusedVariables false
set_option linter.unusedSimpArgs false
theorem or8 (a : Nat) (ha : a < 16777216) (b : BitVec 8) : IntKind.i64.wrap (↑(BitVec.ofInt 64 (IntKind.i64.wrap ((a : Int) * Int.ofNat 256)) ||| BitVec.ofInt 64 (↑b.toNat : Int)).toNat : Int) = (a : Int) * 256 + b.toNat := by
  have hb := b.isLt
  have e1 : IntKind.i64.wrap ((a : Int) * Int.ofNat 256) = ((a * 256 : Nat) : Int) := wrap_nat _ (by simp) (by omega)
  rw [e1, BitVec.ofInt_natCast, BitVec.ofInt_natCast, BitVec.toNat_or, BitVec.toNat_ofNat, BitVec.toNat_ofNat, Nat.mod_eq_of_lt (by omega), Nat.mod_eq_of_lt (by omega)]
  have e2 : a * 256 ||| b.toNat = a * 256 + b.toNat := by
    have := Nat.shiftLeft_add_eq_or_of_lt (i := 8) (b := b.toNat) (by simpa using hb) a
    rw [Nat.shiftLeft_eq] at this
    exact this.symm
  rw [e2]
  exact (wrap_nat _ rfl (by omega)).trans (by simp)
theorem rows_rg (t : Tab) : (fun (j : Nat) => AV.int IntKind.i64 (t.I j) :: List.map (fun (i : Nat) => AV.u8 (t.P j i)) (List.range 32)) = fun (j : Nat) => AV.int IntKind.i64 (t.I j) :: List.map (fun (i : Nat) => AV.u8 ((rg 32 (t.P j)).getD i 0)) (List.range 32) := by
  funext j
  congr 1
theorem bt39 (t : Tab) (nl : NL) (k : By) (hk : k.length < 4611686018427387904) : Must (bodyP Tryd.prog T1 gl0 [] [(6, ls39 t k)] 3000 Tryd.f39 0 [tabA false t nl, .rb false k .unk] [] (retQ Tryd.prog Tryd.f39 0 ⟨[], .tup [.int .i64 (idI k), .bool (idZ t.key k)], [], []⟩)) := by
  constructor
  rw [vt39]
  set_option simprocs false in dsimp only
  have ha : allP (fun (i : Nat) => t.key i = t.key i) 0 32 (t.nx = t.nx ∧ t.n = t.n ∧ (∀ (y : Nat), y < t.n → datas Bool.false (AV.int IntKind.i64 (t.I y) :: List.map (fun (i : Nat) => AV.u8 (t.P y i)) (List.range 32)) = Bool.true ∧ t.I y = t.I y ∧ allP (fun (i : Nat) => t.P y i = t.P y i) 0 32 True) ∧ True) := allP_of 32 0 (fun _ _ _ => rfl) ⟨rfl, rfl, tk_rows false t, trivial⟩
  refine brec (fun h0 => ?_) (fun h0 => ?_)
  · have h0 := dno (bnot_t h0)
    have hn : ¬ k.length = 16 := fun e => h0 (by rw [e]; rfl)
    exact ⟨if_neg hn, if_neg hn, trivial⟩
  have h0 := dyes (bnot_f h0)
  have hl : k.length = 16 := by omega
  have e1 : idI k = beN k 4 := if_pos hl
  have e2 : idZ t.key k = sameB k (tkB t.key (beN k 4)) := if_pos hl
  have h4 : (List.take 4 k).length = 4 := by rw [List.length_take, hl]; rfl
  refine ⟨by omega, ⟨0, Nat.zero_le _, rfl, rfl, rfl, rfl, by rw [h4]; rfl, rfl, ha⟩, fun x hx => ?_⟩
  refine brec (fun h1 => ?_) (fun h1 => ?_)
  · have h1 := dyes h1
    have h1 : x < 4 := by omega
    obtain ⟨n, en, hn⟩ := beN_nat k x
    have hn : n < 16777216 := Nat.lt_of_lt_of_le hn (by
      have : (256 : Nat) ^ x ≤ 256 ^ 3 := Nat.pow_le_pow_right (by decide) (by omega)
      exact this)
    have eg : (List.take 4 k).getD x 0 = k.getD x 0 := by simp [List.getD, h1]
    refine ⟨Int.natCast_nonneg _, by rw [h4]; exact h1, x + 1, by omega, h1, rfl, rfl, ?_, rfl, rfl, (wrap_nat _ (by omega) (by omega)).symm, ha⟩
    rw [Int.toNat_natCast, eg]
    show beN k x * 256 + _ = _
    rw [en]
    exact (or8 n hn _).symm
  · have h1 := dno h1
    have hx : x ≤ 4 := hx
    have : x = 4 := by omega
    subst this
    rw [tkB_rg]
    exact ⟨rows_rg t, rfl, hk, e1, e2, trivial⟩
noncomputable def g39 (xs : List AV) (bs : List ABlk) : TL := match xs, bs with
  | [.agg cs, .rb false k .unk], [] => asTab false cs fun t nl o => .ok ⟨(k.length < 4611686018427387904) :: o, .tup [.int .i64 (idI k), .bool (idZ t.key k)], [], []⟩
  | _, _ => .no
noncomputable def sp39 : Spec := ⟨[tabK, .by0], fun _ _ => [], fun _ _ => [], g39⟩
theorem ct39 : COK Tryd.prog gl0 39 (mkF sp39) := by
  refine ctrE (fn := Tryd.f39) [] 3000 (by kernel_rfl) (by kernel_rfl) okT1 (by kernel_rfl) (fun args w => by kernel_rfl) fun xs bs r hs ho => ?_
  replace hs : (g39 xs bs).sel = some r := hs
  unfold g39 at hs
  split at hs
  · obtain ⟨t, nl, o, hs, hc⟩ := asTab_sel hs
    simp only [TL.sel, Option.some.injEq] at hs
    subst hs
    obtain ⟨hk, ho⟩ := obsT_cons.1 ho
    rw [hc ho]
    exact ⟨_, bt39 t nl _ hk⟩
  · simp [TL.sel] at hs
end Go.Sym

namespace Go.Spec
open Go.Sym
open Classical in
/-- Where the first is that isn't right; -1: there is none. -/
noncomputable def ixP (P : Nat → Prop) (n : Nat) : Int := if h : ∃ j, j < n ∧ ¬ P j ∧ ∀ i, i < j → P i then (Classical.choose h : Nat) else -1
theorem ixP_no {P : Nat → Prop} {n : Nat} (h : ∀ j, j < n → P j) : ixP P n = -1 := by
  unfold ixP
  rw [dif_neg]
  rintro ⟨j, hj, hn, _⟩
  exact hn (h j hj)
theorem ixP_at {P : Nat → Prop} {n j : Nat} (hj : j < n) (hn : ¬ P j) (h : ∀ i, i < j → P i) : ixP P n = (j : Int) := by
  have he : ∃ j, j < n ∧ ¬ P j ∧ ∀ i, i < j → P i := ⟨j, hj, hn, h⟩
  unfold ixP
  rw [dif_pos he]
  obtain ⟨k1, k2, k3⟩ := Classical.choose_spec he
  generalize Classical.choose he = k at *
  rcases Nat.lt_trichotomy j k with c | c | c
  · exact absurd (k3 j c) hn
  · rw [c]
  · exact absurd (h k c) k2
theorem ixP_ge {P : Nat → Prop} {n : Nat} : 0 ≤ ixP P n ↔ ¬ ∀ j, j < n → P j := by
  constructor
  · intro h c
    rw [ixP_no c] at h
    omega
  · intro h
    unfold ixP
    split
    · omega
    · rename_i hx
      exfalso
      apply h
      intro j
      induction j using Nat.strongRecOn with
      | _ j ih =>
        intro hj
        apply Classical.byContradiction
        intro hn
        exact hx ⟨j, hj, hn, fun i hi => ih i hi (by omega)⟩
end Go.Spec
namespace Go.Sym
open Go.Proofs Go.Spec
set_option linter.unusedVariables false
noncomputable def T3 : Ctx := (T1.add 39 (mkF sp39)).exe Tryd.prog gl0 [] 400 2 41 Tryd.f41
theorem okT3 : COKs Tryd.prog gl0 T3 := (okT1.add ct39).exe [] 400 _ (by kernel_rfl) (by kernel_rfl) (by kernel_rfl) (fun args w => by kernel_rfl)
def bxI (id : Int) : ABlk := ⟨.cells [.int .i64 id], true, 0⟩
def ls40 (t : Tab) (id : Int) : LS := ⟨Nat, fun j => [(0, .ros false 33 t.n (rowE t) .unk), (1, .fn 41 [] [.ptr 0 0 0 0]), (7, .int .i64 t.n), (8, .int .i64 j)], fun j => [(0, bxI id)], 1000, fun j => t.n - j, fun j => j ≤ t.n ∧ ∀ k, k < j → t.I k ≠ id, fun _ => []⟩
end Go.Sym

namespace Go.Sym
open Go.Proofs Go.Spec
set_option linter.unusedVariables false
set_option maxRecDepth 100000 in
theorem vt40 (t : Tab) (id : Int) (u : NL) (z : Int) : bodyP Tryd.prog T3 gl0 [] [(3, ls40 t id)] 3000 Tryd.f40 1 [.ros false 33 t.n (rowE t) u, .fn 41 [] [.ptr 0 0 0 0]] [bxI id] (retQ Tryd.prog Tryd.f40 1 ⟨[], .int .i64 z, [some (some (bxI id))], []⟩) = (
let x1 := ∀ (y : Nat), y < t.n → datas Bool.false (AV.int IntKind.i64 (t.I y) :: List.map (fun (i : Nat) => AV.u8 (t.P y i)) (List.range 32)) = Bool.true ∧ t.I y = t.I y ∧ allP (fun (i : Nat) => t.P y i = t.P y i) 0 32 True; (∃ (x : Nat), (x ≤ t.n ∧ ∀ (k : Nat), k < x → t.I k ≠ id) ∧ t.n = t.n ∧ x1 ∧ 0 = 0 ∧ (↑t.n : Int) = (↑t.n : Int) ∧ (↑x : Int) = (0 : Int) ∧ id = id ∧ True) ∧ ∀ (x : Nat), (x ≤ t.n ∧ ∀ (k : Nat), k < x → t.I k ≠ id) → @Bool.rec (fun _ => Prop) (z = Int.negSucc 0 ∧ id = id ∧ True) ((0 : Int) ≤ (↑x : Int) ∧ (↑x : Int).toNat < t.n ∧ @Bool.rec (fun _ => Prop) (∃ (y : Nat), t.n - y < t.n - x ∧ (y ≤ t.n ∧ ∀ (k : Nat), k < y → t.I k ≠ id) ∧ t.n = t.n ∧ x1 ∧ 0 = 0 ∧ (↑t.n : Int) = (↑t.n : Int) ∧ (↑y : Int) = IntKind.i64.wrap ((↑x : Int) + (1 : Int)) ∧ id = id ∧ True) (z = (↑x : Int) ∧ id = id ∧ True) (decide (t.I (↑x : Int).toNat = id))) (decide ((↑x : Int) < (↑t.n : Int))) : Prop) := by kernel_rfl
end Go.Sym

namespace Go.Sym
open Go.Proofs Go.Spec
set_option linter.unusedVariables false
theorem bt40 (t : Tab) (id : Int) (u : NL) (hn : t.n < 4611686018427387904) : Must (bodyP Tryd.prog T3 gl0 [] [(3, ls40 t id)] 3000 Tryd.f40 1 [.ros false 33 t.n (rowE t) u, .fn 41 [] [.ptr 0 0 0 0]] [bxI id] (retQ Tryd.prog Tryd.f40 1 ⟨[], .int .i64 (ixP (fun j => t.I j ≠ id) t.n), [some (some (bxI id))], []⟩)) := by
  constructor
  rw [vt40]
  set_option simprocs false in dsimp only
  have hr := tk_rows false t
  refine ⟨⟨0, ⟨Nat.zero_le _, fun j hj => absurd hj (by omega)⟩, rfl, hr, rfl, rfl, rfl, rfl, trivial⟩, fun x hx => ?_⟩
  obtain ⟨hx, hu⟩ := hx
  refine brec (fun d => ?_) (fun d => ?_)
  · have d := dyes d
    have d : x < t.n := by omega
    refine ⟨Int.natCast_nonneg _, d, ?_⟩
    rw [Int.toNat_natCast]
    refine brec (fun d1 => ?_) (fun d1 => ?_)
    · have d1 := dyes d1
      exact ⟨ixP_at d (fun c => c d1) hu, rfl, trivial⟩
    · have d1 := dno d1
      refine ⟨x + 1, by omega, ⟨by omega, fun j hj => ?_⟩, rfl, hr, rfl, rfl, (wrap_nat (x + 1) (by omega) (by omega)).symm, rfl, trivial⟩
      by_cases c : j = x
      · subst c; exact d1
      · exact hu j (by omega)
  · have d := dno d
    obtain rfl : x = t.n := by omega
    exact ⟨ixP_no hu, rfl, trivial⟩
def rTab (n : Nat) (g : Nat → List AV) : Tab := ⟨fun _ => 0, 0, n, rowN g, rowP g⟩
noncomputable def g40 (xs : List AV) (bs : List ABlk) : TL := match xs, bs with
  | [.ros false 33 n g nl, .fn 41 [] [.ptr 0 0 0 0]], [⟨.cells [.int .i64 id], true, 0⟩] => .ok ⟨[g = rowE (rTab n g), n < 4611686018427387904], .int .i64 (ixP (fun j => rowN g j ≠ id) n), [some (some (bxI id))], []⟩
  | _, _ => .no
noncomputable def sp40 : Spec := ⟨[.r 33, .kp], fun xs h => reachX h 200 (namesL xs) [], kinds, g40⟩
theorem ct40 : COK Tryd.prog gl0 40 (mkF sp40) := by
  refine ctrE (fn := Tryd.f40) [] 3000 (by kernel_rfl) (by kernel_rfl) okT3 (by kernel_rfl) (fun args w => by kernel_rfl) fun xs bs r hs ho => ?_
  replace hs : (g40 xs bs).sel = some r := hs
  unfold g40 at hs
  split at hs
  · rename_i n g nl id
    simp only [TL.sel, Option.some.injEq] at hs
    subst hs
    obtain ⟨h, h1⟩ := obsT_cons.1 ho
    have hb := bt40 (rTab n g) id nl (obsT_one.1 h1)
    refine ⟨[(3, ls40 (rTab n g) id)], ?_⟩
    rw [← h] at hb
    exact hb
  · simp [TL.sel] at hs
noncomputable def T4 : Ctx := T3.add 40 (mkF sp40)
theorem okT4 : COKs Tryd.prog gl0 T4 := okT3.add ct40
end Go.Sym

namespace Go.Sym
open Go.Proofs Go.Spec
set_option linter.unusedVariables false
noncomputable def T5 : Ctx := (T4.exe Tryd.prog gl0 [] 400 Tryd.f63.params.size 63 Tryd.f63)
theorem okT5 : COKs Tryd.prog gl0 T5 := okT4.exe [] 400 _ (by kernel_rfl) (by kernel_rfl) (by kernel_rfl) (fun args w => by kernel_rfl)
noncomputable def T6 : Ctx := (T5.exe Tryd.prog gl0 [] 600 Tryd.f37.params.size 37 Tryd.f37)
theorem okT6 : COKs Tryd.prog gl0 T6 := okT5.exe [] 600 _ (by kernel_rfl) (by kernel_rfl) (by kernel_rfl) (fun args w => by kernel_rfl)
def tab0 : AV := .agg (((List.range 32).map fun _ => .u8 0) ++ [.int .i64 0, .nils])
end Go.Sym
namespace Go.Spec
/-- Nothing at all. -/
def tz : Tab := ⟨fun _ => 0, 0, 0, fun _ => 0, fun _ _ => 0⟩
/-- Without the one at the place. -/
def Tab.del (t : Tab) (a : Nat) : Tab := ⟨t.key, t.nx, t.n - 1, fun j => if j < a then t.I j else t.I (j + 1), fun j => if j < a then t.P j else t.P (j + 1)⟩
/-- Using a ticket: the table, the number, the fault. -/
noncomputable def useI (t : Tab) (k : By) : Int := ixP (fun j => t.I j ≠ idI k) t.n
noncomputable def useE (t : Tab) (k : By) : Int := if t.okB = false then 1 else if idZ t.key k = false ∨ t.nx ≤ idI k then 13 else if useI t k < 0 then 11 else 0
noncomputable def useT (t : Tab) (k : By) : Tab := if useE t k = 0 then t.del (useI t k).toNat else tz
noncomputable def useN (t : Tab) (k : By) : Int := if useE t k = 0 then idI k else 0
end Go.Spec
namespace Go.Sym
open Go.Proofs Go.Spec
/-- A table handed back. -/
def tabR (R : Tab) : AV := .agg (tabC R (.slice 0 0 33 R.n .ow .unk))
def blkR (R : Tab) : ABlk := ⟨.rows 33 R.n (rowE R), true, 33⟩
end Go.Sym

namespace Go.Sym
open Go.Proofs Go.Spec
set_option linter.unusedVariables false
set_option maxRecDepth 100000 in
theorem vt14 (t R : Tab) (u : NL) (k : By) (id e : Int) : bodyP Tryd.prog T6 gl0 [] [] 3000 Tryd.f14 0 [tabA false t u, .rb false k .unk] [] (retQ Tryd.prog Tryd.f14 0 ⟨[], .tup [tabR R, .int .i64 id, .int .i64 e], [], [blkR R]⟩) = (
let x1 := ixP (fun (j : Nat) => t.I j ≠ idI k) t.n; let x2 := minus t.n (IntKind.i64.wrap (x1 + (1 : Int))).toNat; let x3 := ∀ (y : Nat), y < R.n → outs Bool.true (AV.int IntKind.i64 (R.I y) :: List.map (fun (i : Nat) => AV.u8 (R.P y i)) (List.range 32)) = Bool.true; let x4 := fun (j : Nat) => AV.int IntKind.i64 (t.I j) :: List.map (fun (i : Nat) => AV.u8 (t.P j i)) (List.range 32); let x5 := IntKind.i64.wrap (IntKind.i64.wrap (IntKind.i64.wrap ((0 : Int) + (↑x1.toNat : Int)) + (↑x2 : Int)) - Int.ofNat 0); let x6 := fun (j : Nat) => AV.int IntKind.i64 (t.I ((IntKind.i64.wrap (x1 + (1 : Int))).toNat + j)) :: List.map (fun (i : Nat) => AV.u8 (t.P ((IntKind.i64.wrap (x1 + (1 : Int))).toNat + j) i)) (List.range 32); let x7 := fun (i : Nat) => if 0 = i then Option.some 0 else Option.map (fun (x : Nat) => x + 1) (if 3520 = i then Option.some 0 else Option.none); let x8 := AV.int IntKind.i64 (0 : Int) :: List.replicate 32 (if (0 : Int) ≤ (0 : Int) ∧ (0 : Int) < (256 : Int) then AV.u8 (BitVec.ofNat 8 0) else AV.raw (Go.Value.int IntKind.u8 (0 : Int))); let x9 := x4 = fun (j : Nat) => AV.int IntKind.i64 (t.I j) :: List.map (fun (i : Nat) => AV.u8 ((rg 32 (t.P j)).getD i (0 : BitVec 8))) (List.range 32); let x10 := x3 ∧ allP (fun (i : Nat) => R.key i = BitVec.ofNat 8 0) 0 32 (R.nx = (0 : Int) ∧ R.n = 0 ∧ id = (0 : Int) ∧ e = (13 : Int) ∧ R.n = 0 ∧ True); let x11 := ∀ (y : Nat), y < x2 → rowOK 33 (AV.int IntKind.i64 (t.I ((IntKind.i64.wrap (x1 + (1 : Int))).toNat + y)) :: List.map (fun (i : Nat) => AV.u8 (t.P ((IntKind.i64.wrap (x1 + (1 : Int))).toNat + y) i)) (List.range 32)) = Bool.true; let x12 := fun (i : Nat) => if 8388608 ≤ i then Option.none else match [2624][i]? with | Option.some j => Option.some j | Option.none => Option.some (2688 + (i - 1)); x9 ∧ @Bool.rec (fun _ => Prop) (List.length k < 4611686018427387904 ∧ x9 ∧ @Bool.rec (fun _ => Prop) x10 (@Bool.rec (fun _ => Prop) (x9 ∧ t.n < 4611686018427387904 ∧ @Bool.rec (fun _ => Prop) ((0 : Int) ≤ x1 ∧ x1.toNat ≤ t.n ∧ (0 : Int) ≤ IntKind.i64.wrap (x1 + (1 : Int)) ∧ (IntKind.i64.wrap (x1 + (1 : Int))).toNat ≤ t.n ∧ @Bool.rec (fun _ => Prop) (@Bool.rec (fun _ => Prop) (@Bool.rec (fun _ => Prop) (@Bool.rec (fun _ => Prop) ((0 : Int) ≤ (0 : Int) ∧ 0 < 2 ∧ (0 : Int) ≤ Int.ofNat 1 ∧ 1 < 2 ∧ (0 : Int) ≤ (0 : Int) ∧ 0 < 2 ∧ (∀ (y : Nat), y < x1.toNat → rowOK 33 (AV.int IntKind.i64 (t.I y) :: List.map (fun (i : Nat) => AV.u8 (t.P y i)) (List.range 32)) = Bool.true) ∧ roomFor 0 x1.toNat 40 ∧ (0 : Int) ≤ Int.ofNat 1 ∧ 1 < 2 ∧ x11 ∧ x1.toNat = x1.toNat ∧ roomFor x1.toNat x2 40 ∧ (∀ (y : Nat), y < x1.toNat + x2 → outs Bool.true (renL x7 (glue x4 x1.toNat x6 y)) = Bool.true) ∧ x3 ∧ allP (fun (i : Nat) => R.key i = t.key i) 0 32 (R.nx = t.nx ∧ 0 = 0 ∧ 0 = 0 ∧ 0 = 0 ∧ R.n = x1.toNat + x2 ∧ id = idI k ∧ e = (0 : Int) ∧ R.n = x1.toNat + x2 ∧ (∀ (y : Nat), y < R.n → datas Bool.false (AV.int IntKind.i64 (R.I y) :: List.map (fun (i : Nat) => AV.u8 (R.P y i)) (List.range 32)) = Bool.true ∧ renL x12 (renL x7 (glue x4 x1.toNat x6 y)) = AV.int IntKind.i64 (R.I y) :: List.map (fun (i : Nat) => AV.u8 (R.P y i)) (List.range 32)) ∧ True)) ((0 : Int) ≤ (0 : Int) ∧ 0 < 2 ∧ (0 : Int) ≤ Int.ofNat 1 ∧ 1 < 2 ∧ (0 : Int) ≤ (0 : Int) ∧ 0 ≤ 0 ∧ (0 : Int) ≤ x5 ∧ x5 < (9223372036854775808 : Int) ∧ roomFor 0 x5.toNat 40 ∧ (0 : Int) ≤ (0 : Int) ∧ 0 ≤ x5.toNat ∧ (∀ (y : Nat), y < x5.toNat → outs Bool.true x8 = Bool.true) ∧ (0 : Int) ≤ (0 : Int) ∧ 0 < 2 ∧ 0 ≤ x5.toNat ∧ (∀ (y : Nat), y < x1.toNat → rowOK 33 (AV.int IntKind.i64 (t.I y) :: List.map (fun (i : Nat) => AV.u8 (t.P y i)) (List.range 32)) = Bool.true) ∧ 0 = 0 ∧ roomFor 0 x1.toNat 40 ∧ (0 : Int) ≤ Int.ofNat 1 ∧ 1 < 2 ∧ x11 ∧ 0 + x1.toNat = 0 + x1.toNat ∧ roomFor (0 + x1.toNat) x2 40 ∧ (∀ (y : Nat), y < 0 + x1.toNat + x2 → outs Bool.true (renL x7 (glue (glue (fun (y : Nat) => x8) 0 x4) (0 + x1.toNat) x6 y)) = Bool.true) ∧ x3 ∧ allP (fun (i : Nat) => R.key i = t.key i) 0 32 (R.nx = t.nx ∧ 0 = 0 ∧ 0 = 0 ∧ 0 = 0 ∧ R.n = 0 + x1.toNat + x2 ∧ id = idI k ∧ e = (0 : Int) ∧ R.n = 0 + x1.toNat + x2 ∧ (∀ (y : Nat), y < R.n → datas Bool.false (AV.int IntKind.i64 (R.I y) :: List.map (fun (i : Nat) => AV.u8 (R.P y i)) (List.range 32)) = Bool.true ∧ renL x12 (renL x7 (glue (glue (fun (y : Nat) => x8) 0 x4) (0 + x1.toNat) x6 y)) = AV.int IntKind.i64 (R.I y) :: List.map (fun (i : Nat) => AV.u8 (R.P y i)) (List.range 32)) ∧ True)) (decide ((0 : Int) < x5))) False (decide (IntKind.i64.wrap (IntKind.i64.wrap ((0 : Int) + (↑x1.toNat : Int)) + (↑x2 : Int)) < (0 : Int)))) False (decide (IntKind.i64.wrap (IntKind.i64.wrap ((0 : Int) + (↑x1.toNat : Int)) + (↑x2 : Int)) < (0 : Int)))) False (decide (IntKind.i64.wrap ((0 : Int) + (↑x1.toNat : Int)) < (0 : Int)))) (x3 ∧ allP (fun (i : Nat) => R.key i = BitVec.ofNat 8 0) 0 32 (R.nx = (0 : Int) ∧ R.n = 0 ∧ id = (0 : Int) ∧ e = (11 : Int) ∧ R.n = 0 ∧ True)) (decide (x1 < (0 : Int)))) x10 (decide (t.nx ≤ idI k))) !!idZ (fun (i : Nat) => (rg 32 t.key).getD i (0 : BitVec 8)) k) (x3 ∧ allP (fun (i : Nat) => R.key i = BitVec.ofNat 8 0) 0 32 (R.nx = (0 : Int) ∧ R.n = 0 ∧ id = (0 : Int) ∧ e = (1 : Int) ∧ R.n = 0 ∧ True)) !({ key := fun (i : Nat) => (rg 32 t.key).getD i (0 : BitVec 8), nx := t.nx, n := t.n, I := fun (j : Nat) => t.I j, P := fun (j i : Nat) => (rg 32 (t.P j)).getD i (0 : BitVec 8) } : Tab).okB : Prop) := by kernel_rfl
end Go.Sym

namespace Go.Spec
open Go.Sym
theorem ixP_lt {P : Nat → Prop} {n : Nat} (h : ¬ ixP P n < 0) : ∃ a : Nat, ixP P n = (a : Int) ∧ a < n ∧ ¬ P a ∧ ∀ i, i < a → P i := by
  by_cases he : ∃ j, j < n ∧ ¬ P j ∧ ∀ i, i < j → P i
  · obtain ⟨j, h1, h2, h3⟩ := he
    exact ⟨j, ixP_at h1 h2 h3, h1, h2, h3⟩
  · exfalso
    apply h
    unfold ixP
    rw [dif_neg he]
    decide
theorem Tab.okB_eq {s t : Tab} (h : s.ok ↔ t.ok) : s.okB = t.okB := by
  by_cases c : t.ok
  · rw [Tab.okB_iff.2 c, Tab.okB_iff.2 (h.2 c)]
  · rw [Tab.okB_no c, Tab.okB_no (fun d => c (h.1 d))]
theorem Tab.okB_same (t : Tab) (f : Nat → BitVec 8) (p : Nat → Nat → BitVec 8) : Tab.okB ⟨f, t.nx, t.n, t.I, p⟩ = t.okB :=
  Tab.okB_eq ⟨fun h => ⟨h.h0, h.h1, h.h2, h.h3⟩, fun h => ⟨h.h0, h.h1, h.h2, h.h3⟩⟩
theorem idZ_rg (F : Nat → BitVec 8) (k : By) : idZ (fun i => (rg 32 F).getD i 0) k = idZ F k := by unfold idZ; rw [tkB_rg]
end Go.Spec
namespace Go.Sym
open Go.Proofs Go.Spec
set_option linter.unusedVariables false
theorem row_del (t : Tab) (a y : Nat) (f g : Nat → Option Nat) : renL f (renL g (glue (fun j => AV.int IntKind.i64 (t.I j) :: List.map (fun (i : Nat) => AV.u8 (t.P j i)) (List.range 32)) a (fun j => AV.int IntKind.i64 (t.I (a + 1 + j)) :: List.map (fun (i : Nat) => AV.u8 (t.P (a + 1 + j) i)) (List.range 32)) y)) = AV.int IntKind.i64 ((t.del a).I y) :: List.map (fun (i : Nat) => AV.u8 ((t.del a).P y i)) (List.range 32) := by
  unfold glue Tab.del
  by_cases c : y < a
  · simp only [if_pos c]
    rfl
  · simp only [if_neg c]
    rw [show a + 1 + (y - a) = y + 1 by omega]
    rfl
theorem out_del (t : Tab) (a y : Nat) (g : Nat → Option Nat) : outs true (renL g (glue (fun j => AV.int IntKind.i64 (t.I j) :: List.map (fun (i : Nat) => AV.u8 (t.P j i)) (List.range 32)) a (fun j => AV.int IntKind.i64 (t.I (a + 1 + j)) :: List.map (fun (i : Nat) => AV.u8 (t.P (a + 1 + j) i)) (List.range 32)) y)) = true := by
  unfold glue
  by_cases c : y < a
  · simp only [if_pos c]
    rfl
  · simp only [if_neg c]
    rfl
theorem glue0 (g h : Nat → List AV) : glue g 0 h = h := by
  funext y
  unfold glue
  rw [if_neg (Nat.not_lt_zero y), Nat.sub_zero]
set_option maxRecDepth 100000 in
theorem bt14 (t : Tab) (u : NL) (k : By) (hk : k.length < 4611686018427387904) : Must (bodyP Tryd.prog T6 gl0 [] [] 3000 Tryd.f14 0 [tabA false t u, .rb false k .unk] [] (retQ Tryd.prog Tryd.f14 0 ⟨[], .tup [tabR (useT t k), .int .i64 (useN t k), .int .i64 (useE t k)], [], [blkR (useT t k)]⟩)) := by
  constructor
  rw [vt14, idZ_rg, Tab.okB_same]
  set_option simprocs false in dsimp only
  have hx3 : ∀ R : Tab, ∀ (y : Nat), y < R.n → outs Bool.true (AV.int IntKind.i64 (R.I y) :: List.map (fun (i : Nat) => AV.u8 (R.P y i)) (List.range 32)) = Bool.true := fun _ _ _ => rfl
  have bad : ∀ e : Int, useE t k = e → e ≠ 0 → (∀ (y : Nat), y < (useT t k).n → outs Bool.true (AV.int IntKind.i64 ((useT t k).I y) :: List.map (fun (i : Nat) => AV.u8 ((useT t k).P y i)) (List.range 32)) = Bool.true) ∧ allP (fun (i : Nat) => (useT t k).key i = BitVec.ofNat 8 0) 0 32 ((useT t k).nx = (0 : Int) ∧ (useT t k).n = 0 ∧ useN t k = (0 : Int) ∧ useE t k = e ∧ (useT t k).n = 0 ∧ True) := by
    intro e he hz
    have h1 : useT t k = tz := if_neg (by rw [he]; exact hz)
    have h2 : useN t k = 0 := if_neg (by rw [he]; exact hz)
    rw [h1]
    exact ⟨hx3 _, allP_of 32 0 (fun _ _ _ => rfl) ⟨rfl, rfl, h2, he, rfl, trivial⟩⟩
  refine ⟨rows_rg t, brec (fun h0 => ?_) (fun h0 => ?_)⟩
  · have h0 : t.okB = false := by simpa using h0
    exact bad 1 (if_pos h0) (by decide)
  have h0 : t.okB = true := by simpa using h0
  have h0' : ¬ t.okB = false := by rw [h0]; decide
  have hok := Tab.okB_iff.1 h0
  refine ⟨hk, rows_rg t, brec (fun h1 => ?_) (fun h1 => ?_)⟩
  rotate_left
  · have h1 : idZ t.key k = false := by simpa using h1
    exact bad 13 ((if_neg h0').trans (if_pos (Or.inl h1))) (by decide)
  have h1 : idZ t.key k = true := by simpa using h1
  refine brec (fun h2 => ?_) (fun h2 => ?_)
  · have h2 := dyes h2
    exact bad 13 ((if_neg h0').trans (if_pos (Or.inr h2))) (by decide)
  have h2 := dno h2
  have h12 : ¬ (idZ t.key k = false ∨ t.nx ≤ idI k) := fun c => c.elim (fun c => by rw [h1] at c; cases c) h2
  have hn8 := hok.h2
  refine ⟨rows_rg t, by omega, brec (fun h3 => ?_) (fun h3 => ?_)⟩
  · have h3 := dyes h3
    exact bad 11 ((if_neg h0').trans ((if_neg h12).trans (if_pos h3))) (by decide)
  have h3 := dno h3
  have he : useE t k = 0 := (if_neg h0').trans ((if_neg h12).trans (if_neg h3))
  obtain ⟨a, ha, han, -, -⟩ := ixP_lt h3
  have hT : useT t k = t.del a := (if_pos he).trans (by unfold useI; rw [ha, Int.toNat_natCast])
  have hN : useN t k = idI k := if_pos he
  rw [hT, ha]
  have e1 : IntKind.i64.wrap ((a : Int) + 1) = ((a + 1 : Nat) : Int) := wrap_nat _ (by omega) (by omega)
  rw [e1, Int.toNat_natCast a, Int.toNat_natCast (a + 1)]
  have e2 : minus t.n (a + 1) = t.n - (a + 1) := rfl
  have e3 : IntKind.i64.wrap (0 + (a : Int)) = (a : Int) := wrap_nat _ (by omega) (by omega)
  have e4 : IntKind.i64.wrap ((a : Int) + ((t.n - (a + 1) : Nat) : Int)) = ((t.n - 1 : Nat) : Int) := wrap_nat _ (by omega) (by omega)
  have e5 : IntKind.i64.wrap (((t.n - 1 : Nat) : Int) - Int.ofNat 0) = ((t.n - 1 : Nat) : Int) := wrap_nat _ (by simp) (by omega)
  rw [e2, e3, e4, e5, Nat.zero_add, glue0]
  have hm : (t.del a).n = a + (t.n - (a + 1)) := by show t.n - 1 = _; omega
  have hd : ∀ (g h : Nat → Option Nat) (y : Nat), y < (t.del a).n → datas Bool.false (AV.int IntKind.i64 ((t.del a).I y) :: List.map (fun (i : Nat) => AV.u8 ((t.del a).P y i)) (List.range 32)) = Bool.true ∧ renL g (renL h (glue (fun j => AV.int IntKind.i64 (t.I j) :: List.map (fun (i : Nat) => AV.u8 (t.P j i)) (List.range 32)) a (fun j => AV.int IntKind.i64 (t.I (a + 1 + j)) :: List.map (fun (i : Nat) => AV.u8 (t.P (a + 1 + j) i)) (List.range 32)) y)) = AV.int IntKind.i64 ((t.del a).I y) :: List.map (fun (i : Nat) => AV.u8 ((t.del a).P y i)) (List.range 32) := fun g h y _ => ⟨rfl, row_del t a y g h⟩
  refine ⟨Int.natCast_nonneg _, by omega, Int.natCast_nonneg _, by omega, brec (fun h7 => ?_) (fun h7 => ?_)⟩
  · have h7 := dyes h7
    rw [Int.toNat_natCast]
    refine ⟨by decide, by decide, by decide, by decide, by decide, by decide, Int.natCast_nonneg _, by omega, by unfold roomFor; omega, by decide, Nat.zero_le _, fun _ _ => rfl, by decide, by decide, Nat.zero_le _, fun _ _ => rfl, rfl, by unfold roomFor; omega, by decide, by decide, fun _ _ => rfl, rfl, by unfold roomFor; omega, fun y _ => out_del t a y _, hx3 _, allP_of 32 0 (fun _ _ _ => rfl) ⟨rfl, rfl, rfl, rfl, hm, hN, he, hm, hd _ _, trivial⟩⟩
  · refine ⟨by decide, by decide, by decide, by decide, by decide, by decide, fun _ _ => rfl, by unfold roomFor; omega, by decide, by decide, fun _ _ => rfl, rfl, by unfold roomFor; omega, fun y _ => out_del t a y _, hx3 _, allP_of 32 0 (fun _ _ _ => rfl) ⟨rfl, rfl, rfl, rfl, hm, hN, he, hm, hd _ _, trivial⟩⟩
noncomputable def rUse (t : Tab) (k : By) (o : List Prop) : RL := ⟨o, .tup [tabR (useT t k), .int .i64 (useN t k), .int .i64 (useE t k)], [], [blkR (useT t k)]⟩
noncomputable def g14 (xs : List AV) (bs : List ABlk) : TL := match xs, bs with
  | [.agg cs, .rb false k .unk], [] => asTab false cs fun t nl o => .ok (rUse t k ((k.length < 4611686018427387904) :: o))
  | _, _ => .no
noncomputable def sp14 : Spec := ⟨[tabK, .by0], fun _ _ => [], fun _ _ => [], g14⟩
theorem ct14 : COK Tryd.prog gl0 14 (mkF sp14) := by
  refine ctrE (fn := Tryd.f14) [] 3000 (by kernel_rfl) (by kernel_rfl) okT6 (by kernel_rfl) (fun args w => by kernel_rfl) fun xs bs r hs ho => ?_
  replace hs : (g14 xs bs).sel = some r := hs
  unfold g14 at hs
  split at hs
  · obtain ⟨t, nl, o, hs, hc⟩ := asTab_sel hs
    simp only [TL.sel, Option.some.injEq] at hs
    subst hs
    obtain ⟨hk, ho⟩ := obsT_cons.1 ho
    rw [hc ho]
    exact ⟨_, bt14 t nl _ hk⟩
  · simp [TL.sel] at hs
end Go.Sym

namespace Go.Sym
open Go.Proofs Go.Spec
set_option linter.unusedVariables false
noncomputable def T7 : Ctx := T6.add 14 (mkF sp14)
theorem okT7 : COKs Tryd.prog gl0 T7 := okT6.add ct14
/-- A table handed back, its rows a block's from a place on. -/
def tabX (R : Tab) (x : Nat) : AV := .agg (tabC R (.slice 0 x 33 (minus R.n x) .un .unk))
def tabZ : AV := .agg (tabC tz .nils)
end Go.Sym
namespace Go.Spec
/-- Minting: what all lies there; from which place on it counts; the fault. -/
def Tab.snoc (t : Tab) (c : Nat → BitVec 8) : Tab := ⟨t.key, t.nx + 1, t.n + 1, fun j => if j < t.n then t.I j else t.nx, fun j => if j < t.n then t.P j else c⟩
noncomputable def minE (t : Tab) : Int := if t.okB = false then 1 else if t.nx = 2147483647 then 5 else 0
noncomputable def minT (t : Tab) (c : Nat → BitVec 8) : Tab := if minE t = 0 then t.snoc c else tz
noncomputable def minX (t : Tab) : Nat := if minE t = 0 then t.n - 7 else 0
noncomputable def minN (t : Tab) : Int := if minE t = 0 then t.nx else 0
end Go.Spec

namespace Go.Sym
open Go.Proofs Go.Spec
set_option linter.unusedVariables false
set_option maxRecDepth 100000 in
theorem vt11e (t R : Tab) (u : NL) (c : Nat → BitVec 8) (id e : Int) : bodyP Tryd.prog T7 gl0 [] [] 3000 Tryd.f11 0 [tabA false t u, aggB 32 c] [] (retQ Tryd.prog Tryd.f11 0 ⟨[], .tup [tabZ, .int .i64 id, .int .i64 e], [], []⟩) = (
let x1 := IntKind.i64.wrap (IntKind.i64.wrap (IntKind.i64.wrap ((0 : Int) + (↑t.n : Int)) + Int.ofNat 1) - Int.ofNat 0); let x2 := fun (i : Nat) => if 0 = i then Option.some 0 else Option.map (fun (x : Nat) => x + 1) (if [({ con := Con.cells (AV.int IntKind.i64 t.nx :: rg 32 fun (i : Nat) => AV.u8 (c i)), wr := Bool.true, own := 33 } : ABlk)].length = i then Option.some 0 else Option.map (fun (x : Nat) => x + 1) (if 3520 = i then Option.some 0 else Option.none)); let x3 := fun (j : Nat) => AV.int IntKind.i64 (t.I j) :: List.map (fun (i : Nat) => AV.u8 (t.P j i)) (List.range 32); (x3 = fun (j : Nat) => AV.int IntKind.i64 (t.I j) :: List.map (fun (i : Nat) => AV.u8 ((rg 32 (t.P j)).getD i (0 : BitVec 8))) (List.range 32)) ∧ @Bool.rec (fun _ => Prop) (@Bool.rec (fun _ => Prop) (@Bool.rec (fun _ => Prop) (@Bool.rec (fun _ => Prop) (@Bool.rec (fun _ => Prop) (@Bool.rec (fun _ => Prop) ((0 : Int) ≤ (0 : Int) ∧ 0 < 2 ∧ (0 : Int) ≤ Int.ofNat 1 ∧ 1 < 2 ∧ (0 : Int) ≤ (0 : Int) ∧ 0 < 2 ∧ (∀ (y : Nat), y < t.n → rowOK 33 (AV.int IntKind.i64 (t.I y) :: List.map (fun (i : Nat) => AV.u8 (t.P y i)) (List.range 32)) = Bool.true) ∧ roomFor 0 t.n 40 ∧ (0 : Int) ≤ Int.ofNat 1 ∧ 1 < 2 ∧ t.n = t.n ∧ roomFor t.n 1 40 ∧ (∀ (y : Nat), y < t.n + 1 → outs Bool.true (renL x2 (glue x3 t.n (cut 33 (List.take 33 (List.drop 0 (AV.int IntKind.i64 t.nx :: rg 32 fun (i : Nat) => AV.u8 (c i))))) y)) = Bool.true) ∧ (0 : Int) ≤ Max.max (IntKind.i64.wrap ((↑(t.n + 1) : Int) - (8 : Int))) (0 : Int) ∧ (Max.max (IntKind.i64.wrap ((↑(t.n + 1) : Int) - (8 : Int))) (0 : Int)).toNat ≤ t.n + 1 ∧ allP (fun (i : Nat) => BitVec.ofNat 8 0 = t.key i) 0 32 (Int.ofNat 0 = IntKind.i64.wrap (t.nx + (1 : Int)) ∧ (Bool.true && decide (t.n = 0) && decide (1 = 0)) = Bool.true ∧ id = t.nx ∧ e = (0 : Int) ∧ True)) ((0 : Int) ≤ (0 : Int) ∧ 0 < 2 ∧ (0 : Int) ≤ Int.ofNat 1 ∧ 1 < 2 ∧ (0 : Int) ≤ (0 : Int) ∧ 0 ≤ 0 ∧ (0 : Int) ≤ x1 ∧ x1 < (9223372036854775808 : Int) ∧ roomFor 0 x1.toNat 40 ∧ (0 : Int) ≤ (0 : Int) ∧ 0 ≤ x1.toNat ∧ (∀ (y : Nat), y < x1.toNat → outs Bool.true (AV.int IntKind.i64 (0 : Int) :: List.replicate 32 (if (0 : Int) ≤ (0 : Int) ∧ (0 : Int) < (256 : Int) then AV.u8 (BitVec.ofNat 8 0) else AV.raw (Go.Value.int IntKind.u8 (0 : Int)))) = Bool.true) ∧ (0 : Int) ≤ (0 : Int) ∧ 0 < 2 ∧ 0 ≤ x1.toNat ∧ (∀ (y : Nat), y < t.n → rowOK 33 (AV.int IntKind.i64 (t.I y) :: List.map (fun (i : Nat) => AV.u8 (t.P y i)) (List.range 32)) = Bool.true) ∧ 0 = 0 ∧ roomFor 0 t.n 40 ∧ (0 : Int) ≤ Int.ofNat 1 ∧ 1 < 2 ∧ 0 + t.n = 0 + t.n ∧ roomFor (0 + t.n) 1 40 ∧ (∀ (y : Nat), y < 0 + t.n + 1 → outs Bool.true (renL x2 (glue (glue (fun (y : Nat) => AV.int IntKind.i64 (0 : Int) :: List.replicate 32 (if (0 : Int) ≤ (0 : Int) ∧ (0 : Int) < (256 : Int) then AV.u8 (BitVec.ofNat 8 0) else AV.raw (Go.Value.int IntKind.u8 (0 : Int)))) 0 x3) (0 + t.n) (cut 33 (List.take 33 (List.drop 0 (AV.int IntKind.i64 t.nx :: rg 32 fun (i : Nat) => AV.u8 (c i))))) y)) = Bool.true) ∧ (0 : Int) ≤ Max.max (IntKind.i64.wrap ((↑(0 + t.n + 1) : Int) - (8 : Int))) (0 : Int) ∧ (Max.max (IntKind.i64.wrap ((↑(0 + t.n + 1) : Int) - (8 : Int))) (0 : Int)).toNat ≤ 0 + t.n + 1 ∧ allP (fun (i : Nat) => BitVec.ofNat 8 0 = t.key i) 0 32 (Int.ofNat 0 = IntKind.i64.wrap (t.nx + (1 : Int)) ∧ (Bool.true && decide (x1.toNat = 0) && decide (t.n = 0) && decide (1 = 0)) = Bool.true ∧ id = t.nx ∧ e = (0 : Int) ∧ True)) (decide ((0 : Int) < x1))) False (decide (IntKind.i64.wrap (IntKind.i64.wrap ((0 : Int) + (↑t.n : Int)) + Int.ofNat 1) < (0 : Int)))) False (decide (IntKind.i64.wrap (IntKind.i64.wrap ((0 : Int) + (↑t.n : Int)) + Int.ofNat 1) < (0 : Int)))) False (decide (IntKind.i64.wrap ((0 : Int) + (↑t.n : Int)) < (0 : Int)))) (allP (fun (i : Nat) => BitVec.ofNat 8 0 = BitVec.ofNat 8 0) 0 32 (Int.ofNat 0 = (0 : Int) ∧ id = (0 : Int) ∧ e = (5 : Int) ∧ True)) (decide (t.nx = (2147483647 : Int)))) (allP (fun (i : Nat) => BitVec.ofNat 8 0 = BitVec.ofNat 8 0) 0 32 (Int.ofNat 0 = (0 : Int) ∧ id = (0 : Int) ∧ e = (1 : Int) ∧ True)) !({ key := fun (i : Nat) => (rg 32 t.key).getD i (0 : BitVec 8), nx := t.nx, n := t.n, I := fun (j : Nat) => t.I j, P := fun (j i : Nat) => (rg 32 (t.P j)).getD i (0 : BitVec 8) } : Tab).okB : Prop) := by kernel_rfl
set_option maxRecDepth 100000 in
theorem vt11g (t R : Tab) (u : NL) (c : Nat → BitVec 8) (id e : Int) : bodyP Tryd.prog T7 gl0 [] [] 3000 Tryd.f11 0 [tabA false t u, aggB 32 c] [] (retQ Tryd.prog Tryd.f11 0 ⟨[], .tup [tabX R 0, .int .i64 id, .int .i64 e], [], [blkR R]⟩) = (
let x1 := fun (i : Nat) => if 0 = i then Option.some 0 else Option.map (fun (x : Nat) => x + 1) (if [({ con := Con.cells (AV.int IntKind.i64 t.nx :: rg 32 fun (i : Nat) => AV.u8 (c i)), wr := Bool.true, own := 33 } : ABlk)].length = i then Option.some 0 else Option.map (fun (x : Nat) => x + 1) (if 3520 = i then Option.some 0 else Option.none)); let x2 := IntKind.i64.wrap (IntKind.i64.wrap (IntKind.i64.wrap ((0 : Int) + (↑t.n : Int)) + Int.ofNat 1) - Int.ofNat 0); let x3 := fun (j : Nat) => AV.int IntKind.i64 (t.I j) :: List.map (fun (i : Nat) => AV.u8 (t.P j i)) (List.range 32); let x4 := ∀ (y : Nat), y < R.n → outs Bool.true (AV.int IntKind.i64 (R.I y) :: List.map (fun (i : Nat) => AV.u8 (R.P y i)) (List.range 32)) = Bool.true; let x5 := cut 33 (List.take 33 (List.drop 0 (AV.int IntKind.i64 t.nx :: rg 32 fun (i : Nat) => AV.u8 (c i)))); let x6 := AV.int IntKind.i64 (0 : Int) :: List.replicate 32 (if (0 : Int) ≤ (0 : Int) ∧ (0 : Int) < (256 : Int) then AV.u8 (BitVec.ofNat 8 0) else AV.raw (Go.Value.int IntKind.u8 (0 : Int))); let x7 := 0 + t.n + 1; let x8 := Max.max (IntKind.i64.wrap ((↑(t.n + 1) : Int) - (8 : Int))) (0 : Int); let x9 := fun (i : Nat) => if 8388608 ≤ i then Option.none else match [1472, 1408][i]? with | Option.some j => Option.some j | Option.none => Option.some (1536 + (i - 2)); (x3 = fun (j : Nat) => AV.int IntKind.i64 (t.I j) :: List.map (fun (i : Nat) => AV.u8 ((rg 32 (t.P j)).getD i (0 : BitVec 8))) (List.range 32)) ∧ @Bool.rec (fun _ => Prop) (@Bool.rec (fun _ => Prop) (@Bool.rec (fun _ => Prop) (@Bool.rec (fun _ => Prop) (@Bool.rec (fun _ => Prop) (@Bool.rec (fun _ => Prop) ((0 : Int) ≤ (0 : Int) ∧ 0 < 2 ∧ (0 : Int) ≤ Int.ofNat 1 ∧ 1 < 2 ∧ (0 : Int) ≤ (0 : Int) ∧ 0 < 2 ∧ (∀ (y : Nat), y < t.n → rowOK 33 (AV.int IntKind.i64 (t.I y) :: List.map (fun (i : Nat) => AV.u8 (t.P y i)) (List.range 32)) = Bool.true) ∧ roomFor 0 t.n 40 ∧ (0 : Int) ≤ Int.ofNat 1 ∧ 1 < 2 ∧ t.n = t.n ∧ roomFor t.n 1 40 ∧ (∀ (y : Nat), y < t.n + 1 → outs Bool.true (renL x1 (glue x3 t.n x5 y)) = Bool.true) ∧ (0 : Int) ≤ x8 ∧ x8.toNat ≤ t.n + 1 ∧ x4 ∧ allP (fun (i : Nat) => R.key i = t.key i) 0 32 (R.nx = IntKind.i64.wrap (t.nx + (1 : Int)) ∧ 0 = x8.toNat ∧ 0 = 0 ∧ R.n = minus (t.n + 1) x8.toNat ∧ id = t.nx ∧ e = (0 : Int) ∧ R.n = t.n + 1 ∧ (∀ (y : Nat), y < R.n → datas Bool.false (AV.int IntKind.i64 (R.I y) :: List.map (fun (i : Nat) => AV.u8 (R.P y i)) (List.range 32)) = Bool.true ∧ renL x9 (renL x1 (glue x3 t.n x5 y)) = AV.int IntKind.i64 (R.I y) :: List.map (fun (i : Nat) => AV.u8 (R.P y i)) (List.range 32)) ∧ True)) ((0 : Int) ≤ (0 : Int) ∧ 0 < 2 ∧ (0 : Int) ≤ Int.ofNat 1 ∧ 1 < 2 ∧ (0 : Int) ≤ (0 : Int) ∧ 0 ≤ 0 ∧ (0 : Int) ≤ x2 ∧ x2 < (9223372036854775808 : Int) ∧ roomFor 0 x2.toNat 40 ∧ (0 : Int) ≤ (0 : Int) ∧ 0 ≤ x2.toNat ∧ (∀ (y : Nat), y < x2.toNat → outs Bool.true x6 = Bool.true) ∧ (0 : Int) ≤ (0 : Int) ∧ 0 < 2 ∧ 0 ≤ x2.toNat ∧ (∀ (y : Nat), y < t.n → rowOK 33 (AV.int IntKind.i64 (t.I y) :: List.map (fun (i : Nat) => AV.u8 (t.P y i)) (List.range 32)) = Bool.true) ∧ 0 = 0 ∧ roomFor 0 t.n 40 ∧ (0 : Int) ≤ Int.ofNat 1 ∧ 1 < 2 ∧ 0 + t.n = 0 + t.n ∧ roomFor (0 + t.n) 1 40 ∧ (∀ (y : Nat), y < x7 → outs Bool.true (renL x1 (glue (glue (fun (y : Nat) => x6) 0 x3) (0 + t.n) x5 y)) = Bool.true) ∧ (0 : Int) ≤ Max.max (IntKind.i64.wrap ((↑x7 : Int) - (8 : Int))) (0 : Int) ∧ (Max.max (IntKind.i64.wrap ((↑x7 : Int) - (8 : Int))) (0 : Int)).toNat ≤ x7 ∧ x4 ∧ allP (fun (i : Nat) => R.key i = t.key i) 0 32 (R.nx = IntKind.i64.wrap (t.nx + (1 : Int)) ∧ 0 = (Max.max (IntKind.i64.wrap ((↑x7 : Int) - (8 : Int))) (0 : Int)).toNat ∧ 0 = 0 ∧ R.n = minus x7 (Max.max (IntKind.i64.wrap ((↑x7 : Int) - (8 : Int))) (0 : Int)).toNat ∧ id = t.nx ∧ e = (0 : Int) ∧ R.n = x7 ∧ (∀ (y : Nat), y < R.n → datas Bool.false (AV.int IntKind.i64 (R.I y) :: List.map (fun (i : Nat) => AV.u8 (R.P y i)) (List.range 32)) = Bool.true ∧ renL x9 (renL x1 (glue (glue (fun (y : Nat) => x6) 0 x3) (0 + t.n) x5 y)) = AV.int IntKind.i64 (R.I y) :: List.map (fun (i : Nat) => AV.u8 (R.P y i)) (List.range 32)) ∧ True)) (decide ((0 : Int) < x2))) False (decide (IntKind.i64.wrap (IntKind.i64.wrap ((0 : Int) + (↑t.n : Int)) + Int.ofNat 1) < (0 : Int)))) False (decide (IntKind.i64.wrap (IntKind.i64.wrap ((0 : Int) + (↑t.n : Int)) + Int.ofNat 1) < (0 : Int)))) False (decide (IntKind.i64.wrap ((0 : Int) + (↑t.n : Int)) < (0 : Int)))) (x4 ∧ False) (decide (t.nx = (2147483647 : Int)))) (x4 ∧ False) !({ key := fun (i : Nat) => (rg 32 t.key).getD i (0 : BitVec 8), nx := t.nx, n := t.n, I := fun (j : Nat) => t.I j, P := fun (j i : Nat) => (rg 32 (t.P j)).getD i (0 : BitVec 8) } : Tab).okB : Prop) := by kernel_rfl
set_option maxRecDepth 100000 in
theorem vt11h (t R : Tab) (u : NL) (c : Nat → BitVec 8) (id e : Int) : bodyP Tryd.prog T7 gl0 [] [] 3000 Tryd.f11 0 [tabA false t u, aggB 32 c] [] (retQ Tryd.prog Tryd.f11 0 ⟨[], .tup [tabX R 1, .int .i64 id, .int .i64 e], [], [blkR R]⟩) = (
let x1 := fun (i : Nat) => if 0 = i then Option.some 0 else Option.map (fun (x : Nat) => x + 1) (if [({ con := Con.cells (AV.int IntKind.i64 t.nx :: rg 32 fun (i : Nat) => AV.u8 (c i)), wr := Bool.true, own := 33 } : ABlk)].length = i then Option.some 0 else Option.map (fun (x : Nat) => x + 1) (if 3520 = i then Option.some 0 else Option.none)); let x2 := IntKind.i64.wrap (IntKind.i64.wrap (IntKind.i64.wrap ((0 : Int) + (↑t.n : Int)) + Int.ofNat 1) - Int.ofNat 0); let x3 := fun (j : Nat) => AV.int IntKind.i64 (t.I j) :: List.map (fun (i : Nat) => AV.u8 (t.P j i)) (List.range 32); let x4 := ∀ (y : Nat), y < R.n → outs Bool.true (AV.int IntKind.i64 (R.I y) :: List.map (fun (i : Nat) => AV.u8 (R.P y i)) (List.range 32)) = Bool.true; let x5 := cut 33 (List.take 33 (List.drop 0 (AV.int IntKind.i64 t.nx :: rg 32 fun (i : Nat) => AV.u8 (c i)))); let x6 := AV.int IntKind.i64 (0 : Int) :: List.replicate 32 (if (0 : Int) ≤ (0 : Int) ∧ (0 : Int) < (256 : Int) then AV.u8 (BitVec.ofNat 8 0) else AV.raw (Go.Value.int IntKind.u8 (0 : Int))); let x7 := 0 + t.n + 1; let x8 := Max.max (IntKind.i64.wrap ((↑(t.n + 1) : Int) - (8 : Int))) (0 : Int); let x9 := fun (i : Nat) => if 8388608 ≤ i then Option.none else match [1472, 1408][i]? with | Option.some j => Option.some j | Option.none => Option.some (1536 + (i - 2)); (x3 = fun (j : Nat) => AV.int IntKind.i64 (t.I j) :: List.map (fun (i : Nat) => AV.u8 ((rg 32 (t.P j)).getD i (0 : BitVec 8))) (List.range 32)) ∧ @Bool.rec (fun _ => Prop) (@Bool.rec (fun _ => Prop) (@Bool.rec (fun _ => Prop) (@Bool.rec (fun _ => Prop) (@Bool.rec (fun _ => Prop) (@Bool.rec (fun _ => Prop) ((0 : Int) ≤ (0 : Int) ∧ 0 < 2 ∧ (0 : Int) ≤ Int.ofNat 1 ∧ 1 < 2 ∧ (0 : Int) ≤ (0 : Int) ∧ 0 < 2 ∧ (∀ (y : Nat), y < t.n → rowOK 33 (AV.int IntKind.i64 (t.I y) :: List.map (fun (i : Nat) => AV.u8 (t.P y i)) (List.range 32)) = Bool.true) ∧ roomFor 0 t.n 40 ∧ (0 : Int) ≤ Int.ofNat 1 ∧ 1 < 2 ∧ t.n = t.n ∧ roomFor t.n 1 40 ∧ (∀ (y : Nat), y < t.n + 1 → outs Bool.true (renL x1 (glue x3 t.n x5 y)) = Bool.true) ∧ (0 : Int) ≤ x8 ∧ x8.toNat ≤ t.n + 1 ∧ x4 ∧ allP (fun (i : Nat) => R.key i = t.key i) 0 32 (R.nx = IntKind.i64.wrap (t.nx + (1 : Int)) ∧ 1 = x8.toNat ∧ 0 = 0 ∧ R.n - 1 = minus (t.n + 1) x8.toNat ∧ id = t.nx ∧ e = (0 : Int) ∧ R.n = t.n + 1 ∧ (∀ (y : Nat), y < R.n → datas Bool.false (AV.int IntKind.i64 (R.I y) :: List.map (fun (i : Nat) => AV.u8 (R.P y i)) (List.range 32)) = Bool.true ∧ renL x9 (renL x1 (glue x3 t.n x5 y)) = AV.int IntKind.i64 (R.I y) :: List.map (fun (i : Nat) => AV.u8 (R.P y i)) (List.range 32)) ∧ True)) ((0 : Int) ≤ (0 : Int) ∧ 0 < 2 ∧ (0 : Int) ≤ Int.ofNat 1 ∧ 1 < 2 ∧ (0 : Int) ≤ (0 : Int) ∧ 0 ≤ 0 ∧ (0 : Int) ≤ x2 ∧ x2 < (9223372036854775808 : Int) ∧ roomFor 0 x2.toNat 40 ∧ (0 : Int) ≤ (0 : Int) ∧ 0 ≤ x2.toNat ∧ (∀ (y : Nat), y < x2.toNat → outs Bool.true x6 = Bool.true) ∧ (0 : Int) ≤ (0 : Int) ∧ 0 < 2 ∧ 0 ≤ x2.toNat ∧ (∀ (y : Nat), y < t.n → rowOK 33 (AV.int IntKind.i64 (t.I y) :: List.map (fun (i : Nat) => AV.u8 (t.P y i)) (List.range 32)) = Bool.true) ∧ 0 = 0 ∧ roomFor 0 t.n 40 ∧ (0 : Int) ≤ Int.ofNat 1 ∧ 1 < 2 ∧ 0 + t.n = 0 + t.n ∧ roomFor (0 + t.n) 1 40 ∧ (∀ (y : Nat), y < x7 → outs Bool.true (renL x1 (glue (glue (fun (y : Nat) => x6) 0 x3) (0 + t.n) x5 y)) = Bool.true) ∧ (0 : Int) ≤ Max.max (IntKind.i64.wrap ((↑x7 : Int) - (8 : Int))) (0 : Int) ∧ (Max.max (IntKind.i64.wrap ((↑x7 : Int) - (8 : Int))) (0 : Int)).toNat ≤ x7 ∧ x4 ∧ allP (fun (i : Nat) => R.key i = t.key i) 0 32 (R.nx = IntKind.i64.wrap (t.nx + (1 : Int)) ∧ 1 = (Max.max (IntKind.i64.wrap ((↑x7 : Int) - (8 : Int))) (0 : Int)).toNat ∧ 0 = 0 ∧ R.n - 1 = minus x7 (Max.max (IntKind.i64.wrap ((↑x7 : Int) - (8 : Int))) (0 : Int)).toNat ∧ id = t.nx ∧ e = (0 : Int) ∧ R.n = x7 ∧ (∀ (y : Nat), y < R.n → datas Bool.false (AV.int IntKind.i64 (R.I y) :: List.map (fun (i : Nat) => AV.u8 (R.P y i)) (List.range 32)) = Bool.true ∧ renL x9 (renL x1 (glue (glue (fun (y : Nat) => x6) 0 x3) (0 + t.n) x5 y)) = AV.int IntKind.i64 (R.I y) :: List.map (fun (i : Nat) => AV.u8 (R.P y i)) (List.range 32)) ∧ True)) (decide ((0 : Int) < x2))) False (decide (IntKind.i64.wrap (IntKind.i64.wrap ((0 : Int) + (↑t.n : Int)) + Int.ofNat 1) < (0 : Int)))) False (decide (IntKind.i64.wrap (IntKind.i64.wrap ((0 : Int) + (↑t.n : Int)) + Int.ofNat 1) < (0 : Int)))) False (decide (IntKind.i64.wrap ((0 : Int) + (↑t.n : Int)) < (0 : Int)))) (x4 ∧ False) (decide (t.nx = (2147483647 : Int)))) (x4 ∧ False) !({ key := fun (i : Nat) => (rg 32 t.key).getD i (0 : BitVec 8), nx := t.nx, n := t.n, I := fun (j : Nat) => t.I j, P := fun (j i : Nat) => (rg 32 (t.P j)).getD i (0 : BitVec 8) } : Tab).okB : Prop) := by kernel_rfl
end Go.Sym

namespace Go.Sym
open Go.Proofs Go.Spec
set_option linter.unusedVariables false
def xE (t : Tab) (c : Nat → BitVec 8) : Nat → List AV := cut 33 (List.take 33 (List.drop 0 (AV.int IntKind.i64 t.nx :: rg 32 fun (i : Nat) => AV.u8 (c i))))
theorem row_snoc (t : Tab) (c : Nat → BitVec 8) (y : Nat) (hy : y < t.n + 1) (f g : Nat → Option Nat) : renL f (renL g (glue (fun j => AV.int IntKind.i64 (t.I j) :: List.map (fun (i : Nat) => AV.u8 (t.P j i)) (List.range 32)) t.n (cut 33 (List.take 33 (List.drop 0 (AV.int IntKind.i64 t.nx :: rg 32 fun (i : Nat) => AV.u8 (c i))))) y)) = AV.int IntKind.i64 ((t.snoc c).I y) :: List.map (fun (i : Nat) => AV.u8 ((t.snoc c).P y i)) (List.range 32) := by
  unfold glue Tab.snoc
  by_cases h : y < t.n
  · simp only [if_pos h]
    rfl
  · simp only [if_neg h]
    rw [show y - t.n = 0 by omega]
    rfl
theorem out_snoc (t : Tab) (c : Nat → BitVec 8) (y : Nat) (hy : y < t.n + 1) (g : Nat → Option Nat) : outs true (renL g (glue (fun j => AV.int IntKind.i64 (t.I j) :: List.map (fun (i : Nat) => AV.u8 (t.P j i)) (List.range 32)) t.n (cut 33 (List.take 33 (List.drop 0 (AV.int IntKind.i64 t.nx :: rg 32 fun (i : Nat) => AV.u8 (c i))))) y)) = true := by
  unfold glue
  by_cases h : y < t.n
  · simp only [if_pos h]
    rfl
  · simp only [if_neg h]
    rw [show y - t.n = 0 by omega]
    rfl
set_option maxRecDepth 100000 in
theorem bt11e (t : Tab) (u : NL) (c : Nat → BitVec 8) (h : minE t ≠ 0) : Must (bodyP Tryd.prog T7 gl0 [] [] 3000 Tryd.f11 0 [tabA false t u, aggB 32 c] [] (retQ Tryd.prog Tryd.f11 0 ⟨[], .tup [tabZ, .int .i64 0, .int .i64 (minE t)], [], []⟩)) := by
  constructor
  rw [vt11e _ tz, Tab.okB_same]
  set_option simprocs false in dsimp only
  refine ⟨rows_rg t, brec (fun h0 => ?_) (fun h0 => ?_)⟩
  · have h0 : t.okB = false := by simpa using h0
    exact allP_of 32 0 (fun _ _ _ => rfl) ⟨rfl, rfl, if_pos h0, trivial⟩
  have h0' : ¬ t.okB = false := by
    have h0 : t.okB = true := by simpa using h0
    rw [h0]; decide
  refine brec (fun h1 => ?_) (fun h1 => ?_)
  · exact allP_of 32 0 (fun _ _ _ => rfl) ⟨rfl, rfl, (if_neg h0').trans (if_pos (dyes h1)), trivial⟩
  · exact absurd ((if_neg h0').trans (if_neg (dno h1))) h
set_option maxRecDepth 100000 in
theorem bt11g (t : Tab) (u : NL) (c : Nat → BitVec 8) (h : minE t = 0) (h8 : t.n ≤ 7) : Must (bodyP Tryd.prog T7 gl0 [] [] 3000 Tryd.f11 0 [tabA false t u, aggB 32 c] [] (retQ Tryd.prog Tryd.f11 0 ⟨[], .tup [tabX (t.snoc c) 0, .int .i64 t.nx, .int .i64 0], [], [blkR (t.snoc c)]⟩)) := by
  constructor
  rw [vt11g, Tab.okB_same]
  set_option simprocs false in dsimp only
  refine ⟨rows_rg t, brec (fun h0 => ?_) (fun h0 => ?_)⟩
  · have h0 : t.okB = false := by simpa using h0
    exact absurd ((if_pos h0).symm.trans h) (by decide)
  have h0 : t.okB = true := by simpa using h0
  have h0' : ¬ t.okB = false := by rw [h0]; decide
  have hok := Tab.okB_iff.1 h0
  refine brec (fun h1 => ?_) (fun h1 => ?_)
  · exact absurd (((if_neg h0').trans (if_pos (dyes h1))).symm.trans h) (by decide)
  have h1 := dno h1
  have hn8 := hok.h2
  have hx0 := hok.h0
  have hx1 := hok.h1
  have e3 : IntKind.i64.wrap (0 + (t.n : Int)) = (t.n : Int) := wrap_nat _ (by omega) (by omega)
  have e4 : IntKind.i64.wrap ((t.n : Int) + Int.ofNat 1) = ((t.n + 1 : Nat) : Int) := wrap_nat _ (by simp) (by omega)
  have e5 : IntKind.i64.wrap (((t.n + 1 : Nat) : Int) - Int.ofNat 0) = ((t.n + 1 : Nat) : Int) := wrap_nat _ (by simp) (by omega)
  have e6 : IntKind.i64.wrap (((t.n + 1 : Nat) : Int) - 8) = (t.n : Int) - 7 := (wrap_i64 (by omega) (by omega)).trans (by omega)
  have e7 : Max.max ((t.n : Int) - 7) 0 = 0 := by omega
  have e8 : IntKind.i64.wrap (t.nx + 1) = t.nx + 1 := wrap_i64 (by omega) (by omega)
  rw [e3, e4, e5, Nat.zero_add, glue0, e6, e7, e8]
  have hd : ∀ (g h : Nat → Option Nat) (y : Nat), y < (t.snoc c).n → datas Bool.false (AV.int IntKind.i64 ((t.snoc c).I y) :: List.map (fun (i : Nat) => AV.u8 ((t.snoc c).P y i)) (List.range 32)) = Bool.true ∧ renL g (renL h (glue (fun j => AV.int IntKind.i64 (t.I j) :: List.map (fun (i : Nat) => AV.u8 (t.P j i)) (List.range 32)) t.n (cut 33 (List.take 33 (List.drop 0 (AV.int IntKind.i64 t.nx :: rg 32 fun (i : Nat) => AV.u8 (c i))))) y)) = AV.int IntKind.i64 ((t.snoc c).I y) :: List.map (fun (i : Nat) => AV.u8 ((t.snoc c).P y i)) (List.range 32) := fun g h y hy => ⟨rfl, row_snoc t c y hy g h⟩
  have hx3 : ∀ (y : Nat), y < (t.snoc c).n → outs Bool.true (AV.int IntKind.i64 ((t.snoc c).I y) :: List.map (fun (i : Nat) => AV.u8 ((t.snoc c).P y i)) (List.range 32)) = Bool.true := fun _ _ => rfl
  refine brec (fun h7 => ?_) (fun h7 => ?_)
  · have h7 := dyes h7
    rw [Int.toNat_natCast]
    refine ⟨by decide, by decide, by decide, by decide, by decide, by decide, Int.natCast_nonneg _, by omega, by unfold roomFor; omega, by decide, Nat.zero_le _, fun _ _ => rfl, by decide, by decide, Nat.zero_le _, fun _ _ => rfl, rfl, by unfold roomFor; omega, by decide, by decide, rfl, by unfold roomFor; omega, fun y hy => out_snoc t c y hy _, by decide, by omega, hx3, allP_of 32 0 (fun _ _ _ => rfl) ⟨rfl, rfl, rfl, rfl, rfl, rfl, rfl, hd _ _, trivial⟩⟩
  · have h7 := dno h7
    exact absurd h7 (by omega)
set_option maxRecDepth 100000 in
theorem bt11h (t : Tab) (u : NL) (c : Nat → BitVec 8) (h : minE t = 0) (h8 : t.n = 8) : Must (bodyP Tryd.prog T7 gl0 [] [] 3000 Tryd.f11 0 [tabA false t u, aggB 32 c] [] (retQ Tryd.prog Tryd.f11 0 ⟨[], .tup [tabX (t.snoc c) 1, .int .i64 t.nx, .int .i64 0], [], [blkR (t.snoc c)]⟩)) := by
  constructor
  rw [vt11h, Tab.okB_same]
  set_option simprocs false in dsimp only
  refine ⟨rows_rg t, brec (fun h0 => ?_) (fun h0 => ?_)⟩
  · have h0 : t.okB = false := by simpa using h0
    exact absurd ((if_pos h0).symm.trans h) (by decide)
  have h0 : t.okB = true := by simpa using h0
  have h0' : ¬ t.okB = false := by rw [h0]; decide
  have hok := Tab.okB_iff.1 h0
  refine brec (fun h1 => ?_) (fun h1 => ?_)
  · exact absurd (((if_neg h0').trans (if_pos (dyes h1))).symm.trans h) (by decide)
  have h1 := dno h1
  have hn8 := hok.h2
  have hx0 := hok.h0
  have hx1 := hok.h1
  have e3 : IntKind.i64.wrap (0 + (t.n : Int)) = (t.n : Int) := wrap_nat _ (by omega) (by omega)
  have e4 : IntKind.i64.wrap ((t.n : Int) + Int.ofNat 1) = ((t.n + 1 : Nat) : Int) := wrap_nat _ (by simp) (by omega)
  have e5 : IntKind.i64.wrap (((t.n + 1 : Nat) : Int) - Int.ofNat 0) = ((t.n + 1 : Nat) : Int) := wrap_nat _ (by simp) (by omega)
  have e6 : IntKind.i64.wrap (((t.n + 1 : Nat) : Int) - 8) = (t.n : Int) - 7 := (wrap_i64 (by omega) (by omega)).trans (by omega)
  have e7 : Max.max ((t.n : Int) - 7) 0 = 1 := by omega
  have e8 : IntKind.i64.wrap (t.nx + 1) = t.nx + 1 := wrap_i64 (by omega) (by omega)
  rw [e3, e4, e5, Nat.zero_add, glue0, e6, e7, e8]
  have hd : ∀ (g h : Nat → Option Nat) (y : Nat), y < (t.snoc c).n → datas Bool.false (AV.int IntKind.i64 ((t.snoc c).I y) :: List.map (fun (i : Nat) => AV.u8 ((t.snoc c).P y i)) (List.range 32)) = Bool.true ∧ renL g (renL h (glue (fun j => AV.int IntKind.i64 (t.I j) :: List.map (fun (i : Nat) => AV.u8 (t.P j i)) (List.range 32)) t.n (cut 33 (List.take 33 (List.drop 0 (AV.int IntKind.i64 t.nx :: rg 32 fun (i : Nat) => AV.u8 (c i))))) y)) = AV.int IntKind.i64 ((t.snoc c).I y) :: List.map (fun (i : Nat) => AV.u8 ((t.snoc c).P y i)) (List.range 32) := fun g h y hy => ⟨rfl, row_snoc t c y hy g h⟩
  have hx3 : ∀ (y : Nat), y < (t.snoc c).n → outs Bool.true (AV.int IntKind.i64 ((t.snoc c).I y) :: List.map (fun (i : Nat) => AV.u8 ((t.snoc c).P y i)) (List.range 32)) = Bool.true := fun _ _ => rfl
  refine brec (fun h7 => ?_) (fun h7 => ?_)
  · have h7 := dyes h7
    rw [Int.toNat_natCast]
    refine ⟨by decide, by decide, by decide, by decide, by decide, by decide, Int.natCast_nonneg _, by omega, by unfold roomFor; omega, by decide, Nat.zero_le _, fun _ _ => rfl, by decide, by decide, Nat.zero_le _, fun _ _ => rfl, rfl, by unfold roomFor; omega, by decide, by decide, rfl, by unfold roomFor; omega, fun y hy => out_snoc t c y hy _, by decide, by omega, hx3, allP_of 32 0 (fun _ _ _ => rfl) ⟨rfl, rfl, rfl, rfl, rfl, rfl, rfl, hd _ _, trivial⟩⟩
  · have h7 := dno h7
    exact absurd h7 (by omega)
end Go.Sym

namespace Go.Sym
open Go.Proofs Go.Spec
set_option linter.unusedVariables false
set_option linter.unusedSimpArgs false
theorem minE_ok {t : Tab} (h : minE t = 0) : t.ok := by
  unfold minE at h
  split at h
  · cases h
  · rename_i c
    cases e : t.okB
    · exact absurd e c
    · exact Tab.okB_iff.1 e
noncomputable def gMint (t : Tab) (c : Nat → BitVec 8) (o : List Prop) : TL := .br (decide (minE t = 0)) (.br (decide (t.n ≤ 7)) (.ok ⟨o, .tup [tabX (t.snoc c) 0, .int .i64 t.nx, .int .i64 0], [], [blkR (t.snoc c)]⟩) (.ok ⟨o, .tup [tabX (t.snoc c) 1, .int .i64 t.nx, .int .i64 0], [], [blkR (t.snoc c)]⟩)) (.ok ⟨o, .tup [tabZ, .int .i64 0, .int .i64 (minE t)], [], []⟩)
noncomputable def g11 (xs : List AV) (bs : List ABlk) : TL := match xs, bs with
  | [.agg cs, .agg ds], [] => asTab false cs fun t nl o => asKey ds fun c => gMint t c o
  | _, _ => .no
noncomputable def sp11 : Spec := ⟨[tabK, .a (List.replicate 32 .kp)], fun _ _ => [], fun _ _ => [], g11⟩
theorem gMint_sel {t : Tab} {c : Nat → BitVec 8} {o : List Prop} {r : RL} (h : (gMint t c o).sel = some r) : r.ob = o := by
  unfold gMint at h
  cases e1 : decide (minE t = 0) <;> rw [e1] at h <;> simp only [TL.sel] at h
  · cases h; rfl
  · cases e2 : decide (t.n ≤ 7) <;> rw [e2] at h <;> simp only [TL.sel] at h <;> cases h <;> rfl
theorem ct11 : COK Tryd.prog gl0 11 (mkF sp11) := by
  refine ctrE (fn := Tryd.f11) [] 3000 (by kernel_rfl) (by kernel_rfl) okT7 (by kernel_rfl) (fun args w => by kernel_rfl) fun xs bs r hs ho => ?_
  replace hs : (g11 xs bs).sel = some r := hs
  unfold g11 at hs
  split at hs
  · obtain ⟨t, nl, o, hs, hc⟩ := asTab_sel hs
    obtain ⟨c, ec, hs⟩ := asKey_sel hs
    rw [gMint_sel hs] at ho
    rw [hc ho, ec]
    unfold gMint at hs
    cases e1 : decide (minE t = 0) <;> rw [e1] at hs <;> simp only [TL.sel] at hs
    · cases hs
      exact ⟨_, bt11e t nl c (dno e1)⟩
    · have h1 := dyes e1
      have := (minE_ok h1).h2
      cases e2 : decide (t.n ≤ 7) <;> rw [e2] at hs <;> simp only [TL.sel] at hs <;> cases hs
      · have := dno e2
        exact ⟨_, bt11h t nl c h1 (by omega)⟩
      · exact ⟨_, bt11g t nl c h1 (dyes e2)⟩
  · simp [TL.sel] at hs
noncomputable def T8 : Ctx := T7.add 11 (mkF sp11)
theorem okT8 : COKs Tryd.prog gl0 T8 := okT7.add ct11
end Go.Sym

namespace Go.Spec
/-- How many tickets are known. -/
noncomputable def knN (t : Tab) : Nat := if t.okB = true then t.n else 0
end Go.Spec
namespace Go.Sym
open Go.Proofs Go.Spec
set_option linter.unusedVariables false
noncomputable def rowQ (t : Tab) (j : Nat) : List AV := .rb true (tkB t.key (t.I j)) .unk :: ((List.range 32).map fun i => .u8 (t.P j i))
noncomputable def ls16 (t : Tab) : LS := ⟨Nat, fun j => [(1, .ptr 101 0 0 0), (3, .slice 100 0 33 j .ow .unk), (10, .ros false 33 t.n (rowE t) .unk), (11, .int .i64 t.n), (12, .int .i64 j)], fun j => [(101, bxT false t), (100, ⟨.rows 33 j (rowQ t), true, 33⟩)], 1000, fun j => t.n - j, fun j => j ≤ t.n ∧ t.n ≤ 8, fun _ => []⟩
noncomputable def T9 : Ctx := T8.withFrz [(20, [.by8])]
theorem okT9 : COKs Tryd.prog gl0 T9 := okT8.withFrz _
end Go.Sym

namespace Go.Sym
open Go.Proofs Go.Spec
set_option linter.unusedVariables false
set_option maxRecDepth 100000 in
theorem vt16 (t : Tab) (u : NL) (m : Nat) : bodyP Tryd.prog T9 gl0 [] [(6, ls16 t)] 3000 Tryd.f16 0 [tabA false t u] [] (retQ Tryd.prog Tryd.f16 0 ⟨[], .slice 0 0 33 m .ow .unk, [], [⟨.rows 33 m (rowQ t), true, 33⟩]⟩) = (
let x1 := ∀ (y : Nat), y < t.n → datas Bool.false (AV.int IntKind.i64 (t.I y) :: List.map (fun (i : Nat) => AV.u8 (t.P y i)) (List.range 32)) = Bool.true ∧ t.I y = t.I y ∧ allP (fun (i : Nat) => t.P y i = t.P y i) 0 32 True; let x2 := (fun (j : Nat) => AV.int IntKind.i64 (t.I j) :: List.map (fun (i : Nat) => AV.u8 (t.P j i)) (List.range 32)) = fun (j : Nat) => AV.int IntKind.i64 (t.I j) :: List.map (fun (i : Nat) => AV.u8 ((rg 32 (t.P j)).getD i (0 : BitVec 8))) (List.range 32); x2 ∧ @Bool.rec (fun _ => Prop) ((∃ (x : Nat), (x ≤ t.n ∧ t.n ≤ 8) ∧ 0 = 0 ∧ x = 0 ∧ t.n = t.n ∧ x1 ∧ (↑t.n : Int) = (↑t.n : Int) ∧ (↑x : Int) = (0 : Int) ∧ allP (fun (i : Nat) => t.key i = t.key i) 0 32 (t.nx = t.nx ∧ t.n = t.n ∧ x1 ∧ x = 0 ∧ True)) ∧ ∀ (x : Nat), x ≤ t.n ∧ t.n ≤ 8 → @Bool.rec (fun _ => Prop) ((∀ (y : Nat), y < m → outs Bool.true (AV.rb Bool.true (tkB t.key (t.I y)) NL.unk :: List.map (fun (i : Nat) => AV.u8 (t.P y i)) (List.range 32)) = Bool.true) ∧ 0 = 0 ∧ 0 = 0 ∧ 0 = 0 ∧ m = x ∧ m = x ∧ (∀ (y : Nat), let x1 := AV.rb Bool.true (tkB t.key (t.I y)) NL.unk :: List.map (fun (i : Nat) => AV.u8 (t.P y i)) (List.range 32); y < m → datas Bool.false x1 = Bool.true ∧ x1 = x1) ∧ True) ((0 : Int) ≤ (↑x : Int) ∧ (↑x : Int).toNat < t.n ∧ x2 ∧ List.length (tkB (fun (i : Nat) => (rg 32 t.key).getD i (0 : BitVec 8)) (t.I (↑x : Int).toNat)) = List.length (tkB (fun (i : Nat) => (rg 32 t.key).getD i (0 : BitVec 8)) (t.I (↑x : Int).toNat)) ∧ x = x ∧ roomFor x 1 56 ∧ ∃ (y : Nat), t.n - y < t.n - x ∧ (y ≤ t.n ∧ t.n ≤ 8) ∧ 0 = 0 ∧ 0 = 0 ∧ 0 = 0 ∧ 0 = 0 ∧ y = x + 1 ∧ t.n = t.n ∧ x1 ∧ (↑t.n : Int) = (↑t.n : Int) ∧ (↑y : Int) = IntKind.i64.wrap ((↑x : Int) + (1 : Int)) ∧ allP (fun (i : Nat) => t.key i = t.key i) 0 32 (t.nx = t.nx ∧ t.n = t.n ∧ x1 ∧ y = x + 1 ∧ (∀ (y_1 : Nat), y_1 < y → datas Bool.false (AV.rb Bool.true (tkB t.key (t.I y_1)) NL.unk :: List.map (fun (i : Nat) => AV.u8 (t.P y_1 i)) (List.range 32)) = Bool.true ∧ glue (fun (j : Nat) => AV.rb Bool.true (tkB t.key (t.I j)) NL.unk :: List.map (fun (i : Nat) => AV.u8 (t.P j i)) (List.range 32)) x (cut 33 (List.take 33 (List.drop 0 (AV.rb Bool.true (tkB (fun (i : Nat) => (rg 32 t.key).getD i (0 : BitVec 8)) (t.I (↑x : Int).toNat)) NL.unk :: rg 32 fun (i : Nat) => AV.u8 (t.P (↑x : Int).toNat i))))) y_1 = AV.rb Bool.true (tkB t.key (t.I y_1)) NL.unk :: List.map (fun (i : Nat) => AV.u8 (t.P y_1 i)) (List.range 32)) ∧ True)) (decide ((↑x : Int) < (↑t.n : Int)))) ((∀ (y : Nat), y < m → outs Bool.true (AV.rb Bool.true (tkB t.key (t.I y)) NL.unk :: List.map (fun (i : Nat) => AV.u8 (t.P y i)) (List.range 32)) = Bool.true) ∧ m = 0 ∧ m = 0 ∧ True) !({ key := fun (i : Nat) => (rg 32 t.key).getD i (0 : BitVec 8), nx := t.nx, n := t.n, I := fun (j : Nat) => t.I j, P := fun (j i : Nat) => (rg 32 (t.P j)).getD i (0 : BitVec 8) } : Tab).okB : Prop) := by kernel_rfl
end Go.Sym

namespace Go.Sym
open Go.Proofs Go.Spec
set_option linter.unusedVariables false
set_option maxRecDepth 100000 in
theorem bt16 (t : Tab) (u : NL) : Must (bodyP Tryd.prog T9 gl0 [] [(6, ls16 t)] 3000 Tryd.f16 0 [tabA false t u] [] (retQ Tryd.prog Tryd.f16 0 ⟨[], .slice 0 0 33 (knN t) .ow .unk, [], [⟨.rows 33 (knN t) (rowQ t), true, 33⟩]⟩)) := by
  constructor
  rw [vt16, Tab.okB_same]
  set_option simprocs false in dsimp only
  have hr := tk_rows false t
  refine ⟨rows_rg t, brec (fun h0 => ?_) (fun h0 => ?_)⟩
  · have h0 : t.okB = false := by simpa using h0
    have e : knN t = 0 := if_neg (by rw [h0]; decide)
    exact ⟨fun _ _ => rfl, e, e, trivial⟩
  have h0 : t.okB = true := by simpa using h0
  have e : knN t = t.n := if_pos h0
  have hn8 := (Tab.okB_iff.1 h0).h2
  refine ⟨⟨0, ⟨Nat.zero_le _, hn8⟩, rfl, rfl, rfl, hr, rfl, rfl, allP_of 32 0 (fun _ _ _ => rfl) ⟨rfl, rfl, hr, rfl, trivial⟩⟩, fun x hx => ?_⟩
  obtain ⟨hx, -⟩ := hx
  refine brec (fun h1 => ?_) (fun h1 => ?_)
  · have h1 := dyes h1
    have h1 : x < t.n := by omega
    rw [Int.toNat_natCast, tkB_rg]
    refine ⟨Int.natCast_nonneg _, h1, rows_rg t, rfl, rfl, by unfold roomFor; omega, x + 1, by omega, ⟨by omega, hn8⟩, rfl, rfl, rfl, rfl, rfl, rfl, hr, rfl, (i_succ h1 hn8).symm, allP_of 32 0 (fun _ _ _ => rfl) ⟨rfl, rfl, hr, rfl, fun y hy => ⟨rfl, ?_⟩, trivial⟩⟩
    unfold glue
    by_cases c : y < x
    · simp only [if_pos c]
    · simp only [if_neg c]
      have : y = x := by omega
      subst this
      rw [Nat.sub_self]
      rfl
  · have h1 := dno h1
    have : x = t.n := by omega
    exact ⟨fun _ _ => rfl, rfl, rfl, rfl, e.trans this.symm, e.trans this.symm, fun _ _ => ⟨rfl, rfl⟩, trivial⟩
noncomputable def g16 (xs : List AV) (bs : List ABlk) : TL := match xs, bs with
  | [.agg cs], [] => asTab false cs fun t nl o => .ok ⟨o, .slice 0 0 33 (knN t) .ow .unk, [], [⟨.rows 33 (knN t) (rowQ t), true, 33⟩]⟩
  | _, _ => .no
noncomputable def sp16 : Spec := ⟨[tabK], fun _ _ => [], fun _ _ => [], g16⟩
theorem ct16 : COK Tryd.prog gl0 16 (mkF sp16) := by
  refine ctrE (fn := Tryd.f16) [] 3000 (by kernel_rfl) (by kernel_rfl) okT9 (by kernel_rfl) (fun args w => by kernel_rfl) fun xs bs r hs ho => ?_
  replace hs : (g16 xs bs).sel = some r := hs
  unfold g16 at hs
  split at hs
  · obtain ⟨t, nl, o, hs, hc⟩ := asTab_sel hs
    simp only [TL.sel, Option.some.injEq] at hs
    subst hs
    rw [hc ho]
    exact ⟨_, bt16 t nl⟩
  · simp [TL.sel] at hs
noncomputable def T10 : Ctx := T8.add 16 (mkF sp16)
theorem okT10 : COKs Tryd.prog gl0 T10 := okT8.add ct16
end Go.Sym
