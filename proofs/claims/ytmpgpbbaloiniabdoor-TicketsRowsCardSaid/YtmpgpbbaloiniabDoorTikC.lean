/- The document uses up tickets; rows of calls. -/
import Derived.Test.YtmpgpbbaloiniabDoorTikB
namespace Go.Sym
open Go.Proofs Go.Spec
set_option linter.unusedVariables false
set_option maxRecDepth 100000 in
theorem vt5 (t : Tab) (u : NL) (k : By) (id : Int) (z : Bool) : bodyP Tryd.prog T14 gl0 [] [(20002, lr1 t k id), (20003, lr2 t k id), (20004, lr3 t k id), (20009, lr8 t k)] 3000 Tryd.f5 0 [tabA true t u, .rb true k .unk, .int .i64 id] [] (retQ Tryd.prog Tryd.f5 0 ⟨[], .bool z, [], []⟩) = (
let x1 := ({ key := fun (i : Nat) => (rg 32 t.key).getD i (0 : BitVec 8), nx := t.nx, n := t.n, I := fun (j : Nat) => t.I j, P := fun (j i : Nat) => (rg 32 (t.P j)).getD i (0 : BitVec 8) } : Tab); let x2 := @Bool.rec (fun _ => Prop) (z = Bool.false ∧ True) (@Bool.rec (fun _ => Prop) (0 + t.n ≤ t.n ∧ (∀ (y : Nat), y < t.n → datas Bool.false (AV.int IntKind.i64 (t.I y) :: List.map (fun (i : Nat) => AV.u8 (t.P y i)) (List.range 32)) = Bool.true ∧ (AV.int IntKind.i64 (t.I y) :: List.map (fun (i : Nat) => AV.u8 (t.P y i)) (List.range 32)).length ≤ 33) ∧ ((fun (j : Nat) => AV.int IntKind.i64 (t.I j) :: List.map (fun (i : Nat) => AV.u8 (t.P j i)) (List.range 32)) = fun (j : Nat) => AV.int IntKind.i64 (t.I j) :: List.map (fun (i : Nat) => AV.u8 ((rg 32 (t.P j)).getD i (0 : BitVec 8))) (List.range 32)) ∧ z = decide ((↑(knN x1) : Int) = (↑t.n : Int)) ∧ True) (0 + (useT t k).n ≤ (useT t k).n ∧ (∀ (y : Nat), y < (useT t k).n → datas Bool.false (AV.int IntKind.i64 ((useT t k).I y) :: List.map (fun (i : Nat) => AV.u8 ((useT t k).P y i)) (List.range 32)) = Bool.true ∧ (AV.int IntKind.i64 ((useT t k).I y) :: List.map (fun (i : Nat) => AV.u8 ((useT t k).P y i)) (List.range 32)).length ≤ 33) ∧ (useT t k).n < 3518437208781 ∧ ((fun (y : Nat) => AV.int IntKind.i64 ((useT t k).I y) :: List.map (fun (i : Nat) => AV.u8 ((useT t k).P y i)) (List.range 32)) = fun (j : Nat) => AV.int IntKind.i64 ((useT t k).I j) :: List.map (fun (i : Nat) => AV.u8 ((rg 32 ((useT t k).P j)).getD i (0 : BitVec 8))) (List.range 32)) ∧ 0 + (useT t k).n ≤ (useT t k).n ∧ (∀ (y : Nat), y < (useT t k).n → datas Bool.false (AV.int IntKind.i64 ((useT t k).I y) :: rg 32 fun (i : Nat) => AV.u8 ((rg 32 ((useT t k).P y)).getD i (0 : BitVec 8))) = Bool.true ∧ (AV.int IntKind.i64 ((useT t k).I y) :: rg 32 fun (i : Nat) => AV.u8 ((rg 32 ((useT t k).P y)).getD i (0 : BitVec 8))).length ≤ 33) ∧ 0 + (useT t k).n ≤ (useT t k).n ∧ (∀ (y : Nat), y < (useT t k).n → datas Bool.false (AV.int IntKind.i64 ((useT t k).I y) :: List.map (fun (i : Nat) => AV.u8 ((useT t k).P y i)) (List.range 32)) = Bool.true ∧ (AV.int IntKind.i64 ((useT t k).I y) :: List.map (fun (i : Nat) => AV.u8 ((useT t k).P y i)) (List.range 32)).length ≤ 33) ∧ (useT t k).n < 3518437208781 ∧ (((fun (y : Nat) => AV.int IntKind.i64 ((useT t k).I y) :: rg 32 fun (i : Nat) => AV.u8 ((rg 32 ((useT t k).P y)).getD i (0 : BitVec 8))) = fun (j : Nat) => AV.int IntKind.i64 ((useT t k).I j) :: List.map (fun (i : Nat) => AV.u8 ((rg 32 fun (i : Nat) => (rg 32 ((useT t k).P j)).getD i (0 : BitVec 8)).getD i (0 : BitVec 8))) (List.range 32)) ∧ True) ∧ (((fun (y : Nat) => AV.int IntKind.i64 ((useT t k).I y) :: List.map (fun (i : Nat) => AV.u8 ((useT t k).P y i)) (List.range 32)) = fun (j : Nat) => AV.int IntKind.i64 ((useT t k).I j) :: List.map (fun (i : Nat) => AV.u8 ((rg 32 ((useT t k).P j)).getD i (0 : BitVec 8))) (List.range 32)) ∧ True) ∧ @Bool.rec (fun _ => Prop) (z = Bool.false ∧ True) (@Bool.rec (fun _ => Prop) (z = Bool.false ∧ True) (0 + t.n ≤ t.n ∧ (∀ (y : Nat), y < t.n → datas Bool.false (AV.int IntKind.i64 (t.I y) :: List.map (fun (i : Nat) => AV.u8 (t.P y i)) (List.range 32)) = Bool.true ∧ (AV.int IntKind.i64 (t.I y) :: List.map (fun (i : Nat) => AV.u8 (t.P y i)) (List.range 32)).length ≤ 33) ∧ ((fun (j : Nat) => AV.int IntKind.i64 (t.I j) :: List.map (fun (i : Nat) => AV.u8 (t.P j i)) (List.range 32)) = fun (j : Nat) => AV.int IntKind.i64 (t.I j) :: List.map (fun (i : Nat) => AV.u8 ((rg 32 (t.P j)).getD i (0 : BitVec 8))) (List.range 32)) ∧ z = decide ((↑(knN x1) : Int) = (↑t.n : Int)) ∧ True) (decide (useN t k = useN t k))) (tSameB ({ key := fun (i : Nat) => (rg 32 fun (i : Nat) => (rg 32 (useT t k).key).getD i (0 : BitVec 8)).getD i (0 : BitVec 8), nx := (useT t k).nx, n := (useT t k).n, I := fun (j : Nat) => (useT t k).I j, P := fun (j i : Nat) => (rg 32 fun (i : Nat) => (rg 32 ((useT t k).P j)).getD i (0 : BitVec 8)).getD i (0 : BitVec 8) } : Tab) ({ key := fun (i : Nat) => (rg 32 (useT t k).key).getD i (0 : BitVec 8), nx := (useT t k).nx, n := (useT t k).n, I := fun (j : Nat) => (useT t k).I j, P := fun (j i : Nat) => (rg 32 ((useT t k).P j)).getD i (0 : BitVec 8) } : Tab))) !!decide (useE t k = (0 : Int))) (decide (useE t k = useE t k)); let x3 := (fun (j : Nat) => AV.int IntKind.i64 (t.I j) :: List.map (fun (i : Nat) => AV.u8 (t.P j i)) (List.range 32)) = fun (j : Nat) => AV.int IntKind.i64 (t.I j) :: List.map (fun (i : Nat) => AV.u8 ((rg 32 (t.P j)).getD i (0 : BitVec 8))) (List.range 32); let x4 := allP (fun (i : Nat) => t.key i = t.key i) 0 32 (t.nx = t.nx ∧ t.n = t.n ∧ (∀ (y : Nat), y < t.n → datas Bool.true (AV.int IntKind.i64 (t.I y) :: List.map (fun (i : Nat) => AV.u8 (t.P y i)) (List.range 32)) = Bool.true ∧ t.I y = t.I y ∧ allP (fun (i : Nat) => t.P y i = t.P y i) 0 32 True) ∧ allP (fun (i : Nat) => t.key i = t.key i) 0 32 (t.nx = t.nx ∧ 0 = 0 ∧ 0 = 0 ∧ 0 = 0 ∧ t.n = t.n ∧ t.n = t.n ∧ (∀ (y : Nat), let x1 := AV.int IntKind.i64 (t.I y) :: List.map (fun (i : Nat) => AV.u8 (t.P y i)) (List.range 32); y < t.n → datas Bool.false x1 = Bool.true ∧ x1 = x1) ∧ True)); let x5 := ∀ (y : Nat), y < t.n → datas Bool.false (AV.int IntKind.i64 (t.I y) :: List.map (fun (i : Nat) => AV.u8 (t.P y i)) (List.range 32)) = Bool.true ∧ (AV.int IntKind.i64 (t.I y) :: List.map (fun (i : Nat) => AV.u8 (t.P y i)) (List.range 32)).length ≤ 33; let x6 := allP (fun (i : Nat) => (useT t k).key i = (useT x1 k).key i) 0 32 ((useT t k).nx = (useT x1 k).nx ∧ 0 = 0 ∧ 0 = 0 ∧ 0 = 0 ∧ (useT t k).n = (useT x1 k).n ∧ (useT t k).n = (useT x1 k).n ∧ (∀ (y : Nat), y < (useT t k).n → datas Bool.false (AV.int IntKind.i64 ((useT t k).I y) :: List.map (fun (i : Nat) => AV.u8 ((useT t k).P y i)) (List.range 32)) = Bool.true ∧ (AV.int IntKind.i64 ((useT x1 k).I y) :: rg 32 fun (i : Nat) => AV.u8 ((useT x1 k).P y i)) = AV.int IntKind.i64 ((useT t k).I y) :: List.map (fun (i : Nat) => AV.u8 ((useT t k).P y i)) (List.range 32)) ∧ True); let x7 := ∀ (y : Nat), y < t.n → datas Bool.true (AV.int IntKind.i64 (t.I y) :: List.map (fun (i : Nat) => AV.u8 (t.P y i)) (List.range 32)) = Bool.true ∧ t.I y = t.I y ∧ allP (fun (i : Nat) => t.P y i = t.P y i) 0 32 True; let x8 := tkB (fun (i : Nat) => (rg 32 t.key).getD i (0 : BitVec 8)) id; let x9 := ∀ (y : Nat), let x1 := AV.int IntKind.i64 (t.I y) :: List.map (fun (i : Nat) => AV.u8 (t.P y i)) (List.range 32); y < t.n → datas Bool.false x1 = Bool.true ∧ x1 = x1; let x10 := 0 + t.n ≤ t.n ∧ x5 ∧ x3 ∧ ∃ (y : Unit), t.n.succ.le 3518437208781 ∧ k = k ∧ id = id ∧ 0 = 0 ∧ 0 = 0 ∧ minN t = t.nx ∧ minE t = (0 : Int) ∧ x4; (t.n < 3518437208781 ∧ x3 ∧ ∃ (y : Unit), t.n.succ.le 3518437208781 ∧ k = k ∧ id = id ∧ 0 = 0 ∧ 0 = 0 ∧ allP (fun (i : Nat) => t.key i = t.key i) 0 32 (t.nx = t.nx ∧ t.n = t.n ∧ x7 ∧ allP (fun (i : Nat) => t.key i = (rg 32 t.key).getD i (0 : BitVec 8)) 0 32 (t.nx = t.nx ∧ 0 = 0 ∧ 0 = 0 ∧ 0 = 0 ∧ t.n = t.n ∧ t.n = t.n ∧ (∀ (y : Nat), y < t.n → datas Bool.false (AV.int IntKind.i64 (t.I y) :: List.map (fun (i : Nat) => AV.u8 (t.P y i)) (List.range 32)) = Bool.true ∧ (AV.int IntKind.i64 (t.I y) :: rg 32 fun (i : Nat) => AV.u8 ((rg 32 (t.P y)).getD i (0 : BitVec 8))) = AV.int IntKind.i64 (t.I y) :: List.map (fun (i : Nat) => AV.u8 (t.P y i)) (List.range 32)) ∧ True))) ∧ ∀ (x : Unit), t.n.succ.le 3518437208781 → @Bool.rec (fun _ => Prop) (0 + t.n ≤ t.n ∧ x5 ∧ x3 ∧ ∃ (y : Unit), t.n.succ.le 3518437208781 ∧ k = k ∧ id = id ∧ 0 = 0 ∧ 0 = 0 ∧ minN t = (0 : Int) ∧ minE t = minE x1 ∧ x4) (@Bool.rec (fun _ => Prop) x10 x10 (decide (t.n ≤ 7))) (decide (minE x1 = (0 : Int))) ∧ ∀ (x : Unit), t.n.succ.le 3518437208781 → (0 + t.n ≤ t.n ∧ x5 ∧ List.length k < 4611686018427387904 ∧ x3 ∧ ∃ (y : Unit), t.n.succ.le 3518437208781 ∧ k = k ∧ id = id ∧ 0 = 0 ∧ 0 = 0 ∧ minN t = minN t ∧ minE t = minE t ∧ 0 = 0 ∧ useN t k = useN x1 k ∧ useE t k = useE x1 k ∧ allP (fun (i : Nat) => t.key i = t.key i) 0 32 (t.nx = t.nx ∧ t.n = t.n ∧ x7 ∧ allP (fun (i : Nat) => t.key i = t.key i) 0 32 (t.nx = t.nx ∧ 0 = 0 ∧ 0 = 0 ∧ 0 = 0 ∧ t.n = t.n ∧ t.n = t.n ∧ x9 ∧ x6))) ∧ ∀ (x : Unit), t.n.succ.le 3518437208781 → 0 + t.n ≤ t.n ∧ x5 ∧ x3 ∧ x3 ∧ @Bool.rec (fun _ => Prop) (z = Bool.false ∧ True) (0 + t.n ≤ t.n ∧ x5 ∧ x3 ∧ List.length x8 = List.length x8 ∧ List.length x8 = List.length x8 ∧ @Bool.rec (fun _ => Prop) (x3 ∧ @Bool.rec (fun _ => Prop) (((mkTab ((fun (x : List (BitVec 8)) => t.key 0 :: x) ((fun (x : List (BitVec 8)) => t.key 1 :: x) ((fun (x : List (BitVec 8)) => t.key 2 :: x) ((fun (x : List (BitVec 8)) => t.key 3 :: x) ((fun (x : List (BitVec 8)) => t.key 4 :: x) ((fun (x : List (BitVec 8)) => t.key 5 :: x) ((fun (x : List (BitVec 8)) => t.key 6 :: x) ((fun (x : List (BitVec 8)) => t.key 7 :: x) ((fun (x : List (BitVec 8)) => t.key 8 :: x) ((fun (x : List (BitVec 8)) => t.key 9 :: x) ((fun (x : List (BitVec 8)) => t.key 10 :: x) ((fun (x : List (BitVec 8)) => t.key 11 :: x) ((fun (x : List (BitVec 8)) => t.key 12 :: x) ((fun (x : List (BitVec 8)) => t.key 13 :: x) ((fun (x : List (BitVec 8)) => t.key 14 :: x) ((fun (x : List (BitVec 8)) => t.key 15 :: x) ((fun (x : List (BitVec 8)) => t.key 16 :: x) ((fun (x : List (BitVec 8)) => t.key 17 :: x) ((fun (x : List (BitVec 8)) => t.key 18 :: x) ((fun (x : List (BitVec 8)) => t.key 19 :: x) ((fun (x : List (BitVec 8)) => t.key 20 :: x) ((fun (x : List (BitVec 8)) => t.key 21 :: x) ((fun (x : List (BitVec 8)) => t.key 22 :: x) ((fun (x : List (BitVec 8)) => t.key 23 :: x) ((fun (x : List (BitVec 8)) => t.key 24 :: x) ((fun (x : List (BitVec 8)) => t.key 25 :: x) ((fun (x : List (BitVec 8)) => t.key 26 :: x) ((fun (x : List (BitVec 8)) => t.key 27 :: x) ((fun (x : List (BitVec 8)) => t.key 28 :: x) ((fun (x : List (BitVec 8)) => t.key 29 :: x) ((fun (x : List (BitVec 8)) => t.key 30 :: x) ((fun (x : List (BitVec 8)) => t.key 31 :: x) [])))))))))))))))))))))))))))))))) t.nx t.n (rowE t)).ok ∧ x3 ∧ ∃ (y : Unit), (t.n < 3518437208781 ∧ t.ok) ∧ 0 = 0 ∧ 0 = 0 ∧ minN t = minN t ∧ minE t = minE t ∧ 0 = 0 ∧ useN t k = useN t k ∧ useE t k = useE t k ∧ 0 = 0 ∧ useN t k = useN x1 k ∧ useE t k = useE x1 k ∧ allP (fun (i : Nat) => t.key i = t.key i) 0 32 (t.nx = t.nx ∧ t.n = t.n ∧ x7 ∧ allP (fun (i : Nat) => t.key i = t.key i) 0 32 (t.nx = t.nx ∧ 0 = 0 ∧ 0 = 0 ∧ 0 = 0 ∧ t.n = t.n ∧ t.n = t.n ∧ x9 ∧ allP (fun (i : Nat) => (useT t k).key i = (useT t k).key i) 0 32 ((useT t k).nx = (useT t k).nx ∧ 0 = 0 ∧ 0 = 0 ∧ 0 = 0 ∧ (useT t k).n = (useT t k).n ∧ (useT t k).n = (useT t k).n ∧ (∀ (y : Nat), let x1 := AV.int IntKind.i64 ((useT t k).I y) :: List.map (fun (i : Nat) => AV.u8 ((useT t k).P y i)) (List.range 32); y < (useT t k).n → datas Bool.false x1 = Bool.true ∧ x1 = x1) ∧ x6)))) ∧ ∀ (x : Unit), t.n < 3518437208781 ∧ t.ok → @Bool.rec (fun _ => Prop) (z = Bool.false ∧ True) (@Bool.rec (fun _ => Prop) x2 (@Bool.rec (fun _ => Prop) x2 (z = Bool.false ∧ True) !decide (minN t = t.nx)) (decide (minE t = (0 : Int)))) !!decide (decide (minE t = (5 : Int)) = decide (t.nx = (2147483647 : Int)))) (@Bool.rec (fun _ => Prop) (z = Bool.false ∧ True) (@Bool.rec (fun _ => Prop) (z = Bool.false ∧ True) (0 + t.n ≤ t.n ∧ x5 ∧ x3 ∧ z = decide ((↑(knN x1) : Int) = (0 : Int)) ∧ True) (decide (useE t k = (1 : Int)))) (decide (minE t = (1 : Int)))) !x1.okB) (z = Bool.false ∧ True) !decide (x8 = x8)) !!decide (x1.okB = x1.okB) : Prop) := by kernel_rfl
end Go.Sym

namespace Go.Spec
open Go.Sym
theorem Tab.ok_of {s t : Tab} (h1 : s.nx = t.nx) (h2 : s.n = t.n) (h3 : ∀ j, s.I j = t.I j) (h : t.ok) : s.ok :=
  ⟨by rw [h1]; exact h.h0, by rw [h1]; exact h.h1, by rw [h2]; exact h.h2, fun j hj => by
    have ha : s.ah j = t.ah j := by cases j with | zero => rfl | succ j => exact h3 j
    rw [ha, h3, h1]
    exact h.h3 j (by rw [← h2]; exact hj)⟩
theorem useE_ok {t : Tab} (h : t.ok) (k : By) : useE t k ≠ 1 := by
  unfold useE
  rw [Tab.okB_iff.2 h]
  rw [if_neg (by decide)]
  split
  · decide
  · split <;> decide
theorem useT_n {t : Tab} (k : By) (h : useE t k = 0) : (useT t k).n ≤ 8 := by
  have hok : t.ok := by
    unfold useE at h
    by_cases c : t.okB = false
    · rw [if_pos c] at h; cases h
    · exact Tab.okB_iff.1 (by simpa using c)
  have := hok.h2
  unfold useT
  rw [if_pos h]
  show t.n - 1 ≤ 8
  omega
end Go.Spec
namespace Go.Sym
open Go.Proofs Go.Spec
set_option linter.unusedVariables false
set_option maxRecDepth 100000 in
theorem bt5 (t : Tab) (u : NL) (k : By) (id : Int) (hn : t.n < 3518437208781) (hk : k.length < 4611686018427387904) : Must (bodyP Tryd.prog T14 gl0 [] [(20002, lr1 t k id), (20003, lr2 t k id), (20004, lr3 t k id), (20009, lr8 t k)] 3000 Tryd.f5 0 [tabA true t u, .rb true k .unk, .int .i64 id] [] (retQ Tryd.prog Tryd.f5 0 ⟨[], .bool true, [], []⟩)) := by
  constructor
  rw [vt5]
  intro x1 x2 x3 x4 x5 x6 x7 x8 x9 x10
  have rE : useE x1 k = useE t k := re_useE t k
  have rN : useN x1 k = useN t k := re_useN t k
  have rM : minE x1 = minE t := re_minE t
  have rB : x1.okB = t.okB := t.re_okB
  have rK : knN x1 = knN t := re_knN t
  have h3 : x3 := rows_rg t
  have h5 : x5 := fun y _ => ⟨rfl, by simp⟩
  have h7 : x7 := tk_rows true t
  have h9 : x9 := fun y _ => ⟨rfl, rfl⟩
  have h4 : x4 := allP_of 32 0 (fun _ _ _ => rfl) ⟨rfl, rfl, h7, allP_of 32 0 (fun _ _ _ => rfl) ⟨rfl, rfl, rfl, rfl, rfl, rfl, h9, trivial⟩⟩
  have h6 : x6 := allP_of 32 0 (fun i _ hi => (re_useT_key t k (by omega)).symm) ⟨(re_useT_nx t k).symm, rfl, rfl, rfl, (re_useT_n t k).symm, (re_useT_n t k).symm, fun y _ => ⟨rfl, re_row (useT t.re k) (useT t k) y (re_useT_I t k y) (fun i hi => re_useT_P t k y hi)⟩, trivial⟩
  have hs : tSameB (useT t k).re.re (useT t k).re = true := tSameB_yes (re_same _)
  have hrow : ∀ R : Tab, ∀ y, y < R.n → datas Bool.false (AV.int IntKind.i64 (R.I y) :: List.map (fun (i : Nat) => AV.u8 (R.P y i)) (List.range 32)) = Bool.true ∧ (AV.int IntKind.i64 (R.I y) :: List.map (fun (i : Nat) => AV.u8 (R.P y i)) (List.range 32)).length ≤ 33 := fun R y _ => ⟨rfl, by simp⟩
  have h2 : t.ok → (Bool.true = decide ((↑(knN x1) : Int) = (↑t.n : Int))) := fun hok => by
    rw [rK]; unfold knN; rw [if_pos (Tab.okB_iff.2 hok)]; exact (decide_eq_true rfl).symm
  refine ⟨⟨hn, h3, (), hn, rfl, rfl, rfl, rfl, allP_of 32 0 (fun _ _ _ => rfl) ⟨rfl, rfl, h7, allP_of 32 0 (fun i _ hi => (rg_get _ (by omega)).symm) ⟨rfl, rfl, rfl, rfl, rfl, rfl, fun y _ => ⟨rfl, re_row t.re t y rfl (fun i hi => rg_get _ hi)⟩, trivial⟩⟩⟩, fun _ _ => ⟨brec (fun d => ?_) (fun d => ?_), fun _ _ => ⟨⟨by omega, h5, hk, h3, (), hn, rfl, rfl, rfl, rfl, rfl, rfl, rfl, rN.symm, rE.symm, allP_of 32 0 (fun _ _ _ => rfl) ⟨rfl, rfl, h7, allP_of 32 0 (fun _ _ _ => rfl) ⟨rfl, rfl, rfl, rfl, rfl, rfl, h9, h6⟩⟩⟩, fun _ _ => ⟨by omega, h5, h3, h3, ?_⟩⟩⟩⟩
  · have d := dyes d
    rw [rM] at d
    have h10 : x10 := ⟨by omega, h5, h3, (), hn, rfl, rfl, rfl, rfl, if_pos d, d, h4⟩
    exact brec (fun _ => h10) (fun _ => h10)
  · have d := dno d
    rw [rM] at d
    exact ⟨by omega, h5, h3, (), hn, rfl, rfl, rfl, rfl, if_neg d, rM.symm, h4⟩
  refine brec (fun _ => ?_) (fun d => by simp at d)
  refine ⟨by omega, h5, h3, rfl, rfl, brec (fun d => by simp at d) (fun _ => ?_)⟩
  refine ⟨h3, brec (fun d => ?_) (fun d => ?_)⟩
  · have d : t.okB = false := by rw [← rB]; simpa using d
    have e1 : minE t = 1 := if_pos d
    have e2 : useE t k = 1 := if_pos d
    have e3 : knN t = 0 := if_neg (by rw [d]; decide)
    refine brec (fun _ => ?_) (fun d => absurd e1 (dno d))
    refine brec (fun _ => ?_) (fun d => absurd e2 (dno d))
    refine ⟨by omega, h5, h3, ?_, trivial⟩
    rw [rK, e3]; rfl
  have d : t.okB = true := by rw [← rB]; simpa using d
  have hok := Tab.okB_iff.1 d
  refine ⟨⟨Tab.ok_of (t := t) rfl rfl (fun _ => rfl) hok, h3, (), ⟨hn, hok⟩, rfl, rfl, rfl, rfl, rfl, rfl, rfl, rfl, rN.symm, rE.symm, allP_of 32 0 (fun _ _ _ => rfl) ⟨rfl, rfl, h7, allP_of 32 0 (fun _ _ _ => rfl) ⟨rfl, rfl, rfl, rfl, rfl, rfl, h9, allP_of 32 0 (fun _ _ _ => rfl) ⟨rfl, rfl, rfl, rfl, rfl, rfl, fun y _ => ⟨rfl, rfl⟩, h6⟩⟩⟩⟩, fun _ _ => ?_⟩
  have hd : ¬ t.okB = false := by rw [d]; decide
  have hx2 : x2 := by
    refine brec (fun _ => ?_) (fun d => by simp at d)
    refine brec (fun d0 => ?_) (fun d0 => ?_)
    · have d0 : useE t k = 0 := by simpa using d0
      have h8 := useT_n k d0
      refine ⟨by omega, hrow _, by omega, rows_rg _, by omega, fun y _ => ⟨rfl, by simp [rg_map]⟩, by omega, hrow _, by omega, ⟨?_, trivial⟩, ⟨rows_rg _, trivial⟩, ?_⟩
      · funext j; rfl
      refine brec (fun _ => ?_) (fun d1 => ?_)
      · refine brec (fun _ => ⟨by omega, h5, h3, h2 hok, trivial⟩) (fun d => by simp at d)
      · exact absurd (hs.symm.trans d1) (by decide)
    · exact ⟨by omega, h5, h3, h2 hok, trivial⟩
  have e5 : decide (minE t = 5) = decide (t.nx = 2147483647) := by
    by_cases c : t.nx = 2147483647
    · have : minE t = 5 := (if_neg hd).trans (if_pos c)
      rw [decide_eq_true this, decide_eq_true c]
    · have : minE t = 0 := (if_neg hd).trans (if_neg c)
      rw [this, decide_eq_false c]; rfl
  refine brec (fun _ => ?_) (fun d => by rw [e5] at d; simp at d)
  refine brec (fun d1 => ?_) (fun d1 => hx2)
  have d1 := dyes d1
  refine brec (fun d3 => ?_) (fun _ => hx2)
  have : minN t = t.nx := if_pos d1
  rw [this] at d3
  simp at d3
end Go.Sym

namespace Go.Sym
open Go.Proofs Go.Spec
set_option linter.unusedVariables false
set_option maxRecDepth 100000 in
theorem vt15f (t R : Tab) (a : Nat) (i0 : Int) (u : NL) (k : By) (id e : Int) : bodyP Tryd.prog T2 gl0 [] [(20004, ls15k false t k i0), (10, ls15 false t a i0), (10013, ls15c false t a i0)] 3000 Tryd.f15 0 [tabA false t u, .rb false k .unk] [] (retQ Tryd.prog Tryd.f15 0 ⟨[], .tup [tabR R, .int .i64 id, .int .i64 e], [], [blkR R]⟩) = (
let x1 := (∀ (y : Nat), y < R.n → outs Bool.true (AV.int IntKind.i64 (R.I y) :: List.map (fun (i : Nat) => AV.u8 (R.P y i)) (List.range 32)) = Bool.true) ∧ allP (fun (i : Nat) => R.key i = BitVec.ofNat 8 0) 0 32 (R.nx = (0 : Int) ∧ R.n = 0 ∧ id = (0 : Int) ∧ e = (13 : Int) ∧ R.n = 0 ∧ True); let x2 := ∀ (y : Nat), y < t.n → datas Bool.false (AV.int IntKind.i64 (t.I y) :: List.map (fun (i : Nat) => AV.u8 (t.P y i)) (List.range 32)) = Bool.true ∧ t.I y = t.I y ∧ allP (fun (i : Nat) => t.P y i = t.P y i) 0 32 True; let x3 := fun (i : Nat) => t.key i = t.key i; let x4 := fun (i : Nat) => BitVec.ofNat 8 0 = BitVec.ofNat 8 0; @Bool.rec (fun _ => Prop) x1 (0 < List.length k ∧ @Bool.rec (fun _ => Prop) ((0 < List.length k ∧ 1 < List.length k ∧ 2 < List.length k ∧ 3 < List.length k ∧ ∃ (y : Unit), True ∧ k = k ∧ 0 = 0 ∧ 0 = 0 ∧ i0 = IntKind.i64.wrap (IntKind.i64.wrap (IntKind.i64.wrap (IntKind.i64.wrap ((↑(List.getD k 0 (0 : BitVec 8)).toNat : Int) * Int.ofNat 16777216) + IntKind.i64.wrap ((↑(List.getD k 1 (0 : BitVec 8)).toNat : Int) * Int.ofNat 65536)) + IntKind.i64.wrap ((↑(List.getD k 2 (0 : BitVec 8)).toNat : Int) * Int.ofNat 256)) + (↑(List.getD k 3 (0 : BitVec 8)).toNat : Int)) ∧ allP x3 0 32 (t.nx = t.nx ∧ t.n = t.n ∧ x2 ∧ allP x4 0 32 (Int.ofNat 0 = (0 : Int) ∧ True))) ∧ ∀ (x : Unit), True → List.length (tkB (fun (i : Nat) => (rg 32 t.key).getD i (0 : BitVec 8)) i0) = List.length (tkB (fun (i : Nat) => (rg 32 t.key).getD i (0 : BitVec 8)) i0) ∧ @Bool.rec (fun _ => Prop) x1 (@Bool.rec (fun _ => Prop) ((∃ (x : Nat), (x ≤ t.n ∧ t.n < 3518437208781) ∧ 0 = 0 ∧ 0 = 0 ∧ i0 = i0 ∧ 0 = 0 ∧ decide (a < x) = Bool.false ∧ (↑x : Int) = (0 : Int) ∧ allP x3 0 32 (t.nx = t.nx ∧ t.n = t.n ∧ x2 ∧ allP x4 0 32 (Int.ofNat 0 = Int.ofNat 0 ∧ allP x3 0 32 (t.nx = t.nx ∧ cntA a x = 0 ∧ cntA a x = 0 ∧ True)))) ∧ ∀ (x : Nat), x ≤ t.n ∧ t.n < 3518437208781 → @Bool.rec (fun _ => Prop) (@Bool.rec (fun _ => Prop) ((∀ (y : Nat), y < R.n → outs Bool.true (AV.int IntKind.i64 (R.I y) :: List.map (fun (i : Nat) => AV.u8 (R.P y i)) (List.range 32)) = Bool.true) ∧ allP (fun (i : Nat) => R.key i = t.key i) 0 32 (R.nx = t.nx ∧ 0 = 0 ∧ 0 = 0 ∧ 0 = 0 ∧ R.n = cntA a x ∧ id = i0 ∧ e = (0 : Int) ∧ R.n = cntA a x ∧ (∀ (y : Nat), y < R.n → datas Bool.false (AV.int IntKind.i64 (R.I y) :: List.map (fun (i : Nat) => AV.u8 (R.P y i)) (List.range 32)) = Bool.true ∧ AV.int IntKind.i64 ((t.del a).I y) :: List.map (fun (i : Nat) => AV.u8 ((t.del a).P y i)) (List.range 32) = AV.int IntKind.i64 (R.I y) :: List.map (fun (i : Nat) => AV.u8 (R.P y i)) (List.range 32)) ∧ True)) ((∀ (y : Nat), y < R.n → outs Bool.true (AV.int IntKind.i64 (R.I y) :: List.map (fun (i : Nat) => AV.u8 (R.P y i)) (List.range 32)) = Bool.true) ∧ allP (fun (i : Nat) => R.key i = BitVec.ofNat 8 0) 0 32 (R.nx = (0 : Int) ∧ R.n = 0 ∧ id = (0 : Int) ∧ e = (11 : Int) ∧ R.n = 0 ∧ True)) !decide (a < x)) ((0 : Int) ≤ (↑x : Int) ∧ (↑x : Int).toNat < t.n ∧ @Bool.rec (fun _ => Prop) ((0 : Int) ≤ (↑x : Int) ∧ (↑x : Int).toNat < t.n ∧ cntA a x = cntA a x ∧ roomFor (cntA a x) 1 40 ∧ ∃ (y : Nat), t.n - y < t.n - x ∧ (y ≤ t.n ∧ t.n < 3518437208781) ∧ 0 = 0 ∧ 0 = 0 ∧ i0 = i0 ∧ 0 = 0 ∧ decide (a < y) = decide (a < x) ∧ (↑y : Int) = IntKind.i64.wrap ((↑x : Int) + (1 : Int)) ∧ allP x3 0 32 (t.nx = t.nx ∧ t.n = t.n ∧ x2 ∧ allP x4 0 32 (Int.ofNat 0 = Int.ofNat 0 ∧ allP x3 0 32 (t.nx = t.nx ∧ 0 = 0 ∧ 0 = 0 ∧ 0 = 0 ∧ cntA a y = cntA a x + 1 ∧ cntA a y = cntA a x + 1 ∧ (∀ (y_1 : Nat), y_1 < cntA a y → datas Bool.false (AV.int IntKind.i64 ((t.del a).I y_1) :: List.map (fun (i : Nat) => AV.u8 ((t.del a).P y_1 i)) (List.range 32)) = Bool.true ∧ glue (fun (j : Nat) => AV.int IntKind.i64 ((t.del a).I j) :: List.map (fun (i : Nat) => AV.u8 ((t.del a).P j i)) (List.range 32)) (cntA a x) (cut 33 (List.take 33 (List.drop 0 (AV.int IntKind.i64 (t.I (↑x : Int).toNat) :: rg 32 fun (i : Nat) => AV.u8 (t.P (↑x : Int).toNat i))))) y_1 = AV.int IntKind.i64 ((t.del a).I y_1) :: List.map (fun (i : Nat) => AV.u8 ((t.del a).P y_1 i)) (List.range 32)) ∧ True)))) (∃ (y : Nat), t.n - y < t.n - x ∧ (y ≤ t.n ∧ t.n < 3518437208781) ∧ 0 = 0 ∧ 0 = 0 ∧ i0 = i0 ∧ 0 = 0 ∧ decide (a < y) = Bool.true ∧ (↑y : Int) = IntKind.i64.wrap ((↑x : Int) + (1 : Int)) ∧ allP x3 0 32 (t.nx = t.nx ∧ t.n = t.n ∧ x2 ∧ allP x4 0 32 (Int.ofNat 0 = Int.ofNat 0 ∧ allP x3 0 32 (t.nx = t.nx ∧ 0 = 0 ∧ 0 = 0 ∧ 0 = 0 ∧ cntA a y = cntA a x ∧ cntA a y = cntA a x ∧ (∀ (y_1 : Nat), let x1 := AV.int IntKind.i64 ((t.del a).I y_1) :: List.map (fun (i : Nat) => AV.u8 ((t.del a).P y_1 i)) (List.range 32); y_1 < cntA a y → datas Bool.false x1 = Bool.true ∧ x1 = x1) ∧ True)))) (decide (t.I (↑x : Int).toNat = i0))) (decide ((↑x : Int) < (↑t.n : Int)))) x1 (decide (t.nx ≤ i0))) !!decide (tkB (fun (i : Nat) => (rg 32 t.key).getD i (0 : BitVec 8)) i0 = k)) x1 (decide (127 < (List.getD k 0 (0 : BitVec 8)).toNat))) !!decide ((↑(List.length k) : Int) = (16 : Int)) : Prop) := by kernel_rfl
end Go.Sym

namespace Go.Sym
open Go.Proofs Go.Spec
set_option linter.unusedVariables false
set_option maxRecDepth 100000 in
theorem bt15f (t : Tab) (u : NL) (k : By) (hok : t.ok) : Must (bodyP Tryd.prog T2 gl0 [] [(20004, ls15k false t k (beN k 4)), (10, ls15 false t (useA t k) (beN k 4)), (10013, ls15c false t (useA t k) (beN k 4))] 3000 Tryd.f15 0 [tabA false t u, .rb false k .unk] [] (retQ Tryd.prog Tryd.f15 0 ⟨[], .tup [tabR (useT t k), .int .i64 (useN t k), .int .i64 (useE t k)], [], [blkR (useT t k)]⟩)) := by
  constructor
  rw [vt15f, tkB_rg, id4]
  set_option simprocs false in dsimp only
  have hr := tk_rows false t
  have hB := Tab.okB_iff.2 hok
  have h0' : ¬ t.okB = false := by rw [hB]; decide
  have hn8 := hok.h2
  have hx3 : ∀ R : Tab, ∀ (y : Nat), y < R.n → outs Bool.true (AV.int IntKind.i64 (R.I y) :: List.map (fun (i : Nat) => AV.u8 (R.P y i)) (List.range 32)) = Bool.true := fun _ _ _ => rfl
  have bad : ∀ e : Int, useE t k = e → e ≠ 0 → (∀ (y : Nat), y < (useT t k).n → outs Bool.true (AV.int IntKind.i64 ((useT t k).I y) :: List.map (fun (i : Nat) => AV.u8 ((useT t k).P y i)) (List.range 32)) = Bool.true) ∧ allP (fun (i : Nat) => (useT t k).key i = BitVec.ofNat 8 0) 0 32 ((useT t k).nx = (0 : Int) ∧ (useT t k).n = 0 ∧ useN t k = (0 : Int) ∧ useE t k = e ∧ (useT t k).n = 0 ∧ True) := by
    intro e he hz
    have h1 : useT t k = tz := if_neg (by rw [he]; exact hz)
    have h2 : useN t k = 0 := if_neg (by rw [he]; exact hz)
    rw [h1]
    exact ⟨hx3 _, allP_of 32 0 (fun _ _ _ => rfl) ⟨rfl, rfl, h2, he, rfl, trivial⟩⟩
  have b13 : (idZ t.key k = false ∨ t.nx ≤ idI k) → _ := fun c => bad 13 ((if_neg h0').trans (if_pos c)) (by decide)
  refine brec (fun h0 => ?_) (fun h0 => ?_)
  rotate_left
  · have h0 := dno (keep_f h0)
    have hl : ¬ k.length = 16 := fun e => h0 (by rw [e]; rfl)
    exact b13 (Or.inl (if_neg hl))
  have h0 := dyes (keep_t h0)
  have hl : k.length = 16 := by omega
  have e1 : idI k = beN k 4 := if_pos hl
  have e2 : idZ t.key k = sameB k (tkB t.key (beN k 4)) := if_pos hl
  refine ⟨by omega, brec (fun h1 => ?_) (fun h1 => ?_)⟩
  · have h1 := dyes h1
    refine b13 (Or.inl ?_)
    have hb : beN k 4 = ((((0 : Int) * 256 + (k.getD 0 0).toNat) * 256 + (k.getD 1 0).toNat) * 256 + (k.getD 2 0).toNat) * 256 + (k.getD 3 0).toNat := rfl
    have hg : 2147483647 < beN k 4 := by
      rw [hb]
      omega
    have ht : tkB t.key (beN k 4) = [] := if_pos (Or.inr hg)
    rw [e2, ht, sameB_eq]
    have : k ≠ [] := fun c => by rw [c] at hl; cases hl
    exact decide_eq_false this
  refine ⟨⟨by omega, by omega, by omega, by omega, (), trivial, rfl, rfl, rfl, rfl, allP_of 32 0 (fun _ _ _ => rfl) ⟨rfl, rfl, hr, allP_of 32 0 (fun _ _ _ => rfl) ⟨rfl, trivial⟩⟩⟩, fun _ _ => ⟨rfl, ?_⟩⟩
  refine brec (fun h2 => ?_) (fun h2 => ?_)
  rotate_left
  · have h2 := dno (keep_f h2)
    refine b13 (Or.inl ?_)
    rw [e2, sameB_eq]
    exact decide_eq_false (fun c => h2 c.symm)
  have h2 := dyes (keep_t h2)
  refine brec (fun h3 => ?_) (fun h3 => ?_)
  · have h3 := dyes h3
    exact b13 (Or.inr (by rw [e1]; exact h3))
  have h3 := dno h3
  have h12 : ¬ (idZ t.key k = false ∨ t.nx ≤ idI k) := by
    intro c
    cases c with
    | inl c => rw [e2, h2, sameB_self] at c; cases c
    | inr c => rw [e1] at c; exact h3 c
  refine ⟨⟨0, ⟨Nat.zero_le _, by omega⟩, rfl, rfl, rfl, rfl, rfl, rfl, allP_of 32 0 (fun _ _ _ => rfl) ⟨rfl, rfl, hr, allP_of 32 0 (fun _ _ _ => rfl) ⟨rfl, allP_of 32 0 (fun _ _ _ => rfl) ⟨rfl, rfl, rfl, trivial⟩⟩⟩⟩, fun x hx => ?_⟩
  obtain ⟨hx, -⟩ := hx
  refine brec (fun h4 => ?_) (fun h4 => ?_)
  · have h4 := dyes h4
    have h4 : x < t.n := by omega
    rw [Int.toNat_natCast]
    refine ⟨Int.natCast_nonneg _, h4, brec (fun h5 => ?_) (fun h5 => ?_)⟩
    · have h5 := dyes h5
      have ha : x = useA t k := (useA_iff hok k h4).1 (h5.trans e1.symm)
      have hc : cntA (useA t k) (x + 1) = cntA (useA t k) x := by
        unfold cntA
        rw [if_pos (by omega), if_neg (by omega)]
        omega
      exact ⟨x + 1, by omega, ⟨by omega, by omega⟩, rfl, rfl, rfl, rfl, decide_eq_true (by omega), (i_succ h4 hn8).symm, allP_of 32 0 (fun _ _ _ => rfl) ⟨rfl, rfl, hr, allP_of 32 0 (fun _ _ _ => rfl) ⟨rfl, allP_of 32 0 (fun _ _ _ => rfl) ⟨rfl, rfl, rfl, rfl, hc, hc, fun _ _ => ⟨rfl, rfl⟩, trivial⟩⟩⟩⟩
    · have h5 := dno h5
      have ha : x ≠ useA t k := fun c => h5 (((useA_iff hok k h4).2 c).trans e1)
      have hc : cntA (useA t k) (x + 1) = cntA (useA t k) x + 1 := by
        unfold cntA
        by_cases d : useA t k < x
        · rw [if_pos (by omega), if_pos d]; omega
        · rw [if_neg (by omega), if_neg d]
      have hd : decide (useA t k < x + 1) = decide (useA t k < x) := by
        by_cases d : useA t k < x
        · rw [decide_eq_true d, decide_eq_true (by omega)]
        · rw [decide_eq_false d, decide_eq_false (by omega)]
      have hcl : cntA (useA t k) x ≤ x := by unfold cntA; split <;> omega
      exact ⟨Int.natCast_nonneg _, h4, rfl, by unfold roomFor; omega, x + 1, by omega, ⟨by omega, by omega⟩, rfl, rfl, rfl, rfl, hd, (i_succ h4 hn8).symm, allP_of 32 0 (fun _ _ _ => rfl) ⟨rfl, rfl, hr, allP_of 32 0 (fun _ _ _ => rfl) ⟨rfl, allP_of 32 0 (fun _ _ _ => rfl) ⟨rfl, rfl, rfl, rfl, hc, hc, fun y hy => ⟨rfl, row_keep t _ x y ha (by omega)⟩, trivial⟩⟩⟩⟩
  · have h4 := dno h4
    have hx : x = t.n := by omega
    subst hx
    refine brec (fun h5 => ?_) (fun h5 => ?_)
    · have h5 := dno (bnot_t h5)
      have h5 : useI t k < 0 := Classical.not_not.1 (fun c => h5 ((useA_lt k).2 c))
      exact bad 11 ((if_neg h0').trans ((if_neg h12).trans (if_pos h5))) (by decide)
    · have h5 := dyes (bnot_f h5)
      have h6 := (useA_lt k).1 h5
      have he : useE t k = 0 := (if_neg h0').trans ((if_neg h12).trans (if_neg h6))
      have hT : useT t k = t.del (useA t k) := (if_pos he).trans (by unfold useA; rw [if_neg h6])
      have hN : useN t k = beN k 4 := (if_pos he).trans e1
      have hm : (t.del (useA t k)).n = cntA (useA t k) t.n := (if_pos h5).symm
      rw [hT]
      exact ⟨hx3 _, allP_of 32 0 (fun _ _ _ => rfl) ⟨rfl, rfl, rfl, rfl, hm, hN, he, hm, fun _ _ => ⟨rfl, rfl⟩, trivial⟩⟩
noncomputable def g15f (xs : List AV) (bs : List ABlk) : TL := match xs, bs with
  | [.agg cs, .rb false k .unk], [] => asTab false cs fun t nl o => .ok (rUse t k (t.ok :: o))
  | _, _ => .no
noncomputable def sp15f : Spec := ⟨[tabK, .by0], fun _ _ => [], fun _ _ => [], g15f⟩
theorem ct15f : COK Tryd.prog gl0 15 (mkF sp15f) := by
  refine ctrE (fn := Tryd.f15) [] 3000 (by kernel_rfl) (by kernel_rfl) okT2 (by kernel_rfl) (fun args w => by kernel_rfl) fun xs bs r hs ho => ?_
  replace hs : (g15f xs bs).sel = some r := hs
  unfold g15f at hs
  split at hs
  · obtain ⟨t, nl, o, hs, hc⟩ := asTab_sel hs
    simp only [TL.sel, Option.some.injEq] at hs
    subst hs
    obtain ⟨hk, ho⟩ := obsT_cons.1 ho
    rw [hc ho]
    exact ⟨_, bt15f t nl _ hk⟩
  · simp [TL.sel] at hs
/-- Minting that goes well. -/
noncomputable def gMint2 (t : Tab) (c : Nat → BitVec 8) (o : List Prop) : TL := .br (decide (t.n ≤ 7)) (.ok ⟨(minE t = 0) :: o, .tup [tabX (t.snoc c) 0, .int .i64 t.nx, .int .i64 0], [], [blkR (t.snoc c)]⟩) (.ok ⟨(minE t = 0) :: o, .tup [tabX (t.snoc c) 1, .int .i64 t.nx, .int .i64 0], [], [blkR (t.snoc c)]⟩)
noncomputable def g11s (xs : List AV) (bs : List ABlk) : TL := match xs, bs with
  | [.agg cs, .agg ds], [] => asTab false cs fun t nl o => asKey ds fun c => gMint2 t c o
  | _, _ => .no
noncomputable def sp11s : Spec := ⟨[tabK, .a (List.replicate 32 .kp)], fun _ _ => [], fun _ _ => [], g11s⟩
theorem ct11s : COK Tryd.prog gl0 11 (mkF sp11s) := by
  refine ctrE (fn := Tryd.f11) [] 3000 (by kernel_rfl) (by kernel_rfl) okT7 (by kernel_rfl) (fun args w => by kernel_rfl) fun xs bs r hs ho => ?_
  replace hs : (g11s xs bs).sel = some r := hs
  unfold g11s at hs
  split at hs
  · obtain ⟨t, nl, o, hs, hc⟩ := asTab_sel hs
    obtain ⟨c, ec, hs⟩ := asKey_sel hs
    unfold gMint2 at hs
    have h8 : ∀ h : minE t = 0, t.n ≤ 8 := fun h => (minE_ok h).h2
    cases e2 : decide (t.n ≤ 7) <;> rw [e2] at hs <;> simp only [TL.sel] at hs <;> cases hs
    · obtain ⟨h1, ho⟩ := obsT_cons.1 ho
      rw [hc ho, ec]
      have := dno e2
      have := h8 h1
      exact ⟨_, bt11h t nl c h1 (by omega)⟩
    · obtain ⟨h1, ho⟩ := obsT_cons.1 ho
      rw [hc ho, ec]
      exact ⟨_, bt11g t nl c h1 (dyes e2)⟩
  · simp [TL.sel] at hs
/-- What the law of rows calls. -/
noncomputable def T15 : Ctx := ((T14.add 15 (mkF sp15f)).add 11 (mkF sp11s)).exe Tryd.prog gl0 [] 200 Tryd.f9.params.size 9 Tryd.f9
theorem okT15 : COKs Tryd.prog gl0 T15 := ((okT14.add ct15f).add ct11s).exe [] 200 _ (by kernel_rfl) (by kernel_rfl) (by kernel_rfl) (fun args w => by kernel_rfl)
end Go.Sym

namespace Go.Spec
open Go.Sym
/-- A state of the law of rows: the table, the tickets that were used, the row's place. -/
structure TS where
  T : Tab
  U : List Int → Bool
  i : Nat
/-- Without the first one. -/
def Tab.tl (t : Tab) : Tab := ⟨t.key, t.nx, t.n - 1, fun j => t.I (j + 1), fun j => t.P (j + 1)⟩
def Tab.mint (t : Tab) (c : Nat → BitVec 8) : Tab := if t.n ≤ 7 then t.snoc c else (t.snoc c).tl
def onlyU (U : List Int → Bool) (T : Tab) : Prop := ∀ a, U [a] = true → a < T.nx ∧ ∀ j, j < T.n → T.I j ≠ a
structure tI (key : Nat → BitVec 8) (m : Nat) (x : TS) : Prop where
  h1 : x.i ≤ 60
  h2 : x.i ≤ m
  ok : x.T.ok
  nx : x.T.nx ≤ x.i
  key : x.T.key = key
  us : onlyU x.U x.T
/-- The same within a round. -/
structure tJ (key : Nat → BitVec 8) (i0 : Nat) (x : TS) : Prop where
  hi : x.i = i0
  ok : x.T.ok
  nx : x.T.nx ≤ i0 + 1
  key : x.T.key = key
  us : onlyU x.U x.T
end Go.Spec
namespace Go.Sym
open Go.Proofs Go.Spec
set_option linter.unusedVariables false
noncomputable def T16 : Ctx := T15.withSym [121, 122, 126]
theorem okT16 : COKs Tryd.prog gl0 T16 := okT15.withSym _
def gA (A B : Nat → Int) (C : Nat → BitVec 8) (j : Nat) : List AV := [.int .i64 (A j), .int .i64 (B j), .u8 (C j)]
def keyC (key : Nat → BitVec 8) : List AV := (List.range 32).map fun i => .u8 (key i)
def kTs (key : Nat → BitVec 8) (x : TS) : List (Nat × ABlk) := [(101, bxT false x.T), (102, bxT false x.T), (103, ⟨.cells (keyC key), true, 0⟩), (104, ⟨.mp 0 x.U (fun _ => .bool true), true, 0⟩)]
def eTs (m : Nat) (A B : Nat → Int) (C : Nat → BitVec 8) (x : TS) : List (Nat × AV) := [(1, .ros true 3 m (gA A B C) .unk), (2, .ptr 103 0 0 0), (5, .ptr 101 0 0 0), (6, .ptr 102 0 0 0), (7, .mp 104), (8, .int .i64 x.i)]
/-- Within a round, behind the ticket's bytes. -/
def l20 (m : Nat) (A B : Nat → Int) (C : Nat → BitVec 8) (key : Nat → BitVec 8) (x : TS) : LS := ⟨By, fun l => eTs m A B C x ++ [(10, .ptr 105 0 0 0), (15, .slice 107 0 1 l.length .ow .unk)], fun l => kTs key x ++ [(105, bTab x.T 106), (106, blkR x.T), (107, ⟨.bytes l, true, 1⟩)], 1000, fun _ => 0, fun l => l.length = 16, fun _ => []⟩
/-- Behind the two ways. -/
def l10 (i0 m : Nat) (A B : Nat → Int) (C : Nat → BitVec 8) (key : Nat → BitVec 8) : LS := ⟨TS, eTs m A B C, kTs key, 1000, fun _ => 0, fun x => tJ key i0 x, fun _ => []⟩
/-- The tickets that are known, one by one. -/
noncomputable def l34 (i0 m : Nat) (A B : Nat → Int) (C : Nat → BitVec 8) (key : Nat → BitVec 8) : LS := ⟨TS × Nat, fun x => eTs m A B C x.1 ++ [(22, .ros false 33 x.1.T.n (rowQ x.1.T) .unk), (23, .int .i64 x.2)], fun x => kTs key x.1, 1000, fun x => x.1.T.n - x.2, fun x => x.2 ≤ x.1.T.n ∧ tJ key i0 x.1, fun _ => []⟩
/-- The secret of an act. -/
def cI (C : Nat → BitVec 8) (i : Nat) : Nat → BitVec 8 := fun k => if k = 0 then C i else 0
def bWas (x : TS) : List (Nat × ABlk) := [(105, bTab x.T 106), (106, blkR x.T)]
/-- Behind what was minted. -/
def bMin (x : TS) (c : Nat → BitVec 8) (o : Nat) : List (Nat × ABlk) := [(108, ⟨.cells (tabC (x.T.snoc c) (.slice 110 o 33 (minus (x.T.n + 1) o) .un .unk)), true, 0⟩), (110, ⟨.rows 33 (x.T.n + 1) (rowE (x.T.snoc c)), true, 33⟩)]
def offM (x : TS) : Nat := if x.T.n ≤ 7 then 0 else 1
def l11 (m : Nat) (A B : Nat → Int) (C : Nat → BitVec 8) (key : Nat → BitVec 8) (x : TS) : LS := ⟨Nat, fun o => eTs m A B C x ++ [(9, .ptr 109 0 0 0), (10, .ptr 105 0 0 0), (12, .ptr 108 0 0 0), (13, .int .i64 x.T.nx), (14, .int .i64 0)], fun o => kTs key x ++ bWas x ++ bMin x (cI C x.i) o ++ [(109, ⟨.cells (gA A B C x.i), true, 0⟩)], 1000, fun _ => 0, fun o => o = offM x, fun _ => []⟩
def l14 (m : Nat) (A B : Nat → Int) (C : Nat → BitVec 8) (key : Nat → BitVec 8) (x : TS) : LS := ⟨Nat, fun o => eTs m A B C x ++ [(12, .ptr 108 0 0 0)], fun o => [(101, bxT false x.T), (102, ⟨.cells (((List.range 32).map fun i => .u8 (x.T.key i)) ++ [.int .i64 x.T.nx, .slice 111 0 33 (x.T.n + 1) .ow .unk]), true, 0⟩), (103, ⟨.cells (keyC key), true, 0⟩), (104, ⟨.mp 0 x.U (fun _ => .bool true), true, 0⟩), (111, ⟨.rows 33 (x.T.n + 1) (rowE (x.T.snoc (cI C x.i))), true, 33⟩)] ++ bMin x (cI C x.i) o, 1000, fun _ => 0, fun o => o = offM x, fun _ => []⟩
noncomputable def lsT (m : Nat) (A B : Nat → Int) (C : Nat → BitVec 8) (key : Nat → BitVec 8) : LS := ⟨TS, eTs m A B C, kTs key, 1000, fun x => 60 - x.i, fun x => tI key m x, fun x => [(20011, l11 m A B C key x), (20014, l14 m A B C key x), (10011, l10 x.i m A B C key), (10021, l20 m A B C key x), (35, l34 x.i m A B C key)]⟩
end Go.Sym

namespace Go.Sym
open Go.Proofs Go.Spec
set_option linter.unusedVariables false
set_option maxRecDepth 100000 in
theorem vt4 (m : Nat) (A B : Nat → Int) (C : Nat → BitVec 8) (key : Nat → BitVec 8) (nl : NL) (z : Bool) : bodyP Tryd.prog T16 gl0 [] [(5, lsT m A B C key)] 3000 Tryd.f4 0 [aggB 32 key, .ros true 3 m (gA A B C) nl] [] (retQ Tryd.prog Tryd.f4 0 ⟨[], .bool z, [], []⟩) = (
let x1 := ∀ (y : Nat), y < m → datas Bool.true [AV.int IntKind.i64 (A y), AV.int IntKind.i64 (B y), AV.u8 (C y)] = Bool.true ∧ A y = A y ∧ B y = B y ∧ C y = C y ∧ True; let x2 := fun (i : Nat) => (rg 32 key).getD i (0 : BitVec 8); let x3 := fun (i : Nat) => key i = key i; (∃ (x : TS), tI key m x ∧ m = m ∧ x1 ∧ 0 = 0 ∧ 0 = 0 ∧ 0 = 0 ∧ (↑x.i : Int) = (0 : Int) ∧ allP (fun (i : Nat) => x.T.key i = key i) 0 32 (x.T.nx = (0 : Int) ∧ x.T.n = 0 ∧ allP (fun (i : Nat) => x.T.key i = key i) 0 32 (x.T.nx = (0 : Int) ∧ x.T.n = 0 ∧ allP x3 0 32 ((∀ (k : List Int), Bool.false = x.U k) ∧ (∀ (k : List Int), x.U k = Bool.true → Bool.true = Bool.false ∧ True) ∧ True)))) ∧ ∀ (x : TS), let x1_1 := ({ key := fun (i : Nat) => (rg 32 x.T.key).getD i (0 : BitVec 8), nx := x.T.nx, n := x.T.n, I := fun (j : Nat) => x.T.I j, P := fun (j i : Nat) => (rg 32 (x.T.P j)).getD i (0 : BitVec 8) } : Tab); let x2_1 := x.T.snoc fun (k : Nat) => if k = 0 then C x.i else (0 : BitVec 8); let x3_1 := ∀ (y : Nat), y < x.T.n → datas Bool.false (AV.int IntKind.i64 (x.T.I y) :: List.map (fun (i : Nat) => AV.u8 (x.T.P y i)) (List.range 32)) = Bool.true ∧ x.T.I y = x.T.I y ∧ allP (fun (i : Nat) => x.T.P y i = x.T.P y i) 0 32 True; let x4 := (fun (j : Nat) => AV.int IntKind.i64 (x.T.I j) :: List.map (fun (i : Nat) => AV.u8 (x.T.P j i)) (List.range 32)) = fun (j : Nat) => AV.int IntKind.i64 (x.T.I j) :: List.map (fun (i : Nat) => AV.u8 ((rg 32 (x.T.P j)).getD i (0 : BitVec 8))) (List.range 32); let x5 := x1_1.snoc fun (i : Nat) => (C (↑x.i : Int).toNat :: List.replicate 31 (BitVec.ofNat 8 0)).getD i (0 : BitVec 8); let x6 := ∀ (y : Nat), y < x.T.n → datas Bool.false (AV.int IntKind.i64 (x.T.I y) :: List.map (fun (i : Nat) => AV.u8 (x.T.P y i)) (List.range 32)) = Bool.true ∧ (AV.int IntKind.i64 (x.T.I y) :: rg 32 fun (i : Nat) => AV.u8 ((rg 32 (x.T.P y)).getD i (0 : BitVec 8))) = AV.int IntKind.i64 (x.T.I y) :: List.map (fun (i : Nat) => AV.u8 (x.T.P y i)) (List.range 32); let x7 := tkB x2 (IntKind.i64.wrap (↑(BitVec.ofInt 64 (B (↑x.i : Int).toNat) % BitVec.ofInt 64 (IntKind.i64.wrap (x.T.nx + (2 : Int)))).toNat : Int)); let x8 := IntKind.i64.wrap (↑(BitVec.ofInt 64 (B (↑x.i : Int).toNat) % BitVec.ofNat 64 16).toNat : Int); let x9 := x.T.n + 1 = x5.n ∧ (∀ (y : Nat), y < x.T.n + 1 → datas Bool.false (AV.int IntKind.i64 (x2_1.I y) :: List.map (fun (i : Nat) => AV.u8 (x2_1.P y i)) (List.range 32)) = Bool.true ∧ (AV.int IntKind.i64 (x5.I y) :: rg 32 fun (i : Nat) => AV.u8 (x5.P y i)) = AV.int IntKind.i64 (x2_1.I y) :: List.map (fun (i : Nat) => AV.u8 (x2_1.P y i)) (List.range 32)) ∧ A x.i = A (↑x.i : Int).toNat ∧ B x.i = B (↑x.i : Int).toNat ∧ C x.i = C (↑x.i : Int).toNat ∧ True; let x10 := fun (i : Nat) => x.T.key i = x.T.key i; let x11 := ((fun (y : Nat) => AV.int IntKind.i64 (x.T.I y) :: rg 32 fun (i : Nat) => AV.u8 ((rg 32 (x.T.P y)).getD i (0 : BitVec 8))) = fun (j : Nat) => AV.int IntKind.i64 (x.T.I j) :: List.map (fun (i : Nat) => AV.u8 ((rg 32 fun (i : Nat) => (rg 32 (x.T.P j)).getD i (0 : BitVec 8)).getD i (0 : BitVec 8))) (List.range 32)) ∧ True; let x12 := !tSameB ({ key := fun (i : Nat) => (rg 32 fun (i : Nat) => (rg 32 x.T.key).getD i (0 : BitVec 8)).getD i (0 : BitVec 8), nx := x.T.nx, n := x.T.n, I := fun (j : Nat) => x.T.I j, P := fun (j i : Nat) => (rg 32 fun (i : Nat) => (rg 32 (x.T.P j)).getD i (0 : BitVec 8)).getD i (0 : BitVec 8) } : Tab) x1_1; let x13 := ∀ (y : Nat), y < x.T.n → datas Bool.false (AV.int IntKind.i64 (x.T.I y) :: rg 32 fun (i : Nat) => AV.u8 ((rg 32 (x.T.P y)).getD i (0 : BitVec 8))) = Bool.true ∧ (AV.int IntKind.i64 (x.T.I y) :: rg 32 fun (i : Nat) => AV.u8 ((rg 32 (x.T.P y)).getD i (0 : BitVec 8))).length ≤ 33; let x14 := ∀ (y : Nat), y < x.T.n → datas Bool.false (AV.int IntKind.i64 (x.T.I y) :: List.map (fun (i : Nat) => AV.u8 (x.T.P y i)) (List.range 32)) = Bool.true ∧ (AV.int IntKind.i64 (x.T.I y) :: List.map (fun (i : Nat) => AV.u8 (x.T.P y i)) (List.range 32)).length ≤ 33; let x15 := fun (i : Nat) => x.T.key i = (rg 32 x.T.key).getD i (0 : BitVec 8); let x16 := if x.T.n ≤ 7 then 0 else 1; tI key m x → @Bool.rec (fun _ => Prop) (z = Bool.true ∧ True) (@Bool.rec (fun _ => Prop) (z = Bool.true ∧ True) ((0 : Int) ≤ (↑x.i : Int) ∧ (↑x.i : Int).toNat < m ∧ x.T.n < 3518437208781 ∧ x4 ∧ @Bool.rec (fun _ => Prop) ((BitVec.ofInt 64 (IntKind.i64.wrap (x.T.nx + (2 : Int)))).toNat ≠ 0 ∧ @Bool.rec (fun _ => Prop) (∃ (y : List (BitVec 8)), y.length = 16 ∧ m = m ∧ x1 ∧ 0 = 0 ∧ 0 = 0 ∧ 0 = 0 ∧ (↑x.i : Int) = (↑x.i : Int) ∧ 0 = 0 ∧ 0 = 0 ∧ 0 = 0 ∧ 0 = 0 ∧ y.length = List.length x7 ∧ allP x10 0 32 (x.T.nx = x.T.nx ∧ x.T.n = x.T.n ∧ x3_1 ∧ allP x10 0 32 (x.T.nx = x.T.nx ∧ x.T.n = x.T.n ∧ x3_1 ∧ allP x3 0 32 ((∀ (k : List Int), x.U k = x.U k) ∧ (∀ (k : List Int), x.U k = Bool.true → Bool.true = Bool.true ∧ True) ∧ allP x15 0 32 (x.T.nx = x.T.nx ∧ 0 = 0 ∧ 0 = 0 ∧ 0 = 0 ∧ x.T.n = x.T.n ∧ x.T.n = x.T.n ∧ x6 ∧ y = x7 ∧ True))))) ((0 : Int) ≤ x8 ∧ x8.toNat < List.length x7 ∧ x8.toNat < List.length x7 ∧ (0 : Int) ≤ x8 ∧ x8.toNat < List.length x7 ∧ x8.toNat < List.length x7 ∧ ∃ (y : List (BitVec 8)), y.length = 16 ∧ m = m ∧ x1 ∧ 0 = 0 ∧ 0 = 0 ∧ 0 = 0 ∧ (↑x.i : Int) = (↑x.i : Int) ∧ 0 = 0 ∧ 0 = 0 ∧ 0 = 0 ∧ 0 = 0 ∧ y.length = List.length x7 ∧ allP x10 0 32 (x.T.nx = x.T.nx ∧ x.T.n = x.T.n ∧ x3_1 ∧ allP x10 0 32 (x.T.nx = x.T.nx ∧ x.T.n = x.T.n ∧ x3_1 ∧ allP x3 0 32 ((∀ (k : List Int), x.U k = x.U k) ∧ (∀ (k : List Int), x.U k = Bool.true → Bool.true = Bool.true ∧ True) ∧ allP x15 0 32 (x.T.nx = x.T.nx ∧ 0 = 0 ∧ 0 = 0 ∧ 0 = 0 ∧ x.T.n = x.T.n ∧ x.T.n = x.T.n ∧ x6 ∧ y = List.set x7 x8.toNat (List.getD x7 x8.toNat (0 : BitVec 8) ^^^ C (↑x.i : Int).toNat) ∧ True))))) (decide (IntKind.i64.wrap (↑(BitVec.ofInt 64 (A (↑x.i : Int).toNat) % BitVec.ofNat 64 7).toNat : Int) = (6 : Int))) ∧ ∀ (x_1 : List (BitVec 8)), x_1.length = 16 → x_1.length = x_1.length ∧ x_1.length < 4611686018427387904 ∧ x4 ∧ x_1.length = x_1.length ∧ (mkTab ((fun (x_2 : List (BitVec 8)) => x.T.key 0 :: x_2) ((fun (x_2 : List (BitVec 8)) => x.T.key 1 :: x_2) ((fun (x_2 : List (BitVec 8)) => x.T.key 2 :: x_2) ((fun (x_2 : List (BitVec 8)) => x.T.key 3 :: x_2) ((fun (x_2 : List (BitVec 8)) => x.T.key 4 :: x_2) ((fun (x_2 : List (BitVec 8)) => x.T.key 5 :: x_2) ((fun (x_2 : List (BitVec 8)) => x.T.key 6 :: x_2) ((fun (x_2 : List (BitVec 8)) => x.T.key 7 :: x_2) ((fun (x_2 : List (BitVec 8)) => x.T.key 8 :: x_2) ((fun (x_2 : List (BitVec 8)) => x.T.key 9 :: x_2) ((fun (x_2 : List (BitVec 8)) => x.T.key 10 :: x_2) ((fun (x_2 : List (BitVec 8)) => x.T.key 11 :: x_2) ((fun (x_2 : List (BitVec 8)) => x.T.key 12 :: x_2) ((fun (x_2 : List (BitVec 8)) => x.T.key 13 :: x_2) ((fun (x_2 : List (BitVec 8)) => x.T.key 14 :: x_2) ((fun (x_2 : List (BitVec 8)) => x.T.key 15 :: x_2) ((fun (x_2 : List (BitVec 8)) => x.T.key 16 :: x_2) ((fun (x_2 : List (BitVec 8)) => x.T.key 17 :: x_2) ((fun (x_2 : List (BitVec 8)) => x.T.key 18 :: x_2) ((fun (x_2 : List (BitVec 8)) => x.T.key 19 :: x_2) ((fun (x_2 : List (BitVec 8)) => x.T.key 20 :: x_2) ((fun (x_2 : List (BitVec 8)) => x.T.key 21 :: x_2) ((fun (x_2 : List (BitVec 8)) => x.T.key 22 :: x_2) ((fun (x_2 : List (BitVec 8)) => x.T.key 23 :: x_2) ((fun (x_2 : List (BitVec 8)) => x.T.key 24 :: x_2) ((fun (x_2 : List (BitVec 8)) => x.T.key 25 :: x_2) ((fun (x_2 : List (BitVec 8)) => x.T.key 26 :: x_2) ((fun (x_2 : List (BitVec 8)) => x.T.key 27 :: x_2) ((fun (x_2 : List (BitVec 8)) => x.T.key 28 :: x_2) ((fun (x_2 : List (BitVec 8)) => x.T.key 29 :: x_2) ((fun (x_2 : List (BitVec 8)) => x.T.key 30 :: x_2) ((fun (x_2 : List (BitVec 8)) => x.T.key 31 :: x_2) [])))))))))))))))))))))))))))))))) x.T.nx x.T.n (rowE x.T)).ok ∧ x4 ∧ @Bool.rec (fun _ => Prop) (z = Bool.false ∧ True) (x.T.n < 3518437208781 ∧ x4 ∧ 0 + x.T.n ≤ x.T.n ∧ x13 ∧ 0 + x.T.n ≤ x.T.n ∧ x14 ∧ x.T.n < 3518437208781 ∧ x11 ∧ (x4 ∧ True) ∧ @Bool.rec (fun _ => Prop) (@Bool.rec (fun _ => Prop) (∃ (y : TS), let x1_2 := ∀ (y_1 : Nat), y_1 < y.T.n → datas Bool.false (AV.int IntKind.i64 (y.T.I y_1) :: List.map (fun (i : Nat) => AV.u8 (y.T.P y_1 i)) (List.range 32)) = Bool.true ∧ y.T.I y_1 = x.T.I y_1 ∧ allP (fun (i : Nat) => y.T.P y_1 i = x.T.P y_1 i) 0 32 True; tJ key x.i y ∧ m = m ∧ x1 ∧ 0 = 0 ∧ 0 = 0 ∧ 0 = 0 ∧ (↑y.i : Int) = (↑x.i : Int) ∧ allP (fun (i : Nat) => y.T.key i = x.T.key i) 0 32 (y.T.nx = x.T.nx ∧ y.T.n = x.T.n ∧ x1_2 ∧ allP (fun (i : Nat) => y.T.key i = x.T.key i) 0 32 (y.T.nx = x.T.nx ∧ y.T.n = x.T.n ∧ x1_2 ∧ allP x3 0 32 ((∀ (k : List Int), x.U k = y.U k) ∧ (∀ (k : List Int), y.U k = Bool.true → Bool.true = Bool.true ∧ True) ∧ True)))) (@Bool.rec (fun _ => Prop) (z = Bool.false ∧ True) (@Bool.rec (fun _ => Prop) (∃ (y : TS), let x1_2 := ∀ (y_1 : Nat), y_1 < y.T.n → datas Bool.false (AV.int IntKind.i64 (y.T.I y_1) :: List.map (fun (i : Nat) => AV.u8 (y.T.P y_1 i)) (List.range 32)) = Bool.true ∧ y.T.I y_1 = (useT x1_1 x_1).I y_1 ∧ allP (fun (i : Nat) => y.T.P y_1 i = (useT x1_1 x_1).P y_1 i) 0 32 True; tJ key x.i y ∧ m = m ∧ x1 ∧ 0 = 0 ∧ 0 = 0 ∧ 0 = 0 ∧ (↑y.i : Int) = (↑x.i : Int) ∧ allP (fun (i : Nat) => y.T.key i = (useT x1_1 x_1).key i) 0 32 (y.T.nx = (useT x1_1 x_1).nx ∧ y.T.n = (useT x1_1 x_1).n ∧ 0 + y.T.n ≤ (useT x1_1 x_1).n ∧ x1_2 ∧ (∀ (y_1 : Nat), y_1 < y.T.n → (AV.int IntKind.i64 ((useT x1_1 x_1).I y_1) :: rg 32 fun (i : Nat) => AV.u8 ((useT x1_1 x_1).P y_1 i)).length ≤ 33) ∧ allP (fun (i : Nat) => y.T.key i = (useT x1_1 x_1).key i) 0 32 (y.T.nx = (useT x1_1 x_1).nx ∧ y.T.n = (useT x1_1 x_1).n ∧ 0 + y.T.n ≤ (useT x1_1 x_1).n ∧ x1_2 ∧ (∀ (y_1 : Nat), y_1 < y.T.n → (AV.int IntKind.i64 ((useT x1_1 x_1).I y_1) :: rg 32 fun (i : Nat) => AV.u8 ((useT x1_1 x_1).P y_1 i)).length ≤ 33) ∧ allP x3 0 32 ((∀ (k : List Int), (k == [useN x1_1 x_1] || x.U k) = y.U k) ∧ (∀ (k : List Int), y.U k = Bool.true → (Bool.true = bif k == [useN x1_1 x_1] then Bool.true else Bool.true) ∧ True) ∧ True)))) (z = Bool.false ∧ True) (x.U [useN x1_1 x_1])) !!decide (useN x1_1 x_1 = useN x1_1 x_1)) (decide (useE x1_1 x_1 = (0 : Int)))) (z = Bool.false ∧ True) x12) !!decide (useE x1_1 x_1 = useE x1_1 x_1)) (@Bool.rec (fun _ => Prop) (minE x1_1 = (0 : Int) ∧ x4 ∧ ∃ (y : Nat), y = x16 ∧ m = m ∧ x1 ∧ 0 = 0 ∧ 0 = 0 ∧ 0 = 0 ∧ (↑x.i : Int) = (↑x.i : Int) ∧ 0 = 0 ∧ 0 = 0 ∧ 0 = 0 ∧ x.T.nx = x.T.nx ∧ (0 : Int) = (0 : Int) ∧ allP x10 0 32 (x.T.nx = x.T.nx ∧ x.T.n = x.T.n ∧ x3_1 ∧ allP x10 0 32 (x.T.nx = x.T.nx ∧ x.T.n = x.T.n ∧ x3_1 ∧ allP x3 0 32 ((∀ (k : List Int), x.U k = x.U k) ∧ (∀ (k : List Int), x.U k = Bool.true → Bool.true = Bool.true ∧ True) ∧ allP x15 0 32 (x.T.nx = x.T.nx ∧ 0 = 0 ∧ 0 = 0 ∧ 0 = 0 ∧ x.T.n = x.T.n ∧ x.T.n = x.T.n ∧ x6 ∧ allP (fun (i : Nat) => x2_1.key i = x5.key i) 0 32 (x2_1.nx = x5.nx ∧ y = 1 ∧ 0 = 0 ∧ minus (x.T.n + 1) y = x5.n - 1 ∧ x9)))))) (minE x1_1 = (0 : Int) ∧ x4 ∧ ∃ (y : Nat), y = x16 ∧ m = m ∧ x1 ∧ 0 = 0 ∧ 0 = 0 ∧ 0 = 0 ∧ (↑x.i : Int) = (↑x.i : Int) ∧ 0 = 0 ∧ 0 = 0 ∧ 0 = 0 ∧ x.T.nx = x.T.nx ∧ (0 : Int) = (0 : Int) ∧ allP x10 0 32 (x.T.nx = x.T.nx ∧ x.T.n = x.T.n ∧ x3_1 ∧ allP x10 0 32 (x.T.nx = x.T.nx ∧ x.T.n = x.T.n ∧ x3_1 ∧ allP x3 0 32 ((∀ (k : List Int), x.U k = x.U k) ∧ (∀ (k : List Int), x.U k = Bool.true → Bool.true = Bool.true ∧ True) ∧ allP x15 0 32 (x.T.nx = x.T.nx ∧ 0 = 0 ∧ 0 = 0 ∧ 0 = 0 ∧ x.T.n = x.T.n ∧ x.T.n = x.T.n ∧ x6 ∧ allP (fun (i : Nat) => x2_1.key i = x5.key i) 0 32 (x2_1.nx = x5.nx ∧ y = 0 ∧ 0 = 0 ∧ minus (x.T.n + 1) y = x5.n ∧ x9)))))) (decide (x.T.n ≤ 7)) ∧ ∀ (x_1 : Nat), x_1 = x16 → @Bool.rec (fun _ => Prop) (z = Bool.false ∧ True) (x.T.n < 3518437208781 ∧ x4 ∧ 0 + x.T.n ≤ x.T.n ∧ x13 ∧ 0 + x.T.n ≤ x.T.n ∧ x14 ∧ x.T.n < 3518437208781 ∧ x11 ∧ (x4 ∧ True) ∧ @Bool.rec (fun _ => Prop) (((∀ (y : Nat), y < x.T.n → rowOK 33 (AV.int IntKind.i64 (x.T.I y) :: List.map (fun (i : Nat) => AV.u8 (x.T.P y i)) (List.range 32)) = Bool.true) ∧ 0 = 0 ∧ roomFor 0 x.T.n 40 ∧ 0 + x.T.n = x.T.n ∧ roomFor (0 + x.T.n) 1 40 ∧ ∃ (y : Nat), y = x16 ∧ m = m ∧ x1 ∧ 0 = 0 ∧ 0 = 0 ∧ 0 = 0 ∧ (↑x.i : Int) = (↑x.i : Int) ∧ 0 = 0 ∧ allP x10 0 32 (x.T.nx = x.T.nx ∧ x.T.n = x.T.n ∧ x3_1 ∧ allP x10 0 32 (x.T.nx = x.T.nx ∧ 0 = 0 ∧ 0 = 0 ∧ 0 = 0 ∧ x.T.n + 1 = 0 + x.T.n + 1 ∧ allP x3 0 32 ((∀ (k : List Int), x.U k = x.U k) ∧ (∀ (k : List Int), x.U k = Bool.true → Bool.true = Bool.true ∧ True) ∧ x.T.n + 1 = x.T.n + 1 ∧ (∀ (y : Nat), y < x.T.n + 1 → datas Bool.false (AV.int IntKind.i64 (x2_1.I y) :: List.map (fun (i : Nat) => AV.u8 (x2_1.P y i)) (List.range 32)) = Bool.true ∧ glue (fun (j : Nat) => AV.int IntKind.i64 (x.T.I j) :: List.map (fun (i : Nat) => AV.u8 (x.T.P j i)) (List.range 32)) x.T.n (cut 33 (List.take 33 (List.drop 0 (AV.int IntKind.i64 x.T.nx :: AV.u8 (C x.i) :: List.replicate 31 (AV.u8 (BitVec.ofNat 8 0)))))) y = AV.int IntKind.i64 (x2_1.I y) :: List.map (fun (i : Nat) => AV.u8 (x2_1.P y i)) (List.range 32)) ∧ allP (fun (i : Nat) => x2_1.key i = x2_1.key i) 0 32 (x2_1.nx = x2_1.nx ∧ y = x_1 ∧ 0 = 0 ∧ minus (x.T.n + 1) y = minus (x.T.n + 1) x_1 ∧ x.T.n + 1 = x.T.n + 1 ∧ (∀ (y : Nat), let x1 := AV.int IntKind.i64 (x2_1.I y) :: List.map (fun (i : Nat) => AV.u8 (x2_1.P y i)) (List.range 32); y < x.T.n + 1 → datas Bool.false x1 = Bool.true ∧ x1 = x1) ∧ True))))) ∧ ∀ (x_2 : Nat), x_2 = x16 → @Bool.rec (fun _ => Prop) (∃ (y : TS), tJ key x.i y ∧ m = m ∧ x1 ∧ 0 = 0 ∧ 0 = 0 ∧ 0 = 0 ∧ (↑y.i : Int) = (↑x.i : Int) ∧ allP (fun (i : Nat) => y.T.key i = x2_1.key i) 0 32 (y.T.nx = x2_1.nx ∧ y.T.n = minus (x.T.n + 1) x_2 ∧ x_2 + y.T.n ≤ x.T.n + 1 ∧ (∀ (y_1 : Nat), y_1 < y.T.n → datas Bool.false (AV.int IntKind.i64 (y.T.I y_1) :: List.map (fun (i : Nat) => AV.u8 (y.T.P y_1 i)) (List.range 32)) = Bool.true ∧ y.T.I y_1 = x2_1.I (plus x_2 y_1) ∧ allP (fun (i : Nat) => y.T.P y_1 i = x2_1.P (plus x_2 y_1) i) 0 32 True) ∧ (∀ (y_1 : Nat), y_1 < y.T.n → (AV.int IntKind.i64 (x2_1.I (plus x_2 y_1)) :: List.map (fun (i : Nat) => AV.u8 (x2_1.P (plus x_2 y_1) i)) (List.range 32)).length ≤ 33) ∧ allP (fun (i : Nat) => y.T.key i = x.T.key i) 0 32 (y.T.nx = IntKind.i64.wrap (x.T.nx + (1 : Int)) ∧ y.T.n = x.T.n + 1 ∧ 0 + y.T.n ≤ x.T.n + 1 ∧ (∀ (y_1 : Nat), y_1 < y.T.n → datas Bool.false (AV.int IntKind.i64 (y.T.I y_1) :: List.map (fun (i : Nat) => AV.u8 (y.T.P y_1 i)) (List.range 32)) = Bool.true ∧ y.T.I y_1 = x2_1.I y_1 ∧ allP (fun (i : Nat) => y.T.P y_1 i = x2_1.P y_1 i) 0 32 True) ∧ (∀ (y_1 : Nat), y_1 < y.T.n → (AV.int IntKind.i64 (x2_1.I y_1) :: List.map (fun (i : Nat) => AV.u8 (x2_1.P y_1 i)) (List.range 32)).length ≤ 33) ∧ allP x3 0 32 ((∀ (k : List Int), x.U k = y.U k) ∧ (∀ (k : List Int), y.U k = Bool.true → Bool.true = Bool.true ∧ True) ∧ True)))) (1 ≤ x.T.n + 1 ∧ ∃ (y : TS), tJ key x.i y ∧ m = m ∧ x1 ∧ 0 = 0 ∧ 0 = 0 ∧ 0 = 0 ∧ (↑y.i : Int) = (↑x.i : Int) ∧ allP (fun (i : Nat) => y.T.key i = x2_1.key i) 0 32 (y.T.nx = x2_1.nx ∧ y.T.n = minus (x.T.n + 1) x_2 ∧ x_2 + y.T.n ≤ x.T.n + 1 ∧ (∀ (y_1 : Nat), y_1 < y.T.n → datas Bool.false (AV.int IntKind.i64 (y.T.I y_1) :: List.map (fun (i : Nat) => AV.u8 (y.T.P y_1 i)) (List.range 32)) = Bool.true ∧ y.T.I y_1 = x2_1.I (plus x_2 y_1) ∧ allP (fun (i : Nat) => y.T.P y_1 i = x2_1.P (plus x_2 y_1) i) 0 32 True) ∧ (∀ (y_1 : Nat), y_1 < y.T.n → (AV.int IntKind.i64 (x2_1.I (plus x_2 y_1)) :: List.map (fun (i : Nat) => AV.u8 (x2_1.P (plus x_2 y_1) i)) (List.range 32)).length ≤ 33) ∧ allP (fun (i : Nat) => y.T.key i = x.T.key i) 0 32 (y.T.nx = IntKind.i64.wrap (x.T.nx + (1 : Int)) ∧ y.T.n = x.T.n + 1 - 1 ∧ 1 + y.T.n ≤ x.T.n + 1 ∧ (∀ (y_1 : Nat), y_1 < y.T.n → datas Bool.false (AV.int IntKind.i64 (y.T.I y_1) :: List.map (fun (i : Nat) => AV.u8 (y.T.P y_1 i)) (List.range 32)) = Bool.true ∧ y.T.I y_1 = x2_1.I (1 + y_1) ∧ allP (fun (i : Nat) => y.T.P y_1 i = x2_1.P (1 + y_1) i) 0 32 True) ∧ (∀ (y_1 : Nat), y_1 < y.T.n → (AV.int IntKind.i64 (x2_1.I (1 + y_1)) :: List.map (fun (i : Nat) => AV.u8 (x2_1.P (1 + y_1) i)) (List.range 32)).length ≤ 33) ∧ allP x3 0 32 ((∀ (k : List Int), x.U k = y.U k) ∧ (∀ (k : List Int), y.U k = Bool.true → Bool.true = Bool.true ∧ True) ∧ True)))) (decide ((8 : Int) < (↑(x.T.n + 1) : Int)))) (z = Bool.false ∧ True) x12) !!decide (x.T.nx = x.T.nx)) (decide (IntKind.i64.wrap (↑(BitVec.ofInt 64 (A (↑x.i : Int).toNat) % BitVec.ofNat 64 7).toNat : Int) < (3 : Int))) ∧ ∀ (x_1 : TS), let x1_2 := ({ key := fun (i : Nat) => (rg 32 x_1.T.key).getD i (0 : BitVec 8), nx := x_1.T.nx, n := x_1.T.n, I := fun (j : Nat) => x_1.T.I j, P := fun (j i : Nat) => (rg 32 (x_1.T.P j)).getD i (0 : BitVec 8) } : Tab); let x2_2 := (fun (j : Nat) => AV.int IntKind.i64 (x_1.T.I j) :: List.map (fun (i : Nat) => AV.u8 (x_1.T.P j i)) (List.range 32)) = fun (j : Nat) => AV.int IntKind.i64 (x_1.T.I j) :: List.map (fun (i : Nat) => AV.u8 ((rg 32 (x_1.T.P j)).getD i (0 : BitVec 8))) (List.range 32); tJ key x.i x_1 → x2_2 ∧ x_1.T.n < 3518437208781 ∧ x2_2 ∧ 0 + x_1.T.n ≤ x_1.T.n ∧ (∀ (y : Nat), y < x_1.T.n → datas Bool.false (AV.int IntKind.i64 (x_1.T.I y) :: rg 32 fun (i : Nat) => AV.u8 ((rg 32 (x_1.T.P y)).getD i (0 : BitVec 8))) = Bool.true ∧ (AV.int IntKind.i64 (x_1.T.I y) :: rg 32 fun (i : Nat) => AV.u8 ((rg 32 (x_1.T.P y)).getD i (0 : BitVec 8))).length ≤ 33) ∧ x_1.T.n < 3518437208781 ∧ (((fun (y : Nat) => AV.int IntKind.i64 (x_1.T.I y) :: rg 32 fun (i : Nat) => AV.u8 ((rg 32 (x_1.T.P y)).getD i (0 : BitVec 8))) = fun (j : Nat) => AV.int IntKind.i64 (x_1.T.I j) :: List.map (fun (i : Nat) => AV.u8 ((rg 32 fun (i : Nat) => (rg 32 (x_1.T.P j)).getD i (0 : BitVec 8)).getD i (0 : BitVec 8))) (List.range 32)) ∧ True) ∧ (x2_2 ∧ True) ∧ @Bool.rec (fun _ => Prop) (z = Bool.false ∧ True) (x2_2 ∧ @Bool.rec (fun _ => Prop) (z = Bool.false ∧ True) (@Bool.rec (fun _ => Prop) ((∃ (x_2 : TS × Nat), let x1_3 := ∀ (y : Nat), y < x_2.fst.T.n → datas Bool.false (AV.int IntKind.i64 (x_2.fst.T.I y) :: List.map (fun (i : Nat) => AV.u8 (x_2.fst.T.P y i)) (List.range 32)) = Bool.true ∧ x_2.fst.T.I y = x_1.T.I y ∧ allP (fun (i : Nat) => x_2.fst.T.P y i = x_1.T.P y i) 0 32 True; (x_2.snd ≤ x_2.fst.T.n ∧ tJ key x.i x_2.fst) ∧ m = m ∧ x1 ∧ 0 = 0 ∧ 0 = 0 ∧ 0 = 0 ∧ (↑x_2.fst.i : Int) = (↑x_1.i : Int) ∧ x_2.fst.T.n = knN x1_2 ∧ 0 + x_2.fst.T.n ≤ knN x1_2 ∧ (∀ (y : Nat), y < x_2.fst.T.n → datas Bool.false (AV.rb Bool.true (tkB x_2.fst.T.key (x_2.fst.T.I y)) NL.unk :: List.map (fun (i : Nat) => AV.u8 (x_2.fst.T.P y i)) (List.range 32)) = Bool.true ∧ tkB x_2.fst.T.key (x_2.fst.T.I y) = tkB (fun (i : Nat) => (rg 32 x_1.T.key).getD i (0 : BitVec 8)) (x_1.T.I y) ∧ allP (fun (i : Nat) => x_2.fst.T.P y i = (rg 32 (x_1.T.P y)).getD i (0 : BitVec 8)) 0 32 True) ∧ (∀ (y : Nat), y < x_2.fst.T.n → (AV.rb Bool.true (tkB (fun (i : Nat) => (rg 32 x_1.T.key).getD i (0 : BitVec 8)) (x_1.T.I y)) NL.unk :: rg 32 fun (i : Nat) => AV.u8 ((rg 32 (x_1.T.P y)).getD i (0 : BitVec 8))).length ≤ 33) ∧ (↑x_2.snd : Int) = (0 : Int) ∧ allP (fun (i : Nat) => x_2.fst.T.key i = x_1.T.key i) 0 32 (x_2.fst.T.nx = x_1.T.nx ∧ x_2.fst.T.n = x_1.T.n ∧ x1_3 ∧ allP (fun (i : Nat) => x_2.fst.T.key i = x_1.T.key i) 0 32 (x_2.fst.T.nx = x_1.T.nx ∧ x_2.fst.T.n = x_1.T.n ∧ x1_3 ∧ allP x3 0 32 ((∀ (k : List Int), x_1.U k = x_2.fst.U k) ∧ (∀ (k : List Int), x_2.fst.U k = Bool.true → Bool.true = Bool.true ∧ True) ∧ True)))) ∧ ∀ (x_2 : TS × Nat), x_2.snd ≤ x_2.fst.T.n ∧ tJ key x.i x_2.fst → @Bool.rec (fun _ => Prop) (∃ (y : TS), let x1_3 := ∀ (y_1 : Nat), y_1 < y.T.n → datas Bool.false (AV.int IntKind.i64 (y.T.I y_1) :: List.map (fun (i : Nat) => AV.u8 (y.T.P y_1 i)) (List.range 32)) = Bool.true ∧ y.T.I y_1 = x_2.fst.T.I y_1 ∧ allP (fun (i : Nat) => y.T.P y_1 i = x_2.fst.T.P y_1 i) 0 32 True; 60 - y.i < 60 - x.i ∧ tI key m y ∧ m = m ∧ x1 ∧ 0 = 0 ∧ 0 = 0 ∧ 0 = 0 ∧ (↑y.i : Int) = IntKind.i64.wrap ((↑x_2.fst.i : Int) + (1 : Int)) ∧ allP (fun (i : Nat) => y.T.key i = x_2.fst.T.key i) 0 32 (y.T.nx = x_2.fst.T.nx ∧ y.T.n = x_2.fst.T.n ∧ x1_3 ∧ allP (fun (i : Nat) => y.T.key i = x_2.fst.T.key i) 0 32 (y.T.nx = x_2.fst.T.nx ∧ y.T.n = x_2.fst.T.n ∧ x1_3 ∧ allP x3 0 32 ((∀ (k : List Int), x_2.fst.U k = y.U k) ∧ (∀ (k : List Int), y.U k = Bool.true → Bool.true = Bool.true ∧ True) ∧ True)))) ((0 : Int) ≤ (↑x_2.snd : Int) ∧ (↑x_2.snd : Int).toNat < x_2.fst.T.n ∧ (0 : Int) ≤ (↑x_2.snd : Int) ∧ (↑x_2.snd : Int).toNat < x_2.fst.T.n ∧ List.length (tkB x2 (x_2.fst.T.I (↑x_2.snd : Int).toNat)) = List.length (tkB x2 (x_2.fst.T.I (↑x_2.snd : Int).toNat)) ∧ @Bool.rec (fun _ => Prop) (z = Bool.false ∧ True) ((0 : Int) ≤ (↑x_2.snd : Int) ∧ (↑x_2.snd : Int).toNat < x_2.fst.T.n ∧ (0 : Int) ≤ (↑x_2.snd : Int) ∧ (↑x_2.snd : Int).toNat < x_2.fst.T.n ∧ @Bool.rec (fun _ => Prop) (∃ (y : TS × Nat), let x1_3 := ∀ (y_1 : Nat), y_1 < y.fst.T.n → datas Bool.false (AV.int IntKind.i64 (y.fst.T.I y_1) :: List.map (fun (i : Nat) => AV.u8 (y.fst.T.P y_1 i)) (List.range 32)) = Bool.true ∧ y.fst.T.I y_1 = x_2.fst.T.I y_1 ∧ allP (fun (i : Nat) => y.fst.T.P y_1 i = x_2.fst.T.P y_1 i) 0 32 True; y.fst.T.n - y.snd < x_2.fst.T.n - x_2.snd ∧ (y.snd ≤ y.fst.T.n ∧ tJ key x.i y.fst) ∧ m = m ∧ x1 ∧ 0 = 0 ∧ 0 = 0 ∧ 0 = 0 ∧ (↑y.fst.i : Int) = (↑x_2.fst.i : Int) ∧ y.fst.T.n = x_2.fst.T.n ∧ (∀ (y_1 : Nat), y_1 < y.fst.T.n → datas Bool.false (AV.rb Bool.true (tkB y.fst.T.key (y.fst.T.I y_1)) NL.unk :: List.map (fun (i : Nat) => AV.u8 (y.fst.T.P y_1 i)) (List.range 32)) = Bool.true ∧ tkB y.fst.T.key (y.fst.T.I y_1) = tkB x_2.fst.T.key (x_2.fst.T.I y_1) ∧ allP (fun (i : Nat) => y.fst.T.P y_1 i = x_2.fst.T.P y_1 i) 0 32 True) ∧ (↑y.snd : Int) = IntKind.i64.wrap ((↑x_2.snd : Int) + (1 : Int)) ∧ allP (fun (i : Nat) => y.fst.T.key i = x_2.fst.T.key i) 0 32 (y.fst.T.nx = x_2.fst.T.nx ∧ y.fst.T.n = x_2.fst.T.n ∧ x1_3 ∧ allP (fun (i : Nat) => y.fst.T.key i = x_2.fst.T.key i) 0 32 (y.fst.T.nx = x_2.fst.T.nx ∧ y.fst.T.n = x_2.fst.T.n ∧ x1_3 ∧ allP x3 0 32 ((∀ (k : List Int), x_2.fst.U k = y.fst.U k) ∧ (∀ (k : List Int), y.fst.U k = Bool.true → Bool.true = Bool.true ∧ True) ∧ True)))) (z = Bool.false ∧ True) !andP (fun (i : Nat) => decide (x_2.fst.T.P (↑x_2.snd : Int).toNat i = x_2.fst.T.P (↑x_2.snd : Int).toNat i)) 0 32 Bool.true) !!decide (tkB x_2.fst.T.key (x_2.fst.T.I (↑x_2.snd : Int).toNat) = tkB x2 (x_2.fst.T.I (↑x_2.snd : Int).toNat))) (decide ((↑x_2.snd : Int) < (↑x_2.fst.T.n : Int)))) (z = Bool.false ∧ True) !decide ((↑(knN x1_2) : Int) = (↑x_1.T.n : Int))) !!x1_2.okB) !!tSameB ({ key := fun (i : Nat) => (rg 32 fun (i : Nat) => (rg 32 x_1.T.key).getD i (0 : BitVec 8)).getD i (0 : BitVec 8), nx := x_1.T.nx, n := x_1.T.n, I := fun (j : Nat) => x_1.T.I j, P := fun (j i : Nat) => (rg 32 fun (i : Nat) => (rg 32 (x_1.T.P j)).getD i (0 : BitVec 8)).getD i (0 : BitVec 8) } : Tab) x1_2) (decide ((↑x.i : Int) < (60 : Int)))) (decide ((↑x.i : Int) < (↑m : Int))) : Prop) := by kernel_rfl
end Go.Sym

namespace Go.Spec
open Go.Sym
theorem Tab.ok.mono' {t : Tab} (h : t.ok) {j : Nat} (hj : j + 1 < t.n) : t.I j < t.I (j + 1) := (h.h3 (j + 1) hj).1
theorem Tab.ok_mono {t : Tab} (h0 : 0 ≤ t.nx) (h1 : t.nx ≤ 2147483647) (h2 : t.n ≤ 8) (h3 : ∀ j, j < t.n → 0 ≤ t.I j ∧ t.I j < t.nx) (h4 : ∀ j, j + 1 < t.n → t.I j < t.I (j + 1)) : t.ok :=
  ⟨h0, h1, h2, fun j hj => ⟨by
    cases j with
    | zero => have := (h3 0 hj).1; show (-1 : Int) < _; omega
    | succ j => exact h4 j hj, (h3 j hj).2⟩⟩
theorem snoc_I {t : Tab} {c : Nat → BitVec 8} {j : Nat} : (t.snoc c).I j = if j < t.n then t.I j else t.nx := rfl
theorem snoc_in {t : Tab} (h : t.ok) (c : Nat → BitVec 8) {j : Nat} (hj : j < t.n + 1) : 0 ≤ (t.snoc c).I j ∧ (t.snoc c).I j < t.nx + 1 := by
  rw [snoc_I]
  split
  · rename_i hl
    have := h.pos j hl
    have := (h.h3 j hl).2
    omega
  · have := h.h0; omega
theorem snoc_mono {t : Tab} (h : t.ok) (c : Nat → BitVec 8) {j : Nat} (hj : j + 1 < t.n + 1) : (t.snoc c).I j < (t.snoc c).I (j + 1) := by
  rw [snoc_I, snoc_I, if_pos (by omega)]
  split
  · rename_i hl; exact h.mono' hl
  · exact (h.h3 j (by omega)).2
theorem mint_ok {t : Tab} (h : t.ok) (hx : t.nx ≤ 60) (c : Nat → BitVec 8) : (t.mint c).ok := by
  have h0 := h.h0
  have h2 := h.h2
  unfold Tab.mint
  split
  · exact Tab.ok_mono (by show 0 ≤ t.nx + 1; omega) (by show t.nx + 1 ≤ _; omega) (by show t.n + 1 ≤ 8; omega) (fun j hj => snoc_in h c hj) fun j hj => snoc_mono h c hj
  · refine Tab.ok_mono (by show 0 ≤ t.nx + 1; omega) (by show t.nx + 1 ≤ _; omega) (by show t.n + 1 - 1 ≤ 8; omega) (fun j hj => ?_) fun j hj => ?_
    · have hj : j < t.n + 1 - 1 := hj
      exact snoc_in h c (j := j + 1) (by omega)
    · have hj : j + 1 < t.n + 1 - 1 := hj
      exact snoc_mono h c (j := j + 1) (by omega)
theorem mint_nx (t : Tab) (c : Nat → BitVec 8) : (t.mint c).nx = t.nx + 1 := by unfold Tab.mint; split <;> rfl
theorem mint_key (t : Tab) (c : Nat → BitVec 8) : (t.mint c).key = t.key := by unfold Tab.mint; split <;> rfl
theorem mint_in {t : Tab} {c : Nat → BitVec 8} {j : Nat} (hj : j < (t.mint c).n) : (t.mint c).I j = t.nx ∨ ∃ k, k < t.n ∧ (t.mint c).I j = t.I k := by
  unfold Tab.mint at hj ⊢
  have key : ∀ k, (t.snoc c).I k = t.nx ∨ ∃ l, l < t.n ∧ (t.snoc c).I k = t.I l := by
    intro k
    rw [snoc_I]
    split
    · rename_i hk; exact .inr ⟨k, hk, rfl⟩
    · exact .inl rfl
  split
  · exact key j
  · exact key (j + 1)
theorem mint_us {t : Tab} {U : List Int → Bool} (h : onlyU U t) (c : Nat → BitVec 8) : onlyU U (t.mint c) := by
  intro a ha
  obtain ⟨h1, h2⟩ := h a ha
  rw [mint_nx]
  refine ⟨by omega, fun j hj e => ?_⟩
  rcases mint_in hj with k | ⟨l, hl, k⟩
  · omega
  · exact h2 l hl (k.symm.trans e)
theorem del_ok {t : Tab} (h : t.ok) (a : Nat) : (t.del a).ok := by
  refine Tab.ok_mono h.h0 h.h1 (by have := h.h2; show t.n - 1 ≤ 8; omega) (fun j hj => ?_) fun j hj => ?_
  · have hj : j < t.n - 1 := hj
    show 0 ≤ (if j < a then t.I j else t.I (j + 1)) ∧ (if j < a then t.I j else t.I (j + 1)) < t.nx
    split
    · exact ⟨h.pos j (by omega), (h.h3 j (by omega)).2⟩
    · exact ⟨h.pos (j + 1) (by omega), (h.h3 (j + 1) (by omega)).2⟩
  · have hj : j + 1 < t.n - 1 := hj
    show (if j < a then t.I j else t.I (j + 1)) < (if j + 1 < a then t.I (j + 1) else t.I (j + 1 + 1))
    have h1 := h.mono' (j := j) (by omega)
    have h2 := h.mono' (j := j + 1) (by omega)
    split <;> split <;> omega
theorem useE_in {t : Tab} {k : By} (h : useE t k = 0) : idI k < t.nx ∧ ∃ a, a < t.n ∧ t.I a = idI k ∧ useI t k = (a : Int) := by
  unfold useE at h
  by_cases c : t.okB = false
  · rw [if_pos c] at h; cases h
  rw [if_neg c] at h
  by_cases d : idZ t.key k = false ∨ t.nx ≤ idI k
  · rw [if_pos d] at h; cases h
  rw [if_neg d] at h
  by_cases e : useI t k < 0
  · rw [if_pos e] at h; cases h
  obtain ⟨a, h1, h2, h3, -⟩ := ixP_lt e
  exact ⟨by have := fun x => d (Or.inr x); omega, a, h2, Classical.not_not.1 h3, h1⟩
theorem use_del {t : Tab} {k : By} (h : useE t k = 0) : useT t k = t.del (useI t k).toNat := if_pos h
theorem use_us {t : Tab} {U : List Int → Bool} (ho : t.ok) (hu : onlyU U t) {k : By} (h : useE t k = 0) : onlyU (fun l => l == [useN t k] || U l) (useT t k) := by
  obtain ⟨h1, a, h2, h3, h4⟩ := useE_in h
  have hN : useN t k = idI k := if_pos h
  intro b hb
  rw [use_del h, h4, Int.toNat_natCast]
  have dI : ∀ j, j < t.n - 1 → ∃ l, l < t.n ∧ l ≠ a ∧ (t.del a).I j = t.I l := by
    intro j hj
    by_cases c : j < a
    · exact ⟨j, by omega, by omega, if_pos c⟩
    · exact ⟨j + 1, by omega, by omega, if_neg c⟩
  rw [Bool.or_eq_true] at hb
  rcases hb with hb | hb
  · have hb : b = idI k := by
      have : ([b] : List Int) = [useN t k] := by simpa using hb
      rw [hN] at this
      simpa using this
    subst hb
    refine ⟨h1, fun j hj e => ?_⟩
    obtain ⟨l, k1, k2, k3⟩ := dI j hj
    exact k2 (ho.one k1 h2 (by rw [← k3, e, h3]))
  · obtain ⟨k1, k2⟩ := hu b hb
    refine ⟨k1, fun j hj e => ?_⟩
    obtain ⟨l, j1, j2, j3⟩ := dI j hj
    exact k2 l j1 (by rw [← j3, e])
theorem use_new {t : Tab} {U : List Int → Bool} (hu : onlyU U t) {k : By} (h : useE t k = 0) : U [useN t k] = false := by
  obtain ⟨h1, a, h2, h3, h4⟩ := useE_in h
  have hN : useN t k = idI k := if_pos h
  cases e : U [useN t k]
  · rfl
  · exact absurd (h3.trans hN.symm) ((hu _ e).2 a h2)
theorem cI_get (C : Nat → BitVec 8) (i j : Nat) : ((C i) :: List.replicate 31 (BitVec.ofNat 8 0)).getD j (0 : BitVec 8) = if j = 0 then C i else 0 := by
  cases j with
  | zero => rfl
  | succ j =>
    rw [if_neg (by omega)]
    simp only [List.getD, List.getElem?_cons_succ, List.getElem?_replicate]
    split <;> rfl
end Go.Spec

namespace Go.Sym
open Go.Proofs Go.Spec
set_option linter.unusedVariables false
theorem md_of {a b : BitVec 64} {k : Nat} (hb : b.toNat = k) (h0 : 0 < k) (h1 : k ≤ 1000) : ∃ n : Nat, n < k ∧ IntKind.i64.wrap ((a % b).toNat : Int) = (n : Int) := by
  have e : (a % b).toNat = a.toNat % k := by rw [BitVec.toNat_umod, hb]
  have : a.toNat % k < k := Nat.mod_lt _ h0
  exact ⟨a.toNat % k, this, by rw [e]; exact wrap_nat _ rfl (by omega)⟩
theorem rows_re (R : Tab) : ((fun (y : Nat) => AV.int IntKind.i64 (R.I y) :: rg 32 fun (i : Nat) => AV.u8 ((rg 32 (R.P y)).getD i (0 : BitVec 8))) = fun (j : Nat) => AV.int IntKind.i64 (R.I j) :: List.map (fun (i : Nat) => AV.u8 ((rg 32 fun (i : Nat) => (rg 32 (R.P j)).getD i (0 : BitVec 8)).getD i (0 : BitVec 8))) (List.range 32)) := by
  funext j; rfl
theorem row33 (a : Int) (f : Nat → BitVec 8) : (AV.int IntKind.i64 a :: List.map (fun (i : Nat) => AV.u8 (f i)) (List.range 32)).length ≤ 33 := by simp
theorem row33r (a : Int) (f : Nat → BitVec 8) : (AV.int IntKind.i64 a :: rg 32 fun (i : Nat) => AV.u8 (f i)).length ≤ 33 := by simp [rg_map]
set_option maxRecDepth 100000 in
theorem bt4 (m : Nat) (A B : Nat → Int) (C : Nat → BitVec 8) (key : Nat → BitVec 8) (nl : NL) : Must (bodyP Tryd.prog T16 gl0 [] [(5, lsT m A B C key)] 3000 Tryd.f4 0 [aggB 32 key, .ros true 3 m (gA A B C) nl] [] (retQ Tryd.prog Tryd.f4 0 ⟨[], .bool true, [], []⟩)) := by
  constructor
  rw [vt4]
  intro x1 x2 x3
  have h1 : x1 := fun y _ => ⟨rfl, rfl, rfl, rfl, trivial⟩
  have k3 : ∀ {p : Prop}, p → allP x3 0 32 p := fun h => allP_of 32 0 (fun _ _ _ => rfl) h
  have kk : ∀ {f : Nat → BitVec 8} {p : Prop}, p → allP (fun i => f i = f i) 0 32 p := fun h => allP_of 32 0 (fun _ _ _ => rfl) h
  refine ⟨⟨⟨⟨key, 0, 0, fun _ => 0, fun _ _ => 0⟩, fun _ => false, 0⟩, ⟨Nat.zero_le 60, Nat.zero_le _, Tab.ok_mono (Int.le_refl 0) (by show (0 : Int) ≤ 2147483647; decide) (Nat.zero_le 8) (fun j hj => absurd hj (Nat.not_lt_zero j)) (fun j hj => absurd hj (Nat.not_lt_zero _)), Int.le_refl 0, rfl, fun a h => Bool.noConfusion h⟩, rfl, h1, rfl, rfl, rfl, rfl, kk ⟨rfl, rfl, kk ⟨rfl, rfl, k3 ⟨fun _ => rfl, fun _ h => Bool.noConfusion h, trivial⟩⟩⟩⟩, ?_⟩
  intro x x1_1 x2_1 x3_1 x4 x5 x6 x7 x8 x9 x10 x11 x12 x13 x14 x15 x16 hx
  refine brec (fun hm => ?_) (fun _ => ⟨rfl, trivial⟩)
  refine brec (fun h60 => ?_) (fun _ => ⟨rfl, trivial⟩)
  have hm := dyes hm
  have h60 := dyes h60
  have hm : x.i < m := by omega
  have h60 : x.i < 60 := by omega
  have h8 := hx.ok.h2
  have hnx := hx.nx
  have hn0 := hx.ok.h0
  have hbig : x.T.n < 3518437208781 := by omega
  have h4 : x4 := rows_rg x.T
  have h3_1 : x3_1 := tk_rows false x.T
  have k9 : ∀ {p : Prop}, p → allP x10 0 32 p := fun h => allP_of 32 0 (fun _ _ _ => rfl) h
  have k15 : ∀ {p : Prop}, p → allP x15 0 32 p := fun h => allP_of 32 0 (fun i _ hi => (rg_get x.T.key (by omega)).symm) h
  have h6 : x6 := fun y _ => ⟨rfl, re_row x.T.re x.T y rfl (fun i hi => rg_get _ hi)⟩
  have h11 : x11 := ⟨rows_re x.T, trivial⟩
  have h13 : x13 := fun y _ => ⟨rfl, row33r _ _⟩
  have h14 : x14 := fun y _ => ⟨rfl, row33 _ _⟩
  have h12 : x12 = false := by
    have : tSameB x.T.re.re x.T.re = true := tSameB_yes (re_same x.T)
    show (!tSameB x.T.re.re x.T.re) = false
    rw [this]; rfl
  have rE : ∀ k, useE x1_1 k = useE x.T k := re_useE x.T
  have rN : ∀ k, useN x1_1 k = useN x.T k := re_useN x.T
  have hM : minE x1_1 = 0 := by
    rw [show minE x1_1 = minE x.T from re_minE x.T]
    unfold minE
    rw [Tab.okB_iff.2 hx.ok, if_neg (by decide), if_neg (by omega)]
  have ht : (x.i : Int).toNat = x.i := Int.toNat_natCast _
  refine ⟨Int.natCast_nonneg _, by rw [ht]; exact hm, hbig, h4, ?_, ?_⟩
  · refine brec (fun _ => ?_) (fun _ => ?_)
    · -- what is minted
      have h10 : x9 := by
        refine ⟨rfl, fun y hy => ⟨rfl, re_row x5 x2_1 y rfl fun i hi => ?_⟩, by rw [ht], by rw [ht], by rw [ht], trivial⟩
        show (if y < x.T.n then (fun i => (rg 32 (x.T.P y)).getD i (0 : BitVec 8)) else fun (i : Nat) => (C (↑x.i : Int).toNat :: List.replicate 31 (BitVec.ofNat 8 0)).getD i (0 : BitVec 8)) i = (if y < x.T.n then x.T.P y else fun (k : Nat) => if k = 0 then C x.i else (0 : BitVec 8)) i
        by_cases c : y < x.T.n
        · rw [if_pos c, if_pos c]; exact rg_get _ hi
        · rw [if_neg c, if_neg c, ht]; exact cI_get C x.i i
      have kx : ∀ {p : Prop}, p → allP (fun (i : Nat) => x2_1.key i = x5.key i) 0 32 p := fun h => allP_of 32 0 (fun i _ hi => (rg_get x.T.key (by omega)).symm) h
      refine ⟨brec (fun hn => ?_) (fun hn => ?_), fun o ho => ?_⟩
      · have hn := dyes hn
        have e : x16 = 0 := if_pos hn
        exact ⟨hM, h4, 0, e.symm, rfl, h1, rfl, rfl, rfl, rfl, rfl, rfl, rfl, rfl, rfl, k9 ⟨rfl, rfl, h3_1, k9 ⟨rfl, rfl, h3_1, k3 ⟨fun _ => rfl, fun _ _ => ⟨rfl, trivial⟩, k15 ⟨rfl, rfl, rfl, rfl, rfl, rfl, h6, kx ⟨rfl, rfl, rfl, rfl, h10⟩⟩⟩⟩⟩⟩
      · have hn := dno hn
        have e : x16 = 1 := if_neg hn
        exact ⟨hM, h4, 1, e.symm, rfl, h1, rfl, rfl, rfl, rfl, rfl, rfl, rfl, rfl, rfl, k9 ⟨rfl, rfl, h3_1, k9 ⟨rfl, rfl, h3_1, k3 ⟨fun _ => rfl, fun _ _ => ⟨rfl, trivial⟩, k15 ⟨rfl, rfl, rfl, rfl, rfl, rfl, h6, kx ⟨rfl, rfl, rfl, rfl, h10⟩⟩⟩⟩⟩⟩
      · refine brec (fun _ => ?_) (fun d => by simp at d)
        refine ⟨hbig, h4, by omega, h13, by omega, h14, hbig, h11, ⟨h4, trivial⟩, ?_⟩
        rw [h12]
        refine ⟨⟨fun _ _ => rfl, rfl, by unfold roomFor; omega, by omega, by unfold roomFor; omega, o, ho, rfl, h1, rfl, rfl, rfl, rfl, rfl, k9 ⟨rfl, rfl, h3_1, k9 ⟨rfl, rfl, rfl, rfl, by omega, k3 ⟨fun _ => rfl, fun _ _ => ⟨rfl, trivial⟩, rfl, fun y hy => ⟨rfl, ?_⟩, kk ⟨rfl, rfl, rfl, rfl, rfl, fun y _ => ⟨rfl, rfl⟩, trivial⟩⟩⟩⟩⟩, fun o2 ho2 => ?_⟩
        · unfold glue
          by_cases c : y < x.T.n
          · rw [if_pos c]
            show _ = AV.int IntKind.i64 (if y < x.T.n then x.T.I y else x.T.nx) :: List.map (fun (i : Nat) => AV.u8 ((if y < x.T.n then x.T.P y else cI C x.i) i)) (List.range 32)
            rw [if_pos c, if_pos c]
          · rw [if_neg c, show y - x.T.n = 0 by omega]
            show _ = AV.int IntKind.i64 (if y < x.T.n then x.T.I y else x.T.nx) :: List.map (fun (i : Nat) => AV.u8 ((if y < x.T.n then x.T.P y else cI C x.i) i)) (List.range 32)
            rw [if_neg c, if_neg c]
            rfl
        · have hJ : tJ key x.i ⟨x.T.mint (cI C x.i), x.U, x.i⟩ := ⟨rfl, mint_ok hx.ok (by omega) _, by show (x.T.mint _).nx ≤ _; rw [mint_nx]; omega, (mint_key _ _).trans hx.key, mint_us hx.us _⟩
          have ew : IntKind.i64.wrap (x.T.nx + (1 : Int)) = x.T.nx + 1 := wrap_i64 (by omega) (by omega)
          have mk : ∀ i, (x.T.mint (cI C x.i)).key i = x.T.key i := fun i => by rw [mint_key]
          refine brec (fun hb => ?_) (fun hb => ?_)
          · have hb := dyes hb
            have hn : ¬ x.T.n ≤ 7 := by omega
            have eo : o2 = 1 := ho2.trans (if_neg hn)
            have em : x.T.mint (cI C x.i) = (x.T.snoc (cI C x.i)).tl := if_neg hn
            rw [eo]
            refine ⟨by omega, ⟨x.T.mint (cI C x.i), x.U, x.i⟩, hJ, rfl, h1, rfl, rfl, rfl, rfl, ?_⟩
            rw [em, ew]
            refine kk ⟨rfl, rfl, by show 1 + (x.T.n + 1 - 1) ≤ _; omega, fun y _ => ⟨rfl, ?_, ?_⟩, fun y _ => row33 _ _, kk ⟨rfl, rfl, by show 1 + (x.T.n + 1 - 1) ≤ _; omega, fun y _ => ⟨rfl, ?_, ?_⟩, fun y _ => row33 _ _, k3 ⟨fun _ => rfl, fun _ _ => ⟨rfl, trivial⟩, trivial⟩⟩⟩
            · rw [plus_eq', Nat.add_comm]; rfl
            · rw [plus_eq', Nat.add_comm]; exact kk trivial
            · rw [Nat.add_comm]; rfl
            · rw [Nat.add_comm]; exact kk trivial
          · have hb := dno hb
            have hn : x.T.n ≤ 7 := by omega
            have eo : o2 = 0 := ho2.trans (if_pos hn)
            have em : x.T.mint (cI C x.i) = x.T.snoc (cI C x.i) := if_pos hn
            rw [eo]
            refine ⟨⟨x.T.mint (cI C x.i), x.U, x.i⟩, hJ, rfl, h1, rfl, rfl, rfl, rfl, ?_⟩
            rw [em, ew]
            refine kk ⟨rfl, rfl, by show 0 + (x.T.n + 1) ≤ _; omega, fun y _ => ⟨rfl, ?_, ?_⟩, fun y _ => row33 _ _, kk ⟨rfl, rfl, by show 0 + (x.T.n + 1) ≤ _; omega, fun y _ => ⟨rfl, rfl, kk trivial⟩, fun y _ => row33 _ _, k3 ⟨fun _ => rfl, fun _ _ => ⟨rfl, trivial⟩, trivial⟩⟩⟩
            · rw [plus_eq', Nat.zero_add]; rfl
            · rw [plus_eq', Nat.zero_add]; exact kk trivial
    · -- what is used
      have hb2 : (BitVec.ofInt 64 (IntKind.i64.wrap (x.T.nx + (2 : Int)))).toNat = (x.T.nx + 2).toNat := by
        rw [wrap_i64 (by omega) (by omega), BitVec.toNat_ofInt]
        omega
      obtain ⟨v, hv, ev⟩ := md_of (a := BitVec.ofInt 64 (B (↑x.i : Int).toNat)) hb2 (by omega) (by omega)
      obtain ⟨w, hw, ew⟩ := md_of (a := BitVec.ofInt 64 (B (↑x.i : Int).toNat)) (b := BitVec.ofNat 64 16) (k := 16) rfl (by decide) (by decide)
      have e7 : List.length x7 = 16 := by
        show List.length (tkB x2 _) = 16
        rw [ev]
        exact tkB_len (by omega) (by omega)
      have e8 : x8 = (w : Int) := ew
      have e8n : x8.toNat = w := by rw [e8, Int.toNat_natCast]
      refine ⟨by rw [hb2]; omega, brec (fun _ => ?_) (fun _ => ?_), fun l hl => ?_⟩
      · rw [e8n]
        exact ⟨by rw [e8]; exact Int.natCast_nonneg _, by omega, by omega, by rw [e8]; exact Int.natCast_nonneg _, by omega, by omega, _, by rw [List.length_set]; exact e7, rfl, h1, rfl, rfl, rfl, rfl, rfl, rfl, rfl, rfl, by rw [List.length_set], k9 ⟨rfl, rfl, h3_1, k9 ⟨rfl, rfl, h3_1, k3 ⟨fun _ => rfl, fun _ _ => ⟨rfl, trivial⟩, k15 ⟨rfl, rfl, rfl, rfl, rfl, rfl, h6, rfl, trivial⟩⟩⟩⟩⟩
      · exact ⟨x7, e7, rfl, h1, rfl, rfl, rfl, rfl, rfl, rfl, rfl, rfl, rfl, k9 ⟨rfl, rfl, h3_1, k9 ⟨rfl, rfl, h3_1, k3 ⟨fun _ => rfl, fun _ _ => ⟨rfl, trivial⟩, k15 ⟨rfl, rfl, rfl, rfl, rfl, rfl, h6, rfl, trivial⟩⟩⟩⟩⟩
      · refine ⟨rfl, by omega, h4, rfl, Tab.ok_of (t := x.T) rfl rfl (fun _ => rfl) hx.ok, h4, brec (fun _ => ?_) (fun d => by simp at d)⟩
        refine ⟨hbig, h4, by omega, h13, by omega, h14, hbig, h11, ⟨h4, trivial⟩, ?_⟩
        rw [h12]
        show @Bool.rec (fun _ => Prop) _ _ (decide (useE x1_1 l = 0))
        rw [rE]
        refine brec (fun h0 => ?_) (fun h0 => ?_)
        · have h0 := dyes h0
          refine brec (fun _ => ?_) (fun d => by simp at d)
          rw [rN, use_new hx.us h0]
          have hk := use_del h0
          refine ⟨⟨useT x.T l, fun k => k == [useN x.T l] || x.U k, x.i⟩, ⟨rfl, by show (useT x.T l).ok; rw [hk]; exact del_ok hx.ok _, by show (useT x.T l).nx ≤ _; rw [hk]; show x.T.nx ≤ _; omega, by show (useT x.T l).key = _; rw [hk]; exact hx.key, use_us hx.ok hx.us h0⟩, rfl, h1, rfl, rfl, rfl, rfl, ?_⟩
          have a1 : ∀ {p : Prop}, p → allP (fun (i : Nat) => (useT x.T l).key i = (useT x1_1 l).key i) 0 32 p := fun h => allP_of 32 0 (fun i _ hi => (re_useT_key x.T l (by omega)).symm) h
          have a2 : (useT x.T l).nx = (useT x1_1 l).nx := (re_useT_nx x.T l).symm
          have a3 : (useT x.T l).n = (useT x1_1 l).n := (re_useT_n x.T l).symm
          have a4 : ∀ (y_1 : Nat), y_1 < (useT x.T l).n → datas Bool.false (AV.int IntKind.i64 ((useT x.T l).I y_1) :: List.map (fun (i : Nat) => AV.u8 ((useT x.T l).P y_1 i)) (List.range 32)) = Bool.true ∧ (useT x.T l).I y_1 = (useT x1_1 l).I y_1 ∧ allP (fun (i : Nat) => (useT x.T l).P y_1 i = (useT x1_1 l).P y_1 i) 0 32 True :=
            fun y _ => ⟨rfl, (re_useT_I x.T l y).symm, allP_of 32 0 (fun i _ hi => (re_useT_P x.T l y (by omega)).symm) trivial⟩
          exact a1 ⟨a2, a3, by show 0 + (useT x.T l).n ≤ _; omega, a4, fun y _ => row33r _ _, a1 ⟨a2, a3, by show 0 + (useT x.T l).n ≤ _; omega, a4, fun y _ => row33r _ _, k3 ⟨fun _ => by rw [← rN], fun k _ => ⟨by cases (k == [useN x.T l]) <;> rfl, trivial⟩, trivial⟩⟩⟩
        · exact ⟨x, ⟨rfl, hx.ok, by omega, hx.key, hx.us⟩, rfl, h1, rfl, rfl, rfl, rfl, kk ⟨rfl, rfl, h3_1, kk ⟨rfl, rfl, h3_1, k3 ⟨fun _ => rfl, fun _ _ => ⟨rfl, trivial⟩, trivial⟩⟩⟩⟩
  · intro y y1 y2 hy
    have h8 := hy.ok.h2
    have rB : y1.okB = true := (Tab.re_okB y.T).trans (Tab.okB_iff.2 hy.ok)
    have rK : knN y1 = y.T.n := (re_knN y.T).trans (if_pos (Tab.okB_iff.2 hy.ok))
    have hS : tSameB y.T.re.re y.T.re = true := tSameB_yes (re_same y.T)
    have h2 : y2 := rows_rg y.T
    have hrow : ∀ S : Tab, ∀ z, z < S.n → datas Bool.false (AV.int IntKind.i64 (S.I z) :: List.map (fun (i : Nat) => AV.u8 (S.P z i)) (List.range 32)) = Bool.true ∧ S.I z = S.I z ∧ allP (fun (i : Nat) => S.P z i = S.P z i) 0 32 True := fun S => tk_rows false S
    refine ⟨h2, by omega, h2, by omega, fun z _ => ⟨rfl, row33r _ _⟩, by omega, ⟨rows_re y.T, trivial⟩, ⟨h2, trivial⟩, ?_⟩
    refine brec (fun _ => ?_) (fun d => ?_)
    rotate_left
    · exfalso
      have : (!!tSameB y.T.re.re y.T.re) = false := d
      rw [hS] at this; cases this
    refine ⟨h2, ?_⟩
    refine brec (fun _ => ?_) (fun d => ?_)
    rotate_left
    · exfalso
      have d : (!!y1.okB) = false := d
      rw [rB] at d; cases d
    refine brec (fun d => ?_) (fun _ => ?_)
    · exfalso
      have d : (!decide ((↑(knN y1) : Int) = (↑y.T.n : Int))) = true := d
      rw [rK, decide_eq_true rfl] at d; cases d
    rw [rK]
    refine ⟨⟨(y, 0), ⟨Nat.zero_le _, hy⟩, rfl, h1, rfl, rfl, rfl, rfl, rfl, by show 0 + y.T.n ≤ _; omega, fun z _ => ⟨rfl, (tkB_rg _ _).symm, allP_of 32 0 (fun i _ hi => (rg_get _ (by omega)).symm) trivial⟩, fun z _ => by simp [rg_map], rfl, kk ⟨rfl, rfl, hrow _, kk ⟨rfl, rfl, hrow _, k3 ⟨fun _ => rfl, fun _ _ => ⟨rfl, trivial⟩, trivial⟩⟩⟩⟩, ?_⟩
    rintro ⟨z, k⟩ ⟨hk, hz⟩
    have hk : k ≤ z.T.n := hk
    have hz : tJ key x.i z := hz
    have hzi : z.i = x.i := hz.hi
    have h8 := hz.ok.h2
    refine brec (fun hl => ?_) (fun hl => ?_)
    · have hl : k < z.T.n := by
        have hl := dyes hl
        have hl : (k : Int) < (z.T.n : Int) := hl
        omega
      have hkn : (k : Int).toNat = k := Int.toNat_natCast _
      refine ⟨Int.natCast_nonneg _, by rw [hkn]; exact hl, Int.natCast_nonneg _, by rw [hkn]; exact hl, rfl, ?_⟩
      have e1 : tkB z.T.key (z.T.I (k : Int).toNat) = tkB x2 (z.T.I (k : Int).toNat) := by
        rw [hz.key]
        exact (tkB_rg key _).symm
      refine brec (fun _ => ?_) (fun d => ?_)
      rotate_left
      · exfalso
        have d : (!!decide (tkB z.T.key (z.T.I (k : Int).toNat) = tkB x2 (z.T.I (k : Int).toNat))) = false := d
        rw [decide_eq_true e1] at d; cases d
      refine ⟨Int.natCast_nonneg _, by rw [hkn]; exact hl, Int.natCast_nonneg _, by rw [hkn]; exact hl, ?_⟩
      refine brec (fun d => ?_) (fun _ => ?_)
      · exfalso
        have e : andP (fun (i : Nat) => decide (z.T.P (↑k : Int).toNat i = z.T.P (↑k : Int).toNat i)) 0 32 Bool.true = true := (andP_iff _ _).2 ⟨fun _ _ _ => decide_eq_true rfl, rfl⟩
        have d : (!andP (fun (i : Nat) => decide (z.T.P (↑k : Int).toNat i = z.T.P (↑k : Int).toNat i)) 0 32 Bool.true) = true := d
        rw [e] at d; cases d
      · exact ⟨(z, k + 1), by show z.T.n - (k + 1) < z.T.n - k; omega, ⟨hl, hz⟩, rfl, h1, rfl, rfl, rfl, rfl, rfl, fun j _ => ⟨rfl, rfl, kk trivial⟩, (wrap_nat (k + 1) (by omega) (by omega)).symm, kk ⟨rfl, rfl, hrow _, kk ⟨rfl, rfl, hrow _, k3 ⟨fun _ => rfl, fun _ _ => ⟨rfl, trivial⟩, trivial⟩⟩⟩⟩
    · refine ⟨⟨z.T, z.U, x.i + 1⟩, by show 60 - (x.i + 1) < 60 - x.i; omega, ⟨by show x.i + 1 ≤ 60; omega, by show x.i + 1 ≤ m; omega, hz.ok, by have := hz.nx; show z.T.nx ≤ ((x.i + 1 : Nat) : Int); omega, hz.key, hz.us⟩, rfl, h1, rfl, rfl, rfl, ?_, kk ⟨rfl, rfl, hrow _, kk ⟨rfl, rfl, hrow _, k3 ⟨fun _ => rfl, fun _ _ => ⟨rfl, trivial⟩, trivial⟩⟩⟩⟩
      show ((x.i + 1 : Nat) : Int) = IntKind.i64.wrap ((z.i : Int) + 1)
      rw [hzi]
      exact (wrap_nat (x.i + 1) (by omega) (by omega)).symm
end Go.Sym
