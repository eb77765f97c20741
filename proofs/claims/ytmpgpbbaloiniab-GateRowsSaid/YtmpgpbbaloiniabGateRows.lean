/- GateRows: in every row of uses, reservations and turns no number of an epoch is told twice, and none that wasn't reserved. No conditions. -/
import Derived.Test.YtmpgpbbaloiniabGatA
import Derived.Test.YtmpgpbbaloiniabRows
import Derived.WalkKit
import Derived.ProofKit
import Derived.OpenShut
import Derived.ChangeOld
import Derived.Below
import Derived.Carry
namespace Go.Sym
open Go.Proofs
set_option linter.unusedVariables false
set_option maxRecDepth 100000 in
theorem vg3 (m : Nat) (A : Nat → Int) (c : Bool) : bodyP Try.prog K4 gl0 [] [(6, lsG m A)] 3000 Try.f3 0 [.ros true 1 m (fun j => [.int .i64 (A j)]) (.is c)] [] (retQ Try.prog Try.f3 0 ⟨[], .bool true, [], []⟩) = (
let x1 := ∀ (y : Nat), y < m → datas Bool.true [AV.int IntKind.i64 (A y)] = Bool.true ∧ A y = A y ∧ True; (∃ (x : GS), gI m x ∧ m = m ∧ x1 ∧ (↑x.1 : Int) = (0 : Int) ∧ x.4 = (0 : Int) ∧ 0 = 0 ∧ x.2 = Int.ofNat 0 ∧ x.3 = (0 : Int) ∧ x.4 = (0 : Int) ∧ (∀ (k : List Int), Bool.false = x.5 k) ∧ (∀ (k : List Int), x.5 k = Bool.true → Bool.true = Bool.false ∧ True) ∧ True) ∧ ∀ (x : GS), let x1_1 := Max.max x.4 ((x.3 + Min.min (IntKind.i64.wrap (IntKind.i64.wrap (↑(BitVec.ofInt 64 (A (↑x.1 : Int).toNat) % BitVec.ofNat 64 20).toNat : Int) - (14 : Int))) ((64 : Int) - x.3) + (7 : Int)) / (8 : Int) * (8 : Int)); let x2 := gR x.e x.n x.u ∧ @Bool.rec (fun _ => Prop) (∃ (y : GS), 300 - y.1 < 300 - x.1 ∧ gI m y ∧ m = m ∧ x1 ∧ (↑y.1 : Int) = IntKind.i64.wrap ((↑x.1 : Int) + (1 : Int)) ∧ y.4 = x.4 ∧ 0 = 0 ∧ y.2 = x.2 ∧ y.3 = x.3 ∧ y.4 = x.4 ∧ (∀ (k : List Int), x.5 k = y.5 k) ∧ (∀ (k : List Int), y.5 k = Bool.true → Bool.true = Bool.true ∧ True) ∧ True) (Bool.true = Bool.false ∧ True) (decide (x.3 < x.4)); let x3 := IntKind.i64.wrap (↑(BitVec.ofInt 64 (A (↑x.1 : Int).toNat) % BitVec.ofNat 64 20).toNat : Int); gI m x → @Bool.rec (fun _ => Prop) (Bool.true = Bool.true ∧ True) (@Bool.rec (fun _ => Prop) (Bool.true = Bool.true ∧ True) ((0 : Int) ≤ (↑x.1 : Int) ∧ (↑x.1 : Int).toNat < m ∧ @Bool.rec (fun _ => Prop) (@Bool.rec (fun _ => Prop) (@Bool.rec (fun _ => Prop) (@Bool.rec (fun _ => Prop) (gR x.e x.n x.u ∧ @Bool.rec (fun _ => Prop) (@Bool.rec (fun _ => Prop) (gR x.e (x.n + (1 : Int)) x.u ∧ ∃ (y : GS), 300 - y.1 < 300 - x.1 ∧ gI m y ∧ m = m ∧ x1 ∧ (↑y.1 : Int) = IntKind.i64.wrap ((↑x.1 : Int) + (1 : Int)) ∧ y.4 = x.4 ∧ 0 = 0 ∧ y.2 = x.2 ∧ y.3 = x.3 + (1 : Int) ∧ y.4 = x.4 ∧ (∀ (k : List Int), (k == [x.2, x.3] || x.5 k) = y.5 k) ∧ (∀ (k : List Int), y.5 k = Bool.true → (Bool.true = bif k == [x.2, x.3] then Bool.true else Bool.true) ∧ True) ∧ True) (Bool.true = Bool.false ∧ True) (decide (x.4 ≤ x.3))) (Bool.true = Bool.false ∧ True) (x.5 [x.2, x.3])) x2 (decide (x.3 = x.4))) x2 (decide (x.3 = (64 : Int)))) (gR x.e x.n x.u ∧ ((0 : Int) ≤ IntKind.i64.wrap (x3 - (14 : Int)) ∧ IntKind.i64.wrap (x3 - (14 : Int)) ≤ (64 : Int)) ∧ gR x.e x.n x.u ∧ x.4 ≤ x1_1 ∧ x1_1 ≤ (64 : Int) ∧ x1_1 % (8 : Int) = (0 : Int) ∧ @Bool.rec (fun _ => Prop) (gR x.e x.n (gW x.n x.u (IntKind.i64.wrap (IntKind.i64.wrap (↑(BitVec.ofInt 64 (A ([(0 : Int) ≤ (↑x.i : Int)], (↑x.i : Int).toNat).snd) % BitVec.ofNat 64 (Int.toNat (20 : Int))).toNat : Int) - (14 : Int)))) ∧ ∃ (y : GS), 300 - y.1 < 300 - x.1 ∧ gI m y ∧ m = m ∧ x1 ∧ (↑y.1 : Int) = IntKind.i64.wrap ((↑x.1 : Int) + (1 : Int)) ∧ y.4 = x1_1 ∧ 0 = 0 ∧ y.2 = x.2 ∧ y.3 = x.3 ∧ y.4 = x1_1 ∧ (∀ (k : List Int), x.5 k = y.5 k) ∧ (∀ (k : List Int), y.5 k = Bool.true → Bool.true = Bool.true ∧ True) ∧ True) (Bool.true = Bool.false ∧ True) (decide (x1_1 < x.4))) (decide ((15 : Int) < x3))) (gR x.e x.n x.u ∧ x.2 < (1000000 : Int) ∧ gR (x.e + (1 : Int)) (0 : Int) (0 : Int) ∧ ∃ (y : GS), 300 - y.1 < 300 - x.1 ∧ gI m y ∧ m = m ∧ x1 ∧ (↑y.1 : Int) = IntKind.i64.wrap ((↑x.1 : Int) + (1 : Int)) ∧ y.4 = (0 : Int) ∧ 0 = 0 ∧ y.2 = x.2 + (1 : Int) ∧ y.3 = (0 : Int) ∧ y.4 = (0 : Int) ∧ (∀ (k : List Int), x.5 k = y.5 k) ∧ (∀ (k : List Int), y.5 k = Bool.true → Bool.true = Bool.true ∧ True) ∧ True) (decide (x3 = (19 : Int)))) (decide ((↑x.1 : Int) < (300 : Int)))) (decide ((↑x.1 : Int) < (↑m : Int))) : Prop) := by kernel_rfl
theorem rem20 (z : BitVec 64) : ∃ k : Nat, k < 20 ∧ IntKind.i64.wrap (↑(z % BitVec.ofNat 64 20).toNat : Int) = (k : Int) := by
  have h : (z % BitVec.ofNat 64 20).toNat < 20 := by
    rw [BitVec.toNat_umod]
    exact Nat.mod_lt _ (by decide)
  exact ⟨_, h, wrap_nat _ rfl (by omega)⟩
set_option maxRecDepth 100000 in
theorem bg3 (m : Nat) (A : Nat → Int) (c : Bool) : Must (bodyP Try.prog K4 gl0 [] [(6, lsG m A)] 3000 Try.f3 0 [.ros true 1 m (fun j => [.int .i64 (A j)]) (.is c)] [] (retQ Try.prog Try.f3 0 ⟨[], .bool true, [], []⟩)) := by
  constructor
  rw [vg3]
  intro x1
  have hx1 : x1 := fun y hy => ⟨rfl, rfl, trivial⟩
  clear_value x1
  have hI0 : gI m ⟨0, 0, 0, 0, fun _ => false⟩ := ⟨Nat.zero_le _, Nat.zero_le _, Int.le_refl _, .of (Int.le_refl _) (Int.le_refl _) (Int.le_refl _) (by show (0 : Int) ≤ 64; omega) rfl, fun a b h => by cases h⟩
  refine ⟨⟨⟨0, 0, 0, 0, fun _ => false⟩, hI0, rfl, hx1, rfl, rfl, rfl, rfl, rfl, rfl, fun _ => rfl, fun k h => absurd h Bool.false_ne_true, trivial⟩, ?_⟩
  intro x y1 y2 y3 hI
  obtain ⟨i, e, n, u, P⟩ := x
  have hI : gI m ⟨i, e, n, u, P⟩ := hI
  obtain ⟨k, hk, h3⟩ := rem20 (BitVec.ofInt 64 (A (↑i : Int).toNat))
  have hy3 : y3 = (k : Int) := h3
  have hy1 : y1 = gW n u (IntKind.i64.wrap ((k : Int) - 14)) := by rw [← h3]; rfl
  have hR : gR e n u := hI.R
  have hei : e ≤ i := hI.ei
  have hP : ∀ a b, P [a, b] = true → a < e ∨ (a = e ∧ b < n) := hI.P
  have hi3 : i ≤ 300 := hI.i3
  have him : i ≤ m := hI.im
  have hn0 := hR.n0
  have hnu := hR.nu
  have hu6 := hR.u6
  have he0 := hR.e0
  have hm8 := hR.m
  refine brec (fun c1 => ?_) (fun _ => ⟨rfl, trivial⟩)
  refine brec (fun c2 => ?_) (fun _ => ⟨rfl, trivial⟩)
  have c1 : (i : Int) < m := dt' c1
  have c2 : (i : Int) < 300 := dt' c2
  have hw : ((i + 1 : Nat) : Int) = IntKind.i64.wrap ((i : Int) + 1) := (wrap_nat _ (by omega) (by omega)).symm
  have hs : 300 - (i + 1) < 300 - i := by omega
  have hy2 : n = u → y2 := by
    intro hnu2
    refine ⟨hR, brec (fun d => ?_) (fun _ => ?_)⟩
    · have d : n < u := dt' d
      omega
    · refine ⟨⟨i + 1, e, n, u, P⟩, hs, ⟨?_, ?_, ?_, hR, hP⟩, rfl, hx1, hw, rfl, rfl, rfl, rfl, rfl, fun _ => rfl, fun _ _ => ⟨rfl, trivial⟩, trivial⟩
      · show i + 1 ≤ 300; omega
      · show i + 1 ≤ m; omega
      · show e ≤ ((i + 1 : Nat) : Int); omega
  clear_value y1 y2 y3
  subst hy3
  have hK : 15 < (k : Int) → IntKind.i64.wrap ((k : Int) - 14) = (k : Int) - 14 := fun h => wrap_i64 (by omega) (by omega)
  refine ⟨by show (0 : Int) ≤ (i : Int); omega, by show (↑i : Int).toNat < m; omega, ?_⟩
  refine brec (fun d => ?_) (fun d => ?_)
  · -- Turn
    refine ⟨hR, by show e < 1000000; omega, .of (by show 0 ≤ e + 1; omega) (Int.le_refl _) (Int.le_refl _) (by omega) rfl, ⟨i + 1, e + 1, 0, 0, P⟩, hs, ⟨?_, ?_, ?_, ?_, ?_⟩, rfl, hx1, hw, rfl, rfl, rfl, rfl, rfl, fun _ => rfl, fun _ _ => ⟨rfl, trivial⟩, trivial⟩
    · show i + 1 ≤ 300; omega
    · show i + 1 ≤ m; omega
    · show e + 1 ≤ ((i + 1 : Nat) : Int); omega
    · exact .of (by show 0 ≤ e + 1; omega) (Int.le_refl _) (Int.le_refl _) (by show (0 : Int) ≤ 64; omega) rfl
    · intro a b h
      have := hP a b h
      show a < e + 1 ∨ (a = e + 1 ∧ b < 0)
      omega
  · refine brec (fun d2 => ?_) (fun d2 => ?_)
    · -- Reserve
      have d2 : 15 < (k : Int) := dt' d2
      have hk2 := hK d2
      obtain ⟨w1, w2, w3⟩ := gW_ok hR (show 0 ≤ (k : Int) - 14 by omega)
      rw [← hk2, ← hy1] at w1 w2 w3
      have hR2 : gR e n y1 := .of he0 hn0 (by omega) w2 w3
      refine ⟨hR, ⟨by rw [hk2]; omega, by rw [hk2]; omega⟩, hR, w1, w2, w3, ?_⟩
      refine brec (fun d3 => ?_) (fun d3 => ?_)
      · have d3 : y1 < u := dt' d3
        omega
      · refine ⟨?_, ⟨i + 1, e, n, y1, P⟩, hs, ⟨?_, ?_, ?_, hR2, hP⟩, rfl, hx1, hw, rfl, rfl, rfl, rfl, rfl, fun _ => rfl, fun _ _ => ⟨rfl, trivial⟩, trivial⟩
        · rw [hy1, ← h3] at hR2
          exact hR2
        · show i + 1 ≤ 300; omega
        · show i + 1 ≤ m; omega
        · show e ≤ ((i + 1 : Nat) : Int); omega
    · -- Use
      refine brec (fun d3 => hy2 ?_) (fun d3 => ?_)
      · have d3 : n = 64 := dt' d3
        omega
      · refine brec (fun d4 => hy2 (dt' d4)) (fun d4 => ?_)
        have d4 : ¬ n = u := df' d4
        refine ⟨hR, ?_⟩
        refine brec (fun d5 => ?_) (fun d5 => ?_)
        · have d5 : P [e, n] = true := d5
          have := hP e n d5
          omega
        · refine brec (fun d6 => ?_) (fun d6 => ?_)
          · have d6 : u ≤ n := dt' d6
            omega
          · have hR2 : gR e (n + 1) u := .of he0 (by omega) (by omega) hu6 hm8
            refine ⟨hR2, ⟨i + 1, e, n + 1, u, fun k => k == [e, n] || P k⟩, hs, ⟨?_, ?_, ?_, hR2, ?_⟩, rfl, hx1, hw, rfl, rfl, rfl, rfl, rfl, fun _ => rfl, fun k _ => ⟨?_, trivial⟩, trivial⟩
            · show i + 1 ≤ 300; omega
            · show i + 1 ≤ m; omega
            · show e ≤ ((i + 1 : Nat) : Int); omega
            · intro a b h
              have h : ([a, b] == [e, n] || P [a, b]) = true := h
              show a < e ∨ (a = e ∧ b < n + 1)
              rw [Bool.or_eq_true, beq_iff_eq] at h
              rcases h with h | h
              · simp only [List.cons.injEq, and_true] at h
                omega
              · have := hP a b h
                omega
            · cases (k == [e, n]) <;> rfl
end Go.Sym

/- GateRows: in every row of uses, reservations and turns no number of an epoch is told twice, and none that wasn't reserved. No conditions. -/
namespace Go.Sym
open Go.Proofs Go.Spec
theorem w3 (W : World) (v0 : Value) (A : Nat → Int) (n0 : Nat) (c0 : Bool) (h0 : VRel (κW W) (.ros true 1 n0 (fun j => [.int .i64 (A j)]) (.is c0)) v0) (_k0 : n0 ≤ maxLen) :
    Calls Try.prog 3 #[v0] W fun e w' => e = .returned (.bool true) ∧ RowKit.Below W.heap.size W w' := by
  have hv : VRels (κW W) [.ros true 1 n0 (fun j => [.int .i64 (A j)]) (.is c0)] [v0] := by
    simp only [VRels]
    exact ⟨_, _, rfl, h0, rfl⟩
  refine law_walk (gl := gl0) (Γ := K4) (fn := Try.f3) (av := [.ros true 1 n0 (fun j => [.int .i64 (A j)]) (.is c0)]) (ls := [(6, lsG n0 A)]) [] 3000 (by kernel_rfl) (by kernel_rfl) okK4 (by kernel_rfl) (GW.nil W) (by kernel_rfl) hv ?_
  exact bg3 n0 A c0
end Go.Sym
namespace Go.Proofs.Ytmpgpbbaloiniab.gateRows
open Go.ChangeShapes Go.WideShapes Go.ChangeAt Go.RowKit
set_option linter.unusedVariables false

theorem own : ownKnob Try.prog.godebug = none := by kernel_rfl
theorem laid : laidOutB Try.prog = true := by kernel_rfl

set_option maxRecDepth 100000 in
theorem lifted (os : Os) (started : os.Started) (H : Type) (enc : TypeId × Value → H) :
    ReturnsInHanded {} Try.checked os 3 .any (Rows.gateRowsSpec.pre6 enc Try.prog Try.f3 Rows.gateRowsRow.domain false) (Rows.gateRowsSpec.post enc Try.prog Try.f3 false true false false) := by
  refine returnsInHanded_of_change (C := Try.checked) own started (by kernel_rfl) Try.func3
    (ChangeSpec.witness6 (enc := enc) (C := Try.checked) false ⟨#[], #[.slice none 0 0], []⟩ 8 (by kernel_rfl) (by kernel_rfl) (by kernel_rfl) (by kernel_rfl)) ?_
  intro W base args ds gs before hval0 hW hcnd _
  have hval : ∀ (j : Nat) t v, Try.f3.params[j]? = some t → args[j]? = some v → Value.okWide Try.prog W .any base t v := hval0
  have hW' := hW
  obtain ⟨p, q, hA0, hV, rfl, hfz, hnd⟩ := hW
  have hA : DataW.TrodAll enc Try.prog W 0 (fun _ => true) true Try.f3.params.toList args.toList ds p := hA0
  rw [Try.params3] at hA hval
  obtain ⟨v0, vs0, d0, ds0, p0, q0, hargs, rfl, rfl, h0, r0⟩ := trodAll_cons hA
  obtain ⟨rfl, rfl, rfl⟩ := trodAll_nil r0
  obtain rfl : args = #[v0] := by cases args; simp_all
  obtain ⟨rfl, rfl⟩ := trodVars_none hV
  clear hA0 hval0
  have hlt0 : ∀ x ∈ p0, x.block < W.heap.size := fun x hx => hW'.lt x (by simp [hx])
  obtain ⟨fuel0, hf0⟩ := h0
  obtain ⟨u0, n0, g0, c0, hc0, hcl0, hll0, hg0, hu0⟩ := Go.Sym.rd_rowsF (sz := 1) (l := [.i .i64]) (av0 := [.int .i64 0]) Try.underlying22 (by kernel_rfl) (by decide) (by kernel_rfl) ⟨⟨0, rfl, by kernel_rfl⟩, trivial⟩ hf0
  have hv0 : v0 = u0 := Go.Sym.cells_slice Try.underlying22 (hval 0 22 v0 rfl rfl) hc0
  subst hv0
  obtain ⟨A, rfl⟩ := Go.Sym.sh_one hg0
  refine (Go.Sym.w3 W v0 A n0 c0 hu0 hll0).mono fun e W' ⟨he, bel⟩ => ?_
  subst he
  exact ⟨_, rfl, _, _, _, [], _, [], hW', trodAll_mk1 (shut_bool Try.underlying4 _), (trodAll_cons_mk (Below.trod laid (by kernel_rfl) (of_decide_eq_true (by kernel_rfl)) ⟨fuel0, hf0⟩ bel hlt0) trodAll_mk0), rfl, bel.frame _, fun h => by cases h⟩

theorem over : Rows.gateRowsRow.holds Try.pinned (OpenSpec.ofChange Rows.gateRowsSpec) :=
  OpenClaim.holds_of_wide 3 Try.f3 rfl rfl rfl rfl rfl rfl rfl ⟨rfl, rfl, rfl, rfl, rfl⟩ rfl rfl rfl rfl rfl (by kernel_rfl) Try.func3 (by kernel_rfl)
    (of_decide_eq_true (by kernel_rfl)) (by unfold Func.isWrapper; first | (rw [if_pos (by decide +kernel)]; kernel_rfl) | (rw [if_neg (by decide +kernel)]; exact ⟨rfl, rfl⟩))
    (fun os started H enc _ => lifted os started H enc)

theorem proved : Rows.GateRowsSaid :=
  over
#print axioms proved
end Go.Proofs.Ytmpgpbbaloiniab.gateRows
