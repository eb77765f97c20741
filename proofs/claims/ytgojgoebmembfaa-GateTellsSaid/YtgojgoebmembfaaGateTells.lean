/- GateTells: of all gates and counts the calls tell what the document tells. No conditions. -/
import Derived.Test.YtgojgoebmembfaaGateA
import Derived.Test.YtgojgoebmembfaaRows
import Derived.WalkKit
import Derived.ProofKit
import Derived.OpenShut
import Derived.ChangeOld
import Derived.Below
import Derived.Carry
namespace Go.Sym
open Go.Proofs Go.Spec
set_option linter.unusedVariables false
theorem b3 (e n u m : Int) : Must (bodyP Try.prog C12 gl0 [] [] 300 Try.f3 0 [ag e n u, .int .i64 m] [] (retQ Try.prog Try.f3 0 (ret (.bool true)))) := by
  constructor
  rw [vc3]
  cases hr : rightG e n u
  · have e1 : resG e n u m = false := by simp [resG, hr]
    have e2 : useE e n u = 1 := by simp [useE, hr]
    have e3 : useG e n u = false := by simp [useG, e2]
    have e4 : leftG e n u = 0 := by simp [leftG, hr]
    have e5 : turnG e n u = 0 := by simp [turnG, hr]
    simp [e1, e2, e3, e4, e5]
  · have hR := rightG_iff.1 hr
    have e4 : leftG e n u = 64 - n := by simp [leftG, hr]
    have e5 : turnG e n u = max (IntKind.i64.wrap (e + 1)) 0 := by simp [turnG, hr]
    have w1 : IntKind.i64.wrap (64 - n) = 64 - n := wrap_i64 (by omega) (by omega)
    have w2 : IntKind.i64.wrap (n + 1) = n + 1 := wrap_i64 (by omega) (by omega)
    have e2 : useE e n u = if n = 64 then 8 else if n = u then 7 else 0 := by simp [useE, hr]
    have e3 : useG e n u = (!decide (n = 64) && !decide (n = u)) := by
      unfold useG; rw [e2]
      by_cases h1 : n = 64
      · simp [h1]
      · by_cases h2 : n = u
        · have h3 : ¬ u = 64 := by omega
          simp [h2, h3]
        · simp [h1, h2]
    have e1 : resG e n u m = (decide (m.tmod 8 = 0) && !decide (m < u) && !decide (64 < m)) := by
      unfold resG endG
      rw [hr, Bool.eq_iff_iff]
      simp
      omega
    rw [e4, e5, w1, w2, e1, e2, e3]
    cases h1 : decide (m.tmod 8 = 0) <;> cases h2 : decide (m < u) <;> cases h3 : decide (64 < m) <;> by_cases h4 : n = 64 <;> by_cases h5 : n = u <;> simp [h4, h5] <;> simp_all
end Go.Sym

namespace Go.Sym
theorem sh3 {avs : List AV} (h : shAll [.i .i64, .i .i64, .i .i64] avs) : ∃ e n u, avs = [.int .i64 e, .int .i64 n, .int .i64 u] := by
  obtain ⟨a, r, rfl, ha, h⟩ := sh_cons h
  obtain ⟨b, r, rfl, hb, h⟩ := sh_cons h
  obtain ⟨c, r, rfl, hc, h⟩ := sh_cons h
  obtain rfl := sh_nil h
  obtain ⟨e, rfl⟩ := sh_i64 ha
  obtain ⟨n, rfl⟩ := sh_i64 hb
  obtain ⟨u, rfl⟩ := sh_i64 hc
  exact ⟨e, n, u, rfl⟩
end Go.Sym

/- GateTells: of all gates and counts the calls tell what the document tells. No conditions. -/
namespace Go.Sym
open Go.Proofs
theorem w3 (W : World) (v0 : Value) (e n u : Int) (h0 : VRel (κW W) (.agg [.int .i64 e, .int .i64 n, .int .i64 u]) v0) (n1 : Int) :
    Calls Try.prog 3 #[v0, .int .i64 n1] W fun e w' => e = .returned (.bool true) ∧ RowKit.Below W.heap.size W w' := by
  have hv : VRels (κW W) [.agg [.int .i64 e, .int .i64 n, .int .i64 u], .int .i64 n1] [v0, .int .i64 n1] := by
    simp only [VRels]
    exact ⟨_, _, rfl, h0, _, _, rfl, rfl, rfl⟩
  refine law_walk (gl := gl0) (Γ := C12) (fn := Try.f3) (av := [.agg [.int .i64 e, .int .i64 n, .int .i64 u], .int .i64 n1]) (ls := []) [] 300 (by kernel_rfl) (by kernel_rfl) ok12 (by kernel_rfl) (GW.nil W) (by kernel_rfl) hv ?_
  exact b3 e n u n1
end Go.Sym
namespace Go.Proofs.Ytgojgoebmembfaa.gateTells
open Go.ChangeShapes Go.WideShapes Go.ChangeAt Go.RowKit
set_option linter.unusedVariables false

theorem own : ownKnob Try.prog.godebug = none := by kernel_rfl
theorem laid : laidOutB Try.prog = true := by kernel_rfl

set_option maxRecDepth 100000 in
theorem lifted (os : Os) (started : os.Started) (H : Type) (enc : TypeId × Value → H) :
    ReturnsInHanded {} Try.checked os 3 .any (Rows.gateTellsSpec.pre6 enc Try.prog Try.f3 Rows.gateTellsRow.domain false) (Rows.gateTellsSpec.post enc Try.prog Try.f3 false true false false) := by
  refine returnsInHanded_of_change (C := Try.checked) own started (by kernel_rfl) Try.func3
    (ChangeSpec.witness6 (enc := enc) (C := Try.checked) false ⟨#[], #[.agg #[.int .i64 0, .int .i64 0, .int .i64 0], .int .i64 0], []⟩ 8 (by kernel_rfl) (by kernel_rfl) (by kernel_rfl) (by kernel_rfl)) ?_
  intro W base args ds gs before hval0 hW hcnd _
  have hval : ∀ (j : Nat) t v, Try.f3.params[j]? = some t → args[j]? = some v → Value.okWide Try.prog W .any base t v := hval0
  have hW' := hW
  obtain ⟨p, q, hA0, hV, rfl, hfz, hnd⟩ := hW
  have hA : DataW.TrodAll enc Try.prog W 0 (fun _ => true) true Try.f3.params.toList args.toList ds p := hA0
  rw [Try.params3] at hA hval
  obtain ⟨v0, vs0, d0, ds0, p0, q0, hargs, rfl, rfl, h0, r0⟩ := trodAll_cons hA
  obtain ⟨v1, vs1, d1, ds1, p1, q1, rfl, rfl, rfl, h1, r1⟩ := trodAll_cons r0
  obtain ⟨rfl, rfl, rfl⟩ := trodAll_nil r1
  obtain rfl : args = #[v0, v1] := by cases args; simp_all
  obtain ⟨rfl, rfl⟩ := trodVars_none hV
  obtain ⟨a1, rfl, rfl, rfl, w1⟩ := open_int Try.underlying3 (hval 1 3 v1 rfl rfl) h1
  clear hA0 hval0
  have hlt0 : ∀ x ∈ p0, x.block < W.heap.size := fun x hx => hW'.lt x (by simp [hx])
  obtain ⟨fuel0, hf0⟩ := h0
  obtain ⟨avs0, hs0, hd0, hr0⟩ := Go.Sym.rd_flat 9 23 ([.i .i64, .i .i64, .i .i64]) _ _ _ (by kernel_rfl) hf0
  obtain ⟨e, n, u, rfl⟩ := Go.Sym.sh3 hs0
  have hu0 := Go.Sym.agg_of_cells hr0 (by simp)
  refine (Go.Sym.w3 W v0 e n u hu0 a1).mono fun e W' ⟨he, bel⟩ => ?_
  subst he
  exact ⟨_, rfl, _, _, _, [], _, [], hW', trodAll_mk1 (shut_bool Try.underlying4 _), (trodAll_cons_mk (Below.trod laid (by kernel_rfl) (of_decide_eq_true (by kernel_rfl)) ⟨fuel0, hf0⟩ bel hlt0) (trodAll_cons_mk (shut_int Try.underlying3 w1) trodAll_mk0)), rfl, bel.frame _, fun h => by cases h⟩

theorem over : Rows.gateTellsRow.holds Try.pinned (OpenSpec.ofChange Rows.gateTellsSpec) :=
  OpenClaim.holds_of_wide 3 Try.f3 rfl rfl rfl rfl rfl rfl rfl ⟨rfl, rfl, rfl, rfl, rfl⟩ rfl rfl rfl rfl rfl (by kernel_rfl) Try.func3 (by kernel_rfl)
    (of_decide_eq_true (by kernel_rfl)) (by unfold Func.isWrapper; first | (rw [if_pos (by decide +kernel)]; kernel_rfl) | (rw [if_neg (by decide +kernel)]; exact ⟨rfl, rfl⟩))
    (fun os started H enc _ => lifted os started H enc)

theorem proved : Rows.GateTellsSaid :=
  over
#print axioms proved
end Go.Proofs.Ytgojgoebmembfaa.gateTells
