/- AeadSeals: of all keys, nonces and texts what is sealed is the document's; it is opened again. No conditions. -/
import Derived.Test.YtdenpaggdkfaeaaChaC
import Derived.Test.YtdenpaggdkfaeaaAeadB
import Derived.Test.YtdenpaggdkfaeaaRows
import Derived.WalkKit
import Derived.ProofKit
import Derived.OpenShut
import Derived.ChangeOld
import Derived.Below
import Derived.Carry
/- AeadSeals: of all keys, nonces and texts what is sealed is the document's; it is opened again. No conditions. -/
namespace Go.Sym
open Go.Proofs Go.Spec
theorem w3 (W : World) (v0 : Value) (k n : F8) (h0 : VRel (κW W) (.agg (row8 32 k ++ row8 12 n)) v0) (v1 : Value) (l1 : List (BitVec 8)) (c1 : Bool) (h1 : VRel (κW W) (.rb true l1 (.is c1)) v1) (_k1 : l1.length ≤ maxLen) (v2 : Value) (l2 : List (BitVec 8)) (c2 : Bool) (h2 : VRel (κW W) (.rb true l2 (.is c2)) v2) (_k2 : l2.length ≤ maxLen) :
    Calls Try.prog 3 #[v0, v1, v2] W fun e w' => e = .returned (.bool true) ∧ RowKit.Below W.heap.size W w' := by
  have hv : VRels (κW W) [.agg (row8 32 k ++ row8 12 n), .rb true l1 (.is c1), .rb true l2 (.is c2)] [v0, v1, v2] := by
    simp only [VRels]
    exact ⟨_, _, rfl, h0, _, _, rfl, h1, _, _, rfl, h2, rfl⟩
  refine law_walk (gl := gl0) (Γ := Y6) (fn := Try.f3) (av := [.agg (row8 32 k ++ row8 12 n), .rb true l1 (.is c1), .rb true l2 (.is c2)]) (ls := []) [] 3000 (by kernel_rfl) (by kernel_rfl) okY6 (by kernel_rfl) (GW.nil W) (by kernel_rfl) hv ?_
  exact b3 k n l1 l2 c1 c2
end Go.Sym
namespace Go.Proofs.Ytdenpaggdkfaeaa.aeadSeals
open Go.ChangeShapes Go.WideShapes Go.ChangeAt Go.RowKit
set_option linter.unusedVariables false

theorem own : ownKnob Try.prog.godebug = none := by kernel_rfl
theorem laid : laidOutB Try.prog = true := by kernel_rfl

set_option maxRecDepth 100000 in
theorem lifted (os : Os) (started : os.Started) (H : Type) (enc : TypeId × Value → H) :
    ReturnsInHanded {} Try.checked os 3 .any (Rows.aeadSealsSpec.pre6 enc Try.prog Try.f3 Rows.aeadSealsRow.domain false) (Rows.aeadSealsSpec.post enc Try.prog Try.f3 false true false false) := by
  refine returnsInHanded_of_change (C := Try.checked) own started (by kernel_rfl) Try.func3
    (ChangeSpec.witness6 (enc := enc) (C := Try.checked) false ⟨#[], #[.agg (Array.replicate 44 (.int .u8 0)), .slice none 0 0, .slice none 0 0], []⟩ 8 (by kernel_rfl) (by kernel_rfl) (by kernel_rfl) (by kernel_rfl)) ?_
  intro W base args ds gs before hval0 hW hcnd _
  have hval : ∀ (j : Nat) t v, Try.f3.params[j]? = some t → args[j]? = some v → Value.okWide Try.prog W .any base t v := hval0
  have hW' := hW
  obtain ⟨p, q, hA0, hV, rfl, hfz, hnd⟩ := hW
  have hA : DataW.TrodAll enc Try.prog W 0 (fun _ => true) true Try.f3.params.toList args.toList ds p := hA0
  rw [Try.params3] at hA hval
  obtain ⟨v0, vs0, d0, ds0, p0, q0, hargs, rfl, rfl, h0, r0⟩ := trodAll_cons hA
  obtain ⟨v1, vs1, d1, ds1, p1, q1, rfl, rfl, rfl, h1, r1⟩ := trodAll_cons r0
  obtain ⟨v2, vs2, d2, ds2, p2, q2, rfl, rfl, rfl, h2, r2⟩ := trodAll_cons r1
  obtain ⟨rfl, rfl, rfl⟩ := trodAll_nil r2
  obtain rfl : args = #[v0, v1, v2] := by cases args; simp_all
  obtain ⟨rfl, rfl⟩ := trodVars_none hV
  clear hA0 hval0
  have hlt0 : ∀ x ∈ p0, x.block < W.heap.size := fun x hx => hW'.lt x (by simp [hx])
  obtain ⟨fuel0, hf0⟩ := h0
  obtain ⟨avs0, hs0, hd0, hr0⟩ := Go.Sym.rd_flat 9 25 (List.replicate 32 (.i .u8) ++ List.replicate 12 (.i .u8)) _ _ _ (by kernel_rfl) hf0
  obtain ⟨k, n, rfl⟩ := Go.Sym.sh_case hs0
  have hu0 := Go.Sym.agg_of_cells hr0 (by simp [Go.Sym.row8])
  have hlt1 : ∀ x ∈ p1, x.block < W.heap.size := fun x hx => hW'.lt x (by simp [hx])
  obtain ⟨fuel1, hf1⟩ := h1
  obtain ⟨u1, l1, c1, hc1, hcl1, hll1, hu1⟩ := Go.Sym.rd_bytes Try.underlying26 Try.underlying5 (by kernel_rfl) hf1
  have hv1 : v1 = u1 := Go.Sym.cells_slice Try.underlying26 (hval 1 26 v1 rfl rfl) hc1
  subst hv1
  have hlt2 : ∀ x ∈ p2, x.block < W.heap.size := fun x hx => hW'.lt x (by simp [hx])
  obtain ⟨fuel2, hf2⟩ := h2
  obtain ⟨u2, l2, c2, hc2, hcl2, hll2, hu2⟩ := Go.Sym.rd_bytes Try.underlying26 Try.underlying5 (by kernel_rfl) hf2
  have hv2 : v2 = u2 := Go.Sym.cells_slice Try.underlying26 (hval 2 26 v2 rfl rfl) hc2
  subst hv2
  refine (Go.Sym.w3 W v0 k n hu0 v1 l1 c1 hu1 hll1 v2 l2 c2 hu2 hll2).mono fun e W' ⟨he, bel⟩ => ?_
  subst he
  exact ⟨_, rfl, _, _, _, [], _, [], hW', trodAll_mk1 (shut_bool Try.underlying4 _), (trodAll_cons_mk (Below.trod laid (by kernel_rfl) (of_decide_eq_true (by kernel_rfl)) ⟨fuel0, hf0⟩ bel hlt0) (trodAll_cons_mk (Below.trod laid (by kernel_rfl) (of_decide_eq_true (by kernel_rfl)) ⟨fuel1, hf1⟩ bel hlt1) (trodAll_cons_mk (Below.trod laid (by kernel_rfl) (of_decide_eq_true (by kernel_rfl)) ⟨fuel2, hf2⟩ bel hlt2) trodAll_mk0))), rfl, bel.frame _, fun h => by cases h⟩

theorem over : Rows.aeadSealsRow.holds Try.pinned (OpenSpec.ofChange Rows.aeadSealsSpec) :=
  OpenClaim.holds_of_wide 3 Try.f3 rfl rfl rfl rfl rfl rfl rfl ⟨rfl, rfl, rfl, rfl, rfl⟩ rfl rfl rfl rfl rfl (by kernel_rfl) Try.func3 (by kernel_rfl)
    (of_decide_eq_true (by kernel_rfl)) (by unfold Func.isWrapper; first | (rw [if_pos (by decide +kernel)]; kernel_rfl) | (rw [if_neg (by decide +kernel)]; exact ⟨rfl, rfl⟩))
    (fun os started H enc _ => lifted os started H enc)

theorem proved : Rows.AeadSealsSaid :=
  over
#print axioms proved
end Go.Proofs.Ytdenpaggdkfaeaa.aeadSeals
