/- PolyTags: of all keys and bytes the tag is the document's. No conditions. -/
import Derived.Test.YtplbacakdlomeaaPolyC
import Derived.Test.YtplbacakdlomeaaChaC
import Derived.Test.YtplbacakdlomeaaRows
import Derived.WalkKit
import Derived.ProofKit
import Derived.OpenShut
import Derived.ChangeOld
import Derived.Below
import Derived.Carry
namespace Go.Sym
open Go.Proofs Go.Spec
set_option linter.unusedVariables false
set_option maxRecDepth 100000 in
theorem vc17  : bodyP Try.prog T1 gl0 [] [] 3000 Try.f17 0 [] [] (retQ Try.prog Try.f17 0 (rt (.bool true))) = (
1 = 1 ∧ 1 < 1099511627776 ∧ 0 < 3 ∧ 0 < 3 ∧ 3 = 3 ∧ 3 < 1099511627776 ∧ Bool.true = Bool.true ∧ True : Prop) := by kernel_rfl
set_option maxRecDepth 100000 in
theorem vc7 (k : F8) (b : By) (nl : Bool) : bodyP Try.prog T2 gl0 [] [] 3000 Try.f7 0 [aggB 32 k, .rb true b (.is nl)] [] (retQ Try.prog Try.f7 0 (rt (.bool true))) = (
(0 : Int) ≤ Min.min (↑(List.length b) : Int) (200 : Int) ∧
 (Min.min (↑(List.length b) : Int) (200 : Int)).toNat ≤ List.length b ∧
 (List.take (Min.min (↑(List.length b) : Int) (200 : Int)).toNat b).length < 1099511627776 ∧
 (List.take (Min.min (↑(List.length b) : Int) (200 : Int)).toNat b).length < 1099511627776 ∧
 @Bool.rec (fun _ => Prop) (Bool.true = Bool.false ∧
 True) (Bool.true = decide (List.take (Min.min (↑(List.length b) : Int) (200 : Int)).toNat b = List.take (Min.min (↑(List.length b) : Int) (200 : Int)).toNat b) ∧
 True) (decide (tagS (re32 k) (List.take (Min.min (↑(List.length b) : Int) (200 : Int)).toNat b) 0 = tagS (re32 k) (List.take (Min.min (↑(List.length b) : Int) (200 : Int)).toNat b) 0) && (decide (tagS (re32 k) (List.take (Min.min (↑(List.length b) : Int) (200 : Int)).toNat b) 1 = tagS (re32 k) (List.take (Min.min (↑(List.length b) : Int) (200 : Int)).toNat b) 1) && (decide (tagS (re32 k) (List.take (Min.min (↑(List.length b) : Int) (200 : Int)).toNat b) 2 = tagS (re32 k) (List.take (Min.min (↑(List.length b) : Int) (200 : Int)).toNat b) 2) && (decide (tagS (re32 k) (List.take (Min.min (↑(List.length b) : Int) (200 : Int)).toNat b) 3 = tagS (re32 k) (List.take (Min.min (↑(List.length b) : Int) (200 : Int)).toNat b) 3) && (decide (tagS (re32 k) (List.take (Min.min (↑(List.length b) : Int) (200 : Int)).toNat b) 4 = tagS (re32 k) (List.take (Min.min (↑(List.length b) : Int) (200 : Int)).toNat b) 4) && (decide (tagS (re32 k) (List.take (Min.min (↑(List.length b) : Int) (200 : Int)).toNat b) 5 = tagS (re32 k) (List.take (Min.min (↑(List.length b) : Int) (200 : Int)).toNat b) 5) && (decide (tagS (re32 k) (List.take (Min.min (↑(List.length b) : Int) (200 : Int)).toNat b) 6 = tagS (re32 k) (List.take (Min.min (↑(List.length b) : Int) (200 : Int)).toNat b) 6) && (decide (tagS (re32 k) (List.take (Min.min (↑(List.length b) : Int) (200 : Int)).toNat b) 7 = tagS (re32 k) (List.take (Min.min (↑(List.length b) : Int) (200 : Int)).toNat b) 7) && (decide (tagS (re32 k) (List.take (Min.min (↑(List.length b) : Int) (200 : Int)).toNat b) 8 = tagS (re32 k) (List.take (Min.min (↑(List.length b) : Int) (200 : Int)).toNat b) 8) && (decide (tagS (re32 k) (List.take (Min.min (↑(List.length b) : Int) (200 : Int)).toNat b) 9 = tagS (re32 k) (List.take (Min.min (↑(List.length b) : Int) (200 : Int)).toNat b) 9) && (decide (tagS (re32 k) (List.take (Min.min (↑(List.length b) : Int) (200 : Int)).toNat b) 10 = tagS (re32 k) (List.take (Min.min (↑(List.length b) : Int) (200 : Int)).toNat b) 10) && (decide (tagS (re32 k) (List.take (Min.min (↑(List.length b) : Int) (200 : Int)).toNat b) 11 = tagS (re32 k) (List.take (Min.min (↑(List.length b) : Int) (200 : Int)).toNat b) 11) && (decide (tagS (re32 k) (List.take (Min.min (↑(List.length b) : Int) (200 : Int)).toNat b) 12 = tagS (re32 k) (List.take (Min.min (↑(List.length b) : Int) (200 : Int)).toNat b) 12) && (decide (tagS (re32 k) (List.take (Min.min (↑(List.length b) : Int) (200 : Int)).toNat b) 13 = tagS (re32 k) (List.take (Min.min (↑(List.length b) : Int) (200 : Int)).toNat b) 13) && (decide (tagS (re32 k) (List.take (Min.min (↑(List.length b) : Int) (200 : Int)).toNat b) 14 = tagS (re32 k) (List.take (Min.min (↑(List.length b) : Int) (200 : Int)).toNat b) 14) && (decide (tagS (re32 k) (List.take (Min.min (↑(List.length b) : Int) (200 : Int)).toNat b) 15 = tagS (re32 k) (List.take (Min.min (↑(List.length b) : Int) (200 : Int)).toNat b) 15) && Bool.true)))))))))))))))) : Prop) := by kernel_rfl
end Go.Sym

namespace Go.Sym
open Go.Proofs Go.Spec
set_option linter.unusedVariables false
theorem b17 : Must (bodyP Try.prog T1 gl0 [] [] 3000 Try.f17 0 [] [] (retQ Try.prog Try.f17 0 (rt (.bool true)))) := by
  constructor
  rw [vc17]
  exact ⟨rfl, by omega, by omega, by omega, rfl, by omega, rfl, trivial⟩
theorem okT2 : COKs Try.prog gl0 T2 := okT1.add <| by
  refine ctrE (fn := Try.f17) [] 3000 (by kernel_rfl) (by kernel_rfl) okT1 (by kernel_rfl) (fun args w => by kernel_rfl) fun xs bs r hs ho => ?_
  obtain ⟨rfl, h2⟩ := spK_sel hs
  clear hs
  have hs := h2
  clear h2
  unfold g12 at hs
  split at hs
  · simp only [TL.sel, Option.some.injEq] at hs
    subst hs
    exact ⟨_, b17⟩
  · simp [TL.sel] at hs
theorem b7 (k : F8) (b : By) (nl : Bool) : Must (bodyP Try.prog T2 gl0 [] [] 3000 Try.f7 0 [aggB 32 k, .rb true b (.is nl)] [] (retQ Try.prog Try.f7 0 (rt (.bool true)))) := by
  constructor
  rw [vc7]
  have hM : (List.take (min (b.length : Int) 200).toNat b).length ≤ 200 := by simp; omega
  have h0 : 0 ≤ min (b.length : Int) 200 ∧ (min (b.length : Int) 200).toNat ≤ b.length := by omega
  generalize List.take (min (b.length : Int) 200).toNat b = M at *
  generalize (min (b.length : Int) 200) = m at *
  generalize re32 k = k
  simp only [decide_true, Bool.and_self, and_self, and_true]
  exact ⟨h0.1, h0.2, by omega⟩
end Go.Sym

/- PolyTags: of all keys and bytes the tag is the document's. No conditions. -/
namespace Go.Sym
open Go.Proofs Go.Spec
theorem w7 (W : World) (v0 : Value) (k : F8) (h0 : VRel (κW W) (aggB 32 k) v0) (v1 : Value) (l1 : List (BitVec 8)) (c1 : Bool) (h1 : VRel (κW W) (.rb true l1 (.is c1)) v1) (_k1 : l1.length ≤ maxLen) :
    Calls Try.prog 7 #[v0, v1] W fun e w' => e = .returned (.bool true) ∧ RowKit.Below W.heap.size W w' := by
  have hv : VRels (κW W) [aggB 32 k, .rb true l1 (.is c1)] [v0, v1] := by
    simp only [VRels]
    exact ⟨_, _, rfl, h0, _, _, rfl, h1, rfl⟩
  refine law_walk (gl := gl0) (Γ := T2) (fn := Try.f7) (av := [aggB 32 k, .rb true l1 (.is c1)]) (ls := []) [] 3000 (by kernel_rfl) (by kernel_rfl) okT2 (by kernel_rfl) (GW.nil W) (by kernel_rfl) hv ?_
  exact b7 k l1 c1
end Go.Sym
namespace Go.Proofs.Ytplbacakdlomeaa.polyTags
open Go.ChangeShapes Go.WideShapes Go.ChangeAt Go.RowKit
set_option linter.unusedVariables false

theorem own : ownKnob Try.prog.godebug = none := by kernel_rfl
theorem laid : laidOutB Try.prog = true := by kernel_rfl

set_option maxRecDepth 100000 in
theorem lifted (os : Os) (started : os.Started) (H : Type) (enc : TypeId × Value → H) :
    ReturnsInHanded {} Try.checked os 7 .any (Rows.polyTagsSpec.pre6 enc Try.prog Try.f7 Rows.polyTagsRow.domain false) (Rows.polyTagsSpec.post enc Try.prog Try.f7 false true false false) := by
  refine returnsInHanded_of_change (C := Try.checked) own started (by kernel_rfl) Try.func7
    (ChangeSpec.witness6 (enc := enc) (C := Try.checked) false ⟨#[], #[.agg (Array.replicate 32 (.int .u8 0)), .slice none 0 0], []⟩ 8 (by kernel_rfl) (by kernel_rfl) (by kernel_rfl) (by kernel_rfl)) ?_
  intro W base args ds gs before hval0 hW hcnd _
  have hval : ∀ (j : Nat) t v, Try.f7.params[j]? = some t → args[j]? = some v → Value.okWide Try.prog W .any base t v := hval0
  have hW' := hW
  obtain ⟨p, q, hA0, hV, rfl, hfz, hnd⟩ := hW
  have hA : DataW.TrodAll enc Try.prog W 0 (fun _ => true) true Try.f7.params.toList args.toList ds p := hA0
  rw [Try.params7] at hA hval
  obtain ⟨v0, vs0, d0, ds0, p0, q0, hargs, rfl, rfl, h0, r0⟩ := trodAll_cons hA
  obtain ⟨v1, vs1, d1, ds1, p1, q1, rfl, rfl, rfl, h1, r1⟩ := trodAll_cons r0
  obtain ⟨rfl, rfl, rfl⟩ := trodAll_nil r1
  obtain rfl : args = #[v0, v1] := by cases args; simp_all
  obtain ⟨rfl, rfl⟩ := trodVars_none hV
  clear hA0 hval0
  have hlt0 : ∀ x ∈ p0, x.block < W.heap.size := fun x hx => hW'.lt x (by simp [hx])
  obtain ⟨fuel0, hf0⟩ := h0
  obtain ⟨avs0, hs0, hd0, hr0⟩ := Go.Sym.rd_flat 9 22 (List.replicate 32 (.i .u8)) _ _ _ (by kernel_rfl) hf0
  obtain ⟨k, rfl⟩ := Go.Sym.sh_by hs0
  have hu0 := Go.Sym.agg_of_cells hr0 (by simp)
  have hlt1 : ∀ x ∈ p1, x.block < W.heap.size := fun x hx => hW'.lt x (by simp [hx])
  obtain ⟨fuel1, hf1⟩ := h1
  obtain ⟨u1, l1, c1, hc1, hcl1, hll1, hu1⟩ := Go.Sym.rd_bytes Try.underlying29 Try.underlying5 (by kernel_rfl) hf1
  have hv1 : v1 = u1 := Go.Sym.cells_slice Try.underlying29 (hval 1 29 v1 rfl rfl) hc1
  subst hv1
  refine (Go.Sym.w7 W v0 k hu0 v1 l1 c1 hu1 hll1).mono fun e W' ⟨he, bel⟩ => ?_
  subst he
  exact ⟨_, rfl, _, _, _, [], _, [], hW', trodAll_mk1 (shut_bool Try.underlying4 _), (trodAll_cons_mk (Below.trod laid (by kernel_rfl) (of_decide_eq_true (by kernel_rfl)) ⟨fuel0, hf0⟩ bel hlt0) (trodAll_cons_mk (Below.trod laid (by kernel_rfl) (of_decide_eq_true (by kernel_rfl)) ⟨fuel1, hf1⟩ bel hlt1) trodAll_mk0)), rfl, bel.frame _, fun h => by cases h⟩

theorem over : Rows.polyTagsRow.holds Try.pinned (OpenSpec.ofChange Rows.polyTagsSpec) :=
  OpenClaim.holds_of_wide 7 Try.f7 rfl rfl rfl rfl rfl rfl rfl ⟨rfl, rfl, rfl, rfl, rfl⟩ rfl rfl rfl rfl rfl (by kernel_rfl) Try.func7 (by kernel_rfl)
    (of_decide_eq_true (by kernel_rfl)) (by unfold Func.isWrapper; first | (rw [if_pos (by decide +kernel)]; kernel_rfl) | (rw [if_neg (by decide +kernel)]; exact ⟨rfl, rfl⟩))
    (fun os started H enc _ => lifted os started H enc)

theorem proved : Rows.PolyTagsSaid :=
  over
#print axioms proved
end Go.Proofs.Ytplbacakdlomeaa.polyTags
