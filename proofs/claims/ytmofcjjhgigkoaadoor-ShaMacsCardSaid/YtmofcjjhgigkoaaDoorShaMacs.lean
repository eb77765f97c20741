/- ShaMacs: of all keys and texts the sum under a key is the one of the document. Condition: the two tables of the package start as the text of the program lays them, which the card ties. -/
import Derived.Test.YtmofcjjhgigkoaaDoorShaD
import Derived.Test.YtmofcjjhgigkoaaDoorShaC
namespace Go.Sym
open Go.Proofs Go.Spec
set_option linter.unusedVariables false
set_option maxRecDepth 100000 in
theorem vc4 (l k : By) (c d : Bool) : bodyP Tryd.prog R6 gl0 [] [] 3000 Tryd.f4 0 [.rb true l (.is c), .rb true k (.is d)] [] (retQ Tryd.prog Tryd.f4 0 ⟨[], .bool true, [], []⟩) = (
(0 : Int) ≤ Min.min (↑(List.length l) : Int) (150 : Int) ∧
 (Min.min (↑(List.length l) : Int) (150 : Int)).toNat ≤ List.length l ∧
 (0 : Int) ≤ Min.min (↑(List.length k) : Int) (150 : Int) ∧
 (Min.min (↑(List.length k) : Int) (150 : Int)).toNat ≤ List.length k ∧
 ((List.take (Min.min (↑(List.length l) : Int) (150 : Int)).toNat l).length < (4611686018427387904 : Nat) ∧ (List.take (Min.min (↑(List.length k) : Int) (150 : Int)).toNat k).length < (4611686018427387904 : Nat)) ∧
 (List.take (Min.min (↑(List.length l) : Int) (150 : Int)).toNat l).length < (17592186044416 : Nat) ∧
 (List.take (Min.min (↑(List.length k) : Int) (150 : Int)).toNat k).length < (17592186044416 : Nat) ∧
 Bool.true =
 (Decidable.decide (macB (List.take (Min.min (↑(List.length l) : Int) (150 : Int)).toNat l) (List.take (Min.min (↑(List.length k) : Int) (150 : Int)).toNat k) 0 = macB (List.take (Min.min (↑(List.length l) : Int) (150 : Int)).toNat l) (List.take (Min.min (↑(List.length k) : Int) (150 : Int)).toNat k) 0) &&
 (Decidable.decide (macB (List.take (Min.min (↑(List.length l) : Int) (150 : Int)).toNat l) (List.take (Min.min (↑(List.length k) : Int) (150 : Int)).toNat k) 1 = macB (List.take (Min.min (↑(List.length l) : Int) (150 : Int)).toNat l) (List.take (Min.min (↑(List.length k) : Int) (150 : Int)).toNat k) 1) &&
 (Decidable.decide (macB (List.take (Min.min (↑(List.length l) : Int) (150 : Int)).toNat l) (List.take (Min.min (↑(List.length k) : Int) (150 : Int)).toNat k) 2 = macB (List.take (Min.min (↑(List.length l) : Int) (150 : Int)).toNat l) (List.take (Min.min (↑(List.length k) : Int) (150 : Int)).toNat k) 2) &&
 (Decidable.decide (macB (List.take (Min.min (↑(List.length l) : Int) (150 : Int)).toNat l) (List.take (Min.min (↑(List.length k) : Int) (150 : Int)).toNat k) 3 = macB (List.take (Min.min (↑(List.length l) : Int) (150 : Int)).toNat l) (List.take (Min.min (↑(List.length k) : Int) (150 : Int)).toNat k) 3) &&
 (Decidable.decide (macB (List.take (Min.min (↑(List.length l) : Int) (150 : Int)).toNat l) (List.take (Min.min (↑(List.length k) : Int) (150 : Int)).toNat k) 4 = macB (List.take (Min.min (↑(List.length l) : Int) (150 : Int)).toNat l) (List.take (Min.min (↑(List.length k) : Int) (150 : Int)).toNat k) 4) &&
 (Decidable.decide (macB (List.take (Min.min (↑(List.length l) : Int) (150 : Int)).toNat l) (List.take (Min.min (↑(List.length k) : Int) (150 : Int)).toNat k) 5 = macB (List.take (Min.min (↑(List.length l) : Int) (150 : Int)).toNat l) (List.take (Min.min (↑(List.length k) : Int) (150 : Int)).toNat k) 5) &&
 (Decidable.decide (macB (List.take (Min.min (↑(List.length l) : Int) (150 : Int)).toNat l) (List.take (Min.min (↑(List.length k) : Int) (150 : Int)).toNat k) 6 = macB (List.take (Min.min (↑(List.length l) : Int) (150 : Int)).toNat l) (List.take (Min.min (↑(List.length k) : Int) (150 : Int)).toNat k) 6) &&
 (Decidable.decide (macB (List.take (Min.min (↑(List.length l) : Int) (150 : Int)).toNat l) (List.take (Min.min (↑(List.length k) : Int) (150 : Int)).toNat k) 7 = macB (List.take (Min.min (↑(List.length l) : Int) (150 : Int)).toNat l) (List.take (Min.min (↑(List.length k) : Int) (150 : Int)).toNat k) 7) &&
 (Decidable.decide (macB (List.take (Min.min (↑(List.length l) : Int) (150 : Int)).toNat l) (List.take (Min.min (↑(List.length k) : Int) (150 : Int)).toNat k) 8 = macB (List.take (Min.min (↑(List.length l) : Int) (150 : Int)).toNat l) (List.take (Min.min (↑(List.length k) : Int) (150 : Int)).toNat k) 8) &&
 (Decidable.decide (macB (List.take (Min.min (↑(List.length l) : Int) (150 : Int)).toNat l) (List.take (Min.min (↑(List.length k) : Int) (150 : Int)).toNat k) 9 = macB (List.take (Min.min (↑(List.length l) : Int) (150 : Int)).toNat l) (List.take (Min.min (↑(List.length k) : Int) (150 : Int)).toNat k) 9) &&
 (Decidable.decide (macB (List.take (Min.min (↑(List.length l) : Int) (150 : Int)).toNat l) (List.take (Min.min (↑(List.length k) : Int) (150 : Int)).toNat k) 10 = macB (List.take (Min.min (↑(List.length l) : Int) (150 : Int)).toNat l) (List.take (Min.min (↑(List.length k) : Int) (150 : Int)).toNat k) 10) &&
 (Decidable.decide (macB (List.take (Min.min (↑(List.length l) : Int) (150 : Int)).toNat l) (List.take (Min.min (↑(List.length k) : Int) (150 : Int)).toNat k) 11 = macB (List.take (Min.min (↑(List.length l) : Int) (150 : Int)).toNat l) (List.take (Min.min (↑(List.length k) : Int) (150 : Int)).toNat k) 11) &&
 (Decidable.decide (macB (List.take (Min.min (↑(List.length l) : Int) (150 : Int)).toNat l) (List.take (Min.min (↑(List.length k) : Int) (150 : Int)).toNat k) 12 = macB (List.take (Min.min (↑(List.length l) : Int) (150 : Int)).toNat l) (List.take (Min.min (↑(List.length k) : Int) (150 : Int)).toNat k) 12) &&
 (Decidable.decide (macB (List.take (Min.min (↑(List.length l) : Int) (150 : Int)).toNat l) (List.take (Min.min (↑(List.length k) : Int) (150 : Int)).toNat k) 13 = macB (List.take (Min.min (↑(List.length l) : Int) (150 : Int)).toNat l) (List.take (Min.min (↑(List.length k) : Int) (150 : Int)).toNat k) 13) &&
 (Decidable.decide (macB (List.take (Min.min (↑(List.length l) : Int) (150 : Int)).toNat l) (List.take (Min.min (↑(List.length k) : Int) (150 : Int)).toNat k) 14 = macB (List.take (Min.min (↑(List.length l) : Int) (150 : Int)).toNat l) (List.take (Min.min (↑(List.length k) : Int) (150 : Int)).toNat k) 14) &&
 (Decidable.decide (macB (List.take (Min.min (↑(List.length l) : Int) (150 : Int)).toNat l) (List.take (Min.min (↑(List.length k) : Int) (150 : Int)).toNat k) 15 = macB (List.take (Min.min (↑(List.length l) : Int) (150 : Int)).toNat l) (List.take (Min.min (↑(List.length k) : Int) (150 : Int)).toNat k) 15) &&
 (Decidable.decide (macB (List.take (Min.min (↑(List.length l) : Int) (150 : Int)).toNat l) (List.take (Min.min (↑(List.length k) : Int) (150 : Int)).toNat k) 16 = macB (List.take (Min.min (↑(List.length l) : Int) (150 : Int)).toNat l) (List.take (Min.min (↑(List.length k) : Int) (150 : Int)).toNat k) 16) &&
 (Decidable.decide (macB (List.take (Min.min (↑(List.length l) : Int) (150 : Int)).toNat l) (List.take (Min.min (↑(List.length k) : Int) (150 : Int)).toNat k) 17 = macB (List.take (Min.min (↑(List.length l) : Int) (150 : Int)).toNat l) (List.take (Min.min (↑(List.length k) : Int) (150 : Int)).toNat k) 17) &&
 (Decidable.decide (macB (List.take (Min.min (↑(List.length l) : Int) (150 : Int)).toNat l) (List.take (Min.min (↑(List.length k) : Int) (150 : Int)).toNat k) 18 = macB (List.take (Min.min (↑(List.length l) : Int) (150 : Int)).toNat l) (List.take (Min.min (↑(List.length k) : Int) (150 : Int)).toNat k) 18) &&
 (Decidable.decide (macB (List.take (Min.min (↑(List.length l) : Int) (150 : Int)).toNat l) (List.take (Min.min (↑(List.length k) : Int) (150 : Int)).toNat k) 19 = macB (List.take (Min.min (↑(List.length l) : Int) (150 : Int)).toNat l) (List.take (Min.min (↑(List.length k) : Int) (150 : Int)).toNat k) 19) &&
 (Decidable.decide (macB (List.take (Min.min (↑(List.length l) : Int) (150 : Int)).toNat l) (List.take (Min.min (↑(List.length k) : Int) (150 : Int)).toNat k) 20 = macB (List.take (Min.min (↑(List.length l) : Int) (150 : Int)).toNat l) (List.take (Min.min (↑(List.length k) : Int) (150 : Int)).toNat k) 20) &&
 (Decidable.decide (macB (List.take (Min.min (↑(List.length l) : Int) (150 : Int)).toNat l) (List.take (Min.min (↑(List.length k) : Int) (150 : Int)).toNat k) 21 = macB (List.take (Min.min (↑(List.length l) : Int) (150 : Int)).toNat l) (List.take (Min.min (↑(List.length k) : Int) (150 : Int)).toNat k) 21) && (Decidable.decide (macB (List.take (Min.min (↑(List.length l) : Int) (150 : Int)).toNat l) (List.take (Min.min (↑(List.length k) : Int) (150 : Int)).toNat k) 22 = macB (List.take (Min.min (↑(List.length l) : Int) (150 : Int)).toNat l) (List.take (Min.min (↑(List.length k) : Int) (150 : Int)).toNat k) 22) && (Decidable.decide (macB (List.take (Min.min (↑(List.length l) : Int) (150 : Int)).toNat l) (List.take (Min.min (↑(List.length k) : Int) (150 : Int)).toNat k) 23 = macB (List.take (Min.min (↑(List.length l) : Int) (150 : Int)).toNat l) (List.take (Min.min (↑(List.length k) : Int) (150 : Int)).toNat k) 23) && (Decidable.decide (macB (List.take (Min.min (↑(List.length l) : Int) (150 : Int)).toNat l) (List.take (Min.min (↑(List.length k) : Int) (150 : Int)).toNat k) 24 = macB (List.take (Min.min (↑(List.length l) : Int) (150 : Int)).toNat l) (List.take (Min.min (↑(List.length k) : Int) (150 : Int)).toNat k) 24) && (Decidable.decide (macB (List.take (Min.min (↑(List.length l) : Int) (150 : Int)).toNat l) (List.take (Min.min (↑(List.length k) : Int) (150 : Int)).toNat k) 25 = macB (List.take (Min.min (↑(List.length l) : Int) (150 : Int)).toNat l) (List.take (Min.min (↑(List.length k) : Int) (150 : Int)).toNat k) 25) && (Decidable.decide (macB (List.take (Min.min (↑(List.length l) : Int) (150 : Int)).toNat l) (List.take (Min.min (↑(List.length k) : Int) (150 : Int)).toNat k) 26 = macB (List.take (Min.min (↑(List.length l) : Int) (150 : Int)).toNat l) (List.take (Min.min (↑(List.length k) : Int) (150 : Int)).toNat k) 26) && (Decidable.decide (macB (List.take (Min.min (↑(List.length l) : Int) (150 : Int)).toNat l) (List.take (Min.min (↑(List.length k) : Int) (150 : Int)).toNat k) 27 = macB (List.take (Min.min (↑(List.length l) : Int) (150 : Int)).toNat l) (List.take (Min.min (↑(List.length k) : Int) (150 : Int)).toNat k) 27) && (Decidable.decide (macB (List.take (Min.min (↑(List.length l) : Int) (150 : Int)).toNat l) (List.take (Min.min (↑(List.length k) : Int) (150 : Int)).toNat k) 28 = macB (List.take (Min.min (↑(List.length l) : Int) (150 : Int)).toNat l) (List.take (Min.min (↑(List.length k) : Int) (150 : Int)).toNat k) 28) && (Decidable.decide (macB (List.take (Min.min (↑(List.length l) : Int) (150 : Int)).toNat l) (List.take (Min.min (↑(List.length k) : Int) (150 : Int)).toNat k) 29 = macB (List.take (Min.min (↑(List.length l) : Int) (150 : Int)).toNat l) (List.take (Min.min (↑(List.length k) : Int) (150 : Int)).toNat k) 29) && (Decidable.decide (macB (List.take (Min.min (↑(List.length l) : Int) (150 : Int)).toNat l) (List.take (Min.min (↑(List.length k) : Int) (150 : Int)).toNat k) 30 = macB (List.take (Min.min (↑(List.length l) : Int) (150 : Int)).toNat l) (List.take (Min.min (↑(List.length k) : Int) (150 : Int)).toNat k) 30) && (Decidable.decide (macB (List.take (Min.min (↑(List.length l) : Int) (150 : Int)).toNat l) (List.take (Min.min (↑(List.length k) : Int) (150 : Int)).toNat k) 31 = macB (List.take (Min.min (↑(List.length l) : Int) (150 : Int)).toNat l) (List.take (Min.min (↑(List.length k) : Int) (150 : Int)).toNat k) 31) && Bool.true)))))))))))))))))))))))))))))))) ∧
 True) := by kernel_rfl
end Go.Sym

namespace Go.Sym
open Go.Proofs Go.Spec
set_option linter.unusedVariables false
theorem b4 (l k : By) (c d : Bool) : Must (bodyP Tryd.prog R6 gl0 [] [] 3000 Tryd.f4 0 [.rb true l (.is c), .rb true k (.is d)] [] (retQ Tryd.prog Tryd.f4 0 ⟨[], .bool true, [], []⟩)) := by
  constructor
  rw [vc4]
  have hM : (List.take (min (l.length : Int) 150).toNat l).length ≤ 150 := by simp; omega
  have hK : (List.take (min (k.length : Int) 150).toNat k).length ≤ 150 := by simp; omega
  have h0 : 0 ≤ min (l.length : Int) 150 ∧ (min (l.length : Int) 150).toNat ≤ l.length := by omega
  have h2 : 0 ≤ min (k.length : Int) 150 ∧ (min (k.length : Int) 150).toNat ≤ k.length := by omega
  generalize List.take (min (l.length : Int) 150).toNat l = M at *
  generalize List.take (min (k.length : Int) 150).toNat k = K at *
  simp only [decide_true, Bool.and_self, and_true]
  exact ⟨h0.1, h0.2, h2.1, h2.2, ⟨by omega, by omega⟩, by omega, by omega⟩
end Go.Sym

/- ShaMacs: of all keys and texts the sum under a key is the one of the document. Condition: the two tables of the package start as the text of the program lays them, which the card ties. -/
namespace Go.Sym
open Go.Proofs
theorem w4 (W : World) (hG : GW gl0 W) (v0 : Value) (l0 : Go.Spec.By) (c0 : Bool) (h0 : VRel (κW W) (.rb true l0 (.is c0)) v0) (v1 : Value) (l1 : Go.Spec.By) (c1 : Bool) (h1 : VRel (κW W) (.rb true l1 (.is c1)) v1) :
    Calls Tryd.prog 4 #[v0, v1] W fun e w' => e = .returned (.bool true) ∧ RowKit.Below W.heap.size W w' := by
  have hv : VRels (κW W) [.rb true l0 (.is c0), .rb true l1 (.is c1)] [v0, v1] := by
    simp only [VRels]
    exact ⟨_, _, rfl, h0, _, _, rfl, h1, rfl⟩
  refine law_walk (gl := gl0) (Γ := R6) (fn := Tryd.f4) (av := [.rb true l0 (.is c0), .rb true l1 (.is c1)]) (ls := []) [] 3000 (by kernel_rfl) (by kernel_rfl) okR6 (by kernel_rfl) hG (by kernel_rfl) hv ?_
  exact b4 l0 l1 c0 c1
end Go.Sym
namespace Go.Proofs.YtmofcjjhgigkoaaDoor.shaMacs
open Go.ChangeShapes Go.WideShapes Go.ChangeAt Go.WideMaps Go.WideElems Go.RowKit
set_option linter.unusedVariables false
set_option maxRecDepth 100000 in
theorem lifted (os : Os) (started : os.Started) (H : Type) (enc : TypeId × Value → H) :
    ReturnsInHanded {} Tryd.checked os 4 .any (fun w args => (Rows.shaMacsSpec.pre enc Tryd.prog Tryd.f4 [] false w args ∧ laidMetH Tryd.prog laid2 w) ∧ sizedMet enc Tryd.prog Tryd.f4 (OpenSpec.ofChange Rows.shaMacsSpec) false w args)
      (Rows.shaMacsSpec.post enc Tryd.prog Tryd.f4 false true false false) := by
  refine returnsInHanded_of_change_and (C := Tryd.checked) (X := fun w _ => laidMetH Tryd.prog laid2 w) (fun _ _ _ hh h => h.of_heap hh) own started (by kernel_rfl) Tryd.func4
    (ChangeSpec.witness_shaped (enc := enc) (C := Tryd.checked) (os := os) (X := fun w _ => laidMetH Tryd.prog laid2 w) false (World.doorLaid Tryd.prog 400 os) #[.slice none 0 0, .slice none 0 0] 8 rfl (World.shaped_of_RefB (by kernel_rfl) (by kernel_rfl)) (by kernel_rfl) (by kernel_rfl) (by kernel_rfl) (door_met os _)) ?_
  intro W base args ds gs before hval0 hW _ _ hL _
  have hval : ∀ (j : Nat) t v, Tryd.f4.params[j]? = some t → args[j]? = some v → Value.okWide Tryd.prog W .any base t v := hval0
  have hW' := hW
  obtain ⟨p, q, hA0, hV, rfl, hfz, hnd⟩ := hW
  have hA : DataW.TrodAll enc Tryd.prog W 0 (fun _ => true) true Tryd.f4.params.toList args.toList ds p := hA0
  rw [Tryd.params4] at hA hval
  obtain ⟨v0, vs0, d0, ds0, p0, q0, hargs, rfl, rfl, h0, r0⟩ := trodAll_cons hA
  obtain ⟨v1, vs1, d1, ds1, p1, q1, rfl, rfl, rfl, h1, r1⟩ := trodAll_cons r0
  obtain ⟨rfl, rfl, rfl⟩ := trodAll_nil r1
  obtain rfl : args = #[v0, v1] := by cases args; simp_all
  obtain ⟨rfl, rfl⟩ := trodVars_none hV
  clear hA0 hval0
  have hlt0 : ∀ x ∈ p0, x.block < W.heap.size := fun x hx => hW'.lt x (by simp [hx])
  obtain ⟨fuel0, hf0⟩ := h0
  obtain ⟨u0, l0, c0, hc0, hcl0, hll0, hu0⟩ := Go.Sym.rd_bytes Tryd.underlying22 Tryd.underlying5 one5 hf0
  have hv0 : v0 = u0 := Go.Sym.cells_slice Tryd.underlying22 (hval 0 22 v0 rfl rfl) hc0
  subst hv0
  have hlt1 : ∀ x ∈ p1, x.block < W.heap.size := fun x hx => hW'.lt x (by simp [hx])
  obtain ⟨fuel1, hf1⟩ := h1
  obtain ⟨u1, l1, c1, hc1, hcl1, hll1, hu1⟩ := Go.Sym.rd_bytes Tryd.underlying22 Tryd.underlying5 one5 hf1
  have hv1 : v1 = u1 := Go.Sym.cells_slice Tryd.underlying22 (hval 1 22 v1 rfl rfl) hc1
  subst hv1
  refine (Go.Sym.w4 W (gw_laid hL) v0 l0 c0 hu0 v1 l1 c1 hu1).mono fun e W' ⟨he, bel⟩ => ?_
  subst he
  exact ⟨_, rfl, _, _, _, [], _, [], hW', trodAll_mk1 (shut_bool Tryd.underlying4 _), (trodAll_cons_mk (Below.trod laidO (by kernel_rfl) (of_decide_eq_true (by kernel_rfl)) ⟨fuel0, hf0⟩ bel hlt0) (trodAll_cons_mk (Below.trod laidO (by kernel_rfl) (of_decide_eq_true (by kernel_rfl)) ⟨fuel1, hf1⟩ bel hlt1) trodAll_mk0)), rfl, bel.frame _, fun h => by cases h⟩

theorem over : Rows.shaMacsRow.holds Tryd.pinned (OpenSpec.ofChange Rows.shaMacsSpec) :=
  OpenClaim.holds_of_wide 4 Tryd.f4 rfl rfl rfl rfl rfl rfl rfl ⟨rfl, rfl, rfl, rfl, rfl⟩ rfl rfl rfl rfl rfl (by kernel_rfl) Tryd.func4 (by kernel_rfl)
    (of_decide_eq_true (by kernel_rfl)) (by unfold Func.isWrapper; first | (rw [if_pos (by decide +kernel)]; kernel_rfl) | (rw [if_neg (by decide +kernel)]; exact ⟨rfl, rfl⟩))
    (fun os started H enc _ => lifted os started H enc)

theorem proved : Rows.ShaMacsCardSaid :=
  Claim7.holds_tied_plain_at .later [] [.data, .data] true (true, "44e11be570e4154174cda8b964177679c33fce583db925e342de0af1715ed693") false
    over (fun _ h => by cases h) (by kernel_rfl) (fun _ h => by cases h) shaMacs_row_tie rfl ⟨rfl, rfl⟩ (by kernel_rfl) rfl
    (fun f fn hf hfn => by
      obtain rfl : f = 4 := Option.some.inj ((show Tryd.prog.funcNamed "relay/relaylaw01.ShaMacs" = some 4 by kernel_rfl).symm.trans hf) |>.symm
      obtain rfl : fn = Tryd.f4 := (Option.some.inj (Tryd.func4.symm.trans hfn)).symm
      exact ⟨by kernel_rfl, fun j t ht => by
        rw [Tryd.params4] at ht
        have hm : t ∈ [22, 22] := by simpa using Array.mem_of_getElem? ht
        have hall : ([22, 22].all fun u => !Tryd.prog.wantsStandIn u) = true := by kernel_rfl
        exact (show Tryd.prog.wantsStandIn t = false by simpa using List.all_eq_true.1 hall t hm)⟩)
    (by kernel_rfl)
#print axioms proved
end Go.Proofs.YtmofcjjhgigkoaaDoor.shaMacs
