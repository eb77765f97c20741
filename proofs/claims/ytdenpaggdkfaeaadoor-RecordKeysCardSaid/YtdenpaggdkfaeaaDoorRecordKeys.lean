/- RecordKeys: of all secrets the keys, and the secret behind, are the document's; of all numbers the nonce; of two numbers two nonces. Condition: the two tables of the package start as the text of the program lays them, which the card ties. -/
import Derived.Test.YtdenpaggdkfaeaaDoorRecB
import Derived.Test.YtdenpaggdkfaeaaDoorChaC
import Derived.Test.YtdenpaggdkfaeaaDoorRecC
/- RecordKeys: of all secrets the keys, and the secret behind, are the document's; of all numbers the nonce; of two numbers two nonces. Condition: the two tables of the package start as the text of the program lays them, which the card ties. -/
namespace Go.Sym
open Go.Proofs Go.Spec
theorem w3 (W : World) (hG : GW gl0 W) (v0 : Value) (k : F8) (h0 : VRel (κW W) (aggB 32 k) v0) (v1 : Value) (n1 : BitVec 64) (h1 : VRel (κW W) (.u64 n1) v1) (v2 : Value) (n2 : BitVec 64) (h2 : VRel (κW W) (.u64 n2) v2) :
    Calls Tryd.prog 3 #[v0, v1, v2] W fun e w' => e = .returned (.bool true) ∧ RowKit.Below W.heap.size W w' := by
  have hv : VRels (κW W) [aggB 32 k, .u64 n1, .u64 n2] [v0, v1, v2] := by
    simp only [VRels]
    exact ⟨_, _, rfl, h0, _, _, rfl, h1, _, _, rfl, h2, rfl⟩
  refine law_walk (gl := gl0) (Γ := J12) (fn := Tryd.f3) (av := [aggB 32 k, .u64 n1, .u64 n2]) (ls := []) [] 3000 (by kernel_rfl) (by kernel_rfl) okJ12 (by kernel_rfl) hG (by kernel_rfl) hv ?_
  exact br3 k n1 n2
end Go.Sym
namespace Go.Proofs.YtdenpaggdkfaeaaDoor.recordKeys
open Go.ChangeShapes Go.WideShapes Go.ChangeAt Go.WideMaps Go.WideElems Go.RowKit
set_option linter.unusedVariables false
set_option maxRecDepth 100000 in
theorem lifted (os : Os) (started : os.Started) (H : Type) (enc : TypeId × Value → H) :
    ReturnsInHanded {} Tryd.checked os 3 .any (fun w args => (Rows.recordKeysSpec.pre enc Tryd.prog Tryd.f3 [] false w args ∧ laidMetH Tryd.prog laid4 w) ∧ sizedMet enc Tryd.prog Tryd.f3 (OpenSpec.ofChange Rows.recordKeysSpec) false w args)
      (Rows.recordKeysSpec.post enc Tryd.prog Tryd.f3 false true false false) := by
  refine returnsInHanded_of_change_and (C := Tryd.checked) (X := fun w _ => laidMetH Tryd.prog laid4 w) (fun _ _ _ hh h => h.of_heap hh) own started (by kernel_rfl) Tryd.func3
    (ChangeSpec.witness_shaped (enc := enc) (C := Tryd.checked) (os := os) (X := fun w _ => laidMetH Tryd.prog laid4 w) false (World.laidAll Tryd.prog os laid4) #[.agg (Array.replicate 32 (.int .u8 0)), .int .u64 0, .int .u64 0] 8 (World.laidAll_os _ _ _) (World.shaped_of_ZipB (by kernel_rfl) (by kernel_rfl)) (by kernel_rfl) (by kernel_rfl) (by kernel_rfl) (by rw [MakeChecks.laidMetH_plain _ _ _ (by kernel_rfl)]; exact laidMet_laidAll _ (by kernel_rfl) (by kernel_rfl))) ?_
  intro W base args ds gs before hval0 hW _ _ hL _
  have hval : ∀ (j : Nat) t v, Tryd.f3.params[j]? = some t → args[j]? = some v → Value.okWide Tryd.prog W .any base t v := hval0
  have hW' := hW
  obtain ⟨p, q, hA0, hV, rfl, hfz, hnd⟩ := hW
  have hA : DataW.TrodAll enc Tryd.prog W 0 (fun _ => true) true Tryd.f3.params.toList args.toList ds p := hA0
  rw [Tryd.params3] at hA hval
  obtain ⟨v0, vs0, d0, ds0, p0, q0, hargs, rfl, rfl, h0, r0⟩ := trodAll_cons hA
  obtain ⟨v1, vs1, d1, ds1, p1, q1, rfl, rfl, rfl, h1, r1⟩ := trodAll_cons r0
  obtain ⟨v2, vs2, d2, ds2, p2, q2, rfl, rfl, rfl, h2, r2⟩ := trodAll_cons r1
  obtain ⟨rfl, rfl, rfl⟩ := trodAll_nil r2
  obtain rfl : args = #[v0, v1, v2] := by cases args; simp_all
  obtain ⟨rfl, rfl⟩ := trodVars_none hV
  obtain ⟨a1, rfl, rfl, rfl, w1⟩ := open_int Tryd.underlying23 (hval 1 23 v1 rfl rfl) h1
  obtain ⟨a2, rfl, rfl, rfl, w2⟩ := open_int Tryd.underlying23 (hval 2 23 v2 rfl rfl) h2
  clear hA0 hval0
  have hlt0 : ∀ x ∈ p0, x.block < W.heap.size := fun x hx => hW'.lt x (by simp [hx])
  obtain ⟨fuel0, hf0⟩ := h0
  obtain ⟨avs0, hs0, hd0, hr0⟩ := Go.Sym.rd_flat 9 22 (List.replicate 32 (.i .u8)) _ _ _ (by kernel_rfl) hf0
  obtain ⟨k, rfl⟩ := Go.Sym.sh_by hs0
  have hu0 := Go.Sym.agg_of_cells hr0 (by simp)
  refine (Go.Sym.w3 W (gw_laid4 hL) v0 k hu0 (.int .u64 a1) (BitVec.ofInt 64 a1) (Go.Sym.rel_u64 w1) (.int .u64 a2) (BitVec.ofInt 64 a2) (Go.Sym.rel_u64 w2)).mono fun e W' ⟨he, bel⟩ => ?_
  subst he
  exact ⟨_, rfl, _, _, _, [], _, [], hW', trodAll_mk1 (shut_bool Tryd.underlying4 _), (trodAll_cons_mk (Below.trod laidO (by kernel_rfl) (of_decide_eq_true (by kernel_rfl)) ⟨fuel0, hf0⟩ bel hlt0) (trodAll_cons_mk (shut_int Tryd.underlying23 w1) (trodAll_cons_mk (shut_int Tryd.underlying23 w2) trodAll_mk0))), rfl, bel.frame _, fun h => by cases h⟩

theorem over : Rows.recordKeysRow.holds Tryd.pinned (OpenSpec.ofChange Rows.recordKeysSpec) :=
  OpenClaim.holds_of_wide 3 Tryd.f3 rfl rfl rfl rfl rfl rfl rfl ⟨rfl, rfl, rfl, rfl, rfl⟩ rfl rfl rfl rfl rfl (by kernel_rfl) Tryd.func3 (by kernel_rfl)
    (of_decide_eq_true (by kernel_rfl)) (by unfold Func.isWrapper; first | (rw [if_pos (by decide +kernel)]; kernel_rfl) | (rw [if_neg (by decide +kernel)]; exact ⟨rfl, rfl⟩))
    (fun os started H enc _ => lifted os started H enc)

theorem proved : Rows.RecordKeysCardSaid :=
  Claim7.holds_tied_plain_at .later [] [.data, .data, .data, .pinned] true (true, "87e7fe467a3e985133d1d9c81030e66719aefcc50b4a85793b11cbd7f8f88aa4") false
    over (fun _ h => by cases h) (by kernel_rfl) (fun _ h => by cases h) recordKeys_row_tie rfl ⟨rfl, rfl⟩ (by kernel_rfl) rfl
    (fun f fn hf hfn => by
      obtain rfl : f = 3 := Option.some.inj ((show Tryd.prog.funcNamed "relay/relaylaw12.RecordKeys" = some 3 by kernel_rfl).symm.trans hf) |>.symm
      obtain rfl : fn = Tryd.f3 := (Option.some.inj (Tryd.func3.symm.trans hfn)).symm
      exact ⟨by kernel_rfl, fun j t ht => by
        rw [Tryd.params3] at ht
        have hm : t ∈ [22, 23, 23] := by simpa using Array.mem_of_getElem? ht
        have hall : ([22, 23, 23].all fun u => !Tryd.prog.wantsStandIn u) = true := by kernel_rfl
        exact (show Tryd.prog.wantsStandIn t = false by simpa using List.all_eq_true.1 hall t hm)⟩)
    (by kernel_rfl)
#print axioms proved
end Go.Proofs.YtdenpaggdkfaeaaDoor.recordKeys
