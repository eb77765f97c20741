/- PeerMeets: however a connection begins, both sides come to Open, with the same sums, secrets and keys; with a known ticket it is resumed, without one it is not. Condition: the tables of the packages start as the text of the program lays them, which the card ties. -/
import Derived.Test.YtknplceohfeamaaGreatDoorBound
import Derived.Test.YtknplceohfeamaaGreatDoorMeet
import Derived.Test.YtknplceohfeamaaGreatDoorFaA
import Derived.Test.YtknplceohfeamaaGreatDoorFaB
import Derived.Test.YtknplceohfeamaaGreatDoorFaC
set_option linter.unusedVariables false
set_option linter.unusedSimpArgs false
/- PeerMeets: however a connection begins,both sides come to Open,with the same sums,secrets and keys; with a known ticket it is resumed,without one it is not. Condition: the tables of the packages start as the text of the program lays them,which the card ties. -/
namespace Go.Sym
open Go.Proofs Go.Spec
theorem w5 (W : World) (hG : GW gl0 W) (v0 : Value) (a b c : Bool) (s : BitVec 8) (h0 : VRel (κW W) (.agg [.bool a,.bool b,.bool c,.u8 s]) v0) :
  Calls Tryz.prog 5 #[v0] W fun e w' => e = .returned (.bool true)∧RowKit.Below W.heap.size W w' := by
 have hv : VRels (κW W) [.agg [.bool a,.bool b,.bool c,.u8 s]] [v0] := by
  simp only [VRels]
  exact ⟨_,_,rfl,h0,rfl⟩
 refine law_walk (gl := gl0) (Γ := X4) (fn := Tryz.f5) (av := [.agg [.bool a,.bool b,.bool c,.u8 s]]) (ls := []) [] 3000 (by kernel_rfl) (by kernel_rfl) okX4 (by kernel_rfl) hG (by kernel_rfl) hv ?_
 exact bPM a b c s
end Go.Sym
namespace Go.Proofs.YtknplceohfeamaaGreatDoor.peerMeets
open Go.ChangeShapes Go.WideShapes Go.ChangeAt Go.WideMaps Go.WideElems Go.RowKit
set_option maxRecDepth 100000 in
theorem lifted (os : Os) (started : os.Started) (H : Type) (enc : TypeId × Value→H) :
  ReturnsInHanded {} Tryz.checked os 5 .any (fun w args => (Rows.peerMeetsSpec.pre enc Tryz.prog Tryz.f5 [] false w args∧laidMetH Tryz.prog laid4 w)∧sizedMet enc Tryz.prog Tryz.f5 (OpenSpec.ofChange Rows.peerMeetsSpec) false w args)
   (Rows.peerMeetsSpec.post enc Tryz.prog Tryz.f5 false true false false) := by
 refine returnsInHanded_of_change_and (C := Tryz.checked) (X := fun w _ => laidMetH Tryz.prog laid4 w) (fun _ _ _ hh h => h.of_heap hh) own started (by kernel_rfl) Tryz.func5
  (ChangeSpec.witness_shaped (enc := enc) (C := Tryz.checked) (os := os) (X := fun w _ => laidMetH Tryz.prog laid4 w) false (World.laidAll Tryz.prog os laid4) #[.agg #[.bool false,.bool false,.bool false,.int .u8 0]] 8 (World.laidAll_os _ _ _) (World.shaped_of_ZipB (by kernel_rfl) (by kernel_rfl)) (by kernel_rfl) (by kernel_rfl) (by kernel_rfl) (by rw [MakeChecks.laidMetH_plain _ _ _ (by kernel_rfl)]; exact laidMet_laidAll _ (by kernel_rfl) (by kernel_rfl))) ?_
 intro W base args ds gs before hval0 hW _ _ hL _
 have hval : ∀ (j : Nat) t v,Tryz.f5.params[j]? = some t→args[j]? = some v→Value.okWide Tryz.prog W .any base t v := hval0
 have hW' := hW
 obtain ⟨p,q,hA0,hV,rfl,hfz,hnd⟩ := hW
 have hA : DataW.TrodAll enc Tryz.prog W 0 (fun _ => true) true Tryz.f5.params.toList args.toList ds p := hA0
 rw [Tryz.params5] at hA hval
 obtain ⟨v0,vs0,d0,ds0,p0,q0,hargs,rfl,rfl,h0,r0⟩ := trodAll_cons hA
 obtain ⟨rfl,rfl,rfl⟩ := trodAll_nil r0
 obtain rfl : args = #[v0] := by cases args; simp_all
 obtain ⟨rfl,rfl⟩ := trodVars_none hV
 clear hA0 hval0
 have hlt0 : ∀ x ∈ p0,x.block < W.heap.size := fun x hx => hW'.lt x (by simp [hx])
 obtain ⟨fuel0,hf0⟩ := h0
 obtain ⟨avs0,hs0,hd0,hr0⟩ := Go.Sym.rd_flat 9 23 ([.b,.b,.b,.i .u8]) _ _ _ (by kernel_rfl) hf0
 obtain ⟨a,b,c,s,rfl⟩ := Go.Sym.sh_how hs0
 have hu0 := Go.Sym.agg_of_cells hr0 (by simp)
 refine (Go.Sym.w5 W (gw_laid4 hL) v0 a b c s hu0).mono fun e W' ⟨he,bel⟩ => ?_
 subst he
 exact ⟨_,rfl,_,_,_,[],_,[],hW',trodAll_mk1 (shut_bool Tryz.underlying4 _),(trodAll_cons_mk (Below.trod laidO (by kernel_rfl) (of_decide_eq_true (by kernel_rfl)) ⟨fuel0,hf0⟩ bel hlt0) trodAll_mk0),rfl,bel.frame _,fun h => by cases h⟩
theorem joined : joinedFacts Tryz.prog 5 Tryz.f5 Rows.peerMeetsSpec Rows.peerMeetsRow = true := by
 unfold joinedFacts
 rw [jf1,jf2,jf3,jf4,jf5,jf6,jf7,jf8,jf9,jf10,laidO]
 kernel_rfl
theorem over : Rows.peerMeetsRow.holds Tryz.pinned (OpenSpec.ofChange Rows.peerMeetsSpec) :=
 OpenClaim.holds_of_wide 5 Tryz.f5 rfl rfl rfl rfl rfl rfl rfl ⟨rfl,rfl,rfl,rfl,rfl⟩ rfl rfl rfl rfl rfl (by kernel_rfl) Tryz.func5 joined
  (of_decide_eq_true (by kernel_rfl)) (by unfold Func.isWrapper; first | (rw [if_pos (by decide +kernel)]; kernel_rfl) | (rw [if_neg (by decide +kernel)]; exact ⟨rfl,rfl⟩))
  (fun os started H enc _ => lifted os started H enc)
theorem proved : Rows.PeerMeetsCardSaid :=
 Claim7.holds_tied_plain_at .later [] [.data, .data, .data, .pinned] true (true, "90462dbf1cbd466782134eb50de44c6d62576badfbaa657f03e1103697133a82") false
  over (fun _ h => by cases h) (by kernel_rfl) (fun _ h => by cases h) peerMeets_row_tie rfl ⟨rfl,rfl⟩ (by kernel_rfl) rfl
  (fun f fn hf hfn => by
   obtain rfl : f = 5 := Option.some.inj ((show Tryz.prog.funcNamed "relay/relaylaw17.PeerMeets" = some 5 by kernel_rfl).symm.trans hf) |>.symm
   obtain rfl : fn = Tryz.f5 := (Option.some.inj (Tryz.func5.symm.trans hfn)).symm
   exact ⟨by kernel_rfl,fun j t ht => by
    rw [Tryz.params5] at ht
    have hm : t ∈ [23] := by simpa using Array.mem_of_getElem? ht
    have hall : ([23].all fun u => !Tryz.prog.wantsStandIn u) = true := by kernel_rfl
    exact (show Tryz.prog.wantsStandIn t = false by simpa using List.all_eq_true.1 hall t hm)⟩)
  (by kernel_rfl)
#print axioms proved
end Go.Proofs.YtknplceohfeamaaGreatDoor.peerMeets
