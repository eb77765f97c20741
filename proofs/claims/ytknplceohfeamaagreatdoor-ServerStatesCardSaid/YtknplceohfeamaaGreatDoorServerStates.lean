/- ServerStates: ahead of Open nothing is written, updated or given, and nothing is changed by it. Condition: the tables of the packages start as the text of the program lays them, which the card ties. -/
import Derived.Test.YtknplceohfeamaaGreatDoorBound
import Derived.Test.YtknplceohfeamaaGreatDoorNot
import Derived.Test.YtknplceohfeamaaGreatDoorTwo
import Derived.Test.YtknplceohfeamaaGreatDoorSaA
import Derived.Test.YtknplceohfeamaaGreatDoorSaB
import Derived.Test.YtknplceohfeamaaGreatDoorSaC
set_option linter.unusedVariables false
set_option linter.unusedSimpArgs false
/- ServerStates: ahead of Open nothing is written,updated or given,and nothing is changed by it. Condition: the tables of the packages start as the text of the program lays them,which the card ties. -/
namespace Go.Sym
open Go.Proofs Go.Spec
theorem w3 (W : World) (hG : GW gl0 W) (v0 : Value) (a b e : Bool) (s : BitVec 8) (h0 : VRel (κW W) (.agg [.bool a,.bool b,.bool e,.u8 s]) v0) (n1 : Int) (v2 : Value) (l2 : List (BitVec 8)) (c2 : Bool) (h2 : VRel (κW W) (.rb true l2 (.is c2)) v2) :
  Calls Tryz.prog 3 #[v0,.int .i64 n1,v2] W fun e w' => e = .returned (.bool true)∧RowKit.Below W.heap.size W w' := by
 have hv : VRels (κW W) [.agg [.bool a,.bool b,.bool e,.u8 s],.int .i64 n1,.rb true l2 (.is c2)] [v0,.int .i64 n1,v2] := by
  simp only [VRels]
  exact ⟨_,_,rfl,h0,_,_,rfl,rfl,_,_,rfl,h2,rfl⟩
 rcases kOf_3 n1 with h | h | h
 ·refine law_walk (gl := gl0) (Γ := W2 0) (fn := Tryz.f3) (av := [.agg [.bool a,.bool b,.bool e,.u8 s],.int .i64 n1,.rb true l2 (.is c2)]) (ls := []) [] 3000 (by kernel_rfl) (by kernel_rfl) (okW2 0 (by decide)) (by kernel_rfl) hG (by kernel_rfl) hv ?_
  exact bSt0 a b e s n1 l2 c2 h
 ·refine law_walk (gl := gl0) (Γ := W2 1) (fn := Tryz.f3) (av := [.agg [.bool a,.bool b,.bool e,.u8 s],.int .i64 n1,.rb true l2 (.is c2)]) (ls := []) [] 3000 (by kernel_rfl) (by kernel_rfl) (okW2 1 (by decide)) (by kernel_rfl) hG (by kernel_rfl) hv ?_
  exact bSt1 a b e s n1 l2 c2 h
 ·refine law_walk (gl := gl0) (Γ := W2 2) (fn := Tryz.f3) (av := [.agg [.bool a,.bool b,.bool e,.u8 s],.int .i64 n1,.rb true l2 (.is c2)]) (ls := []) [] 3000 (by kernel_rfl) (by kernel_rfl) (okW2 2 (by decide)) (by kernel_rfl) hG (by kernel_rfl) hv ?_
  exact bSt2 a b e s n1 l2 c2 h
end Go.Sym
namespace Go.Proofs.YtknplceohfeamaaGreatDoor.serverStates
open Go.ChangeShapes Go.WideShapes Go.ChangeAt Go.WideMaps Go.WideElems Go.RowKit
set_option maxRecDepth 100000 in
theorem lifted (os : Os) (started : os.Started) (H : Type) (enc : TypeId × Value→H) :
  ReturnsInHanded {} Tryz.checked os 3 .any (fun w args => (Rows.serverStatesSpec.pre enc Tryz.prog Tryz.f3 [] false w args∧laidMetH Tryz.prog laid4 w)∧sizedMet enc Tryz.prog Tryz.f3 (OpenSpec.ofChange Rows.serverStatesSpec) false w args)
   (Rows.serverStatesSpec.post enc Tryz.prog Tryz.f3 false true false false) := by
 refine returnsInHanded_of_change_and (C := Tryz.checked) (X := fun w _ => laidMetH Tryz.prog laid4 w) (fun _ _ _ hh h => h.of_heap hh) own started (by kernel_rfl) Tryz.func3
  (ChangeSpec.witness_shaped (enc := enc) (C := Tryz.checked) (os := os) (X := fun w _ => laidMetH Tryz.prog laid4 w) false (World.laidAll Tryz.prog os laid4) #[.agg #[.bool false,.bool false,.bool false,.int .u8 0],.int .i64 0,.slice none 0 0] 8 (World.laidAll_os _ _ _) (World.shaped_of_ZipB (by kernel_rfl) (by kernel_rfl)) (by kernel_rfl) (by kernel_rfl) (by kernel_rfl) (by rw [MakeChecks.laidMetH_plain _ _ _ (by kernel_rfl)]; exact laidMet_laidAll _ (by kernel_rfl) (by kernel_rfl))) ?_
 intro W base args ds gs before hval0 hW _ _ hL _
 have hval : ∀ (j : Nat) t v,Tryz.f3.params[j]? = some t→args[j]? = some v→Value.okWide Tryz.prog W .any base t v := hval0
 have hW' := hW
 obtain ⟨p,q,hA0,hV,rfl,hfz,hnd⟩ := hW
 have hA : DataW.TrodAll enc Tryz.prog W 0 (fun _ => true) true Tryz.f3.params.toList args.toList ds p := hA0
 rw [Tryz.params3] at hA hval
 obtain ⟨v0,vs0,d0,ds0,p0,q0,hargs,rfl,rfl,h0,r0⟩ := trodAll_cons hA
 obtain ⟨v1,vs1,d1,ds1,p1,q1,rfl,rfl,rfl,h1,r1⟩ := trodAll_cons r0
 obtain ⟨v2,vs2,d2,ds2,p2,q2,rfl,rfl,rfl,h2,r2⟩ := trodAll_cons r1
 obtain ⟨rfl,rfl,rfl⟩ := trodAll_nil r2
 obtain rfl : args = #[v0,v1,v2] := by cases args; simp_all
 obtain ⟨rfl,rfl⟩ := trodVars_none hV
 obtain ⟨a1,rfl,rfl,rfl,w1⟩ := open_int Tryz.underlying3 (hval 1 3 v1 rfl rfl) h1
 clear hA0 hval0
 have hlt0 : ∀ x ∈ p0,x.block < W.heap.size := fun x hx => hW'.lt x (by simp [hx])
 obtain ⟨fuel0,hf0⟩ := h0
 obtain ⟨avs0,hs0,hd0,hr0⟩ := Go.Sym.rd_flat 9 23 ([.b,.b,.b,.i .u8]) _ _ _ (by kernel_rfl) hf0
 obtain ⟨a,b,e,s,rfl⟩ := Go.Sym.sh_how hs0
 have hu0 := Go.Sym.agg_of_cells hr0 (by simp)
 have hlt2 : ∀ x ∈ p2,x.block < W.heap.size := fun x hx => hW'.lt x (by simp [hx])
 obtain ⟨fuel2,hf2⟩ := h2
 obtain ⟨u2,l2,c2,hc2,hcl2,hll2,hu2⟩ := Go.Sym.rd_bytes Tryz.underlying24 Tryz.underlying5 (by kernel_rfl) hf2
 have hv2 : v2 = u2 := Go.Sym.cells_slice Tryz.underlying24 (hval 2 24 v2 rfl rfl) hc2
 subst hv2
 refine (Go.Sym.w3 W (gw_laid4 hL) v0 a b e s hu0 a1 v2 l2 c2 hu2).mono fun e W' ⟨he,bel⟩ => ?_
 subst he
 exact ⟨_,rfl,_,_,_,[],_,[],hW',trodAll_mk1 (shut_bool Tryz.underlying4 _),(trodAll_cons_mk (Below.trod laidO (by kernel_rfl) (of_decide_eq_true (by kernel_rfl)) ⟨fuel0,hf0⟩ bel hlt0) (trodAll_cons_mk (shut_int Tryz.underlying3 w1) (trodAll_cons_mk (Below.trod laidO (by kernel_rfl) (of_decide_eq_true (by kernel_rfl)) ⟨fuel2,hf2⟩ bel hlt2) trodAll_mk0))),rfl,bel.frame _,fun h => by cases h⟩
theorem joined : joinedFacts Tryz.prog 3 Tryz.f3 Rows.serverStatesSpec Rows.serverStatesRow = true := by
 unfold joinedFacts
 rw [jf1,jf2,jf3,jf4,jf5,jf6,jf7,jf8,jf9,jf10,laidO]
 kernel_rfl
theorem over : Rows.serverStatesRow.holds Tryz.pinned (OpenSpec.ofChange Rows.serverStatesSpec) :=
 OpenClaim.holds_of_wide 3 Tryz.f3 rfl rfl rfl rfl rfl rfl rfl ⟨rfl,rfl,rfl,rfl,rfl⟩ rfl rfl rfl rfl rfl (by kernel_rfl) Tryz.func3 joined
  (of_decide_eq_true (by kernel_rfl)) (by unfold Func.isWrapper; first | (rw [if_pos (by decide +kernel)]; kernel_rfl) | (rw [if_neg (by decide +kernel)]; exact ⟨rfl,rfl⟩))
  (fun os started H enc _ => lifted os started H enc)
theorem proved : Rows.ServerStatesCardSaid :=
 Claim7.holds_tied_plain_at .later [] [.data, .data, .data, .pinned] true (true, "90462dbf1cbd466782134eb50de44c6d62576badfbaa657f03e1103697133a82") false
  over (fun _ h => by cases h) (by kernel_rfl) (fun _ h => by cases h) serverStates_row_tie rfl ⟨rfl,rfl⟩ (by kernel_rfl) rfl
  (fun f fn hf hfn => by
   obtain rfl : f = 3 := Option.some.inj ((show Tryz.prog.funcNamed "relay/relaylaw16.ServerStates" = some 3 by kernel_rfl).symm.trans hf) |>.symm
   obtain rfl : fn = Tryz.f3 := (Option.some.inj (Tryz.func3.symm.trans hfn)).symm
   exact ⟨by kernel_rfl,fun j t ht => by
    rw [Tryz.params3] at ht
    have hm : t ∈ [23,3,24] := by simpa using Array.mem_of_getElem? ht
    have hall : ([23,3,24].all fun u => !Tryz.prog.wantsStandIn u) = true := by kernel_rfl
    exact (show Tryz.prog.wantsStandIn t = false by simpa using List.all_eq_true.1 hall t hm)⟩)
  (by kernel_rfl)
#print axioms proved
end Go.Proofs.YtknplceohfeamaaGreatDoor.serverStates
