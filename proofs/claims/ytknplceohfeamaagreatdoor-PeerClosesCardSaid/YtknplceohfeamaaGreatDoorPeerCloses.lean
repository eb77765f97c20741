/- PeerCloses: a close of either side is heard by the other one, behind all that was written ahead. Condition: the tables of the packages start as the text of the program lays them, which the card ties. -/
import Derived.Test.YtknplceohfeamaaGreatDoorBound
import Derived.Test.YtknplceohfeamaaGreatDoorClK
import Derived.Test.YtknplceohfeamaaGreatDoorTwo
import Derived.Test.YtknplceohfeamaaGreatDoorPcA
import Derived.Test.YtknplceohfeamaaGreatDoorPcB
import Derived.Test.YtknplceohfeamaaGreatDoorPcC
set_option linter.unusedVariables false
set_option linter.unusedSimpArgs false
/- PeerCloses: a close of either side is heard by the other one,behind all that was written ahead. Condition: the tables of the packages start as the text of the program lays them,which the card ties. -/
namespace Go.Sym
open Go.Proofs Go.Spec
theorem w8 (W : World) (hG : GW gl0 W) (v0 : Value) (a b e : Bool) (s : BitVec 8) (h0 : VRel (κW W) (.agg [.bool a,.bool b,.bool e,.u8 s]) v0) (v1 : Value) (l1 : List (BitVec 8)) (c1 : Bool) (h1 : VRel (κW W) (.rb true l1 (.is c1)) v1) (n2 : Bool) :
  Calls Tryz.prog 8 #[v0,v1,.bool n2] W fun e w' => e = .returned (.bool true)/\RowKit.Below W.heap.size W w' := by
 have hv : VRels (κW W) [.agg [.bool a,.bool b,.bool e,.u8 s],.rb true l1 (.is c1),.bool n2] [v0,v1,.bool n2] := by
  simp only [VRels]
  exact ⟨_,_,rfl,h0,_,_,rfl,h1,_,_,rfl,rfl,rfl⟩
 refine c0w (gl := gl0) (Γ := Uk lY (y0h l1) (psX l1) a b e s) (fn := Tryz.f8) (av := [.agg [.bool a,.bool b,.bool e,.u8 s],.rb true l1 (.is c1),.bool n2]) (ls := []) [] 3000 (by kernel_rfl) (by kernel_rfl) (okUk a b e s (k0g l1)) (by kernel_rfl) hG (by kernel_rfl) hv ?_
 exact bPcl a b e s l1 c1 n2
end Go.Sym
namespace Go.Proofs.YtknplceohfeamaaGreatDoor.peerCloses
open Go.ChangeShapes Go.WideShapes Go.ChangeAt Go.WideMaps Go.WideElems Go.RowKit
set_option maxRecDepth 100000 in
theorem lifted (os : Os) (started : os.Started) (H : Type) (enc : TypeId × Value->H) :
  ReturnsInHanded {} Tryz.checked os 8 .any (fun w args => (Rows.peerClosesSpec.pre enc Tryz.prog Tryz.f8 [] false w args/\laidMetH Tryz.prog d9 w)/\sizedMet enc Tryz.prog Tryz.f8 (OpenSpec.ofChange Rows.peerClosesSpec) false w args)
   (Rows.peerClosesSpec.post enc Tryz.prog Tryz.f8 false true false false) := by
 refine returnsInHanded_of_change_and (C := Tryz.checked) (X := fun w _ => laidMetH Tryz.prog d9 w) (fun _ _ _ hh h => h.of_heap hh) own started (by kernel_rfl) Tryz.func8
  (ChangeSpec.witness_shaped (enc := enc) (C := Tryz.checked) (os := os) (X := fun w _ => laidMetH Tryz.prog d9 w) false (World.laidAll Tryz.prog os d9) #[.agg #[.bool false,.bool false,.bool false,.int .u8 0],.slice none 0 0,.bool false] 8 (World.laidAll_os _ _ _) (World.shaped_of_ZipB (by kernel_rfl) (by kernel_rfl)) (by kernel_rfl) (by kernel_rfl) (by kernel_rfl) (by rw [MakeChecks.laidMetH_plain _ _ _ (by kernel_rfl)]; exact laidMet_laidAll _ (by kernel_rfl) (by kernel_rfl))) ?_
 intro W base args ds gs before hval0 hW _ _ hL _
 have hval : ∀ (j : Nat) t v,Tryz.f8.params[j]? = some t->args[j]? = some v->Value.okWide Tryz.prog W .any base t v := hval0
 have hW' := hW
 obtain ⟨p,q,hA0,hV,rfl,hfz,hnd⟩ := hW
 have hA : DataW.TrodAll enc Tryz.prog W 0 (fun _ => true) true Tryz.f8.params.toList args.toList ds p := hA0
 rw [Tryz.params8] at hA hval
 obtain ⟨v0,vs0,d0,ds0,p0,q0,hargs,rfl,rfl,h0,r0⟩ := trodAll_cons hA
 obtain ⟨v1,vs1,d1,ds1,p1,q1,rfl,rfl,rfl,h1,r1⟩ := trodAll_cons r0
 obtain ⟨v2,vs2,d2,ds2,p2,q2,rfl,rfl,rfl,h2,r2⟩ := trodAll_cons r1
 obtain ⟨rfl,rfl,rfl⟩ := trodAll_nil r2
 obtain rfl : args = #[v0,v1,v2] := by cases args; simp_all
 obtain ⟨rfl,rfl⟩ := trodVars_none hV
 obtain ⟨a2,rfl,rfl,rfl⟩ := open_bool Tryz.underlying4 (hval 2 4 v2 rfl rfl) h2
 clear hA0 hval0
 have hlt0 : ∀ x ∈ p0,x.block < W.heap.size := fun x hx => hW'.lt x (by simp [hx])
 obtain ⟨fuel0,hf0⟩ := h0
 obtain ⟨avs0,hs0,hd0,hr0⟩ := Go.Sym.rd_flat 9 23 ([.b,.b,.b,.i .u8]) _ _ _ (by kernel_rfl) hf0
 obtain ⟨a,b,e,s,rfl⟩ := Go.Sym.sh_how hs0
 have hu0 := Go.Sym.agg_of_cells hr0 (by simp)
 have hlt1 : ∀ x ∈ p1,x.block < W.heap.size := fun x hx => hW'.lt x (by simp [hx])
 obtain ⟨fuel1,hf1⟩ := h1
 obtain ⟨u1,l1,c1,hc1,hcl1,hll1,hu1⟩ := Go.Sym.b0w Tryz.underlying24 Tryz.underlying5 (by kernel_rfl) hf1
 have hv1 : v1 = u1 := Go.Sym.cells_slice Tryz.underlying24 (hval 1 24 v1 rfl rfl) hc1
 subst hv1
 refine (Go.Sym.w8 W (g0q hL) v0 a b e s hu0 v1 l1 c1 hu1 a2).mono fun e W' ⟨he,bel⟩ => ?_
 subst he
 exact ⟨_,rfl,_,_,_,[],_,[],hW',trodAll_mk1 (shut_bool Tryz.underlying4 _),(trodAll_cons_mk (Below.trod m0q (by kernel_rfl) (of_decide_eq_true (by kernel_rfl)) ⟨fuel0,hf0⟩ bel hlt0) (trodAll_cons_mk (Below.trod m0q (by kernel_rfl) (of_decide_eq_true (by kernel_rfl)) ⟨fuel1,hf1⟩ bel hlt1) (trodAll_cons_mk (shut_bool Tryz.underlying4 _) trodAll_mk0))),rfl,bel.frame _,fun h => by cases h⟩
theorem joined : joinedFacts Tryz.prog 8 Tryz.f8 Rows.peerClosesSpec Rows.peerClosesRow = true := by
 unfold joinedFacts
 rw [jf1,jf2,jf3,jf4,jf5,jf6,jf7,jf8,jf9,jf10,m0q]
 kernel_rfl
theorem over : Rows.peerClosesRow.holds Tryz.pinned (OpenSpec.ofChange Rows.peerClosesSpec) :=
 OpenClaim.holds_of_wide 8 Tryz.f8 rfl rfl rfl rfl rfl rfl rfl ⟨rfl,rfl,rfl,rfl,rfl⟩ rfl rfl rfl rfl rfl (by kernel_rfl) Tryz.func8 joined
  (of_decide_eq_true (by kernel_rfl)) (by unfold Func.isWrapper; first | (rw [if_pos (by decide +kernel)]; kernel_rfl) | (rw [if_neg (by decide +kernel)]; exact ⟨rfl,rfl⟩))
  (fun os started H enc _ => lifted os started H enc)
theorem proved : Rows.PeerClosesCardSaid :=
 Claim7.holds_tied_plain_at .later [] [.data, .data, .data, .pinned] true (true, "90462dbf1cbd466782134eb50de44c6d62576badfbaa657f03e1103697133a82") false
  over (fun _ h => by cases h) (by kernel_rfl) (fun _ h => by cases h) peerCloses_row_tie rfl ⟨rfl,rfl⟩ (by kernel_rfl) rfl
  (fun f fn hf hfn => by
   obtain rfl : f = 8 := Option.some.inj ((show Tryz.prog.funcNamed "relay/relaylaw17.PeerCloses" = some 8 by kernel_rfl).symm.trans hf) |>.symm
   obtain rfl : fn = Tryz.f8 := (Option.some.inj (Tryz.func8.symm.trans hfn)).symm
   exact ⟨by kernel_rfl,fun j t ht => by
    rw [Tryz.params8] at ht
    have hm : t ∈ [23,24,4] := by simpa using Array.mem_of_getElem? ht
    have hall : ([23,24,4].all fun u => !Tryz.prog.wantsStandIn u) = true := by kernel_rfl
    exact (show Tryz.prog.wantsStandIn t = false by simpa using List.all_eq_true.1 hall t hm)⟩)
  (by kernel_rfl)
#print axioms proved
end Go.Proofs.YtknplceohfeamaaGreatDoor.peerCloses
