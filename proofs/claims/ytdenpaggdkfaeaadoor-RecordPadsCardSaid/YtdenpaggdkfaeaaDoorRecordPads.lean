/- RecordPads: with whatever noughts behind the same text is opened; the record is that much longer. Condition: the two tables of the package start as the text of the program lays them, which the card ties. -/
import Derived.Test.YtdenpaggdkfaeaaDoorRecC
import Derived.Test.YtdenpaggdkfaeaaDoorRecB
import Derived.Test.YtdenpaggdkfaeaaDoorChaC
namespace Go.Sym
open Go.Proofs Go.Spec
set_option linter.unusedVariables false
set_option linter.unusedSimpArgs false
theorem ixr_lt (x : Int) (L : Nat) (h : 0 < L) (h2 : L < 1099511627776) : (BitVec.ofInt 64 (L : Int)).toNat ≠ 0 ∧ 0 ≤ IntKind.i64.wrap (↑(BitVec.ofInt 64 x % BitVec.ofInt 64 (L : Int)).toNat : Int) ∧ (IntKind.i64.wrap (↑(BitVec.ofInt 64 x % BitVec.ofInt 64 (L : Int)).toNat : Int)).toNat < L := by
  have e : (BitVec.ofInt 64 (L : Int)).toNat = L := by
    rw [BitVec.ofInt_natCast, BitVec.toNat_ofNat]
    omega
  have hl : (BitVec.ofInt 64 x % BitVec.ofInt 64 (L : Int)).toNat < L := by
    rw [BitVec.toNat_umod, e]
    exact Nat.mod_lt _ h
  have w : IntKind.i64.wrap (↑(BitVec.ofInt 64 x % BitVec.ofInt 64 (L : Int)).toNat : Int) = ((BitVec.ofInt 64 x % BitVec.ofInt 64 (L : Int)).toNat : Int) := wrap_nat _ rfl (by omega)
  rw [w, e]
  exact ⟨by omega, Int.natCast_nonneg _, by rw [Int.toNat_natCast]; exact hl⟩
set_option maxRecDepth 100000 in
theorem br5 (k iv : F8) (s : BitVec 64) (t p : Int) (b : By) (c : Bool) (x y : Int) : Must (bodyP Tryd.prog J12 gl0 [] [] 3000 Tryd.f5 0 [.agg (row8 32 k ++ row8 12 iv ++ [.u64 s, .int .i64 t, .int .i64 p]), .rb true b (.is c), .agg [.int .i64 x, .int .i64 y]] [] (retQ Tryd.prog Tryd.f5 0 ⟨[], .bool true, [], []⟩)) := by
  constructor
  rw [vr5]
  intro x1 x2 x3 x4 x5 x6 x7 x8 x9 x10 x11
  have hT : (List.take (min (b.length : Int) 280).toNat b).length ≤ 280 := by simp; omega
  have h0 : 0 ≤ min (b.length : Int) 280 ∧ (min (b.length : Int) 280).toNat ≤ b.length := by omega
  have h3 : x3 = (List.take (min (b.length : Int) 280).toNat b).length + 16 := rfl
  have h1 : x1.length = x3 := List.length_set.trans (sealL_length _ _ _ _)
  have h6 : x6.length = 5 := rfl
  obtain ⟨i1, i2, i3⟩ := ixr_lt x x3 (by omega) (by omega)
  have hm : (min (x3 : Int) 15).toNat = 15 := by omega
  have h5 : x5 = 4 := recE_short _ _ _ _ (by rw [hm, List.length_take]; omega)
  have h7 : x7 ≤ x2.length := Nat.le_trans (Nat.sub_le _ _) (trimN_le _ _)
  have h8 : x8 := by
    show (List.take (min (x3 : Int) 15).toNat x1).length < 549755813888
    rw [hm, List.length_take]
    omega
  have h9 : x9 := by
    show 0 + (min (x3 : Int) 15).toNat ≤ x1.length
    omega
  have h10 : 0 ≤ x10 ∧ x10.toNat < x3 := ⟨i2, i3⟩
  have h11 : x11 := by
    show x10.toNat < (sealL _ _ _ _).length
    rw [sealL_length]
    exact h3 ▸ h10.2
  clear_value x1 x2 x4 x5 x6 x7 x8 x9 x10 x11 x3
  subst h5
  have d5 : decide ((4 : Int) = 0) = false := rfl
  by_cases h4 : x4 = 0
  · simp only [decide_eq_true h4, d5, decide_true, and_true, true_and]
    exact ⟨h0.1, h0.2, h6.symm, by omega, i1, h10.1, h10.2, h11, h10.1, h10.2, h11, h1.symm, by omega, h1.symm, by omega, by omega, by omega, h9, h8, by omega, by omega⟩
  · simp only [decide_eq_false h4, d5, decide_true, and_true, true_and]
    exact ⟨h0.1, h0.2, h6.symm, by omega, i1, h10.1, h10.2, h11, h10.1, h10.2, h11, h1.symm, by omega, h1.symm, by omega, by omega, by omega, h9, h8⟩
set_option maxRecDepth 100000 in
theorem br7 (k iv : F8) (s : BitVec 64) (t p : Int) (b : By) (c : Bool) : Must (bodyP Tryd.prog J12 gl0 [] [] 3000 Tryd.f7 0 [.agg (row8 32 k ++ row8 12 iv ++ [.u64 s, .int .i64 t, .int .i64 p]), .rb true b (.is c)] [] (retQ Tryd.prog Tryd.f7 0 ⟨[], .bool true, [], []⟩)) := by
  constructor
  rw [vr7]
  intro x1 x2 x3 x4 x5 x6 x7 x8 x9 x10 x11
  have hT : x3.length ≤ 60 := by
    show (List.take (min (b.length : Int) 60).toNat b).length ≤ 60
    rw [List.length_take]
    omega
  have h0 : 0 ≤ min (b.length : Int) 60 ∧ (min (b.length : Int) 60).toNat ≤ b.length := by omega
  have hb : ∀ P : Nat, P ≤ 39 → recBad 22 P x3.length = false := fun P hP => recBad_no (by omega) (by omega) (by omega) (by omega)
  have hl : ∀ P : Nat, (recS x2 x1 s 22 P x3).length = x3.length + 22 + P := fun P => by rw [recS_length]; omega
  have hw : ∀ P : Nat, P ≤ 39 → IntKind.i64.wrap (IntKind.i64.wrap ((22 : Int) + (x3.length : Int)) + (P : Int)) = ((x3.length + 22 + P : Nat) : Int) := fun P hP => by
    rw [wrap_nat (x3.length + 22) (x := (22 : Int) + (x3.length : Int)) (by omega) (by omega)]
    exact wrap_nat _ (by omega) (by omega)
  have hc : ∀ P : Nat, P ≤ 39 → List.take ((recS x2 x1 s 22 P x3).length - 5) (List.drop 5 (recS x2 x1 s 22 P x3)) = recB x2 x1 s 22 P x3 := fun P hP => recS_cut _ _ _ _ _ _ _ (by rw [recS_len]; omega)
  have hB : ∀ P : Nat, P ≤ 39 → (recB x2 x1 s 22 P x3).length = x3.length + 17 + P := fun P hP => by rw [recB_length, recI_length]; omega
  have hE : ∀ P : Nat, P ≤ 39 → recE x2 x1 s (recB x2 x1 s 22 P x3) = 0 := fun P hP => recE_recB _ _ _ (hb P hP)
  have hI : ∀ P : Nat, (recI 22 P x3).length = x3.length + 1 + P := fun P => recI_length _ _ _
  have e4 : x8 = recB x2 x1 s 22 (39 : Nat) x3 := hc 39 (by omega)
  have e5 : x11 = recB x2 x1 s 22 (13 : Nat) x3 := hc 13 (by omega)
  have e6 : x9 = recB x2 x1 s 22 (26 : Nat) x3 := hc 26 (by omega)
  have e7 : x10 = recB x2 x1 s 22 (0 : Nat) x3 := hc 0 (by omega)
  have l4 : x4.length = x3.length + 22 + 39 := hl 39
  have l5 : x5.length = x3.length + 22 + 13 := hl 13
  have l6 : x6.length = x3.length + 22 + 26 := hl 26
  have l7 : x7.length = x3.length + 22 + 0 := hl 0
  have w4 : IntKind.i64.wrap (IntKind.i64.wrap ((22 : Int) + (x3.length : Int)) + Int.ofNat 39) = ((x3.length + 22 + 39 : Nat) : Int) := hw 39 (by omega)
  have w5 : IntKind.i64.wrap (IntKind.i64.wrap ((22 : Int) + (x3.length : Int)) + Int.ofNat 13) = ((x3.length + 22 + 13 : Nat) : Int) := hw 13 (by omega)
  have w6 : IntKind.i64.wrap (IntKind.i64.wrap ((22 : Int) + (x3.length : Int)) + Int.ofNat 26) = ((x3.length + 22 + 26 : Nat) : Int) := hw 26 (by omega)
  have w7 : IntKind.i64.wrap (IntKind.i64.wrap ((22 : Int) + (x3.length : Int)) + (0 : Int)) = ((x3.length + 22 + 0 : Nat) : Int) := hw 0 (by omega)
  have b4 : recBad 22 (Int.ofNat 39) x3.length = false := hb 39 (by omega)
  have b5 : recBad 22 (Int.ofNat 13) x3.length = false := hb 13 (by omega)
  have b6 : recBad 22 (Int.ofNat 26) x3.length = false := hb 26 (by omega)
  have b7 : recBad 22 (0 : Int) x3.length = false := hb 0 (by omega)
  have z : BitVec.ofNat 8 0 = 0#8 := rfl
  have hr : ∀ P : Int, trimN 0#8 (recI 22 P x3) = x3.length + 1 := fun P => trim_recI _ (by omega) (by omega)
  have hs : ∀ P : Int, lastT (recI 22 P x3) = 22 := fun P => lastT_recI _ (by omega) (by omega)
  clear_value x4 x5 x6 x7 x8 x9 x10 x11 x3
  subst e4 e5 e6 e7
  set_option simprocs false in simp only [l4, l5, l6, l7, w4, w5, w6, w7, b4, b5, b6, b7, hE 39 (by omega), hE 13 (by omega), hE 26 (by omega), hE 0 (by omega), opM_recB, z, hr, hs, Nat.add_sub_cancel, take_recI, decide_true, Bool.not_true, Bool.not_false, and_true, true_and, hB 39 (by omega), hB 13 (by omega), hB 26 (by omega), hB 0 (by omega), hI]
  and_intros <;> first | exact h0.1 | exact h0.2 | omega
end Go.Sym

/- RecordPads: with whatever noughts behind the same text is opened; the record is that much longer. Condition: the two tables of the package start as the text of the program lays them, which the card ties. -/
namespace Go.Sym
open Go.Proofs Go.Spec
theorem w7 (W : World) (hG : GW gl0 W) (v0 : Value) (k iv : F8) (s : BitVec 64) (t p : Int) (h0 : VRel (κW W) (.agg (row8 32 k ++ row8 12 iv ++ [.u64 s, .int .i64 t, .int .i64 p])) v0) (v1 : Value) (l1 : List (BitVec 8)) (c1 : Bool) (h1 : VRel (κW W) (.rb true l1 (.is c1)) v1) :
    Calls Tryd.prog 7 #[v0, v1] W fun e w' => e = .returned (.bool true) ∧ RowKit.Below W.heap.size W w' := by
  have hv : VRels (κW W) [.agg (row8 32 k ++ row8 12 iv ++ [.u64 s, .int .i64 t, .int .i64 p]), .rb true l1 (.is c1)] [v0, v1] := by
    simp only [VRels]
    exact ⟨_, _, rfl, h0, _, _, rfl, h1, rfl⟩
  refine law_walk (gl := gl0) (Γ := J12) (fn := Tryd.f7) (av := [.agg (row8 32 k ++ row8 12 iv ++ [.u64 s, .int .i64 t, .int .i64 p]), .rb true l1 (.is c1)]) (ls := []) [] 3000 (by kernel_rfl) (by kernel_rfl) okJ12 (by kernel_rfl) hG (by kernel_rfl) hv ?_
  exact br7 k iv s t p l1 c1
end Go.Sym
namespace Go.Proofs.YtdenpaggdkfaeaaDoor.recordPads
open Go.ChangeShapes Go.WideShapes Go.ChangeAt Go.WideMaps Go.WideElems Go.RowKit
set_option linter.unusedVariables false
set_option maxRecDepth 100000 in
theorem lifted (os : Os) (started : os.Started) (H : Type) (enc : TypeId × Value → H) :
    ReturnsInHanded {} Tryd.checked os 7 .any (fun w args => (Rows.recordPadsSpec.pre enc Tryd.prog Tryd.f7 [] false w args ∧ laidMetH Tryd.prog laid4 w) ∧ sizedMet enc Tryd.prog Tryd.f7 (OpenSpec.ofChange Rows.recordPadsSpec) false w args)
      (Rows.recordPadsSpec.post enc Tryd.prog Tryd.f7 false true false false) := by
  refine returnsInHanded_of_change_and (C := Tryd.checked) (X := fun w _ => laidMetH Tryd.prog laid4 w) (fun _ _ _ hh h => h.of_heap hh) own started (by kernel_rfl) Tryd.func7
    (ChangeSpec.witness_shaped (enc := enc) (C := Tryd.checked) (os := os) (X := fun w _ => laidMetH Tryd.prog laid4 w) false (World.laidAll Tryd.prog os laid4) #[.agg ((Array.replicate 44 (.int .u8 0)) ++ #[.int .u64 0, .int .i64 0, .int .i64 0]), .slice none 0 0] 8 (World.laidAll_os _ _ _) (World.shaped_of_ZipB (by kernel_rfl) (by kernel_rfl)) (by kernel_rfl) (by kernel_rfl) (by kernel_rfl) (by rw [MakeChecks.laidMetH_plain _ _ _ (by kernel_rfl)]; exact laidMet_laidAll _ (by kernel_rfl) (by kernel_rfl))) ?_
  intro W base args ds gs before hval0 hW _ _ hL _
  have hval : ∀ (j : Nat) t v, Tryd.f7.params[j]? = some t → args[j]? = some v → Value.okWide Tryd.prog W .any base t v := hval0
  have hW' := hW
  obtain ⟨p, q, hA0, hV, rfl, hfz, hnd⟩ := hW
  have hA : DataW.TrodAll enc Tryd.prog W 0 (fun _ => true) true Tryd.f7.params.toList args.toList ds p := hA0
  rw [Tryd.params7] at hA hval
  obtain ⟨v0, vs0, d0, ds0, p0, q0, hargs, rfl, rfl, h0, r0⟩ := trodAll_cons hA
  obtain ⟨v1, vs1, d1, ds1, p1, q1, rfl, rfl, rfl, h1, r1⟩ := trodAll_cons r0
  obtain ⟨rfl, rfl, rfl⟩ := trodAll_nil r1
  obtain rfl : args = #[v0, v1] := by cases args; simp_all
  obtain ⟨rfl, rfl⟩ := trodVars_none hV
  clear hA0 hval0
  have hlt0 : ∀ x ∈ p0, x.block < W.heap.size := fun x hx => hW'.lt x (by simp [hx])
  obtain ⟨fuel0, hf0⟩ := h0
  obtain ⟨avs0, hs0, hd0, hr0⟩ := Go.Sym.rd_flat 9 37 (List.replicate 32 (.i .u8) ++ List.replicate 12 (.i .u8) ++ [.i .u64, .i .i64, .i .i64]) _ _ _ (by kernel_rfl) hf0
  obtain ⟨k, iv, s, t, p, rfl⟩ := Go.Sym.sh_rec hs0
  have hu0 := Go.Sym.agg_of_cells hr0 (by simp [Go.Sym.row8])
  have hlt1 : ∀ x ∈ p1, x.block < W.heap.size := fun x hx => hW'.lt x (by simp [hx])
  obtain ⟨fuel1, hf1⟩ := h1
  obtain ⟨u1, l1, c1, hc1, hcl1, hll1, hu1⟩ := Go.Sym.rd_bytes Tryd.underlying38 Tryd.underlying5 (by kernel_rfl) hf1
  have hv1 : v1 = u1 := Go.Sym.cells_slice Tryd.underlying38 (hval 1 38 v1 rfl rfl) hc1
  subst hv1
  refine (Go.Sym.w7 W (gw_laid4 hL) v0 k iv s t p hu0 v1 l1 c1 hu1).mono fun e W' ⟨he, bel⟩ => ?_
  subst he
  exact ⟨_, rfl, _, _, _, [], _, [], hW', trodAll_mk1 (shut_bool Tryd.underlying4 _), (trodAll_cons_mk (Below.trod laidO (by kernel_rfl) (of_decide_eq_true (by kernel_rfl)) ⟨fuel0, hf0⟩ bel hlt0) (trodAll_cons_mk (Below.trod laidO (by kernel_rfl) (of_decide_eq_true (by kernel_rfl)) ⟨fuel1, hf1⟩ bel hlt1) trodAll_mk0)), rfl, bel.frame _, fun h => by cases h⟩

theorem over : Rows.recordPadsRow.holds Tryd.pinned (OpenSpec.ofChange Rows.recordPadsSpec) :=
  OpenClaim.holds_of_wide 7 Tryd.f7 rfl rfl rfl rfl rfl rfl rfl ⟨rfl, rfl, rfl, rfl, rfl⟩ rfl rfl rfl rfl rfl (by kernel_rfl) Tryd.func7 (by kernel_rfl)
    (of_decide_eq_true (by kernel_rfl)) (by unfold Func.isWrapper; first | (rw [if_pos (by decide +kernel)]; kernel_rfl) | (rw [if_neg (by decide +kernel)]; exact ⟨rfl, rfl⟩))
    (fun os started H enc _ => lifted os started H enc)

theorem proved : Rows.RecordPadsCardSaid :=
  Claim7.holds_tied_plain_at .later [] [.data, .data, .data, .pinned] true (true, "87e7fe467a3e985133d1d9c81030e66719aefcc50b4a85793b11cbd7f8f88aa4") false
    over (fun _ h => by cases h) (by kernel_rfl) (fun _ h => by cases h) recordPads_row_tie rfl ⟨rfl, rfl⟩ (by kernel_rfl) rfl
    (fun f fn hf hfn => by
      obtain rfl : f = 7 := Option.some.inj ((show Tryd.prog.funcNamed "relay/relaylaw12.RecordPads" = some 7 by kernel_rfl).symm.trans hf) |>.symm
      obtain rfl : fn = Tryd.f7 := (Option.some.inj (Tryd.func7.symm.trans hfn)).symm
      exact ⟨by kernel_rfl, fun j t ht => by
        rw [Tryd.params7] at ht
        have hm : t ∈ [37, 38] := by simpa using Array.mem_of_getElem? ht
        have hall : ([37, 38].all fun u => !Tryd.prog.wantsStandIn u) = true := by kernel_rfl
        exact (show Tryd.prog.wantsStandIn t = false by simpa using List.all_eq_true.1 hall t hm)⟩)
    (by kernel_rfl)
#print axioms proved
end Go.Proofs.YtdenpaggdkfaeaaDoor.recordPads
