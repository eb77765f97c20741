/- ShaKeys: a key of more than a block is as good as its sum, and noughts behind a shorter one change nothing, of all keys and texts. Condition: the two tables of the package start as the text of the program lays them, which the card ties. -/
import Derived.Test.YtmofcjjhgigkoaaDoorShaC
namespace Go.Sym
open Go.Proofs Go.Spec
set_option linter.unusedVariables false
set_option maxRecDepth 100000 in
theorem vc7 (l k : By) (c d : Bool) (n : Int) : bodyP Tryd.prog R5 gl0 [] [] 3000 Tryd.f7 0 [.rb true l (.is c), .rb true k (.is d), .int .i64 n] [] (retQ Tryd.prog Tryd.f7 0 ⟨[], .bool true, [], []⟩) =
  ((fun (LO KB SH MO : By) => (
(0 : Int) ≤ Min.min (↑(List.length l) : Int) (100 : Int) ∧
 (Min.min (↑(List.length l) : Int) (100 : Int)).toNat ≤ List.length l ∧
 (0 : Nat) = (0 : Nat) ∧
 roomFor (0 : Nat) (List.take (Min.min (↑(List.length l) : Int) (100 : Int)).toNat l).length (1 : Nat) ∧
 (0 : Int) ≤ (65 : Int) ∧
 (65 : Int) < (9223372036854775808 : Int) ∧
 (0 : Nat) + (List.take (Min.min (↑(List.length l) : Int) (100 : Int)).toNat l).length = ([] ++ List.take (Min.min (↑(List.length l) : Int) (100 : Int)).toNat l).length ∧
 roomFor ((0 : Nat) + (List.take (Min.min (↑(List.length l) : Int) (100 : Int)).toNat l).length) (65 : Nat) (1 : Nat) ∧
 (0 : Nat) + (List.take (Min.min (↑(List.length l) : Int) (100 : Int)).toNat l).length + (65 : Nat) = LO.length ∧
 LO.length < (4611686018427387904 : Nat) ∧
 (0 : Int) ≤ Min.min (↑(List.length l) : Int) (30 : Int) ∧
 (Min.min (↑(List.length l) : Int) (30 : Int)).toNat ≤ List.length l ∧
 (0 : Nat) = (0 : Nat) ∧
 roomFor (0 : Nat) (List.take (Min.min (↑(List.length l) : Int) (30 : Int)).toNat l).length (1 : Nat) ∧
 (0 : Nat) + (List.take (Min.min (↑(List.length l) : Int) (30 : Int)).toNat l).length = SH.length ∧
 (0 : Nat) = (0 : Nat) ∧
 roomFor (0 : Nat) SH.length (1 : Nat) ∧
 (0 : Int) ≤ IntKind.i64.wrap (↑(BitVec.ofInt (64 : Nat) n % BitVec.ofNat (64 : Nat) (30 : Nat)).toNat : Int) ∧
 IntKind.i64.wrap (↑(BitVec.ofInt (64 : Nat) n % BitVec.ofNat (64 : Nat) (30 : Nat)).toNat : Int) < (9223372036854775808 : Int) ∧
 (0 : Nat) + SH.length = ([] ++ SH).length ∧
 roomFor ((0 : Nat) + SH.length) (List.replicate (IntKind.i64.wrap (↑(BitVec.ofInt (64 : Nat) n % BitVec.ofNat (64 : Nat) (30 : Nat)).toNat : Int)).toNat (0 : BitVec (8 : Nat))).length (1 : Nat) ∧
 (0 : Int) ≤ Min.min (↑(List.length k) : Int) (100 : Int) ∧
 (Min.min (↑(List.length k) : Int) (100 : Int)).toNat ≤ List.length k ∧
 (0 : Nat) + (List.take (Min.min (↑(List.length l) : Int) (100 : Int)).toNat l).length + (65 : Nat) = LO.length ∧
 (LO.length < (4611686018427387904 : Nat) ∧
 KB.length < (4611686018427387904 : Nat)) ∧
 (0 : Nat) = (0 : Nat) ∧
 roomFor (0 : Nat) (sha LO).length (1 : Nat) ∧
 (0 : Nat) + (sha LO).length = ([] ++ (sha LO)).length ∧
 (([] ++ (sha LO)).length < (4611686018427387904 : Nat) ∧
 KB.length < (4611686018427387904 : Nat)) ∧
 Bool.rec (Bool.true = Bool.false ∧
 True) ((0 : Nat) + (List.take (Min.min (↑(List.length l) : Int) (30 : Int)).toNat l).length = SH.length ∧
 (SH.length < (4611686018427387904 : Nat) ∧
 KB.length < (4611686018427387904 : Nat)) ∧
 (0 : Nat) + SH.length + (List.replicate (IntKind.i64.wrap (↑(BitVec.ofInt (64 : Nat) n % BitVec.ofNat (64 : Nat) (30 : Nat)).toNat : Int)).toNat (0 : BitVec (8 : Nat))).length = MO.length ∧
 (MO.length < (4611686018427387904 : Nat) ∧
 KB.length < (4611686018427387904 : Nat)) ∧
 Bool.true = (Decidable.decide (macB SH KB 0 = macB MO KB 0) &&
 (Decidable.decide (macB SH KB 1 = macB MO KB 1) &&
 (Decidable.decide (macB SH KB 2 = macB MO KB 2) &&
 (Decidable.decide (macB SH KB 3 = macB MO KB 3) &&
 (Decidable.decide (macB SH KB 4 = macB MO KB 4) &&
 (Decidable.decide (macB SH KB 5 = macB MO KB 5) &&
 (Decidable.decide (macB SH KB 6 = macB MO KB 6) &&
 (Decidable.decide (macB SH KB 7 = macB MO KB 7) &&
 (Decidable.decide (macB SH KB 8 = macB MO KB 8) &&
 (Decidable.decide (macB SH KB 9 = macB MO KB 9) &&
 (Decidable.decide (macB SH KB 10 = macB MO KB 10) &&
 (Decidable.decide (macB SH KB 11 = macB MO KB 11) &&
 (Decidable.decide (macB SH KB 12 = macB MO KB 12) &&
 (Decidable.decide (macB SH KB 13 = macB MO KB 13) &&
 (Decidable.decide (macB SH KB 14 = macB MO KB 14) &&
 (Decidable.decide (macB SH KB 15 = macB MO KB 15) &&
 (Decidable.decide (macB SH KB 16 = macB MO KB 16) &&
 (Decidable.decide (macB SH KB 17 = macB MO KB 17) &&
 (Decidable.decide (macB SH KB 18 = macB MO KB 18) &&
 (Decidable.decide (macB SH KB 19 = macB MO KB 19) &&
 (Decidable.decide (macB SH KB 20 = macB MO KB 20) &&
 (Decidable.decide (macB SH KB 21 = macB MO KB 21) &&
 (Decidable.decide (macB SH KB 22 = macB MO KB 22) &&
 (Decidable.decide (macB SH KB 23 = macB MO KB 23) &&
 (Decidable.decide (macB SH KB 24 = macB MO KB 24) &&
 (Decidable.decide (macB SH KB 25 = macB MO KB 25) &&
 (Decidable.decide (macB SH KB 26 = macB MO KB 26) &&
 (Decidable.decide (macB SH KB 27 = macB MO KB 27) &&
 (Decidable.decide (macB SH KB 28 = macB MO KB 28) &&
 (Decidable.decide (macB SH KB 29 = macB MO KB 29) &&
 (Decidable.decide (macB SH KB 30 = macB MO KB 30) &&
 (Decidable.decide (macB SH KB 31 = macB MO KB 31) &&
 Bool.true)))))))))))))))))))))))))))))))) ∧
 True) (Decidable.decide (macB LO KB 0 = macB ([] ++ (sha LO)) KB 0) &&
 (Decidable.decide (macB LO KB 1 = macB ([] ++ (sha LO)) KB 1) &&
 (Decidable.decide (macB LO KB 2 = macB ([] ++ (sha LO)) KB 2) &&
 (Decidable.decide (macB LO KB 3 = macB ([] ++ (sha LO)) KB 3) &&
 (Decidable.decide (macB LO KB 4 = macB ([] ++ (sha LO)) KB 4) &&
 (Decidable.decide (macB LO KB 5 = macB ([] ++ (sha LO)) KB 5) &&
 (Decidable.decide (macB LO KB 6 = macB ([] ++ (sha LO)) KB 6) &&
 (Decidable.decide (macB LO KB 7 = macB ([] ++ (sha LO)) KB 7) &&
 (Decidable.decide (macB LO KB 8 = macB ([] ++ (sha LO)) KB 8) &&
 (Decidable.decide (macB LO KB 9 = macB ([] ++ (sha LO)) KB 9) &&
 (Decidable.decide (macB LO KB 10 = macB ([] ++ (sha LO)) KB 10) &&
 (Decidable.decide (macB LO KB 11 = macB ([] ++ (sha LO)) KB 11) &&
 (Decidable.decide (macB LO KB 12 = macB ([] ++ (sha LO)) KB 12) &&
 (Decidable.decide (macB LO KB 13 = macB ([] ++ (sha LO)) KB 13) &&
 (Decidable.decide (macB LO KB 14 = macB ([] ++ (sha LO)) KB 14) &&
 (Decidable.decide (macB LO KB 15 = macB ([] ++ (sha LO)) KB 15) &&
 (Decidable.decide (macB LO KB 16 = macB ([] ++ (sha LO)) KB 16) &&
 (Decidable.decide (macB LO KB 17 = macB ([] ++ (sha LO)) KB 17) &&
 (Decidable.decide (macB LO KB 18 = macB ([] ++ (sha LO)) KB 18) &&
 (Decidable.decide (macB LO KB 19 = macB ([] ++ (sha LO)) KB 19) &&
 (Decidable.decide (macB LO KB 20 = macB ([] ++ (sha LO)) KB 20) &&
 (Decidable.decide (macB LO KB 21 = macB ([] ++ (sha LO)) KB 21) &&
 (Decidable.decide (macB LO KB 22 = macB ([] ++ (sha LO)) KB 22) &&
 (Decidable.decide (macB LO KB 23 = macB ([] ++ (sha LO)) KB 23) &&
 (Decidable.decide (macB LO KB 24 = macB ([] ++ (sha LO)) KB 24) &&
 (Decidable.decide (macB LO KB 25 = macB ([] ++ (sha LO)) KB 25) &&
 (Decidable.decide (macB LO KB 26 = macB ([] ++ (sha LO)) KB 26) &&
 (Decidable.decide (macB LO KB 27 = macB ([] ++ (sha LO)) KB 27) &&
 (Decidable.decide (macB LO KB 28 = macB ([] ++ (sha LO)) KB 28) &&
 (Decidable.decide (macB LO KB 29 = macB ([] ++ (sha LO)) KB 29) &&
 (Decidable.decide (macB LO KB 30 = macB ([] ++ (sha LO)) KB 30) &&
 (Decidable.decide (macB LO KB 31 = macB ([] ++ (sha LO)) KB 31) &&
 Bool.true))))))))))))))))))))))))))))))))))
  ([] ++ List.take (Min.min (↑(List.length l) : Int) (100 : Int)).toNat l ++ List.replicate (65 : Nat) (0 : BitVec (8 : Nat)))
  (List.take (Min.min (↑(List.length k) : Int) (100 : Int)).toNat k)
  ([] ++ List.take (Min.min (↑(List.length l) : Int) (30 : Int)).toNat l)
  ([] ++ ([] ++ List.take (Min.min (↑(List.length l) : Int) (30 : Int)).toNat l) ++ List.replicate (IntKind.i64.wrap (↑(BitVec.ofInt (64 : Nat) n % BitVec.ofNat (64 : Nat) (30 : Nat)).toNat : Int)).toNat (0 : BitVec (8 : Nat)))) := by kernel_rfl
end Go.Sym

namespace Go.Spec
theorem macB_key {a b : By} (h : ∀ p, padBlock a p = padBlock b p) (m : By) : macB a m = macB b m := by
  rw [macB_eq, macB_eq, h, h]
theorem padBlock_sha (a : By) (h : 64 < a.length) (p : BitVec 8) : padBlock a p = padBlock (sha a) p := by
  have h1 : macKey a = sha a := if_pos h
  have h2 : macKey (sha a) = sha a := if_neg (by simp [sha])
  unfold padBlock
  rw [h1, h2]
theorem padBlock_noughts (a : By) (n : Nat) (h : a.length + n ≤ 64) (p : BitVec 8) : padBlock a p = padBlock (a ++ List.replicate n 0) p := by
  have h1 : macKey a = a := if_neg (by omega)
  have h2 : macKey (a ++ List.replicate n 0) = a ++ List.replicate n 0 := if_neg (by simp; omega)
  unfold padBlock
  rw [h1, h2]
  apply List.map_congr_left
  intro i hi
  congr 1
  simp only [List.getD]
  by_cases hl : i < a.length
  · rw [List.getElem?_append_left hl]
  · rw [List.getElem?_append_right (by omega), List.getElem?_eq_none (by omega), List.getElem?_replicate]
    split <;> rfl
end Go.Spec
namespace Go.Sym
open Go.Proofs Go.Spec
set_option linter.unusedVariables false
theorem b7 (l k : By) (c d : Bool) (n : Int) : Must (bodyP Tryd.prog R5 gl0 [] [] 3000 Tryd.f7 0 [.rb true l (.is c), .rb true k (.is d), .int .i64 n] [] (retQ Tryd.prog Tryd.f7 0 ⟨[], .bool true, [], []⟩)) := by
  constructor
  rw [vc7]
  dsimp only
  have hM : (List.take (min (l.length : Int) 100).toNat l).length ≤ 100 := by simp; omega
  have hK : (List.take (min (k.length : Int) 100).toNat k).length ≤ 100 := by simp; omega
  have hS : (List.take (min (l.length : Int) 30).toNat l).length ≤ 30 := by simp; omega
  have hR : (BitVec.ofInt 64 n % 30#64).toNat < 30 := by
    rw [BitVec.toNat_umod]
    exact Nat.mod_lt _ (by decide)
  generalize (BitVec.ofInt 64 n % 30#64).toNat = R at *
  have h0 : 0 ≤ min (l.length : Int) 100 ∧ (min (l.length : Int) 100).toNat ≤ l.length := by omega
  have h1 : 0 ≤ min (l.length : Int) 30 ∧ (min (l.length : Int) 30).toNat ≤ l.length := by omega
  have h2 : 0 ≤ min (k.length : Int) 100 ∧ (min (k.length : Int) 100).toNat ≤ k.length := by omega
  generalize List.take (min (l.length : Int) 100).toNat l = M at *
  generalize List.take (min (l.length : Int) 30).toNat l = S at *
  generalize List.take (min (k.length : Int) 100).toNat k = K at *
  have w : IntKind.i64.wrap (R : Int) = (R : Int) := wrap_i64 (by omega) (by omega)
  have e1 : macB (M ++ List.replicate 65 0) K = macB (sha (M ++ List.replicate 65 0)) K := macB_key (padBlock_sha _ (by rw [List.length_append, List.length_replicate]; omega)) K
  have e2 : macB S K = macB (S ++ List.replicate R 0) K := macB_key (padBlock_noughts _ _ (by omega)) K
  have hsl : (sha (M ++ List.replicate 65 0)).length = 32 := by simp [sha]
  simp only [w, List.nil_append, Int.toNat_natCast, e1, e2, decide_true, Bool.and_self, List.length_append, List.length_replicate, hsl, true_and, and_true]
  refine ⟨h0.1, h0.2, ?_⟩
  unfold roomFor
  simp
  omega
end Go.Sym

/- ShaKeys: a key of more than a block is as good as its sum, and noughts behind a shorter one change nothing, of all keys and texts. Condition: the two tables of the package start as the text of the program lays them, which the card ties. -/
namespace Go.Sym
open Go.Proofs
theorem w7 (W : World) (hG : GW gl0 W) (v0 : Value) (l0 : Go.Spec.By) (c0 : Bool) (h0 : VRel (κW W) (.rb true l0 (.is c0)) v0) (v1 : Value) (l1 : Go.Spec.By) (c1 : Bool) (h1 : VRel (κW W) (.rb true l1 (.is c1)) v1) (n2 : Int) :
    Calls Tryd.prog 7 #[v0, v1, .int .i64 n2] W fun e w' => e = .returned (.bool true) ∧ RowKit.Below W.heap.size W w' := by
  have hv : VRels (κW W) [.rb true l0 (.is c0), .rb true l1 (.is c1), .int .i64 n2] [v0, v1, .int .i64 n2] := by
    simp only [VRels]
    exact ⟨_, _, rfl, h0, _, _, rfl, h1, _, _, rfl, rfl, rfl⟩
  refine law_walk (gl := gl0) (Γ := R5) (fn := Tryd.f7) (av := [.rb true l0 (.is c0), .rb true l1 (.is c1), .int .i64 n2]) (ls := []) [] 3000 (by kernel_rfl) (by kernel_rfl) okR5 (by kernel_rfl) hG (by kernel_rfl) hv ?_
  exact b7 l0 l1 c0 c1 n2
end Go.Sym
namespace Go.Proofs.YtmofcjjhgigkoaaDoor.shaKeys
open Go.ChangeShapes Go.WideShapes Go.ChangeAt Go.WideMaps Go.WideElems Go.RowKit
set_option linter.unusedVariables false
set_option maxRecDepth 100000 in
theorem lifted (os : Os) (started : os.Started) (H : Type) (enc : TypeId × Value → H) :
    ReturnsInHanded {} Tryd.checked os 7 .any (fun w args => (Rows.shaKeysSpec.pre enc Tryd.prog Tryd.f7 [] false w args ∧ laidMetH Tryd.prog laid2 w) ∧ sizedMet enc Tryd.prog Tryd.f7 (OpenSpec.ofChange Rows.shaKeysSpec) false w args)
      (Rows.shaKeysSpec.post enc Tryd.prog Tryd.f7 false true false false) := by
  refine returnsInHanded_of_change_and (C := Tryd.checked) (X := fun w _ => laidMetH Tryd.prog laid2 w) (fun _ _ _ hh h => h.of_heap hh) own started (by kernel_rfl) Tryd.func7
    (ChangeSpec.witness_shaped (enc := enc) (C := Tryd.checked) (os := os) (X := fun w _ => laidMetH Tryd.prog laid2 w) false (World.doorLaid Tryd.prog 400 os) #[.slice none 0 0, .slice none 0 0, .int .i64 0] 8 rfl (World.shaped_of_RefB (by kernel_rfl) (by kernel_rfl)) (by kernel_rfl) (by kernel_rfl) (by kernel_rfl) (door_met os _)) ?_
  intro W base args ds gs before hval0 hW _ _ hL _
  have hval : ∀ (j : Nat) t v, Tryd.f7.params[j]? = some t → args[j]? = some v → Value.okWide Tryd.prog W .any base t v := hval0
  have hW' := hW
  obtain ⟨p, q, hA0, hV, rfl, hfz, hnd⟩ := hW
  have hA : DataW.TrodAll enc Tryd.prog W 0 (fun _ => true) true Tryd.f7.params.toList args.toList ds p := hA0
  rw [Tryd.params7] at hA hval
  obtain ⟨v0, vs0, d0, ds0, p0, q0, hargs, rfl, rfl, h0, r0⟩ := trodAll_cons hA
  obtain ⟨v1, vs1, d1, ds1, p1, q1, rfl, rfl, rfl, h1, r1⟩ := trodAll_cons r0
  obtain ⟨v2, vs2, d2, ds2, p2, q2, rfl, rfl, rfl, h2, r2⟩ := trodAll_cons r1
  obtain ⟨rfl, rfl, rfl⟩ := trodAll_nil r2
  obtain rfl : args = #[v0, v1, v2] := by cases args; simp_all
  obtain ⟨rfl, rfl⟩ := trodVars_none hV
  obtain ⟨a2, rfl, rfl, rfl, w2⟩ := open_int Tryd.underlying3 (hval 2 3 v2 rfl rfl) h2
  clear hA0 hval0
  have hlt0 : ∀ x ∈ p0, x.block < W.heap.size := fun x hx => hW'.lt x (by simp [hx])
  obtain ⟨fuel0, hf0⟩ := h0
  obtain ⟨u0, l0, c0, hc0, hcl0, hll0, hu0⟩ := Go.Sym.rd_bytes Tryd.underlying22 Tryd.underlying5 one5 hf0
  have hv0 : v0 = u0 := Go.Sym.cells_slice Tryd.underlying22 (hval 0 22 v0 rfl rfl) hc0
  subst hv0
  have hlt1 : ∀ x ∈ p1, x.block < W.heap.size := fun x hx => hW'.lt x (by simp [hx])
  obtain ⟨fuel1, hf1⟩ := h1
  obtain ⟨u1, l1, c1, hc1, hcl1, hll1, hu1⟩ := Go.Sym.rd_bytes Tryd.underlying22 Tryd.underlying5 one5 hf1
  have hv1 : v1 = u1 := Go.Sym.cells_slice Tryd.underlying22 (hval 1 22 v1 rfl rfl) hc1
  subst hv1
  refine (Go.Sym.w7 W (gw_laid hL) v0 l0 c0 hu0 v1 l1 c1 hu1 a2).mono fun e W' ⟨he, bel⟩ => ?_
  subst he
  exact ⟨_, rfl, _, _, _, [], _, [], hW', trodAll_mk1 (shut_bool Tryd.underlying4 _), (trodAll_cons_mk (Below.trod laidO (by kernel_rfl) (of_decide_eq_true (by kernel_rfl)) ⟨fuel0, hf0⟩ bel hlt0) (trodAll_cons_mk (Below.trod laidO (by kernel_rfl) (of_decide_eq_true (by kernel_rfl)) ⟨fuel1, hf1⟩ bel hlt1) (trodAll_cons_mk (shut_int Tryd.underlying3 w2) trodAll_mk0))), rfl, bel.frame _, fun h => by cases h⟩

theorem over : Rows.shaKeysRow.holds Tryd.pinned (OpenSpec.ofChange Rows.shaKeysSpec) :=
  OpenClaim.holds_of_wide 7 Tryd.f7 rfl rfl rfl rfl rfl rfl rfl ⟨rfl, rfl, rfl, rfl, rfl⟩ rfl rfl rfl rfl rfl (by kernel_rfl) Tryd.func7 (by kernel_rfl)
    (of_decide_eq_true (by kernel_rfl)) (by unfold Func.isWrapper; first | (rw [if_pos (by decide +kernel)]; kernel_rfl) | (rw [if_neg (by decide +kernel)]; exact ⟨rfl, rfl⟩))
    (fun os started H enc _ => lifted os started H enc)

theorem proved : Rows.ShaKeysCardSaid :=
  Claim7.holds_tied_plain_at .later [] [.data, .data] true (true, "44e11be570e4154174cda8b964177679c33fce583db925e342de0af1715ed693") false
    over (fun _ h => by cases h) (by kernel_rfl) (fun _ h => by cases h) shaKeys_row_tie rfl ⟨rfl, rfl⟩ (by kernel_rfl) rfl
    (fun f fn hf hfn => by
      obtain rfl : f = 7 := Option.some.inj ((show Tryd.prog.funcNamed "relay/relaylaw01.ShaKeys" = some 7 by kernel_rfl).symm.trans hf) |>.symm
      obtain rfl : fn = Tryd.f7 := (Option.some.inj (Tryd.func7.symm.trans hfn)).symm
      exact ⟨by kernel_rfl, fun j t ht => by
        rw [Tryd.params7] at ht
        have hm : t ∈ [22, 22, 3] := by simpa using Array.mem_of_getElem? ht
        have hall : ([22, 22, 3].all fun u => !Tryd.prog.wantsStandIn u) = true := by kernel_rfl
        exact (show Tryd.prog.wantsStandIn t = false by simpa using List.all_eq_true.1 hall t hm)⟩)
    (by kernel_rfl)
#print axioms proved
end Go.Proofs.YtmofcjjhgigkoaaDoor.shaKeys
