/- RecordParts: of all texts the parts are of 256 bytes, but for the last one; together they are the text. Condition: the tables of the packages start as the text of the program lays them, which the card ties. -/
import Derived.Test.YtiebadbcdheldaaDoorParts
import Derived.Test.YtiebadbcdheldaaDoorShaB
namespace Go.Sym
open Go.Proofs Go.Spec
set_option linter.unusedVariables false
set_option maxRecDepth 100000 in
theorem vp4 (u : NL) (b T : By) (i : Int) : bodyP Tryd.prog Z3 gl0 [] [(6, lsPa T)] 3000 Tryd.f4 0 [.rb true b u, .int .i64 i] [] (retQ Tryd.prog Tryd.f4 0 ⟨[], .bool true, [], []⟩) = (
let x1 := (List.length T + 256 - 1) / 256; let x2 := [] ++ List.take (Min.min (↑(List.length b) : Int) (300 : Int)).toNat b ++ List.replicate (IntKind.i64.wrap (↑(BitVec.ofInt 64 i % BitVec.ofNat 64 900).toNat : Int)).toNat (0 : BitVec 8); let x3 := IntKind.i64.wrap (↑(BitVec.ofInt 64 i % BitVec.ofNat 64 900).toNat : Int); let x4 := ∀ (y : Nat), y < x1 → datas Bool.false [AV.rb Bool.true (List.take 256 (List.drop (y * 256) T)) NL.unk] = Bool.true ∧ List.take 256 (List.drop (y * 256) T) = List.take 256 (List.drop (y * 256) T) ∧ True; (0 : Int) ≤ Min.min (↑(List.length b) : Int) (300 : Int) ∧ (Min.min (↑(List.length b) : Int) (300 : Int)).toNat ≤ List.length b ∧ 0 = 0 ∧ roomFor 0 (List.take (Min.min (↑(List.length b) : Int) (300 : Int)).toNat b).length 1 ∧ (0 : Int) ≤ x3 ∧ x3 < (9223372036854775808 : Int) ∧ 0 + (List.take (Min.min (↑(List.length b) : Int) (300 : Int)).toNat b).length = ([] ++ List.take (Min.min (↑(List.length b) : Int) (300 : Int)).toNat b).length ∧ roomFor (0 + (List.take (Min.min (↑(List.length b) : Int) (300 : Int)).toNat b).length) (List.replicate x3.toNat (0 : BitVec 8)).length 1 ∧ 0 + (List.take (Min.min (↑(List.length b) : Int) (300 : Int)).toNat b).length + (List.replicate x3.toNat (0 : BitVec 8)).length = x2.length ∧ x2.length < 1048576 ∧ (∃ (x : Nat), x.le x1 ∧ 0 = 0 ∧ 0 = 0 ∧ List.length T = 0 + (List.take (Min.min (↑(List.length b) : Int) (300 : Int)).toNat b).length + (List.replicate x3.toNat (0 : BitVec 8)).length ∧ x1 = (x2.length + 256 - 1) / 256 ∧ 0 + x1 ≤ (x2.length + 256 - 1) / 256 ∧ (∀ (y : Nat), y < x1 → datas Bool.false [AV.rb Bool.true (List.take 256 (List.drop (y * 256) T)) NL.unk] = Bool.true ∧ List.take 256 (List.drop (y * 256) T) = List.take 256 (List.drop (y * 256) x2) ∧ True) ∧ (∀ (y : Nat), y < x1 → [AV.rb Bool.true (List.take 256 (List.drop (y * 256) x2)) NL.unk].length ≤ 1) ∧ List.take (256 * x) T = [] ∧ (↑x : Int) = (0 : Int) ∧ T = x2 ∧ True) ∧ ∀ (x : Nat), let x1_1 := (0 : Int) ≤ (↑x : Int) ∧ (↑x : Int).toNat < x1 ∧ (List.take (256 * x) T).length + (List.take 256 (List.drop ((↑x : Int).toNat * 256) T)).length ≤ 9223372036854775807 ∧ ∃ (y : Nat), 2000 - y < 2000 - x ∧ y.le x1 ∧ 0 = 0 ∧ 0 = 0 ∧ List.length T = List.length T ∧ x1 = x1 ∧ x4 ∧ List.take (256 * y) T = List.take (256 * x) T ++ List.take 256 (List.drop ((↑x : Int).toNat * 256) T) ∧ (↑y : Int) = IntKind.i64.wrap ((↑x : Int) + (1 : Int)) ∧ T = T ∧ True; x.le x1 → @Bool.rec (fun _ => Prop) (0 + List.length T ≤ List.length T ∧ Bool.true = decide (List.take (256 * x) T = List.take (List.length T) T) ∧ True) ((0 : Int) ≤ (↑x : Int) ∧ (↑x : Int).toNat < x1 ∧ @Bool.rec (fun _ => Prop) (Bool.true = Bool.false ∧ True) ((0 : Int) ≤ (↑x : Int) ∧ (↑x : Int).toNat < x1 ∧ @Bool.rec (fun _ => Prop) (Bool.true = Bool.false ∧ True) (@Bool.rec (fun _ => Prop) x1_1 ((0 : Int) ≤ (↑x : Int) ∧ (↑x : Int).toNat < x1 ∧ @Bool.rec (fun _ => Prop) x1_1 (Bool.true = Bool.false ∧ True) !decide ((↑(List.take 256 (List.drop ((↑x : Int).toNat * 256) T)).length : Int) = (256 : Int))) (decide ((↑x : Int) < IntKind.i64.wrap ((↑x1 : Int) - (1 : Int))))) !decide ((256 : Int) < (↑(List.take 256 (List.drop ((↑x : Int).toNat * 256) T)).length : Int))) !decide ((↑(List.take 256 (List.drop ((↑x : Int).toNat * 256) T)).length : Int) = (0 : Int))) (decide ((↑x : Int) < (↑x1 : Int))) : Prop) := by kernel_rfl
end Go.Sym

namespace Go.Spec
/-- How many noughts are laid behind. -/
def moP (i : Int) : Int := IntKind.i64.wrap (↑(BitVec.ofInt 64 i % BitVec.ofNat 64 900).toNat : Int)
/-- The text. -/
def txP (b : By) (i : Int) : By := [] ++ List.take (min (b.length : Int) 300).toNat b ++ List.replicate (moP i).toNat 0
end Go.Spec
namespace Go.Sym
open Go.Proofs Go.Spec
set_option linter.unusedVariables false
theorem moP_range (i : Int) : 0 ≤ moP i ∧ moP i < 900 := by
  unfold moP
  have h : (BitVec.ofInt 64 i % BitVec.ofNat 64 900).toNat < 900 := by
    rw [BitVec.toNat_umod]
    exact Nat.mod_lt _ (by decide)
  rw [wrap_nat _ rfl (by omega)]
  omega
theorem dtr {p : Prop} [Decidable p] (h : decide p = true) : p := of_decide_eq_true h
theorem dfl {p : Prop} [Decidable p] (h : decide p = false) : ¬ p := of_decide_eq_false h
theorem ntr {p : Prop} [Decidable p] (h : (!decide p) = true) : ¬ p := by simpa using h
theorem nfl {p : Prop} [Decidable p] (h : (!decide p) = false) : p := by simpa using h
theorem bl_rec {F T : Prop} {b : Bool} (h1 : b = true → T) (h0 : b = false → F) : @Bool.rec (fun _ => Prop) F T b := brec h1 h0
theorem take_step (T : By) (x : Nat) : List.take (256 * (x + 1)) T = List.take (256 * x) T ++ List.take 256 (List.drop (x * 256) T) := by
  rw [Nat.mul_add, Nat.mul_one, Nat.mul_comm x 256, List.take_add]
set_option maxRecDepth 100000 in
theorem bp4 (u : NL) (b : By) (i : Int) : Must (bodyP Tryd.prog Z3 gl0 [] [(6, lsPa (txP b i))] 3000 Tryd.f4 0 [.rb true b u, .int .i64 i] [] (retQ Tryd.prog Tryd.f4 0 ⟨[], .bool true, [], []⟩)) := by
  constructor
  rw [vp4]
  intro x1 x2 x3 x4
  have hm := moP_range i
  have hx3 : x3 = moP i := rfl
  have hx2 : x2 = txP b i := rfl
  have hb : (List.take (min (b.length : Int) 300).toNat b).length ≤ 300 := by rw [List.length_take]; omega
  have hl : (txP b i).length = (List.take (min (b.length : Int) 300).toNat b).length + (moP i).toNat := by unfold txP; simp
  have hl1 : (txP b i).length < 1200 := by omega
  have hx1 : x1 = ((txP b i).length + 255) / 256 := rfl
  have hT : ∀ k, (ckB (txP b i) 256 k).length = min 256 ((txP b i).length - k * 256) := fun k => ckB_len _ _ _
  have hk4 : x4 := fun _ _ => ⟨rfl, rfl, trivial⟩
  clear_value x4
  rw [hx2, hx3]
  generalize hg : txP b i = T at *
  generalize List.take (min (b.length : Int) 300).toNat b = tb at *
  generalize moP i = m at *
  refine ⟨by omega, by omega, rfl, by unfold roomFor; omega, hm.1, by omega, by simp, by rw [List.length_replicate]; unfold roomFor; omega, by rw [List.length_replicate]; omega, by omega, ⟨0, Nat.zero_le _, rfl, rfl, by rw [List.length_replicate]; omega, by omega, by omega, fun _ _ => ⟨rfl, rfl, trivial⟩, fun _ _ => Nat.le_refl _, rfl, rfl, rfl, trivial⟩, fun x => ?_⟩
  intro y1 hx
  have hx : x ≤ x1 := hx
  have ex : ((x : Int)).toNat = x := Int.toNat_natCast _
  have hy : x < x1 → y1 := by
    intro hlt
    refine ⟨Int.natCast_nonneg _, hlt, by rw [List.length_take, List.length_take]; omega, x + 1, by omega, hlt, rfl, rfl, rfl, rfl, hk4, ?_, (wrap_nat (x + 1) (by omega) (by omega)).symm, rfl, trivial⟩
    rw [ex]; exact take_step T x
  clear_value y1
  have hp : List.length (List.take 256 (List.drop ((x : Int).toNat * 256) T)) = min 256 (T.length - x * 256) := by rw [ex]; exact hT x
  rw [hp]
  have hlx : x < x1 → x * 256 < T.length := by intro h; omega
  refine bl_rec (fun h1 => ?_) (fun h1 => ?_)
  · have h1 : x < x1 := by have := dtr h1; omega
    have hq := hlx h1
    refine ⟨Int.natCast_nonneg _, h1, bl_rec (fun h2 => ?_) (fun h2 => ?_)⟩
    · refine ⟨Int.natCast_nonneg _, h1, bl_rec (fun h3 => ?_) (fun h3 => ?_)⟩
      · refine bl_rec (fun h4 => ?_) (fun h4 => hy h1)
        have h4 := dtr h4
        rw [wrap_nat (x1 - 1) (by omega) (by omega)] at h4
        refine ⟨Int.natCast_nonneg _, h1, bl_rec (fun h5 => ?_) (fun h5 => hy h1)⟩
        have h5 := ntr h5
        omega
      · have h3 := nfl h3
        omega
    · have h2 := nfl h2
      omega
  · have h1 : x1 ≤ x := by have := dfl h1; omega
    refine ⟨by omega, ?_, trivial⟩
    rw [List.take_of_length_le (Nat.le_refl _), List.take_of_length_le (by omega)]
    exact (decide_eq_true rfl).symm
end Go.Sym

/- RecordParts: of all texts the parts are of 256 bytes, but for the last one; together they are the text. Condition: the tables of the packages start as the text of the program lays them, which the card ties. -/
namespace Go.Sym
open Go.Proofs Go.Spec
theorem w4 (W : World) (hG : GW gl0 W) (v0 : Value) (l0 : List (BitVec 8)) (c0 : Bool) (h0 : VRel (κW W) (.rb true l0 (.is c0)) v0) (n1 : Int) :
    Calls Tryd.prog 4 #[v0, .int .i64 n1] W fun e w' => e = .returned (.bool true) ∧ RowKit.Below W.heap.size W w' := by
  have hv : VRels (κW W) [.rb true l0 (.is c0), .int .i64 n1] [v0, .int .i64 n1] := by
    simp only [VRels]
    exact ⟨_, _, rfl, h0, _, _, rfl, rfl, rfl⟩
  refine law_walk (gl := gl0) (Γ := Z3) (fn := Tryd.f4) (av := [.rb true l0 (.is c0), .int .i64 n1]) (ls := [(6, lsPa (txP l0 n1))]) [] 3000 (by kernel_rfl) (by kernel_rfl) okZ3 (by kernel_rfl) hG (by kernel_rfl) hv ?_
  exact bp4 (.is c0) l0 n1
end Go.Sym
namespace Go.Proofs.YtiebadbcdheldaaDoor.recordParts
open Go.ChangeShapes Go.WideShapes Go.ChangeAt Go.WideMaps Go.WideElems Go.RowKit
set_option linter.unusedVariables false
set_option maxRecDepth 100000 in
theorem lifted (os : Os) (started : os.Started) (H : Type) (enc : TypeId × Value → H) :
    ReturnsInHanded {} Tryd.checked os 4 .any (fun w args => (Rows.recordPartsSpec.pre enc Tryd.prog Tryd.f4 [] false w args ∧ laidMetH Tryd.prog laid4 w) ∧ sizedMet enc Tryd.prog Tryd.f4 (OpenSpec.ofChange Rows.recordPartsSpec) false w args)
      (Rows.recordPartsSpec.post enc Tryd.prog Tryd.f4 false true false false) := by
  refine returnsInHanded_of_change_and (C := Tryd.checked) (X := fun w _ => laidMetH Tryd.prog laid4 w) (fun _ _ _ hh h => h.of_heap hh) own started (by kernel_rfl) Tryd.func4
    (ChangeSpec.witness_shaped (enc := enc) (C := Tryd.checked) (os := os) (X := fun w _ => laidMetH Tryd.prog laid4 w) false (World.laidAll Tryd.prog os laid4) #[.slice none 0 0, .int .i64 0] 8 (World.laidAll_os _ _ _) (World.shaped_of_ZipB (by kernel_rfl) (by kernel_rfl)) (by kernel_rfl) (by kernel_rfl) (by kernel_rfl) (by rw [MakeChecks.laidMetH_plain _ _ _ (by kernel_rfl)]; exact laidMet_laidAll _ (by kernel_rfl) (by kernel_rfl))) ?_
  intro W base args ds gs before hval0 hW _ _ hL _
  have hval : ∀ (j : Nat) t v, Tryd.f4.params[j]? = some t → args[j]? = some v → Value.okWide Tryd.prog W .any base t v := hval0
  have hW' := hW
  obtain ⟨p, q, hA0, hV, rfl, hfz, hnd⟩ := hW
  have hA : DataW.TrodAll enc Tryd.prog W 0 (fun _ => true) true Tryd.f4.params.toList args.toList ds p := hA0
  rw [Tryd.params4] at hA hval
  obtain ⟨v0, vs0, d0, ds0, p0, q0, hargs, rfl, rfl, h0, r0⟩ := trodAll_cons hA
  obtain ⟨v1, vs1, d1, ds1, p1, q1, rfl, rfl, rfl, h1, r1⟩ := trodAll_cons r0
  obtain ⟨rfl, rfl, rfl⟩ := trodAll_nil r1
  obtain rfl : args = #[v0, v1] := by cases args; simp_all
  obtain ⟨rfl, rfl⟩ := trodVars_none hV
  obtain ⟨a1, rfl, rfl, rfl, w1⟩ := open_int Tryd.underlying3 (hval 1 3 v1 rfl rfl) h1
  clear hA0 hval0
  have hlt0 : ∀ x ∈ p0, x.block < W.heap.size := fun x hx => hW'.lt x (by simp [hx])
  obtain ⟨fuel0, hf0⟩ := h0
  obtain ⟨u0, l0, c0, hc0, hcl0, hll0, hu0⟩ := Go.Sym.rd_bytes Tryd.underlying29 Tryd.underlying5 (by kernel_rfl) hf0
  have hv0 : v0 = u0 := Go.Sym.cells_slice Tryd.underlying29 (hval 0 29 v0 rfl rfl) hc0
  subst hv0
  refine (Go.Sym.w4 W (gw_laid4 hL) v0 l0 c0 hu0 a1).mono fun e W' ⟨he, bel⟩ => ?_
  subst he
  exact ⟨_, rfl, _, _, _, [], _, [], hW', trodAll_mk1 (shut_bool Tryd.underlying4 _), (trodAll_cons_mk (Below.trod laidO (by kernel_rfl) (of_decide_eq_true (by kernel_rfl)) ⟨fuel0, hf0⟩ bel hlt0) (trodAll_cons_mk (shut_int Tryd.underlying3 w1) trodAll_mk0)), rfl, bel.frame _, fun h => by cases h⟩

theorem over : Rows.recordPartsRow.holds Tryd.pinned (OpenSpec.ofChange Rows.recordPartsSpec) :=
  OpenClaim.holds_of_wide 4 Tryd.f4 rfl rfl rfl rfl rfl rfl rfl ⟨rfl, rfl, rfl, rfl, rfl⟩ rfl rfl rfl rfl rfl (by kernel_rfl) Tryd.func4 (by kernel_rfl)
    (of_decide_eq_true (by kernel_rfl)) (by unfold Func.isWrapper; first | (rw [if_pos (by decide +kernel)]; kernel_rfl) | (rw [if_neg (by decide +kernel)]; exact ⟨rfl, rfl⟩))
    (fun os started H enc _ => lifted os started H enc)

theorem proved : Rows.RecordPartsCardSaid :=
  Claim7.holds_tied_plain_at .later [] [.data, .data, .data, .pinned] true (true, "4f7a8e753edb5b4691afba683ba9c8f8d97d01650ee63b208324206125437412") false
    over (fun _ h => by cases h) (by kernel_rfl) (fun _ h => by cases h) recordParts_row_tie rfl ⟨rfl, rfl⟩ (by kernel_rfl) rfl
    (fun f fn hf hfn => by
      obtain rfl : f = 4 := Option.some.inj ((show Tryd.prog.funcNamed "relay/relaylaw12.RecordParts" = some 4 by kernel_rfl).symm.trans hf) |>.symm
      obtain rfl : fn = Tryd.f4 := (Option.some.inj (Tryd.func4.symm.trans hfn)).symm
      exact ⟨by kernel_rfl, fun j t ht => by
        rw [Tryd.params4] at ht
        have hm : t ∈ [29, 3] := by simpa using Array.mem_of_getElem? ht
        have hall : ([29, 3].all fun u => !Tryd.prog.wantsStandIn u) = true := by kernel_rfl
        exact (show Tryd.prog.wantsStandIn t = false by simpa using List.all_eq_true.1 hall t hm)⟩)
    (by kernel_rfl)
#print axioms proved
end Go.Proofs.YtiebadbcdheldaaDoor.recordParts
