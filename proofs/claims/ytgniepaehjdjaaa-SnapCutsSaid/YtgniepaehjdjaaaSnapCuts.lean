/- SnapCuts: of a snapshot that is cut nothing is told, wherever it is cut. No conditions. -/
import Derived.Test.YtgniepaehjdjaaaSnaE
import Derived.Test.YtgniepaehjdjaaaSnaA
import Derived.Test.YtgniepaehjdjaaaRows
import Derived.WalkKit
import Derived.ProofKit
import Derived.OpenShut
import Derived.ChangeOld
import Derived.Below
import Derived.Carry
namespace Go.Sym
open Go.Proofs Go.Spec
set_option linter.unusedVariables false
set_option maxRecDepth 100000 in
theorem vs12 (v k p i o ie oe al : Int) (lg pt us : By) (c1 c2 c3 : Bool) (S : G8) (sl : Bool) : bodyP Try.prog Z19 gl0 [] [] 3000 Try.f12 0 [snS p (.rb true lg (.is c1)) S i o ie oe sl (.rb true pt (.is c2)) (.rb true us (.is c3)) al, .int .i64 v, .int .i64 k] [] (retQ Try.prog Try.f12 0 ⟨[], .bool true, [], []⟩) = (
let x1 := snPM (IntKind.i64.wrap ((1 : Int) + IntKind.i64.wrap (↑(BitVec.ofInt 64 v % BitVec.ofNat 64 3).toNat : Int))) p lg (fun (j : Nat) => (rg 224 S).getD j (0 : BitVec 8)) i o ie oe sl pt us al; let x2 := IntKind.i64.wrap (↑(BitVec.ofInt 64 k % BitVec.ofInt 64 (↑(List.length x1) : Int)).toNat : Int); let x3 := ((List.take x2.toNat x1).getD 0 (0 : BitVec 8)).toNat; @Bool.rec (fun _ => Prop) ((BitVec.ofInt 64 (↑(List.length x1) : Int)).toNat ≠ 0 ∧ (0 : Int) ≤ x2 ∧ x2.toNat ≤ List.length x1 ∧ 0 + x2.toNat ≤ List.length x1 ∧ (List.take x2.toNat x1).length < 1099511627776 ∧ (List.take x2.toNat x1 = [] ∨ 1 ≤ x3 ∧ x3 ≤ 4) ∧ gEr x3 (List.take x2.toNat x1) ≠ (0 : Int) ∧ (BitVec.ofInt 64 (↑(List.length x1) : Int)).toNat ≠ 0 ∧ (0 : Int) ≤ x2 ∧ x2.toNat ≤ List.length x1 ∧ 0 + x2.toNat ≤ List.length x1 ∧ (List.take x2.toNat x1).length < 1099511627776 ∧ (List.take x2.toNat x1 = [] ∨ 1 ≤ x3 ∧ x3 ≤ 4) ∧ gEr x3 (List.take x2.toNat x1) ≠ (0 : Int) ∧ @Bool.rec (fun _ => Prop) (Bool.true = Bool.false ∧ True) (@Bool.rec (fun _ => Prop) (Bool.true = Bool.false ∧ True) ((((0 : Int) = (0 : Int) ∧ ([] : By) = [] ∧ (0 : Int) = (0 : Int) ∧ (0 : Int) = (0 : Int) ∧ (0 : Int) = (0 : Int) ∧ (0 : Int) = (0 : Int) ∧ Bool.false = Bool.false ∧ ([] : By) = [] ∧ ([] : By) = [] ∧ (0 : Int) = (0 : Int)) ∧ ∀ (j : Nat), j < 224 → (List.replicate 224 (BitVec.ofNat 8 0)).getD j (0 : BitVec 8) = (List.replicate 224 (BitVec.ofNat 8 0)).getD j (0 : BitVec 8)) ∧ Bool.true = Bool.true ∧ True) (decide (gEr x3 (List.take x2.toNat x1) = gEr x3 (List.take x2.toNat x1)))) (decide (gEr x3 (List.take x2.toNat x1) = (2 : Int)))) (Bool.true = Bool.true ∧ True) !snKK (IntKind.i64.wrap ((1 : Int) + IntKind.i64.wrap (↑(BitVec.ofInt 64 v % BitVec.ofNat 64 3).toNat : Int))) p (List.length lg) i o ie oe (List.length pt) (List.length us) al : Prop) := by kernel_rfl
end Go.Sym

set_option linter.unusedSimpArgs false
namespace Go.Sym
open Go.Proofs Go.Spec
set_option linter.unusedVariables false
theorem ix_in (x : Int) (L : Nat) (h : 0 < L) (h2 : L < 1099511627776) : (BitVec.ofInt 64 (L : Int)).toNat ≠ 0 ∧ 0 ≤ IntKind.i64.wrap (↑(BitVec.ofInt 64 x % BitVec.ofInt 64 (L : Int)).toNat : Int) ∧ (IntKind.i64.wrap (↑(BitVec.ofInt 64 x % BitVec.ofInt 64 (L : Int)).toNat : Int)).toNat < L := by
  have he : (BitVec.ofInt 64 (L : Int)).toNat = L := by
    rw [BitVec.ofInt_natCast, BitVec.toNat_ofNat]
    exact Nat.mod_eq_of_lt (by omega)
  have hl : (BitVec.ofInt 64 x % BitVec.ofInt 64 (L : Int)).toNat < L := by
    rw [BitVec.toNat_umod, he]
    exact Nat.mod_lt _ h
  have w : IntKind.i64.wrap (↑(BitVec.ofInt 64 x % BitVec.ofInt 64 (L : Int)).toNat : Int) = ((BitVec.ofInt 64 x % BitVec.ofInt 64 (L : Int)).toNat : Int) := wrap_nat _ rfl (by omega)
  rw [w]
  omega
/-- Cut bytes tell that they are too short. -/
theorem cut_tell {L : By} {v : Nat} {p i o ie oe al : Int} {lg pt us : By} {S : G8} {sl : Bool} (h : Full L v p lg S i o ie oe sl pt us al) (k : Nat) (hk : k < L.length) :
    (L.take k = [] ∨ (1 ≤ ((L.take k).getD 0 0).toNat ∧ ((L.take k).getD 0 0).toNat ≤ 4)) ∧ gEr ((L.take k).getD 0 0).toNat (L.take k) = 2 := by
  have hr := h.hr
  have hg := h.hg
  cases k with
  | zero => exact ⟨.inl rfl, err_nil⟩
  | succ k =>
    have e : (L.take (k + 1)).getD 0 0 = L.getD 0 0 := by
      cases L with
      | nil => rfl
      | cons a b => rfl
    rw [e, h.hv]
    exact ⟨.inr (by omega), cut_err hk (by omega) hg.2.2.1 hg.2.2.2.1 hg.2.2.2.2.1 hg.2.1⟩
theorem full_v {v p i o ie oe al : Int} {lg pt us : By} (S : G8) (sl : Bool) (h : snKK v p lg.length i o ie oe pt.length us.length al = true) :
    ∃ us' al', Full (snB v p lg S i o ie oe sl pt us al) v.toNat p lg S i o ie oe sl pt us' al' := by
  have h0 := h
  unfold snKK at h0
  rw [Bool.and_eq_true, Bool.and_eq_true, decide_eq_true_eq, decide_eq_true_eq] at h0
  obtain ⟨h1, h2, h3⟩ := h0
  have hv : v = 1 ∨ v = 2 ∨ v = 3 := by omega
  rcases hv with e | e | e
  · subst e; exact ⟨_, _, full_1 S sl h1⟩
  · subst e; exact ⟨_, _, full_2 S sl h1⟩
  · subst e; exact ⟨_, _, full_3 S sl h1⟩
theorem bs12 (v k p i o ie oe al : Int) (lg pt us : By) (c1 c2 c3 : Bool) (S : G8) (sl : Bool) : Must (bodyP Try.prog Z19 gl0 [] [] 3000 Try.f12 0 [snS p (.rb true lg (.is c1)) S i o ie oe sl (.rb true pt (.is c2)) (.rb true us (.is c3)) al, .int .i64 v, .int .i64 k] [] (retQ Try.prog Try.f12 0 ⟨[], .bool true, [], []⟩)) := by
  constructor
  rw [vs12]
  generalize IntKind.i64.wrap ((1 : Int) + IntKind.i64.wrap (↑(BitVec.ofInt 64 v % BitVec.ofNat 64 3).toNat : Int)) = V
  cases hK : snKK V p lg.length i o ie oe pt.length us.length al
  · exact ⟨rfl, trivial⟩
  obtain ⟨us', al', hF⟩ := full_v (v := V) S sl hK
  have hx : snPM V p lg (fun (j : Nat) => (rg 224 S).getD j (0 : BitVec 8)) i o ie oe sl pt us al = snB V p lg S i o ie oe sl pt us al := by
    unfold snPM
    rw [if_pos hK]
    exact snB_cg (fun j hj => rg_getD _ _ _ _ hj)
  rw [hx]
  generalize snB V p lg S i o ie oe sl pt us al = L at *
  intro x1 x2 x3
  have hg := hF.hg
  have hz : 237 ≤ L.length := by
    have h1 := hF.hd.hz
    have h2 := hg.2.1
    have h3 := hF.hr
    have : gZ L ≤ gE V.toNat L := by
      unfold gE
      split <;> omega
    omega
  obtain ⟨i1, i2, i3⟩ := ix_in k L.length (by omega) hg.1
  have i4 : x2.toNat < L.length := i3
  obtain ⟨t1, t2⟩ := cut_tell hF x2.toNat i4
  have t2' : gEr x3 (List.take x2.toNat x1) = 2 := t2
  have hl : (List.take x2.toNat x1).length < 1099511627776 := by rw [List.length_take]; exact Nat.lt_of_le_of_lt (Nat.min_le_right _ _) hg.1
  rw [t2']
  refine ⟨i1, i2, Nat.le_of_lt i4, by rw [Nat.zero_add]; exact Nat.le_of_lt i4, hl, t1, by decide, i1, i2, Nat.le_of_lt i4, by rw [Nat.zero_add]; exact Nat.le_of_lt i4, hl, t1, by decide, ?_⟩
  exact ⟨⟨⟨rfl, rfl, rfl, rfl, rfl, rfl, rfl, rfl, rfl, rfl⟩, fun _ _ => rfl⟩, rfl, trivial⟩
end Go.Sym

/- SnapCuts: of a snapshot that is cut nothing is told, wherever it is cut. No conditions. -/
namespace Go.Sym
open Go.Proofs Go.Spec
theorem w12 (W : World) (v0 : Value) (p : Int) (lg : List (BitVec 8)) (c1 : Bool) (S : Nat → BitVec 8) (i o ie oe : Int) (sl : Bool) (pt : List (BitVec 8)) (c2 : Bool) (us : List (BitVec 8)) (c3 : Bool) (al : Int) (h0 : VRel (κW W) (.agg (snC p (.rb true lg (.is c1)) S i o ie oe sl (.rb true pt (.is c2)) (.rb true us (.is c3)) al)) v0) (n1 : Int) (n2 : Int) :
    Calls Try.prog 12 #[v0, .int .i64 n1, .int .i64 n2] W fun e w' => e = .returned (.bool true) ∧ RowKit.Below W.heap.size W w' := by
  have hv : VRels (κW W) [.agg (snC p (.rb true lg (.is c1)) S i o ie oe sl (.rb true pt (.is c2)) (.rb true us (.is c3)) al), .int .i64 n1, .int .i64 n2] [v0, .int .i64 n1, .int .i64 n2] := by
    simp only [VRels]
    exact ⟨_, _, rfl, h0, _, _, rfl, rfl, _, _, rfl, rfl, rfl⟩
  refine law_walk (gl := gl0) (Γ := Z19) (fn := Try.f12) (av := [.agg (snC p (.rb true lg (.is c1)) S i o ie oe sl (.rb true pt (.is c2)) (.rb true us (.is c3)) al), .int .i64 n1, .int .i64 n2]) (ls := []) [] 3000 (by kernel_rfl) (by kernel_rfl) okZ19 (by kernel_rfl) (GW.nil W) (by kernel_rfl) hv ?_
  exact bs12 n1 n2 p i o ie oe al lg pt us c1 c2 c3 S sl
end Go.Sym
namespace Go.Proofs.Ytgniepaehjdjaaa.snapCuts
open Go.ChangeShapes Go.WideShapes Go.ChangeAt Go.RowKit
set_option linter.unusedVariables false

theorem own : ownKnob Try.prog.godebug = none := by kernel_rfl
theorem laid : laidOutB Try.prog = true := by kernel_rfl

set_option maxRecDepth 100000 in
theorem lifted (os : Os) (started : os.Started) (H : Type) (enc : TypeId × Value → H) :
    ReturnsInHanded {} Try.checked os 12 .any (Rows.snapCutsSpec.pre6 enc Try.prog Try.f12 Rows.snapCutsRow.domain false) (Rows.snapCutsSpec.post enc Try.prog Try.f12 false true false false) := by
  refine returnsInHanded_of_change (C := Try.checked) own started (by kernel_rfl) Try.func12
    (ChangeSpec.witness6 (enc := enc) (C := Try.checked) false ⟨#[], #[.agg (#[.int .i64 0, .slice none 0 0] ++ Array.replicate 224 (.int .u8 0) ++ #[.int .i64 0, .int .i64 0, .int .i64 0, .int .i64 0, .bool false, .slice none 0 0, .slice none 0 0, .int .i64 0]), .int .i64 0, .int .i64 0], []⟩ 8 (by kernel_rfl) (by kernel_rfl) (by kernel_rfl) (by kernel_rfl)) ?_
  intro W base args ds gs before hval0 hW hcnd _
  have hval : ∀ (j : Nat) t v, Try.f12.params[j]? = some t → args[j]? = some v → Value.okWide Try.prog W .any base t v := hval0
  have hW' := hW
  obtain ⟨p, q, hA0, hV, rfl, hfz, hnd⟩ := hW
  have hA : DataW.TrodAll enc Try.prog W 0 (fun _ => true) true Try.f12.params.toList args.toList ds p := hA0
  rw [Try.params12] at hA hval
  obtain ⟨v0, vs0, d0, ds0, p0, q0, hargs, rfl, rfl, h0, r0⟩ := trodAll_cons hA
  obtain ⟨v1, vs1, d1, ds1, p1, q1, rfl, rfl, rfl, h1, r1⟩ := trodAll_cons r0
  obtain ⟨v2, vs2, d2, ds2, p2, q2, rfl, rfl, rfl, h2, r2⟩ := trodAll_cons r1
  obtain ⟨rfl, rfl, rfl⟩ := trodAll_nil r2
  obtain rfl : args = #[v0, v1, v2] := by cases args; simp_all
  obtain ⟨rfl, rfl⟩ := trodVars_none hV
  obtain ⟨a1, rfl, rfl, rfl, w1⟩ := open_int Try.underlying3 (hval 1 3 v1 rfl rfl) h1
  obtain ⟨a2, rfl, rfl, rfl, w2⟩ := open_int Try.underlying3 (hval 2 3 v2 rfl rfl) h2
  clear hA0 hval0
  have hlt0 : ∀ x ∈ p0, x.block < W.heap.size := fun x hx => hW'.lt x (by simp [hx])
  obtain ⟨fuel0, hf0⟩ := h0
  obtain ⟨avs0, hs0, hd0, hr0⟩ := Go.Sym.rd_flat 9 93 ([.i .i64, .y] ++ (List.replicate 224 (.i .u8) ++ [.i .i64, .i .i64, .i .i64, .i .i64, .b, .y, .y, .i .i64])) _ _ _ (by kernel_rfl) hf0
  obtain ⟨p, lg, c1, S, i, o, ie, oe, sl, pt, c2, us, c3, al, rfl⟩ := Go.Sym.sh_state hs0
  have hu0 := Go.Sym.agg_of_cells hr0 (by simp [Go.Sym.snC_len])
  refine (Go.Sym.w12 W v0 p lg c1 S i o ie oe sl pt c2 us c3 al hu0 a1 a2).mono fun e W' ⟨he, bel⟩ => ?_
  subst he
  exact ⟨_, rfl, _, _, _, [], _, [], hW', trodAll_mk1 (shut_bool Try.underlying4 _), (trodAll_cons_mk (Below.trod laid (by kernel_rfl) (of_decide_eq_true (by kernel_rfl)) ⟨fuel0, hf0⟩ bel hlt0) (trodAll_cons_mk (shut_int Try.underlying3 w1) (trodAll_cons_mk (shut_int Try.underlying3 w2) trodAll_mk0))), rfl, bel.frame _, fun h => by cases h⟩

theorem over : Rows.snapCutsRow.holds Try.pinned (OpenSpec.ofChange Rows.snapCutsSpec) :=
  OpenClaim.holds_of_wide 12 Try.f12 rfl rfl rfl rfl rfl rfl rfl ⟨rfl, rfl, rfl, rfl, rfl⟩ rfl rfl rfl rfl rfl (by kernel_rfl) Try.func12 (by kernel_rfl)
    (of_decide_eq_true (by kernel_rfl)) (by unfold Func.isWrapper; first | (rw [if_pos (by decide +kernel)]; kernel_rfl) | (rw [if_neg (by decide +kernel)]; exact ⟨rfl, rfl⟩))
    (fun os started H enc _ => lifted os started H enc)

theorem proved : Rows.SnapCutsSaid :=
  over
#print axioms proved
end Go.Proofs.Ytgniepaehjdjaaa.snapCuts
