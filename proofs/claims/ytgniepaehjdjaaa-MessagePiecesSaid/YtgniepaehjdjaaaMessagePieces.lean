/- MessagePieces: of a message of which not all is there nothing is taken, wherever it ends. No conditions. -/
import Derived.Test.YtgniepaehjdjaaaMesA
import Derived.Test.YtgniepaehjdjaaaCurB
import Derived.Test.YtgniepaehjdjaaaRows
import Derived.WalkKit
import Derived.ProofKit
import Derived.OpenShut
import Derived.ChangeOld
import Derived.Below
import Derived.Carry
namespace Go.Sym
open Go.Proofs Go.Spec
set_option linter.unusedVariables false
set_option maxRecDepth 100000 in
theorem vm5 (k h : Int) (l m v w B : By) (c d : Bool) : bodyP Try.prog M8 gl0 [] [(7, lsP k v w B c d)] 3000 Try.f5 0 [.int .i64 k, .rb true l (.is c), .rb true m (.is d)] [] (retQ Try.prog Try.f5 0 ⟨[], .bool true, [], []⟩) = (
let x1 := IntKind.i64.wrap (↑(BitVec.ofInt 64 k % BitVec.ofNat 64 256).toNat : Int); (0 : Int) ≤ Min.min (↑(List.length l) : Int) (100 : Int) ∧ (Min.min (↑(List.length l) : Int) (100 : Int)).toNat ≤ List.length l ∧ (0 : Int) ≤ Min.min (↑(List.length m) : Int) (20 : Int) ∧ (Min.min (↑(List.length m) : Int) (20 : Int)).toNat ≤ List.length m ∧ @Bool.rec (fun _ => Prop) ((∃ (x : Nat), x.le (List.length B) ∧ k = k ∧ c = c ∧ v = List.take (Min.min (↑(List.length l) : Int) (100 : Int)).toNat l ∧ d = d ∧ w = List.take (Min.min (↑(List.length m) : Int) (20 : Int)).toNat m ∧ 4 + (List.take (Min.min (↑(List.length l) : Int) (100 : Int)).toNat l).length = List.length (mpB x1 (List.take (Min.min (↑(List.length l) : Int) (100 : Int)).toNat l)) ∧ B = mpB x1 (List.take (Min.min (↑(List.length l) : Int) (100 : Int)).toNat l) ∧ 4 + (List.take (Min.min (↑(List.length l) : Int) (100 : Int)).toNat l).length = List.length B ∧ (↑x : Int) = (0 : Int) ∧ True) ∧ ∀ (x : Nat), x.le (List.length B) → @Bool.rec (fun _ => Prop) (0 = 0 ∧ roomFor 0 (List.length B) 1 ∧ 0 + List.length B = ([] ++ B).length ∧ roomFor (0 + List.length B) (List.length w) 1 ∧ 0 + List.length B + List.length w = ([] ++ B ++ w).length ∧ ([] ++ B ++ w).length < 1099511627776 ∧ @Bool.rec (fun _ => Prop) (Bool.true = Bool.false ∧ True) (@Bool.rec (fun _ => Prop) (Bool.true = Bool.false ∧ True) (@Bool.rec (fun _ => Prop) (Bool.true = Bool.false ∧ True) (List.length (tkM ([] ++ B ++ w)) = List.length (tkM ([] ++ B ++ w)) ∧ @Bool.rec (fun _ => Prop) (Bool.true = Bool.false ∧ True) (List.length (tkR ([] ++ B ++ w)) = List.length (tkR ([] ++ B ++ w)) ∧ Bool.true = decide (tkR ([] ++ B ++ w) = w) ∧ True) (decide (tkM ([] ++ B ++ w) = v))) (decide (tkK ([] ++ B ++ w) = x1))) (decide ((if tkC ([] ++ B ++ w) = 2 then (3 : Int) else (0 : Int)) = (0 : Int)))) (decide (tkC ([] ++ B ++ w) = 1))) ((0 : Int) ≤ (↑x : Int) ∧ (↑x : Int).toNat ≤ List.length B ∧ (List.take (↑x : Int).toNat B).length < 1099511627776 ∧ @Bool.rec (fun _ => Prop) (Bool.true = Bool.false ∧ True) (@Bool.rec (fun _ => Prop) (Bool.true = Bool.false ∧ True) (List.length (tkR (List.take (↑x : Int).toNat B)) = List.length (tkR (List.take (↑x : Int).toNat B)) ∧ (0 : Int) ≤ (↑x : Int) ∧ (↑x : Int).toNat ≤ List.length B ∧ @Bool.rec (fun _ => Prop) (∃ (y : Nat), List.length B - y < List.length B - x ∧ y.le (List.length B) ∧ k = k ∧ c = c ∧ v = v ∧ d = d ∧ w = w ∧ B = B ∧ (↑y : Int) = IntKind.i64.wrap ((↑x : Int) + (1 : Int)) ∧ True) (Bool.true = Bool.false ∧ True) !decide (tkR (List.take (↑x : Int).toNat B) = List.take (↑x : Int).toNat B)) !!decide ((if tkC (List.take (↑x : Int).toNat B) = 2 then (3 : Int) else (0 : Int)) = (0 : Int))) !decide (tkC (List.take (↑x : Int).toNat B) = 1)) (decide ((↑x : Int) < (↑(List.length B) : Int)))) (Bool.true = Bool.false ∧ True) (mpBad x1 (List.take (Min.min (↑(List.length l) : Int) (100 : Int)).toNat l).length) : Prop) := by kernel_rfl
end Go.Sym

set_option linter.unusedSimpArgs false
namespace Go.Spec
theorem tkN_full (k : Int) (v R : By) (hv : v.length ≤ 2048) : tkN (mpB k v ++ R) = v.length := by
  unfold tkN mpB
  rw [puL_one]
  have hl := puL_len v.length 3
  have : (([BitVec.ofNat 8 k.toNat] ++ (puL v.length 3 ++ v) ++ R).drop 1).take 3 = puL v.length 3 := by
    simp [hl]
  rw [this, beN_puL]
  exact Nat.mod_eq_of_lt (by omega)
theorem tkN_part (k : Int) (v : By) (x : Nat) (hx : 4 ≤ x) (hv : v.length ≤ 2048) : tkN ((mpB k v).take x) = v.length := by
  have h := tkN_full k v [] hv
  rw [List.append_nil] at h
  unfold tkN at h ⊢
  rw [← h]
  congr 1
  rw [List.drop_take, List.take_take, Nat.min_eq_left (by omega)]
theorem tk_full (k : Int) (v R : By) (h : mpBad k v.length = false) : tkC (mpB k v ++ R) = 1 ∧ tkK (mpB k v ++ R) = k ∧ tkM (mpB k v ++ R) = v ∧ tkR (mpB k v ++ R) = R := by
  simp only [mpBad, Bool.or_eq_false_iff, decide_eq_false_iff_not] at h
  obtain ⟨⟨h1, h2⟩, h3⟩ := h
  have hN := tkN_full k v R (by omega)
  have hl := mpB_len k v
  have hC : tkC (mpB k v ++ R) = 1 := by
    unfold tkC
    rw [hN, if_neg (by simp only [List.length_append]; omega), if_neg (by omega), if_neg (by simp only [List.length_append]; omega)]
  have hp := puL_len v.length 3
  refine ⟨hC, ?_, ?_, ?_⟩
  · unfold tkK
    rw [if_pos hC]
    obtain ⟨j, rfl⟩ : ∃ j : Nat, k = j := ⟨k.toNat, by omega⟩
    simp only [mpB, Int.toNat_natCast, puL_one]
    simp
    omega
  · unfold tkM
    rw [if_pos hC, hN]
    have : mpB k v ++ R = (puL k.toNat 1 ++ puL v.length 3) ++ (v ++ R) := by simp [mpB]
    rw [this, List.drop_left' (by simp [puL_len])]
    simp
  · unfold tkR
    rw [if_pos hC, hN, List.drop_left' (by omega)]
theorem tk_part (k : Int) (v : By) (x : Nat) (h : mpBad k v.length = false) (hx : x < (mpB k v).length) : tkC ((mpB k v).take x) = 0 ∧ tkR ((mpB k v).take x) = (mpB k v).take x := by
  simp only [mpBad, Bool.or_eq_false_iff, decide_eq_false_iff_not] at h
  obtain ⟨⟨h1, h2⟩, h3⟩ := h
  have hl := mpB_len k v
  have hC : tkC ((mpB k v).take x) = 0 := by
    unfold tkC
    by_cases h4 : x < 4
    · rw [if_pos (by rw [List.length_take]; omega)]
    · rw [if_neg (by rw [List.length_take]; omega), tkN_part k v x (by omega) (by omega), if_neg (by omega), if_pos (by rw [List.length_take]; omega)]
  refine ⟨hC, ?_⟩
  unfold tkR
  rw [if_neg (by omega), if_neg (by omega)]
end Go.Spec
namespace Go.Sym
open Go.Proofs Go.Spec
set_option linter.unusedVariables false
def m100 (l : By) : By := l.take (min (l.length : Int) 100).toNat
def m20 (l : By) : By := l.take (min (l.length : Int) 20).toNat
def mK (k : Int) : Int := IntKind.i64.wrap ((BitVec.ofInt 64 k % BitVec.ofNat 64 256).toNat : Int)
theorem bm5 (k : Int) (l m : By) (c d : Bool) : Must (bodyP Try.prog M8 gl0 [] [(7, lsP k (m100 l) (m20 m) (mpB (mK k) (m100 l)) c d)] 3000 Try.f5 0 [.int .i64 k, .rb true l (.is c), .rb true m (.is d)] [] (retQ Try.prog Try.f5 0 ⟨[], .bool true, [], []⟩)) := by
  constructor
  rw [vm5]
  · have hk : 0 ≤ mK k ∧ mK k ≤ 255 := by
      have hr : (BitVec.ofInt 64 k % BitVec.ofNat 64 256).toNat < 256 := by
        rw [BitVec.toNat_umod]; exact Nat.mod_lt _ (by decide)
      unfold mK
      rw [wrap_i64 (by omega) (by omega)]
      omega
    have e1 : IntKind.i64.wrap ((BitVec.ofInt 64 k % BitVec.ofNat 64 256).toNat : Int) = mK k := rfl
    have e2 : List.take (min (l.length : Int) 100).toNat l = m100 l := rfl
    have e3 : List.take (min (m.length : Int) 20).toNat m = m20 m := rfl
    have l1 : (m100 l).length ≤ 100 := by simp [m100]; omega
    have l2 : (m20 m).length ≤ 20 := by simp [m20]; omega
    rw [e1, e2, e3]
    generalize mK k = K at hk ⊢
    generalize m100 l = v at l1 ⊢
    generalize m20 m = w at l2 ⊢
    intro x1
    simp only [x1]
    have hg : mpBad K v.length = false := by
      simp only [mpBad, Bool.or_eq_false_iff, decide_eq_false_iff_not]
      omega
    have hl := mpB_len K v
    rw [hg]
    refine ⟨by omega, by omega, by omega, by omega, ⟨0, Nat.zero_le _, ?_⟩, fun x hx => brec (fun h => ?_) (fun h => ?_)⟩
    · and_intros <;> first | exact trivial | rfl | omega
    · have hx2 : x < (mpB K v).length := by have := dlt.1 h; omega
      obtain ⟨k1, k2⟩ := tk_part K v x hg hx2
      simp only [Int.toNat_natCast, k1, k2]
      have d1 : decide ((0 : Nat) = 1) = false := by decide
      have d2 : decide ((if (0 : Nat) = 2 then (3 : Int) else 0) = 0) = true := by decide
      rw [d1, d2]
      simp only [decide_true, Bool.not_true, Bool.not_false]
      refine ⟨by omega, by omega, by rw [List.length_take]; omega, by trivial, by omega, by omega, x + 1, by omega, by exact hx2, ?_⟩
      and_intros <;> first | exact trivial | rfl | exact (wrap_nat _ (by omega) (by omega)).symm
    · obtain ⟨k1, k2, k3, k4⟩ := tk_full K v w hg
      simp only [List.nil_append, k1, k2, k3, k4]
      have d2 : decide ((if (1 : Nat) = 2 then (3 : Int) else 0) = 0) = true := by decide
      rw [d2]
      simp only [decide_true]
      and_intros <;> first | exact trivial | rfl | omega | (unfold roomFor; omega) | (simp; done) | (simp; omega)
  all_goals exact 0
end Go.Sym

/- MessagePieces: of a message of which not all is there nothing is taken, wherever it ends. No conditions. -/
namespace Go.Sym
open Go.Proofs Go.Spec
theorem w5 (W : World) (n0 : Int) (v1 : Value) (l1 : List (BitVec 8)) (c1 : Bool) (h1 : VRel (κW W) (.rb true l1 (.is c1)) v1) (_k1 : l1.length ≤ maxLen) (v2 : Value) (l2 : List (BitVec 8)) (c2 : Bool) (h2 : VRel (κW W) (.rb true l2 (.is c2)) v2) (_k2 : l2.length ≤ maxLen) :
    Calls Try.prog 5 #[.int .i64 n0, v1, v2] W fun e w' => e = .returned (.bool true) ∧ RowKit.Below W.heap.size W w' := by
  have hv : VRels (κW W) [.int .i64 n0, .rb true l1 (.is c1), .rb true l2 (.is c2)] [.int .i64 n0, v1, v2] := by
    simp only [VRels]
    exact ⟨_, _, rfl, rfl, _, _, rfl, h1, _, _, rfl, h2, rfl⟩
  refine law_walk (gl := gl0) (Γ := M8) (fn := Try.f5) (av := [.int .i64 n0, .rb true l1 (.is c1), .rb true l2 (.is c2)]) (ls := [(7, lsP n0 (m100 l1) (m20 l2) (mpB (mK n0) (m100 l1)) c1 c2)]) [] 3000 (by kernel_rfl) (by kernel_rfl) okM8 (by kernel_rfl) (GW.nil W) (by kernel_rfl) hv ?_
  exact bm5 n0 l1 l2 c1 c2
end Go.Sym
namespace Go.Proofs.Ytgniepaehjdjaaa.messagePieces
open Go.ChangeShapes Go.WideShapes Go.ChangeAt Go.RowKit
set_option linter.unusedVariables false

theorem own : ownKnob Try.prog.godebug = none := by kernel_rfl
theorem laid : laidOutB Try.prog = true := by kernel_rfl

set_option maxRecDepth 100000 in
theorem lifted (os : Os) (started : os.Started) (H : Type) (enc : TypeId × Value → H) :
    ReturnsInHanded {} Try.checked os 5 .any (Rows.messagePiecesSpec.pre6 enc Try.prog Try.f5 Rows.messagePiecesRow.domain false) (Rows.messagePiecesSpec.post enc Try.prog Try.f5 false true false false) := by
  refine returnsInHanded_of_change (C := Try.checked) own started (by kernel_rfl) Try.func5
    (ChangeSpec.witness6 (enc := enc) (C := Try.checked) false ⟨#[], #[.int .i64 0, .slice none 0 0, .slice none 0 0], []⟩ 8 (by kernel_rfl) (by kernel_rfl) (by kernel_rfl) (by kernel_rfl)) ?_
  intro W base args ds gs before hval0 hW hcnd _
  have hval : ∀ (j : Nat) t v, Try.f5.params[j]? = some t → args[j]? = some v → Value.okWide Try.prog W .any base t v := hval0
  have hW' := hW
  obtain ⟨p, q, hA0, hV, rfl, hfz, hnd⟩ := hW
  have hA : DataW.TrodAll enc Try.prog W 0 (fun _ => true) true Try.f5.params.toList args.toList ds p := hA0
  rw [Try.params5] at hA hval
  obtain ⟨v0, vs0, d0, ds0, p0, q0, hargs, rfl, rfl, h0, r0⟩ := trodAll_cons hA
  obtain ⟨v1, vs1, d1, ds1, p1, q1, rfl, rfl, rfl, h1, r1⟩ := trodAll_cons r0
  obtain ⟨v2, vs2, d2, ds2, p2, q2, rfl, rfl, rfl, h2, r2⟩ := trodAll_cons r1
  obtain ⟨rfl, rfl, rfl⟩ := trodAll_nil r2
  obtain rfl : args = #[v0, v1, v2] := by cases args; simp_all
  obtain ⟨rfl, rfl⟩ := trodVars_none hV
  obtain ⟨a0, rfl, rfl, rfl, w0⟩ := open_int Try.underlying3 (hval 0 3 v0 rfl rfl) h0
  clear hA0 hval0
  have hlt1 : ∀ x ∈ p1, x.block < W.heap.size := fun x hx => hW'.lt x (by simp [hx])
  obtain ⟨fuel1, hf1⟩ := h1
  obtain ⟨u1, l1, c1, hc1, hcl1, hll1, hu1⟩ := Go.Sym.rd_bytes Try.underlying22 Try.underlying5 (by kernel_rfl) hf1
  have hv1 : v1 = u1 := Go.Sym.cells_slice Try.underlying22 (hval 1 22 v1 rfl rfl) hc1
  subst hv1
  have hlt2 : ∀ x ∈ p2, x.block < W.heap.size := fun x hx => hW'.lt x (by simp [hx])
  obtain ⟨fuel2, hf2⟩ := h2
  obtain ⟨u2, l2, c2, hc2, hcl2, hll2, hu2⟩ := Go.Sym.rd_bytes Try.underlying22 Try.underlying5 (by kernel_rfl) hf2
  have hv2 : v2 = u2 := Go.Sym.cells_slice Try.underlying22 (hval 2 22 v2 rfl rfl) hc2
  subst hv2
  refine (Go.Sym.w5 W a0 v1 l1 c1 hu1 hll1 v2 l2 c2 hu2 hll2).mono fun e W' ⟨he, bel⟩ => ?_
  subst he
  exact ⟨_, rfl, _, _, _, [], _, [], hW', trodAll_mk1 (shut_bool Try.underlying4 _), (trodAll_cons_mk (shut_int Try.underlying3 w0) (trodAll_cons_mk (Below.trod laid (by kernel_rfl) (of_decide_eq_true (by kernel_rfl)) ⟨fuel1, hf1⟩ bel hlt1) (trodAll_cons_mk (Below.trod laid (by kernel_rfl) (of_decide_eq_true (by kernel_rfl)) ⟨fuel2, hf2⟩ bel hlt2) trodAll_mk0))), rfl, bel.frame _, fun h => by cases h⟩

theorem over : Rows.messagePiecesRow.holds Try.pinned (OpenSpec.ofChange Rows.messagePiecesSpec) :=
  OpenClaim.holds_of_wide 5 Try.f5 rfl rfl rfl rfl rfl rfl rfl ⟨rfl, rfl, rfl, rfl, rfl⟩ rfl rfl rfl rfl rfl (by kernel_rfl) Try.func5 (by kernel_rfl)
    (of_decide_eq_true (by kernel_rfl)) (by unfold Func.isWrapper; first | (rw [if_pos (by decide +kernel)]; kernel_rfl) | (rw [if_neg (by decide +kernel)]; exact ⟨rfl, rfl⟩))
    (fun os started H enc _ => lifted os started H enc)

theorem proved : Rows.MessagePiecesSaid :=
  over
#print axioms proved
end Go.Proofs.Ytgniepaehjdjaaa.messagePieces
