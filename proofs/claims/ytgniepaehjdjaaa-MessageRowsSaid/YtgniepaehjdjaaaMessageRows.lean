/- MessageRows: of all messages the bytes are told, or that they can't be; side by side they are taken one by one. No conditions. -/
import Derived.Test.YtgniepaehjdjaaaCurB
import Derived.Test.YtgniepaehjdjaaaMesA
import Derived.Test.YtgniepaehjdjaaaRows
import Derived.WalkKit
import Derived.ProofKit
import Derived.OpenShut
import Derived.ChangeOld
import Derived.Below
import Derived.Carry
namespace Go.Sym
set_option linter.unusedVariables false
/-- Rows of a number and of bytes. -/
theorem sh_ky {g : Nat → List AV} (h : ∀ y, shAll [.i .i64, .y] (g y)) : ∃ (K : Nat → Int) (F : Nat → List (BitVec 8)) (C : Nat → Bool), g = (fun y => [.int .i64 (K y), .rb true (F y) (.is (C y))]) ∧ ∀ y, (C y = true → F y = []) ∧ (F y).length ≤ maxLen := by
  have each : ∀ y, ∃ (k : Int) (l : List (BitVec 8)) (c : Bool), g y = [.int .i64 k, .rb true l (.is c)] ∧ (c = true → l = []) ∧ l.length ≤ maxLen := by
    intro y
    obtain ⟨a, r, e1, ⟨n1, q1, _⟩, h1⟩ := sh_cons (h y)
    obtain ⟨b, r, e2, ⟨l, c, k1, k2, k3⟩, h2⟩ := sh_cons h1
    have e5 := sh_nil h2
    subst e5
    exact ⟨n1, l, c, by rw [e1, e2, q1, k1], k2, k3⟩
  refine ⟨fun y => Classical.choose (each y), fun y => Classical.choose (Classical.choose_spec (each y)), fun y => Classical.choose (Classical.choose_spec (Classical.choose_spec (each y))), ?_, fun y => (Classical.choose_spec (Classical.choose_spec (Classical.choose_spec (each y)))).2⟩
  funext y
  exact (Classical.choose_spec (Classical.choose_spec (Classical.choose_spec (each y)))).1
end Go.Sym

namespace Go.Sym
open Go.Proofs Go.Spec
set_option linter.unusedVariables false
set_option maxRecDepth 100000 in
theorem vm5 (k h : Int) (l m v w B : By) (c d : Bool) : bodyP Try.prog M8 gl0 [] [(7, lsP k v w B c d)] 3000 Try.f5 0 [.int .i64 k, .rb true l (.is c), .rb true m (.is d)] [] (retQ Try.prog Try.f5 0 ⟨[], .bool true, [], []⟩) = (
let x1 := IntKind.i64.wrap (↑(BitVec.ofInt 64 k % BitVec.ofNat 64 256).toNat : Int); (0 : Int) ≤ Min.min (↑(List.length l) : Int) (100 : Int) ∧ (Min.min (↑(List.length l) : Int) (100 : Int)).toNat ≤ List.length l ∧ (0 : Int) ≤ Min.min (↑(List.length m) : Int) (20 : Int) ∧ (Min.min (↑(List.length m) : Int) (20 : Int)).toNat ≤ List.length m ∧ @Bool.rec (fun _ => Prop) ((∃ (x : Nat), x.le (List.length B) ∧ k = k ∧ c = c ∧ v = List.take (Min.min (↑(List.length l) : Int) (100 : Int)).toNat l ∧ d = d ∧ w = List.take (Min.min (↑(List.length m) : Int) (20 : Int)).toNat m ∧ 4 + (List.take (Min.min (↑(List.length l) : Int) (100 : Int)).toNat l).length = List.length (mpB x1 (List.take (Min.min (↑(List.length l) : Int) (100 : Int)).toNat l)) ∧ B = mpB x1 (List.take (Min.min (↑(List.length l) : Int) (100 : Int)).toNat l) ∧ 4 + (List.take (Min.min (↑(List.length l) : Int) (100 : Int)).toNat l).length = List.length B ∧ (↑x : Int) = (0 : Int) ∧ True) ∧ ∀ (x : Nat), x.le (List.length B) → @Bool.rec (fun _ => Prop) (0 = 0 ∧ roomFor 0 (List.length B) 1 ∧ 0 + List.length B = ([] ++ B).length ∧ roomFor (0 + List.length B) (List.length w) 1 ∧ 0 + List.length B + List.length w = ([] ++ B ++ w).length ∧ ([] ++ B ++ w).length < 1099511627776 ∧ @Bool.rec (fun _ => Prop) (Bool.true = Bool.false ∧ True) (@Bool.rec (fun _ => Prop) (Bool.true = Bool.false ∧ True) (@Bool.rec (fun _ => Prop) (Bool.true = Bool.false ∧ True) (List.length (tkM ([] ++ B ++ w)) = List.length (tkM ([] ++ B ++ w)) ∧ @Bool.rec (fun _ => Prop) (Bool.true = Bool.false ∧ True) (List.length (tkR ([] ++ B ++ w)) = List.length (tkR ([] ++ B ++ w)) ∧ Bool.true = decide (tkR ([] ++ B ++ w) = w) ∧ True) (decide (tkM ([] ++ B ++ w) = v))) (decide (tkK ([] ++ B ++ w) = x1))) (decide ((if tkC ([] ++ B ++ w) = 2 then (3 : Int) else (0 : Int)) = (0 : Int)))) (decide (tkC ([] ++ B ++ w) = 1))) ((0 : Int) ≤ (↑x : Int) ∧ (↑x : Int).toNat ≤ List.length B ∧ (List.take (↑x : Int).toNat B).length < 1099511627776 ∧ @Bool.rec (fun _ => Prop) (Bool.true = Bool.false ∧ True) (@Bool.rec (fun _ => Prop) (Bool.true = Bool.false ∧ True) (List.length (tkR (List.take (↑x : Int).toNat B)) = List.length (tkR (List.take (↑x : Int).toNat B)) ∧ (0 : Int) ≤ (↑x : Int) ∧ (↑x : Int).toNat ≤ List.length B ∧ @Bool.rec (fun _ => Prop) (∃ (y : Nat), List.length B - y < List.length B - x ∧ y.le (List.length B) ∧ k = k ∧ c = c ∧ v = v ∧ d = d ∧ w = w ∧ B = B ∧ (↑y : Int) = IntKind.i64.wrap ((↑x : Int) + (1 : Int)) ∧ True) (Bool.true = Bool.false ∧ True) !decide (tkR (List.take (↑x : Int).toNat B) = List.take (↑x : Int).toNat B)) !!decide ((if tkC (List.take (↑x : Int).toNat B) = 2 then (3 : Int) else (0 : Int)) = (0 : Int))) !decide (tkC (List.take (↑x : Int).toNat B) = 1)) (decide ((↑x : Int) < (↑(List.length B) : Int)))) (Bool.true = Bool.false ∧ True) (mpBad x1 (List.take (Min.min (↑(List.length l) : Int) (100 : Int)).toNat l).length) : Prop) := by kernel_rfl
end Go.Sym

set_option linter.unusedSimpArgs false
namespace Go.Spec
theorem tkN_full (k : Int) (v R : By) (hv : v.length ≤ 2048) : tkN (mpB k v ++ R) = v.length := by
  unfold tkN mpB
  rw [puL_one]
  have hl := puL_len v.length 3
  have : (([BitVec.ofNat 8 k.toNat] ++ (puL v.length 3 ++ v) ++ R).drop 1).take 3 = puL v.length 3 := by
    simp [hl]
  rw [this, beN_puL]
  exact Nat.mod_eq_of_lt (by omega)
theorem tkN_part (k : Int) (v : By) (x : Nat) (hx : 4 ≤ x) (hv : v.length ≤ 2048) : tkN ((mpB k v).take x) = v.length := by
  have h := tkN_full k v [] hv
  rw [List.append_nil] at h
  unfold tkN at h ⊢
  rw [← h]
  congr 1
  rw [List.drop_take, List.take_take, Nat.min_eq_left (by omega)]
theorem tk_full (k : Int) (v R : By) (h : mpBad k v.length = false) : tkC (mpB k v ++ R) = 1 ∧ tkK (mpB k v ++ R) = k ∧ tkM (mpB k v ++ R) = v ∧ tkR (mpB k v ++ R) = R := by
  simp only [mpBad, Bool.or_eq_false_iff, decide_eq_false_iff_not] at h
  obtain ⟨⟨h1, h2⟩, h3⟩ := h
  have hN := tkN_full k v R (by omega)
  have hl := mpB_len k v
  have hC : tkC (mpB k v ++ R) = 1 := by
    unfold tkC
    rw [hN, if_neg (by simp only [List.length_append]; omega), if_neg (by omega), if_neg (by simp only [List.length_append]; omega)]
  have hp := puL_len v.length 3
  refine ⟨hC, ?_, ?_, ?_⟩
  · unfold tkK
    rw [if_pos hC]
    obtain ⟨j, rfl⟩ : ∃ j : Nat, k = j := ⟨k.toNat, by omega⟩
    simp only [mpB, Int.toNat_natCast, puL_one]
    simp
    omega
  · unfold tkM
    rw [if_pos hC, hN]
    have : mpB k v ++ R = (puL k.toNat 1 ++ puL v.length 3) ++ (v ++ R) := by simp [mpB]
    rw [this, List.drop_left' (by simp [puL_len])]
    simp
  · unfold tkR
    rw [if_pos hC, hN, List.drop_left' (by omega)]
theorem tk_part (k : Int) (v : By) (x : Nat) (h : mpBad k v.length = false) (hx : x < (mpB k v).length) : tkC ((mpB k v).take x) = 0 ∧ tkR ((mpB k v).take x) = (mpB k v).take x := by
  simp only [mpBad, Bool.or_eq_false_iff, decide_eq_false_iff_not] at h
  obtain ⟨⟨h1, h2⟩, h3⟩ := h
  have hl := mpB_len k v
  have hC : tkC ((mpB k v).take x) = 0 := by
    unfold tkC
    by_cases h4 : x < 4
    · rw [if_pos (by rw [List.length_take]; omega)]
    · rw [if_neg (by rw [List.length_take]; omega), tkN_part k v x (by omega) (by omega), if_neg (by omega), if_pos (by rw [List.length_take]; omega)]
  refine ⟨hC, ?_⟩
  unfold tkR
  rw [if_neg (by omega), if_neg (by omega)]
end Go.Spec
namespace Go.Sym
open Go.Proofs Go.Spec
set_option linter.unusedVariables false
def m100 (l : By) : By := l.take (min (l.length : Int) 100).toNat
def m20 (l : By) : By := l.take (min (l.length : Int) 20).toNat
def mK (k : Int) : Int := IntKind.i64.wrap ((BitVec.ofInt 64 k % BitVec.ofNat 64 256).toNat : Int)
theorem bm5 (k : Int) (l m : By) (c d : Bool) : Must (bodyP Try.prog M8 gl0 [] [(7, lsP k (m100 l) (m20 m) (mpB (mK k) (m100 l)) c d)] 3000 Try.f5 0 [.int .i64 k, .rb true l (.is c), .rb true m (.is d)] [] (retQ Try.prog Try.f5 0 ⟨[], .bool true, [], []⟩)) := by
  constructor
  rw [vm5]
  · have hk : 0 ≤ mK k ∧ mK k ≤ 255 := by
      have hr : (BitVec.ofInt 64 k % BitVec.ofNat 64 256).toNat < 256 := by
        rw [BitVec.toNat_umod]; exact Nat.mod_lt _ (by decide)
      unfold mK
      rw [wrap_i64 (by omega) (by omega)]
      omega
    have e1 : IntKind.i64.wrap ((BitVec.ofInt 64 k % BitVec.ofNat 64 256).toNat : Int) = mK k := rfl
    have e2 : List.take (min (l.length : Int) 100).toNat l = m100 l := rfl
    have e3 : List.take (min (m.length : Int) 20).toNat m = m20 m := rfl
    have l1 : (m100 l).length ≤ 100 := by simp [m100]; omega
    have l2 : (m20 m).length ≤ 20 := by simp [m20]; omega
    rw [e1, e2, e3]
    generalize mK k = K at hk ⊢
    generalize m100 l = v at l1 ⊢
    generalize m20 m = w at l2 ⊢
    intro x1
    simp only [x1]
    have hg : mpBad K v.length = false := by
      simp only [mpBad, Bool.or_eq_false_iff, decide_eq_false_iff_not]
      omega
    have hl := mpB_len K v
    rw [hg]
    refine ⟨by omega, by omega, by omega, by omega, ⟨0, Nat.zero_le _, ?_⟩, fun x hx => brec (fun h => ?_) (fun h => ?_)⟩
    · and_intros <;> first | exact trivial | rfl | omega
    · have hx2 : x < (mpB K v).length := by have := dlt.1 h; omega
      obtain ⟨k1, k2⟩ := tk_part K v x hg hx2
      simp only [Int.toNat_natCast, k1, k2]
      have d1 : decide ((0 : Nat) = 1) = false := by decide
      have d2 : decide ((if (0 : Nat) = 2 then (3 : Int) else 0) = 0) = true := by decide
      rw [d1, d2]
      simp only [decide_true, Bool.not_true, Bool.not_false]
      refine ⟨by omega, by omega, by rw [List.length_take]; omega, by trivial, by omega, by omega, x + 1, by omega, by exact hx2, ?_⟩
      and_intros <;> first | exact trivial | rfl | exact (wrap_nat _ (by omega) (by omega)).symm
    · obtain ⟨k1, k2, k3, k4⟩ := tk_full K v w hg
      simp only [List.nil_append, k1, k2, k3, k4]
      have d2 : decide ((if (1 : Nat) = 2 then (3 : Int) else 0) = 0) = true := by decide
      rw [d2]
      simp only [decide_true]
      and_intros <;> first | exact trivial | rfl | omega | (unfold roomFor; omega) | (simp; done) | (simp; omega)
  all_goals exact 0
end Go.Sym

set_option linter.unusedSimpArgs false
namespace Go.Sym
open Go.Proofs Go.Spec
set_option linter.unusedVariables false
def rT0 (L : By) (k : Nat) : RL := ⟨[], .tup [.agg [.int .i64 0, .nils], .slice 0 0 1 k .os .unk, .int .i64 0], [some (some (rdL L))], []⟩
def rT2 (L : By) : RL := ⟨[], .tup [.agg [.int .i64 0, .nils], .nils, .int .i64 2], [some (some (rdL L))], []⟩
def rT1 (L : By) (K : Int) (a b c : Nat) : RL := ⟨[], .tup [.agg [.int .i64 K, .slice 0 4 1 a .un .unk], .slice 0 b 1 c .un .unk, .int .i64 1], [some (some (rdL L))], []⟩
end Go.Sym

namespace Go.Sym
open Go.Proofs Go.Spec
set_option linter.unusedVariables false
set_option maxRecDepth 100000 in
theorem vm36a (L : By) (k k2 : Nat) : bodyP Try.prog M7 gl0 [] [] 3000 Try.f36 1 [.slice 0 0 1 k .os .unk] [rdL L] (retQ Try.prog Try.f36 1 (rT0 L k2)) = (
let x1 := IntKind.i64.wrap (IntKind.i64.wrap (IntKind.i64.wrap ((↑(List.getD L 1 (0 : BitVec 8)).toNat : Int) * (65536 : Int)) + IntKind.i64.wrap ((↑(List.getD L 2 (0 : BitVec 8)).toNat : Int) * (256 : Int))) + (↑(List.getD L 3 (0 : BitVec 8)).toNat : Int)); let x2 := (0 : Int) = (0 : Int) ∧ 0 = 0 ∧ 0 = 0 ∧ 0 = 0 ∧ k2 = k ∧ (0 : Int) = (0 : Int) ∧ L = L ∧ True; @Bool.rec (fun _ => Prop) (1 < k ∧ 1 < List.length L ∧ 2 < k ∧ 2 < List.length L ∧ 3 < k ∧ 3 < List.length L ∧ @Bool.rec (fun _ => Prop) (@Bool.rec (fun _ => Prop) (0 < k ∧ 0 < List.length L ∧ (0 : Int) ≤ IntKind.i64.wrap ((4 : Int) + x1) ∧ 4 ≤ (IntKind.i64.wrap ((4 : Int) + x1)).toNat ∧ (IntKind.i64.wrap ((4 : Int) + x1)).toNat ≤ k ∧ (0 : Int) ≤ IntKind.i64.wrap ((4 : Int) + x1) ∧ (IntKind.i64.wrap ((4 : Int) + x1)).toNat ≤ k ∧ False) x2 (decide ((↑k : Int) < IntKind.i64.wrap ((4 : Int) + x1)))) False (decide ((2048 : Int) < x1))) x2 (decide ((↑k : Int) < (4 : Int))) : Prop) := by kernel_rfl
set_option maxRecDepth 100000 in
theorem vm36b (L : By) (k : Nat) : bodyP Try.prog M7 gl0 [] [] 3000 Try.f36 1 [.slice 0 0 1 k .os .unk] [rdL L] (retQ Try.prog Try.f36 1 (rT2 L)) = (
let x1 := IntKind.i64.wrap (IntKind.i64.wrap (IntKind.i64.wrap ((↑(List.getD L 1 (0 : BitVec 8)).toNat : Int) * (65536 : Int)) + IntKind.i64.wrap ((↑(List.getD L 2 (0 : BitVec 8)).toNat : Int) * (256 : Int))) + (↑(List.getD L 3 (0 : BitVec 8)).toNat : Int)); @Bool.rec (fun _ => Prop) (1 < k ∧ 1 < List.length L ∧ 2 < k ∧ 2 < List.length L ∧ 3 < k ∧ 3 < List.length L ∧ @Bool.rec (fun _ => Prop) (@Bool.rec (fun _ => Prop) (0 < k ∧ 0 < List.length L ∧ (0 : Int) ≤ IntKind.i64.wrap ((4 : Int) + x1) ∧ 4 ≤ (IntKind.i64.wrap ((4 : Int) + x1)).toNat ∧ (IntKind.i64.wrap ((4 : Int) + x1)).toNat ≤ k ∧ (0 : Int) ≤ IntKind.i64.wrap ((4 : Int) + x1) ∧ (IntKind.i64.wrap ((4 : Int) + x1)).toNat ≤ k ∧ False) False (decide ((↑k : Int) < IntKind.i64.wrap ((4 : Int) + x1)))) ((0 : Int) = (0 : Int) ∧ (2 : Int) = (2 : Int) ∧ L = L ∧ True) (decide ((2048 : Int) < x1))) False (decide ((↑k : Int) < (4 : Int))) : Prop) := by kernel_rfl
set_option maxRecDepth 100000 in
theorem vm36c (L : By) (k a b c : Nat) (K : Int) : bodyP Try.prog M7 gl0 [] [] 3000 Try.f36 1 [.slice 0 0 1 k .os .unk] [rdL L] (retQ Try.prog Try.f36 1 (rT1 L K a b c)) = (
let x1 := IntKind.i64.wrap (IntKind.i64.wrap (IntKind.i64.wrap ((↑(List.getD L 1 (0 : BitVec 8)).toNat : Int) * (65536 : Int)) + IntKind.i64.wrap ((↑(List.getD L 2 (0 : BitVec 8)).toNat : Int) * (256 : Int))) + (↑(List.getD L 3 (0 : BitVec 8)).toNat : Int)); @Bool.rec (fun _ => Prop) (1 < k ∧ 1 < List.length L ∧ 2 < k ∧ 2 < List.length L ∧ 3 < k ∧ 3 < List.length L ∧ @Bool.rec (fun _ => Prop) (@Bool.rec (fun _ => Prop) (0 < k ∧ 0 < List.length L ∧ (0 : Int) ≤ IntKind.i64.wrap ((4 : Int) + x1) ∧ 4 ≤ (IntKind.i64.wrap ((4 : Int) + x1)).toNat ∧ (IntKind.i64.wrap ((4 : Int) + x1)).toNat ≤ k ∧ (0 : Int) ≤ IntKind.i64.wrap ((4 : Int) + x1) ∧ (IntKind.i64.wrap ((4 : Int) + x1)).toNat ≤ k ∧ K = (↑(List.getD L 0 (0 : BitVec 8)).toNat : Int) ∧ 4 = 4 ∧ 0 = 0 ∧ a = (IntKind.i64.wrap ((4 : Int) + x1)).toNat - 4 ∧ b = (IntKind.i64.wrap ((4 : Int) + x1)).toNat ∧ 0 = 0 ∧ c = minus k (IntKind.i64.wrap ((4 : Int) + x1)).toNat ∧ (1 : Int) = (1 : Int) ∧ L = L ∧ True) False (decide ((↑k : Int) < IntKind.i64.wrap ((4 : Int) + x1)))) False (decide ((2048 : Int) < x1))) False (decide ((↑k : Int) < (4 : Int))) : Prop) := by kernel_rfl
end Go.Sym

set_option linter.unusedSimpArgs false
namespace Go.Spec
theorem tkN_three (b : By) (h : 4 ≤ b.length) : tkN b = (b.getD 1 0).toNat * 65536 + (b.getD 2 0).toNat * 256 + (b.getD 3 0).toNat := by
  match b, h with
  | a0 :: a1 :: a2 :: a3 :: r, _ =>
    simp [tkN, beN]
    omega
theorem getD_take' (L : By) (k i : Nat) (h : i < k) : (L.take k).getD i 0 = L.getD i 0 := by
  simp only [List.getD]
  rw [List.getElem?_take, if_pos h]
end Go.Spec
namespace Go.Sym
open Go.Proofs Go.Spec
set_option linter.unusedVariables false
theorem tk_wrap (L : By) (k : Nat) (h1 : k ≤ L.length) (h4 : 4 ≤ k) : IntKind.i64.wrap (IntKind.i64.wrap (IntKind.i64.wrap ((↑(List.getD L 1 (0 : BitVec 8)).toNat : Int) * (65536 : Int)) + IntKind.i64.wrap ((↑(List.getD L 2 (0 : BitVec 8)).toNat : Int) * (256 : Int))) + (↑(List.getD L 3 (0 : BitVec 8)).toNat : Int)) = (tkN (L.take k) : Int) ∧ tkN (L.take k) < 16777216 := by
  have e := tkN_three (L.take k) (by rw [List.length_take]; omega)
  rw [getD_take' _ _ _ (by omega), getD_take' _ _ _ (by omega), getD_take' _ _ _ (by omega)] at e
  have b1 := (L.getD 1 0).isLt
  have b2 := (L.getD 2 0).isLt
  have b3 := (L.getD 3 0).isLt
  rw [wrap_i64 (x := ((L.getD 1 0).toNat : Int) * 65536) (by omega) (by omega), wrap_i64 (x := ((L.getD 2 0).toNat : Int) * 256) (by omega) (by omega), wrap_i64 (x := ((L.getD 1 0).toNat : Int) * 65536 + ((L.getD 2 0).toNat : Int) * 256) (by omega) (by omega), wrap_i64 (by omega) (by omega)]
  rw [e]
  omega
theorem bm36a (L : By) (k : Nat) (h1 : k ≤ L.length) (h2 : L.length < 1099511627776) (hC : tkC (L.take k) = 0) : Must (bodyP Try.prog M7 gl0 [] [] 3000 Try.f36 1 [.slice 0 0 1 k .os .unk] [rdL L] (retQ Try.prog Try.f36 1 (rT0 L k))) := by
  constructor
  rw [vm36a]
  dsimp only
  have hl : (L.take k).length = k := by rw [List.length_take]; omega
  unfold tkC at hC
  rw [hl] at hC
  by_cases h4 : k < 4
  · have d : decide ((k : Int) < 4) = true := decide_eq_true (by omega)
    rw [d]
    and_intros <;> trivial
  · obtain ⟨w1, w2⟩ := tk_wrap L k h1 (by omega)
    have d : decide ((k : Int) < 4) = false := decide_eq_false (by omega)
    rw [if_neg h4] at hC
    rw [w1, d]
    have hn : ¬ 2048 < tkN (L.take k) := by intro h; rw [if_pos h] at hC; cases hC
    rw [if_neg hn] at hC
    have hk : k < 4 + tkN (L.take k) := by
      rcases Nat.lt_or_ge k (4 + tkN (L.take k)) with h | h
      · exact h
      · rw [if_neg (by omega)] at hC; cases hC
    have w3 : IntKind.i64.wrap ((4 : Int) + (tkN (L.take k) : Int)) = ((4 + tkN (L.take k) : Nat) : Int) := wrap_nat _ (by omega) (by omega)
    rw [w3]
    have d2 : decide ((2048 : Int) < (tkN (L.take k) : Int)) = false := decide_eq_false (by omega)
    have d3 : decide ((k : Int) < ((4 + tkN (L.take k) : Nat) : Int)) = true := decide_eq_true (by omega)
    rw [d2, d3]
    and_intros <;> first | trivial | omega
theorem bm36b (L : By) (k : Nat) (h1 : k ≤ L.length) (h2 : L.length < 1099511627776) (hC : tkC (L.take k) = 2) : Must (bodyP Try.prog M7 gl0 [] [] 3000 Try.f36 1 [.slice 0 0 1 k .os .unk] [rdL L] (retQ Try.prog Try.f36 1 (rT2 L))) := by
  constructor
  rw [vm36b]
  dsimp only
  have hl : (L.take k).length = k := by rw [List.length_take]; omega
  unfold tkC at hC
  rw [hl] at hC
  have h4 : ¬ k < 4 := by intro h; rw [if_pos h] at hC; cases hC
  obtain ⟨w1, w2⟩ := tk_wrap L k h1 (by omega)
  have d : decide ((k : Int) < 4) = false := decide_eq_false (by omega)
  rw [if_neg h4] at hC
  have hn : 2048 < tkN (L.take k) := by
    rcases Nat.lt_or_ge 2048 (tkN (L.take k)) with h | h
    · exact h
    · rw [if_neg (by omega)] at hC
      split at hC <;> cases hC
  have d2 : decide ((2048 : Int) < (tkN (L.take k) : Int)) = true := decide_eq_true (by omega)
  rw [w1, d, d2]
  and_intros <;> first | trivial | omega
theorem bm36c (L : By) (k : Nat) (h1 : k ≤ L.length) (h2 : L.length < 1099511627776) (hC : tkC (L.take k) = 1) : Must (bodyP Try.prog M7 gl0 [] [] 3000 Try.f36 1 [.slice 0 0 1 k .os .unk] [rdL L] (retQ Try.prog Try.f36 1 (rT1 L (tkK (L.take k)) (tkN (L.take k)) (4 + tkN (L.take k)) (k - (4 + tkN (L.take k)))))) := by
  constructor
  rw [vm36c]
  dsimp only
  have hl : (L.take k).length = k := by rw [List.length_take]; omega
  have hK : tkK (L.take k) = ((L.take k).getD 0 0).toNat := by unfold tkK; rw [if_pos hC]
  unfold tkC at hC
  rw [hl] at hC
  have h4 : ¬ k < 4 := by intro h; rw [if_pos h] at hC; cases hC
  obtain ⟨w1, w2⟩ := tk_wrap L k h1 (by omega)
  have d : decide ((k : Int) < 4) = false := decide_eq_false (by omega)
  rw [if_neg h4] at hC
  have hn : ¬ 2048 < tkN (L.take k) := by intro h; rw [if_pos h] at hC; cases hC
  rw [if_neg hn] at hC
  have hk : ¬ k < 4 + tkN (L.take k) := by intro h; rw [if_pos h] at hC; cases hC
  have w3 : IntKind.i64.wrap ((4 : Int) + (tkN (L.take k) : Int)) = ((4 + tkN (L.take k) : Nat) : Int) := wrap_nat _ (by omega) (by omega)
  have d2 : decide ((2048 : Int) < (tkN (L.take k) : Int)) = false := decide_eq_false (by omega)
  have d3 : decide ((k : Int) < ((4 + tkN (L.take k) : Nat) : Int)) = false := decide_eq_false (by omega)
  rw [w1, w3, d, d2, d3, hK, getD_take' _ _ _ (by omega), minus_eq]
  and_intros <;> first | trivial | omega
def gm36 (xs : List AV) (bs : List ABlk) : TL := match xs, bs with
  | [.slice 0 0 1 k .os .unk], [⟨.bytes L, true, 1⟩] => .br (decide (tkC (L.take k) = 1))
      (.ok ⟨[k ≤ L.length, L.length < 1099511627776], .tup [.agg [.int .i64 (tkK (L.take k)), .slice 0 4 1 (tkN (L.take k)) .un .unk], .slice 0 (4 + tkN (L.take k)) 1 (k - (4 + tkN (L.take k))) .un .unk, .int .i64 1], [some (some (rdL L))], []⟩)
      (.br (decide (tkC (L.take k) = 2)) (.ok ⟨[k ≤ L.length, L.length < 1099511627776], .tup [.agg [.int .i64 0, .nils], .nils, .int .i64 2], [some (some (rdL L))], []⟩)
        (.ok ⟨[k ≤ L.length, L.length < 1099511627776], .tup [.agg [.int .i64 0, .nils], .slice 0 0 1 k .os .unk, .int .i64 0], [some (some (rdL L))], []⟩))
  | _, _ => .no
theorem tkC_cases (b : By) : tkC b = 0 ∨ tkC b = 1 ∨ tkC b = 2 := by
  unfold tkC
  split
  · exact .inl rfl
  · split
    · exact .inr (.inr rfl)
    · split
      · exact .inl rfl
      · exact .inr (.inl rfl)
theorem cm36 : COK Try.prog gl0 36 (mkF (reSp 1 gm36)) := by
  refine ctrE (fn := Try.f36) [] 3000 (by kernel_rfl) (by kernel_rfl) okM7 (by kernel_rfl) (fun args w => by kernel_rfl) fun xs bs r hs ho => ?_
  replace hs : (gm36 xs bs).sel = some r := hs
  unfold gm36 at hs
  split at hs
  · rename_i k L
    rcases tkC_cases (L.take k) with h | h | h <;> rw [h] at hs <;> simp [TL.sel] at hs <;> subst hs <;> obtain ⟨h1, h2⟩ := obsT_cons.1 ho
    · exact ⟨_, bm36a _ _ h1 (obsT_one.1 h2) h⟩
    · exact ⟨_, bm36c _ _ h1 (obsT_one.1 h2) h⟩
    · exact ⟨_, bm36b _ _ h1 (obsT_one.1 h2) h⟩
  · simp [TL.sel] at hs
noncomputable def M9 : Ctx := M7.add 36 (mkF (reSp 1 gm36))
theorem okM9 : COKs Try.prog gl0 M9 := okM7.add cm36
end Go.Sym

set_option linter.unusedSimpArgs false
namespace Go.Spec
/-- Messages that can be put, of the first so many. -/
abbrev Mg := Int × By × Bool
def mgD : Mg := (0, [], true)
def thL (K : Nat → Int) (F : Nat → By) (C : Nat → Bool) : Nat → List Mg
  | 0 => []
  | i + 1 => match mpBad (K i) (F i).length with | true => thL K F C i | false => thL K F C i ++ [(K i, F i, C i)]
def mgB (T : List Mg) : By := T.flatMap fun t => mpB t.1 t.2.1
end Go.Spec
namespace Go.Sym
open Go.Proofs Go.Spec
set_option linter.unusedVariables false
def thG (T : List Mg) : Nat → List AV := fun y => [.int .i64 (T.getD y mgD).1, .rb true (T.getD y mgD).2.1 (.is (T.getD y mgD).2.2)]
def lsR1 (K : Nat → Int) (F : Nat → By) (C : Nat → Bool) (n : Nat) (c : Bool) (ct : Int) : LS := ⟨Nat, fun i => [(0, .ros true 2 n (fun j => [.int .i64 (K j), .rb true (F j) (.is (C j))]) (.is c)), (1, .int .i64 ct), (5, .slice 100 0 1 (mgB (thL K F C i)).length .ow .unk), (6, .slice 101 0 2 (thL K F C i).length .ow .unk), (7, .int .i64 i)],
  fun i => [(100, ⟨.bytes (mgB (thL K F C i)), true, 1⟩), (101, ⟨.rows 2 (thL K F C i).length (thG (thL K F C i)), true, 2⟩)], 1000, fun i => 8 - i, fun i => i ≤ 8 ∧ i ≤ n, fun _ => []⟩
def lsR2 (T : List Mg) (ct : Int) : LS := ⟨Nat, fun j => [(1, .int .i64 ct), (5, .slice 100 0 1 (mgB T).length .ow .unk), (6, .ros false 2 T.length (thG T) .unk), (13, .str (mgB T)), (14, .slice 100 0 1 (mgB T).length .ow .unk), (15, .int .i64 0)],
  fun i => [(100, ⟨.bytes (mgB T), true, 1⟩)], 1000, fun j => T.length + 1, fun j => True, fun _ => []⟩
def lsR3 (T : List Mg) (ct : Int) : LS := ⟨Nat, fun j => [(1, .int .i64 ct), (5, .slice 100 0 1 (mgB T).length .ow .unk), (6, .ros false 2 T.length (thG T) .unk), (13, .str (mgB T)), (14, .rb false (mgB (T.drop j)) .unk), (15, .int .i64 j)],
  fun i => [(100, ⟨.bytes (mgB T), true, 1⟩)], 1000, fun j => T.length - j, fun j => 1 ≤ j ∧ j ≤ T.length, fun _ => []⟩
end Go.Sym

namespace Go.Sym
open Go.Proofs Go.Spec
set_option linter.unusedVariables false
set_option maxRecDepth 100000 in
theorem vm6 (K : Nat → Int) (F : Nat → By) (C : Nat → Bool) (n : Nat) (c : Bool) (ct : Int) (T : List Mg) : bodyP Try.prog M9 gl0 [] [(5, lsR1 K F C n c ct), (17, lsR2 T ct), (17, lsR3 T ct)] 3000 Try.f6 0 [.ros true 2 n (fun j => [.int .i64 (K j), .rb true (F j) (.is (C j))]) (.is c), .int .i64 ct] [] (retQ Try.prog Try.f6 0 ⟨[], .bool true, [], []⟩) = (
let x1 := (∀ (x : Nat), True → @Bool.rec (fun _ => Prop) (List.length (mgB T) = List.length (mgB T) ∧ List.length (mgB T) < 1099511627776 ∧ @Bool.rec (fun _ => Prop) ((BitVec.ofInt 64 (↑(List.length (mgB T)) : Int)).toNat ≠ 0 ∧ (0 : Int) ≤ IntKind.i64.wrap (↑(BitVec.ofInt 64 ct % BitVec.ofInt 64 (↑(List.length (mgB T)) : Int)).toNat : Int) ∧ (IntKind.i64.wrap (↑(BitVec.ofInt 64 ct % BitVec.ofInt 64 (↑(List.length (mgB T)) : Int)).toNat : Int)).toNat ≤ List.length (mgB T) ∧ 0 + (IntKind.i64.wrap (↑(BitVec.ofInt 64 ct % BitVec.ofInt 64 (↑(List.length (mgB T)) : Int)).toNat : Int)).toNat ≤ List.length (mgB T) ∧ (List.take (IntKind.i64.wrap (↑(BitVec.ofInt 64 ct % BitVec.ofInt 64 (↑(List.length (mgB T)) : Int)).toNat : Int)).toNat (mgB T)).length < 1099511627776 ∧ @Bool.rec (fun _ => Prop) (@Bool.rec (fun _ => Prop) ((IntKind.i64.wrap (↑(BitVec.ofInt 64 ct % BitVec.ofInt 64 (↑(List.length (mgB T)) : Int)).toNat : Int)).toNat ≤ List.length (mgB T) ∧ List.length (mgB T) < 1099511627776 ∧ @Bool.rec (fun _ => Prop) (Bool.true = Bool.false ∧ True) (@Bool.rec (fun _ => Prop) (Bool.true = Bool.false ∧ True) (@Bool.rec (fun _ => Prop) (Bool.true = Bool.false ∧ True) (List.length (mgB T) = List.length (mgB T) ∧ @Bool.rec (fun _ => Prop) (Bool.true = Bool.false ∧ True) (@Bool.rec (fun _ => Prop) (Bool.true = Bool.false ∧ True) (@Bool.rec (fun _ => Prop) (Bool.true = Bool.false ∧ True) (List.length (tkR (List.take (IntKind.i64.wrap (↑(BitVec.ofInt 64 ct % BitVec.ofInt 64 (↑(List.length (mgB T)) : Int)).toNat : Int)).toNat (mgB T))) = List.length (tkR (List.take (IntKind.i64.wrap (↑(BitVec.ofInt 64 ct % BitVec.ofInt 64 (↑(List.length (mgB T)) : Int)).toNat : Int)).toNat (mgB T))) ∧ 0 + (IntKind.i64.wrap (↑(BitVec.ofInt 64 ct % BitVec.ofInt 64 (↑(List.length (mgB T)) : Int)).toNat : Int)).toNat ≤ List.length (mgB T) ∧ @Bool.rec (fun _ => Prop) (Bool.true = Bool.false ∧ True) (@Bool.rec (fun _ => Prop) (Bool.true = Bool.false ∧ True) (List.length (tkM (List.take (IntKind.i64.wrap (↑(BitVec.ofInt 64 ct % BitVec.ofInt 64 (↑(List.length (mgB T)) : Int)).toNat : Int)).toNat (mgB T))) = List.length (tkM (List.take (IntKind.i64.wrap (↑(BitVec.ofInt 64 ct % BitVec.ofInt 64 (↑(List.length (mgB T)) : Int)).toNat : Int)).toNat (mgB T))) ∧ Bool.true = decide (tkM (List.take (IntKind.i64.wrap (↑(BitVec.ofInt 64 ct % BitVec.ofInt 64 (↑(List.length (mgB T)) : Int)).toNat : Int)).toNat (mgB T)) = []) ∧ True) (decide (tkK (List.take (IntKind.i64.wrap (↑(BitVec.ofInt 64 ct % BitVec.ofInt 64 (↑(List.length (mgB T)) : Int)).toNat : Int)).toNat (mgB T)) = (0 : Int)))) (decide (tkR (List.take (IntKind.i64.wrap (↑(BitVec.ofInt 64 ct % BitVec.ofInt 64 (↑(List.length (mgB T)) : Int)).toNat : Int)).toNat (mgB T)) = List.take (IntKind.i64.wrap (↑(BitVec.ofInt 64 ct % BitVec.ofInt 64 (↑(List.length (mgB T)) : Int)).toNat : Int)).toNat (mgB T)))) (decide (decide (tkC (List.take (IntKind.i64.wrap (↑(BitVec.ofInt 64 ct % BitVec.ofInt 64 (↑(List.length (mgB T)) : Int)).toNat : Int)).toNat (mgB T)) = 1) = Bool.false))) (decide ((if tkC (List.take (IntKind.i64.wrap (↑(BitVec.ofInt 64 ct % BitVec.ofInt 64 (↑(List.length (mgB T)) : Int)).toNat : Int)).toNat (mgB T)) = 2 then (3 : Int) else (0 : Int)) = (0 : Int)))) (decide (mgB T = mgB T))) (decide ((↑(List.length (tkR (mgB T))) : Int) = (0 : Int)))) (decide ((if tkC (mgB T) = 2 then (3 : Int) else (0 : Int)) = (0 : Int)))) !decide (tkC (mgB T) = 1)) ((IntKind.i64.wrap (↑(BitVec.ofInt 64 ct % BitVec.ofInt 64 (↑(List.length (mgB T)) : Int)).toNat : Int)).toNat ≤ List.length (mgB T) ∧ List.length (mgB T) < 1099511627776 ∧ @Bool.rec (fun _ => Prop) (Bool.true = Bool.false ∧ True) (@Bool.rec (fun _ => Prop) (Bool.true = Bool.false ∧ True) (@Bool.rec (fun _ => Prop) (Bool.true = Bool.false ∧ True) (List.length (mgB T) = List.length (mgB T) ∧ @Bool.rec (fun _ => Prop) (Bool.true = Bool.false ∧ True) (@Bool.rec (fun _ => Prop) (Bool.true = Bool.false ∧ True) (@Bool.rec (fun _ => Prop) (Bool.true = Bool.false ∧ True) (List.length (tkR (List.take (IntKind.i64.wrap (↑(BitVec.ofInt 64 ct % BitVec.ofInt 64 (↑(List.length (mgB T)) : Int)).toNat : Int)).toNat (mgB T))) = List.length (tkR (List.take (IntKind.i64.wrap (↑(BitVec.ofInt 64 ct % BitVec.ofInt 64 (↑(List.length (mgB T)) : Int)).toNat : Int)).toNat (mgB T))) ∧ @Bool.rec (fun _ => Prop) (Bool.true = Bool.false ∧ True) (@Bool.rec (fun _ => Prop) (Bool.true = Bool.false ∧ True) (List.length (tkM (List.take (IntKind.i64.wrap (↑(BitVec.ofInt 64 ct % BitVec.ofInt 64 (↑(List.length (mgB T)) : Int)).toNat : Int)).toNat (mgB T))) = List.length (tkM (List.take (IntKind.i64.wrap (↑(BitVec.ofInt 64 ct % BitVec.ofInt 64 (↑(List.length (mgB T)) : Int)).toNat : Int)).toNat (mgB T))) ∧ Bool.true = decide (tkM (List.take (IntKind.i64.wrap (↑(BitVec.ofInt 64 ct % BitVec.ofInt 64 (↑(List.length (mgB T)) : Int)).toNat : Int)).toNat (mgB T)) = []) ∧ True) (decide (tkK (List.take (IntKind.i64.wrap (↑(BitVec.ofInt 64 ct % BitVec.ofInt 64 (↑(List.length (mgB T)) : Int)).toNat : Int)).toNat (mgB T)) = (0 : Int)))) (decide (tkR (List.take (IntKind.i64.wrap (↑(BitVec.ofInt 64 ct % BitVec.ofInt 64 (↑(List.length (mgB T)) : Int)).toNat : Int)).toNat (mgB T)) = []))) (decide (decide (tkC (List.take (IntKind.i64.wrap (↑(BitVec.ofInt 64 ct % BitVec.ofInt 64 (↑(List.length (mgB T)) : Int)).toNat : Int)).toNat (mgB T)) = 1) = Bool.false))) (decide ((if tkC (List.take (IntKind.i64.wrap (↑(BitVec.ofInt 64 ct % BitVec.ofInt 64 (↑(List.length (mgB T)) : Int)).toNat : Int)).toNat (mgB T)) = 2 then (3 : Int) else (0 : Int)) = (0 : Int)))) (decide (mgB T = mgB T))) (decide ((↑(List.length (tkR (mgB T))) : Int) = (0 : Int)))) (decide ((if tkC (mgB T) = 2 then (3 : Int) else (0 : Int)) = (0 : Int)))) !decide (tkC (mgB T) = 1)) (decide (tkC (List.take (IntKind.i64.wrap (↑(BitVec.ofInt 64 ct % BitVec.ofInt 64 (↑(List.length (mgB T)) : Int)).toNat : Int)).toNat (mgB T)) = 2))) ((IntKind.i64.wrap (↑(BitVec.ofInt 64 ct % BitVec.ofInt 64 (↑(List.length (mgB T)) : Int)).toNat : Int)).toNat ≤ List.length (mgB T) ∧ List.length (mgB T) < 1099511627776 ∧ @Bool.rec (fun _ => Prop) (Bool.true = Bool.false ∧ True) (@Bool.rec (fun _ => Prop) (Bool.true = Bool.false ∧ True) (@Bool.rec (fun _ => Prop) (Bool.true = Bool.false ∧ True) (List.length (mgB T) = List.length (mgB T) ∧ @Bool.rec (fun _ => Prop) (Bool.true = Bool.false ∧ True) (@Bool.rec (fun _ => Prop) (Bool.true = Bool.false ∧ True) (@Bool.rec (fun _ => Prop) (Bool.true = Bool.false ∧ True) (List.length (tkR (List.take (IntKind.i64.wrap (↑(BitVec.ofInt 64 ct % BitVec.ofInt 64 (↑(List.length (mgB T)) : Int)).toNat : Int)).toNat (mgB T))) = List.length (tkR (List.take (IntKind.i64.wrap (↑(BitVec.ofInt 64 ct % BitVec.ofInt 64 (↑(List.length (mgB T)) : Int)).toNat : Int)).toNat (mgB T))) ∧ 4 + tkN (List.take (IntKind.i64.wrap (↑(BitVec.ofInt 64 ct % BitVec.ofInt 64 (↑(List.length (mgB T)) : Int)).toNat : Int)).toNat (mgB T)) + ((IntKind.i64.wrap (↑(BitVec.ofInt 64 ct % BitVec.ofInt 64 (↑(List.length (mgB T)) : Int)).toNat : Int)).toNat - (4 + tkN (List.take (IntKind.i64.wrap (↑(BitVec.ofInt 64 ct % BitVec.ofInt 64 (↑(List.length (mgB T)) : Int)).toNat : Int)).toNat (mgB T)))) ≤ List.length (mgB T) ∧ @Bool.rec (fun _ => Prop) (Bool.true = Bool.false ∧ True) (@Bool.rec (fun _ => Prop) (Bool.true = Bool.false ∧ True) (List.length (tkM (List.take (IntKind.i64.wrap (↑(BitVec.ofInt 64 ct % BitVec.ofInt 64 (↑(List.length (mgB T)) : Int)).toNat : Int)).toNat (mgB T))) = List.length (tkM (List.take (IntKind.i64.wrap (↑(BitVec.ofInt 64 ct % BitVec.ofInt 64 (↑(List.length (mgB T)) : Int)).toNat : Int)).toNat (mgB T))) ∧ 4 + tkN (List.take (IntKind.i64.wrap (↑(BitVec.ofInt 64 ct % BitVec.ofInt 64 (↑(List.length (mgB T)) : Int)).toNat : Int)).toNat (mgB T)) ≤ List.length (mgB T) ∧ Bool.true = decide (tkM (List.take (IntKind.i64.wrap (↑(BitVec.ofInt 64 ct % BitVec.ofInt 64 (↑(List.length (mgB T)) : Int)).toNat : Int)).toNat (mgB T)) = List.take (tkN (List.take (IntKind.i64.wrap (↑(BitVec.ofInt 64 ct % BitVec.ofInt 64 (↑(List.length (mgB T)) : Int)).toNat : Int)).toNat (mgB T))) (List.drop 4 (mgB T))) ∧ True) (decide (tkK (List.take (IntKind.i64.wrap (↑(BitVec.ofInt 64 ct % BitVec.ofInt 64 (↑(List.length (mgB T)) : Int)).toNat : Int)).toNat (mgB T)) = tkK (List.take (IntKind.i64.wrap (↑(BitVec.ofInt 64 ct % BitVec.ofInt 64 (↑(List.length (mgB T)) : Int)).toNat : Int)).toNat (mgB T))))) (decide (tkR (List.take (IntKind.i64.wrap (↑(BitVec.ofInt 64 ct % BitVec.ofInt 64 (↑(List.length (mgB T)) : Int)).toNat : Int)).toNat (mgB T)) = List.take ((IntKind.i64.wrap (↑(BitVec.ofInt 64 ct % BitVec.ofInt 64 (↑(List.length (mgB T)) : Int)).toNat : Int)).toNat - (4 + tkN (List.take (IntKind.i64.wrap (↑(BitVec.ofInt 64 ct % BitVec.ofInt 64 (↑(List.length (mgB T)) : Int)).toNat : Int)).toNat (mgB T)))) (dropN (4 + tkN (List.take (IntKind.i64.wrap (↑(BitVec.ofInt 64 ct % BitVec.ofInt 64 (↑(List.length (mgB T)) : Int)).toNat : Int)).toNat (mgB T))) (mgB T))))) (decide (decide (tkC (List.take (IntKind.i64.wrap (↑(BitVec.ofInt 64 ct % BitVec.ofInt 64 (↑(List.length (mgB T)) : Int)).toNat : Int)).toNat (mgB T)) = 1) = Bool.true))) (decide ((if tkC (List.take (IntKind.i64.wrap (↑(BitVec.ofInt 64 ct % BitVec.ofInt 64 (↑(List.length (mgB T)) : Int)).toNat : Int)).toNat (mgB T)) = 2 then (3 : Int) else (0 : Int)) = (0 : Int)))) (decide (mgB T = mgB T))) (decide ((↑(List.length (tkR (mgB T))) : Int) = (0 : Int)))) (decide ((if tkC (mgB T) = 2 then (3 : Int) else (0 : Int)) = (0 : Int)))) !decide (tkC (mgB T) = 1)) (decide (tkC (List.take (IntKind.i64.wrap (↑(BitVec.ofInt 64 ct % BitVec.ofInt 64 (↑(List.length (mgB T)) : Int)).toNat : Int)).toNat (mgB T)) = 1))) (@Bool.rec (fun _ => Prop) (Bool.true = Bool.false ∧ True) (@Bool.rec (fun _ => Prop) (Bool.true = Bool.false ∧ True) (Bool.true = decide ((↑(List.length (tkR (mgB T))) : Int) = (0 : Int)) ∧ True) (decide ((if tkC (mgB T) = 2 then (3 : Int) else (0 : Int)) = (0 : Int)))) !decide (tkC (mgB T) = 1)) (decide ((↑(List.length (mgB T)) : Int) = (0 : Int)))) (List.length (mgB T) = List.length (mgB T) ∧ List.length (mgB T) < 1099511627776 ∧ @Bool.rec (fun _ => Prop) (Bool.true = Bool.false ∧ True) (@Bool.rec (fun _ => Prop) (Bool.true = Bool.false ∧ True) ((0 : Int) ≤ (0 : Int) ∧ 0 < T.length ∧ @Bool.rec (fun _ => Prop) (Bool.true = Bool.false ∧ True) (List.length (tkM (mgB T)) = List.length (tkM (mgB T)) ∧ (0 : Int) ≤ (0 : Int) ∧ 0 < T.length ∧ @Bool.rec (fun _ => Prop) ((∃ (y : Nat), T.length + 1 < T.length + 1 ∧ True ∧ False) ∨ ∃ (y : Nat), T.length - y < T.length + 1 ∧ (1 ≤ y ∧ y ≤ T.length) ∧ ct = ct ∧ 0 = 0 ∧ 0 = 0 ∧ 0 = 0 ∧ List.length (mgB T) = List.length (mgB T) ∧ T.length = T.length ∧ (∀ (y : Nat), y < T.length → datas Bool.false [AV.int IntKind.i64 (T.getD y mgD).fst, AV.rb Bool.true (T.getD y mgD).snd.fst (NL.is (T.getD y mgD).snd.snd)] = Bool.true ∧ (T.getD y mgD).fst = (T.getD y mgD).fst ∧ (T.getD y mgD).snd.snd = (T.getD y mgD).snd.snd ∧ (T.getD y mgD).snd.fst = (T.getD y mgD).snd.fst ∧ True) ∧ mgB T = mgB T ∧ List.length (tkR (mgB T)) = List.length (tkR (mgB T)) ∧ mgB (List.drop y T) = tkR (mgB T) ∧ List.length (tkR (mgB T)) = List.length (mgB (List.drop y T)) ∧ (↑y : Int) = Int.ofNat 1 ∧ mgB T = mgB T ∧ True) (Bool.true = Bool.false ∧ True) !decide (tkM (mgB T) = (T.getD 0 mgD).snd.fst)) !!decide (tkK (mgB T) = (T.getD 0 mgD).fst)) !!decide (tkC (mgB T) = 1)) !!decide ((if tkC (mgB T) = 2 then (3 : Int) else (0 : Int)) = (0 : Int))) (decide ((0 : Int) < (↑T.length : Int)))) ∧ ∀ (x : Nat), 1 ≤ x ∧ x ≤ T.length → @Bool.rec (fun _ => Prop) (List.length (mgB (List.drop x T)) < 1099511627776 ∧ @Bool.rec (fun _ => Prop) ((BitVec.ofInt 64 (↑(List.length (mgB T)) : Int)).toNat ≠ 0 ∧ (0 : Int) ≤ IntKind.i64.wrap (↑(BitVec.ofInt 64 ct % BitVec.ofInt 64 (↑(List.length (mgB T)) : Int)).toNat : Int) ∧ (IntKind.i64.wrap (↑(BitVec.ofInt 64 ct % BitVec.ofInt 64 (↑(List.length (mgB T)) : Int)).toNat : Int)).toNat ≤ List.length (mgB T) ∧ 0 + (IntKind.i64.wrap (↑(BitVec.ofInt 64 ct % BitVec.ofInt 64 (↑(List.length (mgB T)) : Int)).toNat : Int)).toNat ≤ List.length (mgB T) ∧ (List.take (IntKind.i64.wrap (↑(BitVec.ofInt 64 ct % BitVec.ofInt 64 (↑(List.length (mgB T)) : Int)).toNat : Int)).toNat (mgB T)).length < 1099511627776 ∧ @Bool.rec (fun _ => Prop) (@Bool.rec (fun _ => Prop) ((IntKind.i64.wrap (↑(BitVec.ofInt 64 ct % BitVec.ofInt 64 (↑(List.length (mgB T)) : Int)).toNat : Int)).toNat ≤ List.length (mgB T) ∧ List.length (mgB T) < 1099511627776 ∧ @Bool.rec (fun _ => Prop) (Bool.true = Bool.false ∧ True) (@Bool.rec (fun _ => Prop) (Bool.true = Bool.false ∧ True) (@Bool.rec (fun _ => Prop) (Bool.true = Bool.false ∧ True) (List.length (mgB T) = List.length (mgB T) ∧ @Bool.rec (fun _ => Prop) (Bool.true = Bool.false ∧ True) (@Bool.rec (fun _ => Prop) (Bool.true = Bool.false ∧ True) (@Bool.rec (fun _ => Prop) (Bool.true = Bool.false ∧ True) (List.length (tkR (List.take (IntKind.i64.wrap (↑(BitVec.ofInt 64 ct % BitVec.ofInt 64 (↑(List.length (mgB T)) : Int)).toNat : Int)).toNat (mgB T))) = List.length (tkR (List.take (IntKind.i64.wrap (↑(BitVec.ofInt 64 ct % BitVec.ofInt 64 (↑(List.length (mgB T)) : Int)).toNat : Int)).toNat (mgB T))) ∧ 0 + (IntKind.i64.wrap (↑(BitVec.ofInt 64 ct % BitVec.ofInt 64 (↑(List.length (mgB T)) : Int)).toNat : Int)).toNat ≤ List.length (mgB T) ∧ @Bool.rec (fun _ => Prop) (Bool.true = Bool.false ∧ True) (@Bool.rec (fun _ => Prop) (Bool.true = Bool.false ∧ True) (List.length (tkM (List.take (IntKind.i64.wrap (↑(BitVec.ofInt 64 ct % BitVec.ofInt 64 (↑(List.length (mgB T)) : Int)).toNat : Int)).toNat (mgB T))) = List.length (tkM (List.take (IntKind.i64.wrap (↑(BitVec.ofInt 64 ct % BitVec.ofInt 64 (↑(List.length (mgB T)) : Int)).toNat : Int)).toNat (mgB T))) ∧ Bool.true = decide (tkM (List.take (IntKind.i64.wrap (↑(BitVec.ofInt 64 ct % BitVec.ofInt 64 (↑(List.length (mgB T)) : Int)).toNat : Int)).toNat (mgB T)) = []) ∧ True) (decide (tkK (List.take (IntKind.i64.wrap (↑(BitVec.ofInt 64 ct % BitVec.ofInt 64 (↑(List.length (mgB T)) : Int)).toNat : Int)).toNat (mgB T)) = (0 : Int)))) (decide (tkR (List.take (IntKind.i64.wrap (↑(BitVec.ofInt 64 ct % BitVec.ofInt 64 (↑(List.length (mgB T)) : Int)).toNat : Int)).toNat (mgB T)) = List.take (IntKind.i64.wrap (↑(BitVec.ofInt 64 ct % BitVec.ofInt 64 (↑(List.length (mgB T)) : Int)).toNat : Int)).toNat (mgB T)))) (decide (decide (tkC (List.take (IntKind.i64.wrap (↑(BitVec.ofInt 64 ct % BitVec.ofInt 64 (↑(List.length (mgB T)) : Int)).toNat : Int)).toNat (mgB T)) = 1) = Bool.false))) (decide ((if tkC (List.take (IntKind.i64.wrap (↑(BitVec.ofInt 64 ct % BitVec.ofInt 64 (↑(List.length (mgB T)) : Int)).toNat : Int)).toNat (mgB T)) = 2 then (3 : Int) else (0 : Int)) = (0 : Int)))) (decide (mgB T = mgB T))) (decide ((↑(List.length (tkR (mgB (List.drop x T)))) : Int) = (0 : Int)))) (decide ((if tkC (mgB (List.drop x T)) = 2 then (3 : Int) else (0 : Int)) = (0 : Int)))) !decide (tkC (mgB (List.drop x T)) = 1)) ((IntKind.i64.wrap (↑(BitVec.ofInt 64 ct % BitVec.ofInt 64 (↑(List.length (mgB T)) : Int)).toNat : Int)).toNat ≤ List.length (mgB T) ∧ List.length (mgB T) < 1099511627776 ∧ @Bool.rec (fun _ => Prop) (Bool.true = Bool.false ∧ True) (@Bool.rec (fun _ => Prop) (Bool.true = Bool.false ∧ True) (@Bool.rec (fun _ => Prop) (Bool.true = Bool.false ∧ True) (List.length (mgB T) = List.length (mgB T) ∧ @Bool.rec (fun _ => Prop) (Bool.true = Bool.false ∧ True) (@Bool.rec (fun _ => Prop) (Bool.true = Bool.false ∧ True) (@Bool.rec (fun _ => Prop) (Bool.true = Bool.false ∧ True) (List.length (tkR (List.take (IntKind.i64.wrap (↑(BitVec.ofInt 64 ct % BitVec.ofInt 64 (↑(List.length (mgB T)) : Int)).toNat : Int)).toNat (mgB T))) = List.length (tkR (List.take (IntKind.i64.wrap (↑(BitVec.ofInt 64 ct % BitVec.ofInt 64 (↑(List.length (mgB T)) : Int)).toNat : Int)).toNat (mgB T))) ∧ @Bool.rec (fun _ => Prop) (Bool.true = Bool.false ∧ True) (@Bool.rec (fun _ => Prop) (Bool.true = Bool.false ∧ True) (List.length (tkM (List.take (IntKind.i64.wrap (↑(BitVec.ofInt 64 ct % BitVec.ofInt 64 (↑(List.length (mgB T)) : Int)).toNat : Int)).toNat (mgB T))) = List.length (tkM (List.take (IntKind.i64.wrap (↑(BitVec.ofInt 64 ct % BitVec.ofInt 64 (↑(List.length (mgB T)) : Int)).toNat : Int)).toNat (mgB T))) ∧ Bool.true = decide (tkM (List.take (IntKind.i64.wrap (↑(BitVec.ofInt 64 ct % BitVec.ofInt 64 (↑(List.length (mgB T)) : Int)).toNat : Int)).toNat (mgB T)) = []) ∧ True) (decide (tkK (List.take (IntKind.i64.wrap (↑(BitVec.ofInt 64 ct % BitVec.ofInt 64 (↑(List.length (mgB T)) : Int)).toNat : Int)).toNat (mgB T)) = (0 : Int)))) (decide (tkR (List.take (IntKind.i64.wrap (↑(BitVec.ofInt 64 ct % BitVec.ofInt 64 (↑(List.length (mgB T)) : Int)).toNat : Int)).toNat (mgB T)) = []))) (decide (decide (tkC (List.take (IntKind.i64.wrap (↑(BitVec.ofInt 64 ct % BitVec.ofInt 64 (↑(List.length (mgB T)) : Int)).toNat : Int)).toNat (mgB T)) = 1) = Bool.false))) (decide ((if tkC (List.take (IntKind.i64.wrap (↑(BitVec.ofInt 64 ct % BitVec.ofInt 64 (↑(List.length (mgB T)) : Int)).toNat : Int)).toNat (mgB T)) = 2 then (3 : Int) else (0 : Int)) = (0 : Int)))) (decide (mgB T = mgB T))) (decide ((↑(List.length (tkR (mgB (List.drop x T)))) : Int) = (0 : Int)))) (decide ((if tkC (mgB (List.drop x T)) = 2 then (3 : Int) else (0 : Int)) = (0 : Int)))) !decide (tkC (mgB (List.drop x T)) = 1)) (decide (tkC (List.take (IntKind.i64.wrap (↑(BitVec.ofInt 64 ct % BitVec.ofInt 64 (↑(List.length (mgB T)) : Int)).toNat : Int)).toNat (mgB T)) = 2))) ((IntKind.i64.wrap (↑(BitVec.ofInt 64 ct % BitVec.ofInt 64 (↑(List.length (mgB T)) : Int)).toNat : Int)).toNat ≤ List.length (mgB T) ∧ List.length (mgB T) < 1099511627776 ∧ @Bool.rec (fun _ => Prop) (Bool.true = Bool.false ∧ True) (@Bool.rec (fun _ => Prop) (Bool.true = Bool.false ∧ True) (@Bool.rec (fun _ => Prop) (Bool.true = Bool.false ∧ True) (List.length (mgB T) = List.length (mgB T) ∧ @Bool.rec (fun _ => Prop) (Bool.true = Bool.false ∧ True) (@Bool.rec (fun _ => Prop) (Bool.true = Bool.false ∧ True) (@Bool.rec (fun _ => Prop) (Bool.true = Bool.false ∧ True) (List.length (tkR (List.take (IntKind.i64.wrap (↑(BitVec.ofInt 64 ct % BitVec.ofInt 64 (↑(List.length (mgB T)) : Int)).toNat : Int)).toNat (mgB T))) = List.length (tkR (List.take (IntKind.i64.wrap (↑(BitVec.ofInt 64 ct % BitVec.ofInt 64 (↑(List.length (mgB T)) : Int)).toNat : Int)).toNat (mgB T))) ∧ 4 + tkN (List.take (IntKind.i64.wrap (↑(BitVec.ofInt 64 ct % BitVec.ofInt 64 (↑(List.length (mgB T)) : Int)).toNat : Int)).toNat (mgB T)) + ((IntKind.i64.wrap (↑(BitVec.ofInt 64 ct % BitVec.ofInt 64 (↑(List.length (mgB T)) : Int)).toNat : Int)).toNat - (4 + tkN (List.take (IntKind.i64.wrap (↑(BitVec.ofInt 64 ct % BitVec.ofInt 64 (↑(List.length (mgB T)) : Int)).toNat : Int)).toNat (mgB T)))) ≤ List.length (mgB T) ∧ @Bool.rec (fun _ => Prop) (Bool.true = Bool.false ∧ True) (@Bool.rec (fun _ => Prop) (Bool.true = Bool.false ∧ True) (List.length (tkM (List.take (IntKind.i64.wrap (↑(BitVec.ofInt 64 ct % BitVec.ofInt 64 (↑(List.length (mgB T)) : Int)).toNat : Int)).toNat (mgB T))) = List.length (tkM (List.take (IntKind.i64.wrap (↑(BitVec.ofInt 64 ct % BitVec.ofInt 64 (↑(List.length (mgB T)) : Int)).toNat : Int)).toNat (mgB T))) ∧ 4 + tkN (List.take (IntKind.i64.wrap (↑(BitVec.ofInt 64 ct % BitVec.ofInt 64 (↑(List.length (mgB T)) : Int)).toNat : Int)).toNat (mgB T)) ≤ List.length (mgB T) ∧ Bool.true = decide (tkM (List.take (IntKind.i64.wrap (↑(BitVec.ofInt 64 ct % BitVec.ofInt 64 (↑(List.length (mgB T)) : Int)).toNat : Int)).toNat (mgB T)) = List.take (tkN (List.take (IntKind.i64.wrap (↑(BitVec.ofInt 64 ct % BitVec.ofInt 64 (↑(List.length (mgB T)) : Int)).toNat : Int)).toNat (mgB T))) (List.drop 4 (mgB T))) ∧ True) (decide (tkK (List.take (IntKind.i64.wrap (↑(BitVec.ofInt 64 ct % BitVec.ofInt 64 (↑(List.length (mgB T)) : Int)).toNat : Int)).toNat (mgB T)) = tkK (List.take (IntKind.i64.wrap (↑(BitVec.ofInt 64 ct % BitVec.ofInt 64 (↑(List.length (mgB T)) : Int)).toNat : Int)).toNat (mgB T))))) (decide (tkR (List.take (IntKind.i64.wrap (↑(BitVec.ofInt 64 ct % BitVec.ofInt 64 (↑(List.length (mgB T)) : Int)).toNat : Int)).toNat (mgB T)) = List.take ((IntKind.i64.wrap (↑(BitVec.ofInt 64 ct % BitVec.ofInt 64 (↑(List.length (mgB T)) : Int)).toNat : Int)).toNat - (4 + tkN (List.take (IntKind.i64.wrap (↑(BitVec.ofInt 64 ct % BitVec.ofInt 64 (↑(List.length (mgB T)) : Int)).toNat : Int)).toNat (mgB T)))) (dropN (4 + tkN (List.take (IntKind.i64.wrap (↑(BitVec.ofInt 64 ct % BitVec.ofInt 64 (↑(List.length (mgB T)) : Int)).toNat : Int)).toNat (mgB T))) (mgB T))))) (decide (decide (tkC (List.take (IntKind.i64.wrap (↑(BitVec.ofInt 64 ct % BitVec.ofInt 64 (↑(List.length (mgB T)) : Int)).toNat : Int)).toNat (mgB T)) = 1) = Bool.true))) (decide ((if tkC (List.take (IntKind.i64.wrap (↑(BitVec.ofInt 64 ct % BitVec.ofInt 64 (↑(List.length (mgB T)) : Int)).toNat : Int)).toNat (mgB T)) = 2 then (3 : Int) else (0 : Int)) = (0 : Int)))) (decide (mgB T = mgB T))) (decide ((↑(List.length (tkR (mgB (List.drop x T)))) : Int) = (0 : Int)))) (decide ((if tkC (mgB (List.drop x T)) = 2 then (3 : Int) else (0 : Int)) = (0 : Int)))) !decide (tkC (mgB (List.drop x T)) = 1)) (decide (tkC (List.take (IntKind.i64.wrap (↑(BitVec.ofInt 64 ct % BitVec.ofInt 64 (↑(List.length (mgB T)) : Int)).toNat : Int)).toNat (mgB T)) = 1))) (@Bool.rec (fun _ => Prop) (Bool.true = Bool.false ∧ True) (@Bool.rec (fun _ => Prop) (Bool.true = Bool.false ∧ True) (Bool.true = decide ((↑(List.length (tkR (mgB (List.drop x T)))) : Int) = (0 : Int)) ∧ True) (decide ((if tkC (mgB (List.drop x T)) = 2 then (3 : Int) else (0 : Int)) = (0 : Int)))) !decide (tkC (mgB (List.drop x T)) = 1)) (decide ((↑(List.length (mgB T)) : Int) = (0 : Int)))) (List.length (mgB (List.drop x T)) < 1099511627776 ∧ @Bool.rec (fun _ => Prop) (Bool.true = Bool.false ∧ True) (@Bool.rec (fun _ => Prop) (Bool.true = Bool.false ∧ True) ((0 : Int) ≤ (↑x : Int) ∧ (↑x : Int).toNat < T.length ∧ @Bool.rec (fun _ => Prop) (Bool.true = Bool.false ∧ True) (List.length (tkM (mgB (List.drop x T))) = List.length (tkM (mgB (List.drop x T))) ∧ (0 : Int) ≤ (↑x : Int) ∧ (↑x : Int).toNat < T.length ∧ @Bool.rec (fun _ => Prop) ((∃ (y : Nat), T.length + 1 < T.length - x ∧ True ∧ False) ∨ ∃ (y : Nat), T.length - y < T.length - x ∧ (1 ≤ y ∧ y ≤ T.length) ∧ ct = ct ∧ 0 = 0 ∧ 0 = 0 ∧ 0 = 0 ∧ List.length (mgB T) = List.length (mgB T) ∧ T.length = T.length ∧ (∀ (y : Nat), y < T.length → datas Bool.false [AV.int IntKind.i64 (T.getD y mgD).fst, AV.rb Bool.true (T.getD y mgD).snd.fst (NL.is (T.getD y mgD).snd.snd)] = Bool.true ∧ (T.getD y mgD).fst = (T.getD y mgD).fst ∧ (T.getD y mgD).snd.snd = (T.getD y mgD).snd.snd ∧ (T.getD y mgD).snd.fst = (T.getD y mgD).snd.fst ∧ True) ∧ mgB T = mgB T ∧ List.length (tkR (mgB (List.drop x T))) = List.length (tkR (mgB (List.drop x T))) ∧ mgB (List.drop y T) = tkR (mgB (List.drop x T)) ∧ List.length (tkR (mgB (List.drop x T))) = List.length (mgB (List.drop y T)) ∧ (↑y : Int) = IntKind.i64.wrap ((↑x : Int) + (1 : Int)) ∧ mgB T = mgB T ∧ True) (Bool.true = Bool.false ∧ True) !decide (tkM (mgB (List.drop x T)) = (T.getD (↑x : Int).toNat mgD).snd.fst)) !!decide (tkK (mgB (List.drop x T)) = (T.getD (↑x : Int).toNat mgD).fst)) !!decide (tkC (mgB (List.drop x T)) = 1)) !!decide ((if tkC (mgB (List.drop x T)) = 2 then (3 : Int) else (0 : Int)) = (0 : Int))) (decide ((↑x : Int) < (↑T.length : Int))); (∃ (x : Nat), (x ≤ 8 ∧ x ≤ n) ∧ c = c ∧ n = n ∧ (∀ (y : Nat), y < n → datas Bool.true [AV.int IntKind.i64 (K y), AV.rb Bool.true (F y) (NL.is (C y))] = Bool.true ∧ K y = K y ∧ C y = C y ∧ F y = F y ∧ True) ∧ ct = ct ∧ List.length (mgB (thL K F C x)) = 0 ∧ (thL K F C x).length = 0 ∧ (↑x : Int) = (0 : Int) ∧ mgB (thL K F C x) = [] ∧ (thL K F C x).length = 0 ∧ True) ∧ ∀ (x : Nat), x ≤ 8 ∧ x ≤ n → @Bool.rec (fun _ => Prop) (List.length (mgB (thL K F C x)) = List.length (mgB (thL K F C x)) ∧ ((∃ (y : Nat), True ∧ True ∧ ct = ct ∧ 0 = 0 ∧ 0 = 0 ∧ 0 = 0 ∧ List.length (mgB T) = List.length (mgB (thL K F C x)) ∧ T.length = (thL K F C x).length ∧ 0 + T.length ≤ (thL K F C x).length ∧ (∀ (y : Nat), y < T.length → datas Bool.false [AV.int IntKind.i64 (T.getD y mgD).fst, AV.rb Bool.true (T.getD y mgD).snd.fst (NL.is (T.getD y mgD).snd.snd)] = Bool.true ∧ (T.getD y mgD).fst = ((thL K F C x).getD y mgD).fst ∧ (T.getD y mgD).snd.snd = ((thL K F C x).getD y mgD).snd.snd ∧ (T.getD y mgD).snd.fst = ((thL K F C x).getD y mgD).snd.fst ∧ True) ∧ (∀ (y : Nat), y < T.length → [AV.int IntKind.i64 ((thL K F C x).getD y mgD).fst, AV.rb Bool.true ((thL K F C x).getD y mgD).snd.fst (NL.is ((thL K F C x).getD y mgD).snd.snd)].length ≤ 2) ∧ mgB T = mgB (thL K F C x) ∧ 0 = 0 ∧ 0 = 0 ∧ 0 = 0 ∧ List.length (mgB T) = List.length (mgB (thL K F C x)) ∧ (0 : Int) = (0 : Int) ∧ mgB T = mgB (thL K F C x) ∧ True) ∨ ∃ (y : Nat), True ∧ (1 ≤ y ∧ y ≤ T.length) ∧ False) ∧ x1) (@Bool.rec (fun _ => Prop) (List.length (mgB (thL K F C x)) = List.length (mgB (thL K F C x)) ∧ ((∃ (y : Nat), True ∧ True ∧ ct = ct ∧ 0 = 0 ∧ 0 = 0 ∧ 0 = 0 ∧ List.length (mgB T) = List.length (mgB (thL K F C x)) ∧ T.length = (thL K F C x).length ∧ 0 + T.length ≤ (thL K F C x).length ∧ (∀ (y : Nat), y < T.length → datas Bool.false [AV.int IntKind.i64 (T.getD y mgD).fst, AV.rb Bool.true (T.getD y mgD).snd.fst (NL.is (T.getD y mgD).snd.snd)] = Bool.true ∧ (T.getD y mgD).fst = ((thL K F C x).getD y mgD).fst ∧ (T.getD y mgD).snd.snd = ((thL K F C x).getD y mgD).snd.snd ∧ (T.getD y mgD).snd.fst = ((thL K F C x).getD y mgD).snd.fst ∧ True) ∧ (∀ (y : Nat), y < T.length → [AV.int IntKind.i64 ((thL K F C x).getD y mgD).fst, AV.rb Bool.true ((thL K F C x).getD y mgD).snd.fst (NL.is ((thL K F C x).getD y mgD).snd.snd)].length ≤ 2) ∧ mgB T = mgB (thL K F C x) ∧ 0 = 0 ∧ 0 = 0 ∧ 0 = 0 ∧ List.length (mgB T) = List.length (mgB (thL K F C x)) ∧ (0 : Int) = (0 : Int) ∧ mgB T = mgB (thL K F C x) ∧ True) ∨ ∃ (y : Nat), True ∧ (1 ≤ y ∧ y ≤ T.length) ∧ False) ∧ x1) ((0 : Int) ≤ (↑x : Int) ∧ (↑x : Int).toNat < n ∧ @Bool.rec (fun _ => Prop) (@Bool.rec (fun _ => Prop) (4 + List.length (F (↑x : Int).toNat) = List.length (mpB (K (↑x : Int).toNat) (F (↑x : Int).toNat)) ∧ 4 + List.length (F (↑x : Int).toNat) = List.length (mpB (K (↑x : Int).toNat) (F (↑x : Int).toNat)) ∧ @Bool.rec (fun _ => Prop) (Bool.true = Bool.false ∧ True) (4 + List.length (F (↑x : Int).toNat) = List.length (mpB (K (↑x : Int).toNat) (F (↑x : Int).toNat)) ∧ List.length (mgB (thL K F C x)) = List.length (mgB (thL K F C x)) ∧ roomFor (List.length (mgB (thL K F C x))) (List.length (mpB (K (↑x : Int).toNat) (F (↑x : Int).toNat))) 1 ∧ (thL K F C x).length = (thL K F C x).length ∧ roomFor (thL K F C x).length 1 32 ∧ ∃ (y : Nat), 8 - y < 8 - x ∧ (y ≤ 8 ∧ y ≤ n) ∧ c = c ∧ n = n ∧ (∀ (y : Nat), y < n → datas Bool.true [AV.int IntKind.i64 (K y), AV.rb Bool.true (F y) (NL.is (C y))] = Bool.true ∧ K y = K y ∧ C y = C y ∧ F y = F y ∧ True) ∧ ct = ct ∧ 0 = 0 ∧ 0 = 0 ∧ 0 = 0 ∧ List.length (mgB (thL K F C y)) = List.length (mgB (thL K F C x)) + List.length (mpB (K (↑x : Int).toNat) (F (↑x : Int).toNat)) ∧ 0 = 0 ∧ 0 = 0 ∧ 0 = 0 ∧ (thL K F C y).length = (thL K F C x).length + 1 ∧ (↑y : Int) = IntKind.i64.wrap ((↑x : Int) + (1 : Int)) ∧ mgB (thL K F C y) = mgB (thL K F C x) ++ mpB (K (↑x : Int).toNat) (F (↑x : Int).toNat) ∧ (thL K F C y).length = (thL K F C x).length + 1 ∧ (∀ (y_1 : Nat), y_1 < (thL K F C y).length → datas Bool.false [AV.int IntKind.i64 ((thL K F C y).getD y_1 mgD).fst, AV.rb Bool.true ((thL K F C y).getD y_1 mgD).snd.fst (NL.is ((thL K F C y).getD y_1 mgD).snd.snd)] = Bool.true ∧ glue (fun (y : Nat) => [AV.int IntKind.i64 ((thL K F C x).getD y mgD).fst, AV.rb Bool.true ((thL K F C x).getD y mgD).snd.fst (NL.is ((thL K F C x).getD y mgD).snd.snd)]) (thL K F C x).length (cut 2 (List.take 2 (List.drop 0 [AV.int IntKind.i64 (K (↑x : Int).toNat), AV.rb Bool.true (F (↑x : Int).toNat) (NL.is (C (↑x : Int).toNat))]))) y_1 = [AV.int IntKind.i64 ((thL K F C y).getD y_1 mgD).fst, AV.rb Bool.true ((thL K F C y).getD y_1 mgD).snd.fst (NL.is ((thL K F C y).getD y_1 mgD).snd.snd)]) ∧ True) !!decide (mpB (K (↑x : Int).toNat) (F (↑x : Int).toNat) = mpB (K (↑x : Int).toNat) (F (↑x : Int).toNat))) (Bool.true = Bool.false ∧ True) (mpBad (K (↑x : Int).toNat) (List.length (F (↑x : Int).toNat)))) (@Bool.rec (fun _ => Prop) (Bool.true = Bool.false ∧ True) (∃ (y : Nat), 8 - y < 8 - x ∧ (y ≤ 8 ∧ y ≤ n) ∧ c = c ∧ n = n ∧ (∀ (y : Nat), y < n → datas Bool.true [AV.int IntKind.i64 (K y), AV.rb Bool.true (F y) (NL.is (C y))] = Bool.true ∧ K y = K y ∧ C y = C y ∧ F y = F y ∧ True) ∧ ct = ct ∧ 0 = 0 ∧ 0 = 0 ∧ 0 = 0 ∧ List.length (mgB (thL K F C y)) = List.length (mgB (thL K F C x)) ∧ 0 = 0 ∧ 0 = 0 ∧ 0 = 0 ∧ (thL K F C y).length = (thL K F C x).length ∧ (↑y : Int) = IntKind.i64.wrap ((↑x : Int) + (1 : Int)) ∧ mgB (thL K F C y) = mgB (thL K F C x) ∧ (thL K F C y).length = (thL K F C x).length ∧ (∀ (y_1 : Nat), y_1 < (thL K F C y).length → datas Bool.false [AV.int IntKind.i64 ((thL K F C y).getD y_1 mgD).fst, AV.rb Bool.true ((thL K F C y).getD y_1 mgD).snd.fst (NL.is ((thL K F C y).getD y_1 mgD).snd.snd)] = Bool.true ∧ [AV.int IntKind.i64 ((thL K F C x).getD y_1 mgD).fst, AV.rb Bool.true ((thL K F C x).getD y_1 mgD).snd.fst (NL.is ((thL K F C x).getD y_1 mgD).snd.snd)] = [AV.int IntKind.i64 ((thL K F C y).getD y_1 mgD).fst, AV.rb Bool.true ((thL K F C y).getD y_1 mgD).snd.fst (NL.is ((thL K F C y).getD y_1 mgD).snd.snd)]) ∧ True) (mpBad (K (↑x : Int).toNat) (List.length (F (↑x : Int).toNat)))) (mpBad (K (↑x : Int).toNat) (List.length (F (↑x : Int).toNat)))) (decide ((↑x : Int) < (8 : Int)))) (decide ((↑x : Int) < (↑n : Int))) : Prop) := by kernel_rfl
end Go.Sym

set_option linter.unusedSimpArgs false
namespace Go.Spec
def goodT (T : List Mg) : Prop := ∀ t ∈ T, mpBad t.1 t.2.1.length = false
theorem mgB_cons (t : Mg) (T : List Mg) : mgB (t :: T) = mpB t.1 t.2.1 ++ mgB T := by simp [mgB]
theorem mgB_drop (T : List Mg) (j : Nat) (h : j < T.length) : mgB (T.drop j) = mpB (T.getD j mgD).1 (T.getD j mgD).2.1 ++ mgB (T.drop (j + 1)) := by
  rw [List.drop_eq_getElem_cons h, mgB_cons]
  simp [List.getD, h]
theorem goodT_get {T : List Mg} (hg : goodT T) {j : Nat} (h : j < T.length) : mpBad (T.getD j mgD).1 (T.getD j mgD).2.1.length = false := by
  have : T.getD j mgD ∈ T := by
    simp only [List.getD, List.getElem?_eq_getElem h, Option.getD_some]
    exact List.getElem_mem h
  exact hg _ this
theorem tk_cons {T : List Mg} (hg : goodT T) {j : Nat} (h : j < T.length) : tkC (mgB (T.drop j)) = 1 ∧ tkK (mgB (T.drop j)) = (T.getD j mgD).1 ∧ tkM (mgB (T.drop j)) = (T.getD j mgD).2.1 ∧ tkR (mgB (T.drop j)) = mgB (T.drop (j + 1)) := by
  rw [mgB_drop T j h]
  exact tk_full _ _ _ (goodT_get hg h)
theorem tk_nil : tkC [] = 0 ∧ tkR [] = [] := by decide
theorem mgB_len {T : List Mg} (hg : goodT T) : (mgB T).length ≤ T.length * 2052 := by
  induction T with
  | nil => simp [mgB]
  | cons t T ih =>
    have h1 := ih (fun x hx => hg x (List.mem_cons_of_mem _ hx))
    have h2 := hg t (List.mem_cons_self ..)
    simp only [mpBad, Bool.or_eq_false_iff, decide_eq_false_iff_not] at h2
    rw [mgB_cons, List.length_append, mpB_len, List.length_cons]
    omega
theorem tk_pref {T : List Mg} (hg : goodT T) (k : Nat) : tkC ((mgB T).take k) ≠ 2 := by
  cases T with
  | nil => simp [mgB]; decide
  | cons t T =>
    have h2 := hg t (List.mem_cons_self ..)
    simp only [mpBad, Bool.or_eq_false_iff, decide_eq_false_iff_not] at h2
    rw [mgB_cons]
    intro h
    unfold tkC at h
    split at h
    · cases h
    · rename_i h4
      have hk : 4 ≤ k := by
        rw [List.length_take] at h4; omega
      have hN : tkN ((mpB t.1 t.2.1 ++ mgB T).take k) = t.2.1.length := by
        have e := tkN_full t.1 t.2.1 (mgB T) (by omega)
        rw [← e]
        unfold tkN
        congr 1
        rw [List.drop_take, List.take_take, Nat.min_eq_left (by omega)]
      rw [hN, if_neg (by omega)] at h
      split at h <;> cases h
theorem thL_good (K : Nat → Int) (F : Nat → By) (C : Nat → Bool) : ∀ i, goodT (thL K F C i) ∧ (thL K F C i).length ≤ i
  | 0 => ⟨fun t ht => by simp [thL] at ht, by simp [thL]⟩
  | i + 1 => by
    obtain ⟨h1, h2⟩ := thL_good K F C i
    cases hb : mpBad (K i) (F i).length with
    | true =>
      have e : thL K F C (i + 1) = thL K F C i := by simp [thL, hb]
      rw [e]
      exact ⟨h1, by omega⟩
    | false =>
      have e : thL K F C (i + 1) = thL K F C i ++ [(K i, F i, C i)] := by simp [thL, hb]
      rw [e]
      refine ⟨fun t ht => ?_, by simp; omega⟩
      rcases List.mem_append.1 ht with h | h
      · exact h1 t h
      · simp at h; subst h; exact hb
theorem mgB_app (T U : List Mg) : mgB (T ++ U) = mgB T ++ mgB U := by simp [mgB]
end Go.Spec
namespace Go.Sym
open Go.Proofs Go.Spec
set_option linter.unusedVariables false
theorem glue_snoc (T : List Mg) (k : Int) (l : By) (b : Bool) (y : Nat) (hy : y < (T ++ [(k, l, b)]).length) : glue (fun y => [AV.int IntKind.i64 (T.getD y mgD).fst, AV.rb true (T.getD y mgD).snd.fst (NL.is (T.getD y mgD).snd.snd)]) T.length (cut 2 (List.take 2 (List.drop 0 [AV.int IntKind.i64 k, AV.rb true l (NL.is b)]))) y =
    [AV.int IntKind.i64 ((T ++ [(k, l, b)]).getD y mgD).fst, AV.rb true ((T ++ [(k, l, b)]).getD y mgD).snd.fst (NL.is ((T ++ [(k, l, b)]).getD y mgD).snd.snd)] := by
  unfold glue
  by_cases h : y < T.length
  · rw [if_pos h]
    have : (T ++ [(k, l, b)]).getD y mgD = T.getD y mgD := by
      simp only [List.getD]
      rw [List.getElem?_append_left h]
    rw [this]
  · rw [if_neg h]
    have hy2 : y = T.length := by simp at hy; omega
    subst hy2
    have : (T ++ [(k, l, b)]).getD T.length mgD = (k, l, b) := by simp [List.getD]
    rw [this, Nat.sub_self]
    rfl
def mrT (K : Nat → Int) (F : Nat → By) (C : Nat → Bool) (n : Nat) : List Mg := thL K F C (min n 8)
theorem bm6 (K : Nat → Int) (F : Nat → By) (C : Nat → Bool) (n : Nat) (c : Bool) (ct : Int) : Must (bodyP Try.prog M9 gl0 [] [(5, lsR1 K F C n c ct), (17, lsR2 (mrT K F C n) ct), (17, lsR3 (mrT K F C n) ct)] 3000 Try.f6 0 [.ros true 2 n (fun j => [.int .i64 (K j), .rb true (F j) (.is (C j))]) (.is c), .int .i64 ct] [] (retQ Try.prog Try.f6 0 ⟨[], .bool true, [], []⟩)) := by
  constructor
  rw [vm6]
  obtain ⟨hg, hl⟩ := thL_good K F C (min n 8)
  have hT : mrT K F C n = thL K F C (min n 8) := rfl
  rw [← hT] at hg hl
  intro x1
  have hx1 : x1 := by
    simp only [x1]
    generalize mrT K F C n = T at hg hl
    have hB := mgB_len hg
    obtain ⟨n1, n2⟩ := tk_nil
    have e1 : decide ((if (1 : Nat) = 2 then (3 : Int) else 0) = 0) = true := by decide
    have e0 : decide ((if (0 : Nat) = 2 then (3 : Int) else 0) = 0) = true := by decide
    have f0 : decide ((0 : Nat) = 1) = false := by decide
    have f2 : decide ((0 : Nat) = 2) = false := by decide
    have g0 : decide (((([] : By).length : Nat) : Int) = 0) = true := by decide
    refine ⟨fun y _ => brec (fun h => ?_) (fun h => ?_), fun j hj => brec (fun h => ?_) (fun h => ?_)⟩
    · have hp : 0 < T.length := by have := dlt.1 h; omega
      obtain ⟨k1, k2, k3, k4⟩ := tk_cons hg hp
      rw [List.drop_zero] at k1 k2 k3 k4
      simp only [k1, k2, k3, k4, e1, decide_true, Bool.not_true, Bool.not_false]
      refine ⟨by trivial, by omega, by omega, hp, by trivial, by omega, hp, .inr ⟨1, by omega, ⟨by omega, by omega⟩, ?_⟩⟩
      and_intros <;> first | trivial | (intro y hy; and_intros <;> first | trivial | rfl)
    · have hp : T = [] := by have := ndlt.1 h; exact List.eq_nil_of_length_eq_zero (by omega)
      subst hp
      have e : mgB [] = [] := rfl
      simp only [e, n1, n2, f0, e0, g0, Bool.not_false]
      and_intros <;> first | trivial | omega | (simp; done)
    · have hp : j < T.length := by have := dlt.1 h; omega
      obtain ⟨k1, k2, k3, k4⟩ := tk_cons hg hp
      have hBj := mgB_len (T := T.drop j) (fun t ht => hg t (List.mem_of_mem_drop ht))
      have hw : IntKind.i64.wrap ((j : Int) + 1) = ((j + 1 : Nat) : Int) := wrap_nat _ (by omega) (by omega)
      simp only [k1, k2, k3, k4, e1, Int.toNat_natCast, hw, decide_true, Bool.not_true, Bool.not_false]
      rw [List.length_drop] at hBj
      refine ⟨by omega, by omega, hp, by trivial, by omega, hp, .inr ⟨j + 1, by omega, ⟨by omega, by omega⟩, ?_⟩⟩
      and_intros <;> first | trivial | (intro y hy; and_intros <;> first | trivial | rfl)
    · have hp : j = T.length := by have := ndlt.1 h; omega
      subst hp
      have e : mgB (T.drop T.length) = [] := by rw [List.drop_length]; rfl
      simp only [e, n1, n2, f0, e0, g0, Bool.not_false]
      refine ⟨by simp, brec (fun h0 => ?_) (fun h0 => ?_)⟩
      · and_intros <;> first | trivial | omega
      · have h0 : (mgB T).length ≠ 0 := by have := of_decide_eq_false h0; omega
        have q1 : (BitVec.ofInt 64 ((mgB T).length : Int)).toNat = (mgB T).length := by
          rw [BitVec.ofInt_natCast, BitVec.toNat_ofNat]; exact Nat.mod_eq_of_lt (by omega)
        have q2 : (BitVec.ofInt 64 ct % BitVec.ofInt 64 ((mgB T).length : Int)).toNat < (mgB T).length := by
          rw [BitVec.toNat_umod, q1]; exact Nat.mod_lt _ (by omega)
        rw [q1]
        generalize (BitVec.ofInt 64 ct % BitVec.ofInt 64 ((mgB T).length : Int)).toNat = k at q2 ⊢
        have q3 : IntKind.i64.wrap (k : Int) = (k : Int) := wrap_i64 (by omega) (by omega)
        simp only [q3, Int.toNat_natCast]
        have hpl : ((mgB T).take k).length = k := by rw [List.length_take]; omega
        have hp2 := tk_pref hg k
        have hC : tkC ((mgB T).take k) = 0 ∨ tkC ((mgB T).take k) = 1 := by
          rcases tkC_cases ((mgB T).take k) with h | h | h
          · exact .inl h
          · exact .inr h
          · exact absurd h hp2
        rcases hC with hC | hC
        · have hM : tkM ((mgB T).take k) = [] := by simp [tkM, hC]
          have hR : tkR ((mgB T).take k) = (mgB T).take k := by simp [tkR, hC]
          have hK : tkK ((mgB T).take k) = 0 := by simp [tkK, hC]
          simp only [hC, hM, hR, hK, e0, f0, f2, decide_true, Bool.not_true, Bool.not_false]
          refine ⟨h0, by omega, by omega, by omega, by rw [hpl]; omega, ?_⟩
          and_intros <;> first | trivial | omega
        · have hN : 4 + tkN ((mgB T).take k) ≤ k := by
            unfold tkC at hC
            rw [hpl] at hC
            split at hC
            · cases hC
            · split at hC
              · cases hC
              · split at hC
                · cases hC
                · omega
          have hM : tkM ((mgB T).take k) = ((mgB T).drop 4).take (tkN ((mgB T).take k)) := by
            unfold tkM
            rw [if_pos hC, List.drop_take, List.take_take, Nat.min_eq_left (by omega)]
          have hR : tkR ((mgB T).take k) = ((mgB T).drop (4 + tkN ((mgB T).take k))).take (k - (4 + tkN ((mgB T).take k))) := by
            unfold tkR
            rw [if_pos hC, List.drop_take]
          simp only [hC, hM, hR, e1, dropN_eq, decide_true, Bool.not_true, Bool.not_false]
          refine ⟨h0, by omega, by omega, by omega, by rw [hpl]; omega, ?_⟩
          and_intros <;> first | trivial | omega
  clear_value x1
  have hdat : ∀ (k : Int) (l : By) (b : Bool), datas true [AV.int IntKind.i64 k, AV.rb true l (NL.is b)] = true := fun _ _ _ => rfl
  have hdat2 : ∀ (k : Int) (l : By) (b : Bool), datas false [AV.int IntKind.i64 k, AV.rb true l (NL.is b)] = true := fun _ _ _ => rfl
  refine ⟨⟨0, ⟨by decide, Nat.zero_le _⟩, ?_⟩, fun i hi => ?_⟩
  · and_intros <;> first | trivial | (intro y hy; and_intros <;> first | trivial | rfl)
  · obtain ⟨hi1, hi2⟩ := hi
    have hgi := thL_good K F C i
    have hBi := mgB_len hgi.1
    refine brec (fun g1 => brec (fun g2 => ?_) (fun g2 => ?_)) (fun g1 => ?_)
    · have g1 := dlt.1 g1
      have g2 := dlt.1 g2
      have hw : IntKind.i64.wrap ((i : Int) + 1) = ((i + 1 : Nat) : Int) := wrap_nat _ (by omega) (by omega)
      rw [hw]
      simp only [Int.toNat_natCast]
      refine ⟨by omega, by omega, ?_⟩
      cases hb : mpBad (K i) (F i).length with
      | true =>
        have e : thL K F C (i + 1) = thL K F C i := by simp [thL, hb]
        refine ⟨i + 1, by omega, ⟨by omega, by omega⟩, ?_⟩
        rw [e]
        and_intros <;> first | trivial | (intro y hy; and_intros <;> first | trivial | rfl)
      | false =>
        have e : thL K F C (i + 1) = thL K F C i ++ [(K i, F i, C i)] := by simp [thL, hb]
        have hm := hb
        simp only [mpBad, Bool.or_eq_false_iff, decide_eq_false_iff_not] at hm
        have hlm := mpB_len (K i) (F i)
        simp only [decide_true, Bool.not_true, Bool.not_false]
        refine ⟨by omega, by omega, by omega, by trivial, by unfold roomFor; omega, by trivial, by unfold roomFor; omega, i + 1, by omega, ⟨by omega, by omega⟩, ?_⟩
        rw [e, mgB_app]
        have e2 : mgB [(K i, F i, C i)] = mpB (K i) (F i) := by simp [mgB]
        rw [e2]
        and_intros <;> first | trivial | (simp; done) | (intro y hy; refine ⟨rfl, ?_⟩; exact glue_snoc _ _ _ _ _ hy) | (intro y hy; and_intros <;> first | trivial | rfl)
    · have hN : i = min n 8 := by have := dlt.1 g1; have := ndlt.1 g2; omega
      have hTi : mrT K F C n = thL K F C i := by rw [hT, hN]
      rw [hTi]
      refine ⟨by trivial, .inl ⟨0, ?_⟩, hx1⟩
      and_intros <;> first | trivial | omega | (intro y hy; and_intros <;> first | trivial | rfl | (simp; done))
    · have hN : i = min n 8 := by have := ndlt.1 g1; omega
      have hTi : mrT K F C n = thL K F C i := by rw [hT, hN]
      rw [hTi]
      refine ⟨by trivial, .inl ⟨0, ?_⟩, hx1⟩
      and_intros <;> first | trivial | omega | (intro y hy; and_intros <;> first | trivial | rfl | (simp; done))
end Go.Sym

/- MessageRows: of all messages the bytes are told, or that they can't be; side by side they are taken one by one. No conditions. -/
namespace Go.Sym
open Go.Proofs Go.Spec
theorem w6 (W : World) (v0 : Value) (K : Nat → Int) (F : Nat → List (BitVec 8)) (C : Nat → Bool) (n0 : Nat) (c0 : Bool) (h0 : VRel (κW W) (.ros true 2 n0 (fun j => [.int .i64 (K j), .rb true (F j) (.is (C j))]) (.is c0)) v0) (_k0 : n0 ≤ maxLen) (n1 : Int) :
    Calls Try.prog 6 #[v0, .int .i64 n1] W fun e w' => e = .returned (.bool true) ∧ RowKit.Below W.heap.size W w' := by
  have hv : VRels (κW W) [.ros true 2 n0 (fun j => [.int .i64 (K j), .rb true (F j) (.is (C j))]) (.is c0), .int .i64 n1] [v0, .int .i64 n1] := by
    simp only [VRels]
    exact ⟨_, _, rfl, h0, _, _, rfl, rfl, rfl⟩
  refine law_walk (gl := gl0) (Γ := M9) (fn := Try.f6) (av := [.ros true 2 n0 (fun j => [.int .i64 (K j), .rb true (F j) (.is (C j))]) (.is c0), .int .i64 n1]) (ls := [(5, lsR1 K F C n0 c0 n1), (17, lsR2 (mrT K F C n0) n1), (17, lsR3 (mrT K F C n0) n1)]) [] 3000 (by kernel_rfl) (by kernel_rfl) okM9 (by kernel_rfl) (GW.nil W) (by kernel_rfl) hv ?_
  exact bm6 K F C n0 c0 n1
end Go.Sym
namespace Go.Proofs.Ytgniepaehjdjaaa.messageRows
open Go.ChangeShapes Go.WideShapes Go.ChangeAt Go.RowKit
set_option linter.unusedVariables false

theorem own : ownKnob Try.prog.godebug = none := by kernel_rfl
theorem laid : laidOutB Try.prog = true := by kernel_rfl

set_option maxRecDepth 100000 in
theorem lifted (os : Os) (started : os.Started) (H : Type) (enc : TypeId × Value → H) :
    ReturnsInHanded {} Try.checked os 6 .any (Rows.messageRowsSpec.pre6 enc Try.prog Try.f6 Rows.messageRowsRow.domain false) (Rows.messageRowsSpec.post enc Try.prog Try.f6 false true false false) := by
  refine returnsInHanded_of_change (C := Try.checked) own started (by kernel_rfl) Try.func6
    (ChangeSpec.witness6 (enc := enc) (C := Try.checked) false ⟨#[], #[.slice none 0 0, .int .i64 0], []⟩ 8 (by kernel_rfl) (by kernel_rfl) (by kernel_rfl) (by kernel_rfl)) ?_
  intro W base args ds gs before hval0 hW hcnd _
  have hval : ∀ (j : Nat) t v, Try.f6.params[j]? = some t → args[j]? = some v → Value.okWide Try.prog W .any base t v := hval0
  have hW' := hW
  obtain ⟨p, q, hA0, hV, rfl, hfz, hnd⟩ := hW
  have hA : DataW.TrodAll enc Try.prog W 0 (fun _ => true) true Try.f6.params.toList args.toList ds p := hA0
  rw [Try.params6] at hA hval
  obtain ⟨v0, vs0, d0, ds0, p0, q0, hargs, rfl, rfl, h0, r0⟩ := trodAll_cons hA
  obtain ⟨v1, vs1, d1, ds1, p1, q1, rfl, rfl, rfl, h1, r1⟩ := trodAll_cons r0
  obtain ⟨rfl, rfl, rfl⟩ := trodAll_nil r1
  obtain rfl : args = #[v0, v1] := by cases args; simp_all
  obtain ⟨rfl, rfl⟩ := trodVars_none hV
  obtain ⟨a1, rfl, rfl, rfl, w1⟩ := open_int Try.underlying3 (hval 1 3 v1 rfl rfl) h1
  clear hA0 hval0
  have hlt0 : ∀ x ∈ p0, x.block < W.heap.size := fun x hx => hW'.lt x (by simp [hx])
  obtain ⟨fuel0, hf0⟩ := h0
  obtain ⟨u0, n0, g0, c0, hc0, hcl0, hll0, hg0, hu0⟩ := Go.Sym.rd_rowsF (sz := 2) (l := [.i .i64, .y]) (av0 := [.int .i64 0, .rb true [] (.is true)]) Try.underlying52 (by kernel_rfl) (by decide) (by kernel_rfl) ⟨⟨0, rfl, by kernel_rfl⟩, ⟨[], true, rfl, fun _ => rfl, by simp⟩, trivial⟩ hf0
  have hv0 : v0 = u0 := Go.Sym.cells_slice Try.underlying52 (hval 0 52 v0 rfl rfl) hc0
  subst hv0
  obtain ⟨K, F, C, rfl, hFC⟩ := Go.Sym.sh_ky hg0
  refine (Go.Sym.w6 W v0 K F C n0 c0 hu0 hll0 a1).mono fun e W' ⟨he, bel⟩ => ?_
  subst he
  exact ⟨_, rfl, _, _, _, [], _, [], hW', trodAll_mk1 (shut_bool Try.underlying4 _), (trodAll_cons_mk (Below.trod laid (by kernel_rfl) (of_decide_eq_true (by kernel_rfl)) ⟨fuel0, hf0⟩ bel hlt0) (trodAll_cons_mk (shut_int Try.underlying3 w1) trodAll_mk0)), rfl, bel.frame _, fun h => by cases h⟩

theorem over : Rows.messageRowsRow.holds Try.pinned (OpenSpec.ofChange Rows.messageRowsSpec) :=
  OpenClaim.holds_of_wide 6 Try.f6 rfl rfl rfl rfl rfl rfl rfl ⟨rfl, rfl, rfl, rfl, rfl⟩ rfl rfl rfl rfl rfl (by kernel_rfl) Try.func6 (by kernel_rfl)
    (of_decide_eq_true (by kernel_rfl)) (by unfold Func.isWrapper; first | (rw [if_pos (by decide +kernel)]; kernel_rfl) | (rw [if_neg (by decide +kernel)]; exact ⟨rfl, rfl⟩))
    (fun os started H enc _ => lifted os started H enc)

theorem proved : Rows.MessageRowsSaid :=
  over
#print axioms proved
end Go.Proofs.Ytgniepaehjdjaaa.messageRows
