/- StreamPieces: in whatever pieces bytes come, the records are taken, and the same is left; the error is told; of none nothing is told. No conditions. -/
import Derived.Test.YtgniepaehjdjaaaCurA
import Derived.Test.YtgniepaehjdjaaaStrA
import Derived.Test.YtgniepaehjdjaaaRows
import Derived.WalkKit
import Derived.ProofKit
import Derived.OpenShut
import Derived.ChangeOld
import Derived.Below
import Derived.Carry
namespace Go.Sym
/-- Rows of numbers. -/
theorem sh_one {g : Nat → List AV} (h : ∀ y, shAll [.i .i64] (g y)) : ∃ A : Nat → Int, g = fun y => [.int .i64 (A y)] := by
  have each : ∀ y, ∃ a : Int, g y = [.int .i64 a] := by
    intro y
    obtain ⟨a, r, e1, ⟨n1, k1, _⟩, h1⟩ := sh_cons (h y)
    have e5 := sh_nil h1
    subst e5
    exact ⟨n1, by rw [e1, k1]⟩
  exact ⟨fun y => Classical.choose (each y), funext fun y => Classical.choose_spec (each y)⟩
end Go.Sym

set_option linter.unusedSimpArgs false
namespace Go.Spec
open Go.Sym
/-- Where a row of records stands behind n of them. -/
def spO (b : By) : Nat → Nat
  | 0 => 0
  | n + 1 => spO b n + stX (b.drop (spO b n))
def spC (b : By) : Nat → Nat → Nat
  | 0, n => n
  | f + 1, n => if stO (b.drop (spO b n)) then spC b f (n + 1) else n
/-- How many records there are. -/
noncomputable def spN (b : By) : Nat := shut (spC b (b.length + 1) 0)
/-- The first n are there. -/
def spA (b : By) (n : Nat) : Prop := ∀ k, k < n → stO (b.drop (spO b k)) = true
theorem stO_len {M : By} (h : stO M = true) : stX M = 5 + stN M ∧ 5 + stN M ≤ M.length ∧ stF M = 0 := by
  have h1 := h
  unfold stO at h1
  simp only [Bool.and_eq_true, decide_eq_true_eq] at h1
  exact ⟨by unfold stX; rw [if_pos h], by omega, h1.1⟩
theorem spO_le {b : By} : ∀ {n : Nat}, spA b n → 5 * n ≤ spO b n ∧ spO b n ≤ b.length
  | 0, _ => ⟨by simp [spO], by simp [spO]⟩
  | n + 1, h => by
    obtain ⟨h1, h2⟩ := spO_le (n := n) (fun k hk => h k (by omega))
    obtain ⟨a1, a2, _⟩ := stO_len (h n (by omega))
    rw [List.length_drop] at a2
    simp only [spO, a1]
    omega
theorem spA_le {b : By} {n : Nat} (h : spA b n) : n ≤ b.length := by have := spO_le h; omega
theorem spC_spec {b : By} : ∀ (f n : Nat), spA b n → b.length < f + n → spA b (spC b f n) ∧ stO (b.drop (spO b (spC b f n))) = false
  | 0, n, h, hl => by have := spA_le h; omega
  | f + 1, n, h, hl => by
    unfold spC
    split
    · rename_i hO
      exact spC_spec f (n + 1) (fun k hk => by
        rcases Nat.lt_or_ge k n with h1 | h1
        · exact h k h1
        · obtain rfl : k = n := by omega
          exact hO) (by omega)
    · rename_i hO
      exact ⟨h, by simpa using hO⟩
theorem spN_spec (b : By) : spA b (spN b) ∧ stO (b.drop (spO b (spN b))) = false := by
  unfold spN
  rw [shut_eq]
  exact spC_spec (b.length + 1) 0 (fun k hk => by omega) (by omega)
theorem spN_uniq {b : By} {n : Nat} (h1 : spA b n) (h2 : stO (b.drop (spO b n)) = false) : n = spN b := by
  obtain ⟨k1, k2⟩ := spN_spec b
  rcases Nat.lt_trichotomy n (spN b) with h | h | h
  · rw [k1 n h] at h2; cases h2
  · exact h
  · rw [h1 _ h] at k2; cases k2
theorem spN_lt {b : By} {n : Nat} (h1 : spA b n) (h2 : stO (b.drop (spO b n)) = true) : n < spN b := by
  rcases Nat.lt_or_ge n (spN b) with h | h
  · exact h
  · exfalso
    rcases Nat.lt_or_ge (spN b) n with h3 | h3
    · have := h1 _ h3
      rw [(spN_spec b).2] at this; cases this
    · obtain rfl : n = spN b := by omega
      rw [(spN_spec b).2] at h2; cases h2
theorem spA_succ {b : By} {n : Nat} (h : spA b n) (hO : stO (b.drop (spO b n)) = true) : spA b (n + 1) := fun k hk => by
  rcases Nat.lt_or_ge k n with h1 | h1
  · exact h k h1
  · obtain rfl : k = n := by omega
    exact hO
theorem getD_app {M R : By} {i : Nat} (h : i < M.length) : (M ++ R).getD i 0 = M.getD i 0 := by
  simp only [List.getD, List.getElem?_append_left h]
theorem stN_app {M R : By} (h : 5 ≤ M.length) : stN (M ++ R) = stN M := by
  unfold stN
  rw [getD_app (by omega), getD_app (by omega)]
/-- What is wrong with bytes is wrong with more of them. -/
theorem stF_app {M R : By} (h : stF M ≠ 0) : stF (M ++ R) = stF M := by
  by_cases h1 : (0 < M.length ∧ ¬ (20 ≤ (M.getD 0 0).toNat ∧ (M.getD 0 0).toNat ≤ 23)) ∨ (1 < M.length ∧ M.getD 1 0 ≠ 3)
  · have e1 : stF M = 3 := by unfold stF; rw [if_pos h1]
    rw [e1]
    unfold stF
    rw [if_pos]
    rcases h1 with ⟨a, c⟩ | ⟨a, c⟩
    · exact .inl ⟨by rw [List.length_append]; omega, by rw [getD_app a]; exact c⟩
    · exact .inr ⟨by rw [List.length_append]; omega, by rw [getD_app a]; exact c⟩
  · by_cases h2 : 5 ≤ M.length ∧ (if (M.getD 0 0).toNat = 23 then 273 else 256) < stN M
    · have e1 : stF M = 5 := by unfold stF; rw [if_neg h1, if_pos h2]
      rw [e1]
      unfold stF
      obtain ⟨h2a, h2b⟩ := h2
      rw [if_neg, if_pos]
      · refine ⟨by rw [List.length_append]; omega, ?_⟩
        rw [getD_app (by omega), stN_app h2a]
        exact h2b
      · rw [getD_app (by omega), getD_app (by omega)]
        intro h3
        apply h1
        rcases h3 with ⟨a, c⟩ | ⟨a, c⟩
        · exact .inl ⟨by omega, c⟩
        · exact .inr ⟨by omega, c⟩
    · exfalso
      apply h
      unfold stF
      rw [if_neg h1, if_neg h2]
theorem stF_full {M R : By} (h : 5 ≤ M.length) : stF (M ++ R) = stF M := by
  unfold stF
  rw [getD_app (by omega), getD_app (by omega), stN_app h, List.length_append]
  have e1 : (0 < M.length + R.length) = (0 < M.length) := by apply propext; omega
  have e2 : (1 < M.length + R.length) = (1 < M.length) := by apply propext; omega
  have e3 : (5 ≤ M.length + R.length) = (5 ≤ M.length) := by apply propext; omega
  simp only [e1, e2, e3]
/-- A record that is there is there in more bytes, too. -/
theorem stO_app {M R : By} (h : stO M = true) : stO (M ++ R) = true ∧ stK (M ++ R) = stK M ∧ stB (M ++ R) = stB M ∧ stX (M ++ R) = stX M := by
  obtain ⟨a1, a2, a3⟩ := stO_len h
  have hO : stO (M ++ R) = true := by
    unfold stO
    rw [stF_full (by omega), stN_app (by omega), a3, List.length_append, decide_eq_true (show 5 ≤ M.length + R.length by omega), decide_eq_true (show stN M + 5 ≤ M.length + R.length by omega)]
    rfl
  refine ⟨hO, ?_, ?_, ?_⟩
  · unfold stK
    rw [if_pos hO, if_pos h, getD_app (by omega)]
  · unfold stB
    rw [if_pos hO, if_pos h, stN_app (by omega), List.drop_append_of_le_length (by omega), List.take_append_of_le_length (by rw [List.length_drop]; omega)]
  · unfold stX
    rw [if_pos hO, if_pos h, stN_app (by omega)]
theorem stO_bad {M : By} (h : stF M ≠ 0) : stO M = false := by
  unfold stO; rw [decide_eq_false h]; rfl
theorem stX_no {M : By} (h : stO M = false) : stX M = 0 := by
  unfold stX; rw [h]; rfl
end Go.Spec

namespace Go.Sym
open Go.Proofs Go.Spec
set_option linter.unusedVariables false
def spG (b : By) : Nat → List AV := fun j => [.int .i64 (stK (b.drop (spO b j))), .rb true (stB (b.drop (spO b j))) .unk]
def lsA (b : By) : LS := ⟨Nat, fun n => [(0, .rb true (b.drop (spO b n)) .unk), (5, .slice 100 0 2 n .ow .unk)], fun n => [(100, ⟨.rows 2 n (spG b), true, 2⟩)], 1000, fun n => b.length - n, fun n => spA b n, fun _ => []⟩
end Go.Sym

namespace Go.Sym
open Go.Proofs Go.Spec
set_option linter.unusedVariables false
set_option maxRecDepth 100000 in
theorem vt68 (b R : By) (nl : NL) (N : Nat) (G : Nat → List AV) (e : Int) : bodyP Try.prog T6 gl0 [] [(3, lsA b)] 3000 Try.f68 0 [.rb true b nl] [] (retQ Try.prog Try.f68 0 ⟨[], .tup [.slice 0 0 2 N .ow .unk, .rb true R .unk, .int .i64 e], [], [⟨.rows 2 N G, true, 2⟩]⟩) = (
let x1 := (∀ (y : Nat), y < N → datas Bool.false (G y) = Bool.true ∧ [AV.int IntKind.i64 (stK (List.drop (spO b y) b)), AV.rb Bool.true (stB (List.drop (spO b y) b)) NL.unk] = G y) ∧ True; let x2 := ∀ (y : Nat), y < N → outs Bool.true (G y) = Bool.true; let x3 := fun (j : Nat) => [AV.int IntKind.i64 (stK (List.drop (spO b j) b)), AV.rb Bool.true (stB (List.drop (spO b j) b)) NL.unk]; (∃ (x : Nat), (∀ (k : Nat), k < x → stO (List.drop (spO b k) b) = Bool.true) ∧ List.drop (spO b x) b = b ∧ x = 0 ∧ x = 0 ∧ True) ∧ ∀ (x : Nat), let x1_1 := @Bool.rec (fun _ => Prop) (3 < (List.drop (spO b x) b).length ∧ 4 < (List.drop (spO b x) b).length ∧ @Bool.rec (fun _ => Prop) (x2 ∧ 0 = 0 ∧ 0 = 0 ∧ 0 = 0 ∧ N = x ∧ R = List.drop (spO b x) b ∧ e = (5 : Int) ∧ N = x ∧ x1) (@Bool.rec (fun _ => Prop) (@Bool.rec (fun _ => Prop) (0 < (List.drop (spO b x) b).length ∧ (0 : Int) ≤ IntKind.i64.wrap ((5 : Int) + IntKind.i64.wrap (IntKind.i64.wrap ((↑((List.drop (spO b x) b).getD 3 (0 : BitVec 8)).toNat : Int) * (256 : Int)) + (↑((List.drop (spO b x) b).getD 4 (0 : BitVec 8)).toNat : Int))) ∧ 5 ≤ (IntKind.i64.wrap ((5 : Int) + IntKind.i64.wrap (IntKind.i64.wrap ((↑((List.drop (spO b x) b).getD 3 (0 : BitVec 8)).toNat : Int) * (256 : Int)) + (↑((List.drop (spO b x) b).getD 4 (0 : BitVec 8)).toNat : Int)))).toNat ∧ (IntKind.i64.wrap ((5 : Int) + IntKind.i64.wrap (IntKind.i64.wrap ((↑((List.drop (spO b x) b).getD 3 (0 : BitVec 8)).toNat : Int) * (256 : Int)) + (↑((List.drop (spO b x) b).getD 4 (0 : BitVec 8)).toNat : Int)))).toNat ≤ (List.drop (spO b x) b).length ∧ x = x ∧ roomFor x 1 32 ∧ (0 : Int) ≤ IntKind.i64.wrap ((5 : Int) + IntKind.i64.wrap (IntKind.i64.wrap ((↑((List.drop (spO b x) b).getD 3 (0 : BitVec 8)).toNat : Int) * (256 : Int)) + (↑((List.drop (spO b x) b).getD 4 (0 : BitVec 8)).toNat : Int))) ∧ (IntKind.i64.wrap ((5 : Int) + IntKind.i64.wrap (IntKind.i64.wrap ((↑((List.drop (spO b x) b).getD 3 (0 : BitVec 8)).toNat : Int) * (256 : Int)) + (↑((List.drop (spO b x) b).getD 4 (0 : BitVec 8)).toNat : Int)))).toNat ≤ (List.drop (spO b x) b).length ∧ ∃ (y : Nat), List.length b - y < List.length b - x ∧ (∀ (k : Nat), k < y → stO (List.drop (spO b k) b) = Bool.true) ∧ List.drop (spO b y) b = List.drop (IntKind.i64.wrap ((5 : Int) + IntKind.i64.wrap (IntKind.i64.wrap ((↑((List.drop (spO b x) b).getD 3 (0 : BitVec 8)).toNat : Int) * (256 : Int)) + (↑((List.drop (spO b x) b).getD 4 (0 : BitVec 8)).toNat : Int)))).toNat (List.drop (spO b x) b) ∧ 0 = 0 ∧ 0 = 0 ∧ 0 = 0 ∧ y = x + 1 ∧ y = x + 1 ∧ (∀ (y_1 : Nat), y_1 < y → datas Bool.false [AV.int IntKind.i64 (stK (List.drop (spO b y_1) b)), AV.rb Bool.true (stB (List.drop (spO b y_1) b)) NL.unk] = Bool.true ∧ glue x3 x (cut 2 (List.take 2 (List.drop 0 [AV.int IntKind.i64 (↑((List.drop (spO b x) b).getD 0 (0 : BitVec 8)).toNat : Int), AV.rb Bool.true (List.drop 5 (List.take (IntKind.i64.wrap ((5 : Int) + IntKind.i64.wrap (IntKind.i64.wrap ((↑((List.drop (spO b x) b).getD 3 (0 : BitVec 8)).toNat : Int) * (256 : Int)) + (↑((List.drop (spO b x) b).getD 4 (0 : BitVec 8)).toNat : Int)))).toNat (List.drop (spO b x) b))) NL.unk]))) y_1 = [AV.int IntKind.i64 (stK (List.drop (spO b y_1) b)), AV.rb Bool.true (stB (List.drop (spO b y_1) b)) NL.unk]) ∧ True) (x2 ∧ 0 = 0 ∧ 0 = 0 ∧ 0 = 0 ∧ N = x ∧ R = List.drop (spO b x) b ∧ e = (0 : Int) ∧ N = x ∧ x1) (decide ((↑(List.drop (spO b x) b).length : Int) < IntKind.i64.wrap ((5 : Int) + IntKind.i64.wrap (IntKind.i64.wrap ((↑((List.drop (spO b x) b).getD 3 (0 : BitVec 8)).toNat : Int) * (256 : Int)) + (↑((List.drop (spO b x) b).getD 4 (0 : BitVec 8)).toNat : Int)))))) (0 < (List.drop (spO b x) b).length ∧ @Bool.rec (fun _ => Prop) (@Bool.rec (fun _ => Prop) (0 < (List.drop (spO b x) b).length ∧ (0 : Int) ≤ IntKind.i64.wrap ((5 : Int) + IntKind.i64.wrap (IntKind.i64.wrap ((↑((List.drop (spO b x) b).getD 3 (0 : BitVec 8)).toNat : Int) * (256 : Int)) + (↑((List.drop (spO b x) b).getD 4 (0 : BitVec 8)).toNat : Int))) ∧ 5 ≤ (IntKind.i64.wrap ((5 : Int) + IntKind.i64.wrap (IntKind.i64.wrap ((↑((List.drop (spO b x) b).getD 3 (0 : BitVec 8)).toNat : Int) * (256 : Int)) + (↑((List.drop (spO b x) b).getD 4 (0 : BitVec 8)).toNat : Int)))).toNat ∧ (IntKind.i64.wrap ((5 : Int) + IntKind.i64.wrap (IntKind.i64.wrap ((↑((List.drop (spO b x) b).getD 3 (0 : BitVec 8)).toNat : Int) * (256 : Int)) + (↑((List.drop (spO b x) b).getD 4 (0 : BitVec 8)).toNat : Int)))).toNat ≤ (List.drop (spO b x) b).length ∧ x = x ∧ roomFor x 1 32 ∧ (0 : Int) ≤ IntKind.i64.wrap ((5 : Int) + IntKind.i64.wrap (IntKind.i64.wrap ((↑((List.drop (spO b x) b).getD 3 (0 : BitVec 8)).toNat : Int) * (256 : Int)) + (↑((List.drop (spO b x) b).getD 4 (0 : BitVec 8)).toNat : Int))) ∧ (IntKind.i64.wrap ((5 : Int) + IntKind.i64.wrap (IntKind.i64.wrap ((↑((List.drop (spO b x) b).getD 3 (0 : BitVec 8)).toNat : Int) * (256 : Int)) + (↑((List.drop (spO b x) b).getD 4 (0 : BitVec 8)).toNat : Int)))).toNat ≤ (List.drop (spO b x) b).length ∧ ∃ (y : Nat), List.length b - y < List.length b - x ∧ (∀ (k : Nat), k < y → stO (List.drop (spO b k) b) = Bool.true) ∧ List.drop (spO b y) b = List.drop (IntKind.i64.wrap ((5 : Int) + IntKind.i64.wrap (IntKind.i64.wrap ((↑((List.drop (spO b x) b).getD 3 (0 : BitVec 8)).toNat : Int) * (256 : Int)) + (↑((List.drop (spO b x) b).getD 4 (0 : BitVec 8)).toNat : Int)))).toNat (List.drop (spO b x) b) ∧ 0 = 0 ∧ 0 = 0 ∧ 0 = 0 ∧ y = x + 1 ∧ y = x + 1 ∧ (∀ (y_1 : Nat), y_1 < y → datas Bool.false [AV.int IntKind.i64 (stK (List.drop (spO b y_1) b)), AV.rb Bool.true (stB (List.drop (spO b y_1) b)) NL.unk] = Bool.true ∧ glue x3 x (cut 2 (List.take 2 (List.drop 0 [AV.int IntKind.i64 (↑((List.drop (spO b x) b).getD 0 (0 : BitVec 8)).toNat : Int), AV.rb Bool.true (List.drop 5 (List.take (IntKind.i64.wrap ((5 : Int) + IntKind.i64.wrap (IntKind.i64.wrap ((↑((List.drop (spO b x) b).getD 3 (0 : BitVec 8)).toNat : Int) * (256 : Int)) + (↑((List.drop (spO b x) b).getD 4 (0 : BitVec 8)).toNat : Int)))).toNat (List.drop (spO b x) b))) NL.unk]))) y_1 = [AV.int IntKind.i64 (stK (List.drop (spO b y_1) b)), AV.rb Bool.true (stB (List.drop (spO b y_1) b)) NL.unk]) ∧ True) (x2 ∧ 0 = 0 ∧ 0 = 0 ∧ 0 = 0 ∧ N = x ∧ R = List.drop (spO b x) b ∧ e = (0 : Int) ∧ N = x ∧ x1) (decide ((↑(List.drop (spO b x) b).length : Int) < IntKind.i64.wrap ((5 : Int) + IntKind.i64.wrap (IntKind.i64.wrap ((↑((List.drop (spO b x) b).getD 3 (0 : BitVec 8)).toNat : Int) * (256 : Int)) + (↑((List.drop (spO b x) b).getD 4 (0 : BitVec 8)).toNat : Int)))))) (x2 ∧ 0 = 0 ∧ 0 = 0 ∧ 0 = 0 ∧ N = x ∧ R = List.drop (spO b x) b ∧ e = (5 : Int) ∧ N = x ∧ x1) !decide ((List.drop (spO b x) b).getD 0 (0 : BitVec 8) = BitVec.ofNat 8 23)) (decide ((256 : Int) < IntKind.i64.wrap (IntKind.i64.wrap ((↑((List.drop (spO b x) b).getD 3 (0 : BitVec 8)).toNat : Int) * (256 : Int)) + (↑((List.drop (spO b x) b).getD 4 (0 : BitVec 8)).toNat : Int))))) !decide ((273 : Int) < IntKind.i64.wrap (IntKind.i64.wrap ((↑((List.drop (spO b x) b).getD 3 (0 : BitVec 8)).toNat : Int) * (256 : Int)) + (↑((List.drop (spO b x) b).getD 4 (0 : BitVec 8)).toNat : Int)))) (x2 ∧ 0 = 0 ∧ 0 = 0 ∧ 0 = 0 ∧ N = x ∧ R = List.drop (spO b x) b ∧ e = (0 : Int) ∧ N = x ∧ x1) (decide ((↑(List.drop (spO b x) b).length : Int) < (5 : Int))); let x2 := x2 ∧ 0 = 0 ∧ 0 = 0 ∧ 0 = 0 ∧ N = x ∧ R = List.drop (spO b x) b ∧ e = (3 : Int) ∧ N = x ∧ x1; let x3 := @Bool.rec (fun _ => Prop) x1_1 (1 < (List.drop (spO b x) b).length ∧ @Bool.rec (fun _ => Prop) x1_1 x2 !decide ((List.drop (spO b x) b).getD 1 (0 : BitVec 8) = BitVec.ofNat 8 3)) (decide ((1 : Int) < (↑(List.drop (spO b x) b).length : Int))); (∀ (k : Nat), k < x → stO (List.drop (spO b k) b) = Bool.true) → @Bool.rec (fun _ => Prop) x3 (0 < (List.drop (spO b x) b).length ∧ @Bool.rec (fun _ => Prop) x2 (0 < (List.drop (spO b x) b).length ∧ @Bool.rec (fun _ => Prop) x2 x3 !decide (23 < ((List.drop (spO b x) b).getD 0 (0 : BitVec 8)).toNat)) !decide (((List.drop (spO b x) b).getD 0 (0 : BitVec 8)).toNat < 20)) (decide ((0 : Int) < (↑(List.drop (spO b x) b).length : Int))) : Prop) := by kernel_rfl
end Go.Sym

set_option linter.unusedSimpArgs false
namespace Go.Sym
open Go.Proofs Go.Spec
set_option linter.unusedVariables false
theorem cnt_add (c d : BitVec 8) : IntKind.i64.wrap (IntKind.i64.wrap ((c.toNat : Int) * (256 : Int)) + (d.toNat : Int)) = ((c.toNat * 256 + d.toNat : Nat) : Int) := by
  have := c.isLt
  have := d.isLt
  have e1 : IntKind.i64.wrap ((c.toNat : Int) * (256 : Int)) = ((c.toNat * 256 : Nat) : Int) := by
    rw [show (c.toNat : Int) * 256 = ((c.toNat * 256 : Nat) : Int) by omega]
    exact wrap_nat _ (by omega) (by omega)
  rw [e1, ← Int.natCast_add]
  exact wrap_nat _ (by omega) (by omega)
theorem bt68 (b : By) (nl : NL) (hb : b.length < 1099511627776) : Must (bodyP Try.prog T6 gl0 [] [(3, lsA b)] 3000 Try.f68 0 [.rb true b nl] [] (retQ Try.prog Try.f68 0 ⟨[], .tup [.slice 0 0 2 (spN b) .ow .unk, .rb true (b.drop (spO b (spN b))) .unk, .int .i64 (stF (b.drop (spO b (spN b))))], [], [⟨.rows 2 (spN b) (spG b), true, 2⟩]⟩)) := by
  constructor
  rw [vt68]
  intro x1 x2 x3
  have hX1 : x1 := ⟨fun y hy => ⟨rfl, rfl⟩, trivial⟩
  have hX2 : x2 := fun y hy => rfl
  have hX3 : x3 = spG b := rfl
  clear_value x1 x2 x3
  subst hX3
  refine ⟨⟨0, fun k hk => absurd hk (by omega), rfl, rfl, rfl, trivial⟩, fun x => ?_⟩
  intro y1 y2 y3 hA
  have hA : spA b x := hA
  have hxl := spA_le hA
  have fin : ∀ (E : Int), stO (b.drop (spO b x)) = false → stF (b.drop (spO b x)) = E → (x2 ∧ 0 = 0 ∧ 0 = 0 ∧ 0 = 0 ∧ spN b = x ∧ b.drop (spO b (spN b)) = b.drop (spO b x) ∧ stF (b.drop (spO b (spN b))) = E ∧ spN b = x ∧ x1) := fun E h1 h2 => by
    have h3 := (spN_uniq hA h1).symm
    rw [h3]
    exact ⟨hX2, rfl, rfl, rfl, rfl, rfl, h2, rfl, hX1⟩
  have hMl : (b.drop (spO b x)).length ≤ b.length := by rw [List.length_drop]; omega
  have loop : stO (b.drop (spO b x)) = true → ∀ (w : Int), w = ((5 + stN (b.drop (spO b x)) : Nat) : Int) →
      (0 < (List.drop (spO b x) b).length ∧ (0 : Int) ≤ w ∧ 5 ≤ w.toNat ∧ w.toNat ≤ (List.drop (spO b x) b).length ∧ x = x ∧ roomFor x 1 32 ∧ (0 : Int) ≤ w ∧ w.toNat ≤ (List.drop (spO b x) b).length ∧ ∃ (y : Nat), List.length b - y < List.length b - x ∧ (∀ (k : Nat), k < y → stO (List.drop (spO b k) b) = Bool.true) ∧ List.drop (spO b y) b = List.drop w.toNat (List.drop (spO b x) b) ∧ 0 = 0 ∧ 0 = 0 ∧ 0 = 0 ∧ y = x + 1 ∧ y = x + 1 ∧ (∀ (y_1 : Nat), y_1 < y → datas Bool.false [AV.int IntKind.i64 (stK (List.drop (spO b y_1) b)), AV.rb Bool.true (stB (List.drop (spO b y_1) b)) NL.unk] = Bool.true ∧ glue (spG b) x (cut 2 (List.take 2 (List.drop 0 [AV.int IntKind.i64 (↑((List.drop (spO b x) b).getD 0 (0 : BitVec 8)).toNat : Int), AV.rb Bool.true (List.drop 5 (List.take w.toNat (List.drop (spO b x) b))) NL.unk]))) y_1 = [AV.int IntKind.i64 (stK (List.drop (spO b y_1) b)), AV.rb Bool.true (stB (List.drop (spO b y_1) b)) NL.unk]) ∧ True) := by
    intro hO w hw
    obtain ⟨o1, o2, o3⟩ := stO_len hO
    have hA' := spA_succ hA hO
    have hx1 := spA_le hA'
    have hwn : w.toNat = 5 + stN (b.drop (spO b x)) := by rw [hw, Int.toNat_natCast]
    rw [hwn]
    refine ⟨by omega, by omega, by omega, by omega, rfl, by unfold roomFor; omega, by omega, by omega, x + 1, by omega, hA', ?_, rfl, rfl, rfl, rfl, rfl, fun y hy => ⟨rfl, ?_⟩, trivial⟩
    · rw [List.drop_drop]
      show List.drop (spO b x + stX (b.drop (spO b x))) b = _
      rw [o1]
    · unfold glue
      by_cases hyx : y < x
      · rw [if_pos hyx]; rfl
      · rw [if_neg hyx]
        obtain rfl : y = x := by omega
        rw [Nat.sub_self]
        have e1 : stK (b.drop (spO b y)) = (((b.drop (spO b y)).getD 0 0).toNat : Int) := by unfold stK; rw [if_pos hO]
        have e2 : stB (b.drop (spO b y)) = List.drop 5 (List.take (5 + stN (b.drop (spO b y))) (b.drop (spO b y))) := by
          unfold stB; rw [if_pos hO, List.drop_take, Nat.add_sub_cancel_left]
        rw [e1, e2]
        rfl
  have hN : IntKind.i64.wrap (IntKind.i64.wrap ((((b.drop (spO b x)).getD 3 0).toNat : Int) * (256 : Int)) + (((b.drop (spO b x)).getD 4 0).toNat : Int)) = ((stN (b.drop (spO b x)) : Nat) : Int) := cnt_add _ _
  have hNlt := stN_lt (b.drop (spO b x))
  have hW : IntKind.i64.wrap ((5 : Int) + ((stN (b.drop (spO b x)) : Nat) : Int)) = ((5 + stN (b.drop (spO b x)) : Nat) : Int) := by
    rw [show (5 : Int) + ((stN (b.drop (spO b x)) : Nat) : Int) = ((5 + stN (b.drop (spO b x)) : Nat) : Int) by omega]
    exact wrap_nat _ (by omega) (by omega)
  have end3 : ((0 < (b.drop (spO b x)).length ∧ ¬ (20 ≤ ((b.drop (spO b x)).getD 0 0).toNat ∧ ((b.drop (spO b x)).getD 0 0).toNat ≤ 23)) ∨ (1 < (b.drop (spO b x)).length ∧ (b.drop (spO b x)).getD 1 0 ≠ 3)) → y2 := fun h => by
    have h3 : stF (b.drop (spO b x)) = 3 := by unfold stF; rw [if_pos h]
    exact fin 3 (stO_bad (by omega)) h3
  have go : ¬ ((0 < (b.drop (spO b x)).length ∧ ¬ (20 ≤ ((b.drop (spO b x)).getD 0 0).toNat ∧ ((b.drop (spO b x)).getD 0 0).toNat ≤ 23)) ∨ (1 < (b.drop (spO b x)).length ∧ (b.drop (spO b x)).getD 1 0 ≠ 3)) → y1 := by
    intro hno
    have hF : stF (b.drop (spO b x)) = if 5 ≤ (b.drop (spO b x)).length ∧ (if ((b.drop (spO b x)).getD 0 0).toNat = 23 then 273 else 256) < stN (b.drop (spO b x)) then 5 else 0 := by
      unfold stF; rw [if_neg hno]
    unfold y1
    rw [hN, hW]
    generalize hM : b.drop (spO b x) = M at *
    refine brec (fun c => ?_) (fun c => ?_)
    · have c := dlt.1 c
      have hF0 : stF M = 0 := by rw [hF, if_neg (fun h => by omega)]
      exact fin 0 (by unfold stO; rw [decide_eq_false (show ¬ 5 ≤ M.length by omega)]; simp) hF0
    have c := ndlt.1 c
    refine ⟨by omega, by omega, ?_⟩
    have small : stF M = 0 → @Bool.rec (fun _ => Prop) (0 < M.length ∧ (0 : Int) ≤ ((5 + stN M : Nat) : Int) ∧ 5 ≤ ((5 + stN M : Nat) : Int).toNat ∧ ((5 + stN M : Nat) : Int).toNat ≤ M.length ∧ x = x ∧ roomFor x 1 32 ∧ (0 : Int) ≤ ((5 + stN M : Nat) : Int) ∧ ((5 + stN M : Nat) : Int).toNat ≤ M.length ∧ ∃ (y : Nat), List.length b - y < List.length b - x ∧ (∀ (k : Nat), k < y → stO (List.drop (spO b k) b) = Bool.true) ∧ List.drop (spO b y) b = List.drop ((5 + stN M : Nat) : Int).toNat M ∧ 0 = 0 ∧ 0 = 0 ∧ 0 = 0 ∧ y = x + 1 ∧ y = x + 1 ∧ (∀ (y_1 : Nat), y_1 < y → datas Bool.false [AV.int IntKind.i64 (stK (List.drop (spO b y_1) b)), AV.rb Bool.true (stB (List.drop (spO b y_1) b)) NL.unk] = Bool.true ∧ glue (spG b) x (cut 2 (List.take 2 (List.drop 0 [AV.int IntKind.i64 (↑(M.getD 0 (0 : BitVec 8)).toNat : Int), AV.rb Bool.true (List.drop 5 (List.take ((5 + stN M : Nat) : Int).toNat M)) NL.unk]))) y_1 = [AV.int IntKind.i64 (stK (List.drop (spO b y_1) b)), AV.rb Bool.true (stB (List.drop (spO b y_1) b)) NL.unk]) ∧ True) (x2 ∧ 0 = 0 ∧ 0 = 0 ∧ 0 = 0 ∧ spN b = x ∧ b.drop (spO b (spN b)) = M ∧ stF (b.drop (spO b (spN b))) = (0 : Int) ∧ spN b = x ∧ x1) (decide ((M.length : Int) < ((5 + stN M : Nat) : Int))) := by
      intro h0
      refine brec (fun d => ?_) (fun d => ?_)
      · have d := dlt.1 d
        exact fin 0 (by unfold stO; rw [decide_eq_false (show ¬ stN M + 5 ≤ M.length by omega)]; simp) h0
      · have d := ndlt.1 d
        exact loop (by unfold stO; rw [h0, decide_eq_true (show 5 ≤ M.length by omega), decide_eq_true (show stN M + 5 ≤ M.length by omega)]; rfl) _ rfl
    have large : stF M = 5 → (x2 ∧ 0 = 0 ∧ 0 = 0 ∧ 0 = 0 ∧ spN b = x ∧ b.drop (spO b (spN b)) = M ∧ stF (b.drop (spO b (spN b))) = (5 : Int) ∧ spN b = x ∧ x1) := fun h => fin 5 (stO_bad (by omega)) h
    by_cases c1 : 273 < stN M
    · rw [nd (show (273 : Int) < ((stN M : Nat) : Int) by omega)]
      exact large (by rw [hF, if_pos ⟨by omega, by split <;> omega⟩])
    · rw [nd' (show ¬ (273 : Int) < ((stN M : Nat) : Int) by omega)]
      by_cases c2 : 256 < stN M
      · rw [decide_eq_true (show (256 : Int) < ((stN M : Nat) : Int) by omega)]
        refine ⟨by omega, ?_⟩
        by_cases c3 : M.getD 0 0 = BitVec.ofNat 8 23
        · rw [nd c3]
          exact small (by rw [hF, if_neg (fun h => by have := h.2; rw [c3] at this; simp at this; omega)])
        · rw [nd' c3]
          have : (M.getD 0 0).toNat ≠ 23 := fun h => c3 (BitVec.eq_of_toNat_eq h)
          exact large (by rw [hF, if_pos ⟨by omega, by rw [if_neg this]; omega⟩])
      · rw [decide_eq_false (show ¬ (256 : Int) < ((stN M : Nat) : Int) by omega)]
        exact small (by rw [hF, if_neg (fun h => by have := h.2; split at this <;> omega)])
  have go3 : ¬ (0 < (b.drop (spO b x)).length ∧ ¬ (20 ≤ ((b.drop (spO b x)).getD 0 0).toNat ∧ ((b.drop (spO b x)).getD 0 0).toNat ≤ 23)) → y3 := by
    intro hno
    unfold y3
    refine brec (fun c => ?_) (fun c => ?_)
    · have c := dlt.1 c
      refine ⟨by omega, ?_⟩
      by_cases c1 : (b.drop (spO b x)).getD 1 0 = BitVec.ofNat 8 3
      · rw [nd c1]
        exact go (fun h => h.elim hno (fun h => h.2 c1))
      · rw [nd' c1]
        exact end3 (.inr ⟨by omega, c1⟩)
    · have c := ndlt.1 c
      exact go (fun h => h.elim hno (fun h => by omega))
  refine brec (fun c => ?_) (fun c => ?_)
  · have c := dlt.1 c
    refine ⟨by omega, ?_⟩
    by_cases c1 : ((b.drop (spO b x)).getD 0 0).toNat < 20
    · rw [nd c1]
      exact end3 (.inl ⟨by omega, by omega⟩)
    · rw [nd' c1]
      refine ⟨by omega, ?_⟩
      by_cases c2 : 23 < ((b.drop (spO b x)).getD 0 0).toNat
      · rw [nd c2]
        exact end3 (.inl ⟨by omega, by omega⟩)
      · rw [nd' c2]
        exact go3 (fun h => h.2 ⟨by omega, by omega⟩)
  · have c := ndlt.1 c
    exact go3 (fun h => by omega)
end Go.Sym

namespace Go.Sym
open Go.Proofs Go.Spec
set_option linter.unusedVariables false
noncomputable def gt68 (xs : List AV) (bs : List ABlk) : TL := match xs, bs with
  | [.rb true b nl], [] => .ok ⟨[b.length < 1099511627776], .tup [.slice 0 0 2 (spN b) .ow .unk, .rb true (b.drop (spO b (spN b))) .unk, .int .i64 (stF (b.drop (spO b (spN b))))], [], [⟨.rows 2 (spN b) (spG b), true, 2⟩]⟩
  | _, _ => .no
noncomputable def spt68 : Spec := ⟨[.kp], fun _ _ => [], fun _ _ => [], gt68⟩
theorem ct68 : COK Try.prog gl0 68 (mkF spt68) := by
  refine ctrE (fn := Try.f68) [] 3000 (by kernel_rfl) (by kernel_rfl) okT6 (by kernel_rfl) (fun args w => by kernel_rfl) fun xs bs r hs ho => ?_
  replace hs : (gt68 xs bs).sel = some r := hs
  unfold gt68 at hs
  split at hs
  · simp only [TL.sel, Option.some.injEq] at hs
    subst hs
    exact ⟨_, bt68 _ _ (obsT_one.1 ho)⟩
  · simp [TL.sel] at hs
/-- Left of none. -/
def gt67n (xs : List AV) (bs : List ABlk) : TL := match xs, bs with
  | [.nilp], [] => .ok ⟨[], .nils, [], []⟩
  | xs, bs => gt67 xs bs
theorem bt67n : Must (bodyP Try.prog T3 gl0 [] [] 3000 Try.f67 0 [.nilp] [] (retQ Try.prog Try.f67 0 ⟨[], .nils, [], []⟩)) := ⟨by
  have : bodyP Try.prog T3 gl0 [] [] 3000 Try.f67 0 [.nilp] [] (retQ Try.prog Try.f67 0 ⟨[], .nils, [], []⟩) = True := by kernel_rfl
  rw [this]; trivial⟩
theorem ct67n : COK Try.prog gl0 67 (mkF (reSp 1 gt67n)) := by
  refine ctrE (fn := Try.f67) [] 3000 (by kernel_rfl) (by kernel_rfl) okT3 (by kernel_rfl) (fun args w => by kernel_rfl) fun xs bs r hs ho => ?_
  replace hs : (gt67n xs bs).sel = some r := hs
  unfold gt67n at hs
  split at hs
  · simp only [TL.sel, Option.some.injEq] at hs
    subst hs
    exact ⟨_, bt67n⟩
  · unfold gt67 at hs
    split at hs
    · simp only [TL.sel, Option.some.injEq] at hs
      subst hs
      obtain ⟨h1, h2⟩ := obsT_cons.1 ho
      exact ⟨_, bt67 _ _ _ _ h1 (obsT_one.1 h2)⟩
    · simp [TL.sel] at hs
/-- Take behind an error. -/
def rt64 (L : By) (x : Nat) (e : Int) : RL := ⟨[x ≤ L.length, L.length < 1099511627776, stF (L.drop x) = e, e ≠ 0], .tup [.int .i64 0, .slice 2 0 1 0 .ow .unk, .bool false, .int .i64 e], [some (some (rdC x (L.length - x) e)), some (some (rdL L))], [⟨.bytes [], true, 1⟩]⟩
def gt64s (xs : List AV) (bs : List ABlk) : TL := match xs, bs with
  | [.ptr 0 0 0 0], [⟨.cells [.slice 1 x 1 n .ox .unk, .int .i64 3], true, 0⟩, ⟨.bytes L, true, 1⟩] => .ok ⟨(x + n = L.length) :: (rt64 L x 3).ob, (rt64 L x 3).v, (rt64 L x 3).io, (rt64 L x 3).nw⟩
  | [.ptr 0 0 0 0], [⟨.cells [.slice 1 x 1 n .ox .unk, .int .i64 5], true, 0⟩, ⟨.bytes L, true, 1⟩] => .ok ⟨(x + n = L.length) :: (rt64 L x 5).ob, (rt64 L x 5).v, (rt64 L x 5).io, (rt64 L x 5).nw⟩
  | xs, bs => gt64 xs bs
theorem bt64s (L : By) (x n : Nat) (e : Int) (h : x + n = L.length) (ho : obsT (rt64 L x e).ob) : Must (bodyP Try.prog T4 gl0 [] [] 3000 Try.f64 2 [.ptr 0 0 0 0] [rdC x n e, rdL L] (retQ Try.prog Try.f64 2 ⟨[], .tup [.int .i64 0, .slice 2 0 1 0 .ow .unk, .bool false, .int .i64 e], [some (some (rdC x (L.length - x) e)), some (some (rdL L))], [⟨.bytes [], true, 1⟩]⟩)) := by
  obtain ⟨h1, ho⟩ := obsT_cons.1 ho
  obtain ⟨h2, ho⟩ := obsT_cons.1 ho
  obtain ⟨h3, ho⟩ := obsT_cons.1 ho
  have h4 := obsT_one.1 ho
  have hb := bt64 L x n e h h2
  have hO : stO (L.drop x) = false := stO_bad (by rw [h3]; exact h4)
  have e1 : stK (L.drop x) = 0 := by unfold stK; rw [hO]; rfl
  have e2 : stB (L.drop x) = [] := by unfold stB; rw [hO]; rfl
  rw [hO, h3, e1, e2, stX_no hO, Nat.add_zero, List.length_nil] at hb
  exact hb
theorem ct64s : COK Try.prog gl0 64 (mkF (reSp 1 gt64s)) := by
  refine ctrE (fn := Try.f64) [] 3000 (by kernel_rfl) (by kernel_rfl) okT4 (by kernel_rfl) (fun args w => by kernel_rfl) fun xs bs r hs ho => ?_
  replace hs : (gt64s xs bs).sel = some r := hs
  unfold gt64s at hs
  split at hs
  · simp only [TL.sel, Option.some.injEq] at hs
    subst hs
    obtain ⟨h1, h2⟩ := obsT_cons.1 ho
    exact ⟨_, bt64s _ _ _ _ h1 h2⟩
  · simp only [TL.sel, Option.some.injEq] at hs
    subst hs
    obtain ⟨h1, h2⟩ := obsT_cons.1 ho
    exact ⟨_, bt64s _ _ _ _ h1 h2⟩
  · unfold gt64 at hs
    split at hs
    · simp only [TL.sel, Option.some.injEq] at hs
      subst hs
      obtain ⟨h1, h2⟩ := obsT_cons.1 ho
      exact ⟨_, bt64 _ _ _ _ h1 (obsT_one.1 h2)⟩
    · simp only [TL.sel, Option.some.injEq] at hs
      subst hs
      exact ⟨_, bt64n⟩
    · simp [TL.sel] at hs
noncomputable def T7 : Ctx := (((T6.add 67 (mkF (reSp 1 gt67n))).add 68 (mkF spt68)).add 64 (mkF (reSp 1 gt64s)))
theorem okT7 : COKs Try.prog gl0 T7 := ((okT6.add ct67n).add ct68).add ct64s
noncomputable def T8 : Ctx := (T7.exe Try.prog gl0 [] 300 Try.f63.params.size 63 Try.f63)
theorem okT8 : COKs Try.prog gl0 T8 := okT7.exe [] 300 _ (by kernel_rfl) (by kernel_rfl) (by kernel_rfl) (fun args w => by kernel_rfl)
/-- The law. -/
noncomputable def T9 : Ctx := (T8.withSym [94, 95, 129, 130, 131, 139, 140, 141]).withFrz [(57, [.by8]), (62, [.r 2, .kp, .kp])]
theorem okT9 : COKs Try.prog gl0 T9 := (okT8.withSym [94, 95, 129, 130, 131, 139, 140, 141]).withFrz [(57, [.by8]), (62, [.r 2, .kp, .kp])]
end Go.Sym

namespace Go.Spec
open Go.Sym
abbrev SpY := Nat × Nat × Nat × Nat × By
/-- Round, place, count; the reader's place and bytes. -/
def yi (y : SpY) : Nat := y.1
def ya (y : SpY) : Nat := y.2.1
def yn (y : SpY) : Nat := y.2.2.1
def yx (y : SpY) : Nat := y.2.2.2.1
def yL (y : SpY) : By := y.2.2.2.2
/-- What isn't taken. -/
def yM (y : SpY) : By := (yL y).drop (yx y)
structure spC0 (B : By) (y : SpY) : Prop where
  a : ya y ≤ B.length
  x : yx y ≤ (yL y).length
  L : (yL y).length ≤ 900
  n : spA B (yn y)
  M : yM y ++ B.drop (ya y) = B.drop (spO B (yn y))
/-- A reader between two pieces. -/
structure spI (B : By) (nC : Nat) (e : Int) (y : SpY) : Prop extends spC0 B y where
  i1 : yi y ≤ nC + 1
  i2 : yi y ≤ 40
  z : yi y = nC + 1 ∨ yi y = 40 → ya y = B.length
  O : stO (yM y) = false
  F : stF (yM y) = e
/-- The same, while records are taken. -/
structure spJ (B : By) (nC i0 : Nat) (y : SpY) : Prop extends spC0 B y where
  ii : yi y = i0
  i1 : yi y ≤ nC
  i2 : yi y < 40
  z : yi y = nC ∨ yi y = 39 → ya y = B.length
end Go.Spec
namespace Go.Sym
open Go.Proofs Go.Spec
set_option linter.unusedVariables false
noncomputable def spEv (B : By) (nC : Nat) (A : Nat → Int) (nl : Bool) (e : Int) (y : SpY) : List (Nat × AV) :=
  [(0, .rb true B .unk), (1, .ros true 1 nC (fun j => [.int .i64 (A j)]) (.is nl)), (9, .str B), (10, .ros true 2 (spN B) (spG B) .unk), (11, .rb true (B.drop (spO B (spN B))) .unk), (12, .int .i64 (stF (B.drop (spO B (spN B))))),
   (13, .ptr 102 0 0 0), (14, .int .i64 (ya y)), (15, .int .i64 (yn y)), (16, .int .i64 e), (17, .int .i64 (yi y))]
def spBk (e : Int) (y : SpY) : List (Nat × ABlk) :=
  [(102, ⟨.cells [.slice 103 (yx y) 1 ((yL y).length - yx y) .ox .unk, .int .i64 e], true, 0⟩), (103, ⟨.bytes (yL y), true, 1⟩)]
noncomputable def lsP2 (B : By) (nC : Nat) (A : Nat → Int) (nl : Bool) (i0 : Nat) : LS := ⟨SpY, spEv B nC A nl 0, spBk 0, 2000, fun y => B.length + 1 - yn y, spJ B nC i0, fun _ => []⟩
noncomputable def lsP1 (B : By) (nC : Nat) (A : Nat → Int) (nl : Bool) (e : Int) : LS := ⟨SpY, spEv B nC A nl e, spBk e, 1000, fun y => 41 - yi y, spI B nC e, fun y => [(20, lsP2 B nC A nl (yi y))]⟩
noncomputable def lsPp (B : By) (nC : Nat) (A : Nat → Int) (nl : Bool) : List (Nat × LS) := [(12, lsP1 B nC A nl 0), (12, lsP1 B nC A nl 3), (12, lsP1 B nC A nl 5)]
end Go.Sym

namespace Go.Sym
open Go.Proofs Go.Spec
set_option linter.unusedVariables false
set_option maxRecDepth 100000 in
theorem vt13 (b : By) (c0 c1 : Bool) (nC : Nat) (A : Nat → Int) : bodyP Try.prog T9 gl0 [] (lsPp (b.take 900) nC A c1) 3000 Try.f13 0 [.rb true b (.is c0), .ros true 1 nC (fun j => [.int .i64 (A j)]) (.is c1)] [] (retQ Try.prog Try.f13 0 ⟨[], .bool true, [], []⟩) = (
let x1 := ∀ (y : Nat), let x1 := List.drop (spO (List.take 900 b) y) (List.take 900 b); y < spN (List.take 900 b) → datas Bool.true [AV.int IntKind.i64 (stK x1), AV.rb Bool.true (stB x1) NL.unk] = Bool.true ∧ stK x1 = stK x1 ∧ stB x1 = stB x1 ∧ True; let x2 := List.drop (spO (List.take 900 b) (spN (List.take 900 b))) (List.take 900 b); let x3 := [] ++ List.take (Min.min (↑(List.length b) : Int) (900 : Int)).toNat b; let x4 := ∀ (y : Nat), y < nC → datas Bool.true [AV.int IntKind.i64 (A y)] = Bool.true ∧ A y = A y ∧ True; let x5 := List.take 900 b = List.take 900 b; let x6 := spN (List.take 900 b) = spN (List.take 900 b); let x7 := ∀ (y : Nat), y < spN (List.take 900 b) → datas Bool.true [AV.int IntKind.i64 (stK (List.drop (spO (List.take 900 b) y) (List.take 900 b))), AV.rb Bool.true (stB (List.drop (spO (List.take 900 b) y) (List.take 900 b))) NL.unk] = Bool.true ∧ stK (List.drop (spO (List.take 900 b) y) (List.take 900 b)) = stK (List.drop (spO x3 y) x3) ∧ stB (List.drop (spO (List.take 900 b) y) (List.take 900 b)) = stB (List.drop (spO x3 y) x3) ∧ True; let x8 := List.take (↑(List.take 900 b).length : Int).toNat (List.take 900 b); let x9 := 1 = 1 ∧ (5 : Int) ≠ (0 : Int) ∧ Bool.true = decide x5 ∧ True; let x10 := 1 = 1 ∧ (3 : Int) ≠ (0 : Int) ∧ Bool.true = decide x5 ∧ True; (0 : Int) ≤ Min.min (↑(List.length b) : Int) (900 : Int) ∧ (Min.min (↑(List.length b) : Int) (900 : Int)).toNat ≤ List.length b ∧ 0 = 0 ∧ roomFor 0 (List.take (Min.min (↑(List.length b) : Int) (900 : Int)).toNat b).length 1 ∧ 0 + (List.take (Min.min (↑(List.length b) : Int) (900 : Int)).toNat b).length = x3.length ∧ x3.length < 1099511627776 ∧ 0 + spN x3 ≤ spN x3 ∧ (∀ (y : Nat), y < spN x3 → datas Bool.true [AV.int IntKind.i64 (stK (List.drop (spO x3 y) x3)), AV.rb Bool.true (stB (List.drop (spO x3 y) x3)) NL.unk] = Bool.true ∧ [AV.int IntKind.i64 (stK (List.drop (spO x3 y) x3)), AV.rb Bool.true (stB (List.drop (spO x3 y) x3)) NL.unk].length ≤ 2) ∧ 0 < 1099511627776 ∧ ((∃ (y : Nat × Nat × Nat × Nat × By), True ∧ spI (List.take 900 b) nC (0 : Int) y ∧ List.take 900 b = x3 ∧ c1 = c1 ∧ nC = nC ∧ x4 ∧ List.take 900 b = x3 ∧ spN (List.take 900 b) = spN x3 ∧ x7 ∧ x2 = List.drop (spO x3 (spN x3)) x3 ∧ stF x2 = stF (List.drop (spO x3 (spN x3)) x3) ∧ 0 = 0 ∧ (↑(ya y) : Int) = (0 : Int) ∧ (↑(yn y) : Int) = (0 : Int) ∧ (0 : Int) = (0 : Int) ∧ (↑(yi y) : Int) = (0 : Int) ∧ yx y = 0 ∧ 0 = 0 ∧ yx y = 0 ∧ List.length (yL y) - yx y = 0 ∧ (0 : Int) = (0 : Int) ∧ yL y = [] ∧ True) ∨ (∃ (y : Nat × Nat × Nat × Nat × By), True ∧ spI (List.take 900 b) nC (3 : Int) y ∧ List.take 900 b = x3 ∧ c1 = c1 ∧ nC = nC ∧ x4 ∧ List.take 900 b = x3 ∧ spN (List.take 900 b) = spN x3 ∧ x7 ∧ x2 = List.drop (spO x3 (spN x3)) x3 ∧ stF x2 = stF (List.drop (spO x3 (spN x3)) x3) ∧ 0 = 0 ∧ (↑(ya y) : Int) = (0 : Int) ∧ (↑(yn y) : Int) = (0 : Int) ∧ (3 : Int) = (0 : Int) ∧ (↑(yi y) : Int) = (0 : Int) ∧ yx y = 0 ∧ 0 = 0 ∧ yx y = 0 ∧ List.length (yL y) - yx y = 0 ∧ (3 : Int) = (0 : Int) ∧ yL y = [] ∧ True) ∨ ∃ (y : Nat × Nat × Nat × Nat × By), True ∧ spI (List.take 900 b) nC (5 : Int) y ∧ List.take 900 b = x3 ∧ c1 = c1 ∧ nC = nC ∧ x4 ∧ List.take 900 b = x3 ∧ spN (List.take 900 b) = spN x3 ∧ x7 ∧ x2 = List.drop (spO x3 (spN x3)) x3 ∧ stF x2 = stF (List.drop (spO x3 (spN x3)) x3) ∧ 0 = 0 ∧ (↑(ya y) : Int) = (0 : Int) ∧ (↑(yn y) : Int) = (0 : Int) ∧ (5 : Int) = (0 : Int) ∧ (↑(yi y) : Int) = (0 : Int) ∧ yx y = 0 ∧ 0 = 0 ∧ yx y = 0 ∧ List.length (yL y) - yx y = 0 ∧ (5 : Int) = (0 : Int) ∧ yL y = [] ∧ True) ∧ (∀ (x : Nat × Nat × Nat × Nat × By), let x1_1 := ∀ (x_1 : Nat × Nat × Nat × Nat × By), let x1_1 := yx x_1 + stX (List.drop (yx x_1) (yL x_1)); spJ (List.take 900 b) nC (yi x) x_1 → yx x_1 + (List.length (yL x_1) - yx x_1) = List.length (yL x_1) ∧ List.length (yL x_1) < 1099511627776 ∧ @Bool.rec (fun _ => Prop) (@Bool.rec (fun _ => Prop) (Bool.true = Bool.false ∧ True) ((0 : Int) ≤ (↑(yn x_1) : Int) ∧ (↑(yn x_1) : Int).toNat < spN (List.take 900 b) ∧ @Bool.rec (fun _ => Prop) (Bool.true = Bool.false ∧ True) (List.length (stB (List.drop (yx x_1) (yL x_1))) = List.length (stB (List.drop (yx x_1) (yL x_1))) ∧ (0 : Int) ≤ (↑(yn x_1) : Int) ∧ (↑(yn x_1) : Int).toNat < spN (List.take 900 b) ∧ @Bool.rec (fun _ => Prop) (∃ (y : Nat × Nat × Nat × Nat × By), (List.take 900 b).length + 1 - yn y < (List.take 900 b).length + 1 - yn x_1 ∧ spJ (List.take 900 b) nC (yi x) y ∧ x5 ∧ c1 = c1 ∧ nC = nC ∧ x4 ∧ x5 ∧ x6 ∧ x1 ∧ x2 = x2 ∧ stF x2 = stF x2 ∧ 0 = 0 ∧ (↑(ya y) : Int) = (↑(ya x_1) : Int) ∧ (↑(yn y) : Int) = IntKind.i64.wrap ((↑(yn x_1) : Int) + (1 : Int)) ∧ (0 : Int) = stF (List.drop (yx x_1) (yL x_1)) ∧ (↑(yi y) : Int) = (↑(yi x_1) : Int) ∧ yx y = x1_1 ∧ 0 = 0 ∧ yx y = x1_1 ∧ List.length (yL y) - yx y = List.length (yL x_1) - x1_1 ∧ (0 : Int) = stF (List.drop (yx x_1) (yL x_1)) ∧ yL y = yL x_1 ∧ True) (Bool.true = Bool.false ∧ True) !decide (stB (List.drop (yx x_1) (yL x_1)) = stB (List.drop (spO (List.take 900 b) (↑(yn x_1) : Int).toNat) (List.take 900 b)))) !!decide (stK (List.drop (yx x_1) (yL x_1)) = stK (List.drop (spO (List.take 900 b) (↑(yn x_1) : Int).toNat) (List.take 900 b)))) !decide ((↑(spN (List.take 900 b)) : Int) ≤ (↑(yn x_1) : Int))) (@Bool.rec (fun _ => Prop) ((∃ (y : Nat × Nat × Nat × Nat × By), 41 - yi y < 41 - yi x ∧ spI (List.take 900 b) nC (0 : Int) y ∧ x5 ∧ c1 = c1 ∧ nC = nC ∧ x4 ∧ x5 ∧ x6 ∧ x1 ∧ x2 = x2 ∧ stF x2 = stF x2 ∧ 0 = 0 ∧ (↑(ya y) : Int) = (↑(ya x_1) : Int) ∧ (↑(yn y) : Int) = (↑(yn x_1) : Int) ∧ (0 : Int) = stF (List.drop (yx x_1) (yL x_1)) ∧ (↑(yi y) : Int) = IntKind.i64.wrap ((↑(yi x_1) : Int) + (1 : Int)) ∧ yx y = x1_1 ∧ 0 = 0 ∧ yx y = x1_1 ∧ List.length (yL y) - yx y = List.length (yL x_1) - x1_1 ∧ (0 : Int) = stF (List.drop (yx x_1) (yL x_1)) ∧ yL y = yL x_1 ∧ True) ∨ (∃ (y : Nat × Nat × Nat × Nat × By), 41 - yi y < 41 - yi x ∧ spI (List.take 900 b) nC (3 : Int) y ∧ x5 ∧ c1 = c1 ∧ nC = nC ∧ x4 ∧ x5 ∧ x6 ∧ x1 ∧ x2 = x2 ∧ stF x2 = stF x2 ∧ 0 = 0 ∧ (↑(ya y) : Int) = (↑(ya x_1) : Int) ∧ (↑(yn y) : Int) = (↑(yn x_1) : Int) ∧ (3 : Int) = stF (List.drop (yx x_1) (yL x_1)) ∧ (↑(yi y) : Int) = IntKind.i64.wrap ((↑(yi x_1) : Int) + (1 : Int)) ∧ yx y = x1_1 ∧ 0 = 0 ∧ yx y = x1_1 ∧ List.length (yL y) - yx y = List.length (yL x_1) - x1_1 ∧ (3 : Int) = stF (List.drop (yx x_1) (yL x_1)) ∧ yL y = yL x_1 ∧ True) ∨ ∃ (y : Nat × Nat × Nat × Nat × By), 41 - yi y < 41 - yi x ∧ spI (List.take 900 b) nC (5 : Int) y ∧ x5 ∧ c1 = c1 ∧ nC = nC ∧ x4 ∧ x5 ∧ x6 ∧ x1 ∧ x2 = x2 ∧ stF x2 = stF x2 ∧ 0 = 0 ∧ (↑(ya y) : Int) = (↑(ya x_1) : Int) ∧ (↑(yn y) : Int) = (↑(yn x_1) : Int) ∧ (5 : Int) = stF (List.drop (yx x_1) (yL x_1)) ∧ (↑(yi y) : Int) = IntKind.i64.wrap ((↑(yi x_1) : Int) + (1 : Int)) ∧ yx y = x1_1 ∧ 0 = 0 ∧ yx y = x1_1 ∧ List.length (yL y) - yx y = List.length (yL x_1) - x1_1 ∧ (5 : Int) = stF (List.drop (yx x_1) (yL x_1)) ∧ yL y = yL x_1 ∧ True) (x1_1 + (List.length (yL x_1) - x1_1) = List.length (yL x_1) ∧ List.length (yL x_1) < 1099511627776 ∧ (List.drop x1_1 (yL x_1)).length = (List.drop x1_1 (yL x_1)).length ∧ (List.drop x1_1 (yL x_1)).length < 1099511627776 ∧ ((∃ (y : Nat × Nat × Nat × Nat × By), 41 - yi y < 41 - yi x ∧ spI (List.take 900 b) nC (0 : Int) y ∧ x5 ∧ c1 = c1 ∧ nC = nC ∧ x4 ∧ x5 ∧ x6 ∧ x1 ∧ x2 = x2 ∧ stF x2 = stF x2 ∧ 0 = 0 ∧ (↑(ya y) : Int) = (↑(ya x_1) : Int) ∧ (↑(yn y) : Int) = (↑(yn x_1) : Int) ∧ (0 : Int) = stF (List.drop (yx x_1) (yL x_1)) ∧ (↑(yi y) : Int) = IntKind.i64.wrap ((↑(yi x_1) : Int) + (1 : Int)) ∧ yx y = 0 ∧ 0 = 0 ∧ yx y = 0 ∧ List.length (yL y) - yx y = (List.drop x1_1 (yL x_1)).length ∧ (0 : Int) = (0 : Int) ∧ yL y = List.drop x1_1 (yL x_1) ∧ True) ∨ (∃ (y : Nat × Nat × Nat × Nat × By), 41 - yi y < 41 - yi x ∧ spI (List.take 900 b) nC (3 : Int) y ∧ x5 ∧ c1 = c1 ∧ nC = nC ∧ x4 ∧ x5 ∧ x6 ∧ x1 ∧ x2 = x2 ∧ stF x2 = stF x2 ∧ 0 = 0 ∧ (↑(ya y) : Int) = (↑(ya x_1) : Int) ∧ (↑(yn y) : Int) = (↑(yn x_1) : Int) ∧ (3 : Int) = stF (List.drop (yx x_1) (yL x_1)) ∧ (↑(yi y) : Int) = IntKind.i64.wrap ((↑(yi x_1) : Int) + (1 : Int)) ∧ yx y = 0 ∧ 0 = 0 ∧ yx y = 0 ∧ List.length (yL y) - yx y = (List.drop x1_1 (yL x_1)).length ∧ (3 : Int) = (0 : Int) ∧ yL y = List.drop x1_1 (yL x_1) ∧ True) ∨ ∃ (y : Nat × Nat × Nat × Nat × By), 41 - yi y < 41 - yi x ∧ spI (List.take 900 b) nC (5 : Int) y ∧ x5 ∧ c1 = c1 ∧ nC = nC ∧ x4 ∧ x5 ∧ x6 ∧ x1 ∧ x2 = x2 ∧ stF x2 = stF x2 ∧ 0 = 0 ∧ (↑(ya y) : Int) = (↑(ya x_1) : Int) ∧ (↑(yn y) : Int) = (↑(yn x_1) : Int) ∧ (5 : Int) = stF (List.drop (yx x_1) (yL x_1)) ∧ (↑(yi y) : Int) = IntKind.i64.wrap ((↑(yi x_1) : Int) + (1 : Int)) ∧ yx y = 0 ∧ 0 = 0 ∧ yx y = 0 ∧ List.length (yL y) - yx y = (List.drop x1_1 (yL x_1)).length ∧ (5 : Int) = (0 : Int) ∧ yL y = List.drop x1_1 (yL x_1) ∧ True)) (decide (stF (List.drop (yx x_1) (yL x_1)) = (0 : Int)))) !stO (List.drop (yx x_1) (yL x_1)); let x2_1 := (0 : Int) ≤ (↑(ya x) : Int) ∧ (0 : Int) ≤ (↑(List.take 900 b).length : Int) ∧ (↑(ya x) : Int).toNat ≤ (↑(List.take 900 b).length : Int).toNat ∧ (↑(List.take 900 b).length : Int).toNat ≤ (List.take 900 b).length ∧ yx x + (List.length (yL x) - yx x) = List.length (yL x) ∧ List.length (yL x) + (List.drop (↑(ya x) : Int).toNat x8).length < 1099511627776 ∧ (∃ (x_1 : Nat × Nat × Nat × Nat × By), spJ (List.take 900 b) nC (yi x) x_1 ∧ x5 ∧ c1 = c1 ∧ nC = nC ∧ x4 ∧ x5 ∧ x6 ∧ x1 ∧ x2 = x2 ∧ stF x2 = stF x2 ∧ 0 = 0 ∧ (↑(ya x_1) : Int) = (↑(List.take 900 b).length : Int) ∧ (↑(yn x_1) : Int) = (↑(yn x) : Int) ∧ (0 : Int) = (0 : Int) ∧ (↑(yi x_1) : Int) = (↑(yi x) : Int) ∧ yx x_1 = 0 ∧ 0 = 0 ∧ yx x_1 = 0 ∧ List.length (yL x_1) - yx x_1 = List.length (yL x) - yx x + (List.drop (↑(ya x) : Int).toNat x8).length ∧ (0 : Int) = (0 : Int) ∧ yL x_1 = List.drop (yx x) (yL x) ++ List.drop (↑(ya x) : Int).toNat x8 ∧ True) ∧ x1_1; let x3 := Min.min (IntKind.i64.wrap ((↑(ya x) : Int) + IntKind.i64.wrap (↑(BitVec.ofInt 64 (A (↑(yi x) : Int).toNat) % BitVec.ofNat 64 60).toNat : Int))) (↑(List.take 900 b).length : Int); let x4_1 := @Bool.rec (fun _ => Prop) (Bool.true = Bool.false ∧ True) (@Bool.rec (fun _ => Prop) (Bool.true = Bool.false ∧ True) (yx x + (List.length (yL x) - yx x) = List.length (yL x) ∧ List.length (yL x) < 1099511627776 ∧ (List.drop (yx x) (yL x)).length = (List.drop (yx x) (yL x)).length ∧ @Bool.rec (fun _ => Prop) (Bool.true = Bool.false ∧ True) (Bool.true = decide x5 ∧ True) (decide (List.drop (yx x) (yL x) = x2))) (decide ((↑(yn x) : Int) = (↑(spN (List.take 900 b)) : Int)))) (decide (stF x2 = (0 : Int))); spI (List.take 900 b) nC (0 : Int) x → @Bool.rec (fun _ => Prop) x4_1 (@Bool.rec (fun _ => Prop) x4_1 (@Bool.rec (fun _ => Prop) x2_1 (@Bool.rec (fun _ => Prop) x2_1 ((0 : Int) ≤ (↑(yi x) : Int) ∧ (↑(yi x) : Int).toNat < nC ∧ (0 : Int) ≤ (↑(ya x) : Int) ∧ (0 : Int) ≤ x3 ∧ (↑(ya x) : Int).toNat ≤ x3.toNat ∧ x3.toNat ≤ (List.take 900 b).length ∧ yx x + (List.length (yL x) - yx x) = List.length (yL x) ∧ List.length (yL x) + (List.drop (↑(ya x) : Int).toNat (List.take x3.toNat (List.take 900 b))).length < 1099511627776 ∧ (∃ (x_1 : Nat × Nat × Nat × Nat × By), spJ (List.take 900 b) nC (yi x) x_1 ∧ x5 ∧ c1 = c1 ∧ nC = nC ∧ x4 ∧ x5 ∧ x6 ∧ x1 ∧ x2 = x2 ∧ stF x2 = stF x2 ∧ 0 = 0 ∧ (↑(ya x_1) : Int) = x3 ∧ (↑(yn x_1) : Int) = (↑(yn x) : Int) ∧ (0 : Int) = (0 : Int) ∧ (↑(yi x_1) : Int) = (↑(yi x) : Int) ∧ yx x_1 = 0 ∧ 0 = 0 ∧ yx x_1 = 0 ∧ List.length (yL x_1) - yx x_1 = List.length (yL x) - yx x + (List.drop (↑(ya x) : Int).toNat (List.take x3.toNat (List.take 900 b))).length ∧ (0 : Int) = (0 : Int) ∧ yL x_1 = List.drop (yx x) (yL x) ++ List.drop (↑(ya x) : Int).toNat (List.take x3.toNat (List.take 900 b)) ∧ True) ∧ x1_1) (decide ((↑(yi x) : Int) < (39 : Int)))) (decide ((↑(yi x) : Int) < (↑nC : Int)))) (decide ((↑(yi x) : Int) < (40 : Int)))) (decide ((↑(yi x) : Int) ≤ (↑nC : Int)))) ∧ (∀ (x : Nat × Nat × Nat × Nat × By), let x1 := yx x + (List.length (yL x) - yx x) = List.length (yL x) ∧ yx x ≤ List.length (yL x) ∧ List.length (yL x) < 1099511627776 ∧ stF (List.drop (yx x) (yL x)) = (3 : Int) ∧ (3 : Int) ≠ (0 : Int) ∧ @Bool.rec (fun _ => Prop) (Bool.true = Bool.false ∧ True) (@Bool.rec (fun _ => Prop) (Bool.true = Bool.false ∧ True) x10 (decide ((↑(yn x) : Int) = (↑(spN (List.take 900 b)) : Int)))) (decide ((3 : Int) = stF x2)); spI (List.take 900 b) nC (3 : Int) x → @Bool.rec (fun _ => Prop) x1 (@Bool.rec (fun _ => Prop) x1 x1 (decide ((↑(yi x) : Int) < (40 : Int)))) (decide ((↑(yi x) : Int) ≤ (↑nC : Int)))) ∧ ∀ (x : Nat × Nat × Nat × Nat × By), let x1 := yx x + (List.length (yL x) - yx x) = List.length (yL x) ∧ yx x ≤ List.length (yL x) ∧ List.length (yL x) < 1099511627776 ∧ stF (List.drop (yx x) (yL x)) = (5 : Int) ∧ (5 : Int) ≠ (0 : Int) ∧ @Bool.rec (fun _ => Prop) (Bool.true = Bool.false ∧ True) (@Bool.rec (fun _ => Prop) (Bool.true = Bool.false ∧ True) x9 (decide ((↑(yn x) : Int) = (↑(spN (List.take 900 b)) : Int)))) (decide ((5 : Int) = stF x2)); spI (List.take 900 b) nC (5 : Int) x → @Bool.rec (fun _ => Prop) x1 (@Bool.rec (fun _ => Prop) x1 x1 (decide ((↑(yi x) : Int) < (40 : Int)))) (decide ((↑(yi x) : Int) ≤ (↑nC : Int))) : Prop) := by kernel_rfl
end Go.Sym

set_option linter.unusedSimpArgs false
namespace Go.Spec
open Go.Sym
theorem sp_len {B : By} {y : SpY} (h : spC0 B y) (hB : B.length ≤ 900) : (yM y).length + (B.length - ya y) ≤ B.length := by
  have := congrArg List.length h.M
  rw [List.length_append, List.length_drop, List.length_drop] at this
  omega
/-- A record is taken. -/
theorem sp_take {B : By} {z : SpY} (h : spC0 B z) (hO : stO (yM z) = true) :
    yn z < spN B ∧ stK (yM z) = stK (B.drop (spO B (yn z))) ∧ stB (yM z) = stB (B.drop (spO B (yn z))) ∧ stF (yM z) = 0 ∧ spC0 B (yi z, ya z, yn z + 1, yx z + stX (yM z), yL z) := by
  obtain ⟨a1, a2, a3, a4⟩ := stO_app (R := B.drop (ya z)) hO
  rw [h.M] at a1 a2 a3 a4
  obtain ⟨o1, o2, o3⟩ := stO_len hO
  have hMl : (yM z).length = (yL z).length - yx z := by unfold yM; rw [List.length_drop]
  have hx := h.x
  refine ⟨spN_lt h.n a1, a2.symm, a3.symm, o3, ⟨h.a, ?_, h.L, spA_succ h.n a1, ?_⟩⟩
  · show yx z + stX (yM z) ≤ (yL z).length
    omega
  · show (yL z).drop (yx z + stX (yM z)) ++ B.drop (ya z) = B.drop (spO B (yn z) + stX (B.drop (spO B (yn z))))
    rw [a4, ← List.drop_drop, ← List.drop_drop, ← h.M]
    show (yM z).drop (stX (yM z)) ++ _ = _
    rw [List.drop_append_of_le_length (by omega)]
/-- A piece comes. -/
theorem sp_piece {B : By} {x : SpY} (h : spC0 B x) (hB : B.length ≤ 900) (to : Nat) (h1 : ya x ≤ to) (h2 : to ≤ B.length) :
    spC0 B (yi x, to, yn x, 0, (yL x).drop (yx x) ++ (B.take to).drop (ya x)) := by
  have hl := sp_len h hB
  refine ⟨h2, Nat.zero_le _, ?_, h.n, ?_⟩
  · show ((yL x).drop (yx x) ++ (B.take to).drop (ya x)).length ≤ 900
    have : (yM x).length = (yL x).length - yx x := by unfold yM; rw [List.length_drop]
    rw [List.length_append, List.length_drop, List.length_drop, List.length_take]
    omega
  · show ((yL x).drop (yx x) ++ (B.take to).drop (ya x)) ++ B.drop to = B.drop (spO B (yn x))
    rw [← h.M, List.append_assoc]
    show _ = (yL x).drop (yx x) ++ B.drop (ya x)
    congr 1
    have : B.drop (ya x) = ((B.take to) ++ B.drop to).drop (ya x) := by rw [List.take_append_drop]
    rw [this, List.drop_append_of_le_length (by rw [List.length_take]; omega)]
/-- No record is there any more, and nothing is wrong. -/
theorem sp_rest {B : By} {nC i0 : Nat} {z : SpY} (h : spJ B nC i0 z) (hB : B.length ≤ 900) (hO : stO (yM z) = false) (hF : stF (yM z) = 0) : spI B nC 0 (yi z + 1, ya z, yn z, 0, (yL z).drop (yx z)) := by
  have i1 := h.i1
  have i2 := h.i2
  have hz := h.z
  have hl := sp_len h.tospC0 hB
  refine ⟨⟨h.a, Nat.zero_le _, ?_, h.n, ?_⟩, ?_, ?_, ?_, ?_, ?_⟩
  · show (yM z).length ≤ 900
    omega
  · show ((yL z).drop (yx z)).drop 0 ++ B.drop (ya z) = _
    rw [List.drop_zero]; exact h.M
  · show yi z + 1 ≤ nC + 1; omega
  · show yi z + 1 ≤ 40; omega
  · show yi z + 1 = nC + 1 ∨ yi z + 1 = 40 → _
    intro hh; exact hz (by omega)
  · show stO (((yL z).drop (yx z)).drop 0) = false
    rw [List.drop_zero]; exact hO
  · show stF (((yL z).drop (yx z)).drop 0) = 0
    rw [List.drop_zero]; exact hF
/-- Something is wrong. -/
theorem sp_bad {B : By} {nC i0 : Nat} {z : SpY} (h : spJ B nC i0 z) (hO : stO (yM z) = false) : spI B nC (stF (yM z)) (yi z + 1, ya z, yn z, yx z, yL z) := by
  have i1 := h.i1
  have i2 := h.i2
  have hz := h.z
  refine ⟨⟨h.a, h.x, h.L, h.n, h.M⟩, ?_, ?_, ?_, hO, rfl⟩
  · show yi z + 1 ≤ nC + 1; omega
  · show yi z + 1 ≤ 40; omega
  · show yi z + 1 = nC + 1 ∨ yi z + 1 = 40 → _
    intro hh; exact hz (by omega)
theorem stF_vals (M : By) : stF M = 0 ∨ stF M = 3 ∨ stF M = 5 := by
  by_cases h1 : (0 < M.length ∧ ¬ (20 ≤ (M.getD 0 0).toNat ∧ (M.getD 0 0).toNat ≤ 23)) ∨ (1 < M.length ∧ M.getD 1 0 ≠ 3)
  · exact .inr (.inl (by unfold stF; rw [if_pos h1]))
  · by_cases h2 : 5 ≤ M.length ∧ (if (M.getD 0 0).toNat = 23 then 273 else 256) < stN M
    · exact .inr (.inr (by unfold stF; rw [if_neg h1, if_pos h2]))
    · exact .inl (by unfold stF; rw [if_neg h1, if_neg h2])
/-- At the end. -/
theorem sp_end {B : By} {nC : Nat} {x : SpY} (h : spI B nC 0 x) (hi : ¬ (yi x ≤ nC ∧ yi x < 40)) : yn x = spN B ∧ B.drop (spO B (spN B)) = yM x := by
  have i1 := h.i1
  have i2 := h.i2
  have ha := h.z (by omega)
  have hM := h.M
  rw [ha, List.drop_length, List.append_nil] at hM
  have hO := h.O
  rw [hM] at hO
  have := spN_uniq h.n hO
  exact ⟨this, by rw [← this, hM]⟩
theorem sp_ende {B : By} {nC : Nat} {e : Int} {x : SpY} (h : spI B nC e x) (he : e ≠ 0) : yn x = spN B ∧ stF (B.drop (spO B (spN B))) = e := by
  have hF := h.F
  have hF2 := stF_app (M := yM x) (R := B.drop (ya x)) (by rw [hF]; exact he)
  rw [h.M, hF] at hF2
  have := spN_uniq h.n (stO_bad (by rw [hF2]; exact he))
  exact ⟨this, by rw [← this, hF2]⟩
theorem sp_start (B : By) (nC : Nat) : spI B nC 0 (0, 0, 0, 0, []) := by
  refine ⟨⟨Nat.zero_le _, Nat.le_refl _, Nat.zero_le _, fun k hk => absurd hk (Nat.not_lt_zero _), rfl⟩, Nat.zero_le _, Nat.zero_le _, ?_, rfl, rfl⟩
  show 0 = nC + 1 ∨ 0 = 40 → _
  intro h; omega
end Go.Spec

set_option linter.unusedSimpArgs false
namespace Go.Sym
open Go.Proofs Go.Spec
set_option linter.unusedVariables false
theorem bt13 (b : By) (c0 c1 : Bool) (nC : Nat) (A : Nat → Int) : Must (bodyP Try.prog T9 gl0 [] (lsPp (b.take 900) nC A c1) 3000 Try.f13 0 [.rb true b (.is c0), .ros true 1 nC (fun j => [.int .i64 (A j)]) (.is c1)] [] (retQ Try.prog Try.f13 0 ⟨[], .bool true, [], []⟩)) := by
  constructor
  rw [vt13]
  have h3 : List.take (Min.min (↑(List.length b) : Int) (900 : Int)).toNat b = b.take 900 := by
    rcases Nat.le_total b.length 900 with h | h
    · rw [show (Min.min (↑(List.length b) : Int) (900 : Int)).toNat = b.length by omega, List.take_length, List.take_of_length_le h]
    · rw [show (Min.min (↑(List.length b) : Int) (900 : Int)).toNat = 900 by omega]
  have hB : (b.take 900).length ≤ 900 := by rw [List.length_take]; omega
  rw [h3]
  generalize b.take 900 = B at *
  intro x1 x2 x3 x4 x5 x6 x7 x8 x9 x10
  have hx3 : x3 = B := rfl
  have hx1 : x1 := by intro y z h; exact ⟨rfl, rfl, rfl, trivial⟩
  have hx2 : x2 = B.drop (spO B (spN B)) := rfl
  have hx4 : x4 := fun y h => ⟨rfl, rfl, trivial⟩
  have hx5 : x5 := rfl
  have hx6 : x6 := rfl
  have hx7 : x7 := fun y h => ⟨rfl, rfl, rfl, trivial⟩
  have hx8 : x8 = B := by
    show List.take (↑B.length : Int).toNat B = B
    rw [Int.toNat_natCast, List.take_length]
  have hx9 : x9 := ⟨rfl, by omega, (decide_eq_true hx5).symm, trivial⟩
  have hx10 : x10 := ⟨rfl, by omega, (decide_eq_true hx5).symm, trivial⟩
  clear_value x7 x1 x2 x3 x4 x6 x8 x9 x10
  subst hx3 hx8
  refine ⟨by omega, by omega, rfl, by unfold roomFor; omega, Nat.zero_add _, by omega, by omega, fun y hy => ⟨rfl, Nat.le_refl 2⟩, by omega, .inl ⟨(0, 0, 0, 0, []), trivial, sp_start x8 nC, ?_⟩, ?_, ?_, ?_⟩
  · rw [hx2]
    and_intros
    all_goals first | rfl | trivial | exact hx4 | exact hx7 | skip
  · intro x y1 y2 y3 y4 hI
    have hy1 : y1 := by
      intro z w hJ
      have hw : w = yx z + stX (yM z) := rfl
      have hx := hJ.x
      have hL := hJ.L
      have ii := hJ.ii
      have i2 := hJ.i2
      refine ⟨by omega, by omega, ?_⟩
      show @Bool.rec (fun _ => Prop) _ _ (!stO (yM z))
      by_cases hO : stO (yM z) = true
      · obtain ⟨t1, t2, t3, t4, t5⟩ := sp_take hJ.tospC0 hO
        have hMl : (yM z).length = (yL z).length - yx z := by unfold yM; rw [List.length_drop]
        obtain ⟨o1, o2, _⟩ := stO_len hO
        rw [hO]
        show @Bool.rec (fun _ => Prop) _ _ (!decide ((↑(spN x8) : Int) ≤ (↑(yn z) : Int)))
        rw [nd' (show ¬ (↑(spN x8) : Int) ≤ (↑(yn z) : Int) by omega)]
        refine ⟨by omega, by omega, ?_⟩
        rw [Int.toNat_natCast]
        have t2' : stK (List.drop (yx z) (yL z)) = stK (List.drop (spO x8 (yn z)) x8) := t2
        have t3' : stB (List.drop (yx z) (yL z)) = stB (List.drop (spO x8 (yn z)) x8) := t3
        have t4' : stF (List.drop (yx z) (yL z)) = 0 := t4
        rw [decide_eq_true t2', nd t3']
        refine ⟨rfl, by omega, t1, (yi z, ya z, yn z + 1, yx z + stX (yM z), yL z), ?_⟩
        rw [t4']
        have hn := spA_le hJ.n
        have e1 : IntKind.i64.wrap ((↑(yn z) : Int) + 1) = ((yn z + 1 : Nat) : Int) := wrap_nat _ (by omega) (by omega)
        rw [e1]
        refine ⟨by show x8.length + 1 - (yn z + 1) < x8.length + 1 - yn z; omega, ⟨t5, ii, hJ.i1, hJ.i2, hJ.z⟩, ?_⟩
        and_intros
        all_goals first | rfl | trivial | exact hx4 | exact hx1 | exact hx5 | exact hx6 | (show (yL z).length - (yx z + stX (yM z)) = (yL z).length - w; omega) | skip
      · have hO : stO (yM z) = false := by simpa using hO
        have hX : stX (yM z) = 0 := stX_no hO
        have hw0 : w = yx z := by omega
        have e1 : IntKind.i64.wrap ((↑(yi z) : Int) + 1) = ((yi z + 1 : Nat) : Int) := wrap_nat _ (by omega) (by omega)
        rw [hO, e1]
        clear_value w
        subst hw0
        show @Bool.rec (fun _ => Prop) _ _ (decide (stF (yM z) = 0))
        rcases stF_vals (yM z) with hF | hF | hF
        · have hs := sp_rest hJ hB hO hF
          rw [decide_eq_true hF]
          refine ⟨by omega, by omega, rfl, by rw [List.length_drop]; omega, .inl ⟨(yi z + 1, ya z, yn z, 0, (yL z).drop (yx z)), ?_, hs, ?_⟩⟩
          · show 41 - (yi z + 1) < 41 - yi x
            omega
          · have hF' : stF (List.drop (yx z) (yL z)) = 0 := hF
            and_intros
            all_goals first | rfl | trivial | exact hx4 | exact hx1 | exact hx5 | exact hx6 | exact hF'.symm | skip
        · have hs := sp_bad hJ hO
          rw [hF] at hs
          have hF' : stF (List.drop (yx z) (yL z)) = 3 := hF
          rw [decide_eq_false (by omega), hF']
          refine .inr (.inl ⟨(yi z + 1, ya z, yn z, yx z, yL z), ?_, hs, ?_⟩)
          · show 41 - (yi z + 1) < 41 - yi x
            omega
          · and_intros
            all_goals first | rfl | trivial | exact hx4 | exact hx1 | exact hx5 | exact hx6 | skip
        · have hs := sp_bad hJ hO
          rw [hF] at hs
          have hF' : stF (List.drop (yx z) (yL z)) = 5 := hF
          rw [decide_eq_false (by omega), hF']
          refine .inr (.inr ⟨(yi z + 1, ya z, yn z, yx z, yL z), ?_, hs, ?_⟩)
          · show 41 - (yi z + 1) < 41 - yi x
            omega
          · and_intros
            all_goals first | rfl | trivial | exact hx4 | exact hx1 | exact hx5 | exact hx6 | skip
    clear_value y1
    have hxx := hI.x
    have hLx := hI.L
    have hax := hI.a
    have hlx := sp_len hI.tospC0 hB
    have hMx : (yM x).length = (yL x).length - yx x := by unfold yM; rw [List.length_drop]
    have hi2 := hI.i2
    have hy2 : yi x ≤ nC → yi x < 40 → (yi x = nC ∨ yi x = 39) → y2 := by
      intro h1 h2 h3
      have hp := sp_piece hI.tospC0 hB x8.length hax (Nat.le_refl _)
      unfold y2
      rw [Int.toNat_natCast, List.length_drop]
      refine ⟨by omega, by omega, by omega, by omega, by omega, by omega, ⟨(yi x, x8.length, yn x, 0, (yL x).drop (yx x) ++ (x8.take x8.length).drop (ya x)), ⟨hp, rfl, h1, h2, fun _ => rfl⟩, ?_⟩, hy1⟩
      rw [List.take_length]
      and_intros
      all_goals first | rfl | trivial | exact hx4 | exact hx1 | exact hx5 | exact hx6 | skip
      show ((yL x).drop (yx x) ++ x8.drop (ya x)).length - 0 = _
      rw [List.length_append, List.length_drop, List.length_drop, Nat.sub_zero]
    have hy4 : ¬ (yi x ≤ nC ∧ yi x < 40) → y4 := by
      intro h
      obtain ⟨s1, s2⟩ := sp_end hI h
      have s3 : x2 = yM x := by rw [hx2]; exact s2
      unfold y4
      rw [s3, decide_eq_true hI.F, decide_eq_true (show (↑(yn x) : Int) = (↑(spN x8) : Int) by omega)]
      refine ⟨by omega, by omega, rfl, ?_⟩
      rw [decide_eq_true (show List.drop (yx x) (yL x) = yM x from rfl)]
      exact ⟨(decide_eq_true hx5).symm, trivial⟩
    clear_value y2 y4
    refine brec (fun d1 => ?_) (fun d1 => hy4 (fun h => by have := ndle.1 d1; omega))
    have d1 : yi x ≤ nC := by simpa using d1
    refine brec (fun d2 => ?_) (fun d2 => hy4 (fun h => by have := ndlt.1 d2; omega))
    have d2 := dlt.1 d2
    refine brec (fun d3 => ?_) (fun d3 => hy2 d1 (by omega) (.inl (by have := ndlt.1 d3; omega)))
    have d3 := dlt.1 d3
    refine brec (fun d4 => ?_) (fun d4 => hy2 d1 (by omega) (.inr (by have := ndlt.1 d4; omega)))
    have d4 := dlt.1 d4
    have hk : (BitVec.ofInt 64 (A (↑(yi x) : Int).toNat) % BitVec.ofNat 64 60).toNat < 60 := by rw [BitVec.toNat_umod]; exact Nat.mod_lt _ (by decide)
    have e1 : IntKind.i64.wrap (↑(BitVec.ofInt 64 (A (↑(yi x) : Int).toNat) % BitVec.ofNat 64 60).toNat : Int) = (↑(BitVec.ofInt 64 (A (↑(yi x) : Int).toNat) % BitVec.ofNat 64 60).toNat : Int) := wrap_i64 (by omega) (by omega)
    have e2 : IntKind.i64.wrap ((↑(ya x) : Int) + IntKind.i64.wrap (↑(BitVec.ofInt 64 (A (↑(yi x) : Int).toNat) % BitVec.ofNat 64 60).toNat : Int)) = ((ya x + (BitVec.ofInt 64 (A (↑(yi x) : Int).toNat) % BitVec.ofNat 64 60).toNat : Nat) : Int) := by
      rw [e1]; exact wrap_nat _ (by omega) (by omega)
    have hy3 : ∃ to : Nat, y3 = (to : Int) ∧ ya x ≤ to ∧ to ≤ x8.length := by
      refine ⟨min (ya x + (BitVec.ofInt 64 (A (↑(yi x) : Int).toNat) % BitVec.ofNat 64 60).toNat) x8.length, ?_, by omega, by omega⟩
      show Min.min (IntKind.i64.wrap ((↑(ya x) : Int) + IntKind.i64.wrap (↑(BitVec.ofInt 64 (A (↑(yi x) : Int).toNat) % BitVec.ofNat 64 60).toNat : Int))) (↑x8.length : Int) = _
      rw [e2]
      omega
    clear_value y3
    obtain ⟨to, rfl, k1, k2⟩ := hy3
    have hp := sp_piece hI.tospC0 hB to k1 k2
    rw [Int.toNat_natCast, Int.toNat_natCast, Int.toNat_natCast]
    have hpl : (List.drop (ya x) (List.take to x8)).length = to - ya x := by rw [List.length_drop, List.length_take]; omega
    rw [hpl]
    refine ⟨by omega, by omega, by omega, by omega, by omega, by omega, by omega, by omega, ⟨(yi x, to, yn x, 0, (yL x).drop (yx x) ++ (x8.take to).drop (ya x)), ⟨hp, rfl, d1, (show yi x < 40 by omega), fun h => absurd (show yi x = nC ∨ yi x = 39 from h) (by omega)⟩, ?_⟩, hy1⟩
    and_intros
    all_goals first | rfl | trivial | exact hx4 | exact hx1 | exact hx5 | exact hx6 | skip
    show ((yL x).drop (yx x) ++ (x8.take to).drop (ya x)).length - 0 = _
    rw [List.length_append, hpl, List.length_drop, Nat.sub_zero]
  · intro x y1 hI
    have hy1 : y1 := by
      obtain ⟨s1, s2⟩ := sp_ende hI (by omega)
      have hxx := hI.x
      have hLx := hI.L
      unfold y1
      rw [hx2, s2, decide_eq_true rfl, decide_eq_true (show (↑(yn x) : Int) = (↑(spN x8) : Int) by omega)]
      exact ⟨by omega, hxx, by omega, hI.F, by omega, hx10⟩
    clear_value y1
    exact brec (fun _ => brec (fun _ => hy1) (fun _ => hy1)) (fun _ => hy1)
  · intro x y1 hI
    have hy1 : y1 := by
      obtain ⟨s1, s2⟩ := sp_ende hI (by omega)
      have hxx := hI.x
      have hLx := hI.L
      unfold y1
      rw [hx2, s2, decide_eq_true rfl, decide_eq_true (show (↑(yn x) : Int) = (↑(spN x8) : Int) by omega)]
      exact ⟨by omega, hxx, by omega, hI.F, by omega, hx9⟩
    clear_value y1
    exact brec (fun _ => brec (fun _ => hy1) (fun _ => hy1)) (fun _ => hy1)
end Go.Sym

/- StreamPieces: in whatever pieces bytes come, the records are taken, and the same is left; the error is told; of none nothing is told. No conditions. -/
namespace Go.Sym
open Go.Proofs Go.Spec
theorem w13 (W : World) (v0 : Value) (l0 : List (BitVec 8)) (c0 : Bool) (h0 : VRel (κW W) (.rb true l0 (.is c0)) v0) (_k0 : l0.length ≤ maxLen) (v1 : Value) (A : Nat → Int) (n1 : Nat) (c1 : Bool) (h1 : VRel (κW W) (.ros true 1 n1 (fun j => [.int .i64 (A j)]) (.is c1)) v1) (_k1 : n1 ≤ maxLen) :
    Calls Try.prog 13 #[v0, v1] W fun e w' => e = .returned (.bool true) ∧ RowKit.Below W.heap.size W w' := by
  have hv : VRels (κW W) [.rb true l0 (.is c0), .ros true 1 n1 (fun j => [.int .i64 (A j)]) (.is c1)] [v0, v1] := by
    simp only [VRels]
    exact ⟨_, _, rfl, h0, _, _, rfl, h1, rfl⟩
  refine law_walk (gl := gl0) (Γ := T9) (fn := Try.f13) (av := [.rb true l0 (.is c0), .ros true 1 n1 (fun j => [.int .i64 (A j)]) (.is c1)]) (ls := (lsPp (l0.take 900) n1 A c1)) [] 3000 (by kernel_rfl) (by kernel_rfl) okT9 (by kernel_rfl) (GW.nil W) (by kernel_rfl) hv ?_
  exact bt13 l0 c0 c1 n1 A
end Go.Sym
namespace Go.Proofs.Ytgniepaehjdjaaa.streamPieces
open Go.ChangeShapes Go.WideShapes Go.ChangeAt Go.RowKit
set_option linter.unusedVariables false

theorem own : ownKnob Try.prog.godebug = none := by kernel_rfl
theorem laid : laidOutB Try.prog = true := by kernel_rfl

set_option maxRecDepth 100000 in
theorem lifted (os : Os) (started : os.Started) (H : Type) (enc : TypeId × Value → H) :
    ReturnsInHanded {} Try.checked os 13 .any (Rows.streamPiecesSpec.pre6 enc Try.prog Try.f13 Rows.streamPiecesRow.domain false) (Rows.streamPiecesSpec.post enc Try.prog Try.f13 false true false false) := by
  refine returnsInHanded_of_change (C := Try.checked) own started (by kernel_rfl) Try.func13
    (ChangeSpec.witness6 (enc := enc) (C := Try.checked) false ⟨#[], #[.slice none 0 0, .slice none 0 0], []⟩ 8 (by kernel_rfl) (by kernel_rfl) (by kernel_rfl) (by kernel_rfl)) ?_
  intro W base args ds gs before hval0 hW hcnd _
  have hval : ∀ (j : Nat) t v, Try.f13.params[j]? = some t → args[j]? = some v → Value.okWide Try.prog W .any base t v := hval0
  have hW' := hW
  obtain ⟨p, q, hA0, hV, rfl, hfz, hnd⟩ := hW
  have hA : DataW.TrodAll enc Try.prog W 0 (fun _ => true) true Try.f13.params.toList args.toList ds p := hA0
  rw [Try.params13] at hA hval
  obtain ⟨v0, vs0, d0, ds0, p0, q0, hargs, rfl, rfl, h0, r0⟩ := trodAll_cons hA
  obtain ⟨v1, vs1, d1, ds1, p1, q1, rfl, rfl, rfl, h1, r1⟩ := trodAll_cons r0
  obtain ⟨rfl, rfl, rfl⟩ := trodAll_nil r1
  obtain rfl : args = #[v0, v1] := by cases args; simp_all
  obtain ⟨rfl, rfl⟩ := trodVars_none hV
  clear hA0 hval0
  have hlt0 : ∀ x ∈ p0, x.block < W.heap.size := fun x hx => hW'.lt x (by simp [hx])
  obtain ⟨fuel0, hf0⟩ := h0
  obtain ⟨u0, l0, c0, hc0, hcl0, hll0, hu0⟩ := Go.Sym.rd_bytes Try.underlying22 Try.underlying5 (by kernel_rfl) hf0
  have hv0 : v0 = u0 := Go.Sym.cells_slice Try.underlying22 (hval 0 22 v0 rfl rfl) hc0
  subst hv0
  have hlt1 : ∀ x ∈ p1, x.block < W.heap.size := fun x hx => hW'.lt x (by simp [hx])
  obtain ⟨fuel1, hf1⟩ := h1
  obtain ⟨u1, n1, g1, c1, hc1, hcl1, hll1, hg1, hu1⟩ := Go.Sym.rd_rowsF (sz := 1) (l := [.i .i64]) (av0 := [.int .i64 0]) Try.underlying110 (by kernel_rfl) (by decide) (by kernel_rfl) ⟨⟨0, rfl, by kernel_rfl⟩, trivial⟩ hf1
  have hv1 : v1 = u1 := Go.Sym.cells_slice Try.underlying110 (hval 1 110 v1 rfl rfl) hc1
  subst hv1
  obtain ⟨A, rfl⟩ := Go.Sym.sh_one hg1
  refine (Go.Sym.w13 W v0 l0 c0 hu0 hll0 v1 A n1 c1 hu1 hll1).mono fun e W' ⟨he, bel⟩ => ?_
  subst he
  exact ⟨_, rfl, _, _, _, [], _, [], hW', trodAll_mk1 (shut_bool Try.underlying4 _), (trodAll_cons_mk (Below.trod laid (by kernel_rfl) (of_decide_eq_true (by kernel_rfl)) ⟨fuel0, hf0⟩ bel hlt0) (trodAll_cons_mk (Below.trod laid (by kernel_rfl) (of_decide_eq_true (by kernel_rfl)) ⟨fuel1, hf1⟩ bel hlt1) trodAll_mk0)), rfl, bel.frame _, fun h => by cases h⟩

theorem over : Rows.streamPiecesRow.holds Try.pinned (OpenSpec.ofChange Rows.streamPiecesSpec) :=
  OpenClaim.holds_of_wide 13 Try.f13 rfl rfl rfl rfl rfl rfl rfl ⟨rfl, rfl, rfl, rfl, rfl⟩ rfl rfl rfl rfl rfl (by kernel_rfl) Try.func13 (by kernel_rfl)
    (of_decide_eq_true (by kernel_rfl)) (by unfold Func.isWrapper; first | (rw [if_pos (by decide +kernel)]; kernel_rfl) | (rw [if_neg (by decide +kernel)]; exact ⟨rfl, rfl⟩))
    (fun os started H enc _ => lifted os started H enc)

theorem proved : Rows.StreamPiecesSaid :=
  over
#print axioms proved
end Go.Proofs.Ytgniepaehjdjaaa.streamPieces
