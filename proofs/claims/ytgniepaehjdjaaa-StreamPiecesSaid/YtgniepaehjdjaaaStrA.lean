/- Records out of bytes that come in pieces: the calls of the program. -/
import Derived.Test.YtgniepaehjdjaaaCurA
set_option linter.unusedSimpArgs false
namespace Go.Sym
open Go.Proofs Go.Spec
set_option linter.unusedVariables false
noncomputable def T1 : Ctx := Qz4.exe Try.prog gl0 [] 300 Try.f98.params.size 98 Try.f98
noncomputable def T2 : Ctx := T1.exe Try.prog gl0 [] 300 Try.f99.params.size 99 Try.f99
noncomputable def T3 : Ctx := T2.exe Try.prog gl0 [] 300 Try.f91.params.size 91 Try.f91
theorem okT3 : COKs Try.prog gl0 T3 := ((okQz4.exe [] 300 _ (by kernel_rfl) (by kernel_rfl) (by kernel_rfl) (fun args w => by kernel_rfl)).exe [] 300 _ (by kernel_rfl) (by kernel_rfl) (by kernel_rfl) (fun args w => by kernel_rfl)).exe [] 300 _ (by kernel_rfl) (by kernel_rfl) (by kernel_rfl) (fun args w => by kernel_rfl)
end Go.Sym

set_option linter.unusedSimpArgs false
namespace Go.Spec
open Go.Sym
/-- How many bytes a body has, by its head. -/
def stN (M : By) : Nat := (M.getD 3 0).toNat * 256 + (M.getD 4 0).toNat
/-- Why bytes aren't what a record begins with. -/
def stF (M : By) : Int :=
  if (0 < M.length ∧ ¬ (20 ≤ (M.getD 0 0).toNat ∧ (M.getD 0 0).toNat ≤ 23)) ∨ (1 < M.length ∧ M.getD 1 0 ≠ 3) then 3
  else if 5 ≤ M.length ∧ (if (M.getD 0 0).toNat = 23 then 273 else 256) < stN M then 5 else 0
end Go.Spec
namespace Go.Sym
open Go.Proofs Go.Spec
set_option linter.unusedVariables false
def gt90 (xs : List AV) (bs : List ABlk) : TL := match xs, bs with
  | [.rb false M .unk], [] => .ok ⟨[], .int .i64 (stF M), [], []⟩
  | _, _ => .no
def spt90 : Spec := ⟨[.by0], fun _ _ => [], fun _ _ => [], gt90⟩
def gt91 (xs : List AV) (bs : List ABlk) : TL := match xs, bs with
  | [.rb false M .unk], [] => .ok ⟨[5 ≤ M.length], .int .i64 (stN M), [], []⟩
  | _, _ => .no
def spt91 : Spec := ⟨[.by0], fun _ _ => [], fun _ _ => [], gt91⟩
noncomputable def T4 : Ctx := (T3.add 90 (mkF spt90)).add 91 (mkF spt91)
end Go.Sym

namespace Go.Sym
open Go.Proofs Go.Spec
set_option linter.unusedVariables false
set_option maxRecDepth 100000 in
theorem vt90 (b : By) (e : Int) : bodyP Try.prog T3 gl0 [] [] 3000 Try.f90 0 [.rb false b .unk] [] (retQ Try.prog Try.f90 0 ⟨[], .int .i64 e, [], []⟩) = (
let x1 := @Bool.rec (fun _ => Prop) (e = (0 : Int) ∧ True) (3 < List.length b ∧ 4 < List.length b ∧ 0 < List.length b ∧ @Bool.rec (fun _ => Prop) (@Bool.rec (fun _ => Prop) (e = (0 : Int) ∧ True) (e = (5 : Int) ∧ True) (decide ((256 : Int) < IntKind.i64.wrap (↑(BitVec.ofInt 64 (IntKind.i64.wrap ((↑(List.getD b 3 (0 : BitVec 8)).toNat : Int) * Int.ofNat 256)) ||| BitVec.ofInt 64 (↑(List.getD b 4 (0 : BitVec 8)).toNat : Int)).toNat : Int)))) (@Bool.rec (fun _ => Prop) (e = (0 : Int) ∧ True) (e = (5 : Int) ∧ True) (decide ((273 : Int) < IntKind.i64.wrap (↑(BitVec.ofInt 64 (IntKind.i64.wrap ((↑(List.getD b 3 (0 : BitVec 8)).toNat : Int) * Int.ofNat 256)) ||| BitVec.ofInt 64 (↑(List.getD b 4 (0 : BitVec 8)).toNat : Int)).toNat : Int)))) (decide ((↑(List.getD b 0 (0 : BitVec 8)).toNat : Int) = (23 : Int)))) (decide ((5 : Int) ≤ (↑(List.length b) : Int))); let x2 := @Bool.rec (fun _ => Prop) x1 (1 < List.length b ∧ @Bool.rec (fun _ => Prop) x1 (e = (3 : Int) ∧ True) !decide (List.getD b 1 (0 : BitVec 8) = BitVec.ofNat 8 3)) (decide ((1 : Int) < (↑(List.length b) : Int))); @Bool.rec (fun _ => Prop) x2 (0 < List.length b ∧ @Bool.rec (fun _ => Prop) (@Bool.rec (fun _ => Prop) (@Bool.rec (fun _ => Prop) (@Bool.rec (fun _ => Prop) (e = (3 : Int) ∧ True) x2 (decide ((↑(List.getD b 0 (0 : BitVec 8)).toNat : Int) = (23 : Int)))) (@Bool.rec (fun _ => Prop) (e = (3 : Int) ∧ True) x2 (decide ((↑(List.getD b 0 (0 : BitVec 8)).toNat : Int) = (22 : Int)))) (decide ((↑(List.getD b 0 (0 : BitVec 8)).toNat : Int) = (22 : Int)))) (@Bool.rec (fun _ => Prop) (e = (3 : Int) ∧ True) x2 (decide ((↑(List.getD b 0 (0 : BitVec 8)).toNat : Int) = (21 : Int)))) (decide ((↑(List.getD b 0 (0 : BitVec 8)).toNat : Int) = (21 : Int)))) (@Bool.rec (fun _ => Prop) (e = (3 : Int) ∧ True) x2 (decide ((↑(List.getD b 0 (0 : BitVec 8)).toNat : Int) = (20 : Int)))) (decide ((↑(List.getD b 0 (0 : BitVec 8)).toNat : Int) = (20 : Int)))) (decide ((0 : Int) < (↑(List.length b) : Int))) : Prop) := by kernel_rfl
set_option maxRecDepth 100000 in
theorem vt91 (b : By) (e : Int) : bodyP Try.prog T3 gl0 [] [] 3000 Try.f91 0 [.rb false b .unk] [] (retQ Try.prog Try.f91 0 ⟨[], .int .i64 e, [], []⟩) = (
3 < List.length b ∧ 4 < List.length b ∧ e = IntKind.i64.wrap (↑(BitVec.ofInt 64 (IntKind.i64.wrap ((↑(List.getD b 3 (0 : BitVec 8)).toNat : Int) * Int.ofNat 256)) ||| BitVec.ofInt 64 (↑(List.getD b 4 (0 : BitVec 8)).toNat : Int)).toNat : Int) ∧ True : Prop) := by kernel_rfl
set_option maxRecDepth 100000 in
theorem vt64 (L B : By) (x x2 n n2 m : Nat) (e e2 v k : Int) (ok : Bool) : bodyP Try.prog T4 gl0 [] [] 3000 Try.f64 2 [.ptr 0 0 0 0] [rdC x n e, rdL L] (retQ Try.prog Try.f64 2 ⟨[], .tup [.int .i64 k, .slice 2 0 1 m .ow .unk, .bool ok, .int .i64 v], [some (some (rdC x2 n2 e2)), some (some (rdL L))], [⟨.bytes B, true, 1⟩]⟩) = (
let x1 := IntKind.i64.wrap ((5 : Int) + (↑(stN (List.take n (dropN x L))) : Int)); let x2_1 := x2 = x ∧ 0 = 0 ∧ x2 = x ∧ n2 = n ∧ e2 = stF (List.take n (dropN x L)) ∧ L = L ∧ B = [] ∧ True; x + n ≤ List.length L ∧ @Bool.rec (fun _ => Prop) (@Bool.rec (fun _ => Prop) (k = (0 : Int) ∧ m = 0 ∧ ok = Bool.false ∧ v = (0 : Int) ∧ x2_1) (x + n ≤ List.length L ∧ 5 ≤ (List.take n (dropN x L)).length ∧ @Bool.rec (fun _ => Prop) (x + n ≤ List.length L ∧ 5 ≤ (List.take n (dropN x L)).length ∧ 0 < n ∧ plus x 0 < List.length L ∧ (0 : Int) ≤ x1 ∧ 5 ≤ x1.toNat ∧ x1.toNat ≤ n ∧ plus x 5 + (x1.toNat - 5) ≤ List.length L ∧ (List.take (x1.toNat - 5) (dropN (plus x 5) L)).length < 1099511627776 ∧ (0 : Int) ≤ x1 ∧ x1.toNat ≤ n ∧ k = (↑(List.getD L (plus x 0) (0 : BitVec 8)).toNat : Int) ∧ 0 = 0 ∧ 0 = 0 ∧ 0 = 0 ∧ m = (List.take (x1.toNat - 5) (dropN (plus x 5) L)).length ∧ ok = Bool.true ∧ v = (0 : Int) ∧ x2 = plus x x1.toNat ∧ 0 = 0 ∧ x2 = plus x x1.toNat ∧ n2 = minus n x1.toNat ∧ e2 = stF (List.take n (dropN x L)) ∧ L = L ∧ B = List.take (x1.toNat - 5) (dropN (plus x 5) L) ∧ True) (k = (0 : Int) ∧ m = 0 ∧ ok = Bool.false ∧ v = (0 : Int) ∧ x2_1) (decide (IntKind.i64.wrap ((↑n : Int) - (5 : Int)) < (↑(stN (List.take n (dropN x L))) : Int)))) !decide ((↑n : Int) < (5 : Int))) (k = (0 : Int) ∧ m = 0 ∧ ok = Bool.false ∧ v = stF (List.take n (dropN x L)) ∧ x2_1) !decide (stF (List.take n (dropN x L)) = (0 : Int)) : Prop) := by kernel_rfl
set_option maxRecDepth 100000 in
theorem vt64n  : bodyP Try.prog T4 gl0 [] [] 3000 Try.f64 0 [.nilp] [] (retQ Try.prog Try.f64 0 ⟨[], .tup [.int .i64 0, .nils, .bool false, .int .i64 1], [], []⟩) = (
(0 : Int) = (0 : Int) ∧ Bool.false = Bool.false ∧ (1 : Int) = (1 : Int) ∧ True : Prop) := by kernel_rfl
set_option maxRecDepth 100000 in
theorem vt66 (L L2 b : By) (x n n2 : Nat) (v : Int) : bodyP Try.prog T3 gl0 [] [] 3000 Try.f66 2 [.ptr 0 0 0 0, .rb false b .unk] [rdC x n 0, rdL L] (retQ Try.prog Try.f66 2 ⟨[], .int .i64 v, [some (some ⟨.cells [.slice 2 0 1 n2 .ox .unk, .int .i64 0], true, 0⟩), some none], [⟨.bytes L2, true, 1⟩]⟩) = (
x ≤ List.length L ∧ n = (List.drop x L).length ∧ roomFor n (List.length b) 1 ∧ v = (0 : Int) ∧ 0 = 0 ∧ 0 = 0 ∧ 0 = 0 ∧ n2 = n + List.length b ∧ (0 : Int) = (0 : Int) ∧ L2 = List.drop x L ++ b ∧ True : Prop) := by kernel_rfl
set_option maxRecDepth 100000 in
theorem vt66e (L b : By) (x n : Nat) (e v : Int) : bodyP Try.prog T3 gl0 [] [] 3000 Try.f66 2 [.ptr 0 0 0 0, .rb false b .unk] [rdC x n e, rdL L] (retQ Try.prog Try.f66 2 ⟨[], .int .i64 8, [some (some (rdC x n e)), some (some (rdL L))], []⟩) = (
@Bool.rec (fun _ => Prop) (x ≤ List.length L ∧ n = (List.drop x L).length ∧ roomFor n (List.length b) 1 ∧ False) ((8 : Int) = (8 : Int) ∧ x = x ∧ 0 = 0 ∧ x = x ∧ n = n ∧ e = e ∧ L = L ∧ True) !decide (e = (0 : Int)) : Prop) := by kernel_rfl
set_option maxRecDepth 100000 in
theorem vt66n (b : By) : bodyP Try.prog T3 gl0 [] [] 3000 Try.f66 0 [.nilp, .rb false b .unk] [] (retQ Try.prog Try.f66 0 ⟨[], .int .i64 1, [], []⟩) = (
(1 : Int) = (1 : Int) ∧ True : Prop) := by kernel_rfl
set_option maxRecDepth 100000 in
theorem vt67 (L B : By) (x n m : Nat) (e : Int) : bodyP Try.prog T3 gl0 [] [] 3000 Try.f67 2 [.ptr 0 0 0 0] [rdC x n e, rdL L] (retQ Try.prog Try.f67 2 ⟨[], .slice 2 0 1 m .ow .unk, [some (some (rdC x n e)), some (some (rdL L))], [⟨.bytes B, true, 1⟩]⟩) = (
x + n ≤ List.length L ∧ (List.take n (dropN x L)).length < 1099511627776 ∧ 0 = 0 ∧ 0 = 0 ∧ 0 = 0 ∧ m = (List.take n (dropN x L)).length ∧ x = x ∧ 0 = 0 ∧ x = x ∧ n = n ∧ e = e ∧ L = L ∧ B = List.take n (dropN x L) ∧ True : Prop) := by kernel_rfl
set_option maxRecDepth 100000 in
theorem vt69 (b L : By) (x n : Nat) (e : Int) : bodyP Try.prog T3 gl0 [] [] 3000 Try.f69 0 [.rb false b .unk] [] (retQ Try.prog Try.f69 0 ⟨[], .ptr 0 0 0 0, [], [rdC x n e, rdL L]⟩) = (
List.length b < 1099511627776 ∧ 0 = 0 ∧ x = 0 ∧ 0 = 0 ∧ x = 0 ∧ n = List.length b ∧ e = (0 : Int) ∧ L = b ∧ True : Prop) := by kernel_rfl
end Go.Sym

set_option linter.unusedSimpArgs false
namespace Go.Sym
open Go.Proofs Go.Spec
set_option linter.unusedVariables false
theorem cnt_eq (c d : BitVec 8) : IntKind.i64.wrap (↑(BitVec.ofInt 64 (IntKind.i64.wrap ((c.toNat : Int) * Int.ofNat 256)) ||| BitVec.ofInt 64 (d.toNat : Int)).toNat : Int) = ((c.toNat * 256 + d.toNat : Nat) : Int) :=
  or64 c.toNat d (by have := c.isLt; omega)
theorem bt91 (b : By) (h : 5 ≤ b.length) : Must (bodyP Try.prog T3 gl0 [] [] 3000 Try.f91 0 [.rb false b .unk] [] (retQ Try.prog Try.f91 0 ⟨[], .int .i64 (stN b), [], []⟩)) := by
  constructor
  rw [vt91, cnt_eq]
  exact ⟨by omega, by omega, rfl, trivial⟩
theorem nd {p : Prop} [Decidable p] (h : p) : (!decide p) = false := by rw [decide_eq_true h]; rfl
theorem nd' {p : Prop} [Decidable p] (h : ¬ p) : (!decide p) = true := by rw [decide_eq_false h]; rfl
theorem bt90 (b : By) : Must (bodyP Try.prog T3 gl0 [] [] 3000 Try.f90 0 [.rb false b .unk] [] (retQ Try.prog Try.f90 0 ⟨[], .int .i64 (stF b), [], []⟩)) := by
  constructor
  rw [vt90]
  simp (config := { zeta := false }) only [cnt_eq]
  have hN : stN b = (b.getD 3 0).toNat * 256 + (b.getD 4 0).toNat := rfl
  rw [← hN]
  have key1 : ¬ (0 < b.length ∧ ¬ (20 ≤ (b.getD 0 0).toNat ∧ (b.getD 0 0).toNat ≤ 23)) → ¬ (1 < b.length ∧ b.getD 1 0 ≠ 3) →
      (@Bool.rec (fun _ => Prop) (stF b = (0 : Int) ∧ True) (3 < List.length b ∧ 4 < List.length b ∧ 0 < List.length b ∧ @Bool.rec (fun _ => Prop) (@Bool.rec (fun _ => Prop) (stF b = (0 : Int) ∧ True) (stF b = (5 : Int) ∧ True) (decide ((256 : Int) < (stN b : Int)))) (@Bool.rec (fun _ => Prop) (stF b = (0 : Int) ∧ True) (stF b = (5 : Int) ∧ True) (decide ((273 : Int) < (stN b : Int)))) (decide ((↑(List.getD b 0 (0 : BitVec 8)).toNat : Int) = (23 : Int)))) (decide ((5 : Int) ≤ (↑(List.length b) : Int)))) := by
    intro p1 p2
    have hF : stF b = if 5 ≤ b.length ∧ (if (b.getD 0 0).toNat = 23 then 273 else 256) < stN b then 5 else 0 := by
      unfold stF; rw [if_neg (fun h => h.elim p1 p2)]
    by_cases h5 : 5 ≤ b.length
    · rw [decide_eq_true (show (5 : Int) ≤ (b.length : Int) by omega)]
      refine ⟨by omega, by omega, by omega, ?_⟩
      by_cases h23 : (b.getD 0 0).toNat = 23
      · rw [decide_eq_true (show ((b.getD 0 0).toNat : Int) = 23 by omega)]
        by_cases hc : 273 < stN b
        · rw [decide_eq_true (show (273 : Int) < (stN b : Int) by omega)]
          exact ⟨by rw [hF, if_pos ⟨h5, by rw [if_pos h23]; exact hc⟩], trivial⟩
        · rw [decide_eq_false (show ¬ (273 : Int) < (stN b : Int) by omega)]
          exact ⟨by rw [hF, if_neg (fun h => hc (by have := h.2; rw [if_pos h23] at this; exact this))], trivial⟩
      · rw [decide_eq_false (show ¬ ((b.getD 0 0).toNat : Int) = 23 by omega)]
        by_cases hc : 256 < stN b
        · rw [decide_eq_true (show (256 : Int) < (stN b : Int) by omega)]
          exact ⟨by rw [hF, if_pos ⟨h5, by rw [if_neg h23]; exact hc⟩], trivial⟩
        · rw [decide_eq_false (show ¬ (256 : Int) < (stN b : Int) by omega)]
          exact ⟨by rw [hF, if_neg (fun h => hc (by have := h.2; rw [if_neg h23] at this; exact this))], trivial⟩
    · rw [decide_eq_false (show ¬ (5 : Int) ≤ (b.length : Int) by omega)]
      exact ⟨by rw [hF, if_neg (fun h => h5 h.1)], trivial⟩
  intro x1 x2
  have key2 : ¬ (0 < b.length ∧ ¬ (20 ≤ (b.getD 0 0).toNat ∧ (b.getD 0 0).toNat ≤ 23)) → x2 := by
    intro p1
    show @Bool.rec (fun _ => Prop) x1 (1 < List.length b ∧ @Bool.rec (fun _ => Prop) x1 (stF b = (3 : Int) ∧ True) !decide (List.getD b 1 (0 : BitVec 8) = BitVec.ofNat 8 3)) (decide ((1 : Int) < (↑(List.length b) : Int)))
    by_cases h1 : 1 < b.length
    · rw [decide_eq_true (show (1 : Int) < (b.length : Int) by omega)]
      refine ⟨h1, ?_⟩
      by_cases h3 : b.getD 1 0 = BitVec.ofNat 8 3
      · rw [nd h3]
        exact key1 p1 (fun h => h.2 h3)
      · rw [nd' h3]
        exact ⟨by unfold stF; rw [if_pos (.inr ⟨h1, h3⟩)], trivial⟩
    · rw [decide_eq_false (show ¬ (1 : Int) < (b.length : Int) by omega)]
      exact key1 p1 (fun h => h1 h.1)
  have bad : (0 < b.length ∧ ¬ (20 ≤ (b.getD 0 0).toNat ∧ (b.getD 0 0).toNat ≤ 23)) → stF b = 3 ∧ True := fun h => ⟨by unfold stF; rw [if_pos (.inl h)], trivial⟩
  by_cases h0 : 0 < b.length
  · rw [decide_eq_true (show (0 : Int) < (b.length : Int) by omega)]
    refine ⟨h0, ?_⟩
    by_cases c0 : (b.getD 0 0).toNat = 20
    · rw [decide_eq_true (show ((b.getD 0 0).toNat : Int) = 20 by omega)]; exact key2 (by omega)
    rw [decide_eq_false (show ¬ ((b.getD 0 0).toNat : Int) = 20 by omega)]
    by_cases c1 : (b.getD 0 0).toNat = 21
    · rw [decide_eq_true (show ((b.getD 0 0).toNat : Int) = 21 by omega)]; exact key2 (by omega)
    rw [decide_eq_false (show ¬ ((b.getD 0 0).toNat : Int) = 21 by omega)]
    by_cases c2 : (b.getD 0 0).toNat = 22
    · rw [decide_eq_true (show ((b.getD 0 0).toNat : Int) = 22 by omega)]; exact key2 (by omega)
    rw [decide_eq_false (show ¬ ((b.getD 0 0).toNat : Int) = 22 by omega)]
    by_cases c3 : (b.getD 0 0).toNat = 23
    · rw [decide_eq_true (show ((b.getD 0 0).toNat : Int) = 23 by omega)]; exact key2 (by omega)
    rw [decide_eq_false (show ¬ ((b.getD 0 0).toNat : Int) = 23 by omega)]
    exact bad ⟨h0, by omega⟩
  · rw [decide_eq_false (show ¬ (0 : Int) < (b.length : Int) by omega)]
    exact key2 (fun h => h0 h.1)
theorem ct90 : COK Try.prog gl0 90 (mkF spt90) := by
  refine ctrE (fn := Try.f90) [] 3000 (by kernel_rfl) (by kernel_rfl) okT3 (by kernel_rfl) (fun args w => by kernel_rfl) fun xs bs r hs ho => ?_
  replace hs : (gt90 xs bs).sel = some r := hs
  unfold gt90 at hs
  split at hs
  · simp only [TL.sel, Option.some.injEq] at hs
    subst hs
    exact ⟨_, bt90 _⟩
  · simp [TL.sel] at hs
theorem ct91 : COK Try.prog gl0 91 (mkF spt91) := by
  refine ctrE (fn := Try.f91) [] 3000 (by kernel_rfl) (by kernel_rfl) okT3 (by kernel_rfl) (fun args w => by kernel_rfl) fun xs bs r hs ho => ?_
  replace hs : (gt91 xs bs).sel = some r := hs
  unfold gt91 at hs
  split at hs
  · simp only [TL.sel, Option.some.injEq] at hs
    subst hs
    exact ⟨_, bt91 _ (obsT_one.1 ho)⟩
  · simp [TL.sel] at hs
theorem okT4 : COKs Try.prog gl0 T4 := (okT3.add ct90).add ct91
end Go.Sym

set_option linter.unusedSimpArgs false
namespace Go.Spec
open Go.Sym
/-- Is there all of a record? -/
def stO (M : By) : Bool := decide (stF M = 0) && (decide (5 ≤ M.length) && decide (stN M + 5 ≤ M.length))
def stK (M : By) : Int := if stO M then ((M.getD 0 0).toNat : Int) else 0
def stB (M : By) : By := if stO M then (M.drop 5).take (stN M) else []
def stX (M : By) : Nat := if stO M then 5 + stN M else 0
theorem stN_lt (M : By) : stN M < 65536 := by
  have h1 := (M.getD 3 0).isLt
  have h2 := (M.getD 4 0).isLt
  unfold stN; omega
end Go.Spec
namespace Go.Sym
open Go.Proofs Go.Spec
set_option linter.unusedVariables false
theorem bt64 (L : By) (x n : Nat) (e : Int) (h1 : x + n = L.length) (h2 : L.length < 1099511627776) : Must (bodyP Try.prog T4 gl0 [] [] 3000 Try.f64 2 [.ptr 0 0 0 0] [rdC x n e, rdL L] (retQ Try.prog Try.f64 2 ⟨[], .tup [.int .i64 (stK (L.drop x)), .slice 2 0 1 (stB (L.drop x)).length .ow .unk, .bool (stO (L.drop x)), .int .i64 (stF (L.drop x))], [some (some (rdC (x + stX (L.drop x)) (L.length - (x + stX (L.drop x))) (stF (L.drop x)))), some (some (rdL L))], [⟨.bytes (stB (L.drop x)), true, 1⟩]⟩)) := by
  constructor
  rw [vt64]
  have hM : List.take n (dropN x L) = L.drop x := by rw [dropN_eq, List.take_of_length_le (by rw [List.length_drop]; omega)]
  have hl : (L.drop x).length = n := by rw [List.length_drop]; omega
  have hN := stN_lt (L.drop x)
  have hK : (L.drop x).getD 0 0 = L.getD (x + 0) 0 := by simp [List.getD]
  rw [hM]
  generalize hMM : L.drop x = M at *
  have w1 : IntKind.i64.wrap ((5 : Int) + (stN M : Int)) = ((5 + stN M : Nat) : Int) := wrap_nat _ (by omega) (by omega)
  have w2 : IntKind.i64.wrap ((n : Int) - (5 : Int)) = (n : Int) - 5 := wrap_i64 (by omega) (by omega)
  rw [w1, w2]
  simp (config := { zeta := false }) only [plus_eq, minus_eq, Int.toNat_natCast]
  have no : stO M = false → (stK M = 0 ∧ (stB M).length = 0 ∧ stX M = 0 ∧ stB M = []) := by
    intro h
    unfold stK stB stX
    rw [h]
    exact ⟨rfl, rfl, rfl, rfl⟩
  refine ⟨by omega, ?_⟩
  by_cases hF : stF M = 0
  · rw [nd hF]
    by_cases h5 : n < 5
    · have hO : stO M = false := by unfold stO; rw [decide_eq_false (show ¬ 5 ≤ M.length by omega)]; simp
      obtain ⟨c1, c2, c3, c4⟩ := no hO
      rw [nd (show (n : Int) < 5 by omega), hO, c1, c2, c3, c4]
      and_intros <;> first | omega | rfl | exact True.intro | exact hF | exact hF.symm
    · rw [nd' (show ¬ (n : Int) < 5 by omega)]
      refine ⟨by omega, by omega, ?_⟩
      by_cases hc : (n : Int) - 5 < (stN M : Int)
      · have hO : stO M = false := by unfold stO; rw [decide_eq_false (show ¬ stN M + 5 ≤ M.length by omega)]; simp
        obtain ⟨c1, c2, c3, c4⟩ := no hO
        rw [decide_eq_true hc, hO, c1, c2, c3, c4]
        and_intros <;> first | omega | rfl | exact True.intro | exact hF | exact hF.symm
      · have hO : stO M = true := by unfold stO; rw [decide_eq_true hF, decide_eq_true (show 5 ≤ M.length by omega), decide_eq_true (show stN M + 5 ≤ M.length by omega)]; rfl
        have c1 : stK M = ((M.getD 0 0).toNat : Int) := by unfold stK; rw [if_pos hO]
        have c3 : stX M = 5 + stN M := by unfold stX; rw [if_pos hO]
        have c4 : stB M = (M.drop 5).take (stN M) := by unfold stB; rw [if_pos hO]
        have hB : List.take (((5 + stN M : Nat) : Int).toNat - 5) (dropN (x + 5) L) = stB M := by
          rw [c4, dropN_eq, ← hMM, List.drop_drop, Int.toNat_natCast, Nat.add_sub_cancel_left]
        rw [decide_eq_false hc, hB, hO, c1, c3, hF]
        have hBl : (stB M).length ≤ L.length := by rw [c4, List.length_take, List.length_drop]; omega
        and_intros
        all_goals first | omega | rfl | exact True.intro | (rw [hK]) | skip
  · rw [nd' hF]
    have hO : stO M = false := by unfold stO; rw [decide_eq_false hF]; rfl
    obtain ⟨c1, c2, c3, c4⟩ := no hO
    rw [hO, c1, c2, c3, c4]
    and_intros <;> first | omega | rfl | exact True.intro
end Go.Sym

set_option linter.unusedSimpArgs false
namespace Go.Sym
open Go.Proofs Go.Spec
set_option linter.unusedVariables false
/-- Take. -/
def gt64 (xs : List AV) (bs : List ABlk) : TL := match xs, bs with
  | [.ptr 0 0 0 0], [⟨.cells [.slice 1 x 1 n .ox .unk, .int .i64 e], true, 0⟩, ⟨.bytes L, true, 1⟩] =>
    .ok ⟨[x + n = L.length, L.length < 1099511627776], .tup [.int .i64 (stK (L.drop x)), .slice 2 0 1 (stB (L.drop x)).length .ow .unk, .bool (stO (L.drop x)), .int .i64 (stF (L.drop x))], [some (some (rdC (x + stX (L.drop x)) (L.length - (x + stX (L.drop x))) (stF (L.drop x)))), some (some (rdL L))], [⟨.bytes (stB (L.drop x)), true, 1⟩]⟩
  | [.nilp], [] => .ok ⟨[], .tup [.int .i64 0, .nils, .bool false, .int .i64 1], [], []⟩
  | _, _ => .no
theorem bt64n : Must (bodyP Try.prog T4 gl0 [] [] 3000 Try.f64 0 [.nilp] [] (retQ Try.prog Try.f64 0 ⟨[], .tup [.int .i64 0, .nils, .bool false, .int .i64 1], [], []⟩)) := ⟨by rw [vt64n]; exact ⟨rfl, rfl, rfl, trivial⟩⟩
theorem ct64 : COK Try.prog gl0 64 (mkF (reSp 1 gt64)) := by
  refine ctrE (fn := Try.f64) [] 3000 (by kernel_rfl) (by kernel_rfl) okT4 (by kernel_rfl) (fun args w => by kernel_rfl) fun xs bs r hs ho => ?_
  replace hs : (gt64 xs bs).sel = some r := hs
  unfold gt64 at hs
  split at hs
  · simp only [TL.sel, Option.some.injEq] at hs
    subst hs
    obtain ⟨h1, h2⟩ := obsT_cons.1 ho
    exact ⟨_, bt64 _ _ _ _ h1 (obsT_one.1 h2)⟩
  · simp only [TL.sel, Option.some.injEq] at hs
    subst hs
    exact ⟨_, bt64n⟩
  · simp [TL.sel] at hs
/-- Feed: where nothing went wrong; behind an error; of none. -/
def gt66 (xs : List AV) (bs : List ABlk) : TL := match xs, bs with
  | [.ptr 0 0 0 0, .rb false b .unk], [⟨.cells [.slice 1 x 1 n .ox .unk, .int .i64 0], true, 0⟩, ⟨.bytes L, true, 1⟩] =>
    .ok ⟨[x + n = L.length, L.length + b.length < 1099511627776], .int .i64 0, [some (some ⟨.cells [.slice 2 0 1 (n + b.length) .ox .unk, .int .i64 0], true, 0⟩), some none], [⟨.bytes (L.drop x ++ b), true, 1⟩]⟩
  | [.ptr 0 0 0 0, .rb false b .unk], [⟨.cells [.slice 1 x 1 n .ox .unk, .int .i64 e], true, 0⟩, ⟨.bytes L, true, 1⟩] =>
    .ok ⟨[e ≠ 0], .int .i64 8, [some (some (rdC x n e)), some (some (rdL L))], []⟩
  | [.nilp, .rb false b .unk], [] => .ok ⟨[], .int .i64 1, [], []⟩
  | _, _ => .no
def feSp : Spec := ⟨[.kp, .by0], fun xs h => reachX h 200 (namesL (xs.take 1)) [], kinds, gt66⟩
theorem bt66 (L b : By) (x n : Nat) (h1 : x + n = L.length) (h2 : L.length + b.length < 1099511627776) : Must (bodyP Try.prog T3 gl0 [] [] 3000 Try.f66 2 [.ptr 0 0 0 0, .rb false b .unk] [rdC x n 0, rdL L] (retQ Try.prog Try.f66 2 ⟨[], .int .i64 0, [some (some ⟨.cells [.slice 2 0 1 (n + b.length) .ox .unk, .int .i64 0], true, 0⟩), some none], [⟨.bytes (L.drop x ++ b), true, 1⟩]⟩)) := by
  constructor
  rw [vt66]
  · exact ⟨by omega, by rw [List.length_drop]; omega, by unfold roomFor; omega, rfl, rfl, rfl, rfl, rfl, rfl, rfl, trivial⟩
theorem bt66n (b : By) : Must (bodyP Try.prog T3 gl0 [] [] 3000 Try.f66 0 [.nilp, .rb false b .unk] [] (retQ Try.prog Try.f66 0 ⟨[], .int .i64 1, [], []⟩)) := ⟨by rw [vt66n]; exact ⟨rfl, trivial⟩⟩
theorem bt66e (L b : By) (x n : Nat) (e : Int) (h : e ≠ 0) : Must (bodyP Try.prog T3 gl0 [] [] 3000 Try.f66 2 [.ptr 0 0 0 0, .rb false b .unk] [rdC x n e, rdL L] (retQ Try.prog Try.f66 2 ⟨[], .int .i64 8, [some (some (rdC x n e)), some (some (rdL L))], []⟩)) := by
  constructor
  rw [vt66e _ _ _ _ _ 0, nd' h]
  exact ⟨rfl, rfl, rfl, rfl, rfl, rfl, rfl, trivial⟩
theorem ct66 : COK Try.prog gl0 66 (mkF feSp) := by
  refine ctrE (fn := Try.f66) [] 3000 (by kernel_rfl) (by kernel_rfl) okT3 (by kernel_rfl) (fun args w => by kernel_rfl) fun xs bs r hs ho => ?_
  replace hs : (gt66 xs bs).sel = some r := hs
  unfold gt66 at hs
  split at hs
  · simp only [TL.sel, Option.some.injEq] at hs
    subst hs
    obtain ⟨h1, h2⟩ := obsT_cons.1 ho
    exact ⟨_, bt66 _ _ _ _ h1 (obsT_one.1 h2)⟩
  · simp only [TL.sel, Option.some.injEq] at hs
    subst hs
    exact ⟨_, bt66e _ _ _ _ _ (obsT_one.1 ho)⟩
  · simp only [TL.sel, Option.some.injEq] at hs
    subst hs
    exact ⟨_, bt66n _⟩
  · simp [TL.sel] at hs
/-- Left. -/
def gt67 (xs : List AV) (bs : List ABlk) : TL := match xs, bs with
  | [.ptr 0 0 0 0], [⟨.cells [.slice 1 x 1 n .ox .unk, .int .i64 e], true, 0⟩, ⟨.bytes L, true, 1⟩] =>
    .ok ⟨[x + n = L.length, L.length < 1099511627776], .slice 2 0 1 (L.drop x).length .ow .unk, [some (some (rdC x n e)), some (some (rdL L))], [⟨.bytes (L.drop x), true, 1⟩]⟩
  | _, _ => .no
theorem bt67 (L : By) (x n : Nat) (e : Int) (h1 : x + n = L.length) (h2 : L.length < 1099511627776) : Must (bodyP Try.prog T3 gl0 [] [] 3000 Try.f67 2 [.ptr 0 0 0 0] [rdC x n e, rdL L] (retQ Try.prog Try.f67 2 ⟨[], .slice 2 0 1 (L.drop x).length .ow .unk, [some (some (rdC x n e)), some (some (rdL L))], [⟨.bytes (L.drop x), true, 1⟩]⟩)) := by
  constructor
  rw [vt67]
  have hM : List.take n (dropN x L) = L.drop x := by rw [dropN_eq, List.take_of_length_le (by rw [List.length_drop]; omega)]
  rw [hM]
  exact ⟨by omega, by rw [List.length_drop]; omega, rfl, rfl, rfl, rfl, rfl, rfl, rfl, rfl, rfl, rfl, rfl, trivial⟩
theorem ct67 : COK Try.prog gl0 67 (mkF (reSp 1 gt67)) := by
  refine ctrE (fn := Try.f67) [] 3000 (by kernel_rfl) (by kernel_rfl) okT3 (by kernel_rfl) (fun args w => by kernel_rfl) fun xs bs r hs ho => ?_
  replace hs : (gt67 xs bs).sel = some r := hs
  unfold gt67 at hs
  split at hs
  · simp only [TL.sel, Option.some.injEq] at hs
    subst hs
    obtain ⟨h1, h2⟩ := obsT_cons.1 ho
    exact ⟨_, bt67 _ _ _ _ h1 (obsT_one.1 h2)⟩
  · simp [TL.sel] at hs
/-- New. -/
def gt69 (xs : List AV) (bs : List ABlk) : TL := match xs, bs with
  | [.rb false b .unk], [] => .ok ⟨[b.length < 1099511627776], .ptr 0 0 0 0, [], [rdC 0 b.length 0, rdL b]⟩
  | _, _ => .no
def spt69 : Spec := ⟨[.by0], fun _ _ => [], fun _ _ => [], gt69⟩
theorem bt69 (b : By) (h : b.length < 1099511627776) : Must (bodyP Try.prog T3 gl0 [] [] 3000 Try.f69 0 [.rb false b .unk] [] (retQ Try.prog Try.f69 0 ⟨[], .ptr 0 0 0 0, [], [rdC 0 b.length 0, rdL b]⟩)) := ⟨by rw [vt69]; exact ⟨h, rfl, rfl, rfl, rfl, rfl, rfl, rfl, trivial⟩⟩
theorem ct69 : COK Try.prog gl0 69 (mkF spt69) := by
  refine ctrE (fn := Try.f69) [] 3000 (by kernel_rfl) (by kernel_rfl) okT3 (by kernel_rfl) (fun args w => by kernel_rfl) fun xs bs r hs ho => ?_
  replace hs : (gt69 xs bs).sel = some r := hs
  unfold gt69 at hs
  split at hs
  · simp only [TL.sel, Option.some.injEq] at hs
    subst hs
    exact ⟨_, bt69 _ (obsT_one.1 ho)⟩
  · simp [TL.sel] at hs
noncomputable def T5 : Ctx := ((((T4.add 64 (mkF (reSp 1 gt64))).add 66 (mkF feSp)).add 67 (mkF (reSp 1 gt67))).add 69 (mkF spt69))
theorem okT5 : COKs Try.prog gl0 T5 := (((okT4.add ct64).add ct66).add ct67).add ct69
end Go.Sym

namespace Go.Sym
open Go.Proofs Go.Spec
set_option linter.unusedVariables false
set_option maxRecDepth 100000 in
theorem vt65  : bodyP Try.prog T5 gl0 [] [] 3000 Try.f65 0 [] [] (retQ Try.prog Try.f65 0 ⟨[], .bool true, [], []⟩) = (
4 = 4 ∧ 4 < 1099511627776 ∧ 4 = 4 ∧ 4 < 1099511627776 ∧ 3 = 3 ∧ 4 = 4 ∧ 7 < 1099511627776 ∧ 7 = 7 ∧ 7 < 1099511627776 ∧ 7 = 7 ∧ 7 < 1099511627776 ∧ 0 < 1 ∧ 0 < 1 ∧ 7 = 7 ∧ 7 < 1099511627776 ∧ Int.ofNat 3 ≠ (0 : Int) ∧ Bool.true = Bool.true ∧ True : Prop) := by kernel_rfl
end Go.Sym

namespace Go.Sym
open Go.Proofs Go.Spec
theorem bt65 : Must (bodyP Try.prog T5 gl0 [] [] 3000 Try.f65 0 [] [] (retQ Try.prog Try.f65 0 ⟨[], .bool true, [], []⟩)) := by
  constructor
  rw [vt65]
  exact ⟨rfl, by omega, rfl, by omega, rfl, rfl, by omega, rfl, by omega, rfl, by omega, by omega, by omega, rfl, by omega, by decide, rfl, trivial⟩
def gt65 (xs : List AV) (bs : List ABlk) : TL := match xs, bs with
  | [], [] => .ok ⟨[], .bool true, [], []⟩
  | _, _ => .no
theorem ct65 : COK Try.prog gl0 65 (mkF (reSp 0 gt65)) := by
  refine ctrE (fn := Try.f65) [] 3000 (by kernel_rfl) (by kernel_rfl) okT5 (by kernel_rfl) (fun args w => by kernel_rfl) fun xs bs r hs ho => ?_
  replace hs : (gt65 xs bs).sel = some r := hs
  unfold gt65 at hs
  split at hs
  · simp only [TL.sel, Option.some.injEq] at hs
    subst hs
    exact ⟨_, bt65⟩
  · simp [TL.sel] at hs
noncomputable def T6 : Ctx := T5.add 65 (mkF (reSp 0 gt65))
theorem okT6 : COKs Try.prog gl0 T6 := okT5.add ct65
end Go.Sym
