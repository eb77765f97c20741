/- The same: the readers of the document. -/
import Derived.Test.YtgniepaehjdjaaaCurA
namespace Go.Sym
open Go.Proofs Go.Spec
set_option linter.unusedVariables false
/-- The document's reader, as it lies in memory. -/
def rfC (n x : Nat) (e : Int) (nl : NL) : ABlk := ⟨.cells [.slice 1 0 1 n .ow nl, .int .i64 x, .int .i64 e], true, 0⟩
def rfR (L : By) (n x2 : Nat) (e2 : Int) (nl : NL) (B : By) (k : Nat) : RL := ⟨[], .slice 2 0 1 k .ow .unk, [some (some (rfC n x2 e2 nl)), some (some (rdL L))], [⟨.bytes B, true, 1⟩]⟩
def rfN (L : By) (n x2 : Nat) (e2 v : Int) (nl : NL) : RL := ⟨[], .int .i64 v, [some (some (rfC n x2 e2 nl)), some (some (rdL L))], []⟩
end Go.Sym

namespace Go.Sym
open Go.Proofs Go.Spec
set_option linter.unusedVariables false
set_option maxRecDepth 100000 in
theorem vr26 (L B : By) (n x x2 k : Nat) (e m e2 : Int) (b : Bool) : bodyP Try.prog Qz13 gl0 [] [] 3000 Try.f26 2 [.ptr 0 0 0 0, .int .i64 m] [rfC n x e (.is b), rdL L] (retQ Try.prog Try.f26 2 (rfR L n x2 e2 (.is b) B k)) = (
let x1 := @Bool.rec (fun _ => Prop) ((0 : Int) ≤ IntKind.i64.wrap (IntKind.i64.wrap ((↑x : Int) + m) - m) ∧ (0 : Int) ≤ IntKind.i64.wrap ((↑x : Int) + m) ∧ (IntKind.i64.wrap (IntKind.i64.wrap ((↑x : Int) + m) - m)).toNat ≤ (IntKind.i64.wrap ((↑x : Int) + m)).toNat ∧ (IntKind.i64.wrap ((↑x : Int) + m)).toNat ≤ n ∧ (IntKind.i64.wrap (IntKind.i64.wrap ((↑x : Int) + m) - m)).toNat + minus (IntKind.i64.wrap ((↑x : Int) + m)).toNat (IntKind.i64.wrap (IntKind.i64.wrap ((↑x : Int) + m) - m)).toNat ≤ List.length L ∧ 0 = 0 ∧ roomFor 0 (List.take (minus (IntKind.i64.wrap ((↑x : Int) + m)).toNat (IntKind.i64.wrap (IntKind.i64.wrap ((↑x : Int) + m) - m)).toNat) (dropN (IntKind.i64.wrap (IntKind.i64.wrap ((↑x : Int) + m) - m)).toNat L)).length 1 ∧ 0 = 0 ∧ 0 = 0 ∧ 0 = 0 ∧ k = 0 + (List.take (minus (IntKind.i64.wrap ((↑x : Int) + m)).toNat (IntKind.i64.wrap (IntKind.i64.wrap ((↑x : Int) + m) - m)).toNat) (dropN (IntKind.i64.wrap (IntKind.i64.wrap ((↑x : Int) + m) - m)).toNat L)).length ∧ b = b ∧ 0 = 0 ∧ 0 = 0 ∧ 0 = 0 ∧ n = n ∧ (↑x2 : Int) = IntKind.i64.wrap ((↑x : Int) + m) ∧ e2 = e ∧ L = L ∧ B = [] ++ List.take (minus (IntKind.i64.wrap ((↑x : Int) + m)).toNat (IntKind.i64.wrap (IntKind.i64.wrap ((↑x : Int) + m) - m)).toNat) (dropN (IntKind.i64.wrap (IntKind.i64.wrap ((↑x : Int) + m) - m)).toNat L) ∧ True) (k = 0 ∧ b = b ∧ 0 = 0 ∧ 0 = 0 ∧ 0 = 0 ∧ n = n ∧ (↑x2 : Int) = (↑x : Int) ∧ e2 = e ∧ L = L ∧ B = [] ∧ True) !decide (e = (0 : Int)); let x2_1 := @Bool.rec (fun _ => Prop) x1 (@Bool.rec (fun _ => Prop) x1 (k = 0 ∧ b = b ∧ 0 = 0 ∧ 0 = 0 ∧ 0 = 0 ∧ n = n ∧ (↑x2 : Int) = (↑x : Int) ∧ e2 = (2 : Int) ∧ L = L ∧ B = [] ∧ True) (decide (IntKind.i64.wrap ((↑n : Int) - (↑x : Int)) < m))) (decide (e = (0 : Int))); @Bool.rec (fun _ => Prop) x2_1 (@Bool.rec (fun _ => Prop) x2_1 (k = 0 ∧ b = b ∧ 0 = 0 ∧ 0 = 0 ∧ 0 = 0 ∧ n = n ∧ (↑x2 : Int) = (↑x : Int) ∧ e2 = (3 : Int) ∧ L = L ∧ B = [] ∧ True) (decide (m < (0 : Int)))) (decide (e = (0 : Int))) : Prop) := by kernel_rfl
set_option maxRecDepth 100000 in
theorem vr28 (L B : By) (n x x2 k : Nat) (e m e2 v : Int) (b : Bool) : bodyP Try.prog Qz13 gl0 [] [] 3000 Try.f28 2 [.ptr 0 0 0 0] [rfC n x e (.is b), rdL L] (retQ Try.prog Try.f28 2 (rfN L n x e v (.is b))) = (
v = IntKind.i64.wrap ((↑n : Int) - (↑x : Int)) ∧ b = b ∧ 0 = 0 ∧ 0 = 0 ∧ 0 = 0 ∧ n = n ∧ (↑x : Int) = (↑x : Int) ∧ e = e ∧ L = L ∧ True : Prop) := by kernel_rfl
end Go.Sym

set_option linter.unusedSimpArgs false
namespace Go.Sym
open Go.Proofs Go.Spec
set_option linter.unusedVariables false
theorem br26r (L : By) (n x : Nat) (e m : Int) (b : Bool) (h0 : n = L.length) (h1 : x ≤ n) (h2 : L.length < 1099511627776) :
    Must (bodyP Try.prog Qz13 gl0 [] [] 3000 Try.f26 2 [.ptr 0 0 0 0, .int .i64 m] [rfC n x e (.is b), rdL L] (retQ Try.prog Try.f26 2 (rfR L n (rdX L x e m) (rdE L x e m) (.is b) (rdB L x e m) (rdB L x e m).length))) := by
  constructor
  rw [vr26]
  subst h0
  have hs : IntKind.i64.wrap ((L.length : Int) - (x : Int)) = ((L.length - x : Nat) : Int) := wrap_nat _ (by omega) (by omega)
  rw [hs]
  simp only [minus_eq, dropN_eq]
  by_cases he : e = 0
  · subst he
    by_cases hm : m < 0
    · have hE : rdE L x 0 m = 3 := by simp [rdE, hm]
      have hX : rdX L x 0 m = x := by simp [rdX, hE]
      have hB : rdB L x 0 m = [] := by simp [rdB, hE]
      simp only [hE, hX, hB, decide_eq_true hm]
      simp
    · by_cases hl : ((L.length - x : Nat) : Int) < m
      · have hE : rdE L x 0 m = 2 := by simp [rdE, hm, hl]
        have hX : rdX L x 0 m = x := by simp [rdX, hE]
        have hB : rdB L x 0 m = [] := by simp [rdB, hE]
        simp only [hE, hX, hB, decide_eq_true hl, decide_eq_false hm]
        simp
      · have hE : rdE L x 0 m = 0 := by simp [rdE, hm, hl]
        have hX : rdX L x 0 m = x + m.toNat := by simp [rdX, hE]
        have hB : rdB L x 0 m = (L.drop x).take m.toNat := by simp [rdB, hE]
        have w1 : IntKind.i64.wrap ((x : Int) + m) = ((x + m.toNat : Nat) : Int) := wrap_nat _ (by omega) (by omega)
        have w2 : IntKind.i64.wrap (((x + m.toNat : Nat) : Int) - m) = (x : Int) := wrap_nat _ (by omega) (by omega)
        rw [w1, w2]
        simp only [hE, hX, hB, decide_eq_false hl, decide_eq_false hm, Int.toNat_natCast, Nat.add_sub_cancel_left]
        simp [roomFor]
        omega
  · have hE : rdE L x e m = e := by simp [rdE, he]
    have hX : rdX L x e m = x := by simp [rdX, hE, he]
    have hB : rdB L x e m = [] := by simp [rdB, hE, he]
    simp only [hE, hX, hB, decide_eq_false he]
    simp
def gr26 (xs : List AV) (bs : List ABlk) : TL := match xs, bs with
  | [.ptr 0 0 0 0, .int .i64 m], [⟨.cells [.slice 1 0 1 n .ow (.is b), .int .i64 (.ofNat x), .int .i64 e], true, 0⟩, ⟨.bytes L, true, 1⟩] =>
    .ok ⟨[n = L.length, x ≤ n, L.length < 1099511627776], .slice 2 0 1 (rdB L x e m).length .ow .unk, [some (some (rfC n (rdX L x e m) (rdE L x e m) (.is b))), some (some (rdL L))], [⟨.bytes (rdB L x e m), true, 1⟩]⟩
  | _, _ => .no
theorem cr26 : COK Try.prog gl0 26 (mkF (reSp 2 gr26)) := by
  refine ctrE (fn := Try.f26) [] 3000 (by kernel_rfl) (by kernel_rfl) okQz13 (by kernel_rfl) (fun args w => by kernel_rfl) fun xs bs r hs ho => ?_
  replace hs : (gr26 xs bs).sel = some r := hs
  unfold gr26 at hs
  split at hs
  · simp only [TL.sel, Option.some.injEq] at hs
    subst hs
    obtain ⟨h1, h2⟩ := obsT_cons.1 ho
    obtain ⟨h2, h3⟩ := obsT_cons.1 h2
    exact ⟨_, br26r _ _ _ _ _ _ h1 h2 (obsT_one.1 h3)⟩
  · simp [TL.sel] at hs
theorem br28r (L : By) (n x : Nat) (e : Int) (b : Bool) (h1 : x ≤ n) (h2 : n < 1099511627776) :
    Must (bodyP Try.prog Qz13 gl0 [] [] 3000 Try.f28 2 [.ptr 0 0 0 0] [rfC n x e (.is b), rdL L] (retQ Try.prog Try.f28 2 (rfN L n x e ((n - x : Nat) : Int) (.is b)))) := by
  constructor
  rw [vr28]
  · refine ⟨(wrap_nat _ (by omega) (by omega)).symm, ?_⟩
    and_intros <;> trivial
  all_goals first | exact 0 | exact []
def gr28 (xs : List AV) (bs : List ABlk) : TL := match xs, bs with
  | [.ptr 0 0 0 0], [⟨.cells [.slice 1 0 1 n .ow (.is b), .int .i64 (.ofNat x), .int .i64 e], true, 0⟩, ⟨.bytes L, true, 1⟩] =>
    .ok ⟨[x ≤ n, n < 1099511627776], .int .i64 ((n - x : Nat) : Int), [some (some (rfC n x e (.is b))), some (some (rdL L))], []⟩
  | _, _ => .no
theorem cr28 : COK Try.prog gl0 28 (mkF (reSp 1 gr28)) := by
  refine ctrE (fn := Try.f28) [] 3000 (by kernel_rfl) (by kernel_rfl) okQz13 (by kernel_rfl) (fun args w => by kernel_rfl) fun xs bs r hs ho => ?_
  replace hs : (gr28 xs bs).sel = some r := hs
  unfold gr28 at hs
  split at hs
  · simp only [TL.sel, Option.some.injEq] at hs
    subst hs
    obtain ⟨h1, h2⟩ := obsT_cons.1 ho
    exact ⟨_, br28r _ _ _ _ _ h1 (obsT_one.1 h2)⟩
  · simp [TL.sel] at hs
noncomputable def Qz14 : Ctx := Qz13.add 26 (mkF (reSp 2 gr26))
noncomputable def Qz15 : Ctx := Qz14.add 28 (mkF (reSp 1 gr28))
theorem okQz15 : COKs Try.prog gl0 Qz15 := (okQz13.add cr26).add cr28
/-- The loop of a number, in the document. -/
def lsUr (L : By) (n x : Nat) (e w : Int) (b : Bool) : LS := ⟨Nat, fun i => [(6, .int .i64 (beN ((rdB L x e w).take i))), (5, .rb false (rdB L x e w) .unk), (7, .int .i64 i)],
  fun i => [(0, rfC n (rdX L x e w) (rdE L x e w) (.is b)), (1, rdL L)], 1000, fun i => (rdB L x e w).length - i, fun i => i ≤ (rdB L x e w).length, fun _ => []⟩
end Go.Sym

namespace Go.Sym
open Go.Proofs Go.Spec
set_option linter.unusedVariables false
set_option maxRecDepth 100000 in
theorem vr25 (L : By) (n x x2 : Nat) (e g w e2 v : Int) (b : Bool) : bodyP Try.prog Qz15 gl0 [] [(7, lsUr L n x g w b)] 3000 Try.f25 2 [.ptr 0 0 0 0, .int .i64 w] [rfC n x e (.is b), rdL L] (retQ Try.prog Try.f25 2 (rfN L n x2 e2 v (.is b))) = (
let x1 := n = List.length L ∧ x ≤ n ∧ List.length L < 1099511627776 ∧ (∃ (x_1 : Nat), x_1.le (List.length (rdB L x g w)) ∧ (↑(beN (List.take x_1 (rdB L x g w))) : Int) = (0 : Int) ∧ List.length (rdB L x (3 : Int) w) = List.length (rdB L x (3 : Int) w) ∧ rdB L x g w = rdB L x (3 : Int) w ∧ List.length (rdB L x (3 : Int) w) = List.length (rdB L x g w) ∧ (↑x_1 : Int) = (0 : Int) ∧ b = b ∧ 0 = 0 ∧ 0 = 0 ∧ 0 = 0 ∧ n = n ∧ (↑(rdX L x g w) : Int) = (↑(rdX L x (3 : Int) w) : Int) ∧ rdE L x g w = rdE L x (3 : Int) w ∧ L = L ∧ True) ∧ ∀ (x_1 : Nat), x_1.le (List.length (rdB L x g w)) → @Bool.rec (fun _ => Prop) (v = (↑(beN (List.take x_1 (rdB L x g w))) : Int) ∧ b = b ∧ 0 = 0 ∧ 0 = 0 ∧ 0 = 0 ∧ n = n ∧ (↑x2 : Int) = (↑(rdX L x g w) : Int) ∧ e2 = rdE L x g w ∧ L = L ∧ True) ((0 : Int) ≤ (↑x_1 : Int) ∧ (↑x_1 : Int).toNat < List.length (rdB L x g w) ∧ ∃ (y : Nat), List.length (rdB L x g w) - y < List.length (rdB L x g w) - x_1 ∧ y.le (List.length (rdB L x g w)) ∧ (↑(beN (List.take y (rdB L x g w))) : Int) = IntKind.i64.wrap (IntKind.i64.wrap ((↑(beN (List.take x_1 (rdB L x g w))) : Int) * (256 : Int)) + (↑(List.getD (rdB L x g w) (↑x_1 : Int).toNat (0 : BitVec 8)).toNat : Int)) ∧ rdB L x g w = rdB L x g w ∧ (↑y : Int) = IntKind.i64.wrap ((↑x_1 : Int) + (1 : Int)) ∧ b = b ∧ 0 = 0 ∧ 0 = 0 ∧ 0 = 0 ∧ n = n ∧ (↑(rdX L x g w) : Int) = (↑(rdX L x g w) : Int) ∧ rdE L x g w = rdE L x g w ∧ L = L ∧ True) (decide ((↑x_1 : Int) < (↑(List.length (rdB L x g w)) : Int))); let x2 := n = List.length L ∧ x ≤ n ∧ List.length L < 1099511627776 ∧ (∃ (x_1 : Nat), x_1.le (List.length (rdB L x g w)) ∧ (↑(beN (List.take x_1 (rdB L x g w))) : Int) = (0 : Int) ∧ List.length (rdB L x e w) = List.length (rdB L x e w) ∧ rdB L x g w = rdB L x e w ∧ List.length (rdB L x e w) = List.length (rdB L x g w) ∧ (↑x_1 : Int) = (0 : Int) ∧ b = b ∧ 0 = 0 ∧ 0 = 0 ∧ 0 = 0 ∧ n = n ∧ (↑(rdX L x g w) : Int) = (↑(rdX L x e w) : Int) ∧ rdE L x g w = rdE L x e w ∧ L = L ∧ True) ∧ ∀ (x_1 : Nat), x_1.le (List.length (rdB L x g w)) → @Bool.rec (fun _ => Prop) (v = (↑(beN (List.take x_1 (rdB L x g w))) : Int) ∧ b = b ∧ 0 = 0 ∧ 0 = 0 ∧ 0 = 0 ∧ n = n ∧ (↑x2 : Int) = (↑(rdX L x g w) : Int) ∧ e2 = rdE L x g w ∧ L = L ∧ True) ((0 : Int) ≤ (↑x_1 : Int) ∧ (↑x_1 : Int).toNat < List.length (rdB L x g w) ∧ ∃ (y : Nat), List.length (rdB L x g w) - y < List.length (rdB L x g w) - x_1 ∧ y.le (List.length (rdB L x g w)) ∧ (↑(beN (List.take y (rdB L x g w))) : Int) = IntKind.i64.wrap (IntKind.i64.wrap ((↑(beN (List.take x_1 (rdB L x g w))) : Int) * (256 : Int)) + (↑(List.getD (rdB L x g w) (↑x_1 : Int).toNat (0 : BitVec 8)).toNat : Int)) ∧ rdB L x g w = rdB L x g w ∧ (↑y : Int) = IntKind.i64.wrap ((↑x_1 : Int) + (1 : Int)) ∧ b = b ∧ 0 = 0 ∧ 0 = 0 ∧ 0 = 0 ∧ n = n ∧ (↑(rdX L x g w) : Int) = (↑(rdX L x g w) : Int) ∧ rdE L x g w = rdE L x g w ∧ L = L ∧ True) (decide ((↑x_1 : Int) < (↑(List.length (rdB L x g w)) : Int))); @Bool.rec (fun _ => Prop) x2 (@Bool.rec (fun _ => Prop) x1 (@Bool.rec (fun _ => Prop) x2 x1 (decide ((4 : Int) < w))) !decide (w < (1 : Int))) (decide (e = (0 : Int))) : Prop) := by kernel_rfl
set_option maxRecDepth 100000 in
theorem vr29 (L B : By) (n x x2 k : Nat) (e w e2 v : Int) (b : Bool) : bodyP Try.prog Qz15 gl0 [] [] 3000 Try.f29 2 [.ptr 0 0 0 0] [rfC n x e (.is b), rdL L] (retQ Try.prog Try.f29 2 (rfN L n x e v (.is b))) = (
let x1 := b = b ∧ 0 = 0 ∧ 0 = 0 ∧ 0 = 0 ∧ n = n ∧ (↑x : Int) = (↑x : Int) ∧ e = e ∧ L = L ∧ True; @Bool.rec (fun _ => Prop) (x ≤ n ∧ n < 1099511627776 ∧ @Bool.rec (fun _ => Prop) (v = (0 : Int) ∧ x1) (v = (3 : Int) ∧ x1) (decide ((0 : Int) < (↑(n - x) : Int)))) (v = e ∧ x1) !decide (e = (0 : Int)) : Prop) := by kernel_rfl
end Go.Sym

set_option linter.unusedSimpArgs false
namespace Go.Sym
open Go.Proofs Go.Spec
set_option linter.unusedVariables false
theorem mu64 (a : Nat) (b : BitVec 8) (h : a < 4294967296) : IntKind.i64.wrap (IntKind.i64.wrap ((a : Int) * 256) + (b.toNat : Int)) = ((a * 256 + b.toNat : Nat) : Int) := by
  have hb := b.isLt
  rw [wrap_nat (x := (a : Int) * 256) (a * 256) (by omega) (by omega)]
  exact wrap_nat _ (by omega) (by omega)
/-- The error in force in a number's bytes. -/
def uiG (e w : Int) : Int := if e = 0 then (if w < 1 ∨ 4 < w then 3 else 0) else e
theorem uiG_E (L : By) (x : Nat) (e w : Int) : uiE L x e w = rdE L x (uiG e w) w ∧ uiX L x e w = rdX L x (uiG e w) w ∧ uiV L x e w = beN (rdB L x (uiG e w) w) ∧ (rdB L x (uiG e w) w).length ≤ 4 := by
  by_cases h : 1 ≤ w ∧ w ≤ 4
  · have hg : uiG e w = e := by
      unfold uiG
      split
      · rename_i he; rw [if_neg (by omega), he]
      · rfl
    rw [hg]
    exact ⟨uiE_w L x e w h.1 h.2, uiX_w L x e w h.1 h.2, uiV_w L x e w h.1 h.2, rdB_len_le L x e w 4 (by omega)⟩
  · obtain ⟨k1, k2, k3⟩ := ui_bad L x e w h
    have hg : uiG e w = (if e = 0 then 3 else e) := by
      unfold uiG
      split
      · rw [if_pos (by omega)]
      · rfl
    have hne : uiG e w ≠ 0 := by
      rw [hg]
      split
      · decide
      · assumption
    have hE : rdE L x (uiG e w) w = uiG e w := by simp [rdE, hne]
    have hX : rdX L x (uiG e w) w = x := by simp [rdX, hE, hne]
    have hB : rdB L x (uiG e w) w = [] := by simp [rdB, hE, hne]
    rw [hE, hX, hB, k1, k2, k3, hg]
    exact ⟨rfl, rfl, rfl, by simp⟩
theorem br25r (L : By) (n x : Nat) (e w : Int) (b : Bool) (h0 : n = L.length) (h1 : x ≤ n) (h2 : L.length < 1099511627776) :
    Must (bodyP Try.prog Qz15 gl0 [] [(7, lsUr L n x (uiG e w) w b)] 3000 Try.f25 2 [.ptr 0 0 0 0, .int .i64 w] [rfC n x e (.is b), rdL L] (retQ Try.prog Try.f25 2 (rfN L n (uiX L x e w) (uiE L x e w) (uiV L x e w) (.is b)))) := by
  constructor
  rw [vr25]
  obtain ⟨k1, k2, k3, k4⟩ := uiG_E L x e w
  rw [k1, k2, k3]
  generalize hB : rdB L x (uiG e w) w = B at k4 ⊢
  have loop : ∀ (x_1 : Nat), x_1.le B.length → @Bool.rec (fun _ => Prop) ((beN B : Int) = (↑(beN (List.take x_1 B)) : Int) ∧ b = b ∧ 0 = 0 ∧ 0 = 0 ∧ 0 = 0 ∧ n = n ∧ (↑(rdX L x (uiG e w) w) : Int) = (↑(rdX L x (uiG e w) w) : Int) ∧ rdE L x (uiG e w) w = rdE L x (uiG e w) w ∧ L = L ∧ True)
      ((0 : Int) ≤ (↑x_1 : Int) ∧ (↑x_1 : Int).toNat < B.length ∧ ∃ (y : Nat), B.length - y < B.length - x_1 ∧ y.le B.length ∧ (↑(beN (List.take y B)) : Int) = IntKind.i64.wrap (IntKind.i64.wrap ((↑(beN (List.take x_1 B)) : Int) * (256 : Int)) + (↑(List.getD B (↑x_1 : Int).toNat (0 : BitVec 8)).toNat : Int)) ∧ B = B ∧ (↑y : Int) = IntKind.i64.wrap ((↑x_1 : Int) + (1 : Int)) ∧ b = b ∧ 0 = 0 ∧ 0 = 0 ∧ 0 = 0 ∧ n = n ∧ (↑(rdX L x (uiG e w) w) : Int) = (↑(rdX L x (uiG e w) w) : Int) ∧ rdE L x (uiG e w) w = rdE L x (uiG e w) w ∧ L = L ∧ True) (decide ((↑x_1 : Int) < (↑B.length : Int))) := by
    intro i hi
    refine brec (fun h => ?_) (fun h => ?_)
    · have hi2 : i < B.length := by have := dlt.1 h; omega
      have := mu64 (beN (B.take i)) (B.getD i 0) (beN_take_lt B i (by omega))
      rw [← beN_take _ _ hi2] at this
      refine ⟨by omega, by omega, i + 1, by omega, by exact hi2, this.symm, rfl, (wrap_nat _ (by omega) (by omega)).symm, ?_⟩
      and_intros <;> trivial
    · have hi2 : i = B.length := by have := ndlt.1 h; have : i ≤ _ := hi; omega
      subst hi2
      rw [List.take_length]
      and_intros <;> trivial
  by_cases he : e = 0
  · subst he
    by_cases hw1 : w < 1
    · have hg : uiG 0 w = 3 := by simp [uiG, hw1]
      have hB3 : rdB L x 3 w = B := by rw [← hB, hg]
      simp only [decide_eq_true hw1, decide_true, Bool.not_true, hB3]
      rw [hg] at loop ⊢
      refine ⟨h0, h1, h2, ⟨0, Nat.zero_le _, ?_⟩, by first | exact loop | simpa using loop⟩
      and_intros <;> trivial
    · by_cases hw4 : 4 < w
      · have hg : uiG 0 w = 3 := by simp [uiG, hw4]
        have hB3 : rdB L x 3 w = B := by rw [← hB, hg]
        simp only [decide_eq_false hw1, decide_eq_true hw4, decide_true, Bool.not_false, hB3]
        rw [hg] at loop ⊢
        refine ⟨h0, h1, h2, ⟨0, Nat.zero_le _, ?_⟩, by first | exact loop | simpa using loop⟩
        and_intros <;> trivial
      · have hg : uiG 0 w = 0 := by unfold uiG; rw [if_pos rfl, if_neg (by omega)]
        have hB3 : rdB L x 0 w = B := by rw [← hB, hg]
        simp only [decide_eq_false hw1, decide_eq_false hw4, decide_true, Bool.not_false, hB3]
        rw [hg] at loop ⊢
        refine ⟨h0, h1, h2, ⟨0, Nat.zero_le _, ?_⟩, by first | exact loop | simpa using loop⟩
        and_intros <;> trivial
  · have hg : uiG e w = e := by simp [uiG, he]
    have hB3 : rdB L x e w = B := by rw [← hB, hg]
    simp only [decide_eq_false he, hB3]
    rw [hg] at loop ⊢
    refine ⟨h0, h1, h2, ⟨0, Nat.zero_le _, ?_⟩, by first | exact loop | simpa using loop⟩
    and_intros <;> trivial
def gr25 (xs : List AV) (bs : List ABlk) : TL := match xs, bs with
  | [.ptr 0 0 0 0, .int .i64 w], [⟨.cells [.slice 1 0 1 n .ow (.is b), .int .i64 (.ofNat x), .int .i64 e], true, 0⟩, ⟨.bytes L, true, 1⟩] =>
    .ok ⟨[n = L.length, x ≤ n, L.length < 1099511627776], .int .i64 (uiV L x e w), [some (some (rfC n (uiX L x e w) (uiE L x e w) (.is b))), some (some (rdL L))], []⟩
  | _, _ => .no
theorem cr25 : COK Try.prog gl0 25 (mkF (reSp 2 gr25)) := by
  refine ctrE (fn := Try.f25) [] 3000 (by kernel_rfl) (by kernel_rfl) okQz15 (by kernel_rfl) (fun args w => by kernel_rfl) fun xs bs r hs ho => ?_
  replace hs : (gr25 xs bs).sel = some r := hs
  unfold gr25 at hs
  split at hs
  · simp only [TL.sel, Option.some.injEq] at hs
    subst hs
    obtain ⟨h1, h2⟩ := obsT_cons.1 ho
    obtain ⟨h2, h3⟩ := obsT_cons.1 h2
    exact ⟨_, br25r _ _ _ _ _ _ h1 h2 (obsT_one.1 h3)⟩
  · simp [TL.sel] at hs
theorem br29r (L : By) (n x : Nat) (e : Int) (b : Bool) (h1 : x ≤ n) (h2 : n < 1099511627776) :
    Must (bodyP Try.prog Qz15 gl0 [] [] 3000 Try.f29 2 [.ptr 0 0 0 0] [rfC n x e (.is b), rdL L] (retQ Try.prog Try.f29 2 (rfN L n x e (dnV (n - x) e) (.is b)))) := by
  constructor
  rw [vr29]
  · unfold dnV
    by_cases he : e = 0
    · subst he
      refine ⟨h1, h2, brec (fun h => ?_) (fun h => ?_)⟩
      · have := dlt.1 h
        rw [if_pos rfl, if_pos (by omega)]
        exact ⟨rfl, rfl, rfl, rfl, rfl, rfl, rfl, rfl, rfl, trivial⟩
      · have := ndlt.1 h
        rw [if_pos rfl, if_neg (by omega)]
        exact ⟨rfl, rfl, rfl, rfl, rfl, rfl, rfl, rfl, rfl, trivial⟩
    · simp [he]
  all_goals first | exact 0 | exact []
def gr29 (xs : List AV) (bs : List ABlk) : TL := match xs, bs with
  | [.ptr 0 0 0 0], [⟨.cells [.slice 1 0 1 n .ow (.is b), .int .i64 (.ofNat x), .int .i64 e], true, 0⟩, ⟨.bytes L, true, 1⟩] =>
    .ok ⟨[x ≤ n, n < 1099511627776], .int .i64 (dnV (n - x) e), [some (some (rfC n x e (.is b))), some (some (rdL L))], []⟩
  | _, _ => .no
theorem cr29 : COK Try.prog gl0 29 (mkF (reSp 1 gr29)) := by
  refine ctrE (fn := Try.f29) [] 3000 (by kernel_rfl) (by kernel_rfl) okQz15 (by kernel_rfl) (fun args w => by kernel_rfl) fun xs bs r hs ho => ?_
  replace hs : (gr29 xs bs).sel = some r := hs
  unfold gr29 at hs
  split at hs
  · simp only [TL.sel, Option.some.injEq] at hs
    subst hs
    obtain ⟨h1, h2⟩ := obsT_cons.1 ho
    exact ⟨_, br29r _ _ _ _ _ h1 (obsT_one.1 h2)⟩
  · simp [TL.sel] at hs
noncomputable def Qz16 : Ctx := Qz15.add 25 (mkF (reSp 2 gr25))
noncomputable def Qz17 : Ctx := Qz16.add 29 (mkF (reSp 1 gr29))
theorem okQz17 : COKs Try.prog gl0 Qz17 := (okQz15.add cr25).add cr29
end Go.Sym

namespace Go.Sym
open Go.Proofs Go.Spec
set_option linter.unusedVariables false
set_option maxRecDepth 100000 in
theorem vr27 (L B : By) (n x x2 k : Nat) (e w a z e2 : Int) (b : Bool) : bodyP Try.prog Qz17 gl0 [] [] 3000 Try.f27 2 [.ptr 0 0 0 0, .int .i64 w, .int .i64 a, .int .i64 z] [rfC n x e (.is b), rdL L] (retQ Try.prog Try.f27 2 (rfR L n x2 e2 (.is b) B k)) = (
let x1 := 0 = 0 ∧ 0 = 0 ∧ 0 = 0 ∧ k = List.length (rdB L (uiX L x e w) (uiE L x e w) (↑(uiV L x e w) : Int)) ∧ b = b ∧ 0 = 0 ∧ 0 = 0 ∧ 0 = 0 ∧ n = n ∧ (↑x2 : Int) = (↑(rdX L (uiX L x e w) (uiE L x e w) (↑(uiV L x e w) : Int)) : Int) ∧ e2 = rdE L (uiX L x e w) (uiE L x e w) (↑(uiV L x e w) : Int) ∧ L = L ∧ B = rdB L (uiX L x e w) (uiE L x e w) (↑(uiV L x e w) : Int) ∧ True; let x2 := k = 0 ∧ b = b ∧ 0 = 0 ∧ 0 = 0 ∧ 0 = 0 ∧ n = n ∧ (↑x2 : Int) = (↑(rdX L (uiX L x e w) (uiE L x e w) (↑(uiV L x e w) : Int)) : Int) ∧ e2 = (3 : Int) ∧ L = L ∧ B = [] ∧ True; n = List.length L ∧ x ≤ n ∧ List.length L < 1099511627776 ∧ n = List.length L ∧ uiX L x e w ≤ n ∧ List.length L < 1099511627776 ∧ @Bool.rec (fun _ => Prop) x1 (@Bool.rec (fun _ => Prop) x2 (@Bool.rec (fun _ => Prop) x1 x2 (decide (z < (↑(uiV L x e w) : Int)))) !decide ((↑(uiV L x e w) : Int) < a)) (decide (rdE L (uiX L x e w) (uiE L x e w) (↑(uiV L x e w) : Int) = (0 : Int))) : Prop) := by kernel_rfl
set_option maxRecDepth 100000 in
theorem vq31b (b v : By) (w : Int) : bodyP Try.prog Qz17 gl0 [] [] 3000 Try.f31 0 [.rb false b .unk, .rb false v .unk, .int .i64 w] [] (retQ Try.prog Try.f31 0 rNn) = (
@Bool.rec (fun _ => Prop) (List.length b < 1099511627776 ∧ List.length b + w.toNat = List.length (puB b (↑(List.length v) : Int) w) ∧ roomFor (List.length b + w.toNat) (List.length v) 1 ∧ (Bool.false && decide (List.length v = 0)) = Bool.true ∧ True) (List.length b < 1099511627776 ∧ True) (puBad (↑(List.length v) : Int) w) : Prop) := by kernel_rfl
set_option maxRecDepth 100000 in
theorem vq31g (b v B : By) (k : Nat) (w : Int) : bodyP Try.prog Qz17 gl0 [] [] 3000 Try.f31 0 [.rb false b .unk, .rb false v .unk, .int .i64 w] [] (retQ Try.prog Try.f31 0 (rN2 .any k B)) = (
@Bool.rec (fun _ => Prop) (List.length b < 1099511627776 ∧ List.length b + w.toNat = List.length (puB b (↑(List.length v) : Int) w) ∧ roomFor (List.length b + w.toNat) (List.length v) 1 ∧ Bool.false = (Bool.false && decide (List.length v = 0)) ∧ 0 = 0 ∧ 0 = 0 ∧ 0 = 0 ∧ k = List.length b + w.toNat + List.length v ∧ B = puB b (↑(List.length v) : Int) w ++ v ∧ True) (List.length b < 1099511627776 ∧ Bool.false = Bool.true ∧ k = 0 ∧ B = [] ∧ True) (puBad (↑(List.length v) : Int) w) : Prop) := by kernel_rfl
set_option maxRecDepth 100000 in
theorem vq87b (b v : By) (w : Int) : bodyP Try.prog Qz17 gl0 [] [] 3000 Try.f87 0 [.rb false b .unk, .rb false v .unk, .int .i64 w] [] (retQ Try.prog Try.f87 0 rNf) = (
@Bool.rec (fun _ => Prop) (List.length b < 1099511627776 ∧ List.length b + w.toNat = List.length (puB b (↑(List.length v) : Int) w) ∧ roomFor (List.length b + w.toNat) (List.length v) 1 ∧ (Bool.false && decide (List.length v = 0)) = Bool.true ∧ Bool.false = Bool.true ∧ True) (List.length b < 1099511627776 ∧ Bool.false = Bool.false ∧ True) (puBad (↑(List.length v) : Int) w) : Prop) := by kernel_rfl
set_option maxRecDepth 100000 in
theorem vq87g (b v B : By) (k : Nat) (w : Int) : bodyP Try.prog Qz17 gl0 [] [] 3000 Try.f87 0 [.rb false b .unk, .rb false v .unk, .int .i64 w] [] (retQ Try.prog Try.f87 0 (rN3 k B)) = (
@Bool.rec (fun _ => Prop) (List.length b < 1099511627776 ∧ List.length b + w.toNat = List.length (puB b (↑(List.length v) : Int) w) ∧ roomFor (List.length b + w.toNat) (List.length v) 1 ∧ Bool.false = (Bool.false && decide (List.length v = 0)) ∧ 0 = 0 ∧ 0 = 0 ∧ 0 = 0 ∧ k = List.length b + w.toNat + List.length v ∧ Bool.true = Bool.true ∧ B = puB b (↑(List.length v) : Int) w ++ v ∧ True) (List.length b < 1099511627776 ∧ Bool.false = Bool.true ∧ k = 0 ∧ Bool.true = Bool.false ∧ B = [] ∧ True) (puBad (↑(List.length v) : Int) w) : Prop) := by kernel_rfl
end Go.Sym

set_option linter.unusedSimpArgs false
namespace Go.Spec
theorem puB_len (b : By) (n w : Int) : (puB b n w).length = b.length + w.toNat := by simp [puB, puL_len]
end Go.Spec
namespace Go.Sym
open Go.Proofs Go.Spec
set_option linter.unusedVariables false
theorem br27r (L : By) (n x : Nat) (e w a z : Int) (b : Bool) (h0 : n = L.length) (h1 : x ≤ n) (h2 : L.length < 1099511627776) :
    Must (bodyP Try.prog Qz17 gl0 [] [] 3000 Try.f27 2 [.ptr 0 0 0 0, .int .i64 w, .int .i64 a, .int .i64 z] [rfC n x e (.is b), rdL L]
      (retQ Try.prog Try.f27 2 (rfR L n (veX L x e w) (veE L x e w a z) (.is b) (veB L x e w a z) (veB L x e w a z).length))) := by
  constructor
  rw [vr27]
  have hu := uiX_le L x e w (by omega)
  intro x1 x2
  refine ⟨h0, h1, h2, h0, by omega, h2, ?_⟩
  have hX : veX L x e w = rdX L (uiX L x e w) (uiE L x e w) (uiV L x e w) := rfl
  by_cases hE : rdE L (uiX L x e w) (uiE L x e w) (uiV L x e w) = 0
  · by_cases hb : (uiV L x e w : Int) < a ∨ z < (uiV L x e w : Int)
    · have hvE : veE L x e w a z = 3 := by unfold veE; rw [if_neg (by simp [hE]), if_pos hb]
      have hvB : veB L x e w a z = [] := by unfold veB; rw [if_neg (by simp [hvE])]
      have hx2 : x2 := by
        simp only [x2, hvE, hvB, hX]
        and_intros <;> trivial
      simp only [hE, decide_true]
      refine brec (fun h => brec (fun _ => hx2) (fun h5 => ?_)) (fun _ => hx2)
      have := ndlt.1 h5
      have : ¬ (uiV L x e w : Int) < a := by simpa using h
      omega
    · have hvE : veE L x e w a z = 0 := by unfold veE; rw [if_neg (by simp [hE]), if_neg hb]
      have hvB : veB L x e w a z = rdB L (uiX L x e w) (uiE L x e w) (uiV L x e w) := by unfold veB; rw [if_pos hvE]
      have d1 : decide ((uiV L x e w : Int) < a) = false := decide_eq_false (by omega)
      have d2 : decide (z < (uiV L x e w : Int)) = false := decide_eq_false (by omega)
      simp only [d1, d2, Bool.not_false, hE, decide_true, x1, hvE, hvB, hX]
      and_intros <;> trivial
  · have hvE : veE L x e w a z = rdE L (uiX L x e w) (uiE L x e w) (uiV L x e w) := by unfold veE; rw [if_pos hE]
    have hvB : veB L x e w a z = rdB L (uiX L x e w) (uiE L x e w) (uiV L x e w) := by unfold veB; rw [if_neg (by rw [hvE]; exact hE)]; simp [rdB, hE]
    simp only [decide_eq_false hE, x1, hvE, hvB, hX]
    and_intros <;> trivial
def gr27 (xs : List AV) (bs : List ABlk) : TL := match xs, bs with
  | [.ptr 0 0 0 0, .int .i64 w, .int .i64 a, .int .i64 z], [⟨.cells [.slice 1 0 1 n .ow (.is b), .int .i64 (.ofNat x), .int .i64 e], true, 0⟩, ⟨.bytes L, true, 1⟩] =>
    .ok ⟨[n = L.length, x ≤ n, L.length < 1099511627776], .slice 2 0 1 (veB L x e w a z).length .ow .unk, [some (some (rfC n (veX L x e w) (veE L x e w a z) (.is b))), some (some (rdL L))], [⟨.bytes (veB L x e w a z), true, 1⟩]⟩
  | _, _ => .no
theorem cr27 : COK Try.prog gl0 27 (mkF (reSp 4 gr27)) := by
  refine ctrE (fn := Try.f27) [] 3000 (by kernel_rfl) (by kernel_rfl) okQz17 (by kernel_rfl) (fun args w => by kernel_rfl) fun xs bs r hs ho => ?_
  replace hs : (gr27 xs bs).sel = some r := hs
  unfold gr27 at hs
  split at hs
  · simp only [TL.sel, Option.some.injEq] at hs
    subst hs
    obtain ⟨h1, h2⟩ := obsT_cons.1 ho
    obtain ⟨h2, h3⟩ := obsT_cons.1 h2
    exact ⟨_, br27r _ _ _ _ _ _ _ _ h1 h2 (obsT_one.1 h3)⟩
  · simp [TL.sel] at hs
theorem bq31g (b v : By) (w : Int) (hb : b.length + v.length < 549755813888) (h : puBad v.length w = false) : Must (bodyP Try.prog Qz17 gl0 [] [] 3000 Try.f31 0 [.rb false b .unk, .rb false v .unk, .int .i64 w] [] (retQ Try.prog Try.f31 0 (rN2 .any (b.length + w.toNat + v.length) (pvB b v w)))) := by
  constructor
  rw [vq31g]
  have hw : w.toNat ≤ 4 := by
    simp only [puBad, Bool.or_eq_false_iff, Bool.not_eq_false', decide_eq_true_eq] at h
    have := h.1.1.2
    omega
  simp only [h]
  refine ⟨by omega, (puB_len _ _ _).symm, by unfold roomFor; omega, ?_⟩
  and_intros <;> trivial
theorem bq31b (b v : By) (w : Int) (hb : b.length + v.length < 549755813888) (h : puBad v.length w = true) : Must (bodyP Try.prog Qz17 gl0 [] [] 3000 Try.f31 0 [.rb false b .unk, .rb false v .unk, .int .i64 w] [] (retQ Try.prog Try.f31 0 rNn)) := by
  constructor
  rw [vq31b]
  simp only [h]
  exact ⟨by omega, trivial⟩
theorem bq87g (b v : By) (w : Int) (hb : b.length + v.length < 549755813888) (h : puBad v.length w = false) : Must (bodyP Try.prog Qz17 gl0 [] [] 3000 Try.f87 0 [.rb false b .unk, .rb false v .unk, .int .i64 w] [] (retQ Try.prog Try.f87 0 (rN3 (b.length + w.toNat + v.length) (pvB b v w)))) := by
  constructor
  rw [vq87g]
  have hw : w.toNat ≤ 4 := by
    simp only [puBad, Bool.or_eq_false_iff, Bool.not_eq_false', decide_eq_true_eq] at h
    have := h.1.1.2
    omega
  simp only [h]
  refine ⟨by omega, (puB_len _ _ _).symm, by unfold roomFor; omega, ?_⟩
  and_intros <;> trivial
theorem bq87b (b v : By) (w : Int) (hb : b.length + v.length < 549755813888) (h : puBad v.length w = true) : Must (bodyP Try.prog Qz17 gl0 [] [] 3000 Try.f87 0 [.rb false b .unk, .rb false v .unk, .int .i64 w] [] (retQ Try.prog Try.f87 0 rNf)) := by
  constructor
  rw [vq87b]
  simp only [h]
  and_intros <;> first | trivial | omega
def gq31 (xs : List AV) (bs : List ABlk) : TL := match xs, bs with
  | [.rb false b .unk, .rb false v .unk, .int .i64 w], [] => .br (puBad v.length w) (.ok ⟨[b.length + v.length < 549755813888], .nils, [], []⟩)
      (.ok ⟨[b.length + v.length < 549755813888], .slice 0 0 1 (b.length + w.toNat + v.length) .ow (.is false), [], [⟨.bytes (pvB b v w), true, 1⟩]⟩)
  | _, _ => .no
def spq31 : Spec := ⟨[.by0, .by0, .kp], fun _ _ => [], fun _ _ => [], gq31⟩
theorem cq31 : COK Try.prog gl0 31 (mkF spq31) := by
  refine ctrE (fn := Try.f31) [] 3000 (by kernel_rfl) (by kernel_rfl) okQz17 (by kernel_rfl) (fun args w => by kernel_rfl) fun xs bs r hs ho => ?_
  replace hs : (gq31 xs bs).sel = some r := hs
  unfold gq31 at hs
  split at hs
  · rename_i b v w
    cases hb : puBad v.length w <;> rw [hb] at hs
    · simp only [TL.sel, Option.some.injEq] at hs
      subst hs
      exact ⟨_, bq31g _ _ _ (obsT_one.1 ho) hb⟩
    · simp only [TL.sel, Option.some.injEq] at hs
      subst hs
      exact ⟨_, bq31b _ _ _ (obsT_one.1 ho) hb⟩
  · simp [TL.sel] at hs
def gq87 (xs : List AV) (bs : List ABlk) : TL := match xs, bs with
  | [.rb false b .unk, .rb false v .unk, .int .i64 w], [] => .br (puBad v.length w) (.ok ⟨[b.length + v.length < 549755813888], .tup [.nils, .bool false], [], []⟩)
      (.ok ⟨[b.length + v.length < 549755813888], .tup [.slice 0 0 1 (b.length + w.toNat + v.length) .ow (.is false), .bool true], [], [⟨.bytes (pvB b v w), true, 1⟩]⟩)
  | _, _ => .no
def spq87 : Spec := ⟨[.by0, .by0, .kp], fun _ _ => [], fun _ _ => [], gq87⟩
theorem cq87 : COK Try.prog gl0 87 (mkF spq87) := by
  refine ctrE (fn := Try.f87) [] 3000 (by kernel_rfl) (by kernel_rfl) okQz17 (by kernel_rfl) (fun args w => by kernel_rfl) fun xs bs r hs ho => ?_
  replace hs : (gq87 xs bs).sel = some r := hs
  unfold gq87 at hs
  split at hs
  · rename_i b v w
    cases hb : puBad v.length w <;> rw [hb] at hs
    · simp only [TL.sel, Option.some.injEq] at hs
      subst hs
      exact ⟨_, bq87g _ _ _ (obsT_one.1 ho) hb⟩
    · simp only [TL.sel, Option.some.injEq] at hs
      subst hs
      exact ⟨_, bq87b _ _ _ (obsT_one.1 ho) hb⟩
  · simp [TL.sel] at hs
noncomputable def Qz18 : Ctx := Qz17.add 27 (mkF (reSp 4 gr27))
noncomputable def Qz19 : Ctx := Qz18.add 31 (mkF spq31)
noncomputable def Qz20 : Ctx := Qz19.add 87 (mkF spq87)
theorem okQz20 : COKs Try.prog gl0 Qz20 := ((okQz17.add cr27).add cq31).add cq87
noncomputable def Qz21 : Ctx := Qz20.exe Try.prog gl0 [] 300 Try.f15.params.size 15 Try.f15
theorem okQz21 : COKs Try.prog gl0 Qz21 := okQz20.exe [] 300 _ (by kernel_rfl) (by kernel_rfl) (by kernel_rfl) (fun args w => by kernel_rfl)
end Go.Sym

namespace Go.Sym
open Go.Proofs Go.Spec
set_option linter.unusedVariables false
set_option maxRecDepth 100000 in
theorem vq17 (b : Bool) : bodyP Try.prog Qz21 gl0 [] [] 3000 Try.f17 0 [] [] (retQ Try.prog Try.f17 0 ⟨[], .bool b, [], []⟩) = (
0 < 2 ∧ 0 < 2 ∧ 2 = 2 ∧ 2 < 549755813888 ∧ 4 = 4 ∧ 4 < 1099511627776 ∧ 4 = 4 ∧ 4 < 1099511627776 ∧ 4 = 4 ∧ 2 = 2 ∧ b = Bool.true ∧ True : Prop) := by kernel_rfl
end Go.Sym

set_option linter.unusedSimpArgs false
namespace Go.Spec
theorem puL_succ (n w : Nat) : puL n (w + 1) = puL (n / 256) w ++ [BitVec.ofNat 8 n] := by
  unfold puL
  rw [List.range_succ, List.map_append]
  congr 1
  · apply List.map_congr_left
    intro i hi
    have hi : i < w := by simpa using hi
    congr 1
    have e : w + 1 - 1 - i = (w - 1 - i) + 1 := by omega
    rw [e, Nat.pow_succ, Nat.mul_comm, Nat.div_div_eq_div_mul]
  · simp
theorem beN_puL : ∀ (w n : Nat), beN (puL n w) = n % 256 ^ w
  | 0, n => by simp [puL, beN, Nat.mod_one]
  | w + 1, n => by
    have h : 256 ^ (w + 1) = 256 * 256 ^ w := by rw [Nat.pow_succ, Nat.mul_comm]
    rw [puL_succ, beN_snoc, beN_puL w (n / 256), BitVec.toNat_ofNat, h, Nat.mod_mul]
    omega
theorem rd_at {L A v R : By} {x : Nat} {m : Int} (hL : L = A ++ (v ++ R)) (hx : x = A.length) (hm : m = (v.length : Int)) :
    rdE L x 0 m = 0 ∧ rdX L x 0 m = A.length + v.length ∧ rdB L x 0 m = v := by
  subst hL hx hm
  have hE : rdE (A ++ (v ++ R)) A.length 0 (v.length : Int) = 0 := by
    unfold rdE
    rw [if_neg (by simp), if_neg (by omega), if_neg (by simp only [List.length_append]; omega)]
  refine ⟨hE, by simp [rdX, hE], ?_⟩
  unfold rdB
  rw [if_pos hE]
  simp
theorem ui_at {L A R : By} {x n W : Nat} {w : Int} (hL : L = A ++ (puL n W ++ R)) (hx : x = A.length) (hw : w = (W : Int)) (h1 : 1 ≤ W) (h4 : W ≤ 4) (hn : n < 256 ^ W) :
    uiE L x 0 w = 0 ∧ uiX L x 0 w = A.length + W ∧ uiV L x 0 w = n := by
  have hl := puL_len n W
  obtain ⟨k1, k2, k3⟩ := rd_at (m := w) hL hx (by rw [hl, hw])
  rw [uiE_w _ _ _ _ (by omega) (by omega), uiX_w _ _ _ _ (by omega) (by omega), uiV_w _ _ _ _ (by omega) (by omega), k1, k2, k3, beN_puL, hl, Nat.mod_eq_of_lt hn]
  exact ⟨rfl, rfl, rfl⟩
theorem ve_at {L A v R : By} {x W : Nat} {w a z : Int} (hL : L = A ++ (puL v.length W ++ (v ++ R))) (hx : x = A.length) (hw : w = (W : Int)) (h1 : 1 ≤ W) (h4 : W ≤ 4) (hn : v.length < 256 ^ W)
    (ha : a ≤ (v.length : Int)) (hz : (v.length : Int) ≤ z) : veE L x 0 w a z = 0 ∧ veX L x 0 w = A.length + W + v.length ∧ veB L x 0 w a z = v := by
  obtain ⟨k1, k2, k3⟩ := ui_at hL hx hw h1 h4 hn
  have hl := puL_len v.length W
  obtain ⟨j1, j2, j3⟩ := rd_at (L := L) (A := A ++ puL v.length W) (v := v) (R := R) (x := A.length + W) (m := (v.length : Int)) (by rw [hL]; simp) (by simp [hl]) rfl
  have hE : veE L x 0 w a z = 0 := by
    unfold veE
    rw [k1, k2, k3, j1, if_neg (by simp), if_neg (by omega)]
  refine ⟨hE, ?_, ?_⟩
  · unfold veX
    rw [k1, k2, k3, j2]
    simp [hl]
  · unfold veB
    rw [if_pos hE, k1, k2, k3, j3]
theorem puBad_ok {n w : Int} (h1 : 1 ≤ w) (h4 : w ≤ 4) (h0 : 0 ≤ n) (hn : n < 256 ^ w.toNat) : puBad n w = false := by
  unfold puBad
  rw [decide_eq_true h1, decide_eq_true h4, decide_eq_false (by omega), decide_eq_false (by omega)]
  rfl
theorem pow256 (w : Nat) (h : 1 ≤ w) : 256 ≤ 256 ^ w := Nat.le_trans (by decide) (Nat.pow_le_pow_right (by decide) h)
theorem pow256i {w : Int} (h : 1 ≤ w) : (256 : Int) ≤ 256 ^ w.toNat := by
  have := pow256 w.toNat (by omega)
  have h2 : ((256 ^ w.toNat : Nat) : Int) = (256 : Int) ^ w.toNat := by rw [Int.natCast_pow]; rfl
  rw [← h2]; omega
end Go.Spec

namespace Go.Sym
set_option linter.unusedVariables false
open Go.ChangeShapes Go.WideShapes
section
variable {H : Type} {enc : TypeId × Value → H} {P : Program} {W : World} {base : Nat} {spare : Nat → Bool} {held : Bool}
theorem rd_rowsF {t e : TypeId} {fuel : Nat} {cs : List Value} {x : DataW H × List MemPlace} {sz : Nat} {l : List Sh} {av0 : List AV} (ht : P.underlying t = some (.slice e)) (hsz : P.cellsOf e = sz) (hpos : 0 < sz) (hfl : flat P 9 e = some l) (h0 : shAll l av0)
    (h : DataW.trod enc P W base spare held fuel t cs = some x) : ∃ v n g c, cs = [v] ∧ (c = true → n = 0) ∧ n ≤ maxLen ∧ (∀ y, shAll l (g y)) ∧ VRel (κW W) (.ros true sz n g (.is c)) v :=
  rd_rows ht hsz hpos h0 (fun n xs y hh => rd_flat 9 e l n xs y hfl hh) h
end
/-- Rows of four numbers. -/
theorem sh_four {g : Nat → List AV} (h : ∀ y, shAll [.i .i64, .i .i64, .i .i64, .i .i64] (g y)) : ∃ A B C D : Nat → Int, g = fun y => [.int .i64 (A y), .int .i64 (B y), .int .i64 (C y), .int .i64 (D y)] := by
  have each : ∀ y, ∃ a b c d : Int, g y = [.int .i64 a, .int .i64 b, .int .i64 c, .int .i64 d] := by
    intro y
    obtain ⟨a, r, e1, ⟨n1, k1, _⟩, h1⟩ := sh_cons (h y)
    obtain ⟨b, r, e2, ⟨n2, k2, _⟩, h2⟩ := sh_cons h1
    obtain ⟨c, r, e3, ⟨n3, k3, _⟩, h3⟩ := sh_cons h2
    obtain ⟨d, r, e4, ⟨n4, k4, _⟩, h4⟩ := sh_cons h3
    have e5 := sh_nil h4
    subst e5
    exact ⟨n1, n2, n3, n4, by rw [e1, e2, e3, e4, k1, k2, k3, k4]⟩
  refine ⟨fun y => Classical.choose (each y), fun y => Classical.choose (Classical.choose_spec (each y)), fun y => Classical.choose (Classical.choose_spec (Classical.choose_spec (each y))), fun y => Classical.choose (Classical.choose_spec (Classical.choose_spec (Classical.choose_spec (each y)))), ?_⟩
  funext y
  exact Classical.choose_spec (Classical.choose_spec (Classical.choose_spec (Classical.choose_spec (each y))))
/-- Rows of bytes. -/
theorem sh_rb {g : Nat → List AV} (h : ∀ y, shAll [.y] (g y)) : ∃ (F : Nat → List (BitVec 8)) (C : Nat → Bool), g = (fun y => [.rb true (F y) (.is (C y))]) ∧ ∀ y, (C y = true → F y = []) ∧ (F y).length ≤ maxLen := by
  have each : ∀ y, ∃ (l : List (BitVec 8)) (c : Bool), g y = [.rb true l (.is c)] ∧ (c = true → l = []) ∧ l.length ≤ maxLen := by
    intro y
    obtain ⟨a, r, e1, ⟨l, c, k1, k2, k3⟩, h1⟩ := sh_cons (h y)
    have e5 := sh_nil h1
    subst e5
    exact ⟨l, c, by rw [e1, k1], k2, k3⟩
  refine ⟨fun y => Classical.choose (each y), fun y => Classical.choose (Classical.choose_spec (each y)), ?_, fun y => (Classical.choose_spec (Classical.choose_spec (each y))).2⟩
  funext y
  exact (Classical.choose_spec (Classical.choose_spec (each y))).1
end Go.Sym
