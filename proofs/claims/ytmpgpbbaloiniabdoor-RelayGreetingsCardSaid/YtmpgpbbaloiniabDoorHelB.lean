/- A greeting as bytes, by the program; which greetings have bytes. -/
import Derived.Test.YtmpgpbbaloiniabDoorHelA
set_option linter.unusedSimpArgs false
namespace Go.Spec
theorem rd_ok {L : By} {x : Nat} {m : Int} (h0 : 0 ≤ m) (h : x + m.toNat ≤ L.length) : rdE L x 0 m = 0 ∧ rdX L x 0 m = x + m.toNat ∧ rdB L x 0 m = (L.drop x).take m.toNat := by
  have hE : rdE L x 0 m = 0 := by
    unfold rdE
    rw [if_neg (by simp), if_neg (by omega), if_neg (by omega)]
  exact ⟨hE, by simp [rdX, hE], by simp [rdB, hE]⟩
theorem rd_short {L : By} {x : Nat} {m : Int} (h0 : 0 ≤ m) (hx : x ≤ L.length) (h : L.length < x + m.toNat) : rdE L x 0 m = 2 ∧ rdX L x 0 m = x ∧ rdB L x 0 m = [] := by
  have hE : rdE L x 0 m = 2 := by
    unfold rdE
    rw [if_neg (by simp), if_neg (by omega), if_pos (by omega)]
  exact ⟨hE, by simp [rdX, hE], by simp [rdB, hE]⟩
theorem rd_err {L : By} {x : Nat} {e m : Int} (he : e ≠ 0) : rdE L x e m = e ∧ rdX L x e m = x ∧ rdB L x e m = [] := by
  have hE : rdE L x e m = e := by unfold rdE; rw [if_pos he]
  exact ⟨hE, by simp [rdX, hE, he], by simp [rdB, hE, he]⟩
theorem ui_ok {L : By} {x : Nat} {w : Int} (h1 : 1 ≤ w) (h4 : w ≤ 4) (h : x + w.toNat ≤ L.length) : uiE L x 0 w = 0 ∧ uiX L x 0 w = x + w.toNat ∧ uiV L x 0 w = beN ((L.drop x).take w.toNat) := by
  obtain ⟨k1, k2, k3⟩ := rd_ok (L := L) (x := x) (m := w) (by omega) h
  rw [uiE_w _ _ _ _ h1 h4, uiX_w _ _ _ _ h1 h4, uiV_w _ _ _ _ h1 h4, k1, k2, k3]
  exact ⟨rfl, rfl, rfl⟩
theorem ui_short {L : By} {x : Nat} {w : Int} (h1 : 1 ≤ w) (h4 : w ≤ 4) (hx : x ≤ L.length) (h : L.length < x + w.toNat) : uiE L x 0 w = 2 ∧ uiX L x 0 w = x ∧ uiV L x 0 w = 0 := by
  obtain ⟨k1, k2, k3⟩ := rd_short (L := L) (x := x) (m := w) (by omega) hx h
  rw [uiE_w _ _ _ _ h1 h4, uiX_w _ _ _ _ h1 h4, uiV_w _ _ _ _ h1 h4, k1, k2, k3]
  exact ⟨rfl, rfl, rfl⟩
theorem ui_err {L : By} {x : Nat} {e w : Int} (he : e ≠ 0) : uiE L x e w = e ∧ uiX L x e w = x ∧ uiV L x e w = 0 := by
  have hE : uiE L x e w = e := by unfold uiE; rw [if_pos he]
  exact ⟨hE, by simp [uiX, hE, he], by simp [uiV, hE, he]⟩
/-- Bytes of a place on. -/
def cutB (L : By) (x m : Nat) : By := rg m (fun j => L.getD (x + j) 0)
theorem cutB_eq {L : By} {x m : Nat} (h : x + m ≤ L.length) : (L.drop x).take m = cutB L x m := by
  unfold cutB
  apply List.ext_getElem
  · rw [rg_length, List.length_take, List.length_drop]; omega
  · intro i h1 h2
    have hi : i < m := by rw [rg_length] at h2; exact h2
    have e := rg_getD m (fun j => L.getD (x + j) 0) i 0 hi
    rw [List.getD, List.getElem?_eq_getElem h2] at e
    have h3 : x + i < L.length := by omega
    rw [List.getElem_take, List.getElem_drop]
    refine Eq.trans ?_ e.symm
    simp [List.getD, h3]
theorem cutB_len (L : By) (x m : Nat) : (cutB L x m).length = m := rg_length ..
end Go.Spec
namespace Go.Sym
open Go.Proofs Go.Spec
set_option linter.unusedVariables false
/-- The same reads, where there is enough. -/
def gt19 (xs : List AV) (bs : List ABlk) : TL := match xs, bs with
  | [.ptr 0 0 0 0, .int .i64 m], [⟨.cells [.slice 1 x 1 n .ox .unk, .int .i64 0], true, 0⟩, ⟨.bytes L, true, 1⟩] =>
    .ok ⟨[x + n = L.length, L.length < 1099511627776, 0 ≤ m, x + m.toNat ≤ L.length], .slice 2 0 1 m.toNat .ow .unk, [some (some (rdC (x + m.toNat) (L.length - (x + m.toNat)) 0)), some (some (rdL L))], [⟨.bytes (cutB L x m.toNat), true, 1⟩]⟩
  | _, _ => .no
theorem obs4 {a b c d : Prop} (h : obsT [a, b, c, d]) : a ∧ b ∧ c ∧ d := by
  obtain ⟨h1, h⟩ := obsT_cons.1 h
  obtain ⟨h2, h⟩ := obsT_cons.1 h
  obtain ⟨h3, h⟩ := obsT_cons.1 h
  exact ⟨h1, h2, h3, obsT_one.1 h⟩
theorem ct19 : COK Tryd.prog gl0 47 (mkF (reSp 2 gt19)) := by
  refine ctrE (fn := Tryd.f47) [] 3000 (by kernel_rfl) (by kernel_rfl) okQz4 (by kernel_rfl) (fun args w => by kernel_rfl) fun xs bs r hs ho => ?_
  replace hs : (gt19 xs bs).sel = some r := hs
  unfold gt19 at hs
  split at hs
  · rename_i m x n L
    simp only [TL.sel, Option.some.injEq] at hs
    subst hs
    obtain ⟨h1, h2, h3, h4⟩ := obs4 ho
    obtain ⟨k1, k2, k3⟩ := rd_ok h3 h4
    have h := bq19 L x n 0 m h1 h2
    rw [k1, k2, k3, cutB_eq h4, cutB_len] at h
    exact ⟨_, h⟩
  · simp [TL.sel] at hs
def gt18 (xs : List AV) (bs : List ABlk) : TL := match xs, bs with
  | [.ptr 0 0 0 0, .int .i64 w], [⟨.cells [.slice 1 x 1 n .ox .unk, .int .i64 0], true, 0⟩, ⟨.bytes L, true, 1⟩] =>
    .ok ⟨[x + n = L.length, L.length < 1099511627776, 1 ≤ w ∧ w ≤ 4, x + w.toNat ≤ L.length], .int .i64 (beN (cutB L x w.toNat)), [some (some (rdC (x + w.toNat) (L.length - (x + w.toNat)) 0)), some (some (rdL L))], []⟩
  | _, _ => .no
theorem ct18 : COK Tryd.prog gl0 48 (mkF (reSp 2 gt18)) := by
  refine ctrE (fn := Tryd.f48) [] 3000 (by kernel_rfl) (by kernel_rfl) okQz6 (by kernel_rfl) (fun args w => by kernel_rfl) fun xs bs r hs ho => ?_
  replace hs : (gt18 xs bs).sel = some r := hs
  unfold gt18 at hs
  split at hs
  · rename_i w x n L
    simp only [TL.sel, Option.some.injEq] at hs
    subst hs
    obtain ⟨h1, h2, h3, h4⟩ := obs4 ho
    obtain ⟨k1, k2, k3⟩ := ui_ok h3.1 h3.2 h4
    have h := bq18 L x n 0 w h1 h2
    rw [k1, k2, k3, cutB_eq h4] at h
    exact ⟨_, h⟩
  · simp [TL.sel] at hs
theorem ve_ok {L : By} {x : Nat} {w a z : Int} (h1 : 1 ≤ w) (h4 : w ≤ 4) (h : x + w.toNat ≤ L.length) (k : Nat) (hk : k = beN (cutB L x w.toNat)) (ha : a ≤ (k : Int)) (hz : (k : Int) ≤ z) (hl : x + w.toNat + k ≤ L.length) :
    veE L x 0 w a z = 0 ∧ veX L x 0 w = x + w.toNat + k ∧ veB L x 0 w a z = cutB L (x + w.toNat) k := by
  obtain ⟨k1, k2, k3⟩ := ui_ok h1 h4 h
  rw [cutB_eq h, ← hk] at k3
  obtain ⟨j1, j2, j3⟩ := rd_ok (L := L) (x := x + w.toNat) (m := (k : Int)) (by omega) (by simpa using hl)
  have hE : veE L x 0 w a z = 0 := by
    unfold veE
    rw [k1, k2, k3, j1, if_neg (by simp), if_neg (by omega)]
  refine ⟨hE, ?_, ?_⟩
  · unfold veX
    rw [k1, k2, k3, j2]
    simp
  · unfold veB
    rw [if_pos hE, k1, k2, k3, j3]
    simp only [Int.toNat_natCast]
    exact cutB_eq hl
def gt20 (xs : List AV) (bs : List ABlk) : TL := match xs, bs with
  | [.ptr 0 0 0 0, .int .i64 w, .int .i64 a, .int .i64 z], [⟨.cells [.slice 1 x 1 n .ox .unk, .int .i64 0], true, 0⟩, ⟨.bytes L, true, 1⟩] =>
    .ok ⟨[x + n = L.length, L.length < 1099511627776, 1 ≤ w ∧ w ≤ 4, x + w.toNat + beN (cutB L x w.toNat) ≤ L.length ∧ a ≤ (beN (cutB L x w.toNat) : Int) ∧ (beN (cutB L x w.toNat) : Int) ≤ z], .slice 2 0 1 (beN (cutB L x w.toNat)) .ow .unk, [some (some (rdC (x + w.toNat + beN (cutB L x w.toNat)) (L.length - (x + w.toNat + beN (cutB L x w.toNat))) 0)), some (some (rdL L))], [⟨.bytes (cutB L (x + w.toNat) (beN (cutB L x w.toNat))), true, 1⟩]⟩
  | _, _ => .no
theorem ct20 : COK Tryd.prog gl0 26 (mkF (reSp 4 gt20)) := by
  refine ctrE (fn := Tryd.f26) [] 3000 (by kernel_rfl) (by kernel_rfl) okQz7 (by kernel_rfl) (fun args w => by kernel_rfl) fun xs bs r hs ho => ?_
  replace hs : (gt20 xs bs).sel = some r := hs
  unfold gt20 at hs
  split at hs
  · rename_i w a z x n L
    simp only [TL.sel, Option.some.injEq] at hs
    subst hs
    obtain ⟨h1, h2, h3, h4, h5, h6⟩ := obs4 ho
    obtain ⟨k1, k2, k3⟩ := ve_ok (L := L) (x := x) (w := w) (a := a) (z := z) h3.1 h3.2 (by omega) _ rfl h5 h6 h4
    have h := bq20 L x n 0 w a z h1 h2
    rw [k1, k2, k3, cutB_len] at h
    exact ⟨_, h⟩
  · simp [TL.sel] at hs
def gt22 (xs : List AV) (bs : List ABlk) : TL := match xs, bs with
  | [.ptr 0 0 0 0], [⟨.cells [.slice 1 x 1 n .ox .unk, .int .i64 0], true, 0⟩, ⟨.bytes L, true, 1⟩] =>
    .ok ⟨[n = 0], .int .i64 0, [some (some (rdC x n 0)), some (some (rdL L))], []⟩
  | _, _ => .no
theorem ct22 : COK Tryd.prog gl0 29 (mkF (reSp 1 gt22)) := by
  refine ctrE (fn := Tryd.f29) [] 3000 (by kernel_rfl) (by kernel_rfl) okQz7 (by kernel_rfl) (fun args w => by kernel_rfl) fun xs bs r hs ho => ?_
  replace hs : (gt22 xs bs).sel = some r := hs
  unfold gt22 at hs
  split at hs
  · rename_i x n L
    simp only [TL.sel, Option.some.injEq] at hs
    subst hs
    have h1 := obsT_one.1 ho
    subst h1
    exact ⟨_, bq22 L x 0 0⟩
  · simp [TL.sel] at hs
/-- The same calls, where there is room. -/
def gt30 (xs : List AV) (bs : List ABlk) : TL := match xs, bs with
  | [.rb false b .unk, .int .i64 n, .int .i64 w], [] => .ok ⟨[b.length < 1099511627776, puBad n w = false], .slice 0 0 1 (b.length + w.toNat) .ow (.is false), [], [⟨.bytes (puB b n w), true, 1⟩]⟩
  | _, _ => .no
def spt30 : Spec := ⟨[.by0, .kp, .kp], fun _ _ => [], fun _ _ => [], gt30⟩
theorem ct30 : COK Tryd.prog gl0 46 (mkF spt30) := by
  refine ctrE (fn := Tryd.f46) [] 3000 (by kernel_rfl) (by kernel_rfl) okQz11 (by kernel_rfl) (fun args w => by kernel_rfl) fun xs bs r hs ho => ?_
  replace hs : (gt30 xs bs).sel = some r := hs
  unfold gt30 at hs
  split at hs
  · simp only [TL.sel, Option.some.injEq] at hs
    subst hs
    obtain ⟨h1, h2⟩ := obsT_cons.1 ho
    exact ⟨_, bq30g _ _ _ h1 (obsT_one.1 h2)⟩
  · simp [TL.sel] at hs
set_option maxRecDepth 100000 in
theorem vq31g (b v B : By) (k : Nat) (w : Int) : bodyP Tryd.prog Qz12 gl0 [] [] 3000 Tryd.f24 0 [.rb false b .unk, .rb false v .unk, .int .i64 w] [] (retQ Tryd.prog Tryd.f24 0 (rN2 .any k B)) = (
@Bool.rec (fun _ => Prop) (List.length b < 1099511627776 ∧ List.length b + w.toNat = List.length (puB b (↑(List.length v) : Int) w) ∧ roomFor (List.length b + w.toNat) (List.length v) 1 ∧ Bool.false = (Bool.false && decide (List.length v = 0)) ∧ 0 = 0 ∧ 0 = 0 ∧ 0 = 0 ∧ k = List.length b + w.toNat + List.length v ∧ B = puB b (↑(List.length v) : Int) w ++ v ∧ True) (List.length b < 1099511627776 ∧ Bool.false = Bool.true ∧ k = 0 ∧ B = [] ∧ True) (puBad (↑(List.length v) : Int) w) : Prop) := by kernel_rfl
theorem puB_lenq (b : By) (n w : Int) : (puB b n w).length = b.length + w.toNat := by simp [puB, puL_len]
theorem bq31g (b v : By) (w : Int) (hb : b.length + v.length < 549755813888) (h : puBad v.length w = false) : Must (bodyP Tryd.prog Qz12 gl0 [] [] 3000 Tryd.f24 0 [.rb false b .unk, .rb false v .unk, .int .i64 w] [] (retQ Tryd.prog Tryd.f24 0 (rN2 .any (b.length + w.toNat + v.length) (pvB b v w)))) := by
  constructor
  rw [vq31g]
  have hw : w.toNat ≤ 4 := by
    simp only [puBad, Bool.or_eq_false_iff, Bool.not_eq_false', decide_eq_true_eq] at h
    have := h.1.1.2
    omega
  simp only [h]
  refine ⟨by omega, (puB_lenq _ _ _).symm, by unfold roomFor; omega, ?_⟩
  and_intros <;> trivial
def gt31 (xs : List AV) (bs : List ABlk) : TL := match xs, bs with
  | [.rb false b .unk, .rb false v .unk, .int .i64 w], [] => .ok ⟨[b.length + v.length < 549755813888, puBad v.length w = false], .slice 0 0 1 (b.length + w.toNat + v.length) .ow (.is false), [], [⟨.bytes (pvB b v w), true, 1⟩]⟩
  | _, _ => .no
def spt31 : Spec := ⟨[.by0, .by0, .kp], fun _ _ => [], fun _ _ => [], gt31⟩
theorem ct31 : COK Tryd.prog gl0 24 (mkF spt31) := by
  refine ctrE (fn := Tryd.f24) [] 3000 (by kernel_rfl) (by kernel_rfl) okQz12 (by kernel_rfl) (fun args w => by kernel_rfl) fun xs bs r hs ho => ?_
  replace hs : (gt31 xs bs).sel = some r := hs
  unfold gt31 at hs
  split at hs
  · simp only [TL.sel, Option.some.injEq] at hs
    subst hs
    obtain ⟨h1, h2⟩ := obsT_cons.1 ho
    exact ⟨_, bq31g _ _ _ h1 (obsT_one.1 h2)⟩
  · simp [TL.sel] at hs
end Go.Sym

namespace Go.Spec
open Go.Sym
/-- Numbers of two bytes, one behind the other. -/
def chN (L : Nat → Int) : Nat → By
  | 0 => []
  | j + 1 => puB (chN L j) (L j) 2
theorem chN_len (L : Nat → Int) : ∀ j, (chN L j).length = 2 * j
  | 0 => rfl
  | j + 1 => by rw [chN, Go.Sym.puB_lenq, chN_len L j]; show 2 * j + 2 = _; omega
def isU (L : Nat → Int) (n : Nat) : Prop := ∀ j, j < n → 0 ≤ L j ∧ L j ≤ 65535
end Go.Spec
namespace Go.Sym
open Go.Proofs Go.Spec
set_option linter.unusedVariables false
noncomputable def Hp1 : Ctx := (Qz12.add 46 (mkF spt30)).add 24 (mkF spt31)
theorem okHp1 : COKs Tryd.prog gl0 Hp1 := (okQz12.add ct30).add ct31
def inR (p : Bool) (n : Nat) (L : Nat → Int) (nl : NL) : AV := .ros p 1 n (fun j => [.int .i64 (L j)]) nl
def lsN (p : Bool) (n : Nat) (L : Nat → Int) (nl : NL) : LS := ⟨Nat, fun j => [(3, .slice 100 0 1 (chN L j).length .ow .unk), (6, inR p n L .unk), (7, .int .i64 n), (8, .int .i64 j)], fun j => [(100, ⟨.bytes (chN L j), true, 1⟩)], 1000, fun j => n - j, fun j => j ≤ n, fun _ => []⟩
def rNu (k : Nat) (B : By) : RL := ⟨[], .slice 0 0 1 k .ow .unk, [], [⟨.bytes B, true, 1⟩]⟩
end Go.Sym

namespace Go.Sym
open Go.Proofs Go.Spec
set_option linter.unusedVariables false
set_option maxRecDepth 100000 in
theorem vn80 (n : Nat) (L : Nat → Int) (c : NL) (k : Nat) (B : By) : bodyP Tryd.prog Hp1 gl0 [] [(4, lsN true n L c)] 3000 Tryd.f77 0 [inR true n L c] [] (retQ Tryd.prog Tryd.f77 0 (rNu k B)) = (
(∃ (x : Nat), x.le n ∧ List.length (chN L x) = 0 ∧ n = n ∧ (∀ (y : Nat), y < n → datas Bool.true [AV.int IntKind.i64 (L y)] = Bool.true ∧ L y = L y ∧ True) ∧ (n : Int) = (n : Int) ∧ (x : Int) = (0 : Int) ∧ chN L x = [] ∧ True) ∧ ∀ (x : Nat), x.le n → @Bool.rec (fun _ => Prop) (0 = 0 ∧ 0 = 0 ∧ 0 = 0 ∧ k = List.length (chN L x) ∧ B = chN L x ∧ True) ((0 : Int) ≤ (x : Int) ∧ (x : Int).toNat < n ∧ List.length (chN L x) = List.length (chN L x) ∧ List.length (chN L x) < 1099511627776 ∧ puBad (L (x : Int).toNat) (2 : Int) = Bool.false ∧ ∃ (y : Nat), n - y < n - x ∧ y.le n ∧ 0 = 0 ∧ 0 = 0 ∧ 0 = 0 ∧ List.length (chN L y) = List.length (chN L x) + 2 ∧ n = n ∧ (∀ (y : Nat), y < n → datas Bool.true [AV.int IntKind.i64 (L y)] = Bool.true ∧ L y = L y ∧ True) ∧ (n : Int) = (n : Int) ∧ (y : Int) = IntKind.i64.wrap ((x : Int) + (1 : Int)) ∧ chN L y = puB (chN L x) (L (x : Int).toNat) (2 : Int) ∧ True) (decide ((x : Int) < (n : Int)))) := by kernel_rfl
theorem puBad2 {n : Int} (h : 0 ≤ n ∧ n ≤ 65535) : puBad n 2 = false := by
  simp only [puBad, Bool.or_eq_false_iff, Bool.not_eq_false', decide_eq_true_eq, decide_eq_false_iff_not]
  refine ⟨⟨⟨by omega, by omega⟩, by omega⟩, ?_⟩
  have e : (256 : Int) ^ (2 : Int).toNat = 65536 := rfl
  rw [e]
  omega
theorem bn80 (n : Nat) (L : Nat → Int) (c : NL) (hn : n < 1099511627) (h : isU L n) : Must (bodyP Tryd.prog Hp1 gl0 [] [(4, lsN true n L c)] 3000 Tryd.f77 0 [inR true n L c] [] (retQ Tryd.prog Tryd.f77 0 (rNu (chN L n).length (chN L n)))) := by
  constructor
  rw [vn80]
  refine ⟨⟨0, Nat.zero_le _, rfl, rfl, fun _ _ => ⟨rfl, rfl, trivial⟩, rfl, rfl, rfl, trivial⟩, fun x hx => ?_⟩
  have hx : x ≤ n := hx
  have hl := chN_len L x
  refine brec (fun d => ?_) (fun d => ?_)
  · have d : (x : Int) < n := of_decide_eq_true d
    rw [Int.toNat_natCast]
    refine ⟨Int.natCast_nonneg _, by omega, rfl, by omega, puBad2 (h x (by omega)), x + 1, by omega, (by show x + 1 ≤ n; omega), rfl, rfl, rfl, ?_, rfl, fun _ _ => ⟨rfl, rfl, trivial⟩, rfl, (wrap_nat (x + 1) (by omega) (by omega)).symm, rfl, trivial⟩
    rw [chN_len, chN_len]
    omega
  · have d : ¬ (x : Int) < n := of_decide_eq_false d
    obtain rfl : x = n := by omega
    exact ⟨rfl, rfl, rfl, rfl, rfl, trivial⟩
def rowI (g : Nat → List AV) (j : Nat) : Int := match g j with | [.int .i64 l] => l | _ => 0
def isRowI (g : Nat → List AV) : Prop := g = fun j => [.int .i64 (rowI g j)]
def gn80 (xs : List AV) (bs : List ABlk) : TL := match xs, bs with
  | [.ros true 1 n g nl], [] => .ok ⟨[isRowI g, n < 1099511627, isU (rowI g) n], .slice 0 0 1 (chN (rowI g) n).length .ow .unk, [], [⟨.bytes (chN (rowI g) n), true, 1⟩]⟩
  | _, _ => .no
def spn80 : Spec := ⟨[.r 1], fun _ _ => [], fun _ _ => [], gn80⟩
theorem obs3 {a b c : Prop} (h : obsT [a, b, c]) : a ∧ b ∧ c := by
  obtain ⟨h1, h⟩ := obsT_cons.1 h
  obtain ⟨h2, h⟩ := obsT_cons.1 h
  exact ⟨h1, h2, obsT_one.1 h⟩
theorem cn80 : COK Tryd.prog gl0 77 (mkF spn80) := by
  refine ctrE (fn := Tryd.f77) [] 3000 (by kernel_rfl) (by kernel_rfl) okHp1 (by kernel_rfl) (fun args w => by kernel_rfl) fun xs bs r hs ho => ?_
  replace hs : (gn80 xs bs).sel = some r := hs
  unfold gn80 at hs
  split at hs
  · rename_i n g nl
    simp only [TL.sel, Option.some.injEq] at hs
    subst hs
    obtain ⟨h, h1, h2⟩ := obs3 ho
    have hb := bn80 n (rowI g) nl h1 h2
    have e : inR true n (rowI g) nl = .ros true 1 n g nl := by
      show AV.ros true 1 n (fun j => [.int .i64 (rowI g j)]) nl = _
      rw [← h]
    refine ⟨[(4, lsN true n (rowI g) nl)], ?_⟩
    rw [e] at hb
    exact hb
  · simp [TL.sel] at hs
noncomputable def Hp2 : Ctx := Hp1.add 77 (mkF spn80)
theorem okHp2 : COKs Tryd.prog gl0 Hp2 := okHp1.add cn80
end Go.Sym

namespace Go.Sym
open Go.Proofs Go.Spec
set_option linter.unusedVariables false
def fn8 (l : List (BitVec 8)) : Nat → BitVec 8 := fun i => l.getD i 0
theorem agB_of {n : Nat} {cs : List AV} {l : List (BitVec 8)} (h : rdU8 cs = some l) (hl : (l.length == n) = true) : AV.agg cs = aggB n (fn8 l) := by
  have hl : l.length = n := by simpa using hl
  rw [rdU8_eq h]
  unfold aggB
  congr 1
  apply List.ext_getElem
  · simp [hl]
  · intro i h1 h2
    have : i < l.length := by simpa using h1
    simp [fn8, List.getD, this]
def asB (n : Nat) (cs : List AV) (k : (Nat → BitVec 8) → TL) : TL := match rdU8 cs with | some l => (match l.length == n with | true => k (fn8 l) | false => .no) | none => .no
theorem asB_sel {n : Nat} {cs : List AV} {k : (Nat → BitVec 8) → TL} {r : RL} (h : (asB n cs k).sel = some r) : ∃ f, AV.agg cs = aggB n f ∧ (k f).sel = some r := by
  unfold asB at h
  split at h
  · rename_i l hl
    split at h
    · rename_i hn
      exact ⟨_, agB_of hl hn, h⟩
    · simp [TL.sel] at h
  · simp [TL.sel] at h
end Go.Sym

namespace Go.Spec
open Go.Sym
/-- An extension behind what stands. -/
def exB (all : By) (k : Int) (b : By) : By := pvB (puB all k 2) b 2
theorem pvB_len (b v : By) (w : Int) : (pvB b v w).length = b.length + w.toNat + v.length := by rw [pvB, List.length_append, Go.Sym.puB_lenq]
theorem exB_len (all : By) (k : Int) (b : By) : (exB all k b).length = all.length + 4 + b.length := by
  rw [exB, pvB_len, Go.Sym.puB_lenq]
  show all.length + 2 + 2 + b.length = _
  omega
/-- What both greetings begin with. -/
def hdB (R : Nat → BitVec 8) (s : By) : By := pvB (puB [] 771 2 ++ rg 32 R) s 1
end Go.Spec
namespace Go.Sym
open Go.Proofs Go.Spec
set_option linter.unusedVariables false
theorem vn83 (a b : By) (d : Int) (k : Nat) (B : By) : bodyP Tryd.prog Hp2 gl0 [] [] 3000 Tryd.f80 0 [.rb false a .unk, .int .i64 d, .rb false b .unk] [] (retQ Tryd.prog Tryd.f80 0 (rNu k B)) = (
List.length a < 1099511627776 ∧ puBad d (2 : Int) = Bool.false ∧ List.length a + 2 = List.length (puB a d (2 : Int)) ∧ List.length (puB a d (2 : Int)) + List.length b < 549755813888 ∧ puBad (List.length b : Int) (2 : Int) = Bool.false ∧ 0 = 0 ∧ 0 = 0 ∧ 0 = 0 ∧ k = List.length (puB a d (2 : Int)) + 2 + List.length b ∧ B = pvB (puB a d (2 : Int)) b (2 : Int) ∧ True) := by kernel_rfl
theorem vn78 (R : Nat → BitVec 8) (s : By) (k : Nat) (B : By) : bodyP Tryd.prog Hp2 gl0 [] [] 3000 Tryd.f76 0 [aggB 32 R, .rb false s .unk] [] (retQ Tryd.prog Tryd.f76 0 (rNu k B)) = (
0 < 1099511627776 ∧ Bool.false = Bool.false ∧ 2 = 2 ∧ roomFor 2 (rg 32 R).length 1 ∧ 2 + (rg 32 R).length = (puB [] (771 : Int) (2 : Int) ++ rg 32 R).length ∧ (puB [] (771 : Int) (2 : Int) ++ rg 32 R).length + List.length s < 549755813888 ∧ puBad (List.length s : Int) (1 : Int) = Bool.false ∧ 0 = 0 ∧ 0 = 0 ∧ 0 = 0 ∧ k = (puB [] (771 : Int) (2 : Int) ++ rg 32 R).length + 1 + List.length s ∧ B = pvB (puB [] (771 : Int) (2 : Int) ++ rg 32 R) s (1 : Int) ∧ True) := by kernel_rfl
theorem bn83 (a b : By) (d : Int) (ha : a.length + b.length < 549755813000) (hd : puBad d 2 = false) (hb : puBad b.length 2 = false) : Must (bodyP Tryd.prog Hp2 gl0 [] [] 3000 Tryd.f80 0 [.rb false a .unk, .int .i64 d, .rb false b .unk] [] (retQ Tryd.prog Tryd.f80 0 (rNu (exB a d b).length (exB a d b)))) := by
  constructor
  rw [vn83, puB_lenq, exB_len]
  have e : (2 : Int).toNat = 2 := rfl
  rw [e]
  exact ⟨by omega, hd, rfl, by omega, hb, rfl, rfl, rfl, by omega, rfl, trivial⟩
theorem bn78 (R : Nat → BitVec 8) (s : By) (hs : puBad s.length 1 = false) (hl : s.length < 549755813000) : Must (bodyP Tryd.prog Hp2 gl0 [] [] 3000 Tryd.f76 0 [aggB 32 R, .rb false s .unk] [] (retQ Tryd.prog Tryd.f76 0 (rNu (hdB R s).length (hdB R s)))) := by
  constructor
  rw [vn78, hdB, pvB_len, List.length_append, puB_lenq, rg_length]
  have e : (2 : Int).toNat = 2 := rfl
  have e1 : (1 : Int).toNat = 1 := rfl
  have e0 : ([] : By).length = 0 := rfl
  rw [e, e1, e0]
  exact ⟨by omega, rfl, rfl, by unfold roomFor; omega, rfl, by omega, hs, rfl, rfl, rfl, rfl, rfl, trivial⟩
def gn83 (xs : List AV) (bs : List ABlk) : TL := match xs, bs with
  | [.rb false a .unk, .int .i64 d, .rb false b .unk], [] => .ok ⟨[a.length + b.length < 549755813000, puBad d 2 = false, puBad b.length 2 = false], .slice 0 0 1 (exB a d b).length .ow .unk, [], [⟨.bytes (exB a d b), true, 1⟩]⟩
  | _, _ => .no
def spn83 : Spec := ⟨[.by0, .kp, .by0], fun _ _ => [], fun _ _ => [], gn83⟩
theorem cn83 : COK Tryd.prog gl0 80 (mkF spn83) := by
  refine ctrE (fn := Tryd.f80) [] 3000 (by kernel_rfl) (by kernel_rfl) okHp2 (by kernel_rfl) (fun args w => by kernel_rfl) fun xs bs r hs ho => ?_
  replace hs : (gn83 xs bs).sel = some r := hs
  unfold gn83 at hs
  split at hs
  · simp only [TL.sel, Option.some.injEq] at hs
    subst hs
    obtain ⟨h, h1, h2⟩ := obs3 ho
    exact ⟨_, bn83 _ _ _ h h1 h2⟩
  · simp [TL.sel] at hs
def gn78 (xs : List AV) (bs : List ABlk) : TL := match xs, bs with
  | [.agg cs, .rb false s .unk], [] => asB 32 cs fun R => .ok ⟨[puBad s.length 1 = false, s.length < 549755813000], .slice 0 0 1 (hdB R s).length .ow .unk, [], [⟨.bytes (hdB R s), true, 1⟩]⟩
  | _, _ => .no
def spn78 : Spec := ⟨[.kp, .by0], fun _ _ => [], fun _ _ => [], gn78⟩
theorem cn78 : COK Tryd.prog gl0 76 (mkF spn78) := by
  refine ctrE (fn := Tryd.f76) [] 3000 (by kernel_rfl) (by kernel_rfl) okHp2 (by kernel_rfl) (fun args w => by kernel_rfl) fun xs bs r hs ho => ?_
  replace hs : (gn78 xs bs).sel = some r := hs
  unfold gn78 at hs
  split at hs
  · obtain ⟨R, e, hs⟩ := asB_sel hs
    simp only [TL.sel, Option.some.injEq] at hs
    subst hs
    obtain ⟨h, h1⟩ := obsT_cons.1 ho
    rw [e]
    exact ⟨_, bn78 _ _ h (obsT_one.1 h1)⟩
  · simp [TL.sel] at hs
noncomputable def Hp3 : Ctx := (Hp2.add 80 (mkF spn83)).add 76 (mkF spn78)
theorem okHp3 : COKs Tryd.prog gl0 Hp3 := (okHp2.add cn83).add cn78
end Go.Sym

namespace Go.Spec
open Go.Sym
/-- An extension of one list, if there is something in it. -/
def liB (a : By) (k w : Int) (l : By) : By := if l.length = 0 then a else exB a k (pvB [] l w)
end Go.Spec
namespace Go.Sym
open Go.Proofs Go.Spec
set_option linter.unusedVariables false
def ioOwn (xs : List AV) (h : H) : List Nat := match xs with | .slice i 0 1 _ .ow _ :: _ => [i] | _ => []
def r81 (np : Nat) (io : List (Option (Option ABlk))) (k : Nat) (m : By) : RL := ⟨[], .slice np 0 1 k .ow .unk, io, [⟨.bytes m, true, 1⟩]⟩
theorem vn81n (l : By) (d w : Int) (k : Nat) (B : By) : bodyP Tryd.prog Hp3 gl0 [] [] 3000 Tryd.f78 0 [.nils, .int .i64 d, .int .i64 w, .rb false l .unk] [] (retQ Tryd.prog Tryd.f78 0 (r81 0 [] k B)) = (
@Bool.rec (fun _ => Prop) (0 + List.length l < 549755813888 ∧ puBad (List.length l : Int) w = Bool.false ∧ 0 + w.toNat + List.length l = List.length (pvB [] l w) ∧ 0 + List.length (pvB [] l w) < 549755813000 ∧ puBad d (2 : Int) = Bool.false ∧ puBad (List.length (pvB [] l w) : Int) (2 : Int) = Bool.false ∧ 0 = 0 ∧ 0 = 0 ∧ 0 = 0 ∧ k = List.length (exB [] d (pvB [] l w)) ∧ B = exB [] d (pvB [] l w) ∧ True) (k = 0 ∧ B = [] ∧ True) (decide ((List.length l : Int) = (0 : Int)))) := by kernel_rfl
theorem vn81 (a l : By) (d w : Int) (L k : Nat) (B : By) : bodyP Tryd.prog Hp3 gl0 [] [] 3000 Tryd.f78 1 [.slice 0 0 1 L .ow .unk, .int .i64 d, .int .i64 w, .rb false l .unk] [⟨.bytes a, true, 1⟩] (retQ Tryd.prog Tryd.f78 1 (r81 1 [some none] k B)) = (
@Bool.rec (fun _ => Prop) (0 + List.length l < 549755813888 ∧ puBad (List.length l : Int) w = Bool.false ∧ L = List.length a ∧ 0 + w.toNat + List.length l = List.length (pvB [] l w) ∧ List.length a + List.length (pvB [] l w) < 549755813000 ∧ puBad d (2 : Int) = Bool.false ∧ puBad (List.length (pvB [] l w) : Int) (2 : Int) = Bool.false ∧ 0 = 0 ∧ 0 = 0 ∧ 0 = 0 ∧ k = List.length (exB a d (pvB [] l w)) ∧ B = exB a d (pvB [] l w) ∧ True) (0 = 0 ∧ 0 = 0 ∧ 0 = 0 ∧ k = L ∧ B = a ∧ True) (decide ((List.length l : Int) = (0 : Int)))) := by kernel_rfl
def liOk (d w : Int) (l : By) : Prop := puBad d 2 = false ∧ (w = 1 ∨ w = 2) ∧ puBad l.length w = false ∧ l.length ≤ 60000
theorem liP_len {d w : Int} {l : By} (h : liOk d w l) : (pvB [] l w).length = w.toNat + l.length ∧ w.toNat ≤ 2 ∧ puBad (pvB [] l w).length 2 = false := by
  obtain ⟨_, h2, _, h4⟩ := h
  have hw : w.toNat ≤ 2 := by rcases h2 with rfl | rfl <;> decide
  have e : (pvB [] l w).length = w.toNat + l.length := by rw [pvB_len]; simp
  exact ⟨e, hw, puBad2 (by rw [e]; omega)⟩
theorem bn81n (l : By) (d w : Int) (h : liOk d w l) : Must (bodyP Tryd.prog Hp3 gl0 [] [] 3000 Tryd.f78 0 [.nils, .int .i64 d, .int .i64 w, .rb false l .unk] [] (retQ Tryd.prog Tryd.f78 0 (r81 0 [] (liB [] d w l).length (liB [] d w l)))) := by
  constructor
  rw [vn81n]
  obtain ⟨e, hw, hb⟩ := liP_len h
  have h4 := h.2.2.2
  refine brec (fun c => ?_) (fun c => ?_)
  · have c : (l.length : Int) = 0 := of_decide_eq_true c
    have c : l.length = 0 := by omega
    rw [liB, if_pos c]
    exact ⟨rfl, rfl, trivial⟩
  · have c : ¬ (l.length : Int) = 0 := of_decide_eq_false c
    have c : ¬ l.length = 0 := by omega
    rw [liB, if_neg c]
    exact ⟨by omega, h.2.2.1, by omega, by omega, h.1, hb, rfl, rfl, rfl, rfl, rfl, trivial⟩
theorem bn81 (a l : By) (d w : Int) (L : Nat) (hL : L = a.length) (ha : a.length < 549755000000) (h : liOk d w l) : Must (bodyP Tryd.prog Hp3 gl0 [] [] 3000 Tryd.f78 1 [.slice 0 0 1 L .ow .unk, .int .i64 d, .int .i64 w, .rb false l .unk] [⟨.bytes a, true, 1⟩] (retQ Tryd.prog Tryd.f78 1 (r81 1 [some none] (liB a d w l).length (liB a d w l)))) := by
  constructor
  rw [vn81]
  obtain ⟨e, hw, hb⟩ := liP_len h
  have h4 := h.2.2.2
  refine brec (fun c => ?_) (fun c => ?_)
  · have c : (l.length : Int) = 0 := of_decide_eq_true c
    have c : l.length = 0 := by omega
    rw [liB, if_pos c]
    exact ⟨rfl, rfl, rfl, hL.symm, rfl, trivial⟩
  · have c : ¬ (l.length : Int) = 0 := of_decide_eq_false c
    have c : ¬ l.length = 0 := by omega
    rw [liB, if_neg c]
    exact ⟨by omega, h.2.2.1, hL, by omega, by omega, h.1, hb, rfl, rfl, rfl, rfl, rfl, trivial⟩
def gn81 (xs : List AV) (bs : List ABlk) : TL := match xs, bs with
  | [.nils, .int .i64 d, .int .i64 w, .rb false l .unk], [] => .ok ⟨[liOk d w l], .slice 0 0 1 (liB [] d w l).length .ow .unk, [], [⟨.bytes (liB [] d w l), true, 1⟩]⟩
  | [.slice 0 0 1 L .ow .unk, .int .i64 d, .int .i64 w, .rb false l .unk], [⟨.bytes a, true, 1⟩] => .ok ⟨[L = a.length, a.length < 549755000000, liOk d w l], .slice 1 0 1 (liB a d w l).length .ow .unk, [some none], [⟨.bytes (liB a d w l), true, 1⟩]⟩
  | _, _ => .no
def spn81 : Spec := ⟨[.kp, .kp, .kp, .by0], ioOwn, fun _ l => l.map fun _ => [], gn81⟩
theorem cn81 : COK Tryd.prog gl0 78 (mkF spn81) := by
  refine ctrE (fn := Tryd.f78) [] 3000 (by kernel_rfl) (by kernel_rfl) okHp3 (by kernel_rfl) (fun args w => by kernel_rfl) fun xs bs r hs ho => ?_
  replace hs : (gn81 xs bs).sel = some r := hs
  unfold gn81 at hs
  split at hs
  · simp only [TL.sel, Option.some.injEq] at hs
    subst hs
    exact ⟨_, bn81n _ _ _ (obsT_one.1 ho)⟩
  · simp only [TL.sel, Option.some.injEq] at hs
    subst hs
    obtain ⟨h, h1, h2⟩ := obs3 ho
    exact ⟨_, bn81 _ _ _ _ _ h h1 h2⟩
  · simp [TL.sel] at hs
noncomputable def Hp4 : Ctx := Hp3.add 78 (mkF spn81)
theorem okHp4 : COKs Tryd.prog gl0 Hp4 := okHp3.add cn81
end Go.Sym

namespace Go.Spec
open Go.Sym
/-- Shares, one behind the other; tickets, and what is behind them. -/
def chSh (G : Nat → Int) (K : Nat → By) : Nat → By
  | 0 => []
  | j + 1 => pvB (puB (chSh G K j) (G j) 2) (K j) 2
def chT (T : Nat → By) (A : Nat → Int) : Nat → By
  | 0 => []
  | j + 1 => puB (pvB (chT T A j) (T j) 2) (A j) 4
def chD (D : Nat → By) : Nat → By
  | 0 => []
  | j + 1 => pvB (chD D j) (D j) 1
end Go.Spec
namespace Go.Sym
open Go.Proofs Go.Spec
set_option linter.unusedVariables false
def shR (p : Bool) (n : Nat) (G : Nat → Int) (K : Nat → By) (C : Nat → Bool) (nl : NL) : AV := .ros p 2 n (fun j => [.int .i64 (G j), .rb true (K j) (.is (C j))]) nl
def idR (p : Bool) (n : Nat) (T : Nat → By) (A : Nat → Int) (C : Nat → Bool) (nl : NL) : AV := .ros p 2 n (fun j => [.rb true (T j) (.is (C j)), .int .i64 (A j)]) nl
def biR (p : Bool) (n : Nat) (D : Nat → By) (C : Nat → Bool) (nl : NL) : AV := .ros p 1 n (fun j => [.rb true (D j) (.is (C j))]) nl
def lsSh (p : Bool) (n : Nat) (G : Nat → Int) (K : Nat → By) (C : Nat → Bool) : LS := ⟨Nat, fun j => [(3, .slice 100 0 1 (chSh G K j).length .ow .unk), (6, shR p n G K C .unk), (7, .int .i64 n), (8, .int .i64 j)], fun j => [(100, ⟨.bytes (chSh G K j), true, 1⟩)], 1000, fun j => n - j, fun j => j ≤ n, fun _ => []⟩
def lsId (p : Bool) (n : Nat) (T : Nat → By) (A : Nat → Int) (C : Nat → Bool) (q : Bool) (D : Nat → By) (E : Nat → Bool) : LS := ⟨Nat, fun j => [(1, biR q n D E .unk), (5, .slice 100 0 1 (chT T A j).length .ow .unk), (6, .slice 101 0 1 (chD D j).length .ow .unk), (9, idR p n T A C .unk), (10, .int .i64 n), (11, .int .i64 j)], fun j => [(100, ⟨.bytes (chT T A j), true, 1⟩), (101, ⟨.bytes (chD D j), true, 1⟩)], 1000, fun j => n - j, fun j => j ≤ n, fun _ => []⟩
end Go.Sym

namespace Go.Spec
open Go.Sym
def shOk (n : Nat) (G : Nat → Int) (K : Nat → By) : Prop := n ≤ 4 ∧ ∀ j, j < n → (0 ≤ G j ∧ G j ≤ 65535) ∧ 1 ≤ (K j).length ∧ (K j).length ≤ 64
def idOk (n : Nat) (T : Nat → By) (A : Nat → Int) (D : Nat → By) : Prop := n ≤ 4 ∧ ∀ j, j < n → (1 ≤ (T j).length ∧ (T j).length ≤ 255) ∧ (0 ≤ A j ∧ A j ≤ 4294967295) ∧ (D j).length = 32
def idB (n : Nat) (T : Nat → By) (A : Nat → Int) (D : Nat → By) : By := pvB (pvB [] (chT T A n) 2) (chD D n) 2
theorem puB2 (b : By) (n : Int) : (puB b n 2).length = b.length + 2 := Go.Sym.puB_lenq b n 2
theorem puB4 (b : By) (n : Int) : (puB b n 4).length = b.length + 4 := Go.Sym.puB_lenq b n 4
theorem pvB2 (b v : By) : (pvB b v 2).length = b.length + 2 + v.length := pvB_len b v 2
theorem pvB1 (b v : By) : (pvB b v 1).length = b.length + 1 + v.length := pvB_len b v 1
theorem chSh_le {n : Nat} {G : Nat → Int} {K : Nat → By} (h : shOk n G K) : ∀ j, j ≤ n → (chSh G K j).length ≤ 68 * j
  | 0, _ => Nat.le_refl _
  | j + 1, hj => by
    have ih := chSh_le h j (by omega)
    have := (h.2 j (by omega)).2.2
    rw [chSh, pvB2, puB2]
    omega
theorem chT_le {n : Nat} {T : Nat → By} {A : Nat → Int} {D : Nat → By} (h : idOk n T A D) : ∀ j, j ≤ n → (chT T A j).length ≤ 261 * j
  | 0, _ => Nat.le_refl _
  | j + 1, hj => by
    have ih := chT_le h j (by omega)
    have := (h.2 j (by omega)).1.2
    rw [chT, puB4, pvB2]
    omega
theorem chD_len {n : Nat} {T : Nat → By} {A : Nat → Int} {D : Nat → By} (h : idOk n T A D) : ∀ j, j ≤ n → (chD D j).length = 33 * j
  | 0, _ => rfl
  | j + 1, hj => by
    have ih := chD_len h j (by omega)
    have := (h.2 j (by omega)).2.2
    rw [chD, pvB1]
    omega
end Go.Spec
namespace Go.Sym
open Go.Proofs Go.Spec
set_option linter.unusedVariables false
set_option maxRecDepth 100000 in
theorem vn82 (n : Nat) (G : Nat → Int) (K : Nat → By) (C : Nat → Bool) (c : NL) (k : Nat) (B : By) : bodyP Tryd.prog Hp4 gl0 [] [(4, lsSh false n G K C)] 3000 Tryd.f79 0 [shR false n G K C c] [] (retQ Tryd.prog Tryd.f79 0 (rNu k B)) = (
let x1 := ∀ (y : Nat), y < n → datas Bool.false [AV.int IntKind.i64 (G y), AV.rb Bool.true (K y) (NL.is (C y))] = Bool.true ∧ G y = G y ∧ C y = C y ∧ K y = K y ∧ True;
(∃ (x : Nat), x.le n ∧ List.length (chSh G K x) = (0 : Nat) ∧ n = n ∧ x1 ∧ (↑n : Int) = (↑n : Int) ∧ (↑x : Int) = (0 : Int) ∧ chSh G K x = [] ∧ True) ∧ ∀ (x : Nat), x.le n → @Bool.rec (fun _ => Prop) ((0 : Nat) = (0 : Nat) ∧ (0 : Nat) = (0 : Nat) ∧ (0 : Nat) = (0 : Nat) ∧ k = List.length (chSh G K x) ∧ B = chSh G K x ∧ True) ((0 : Int) ≤ (↑x : Int) ∧ (↑x : Int).toNat < n ∧ List.length (chSh G K x) = List.length (chSh G K x) ∧ List.length (chSh G K x) < (1099511627776 : Nat) ∧ puBad (G (↑x : Int).toNat) (2 : Int) = Bool.false ∧ List.length (chSh G K x) + (2 : Nat) = List.length (puB (chSh G K x) (G (↑x : Int).toNat) (2 : Int)) ∧ List.length (puB (chSh G K x) (G (↑x : Int).toNat) (2 : Int)) + List.length (K (↑x : Int).toNat) < (549755813888 : Nat) ∧ puBad (↑(List.length (K (↑x : Int).toNat)) : Int) (2 : Int) = Bool.false ∧ ∃ (y : Nat), n - y < n - x ∧ y.le n ∧ (0 : Nat) = (0 : Nat) ∧ (0 : Nat) = (0 : Nat) ∧ (0 : Nat) = (0 : Nat) ∧ List.length (chSh G K y) = List.length (puB (chSh G K x) (G (↑x : Int).toNat) (2 : Int)) + (2 : Nat) + List.length (K (↑x : Int).toNat) ∧ n = n ∧ x1 ∧ (↑n : Int) = (↑n : Int) ∧ (↑y : Int) = IntKind.i64.wrap ((↑x : Int) + (1 : Int)) ∧ chSh G K y = pvB (puB (chSh G K x) (G (↑x : Int).toNat) (2 : Int)) (K (↑x : Int).toNat) (2 : Int) ∧ True) (decide ((↑x : Int) < (↑n : Int)))) := by kernel_rfl
set_option maxRecDepth 100000 in
theorem vn84 (n : Nat) (T : Nat → By) (A : Nat → Int) (C : Nat → Bool) (c : NL) (D : Nat → By) (E : Nat → Bool) (d : NL) (k : Nat) (B : By) : bodyP Tryd.prog Hp4 gl0 [] [(4, lsId false n T A C true D E)] 3000 Tryd.f81 0 [idR false n T A C c, biR true n D E d] [] (retQ Tryd.prog Tryd.f81 0 (rNu k B)) = (
let x1 := ∀ (y : Nat), y < n → datas Bool.false [AV.rb Bool.true (T y) (NL.is (C y)), AV.int IntKind.i64 (A y)] = Bool.true ∧ C y = C y ∧ T y = T y ∧ A y = A y ∧ True;
(∃ (x : Nat), x.le n ∧ n = n ∧ (∀ (y : Nat), y < n → datas Bool.true [AV.rb Bool.true (D y) (NL.is (E y))] = Bool.true ∧ E y = E y ∧ D y = D y ∧ True) ∧ List.length (chT T A x) = (0 : Nat) ∧ List.length (chD D x) = (0 : Nat) ∧ n = n ∧ x1 ∧ (↑n : Int) = (↑n : Int) ∧ (↑x : Int) = (0 : Int) ∧ chT T A x = [] ∧ chD D x = [] ∧ True) ∧ ∀ (x : Nat), x.le n → @Bool.rec (fun _ => Prop) (List.length (chT T A x) = List.length (chT T A x) ∧ (0 : Nat) + List.length (chT T A x) < (549755813888 : Nat) ∧ puBad (↑(List.length (chT T A x)) : Int) (2 : Int) = Bool.false ∧ (2 : Nat) + List.length (chT T A x) = List.length (pvB [] (chT T A x) (2 : Int)) ∧ List.length (chD D x) = List.length (chD D x) ∧ List.length (pvB [] (chT T A x) (2 : Int)) + List.length (chD D x) < (549755813888 : Nat) ∧ puBad (↑(List.length (chD D x)) : Int) (2 : Int) = Bool.false ∧ (0 : Nat) = (0 : Nat) ∧ (0 : Nat) = (0 : Nat) ∧ (0 : Nat) = (0 : Nat) ∧ k = List.length (pvB [] (chT T A x) (2 : Int)) + (2 : Nat) + List.length (chD D x) ∧ B = pvB (pvB [] (chT T A x) (2 : Int)) (chD D x) (2 : Int) ∧ True) ((0 : Int) ≤ (↑x : Int) ∧ (↑x : Int).toNat < n ∧ List.length (chT T A x) = List.length (chT T A x) ∧ List.length (chT T A x) + List.length (T (↑x : Int).toNat) < (549755813888 : Nat) ∧ puBad (↑(List.length (T (↑x : Int).toNat)) : Int) (2 : Int) = Bool.false ∧ List.length (chT T A x) + (2 : Nat) + List.length (T (↑x : Int).toNat) = List.length (pvB (chT T A x) (T (↑x : Int).toNat) (2 : Int)) ∧ List.length (pvB (chT T A x) (T (↑x : Int).toNat) (2 : Int)) < (1099511627776 : Nat) ∧ puBad (A (↑x : Int).toNat) (4 : Int) = Bool.false ∧ (0 : Int) ≤ (↑x : Int) ∧ (↑x : Int).toNat < n ∧ List.length (chD D x) = List.length (chD D x) ∧ List.length (chD D x) + List.length (D (↑x : Int).toNat) < (549755813888 : Nat) ∧ puBad (↑(List.length (D (↑x : Int).toNat)) : Int) (1 : Int) = Bool.false ∧ ∃ (y : Nat), n - y < n - x ∧ y.le n ∧ n = n ∧ (∀ (y : Nat), y < n → datas Bool.true [AV.rb Bool.true (D y) (NL.is (E y))] = Bool.true ∧ E y = E y ∧ D y = D y ∧ True) ∧ (0 : Nat) = (0 : Nat) ∧ (0 : Nat) = (0 : Nat) ∧ (0 : Nat) = (0 : Nat) ∧ List.length (chT T A y) = List.length (pvB (chT T A x) (T (↑x : Int).toNat) (2 : Int)) + (4 : Nat) ∧ (0 : Nat) = (0 : Nat) ∧ (0 : Nat) = (0 : Nat) ∧ (0 : Nat) = (0 : Nat) ∧ List.length (chD D y) = List.length (chD D x) + (1 : Nat) + List.length (D (↑x : Int).toNat) ∧ n = n ∧ x1 ∧ (↑n : Int) = (↑n : Int) ∧ (↑y : Int) = IntKind.i64.wrap ((↑x : Int) + (1 : Int)) ∧ chT T A y = puB (pvB (chT T A x) (T (↑x : Int).toNat) (2 : Int)) (A (↑x : Int).toNat) (4 : Int) ∧ chD D y = pvB (chD D x) (D (↑x : Int).toNat) (1 : Int) ∧ True) (decide ((↑x : Int) < (↑n : Int)))) := by kernel_rfl
theorem bn82 (n : Nat) (G : Nat → Int) (K : Nat → By) (C : Nat → Bool) (c : NL) (h : shOk n G K) : Must (bodyP Tryd.prog Hp4 gl0 [] [(4, lsSh false n G K C)] 3000 Tryd.f79 0 [shR false n G K C c] [] (retQ Tryd.prog Tryd.f79 0 (rNu (chSh G K n).length (chSh G K n)))) := by
  constructor
  rw [vn82]
  intro x1
  have hx1 : x1 := fun y _ => ⟨rfl, rfl, rfl, rfl, trivial⟩
  clear_value x1
  refine ⟨⟨0, Nat.zero_le _, rfl, rfl, hx1, rfl, rfl, rfl, trivial⟩, fun x hx => ?_⟩
  have hx : x ≤ n := hx
  have hl := chSh_le h x hx
  have hn := h.1
  refine brec (fun d => ?_) (fun d => ?_)
  · have d : (x : Int) < n := of_decide_eq_true d
    have hj := h.2 x (by omega)
    have e := chSh_le h (x + 1) (by omega)
    rw [Int.toNat_natCast, puB2]
    refine ⟨Int.natCast_nonneg _, by omega, rfl, by omega, puBad2 hj.1, rfl, by omega, puBad2 (by omega), x + 1, by omega, (by show x + 1 ≤ n; omega), rfl, rfl, rfl, ?_, rfl, hx1, rfl, (wrap_nat (x + 1) (by omega) (by omega)).symm, rfl, trivial⟩
    rw [chSh, pvB2, puB2]
  · have d : ¬ (x : Int) < n := of_decide_eq_false d
    obtain rfl : x = n := by omega
    exact ⟨rfl, rfl, rfl, rfl, rfl, trivial⟩
theorem puBad4 {n : Int} (h : 0 ≤ n ∧ n ≤ 4294967295) : puBad n 4 = false := by
  simp only [puBad, Bool.or_eq_false_iff, Bool.not_eq_false', decide_eq_true_eq, decide_eq_false_iff_not]
  refine ⟨⟨⟨by omega, by omega⟩, by omega⟩, ?_⟩
  have e : (256 : Int) ^ (4 : Int).toNat = 4294967296 := rfl
  rw [e]
  omega
theorem puBad1 {n : Int} (h : 0 ≤ n ∧ n ≤ 255) : puBad n 1 = false := by
  simp only [puBad, Bool.or_eq_false_iff, Bool.not_eq_false', decide_eq_true_eq, decide_eq_false_iff_not]
  refine ⟨⟨⟨by omega, by omega⟩, by omega⟩, ?_⟩
  have e : (256 : Int) ^ (1 : Int).toNat = 256 := rfl
  rw [e]
  omega
theorem bn84 (n : Nat) (T : Nat → By) (A : Nat → Int) (C : Nat → Bool) (c : NL) (D : Nat → By) (E : Nat → Bool) (d : NL) (h : idOk n T A D) : Must (bodyP Tryd.prog Hp4 gl0 [] [(4, lsId false n T A C true D E)] 3000 Tryd.f81 0 [idR false n T A C c, biR true n D E d] [] (retQ Tryd.prog Tryd.f81 0 (rNu (idB n T A D).length (idB n T A D)))) := by
  constructor
  rw [vn84]
  intro x1
  have hx1 : x1 := fun y _ => ⟨rfl, rfl, rfl, rfl, trivial⟩
  clear_value x1
  refine ⟨⟨0, Nat.zero_le _, rfl, fun _ _ => ⟨rfl, rfl, rfl, trivial⟩, rfl, rfl, rfl, hx1, rfl, rfl, rfl, rfl, trivial⟩, fun x hx => ?_⟩
  have hx : x ≤ n := hx
  have hl := chT_le h x hx
  have hd := chD_len h x hx
  have hn := h.1
  have e0 : ([] : By).length = 0 := rfl
  refine brec (fun d => ?_) (fun d => ?_)
  · have d : (x : Int) < n := of_decide_eq_true d
    have hj := h.2 x (by omega)
    rw [Int.toNat_natCast, pvB2]
    refine ⟨Int.natCast_nonneg _, by omega, rfl, by omega, puBad2 (by omega), rfl, by omega, puBad4 hj.2.1, Int.natCast_nonneg _, by omega, rfl, by omega, puBad1 (by omega), x + 1, by omega, (by show x + 1 ≤ n; omega), rfl, fun _ _ => ⟨rfl, rfl, rfl, trivial⟩, rfl, rfl, rfl, ?_, rfl, rfl, rfl, ?_, rfl, hx1, rfl, (wrap_nat (x + 1) (by omega) (by omega)).symm, rfl, rfl, trivial⟩
    · rw [chT, puB4, pvB2]
    · rw [chD, pvB1]
  · have d : ¬ (x : Int) < n := of_decide_eq_false d
    obtain rfl : x = n := by omega
    rw [idB, pvB2, pvB2, pvB2, e0]
    exact ⟨rfl, by omega, puBad2 (by omega), by omega, rfl, by omega, puBad2 (by omega), rfl, rfl, rfl, by omega, rfl, trivial⟩
end Go.Sym

namespace Go.Sym
open Go.Proofs Go.Spec
set_option linter.unusedVariables false
def rowG (g : Nat → List AV) (j : Nat) : Int := match g j with | [.int .i64 l, _] => l | _ => 0
def rowK (g : Nat → List AV) (j : Nat) : By := match g j with | [_, .rb true l _] => l | _ => []
def rowKc (g : Nat → List AV) (j : Nat) : Bool := match g j with | [_, .rb true _ (.is c)] => c | _ => false
def isRowS (g : Nat → List AV) : Prop := g = fun j => [.int .i64 (rowG g j), .rb true (rowK g j) (.is (rowKc g j))]
def rowT (g : Nat → List AV) (j : Nat) : By := match g j with | [.rb true l _, _] => l | _ => []
def rowTc (g : Nat → List AV) (j : Nat) : Bool := match g j with | [.rb true _ (.is c), _] => c | _ => false
def rowA (g : Nat → List AV) (j : Nat) : Int := match g j with | [_, .int .i64 l] => l | _ => 0
def isRowT (g : Nat → List AV) : Prop := g = fun j => [.rb true (rowT g j) (.is (rowTc g j)), .int .i64 (rowA g j)]
def rowD (g : Nat → List AV) (j : Nat) : By := match g j with | [.rb true l _] => l | _ => []
def rowDc (g : Nat → List AV) (j : Nat) : Bool := match g j with | [.rb true _ (.is c)] => c | _ => false
def isRowD (g : Nat → List AV) : Prop := g = fun j => [.rb true (rowD g j) (.is (rowDc g j))]
def gn82 (xs : List AV) (bs : List ABlk) : TL := match xs, bs with
  | [.ros false 2 n g nl], [] => .ok ⟨[isRowS g, shOk n (rowG g) (rowK g)], .slice 0 0 1 (chSh (rowG g) (rowK g) n).length .ow .unk, [], [⟨.bytes (chSh (rowG g) (rowK g) n), true, 1⟩]⟩
  | _, _ => .no
def spn82 : Spec := ⟨[.r 2], fun _ _ => [], fun _ _ => [], gn82⟩
theorem cn82 : COK Tryd.prog gl0 79 (mkF spn82) := by
  refine ctrE (fn := Tryd.f79) [] 3000 (by kernel_rfl) (by kernel_rfl) okHp4 (by kernel_rfl) (fun args w => by kernel_rfl) fun xs bs r hs ho => ?_
  replace hs : (gn82 xs bs).sel = some r := hs
  unfold gn82 at hs
  split at hs
  · rename_i n g nl
    simp only [TL.sel, Option.some.injEq] at hs
    subst hs
    obtain ⟨h, h1⟩ := obsT_cons.1 ho
    have hb := bn82 n (rowG g) (rowK g) (rowKc g) nl (obsT_one.1 h1)
    have e : shR false n (rowG g) (rowK g) (rowKc g) nl = .ros false 2 n g nl := by
      show AV.ros false 2 n (fun j => [.int .i64 (rowG g j), .rb true (rowK g j) (.is (rowKc g j))]) nl = _
      rw [← h]
    refine ⟨[(4, lsSh false n (rowG g) (rowK g) (rowKc g))], ?_⟩
    rw [e] at hb
    exact hb
  · simp [TL.sel] at hs
def gn84 (xs : List AV) (bs : List ABlk) : TL := match xs, bs with
  | [.ros false 2 n g nl, .ros true 1 m f ml], [] => .ok ⟨[m = n, isRowT g, isRowD f, idOk n (rowT g) (rowA g) (rowD f)], .slice 0 0 1 (idB n (rowT g) (rowA g) (rowD f)).length .ow .unk, [], [⟨.bytes (idB n (rowT g) (rowA g) (rowD f)), true, 1⟩]⟩
  | _, _ => .no
def spn84 : Spec := ⟨[.r 2, .r 1], fun _ _ => [], fun _ _ => [], gn84⟩
theorem cn84 : COK Tryd.prog gl0 81 (mkF spn84) := by
  refine ctrE (fn := Tryd.f81) [] 3000 (by kernel_rfl) (by kernel_rfl) okHp4 (by kernel_rfl) (fun args w => by kernel_rfl) fun xs bs r hs ho => ?_
  replace hs : (gn84 xs bs).sel = some r := hs
  unfold gn84 at hs
  split at hs
  · rename_i n g nl m f ml
    simp only [TL.sel, Option.some.injEq] at hs
    subst hs
    obtain ⟨h0, h, h1, h2⟩ := obs4 ho
    subst h0
    have hb := bn84 m (rowT g) (rowA g) (rowTc g) nl (rowD f) (rowDc f) ml h2
    have e : idR false m (rowT g) (rowA g) (rowTc g) nl = .ros false 2 m g nl := by
      show AV.ros false 2 m (fun j => [.rb true (rowT g j) (.is (rowTc g j)), .int .i64 (rowA g j)]) nl = _
      rw [← h]
    have e2 : biR true m (rowD f) (rowDc f) ml = .ros true 1 m f ml := by
      show AV.ros true 1 m (fun j => [.rb true (rowD f j) (.is (rowDc f j))]) ml = _
      rw [← h1]
    refine ⟨[(4, lsId false m (rowT g) (rowA g) (rowTc g) true (rowD f) (rowDc f))], ?_⟩
    rw [e, e2] at hb
    exact hb
  · simp [TL.sel] at hs
noncomputable def Hp5 : Ctx := (Hp4.add 79 (mkF spn82)).add 81 (mkF spn84)
theorem okHp5 : COKs Tryd.prog gl0 Hp5 := (okHp4.add cn82).add cn84
/-- A client, by its cells. -/
def cliC (R : Nat → BitVec 8) (x : List AV) : List AV := ((List.range 32).map fun i => .u8 (R i)) ++ x
def cliA (R : Nat → BitVec 8) (x : List AV) : AV := .agg (cliC R x)
def cliK : Kd := .a (List.replicate 32 .kp ++ [.by0, .r 1, .r 1, .r 1, .r 1, .r 2, .by0, .by0, .r 2, .r 1])
end Go.Sym

namespace Go.Spec
open Go.Sym
/-- A client's greeting, by what stands in it. -/
structure Cli where
  R : Nat → BitVec 8
  s : By
  n1 : Nat
  L1 : Nat → Int
  n2 : Nat
  L2 : Nat → Int
  n3 : Nat
  L3 : Nat → Int
  n4 : Nat
  L4 : Nat → Int
  n5 : Nat
  G : Nat → Int
  K : Nat → By
  co : By
  mo : By
  n6 : Nat
  T : Nat → By
  A : Nat → Int
  n7 : Nat
  D : Nat → By
/-- Has it bytes? -/
structure Cli.ok (c : Cli) : Prop where
  hs : c.s.length ≤ 32
  h0 : 1 ≤ c.n1
  h1 : c.n1 ≤ 8
  i1 : isU c.L1 c.n1
  h2 : c.n2 ≤ 4
  i2 : isU c.L2 c.n2
  h3 : c.n3 ≤ 4
  i3 : isU c.L3 c.n3
  h4 : c.n4 ≤ 4
  i4 : isU c.L4 c.n4
  h5 : shOk c.n5 c.G c.K
  hc : c.co.length ≤ 64
  hm : c.mo.length ≤ 4
  h7 : c.n7 = c.n6
  h6 : idOk c.n6 c.T c.A c.D
/-- Its extensions, but the last one; all; its head; and its bytes. -/
def Cli.x1 (c : Cli) : By := liB (liB (liB (liB [] 43 1 (chN c.L2 c.n2)) 10 2 (chN c.L3 c.n3)) 13 2 (chN c.L4 c.n4)) 51 2 (chSh c.G c.K c.n5)
def Cli.x3 (c : Cli) : By := liB (liB c.x1 44 2 c.co) 45 1 c.mo
def Cli.ex (c : Cli) : By := if 0 < c.n6 then exB c.x3 41 (idB c.n6 c.T c.A c.D) else c.x3
def Cli.hd (c : Cli) : By := pvB (pvB (hdB c.R c.s) (chN c.L1 c.n1) 2) [0#8] 1
def Cli.by (c : Cli) : By := pvB c.hd c.ex 2
theorem liB_le (a : By) (k : Int) (w : Int) (hw : w = 1 ∨ w = 2) (l : By) : (liB a k w l).length ≤ a.length + 6 + l.length := by
  unfold liB
  split
  · omega
  · rw [exB_len, pvB_len]
    have e0 : ([] : By).length = 0 := rfl
    have : w.toNat ≤ 2 := by rcases hw with rfl | rfl <;> decide
    omega
theorem idB_le {n : Nat} {T : Nat → By} {A : Nat → Int} {D : Nat → By} (h : idOk n T A D) : (idB n T A D).length ≤ 1200 := by
  have h1 := chT_le h n (Nat.le_refl _)
  have h2 := chD_len h n (Nat.le_refl _)
  have hn := h.1
  have e0 : ([] : By).length = 0 := rfl
  rw [idB, pvB2, pvB2]
  omega
theorem hdB_len (R : Nat → BitVec 8) (s : By) : (hdB R s).length = 35 + s.length := by
  have e0 : ([] : By).length = 0 := rfl
  rw [hdB, pvB1, List.length_append, puB2, rg_length, e0]
theorem rgf (R : Nat → BitVec 8) : rg 32 (fun i => (rg 32 R).getD i (0 : BitVec 8)) = rg 32 R := rg_congr fun i hi => rg_getD 32 R i _ hi
end Go.Spec
namespace Go.Sym
open Go.Proofs Go.Spec
set_option linter.unusedVariables false
set_option maxRecDepth 100000 in
theorem vn38 (R : Nat → BitVec 8) (s co mo : By) (n1 n2 n3 n4 n5 n6 n7 : Nat) (L1 L2 L3 L4 : Nat → Int) (u1 u2 u3 u4 u5 u6 u7 : NL) (G : Nat → Int) (K : Nat → By) (C : Nat → Bool) (T : Nat → By) (A : Nat → Int) (F : Nat → Bool) (D : Nat → By) (E : Nat → Bool) (k : Nat) (B : By) : bodyP Tryd.prog Hp5 gl0 [] [] 3000 Tryd.f44 0 [cliA R [.rb false s .unk, inR true n1 L1 u1, inR true n2 L2 u2, inR true n3 L3 u3, inR true n4 L4 u4, shR false n5 G K C u5, .rb false co .unk, .rb false mo .unk, idR false n6 T A F u6, biR true n7 D E u7]] [] (retQ Tryd.prog Tryd.f44 0 (rNu k B)) = (
let x1 := liB (liB (liB (liB [] (43 : Int) (1 : Int) (chN (fun (j : Nat) => L2 j) n2)) (10 : Int) (2 : Int) (chN (fun (j : Nat) => L3 j) n3)) (13 : Int) (2 : Int) (chN (fun (j : Nat) => L4 j) n4)) (51 : Int) (2 : Int) (chSh (fun (j : Nat) => G j) (fun (j : Nat) => K j) n5);
let x2 := pvB (hdB (fun (i : Nat) => (rg 32 R).getD i (0 : BitVec (8 : Nat))) s) (chN (fun (j : Nat) => L1 j) n1) (2 : Int);
let x3 := liB (liB x1 (44 : Int) (2 : Int) co) (45 : Int) (1 : Int) mo;
let x4 := idB n6 (fun (j : Nat) => T j) (fun (j : Nat) => A j) fun (j : Nat) => D j;
let x5 := liB (liB [] (43 : Int) (1 : Int) (chN (fun (j : Nat) => L2 j) n2)) (10 : Int) (2 : Int) (chN (fun (j : Nat) => L3 j) n3);
let x6 := pvB x2 [BitVec.ofNat (8 : Nat) (0 : Nat)] (1 : Int);
puBad (↑(List.length s) : Int) (1 : Int) = Bool.false ∧ List.length s < (549755813000 : Nat) ∧ ((fun (j : Nat) => [AV.int IntKind.i64 (L1 j)]) = fun (j : Nat) => [AV.int IntKind.i64 (L1 j)]) ∧ n1 < (1099511627 : Nat) ∧ (∀ (j : Nat), j < n1 → (0 : Int) ≤ L1 j ∧ L1 j ≤ (65535 : Int)) ∧ List.length (hdB (fun (i : Nat) => (rg 32 R).getD i (0 : BitVec (8 : Nat))) s) = List.length (hdB (fun (i : Nat) => (rg 32 R).getD i (0 : BitVec (8 : Nat))) s) ∧ List.length (chN (fun (j : Nat) => L1 j) n1) = List.length (chN (fun (j : Nat) => L1 j) n1) ∧ List.length (hdB (fun (i : Nat) => (rg 32 R).getD i (0 : BitVec (8 : Nat))) s) + List.length (chN (fun (j : Nat) => L1 j) n1) < (549755813888 : Nat) ∧ puBad (↑(List.length (chN (fun (j : Nat) => L1 j) n1)) : Int) (2 : Int) = Bool.false ∧ List.length (hdB (fun (i : Nat) => (rg 32 R).getD i (0 : BitVec (8 : Nat))) s) + (2 : Nat) + List.length (chN (fun (j : Nat) => L1 j) n1) = List.length x2 ∧ (1 : Nat) = (1 : Nat) ∧ List.length x2 + (1 : Nat) < (549755813888 : Nat) ∧ Bool.false = Bool.false ∧ ((fun (j : Nat) => [AV.int IntKind.i64 (L2 j)]) = fun (j : Nat) => [AV.int IntKind.i64 (L2 j)]) ∧ n2 < (1099511627 : Nat) ∧ (∀ (j : Nat), j < n2 → (0 : Int) ≤ L2 j ∧ L2 j ≤ (65535 : Int)) ∧ List.length (chN (fun (j : Nat) => L2 j) n2) = List.length (chN (fun (j : Nat) => L2 j) n2) ∧ (Bool.false = Bool.false ∧ ((1 : Int) = (1 : Int) ∨ (1 : Int) = (2 : Int)) ∧ puBad (↑(List.length (chN (fun (j : Nat) => L2 j) n2)) : Int) (1 : Int) = Bool.false ∧ List.length (chN (fun (j : Nat) => L2 j) n2) ≤ (60000 : Nat)) ∧ ((fun (j : Nat) => [AV.int IntKind.i64 (L3 j)]) = fun (j : Nat) => [AV.int IntKind.i64 (L3 j)]) ∧ n3 < (1099511627 : Nat) ∧ (∀ (j : Nat), j < n3 → (0 : Int) ≤ L3 j ∧ L3 j ≤ (65535 : Int)) ∧ List.length (chN (fun (j : Nat) => L3 j) n3) = List.length (chN (fun (j : Nat) => L3 j) n3) ∧ List.length (liB [] (43 : Int) (1 : Int) (chN (fun (j : Nat) => L2 j) n2)) = List.length (liB [] (43 : Int) (1 : Int) (chN (fun (j : Nat) => L2 j) n2)) ∧ List.length (liB [] (43 : Int) (1 : Int) (chN (fun (j : Nat) => L2 j) n2)) < (549755000000 : Nat) ∧ (Bool.false = Bool.false ∧ ((2 : Int) = (1 : Int) ∨ (2 : Int) = (2 : Int)) ∧ puBad (↑(List.length (chN (fun (j : Nat) => L3 j) n3)) : Int) (2 : Int) = Bool.false ∧ List.length (chN (fun (j : Nat) => L3 j) n3) ≤ (60000 : Nat)) ∧ ((fun (j : Nat) => [AV.int IntKind.i64 (L4 j)]) = fun (j : Nat) => [AV.int IntKind.i64 (L4 j)]) ∧ n4 < (1099511627 : Nat) ∧ (∀ (j : Nat), j < n4 → (0 : Int) ≤ L4 j ∧ L4 j ≤ (65535 : Int)) ∧ List.length (chN (fun (j : Nat) => L4 j) n4) = List.length (chN (fun (j : Nat) => L4 j) n4) ∧ List.length x5 = List.length x5 ∧ List.length x5 < (549755000000 : Nat) ∧ (Bool.false = Bool.false ∧ ((2 : Int) = (1 : Int) ∨ (2 : Int) = (2 : Int)) ∧ puBad (↑(List.length (chN (fun (j : Nat) => L4 j) n4)) : Int) (2 : Int) = Bool.false ∧ List.length (chN (fun (j : Nat) => L4 j) n4) ≤ (60000 : Nat)) ∧ ((fun (j : Nat) => [AV.int IntKind.i64 (G j), AV.rb Bool.true (K j) (NL.is (C j))]) = fun (j : Nat) => [AV.int IntKind.i64 (G j), AV.rb Bool.true (K j) (NL.is (C j))]) ∧ (n5 ≤ (4 : Nat) ∧ ∀ (j : Nat), j < n5 → ((0 : Int) ≤ G j ∧ G j ≤ (65535 : Int)) ∧ (1 : Nat) ≤ List.length (K j) ∧ List.length (K j) ≤ (64 : Nat)) ∧ List.length (chSh (fun (j : Nat) => G j) (fun (j : Nat) => K j) n5) = List.length (chSh (fun (j : Nat) => G j) (fun (j : Nat) => K j) n5) ∧ List.length (liB x5 (13 : Int) (2 : Int) (chN (fun (j : Nat) => L4 j) n4)) = List.length (liB x5 (13 : Int) (2 : Int) (chN (fun (j : Nat) => L4 j) n4)) ∧ List.length (liB x5 (13 : Int) (2 : Int) (chN (fun (j : Nat) => L4 j) n4)) < (549755000000 : Nat) ∧ (Bool.false = Bool.false ∧ ((2 : Int) = (1 : Int) ∨ (2 : Int) = (2 : Int)) ∧ puBad (↑(List.length (chSh (fun (j : Nat) => G j) (fun (j : Nat) => K j) n5)) : Int) (2 : Int) = Bool.false ∧ List.length (chSh (fun (j : Nat) => G j) (fun (j : Nat) => K j) n5) ≤ (60000 : Nat)) ∧ List.length x1 = List.length x1 ∧ List.length x1 < (549755000000 : Nat) ∧ (Bool.false = Bool.false ∧ ((2 : Int) = (1 : Int) ∨ (2 : Int) = (2 : Int)) ∧ puBad (↑(List.length co) : Int) (2 : Int) = Bool.false ∧ List.length co ≤ (60000 : Nat)) ∧ List.length (liB x1 (44 : Int) (2 : Int) co) = List.length (liB x1 (44 : Int) (2 : Int) co) ∧ List.length (liB x1 (44 : Int) (2 : Int) co) < (549755000000 : Nat) ∧ (Bool.false = Bool.false ∧ ((1 : Int) = (1 : Int) ∨ (1 : Int) = (2 : Int)) ∧ puBad (↑(List.length mo) : Int) (1 : Int) = Bool.false ∧ List.length mo ≤ (60000 : Nat)) ∧ @Bool.rec (fun _ => Prop) (List.length x2 + (1 : Nat) + (1 : Nat) = List.length x6 ∧ List.length x3 = List.length x3 ∧ List.length x6 + List.length x3 < (549755813888 : Nat) ∧ puBad (↑(List.length x3) : Int) (2 : Int) = Bool.false ∧ (0 : Nat) = (0 : Nat) ∧ (0 : Nat) = (0 : Nat) ∧ (0 : Nat) = (0 : Nat) ∧ k = List.length x6 + (2 : Nat) + List.length x3 ∧ B = pvB x6 x3 (2 : Int) ∧ True) (n7 = n6 ∧ ((fun (j : Nat) => [AV.rb Bool.true (T j) (NL.is (F j)), AV.int IntKind.i64 (A j)]) = fun (j : Nat) => [AV.rb Bool.true (T j) (NL.is (F j)), AV.int IntKind.i64 (A j)]) ∧ ((fun (j : Nat) => [AV.rb Bool.true (D j) (NL.is (E j))]) = fun (j : Nat) => [AV.rb Bool.true (D j) (NL.is (E j))]) ∧ (n6 ≤ (4 : Nat) ∧ ∀ (j : Nat), j < n6 → ((1 : Nat) ≤ List.length (T j) ∧ List.length (T j) ≤ (255 : Nat)) ∧ ((0 : Int) ≤ A j ∧ A j ≤ (4294967295 : Int)) ∧ List.length (D j) = (32 : Nat)) ∧ List.length x3 = List.length x3 ∧ List.length x4 = List.length x4 ∧ List.length x3 + List.length x4 < (549755813000 : Nat) ∧ Bool.false = Bool.false ∧ puBad (↑(List.length x4) : Int) (2 : Int) = Bool.false ∧ List.length x2 + (1 : Nat) + (1 : Nat) = List.length x6 ∧ List.length (exB x3 (41 : Int) x4) = List.length (exB x3 (41 : Int) x4) ∧ List.length x6 + List.length (exB x3 (41 : Int) x4) < (549755813888 : Nat) ∧ puBad (↑(List.length (exB x3 (41 : Int) x4)) : Int) (2 : Int) = Bool.false ∧ (0 : Nat) = (0 : Nat) ∧ (0 : Nat) = (0 : Nat) ∧ (0 : Nat) = (0 : Nat) ∧ k = List.length x6 + (2 : Nat) + List.length (exB x3 (41 : Int) x4) ∧ B = pvB x6 (exB x3 (41 : Int) x4) (2 : Int) ∧ True) (decide ((0 : Int) < (↑n6 : Int)))) := by kernel_rfl
structure Clu where
  u1 : NL
  u2 : NL
  u3 : NL
  u4 : NL
  u5 : NL
  C : Nat → Bool
  u6 : NL
  F : Nat → Bool
  u7 : NL
  E : Nat → Bool
def cliV (c : Cli) (u : Clu) : AV := cliA c.R [.rb false c.s .unk, inR true c.n1 c.L1 u.u1, inR true c.n2 c.L2 u.u2, inR true c.n3 c.L3 u.u3, inR true c.n4 c.L4 u.u4, shR false c.n5 c.G c.K u.C u.u5, .rb false c.co .unk, .rb false c.mo .unk, idR false c.n6 c.T c.A u.F u.u6, biR true c.n7 c.D u.E u.u7]
theorem bn38 (c : Cli) (u : Clu) (h : c.ok) : Must (bodyP Tryd.prog Hp5 gl0 [] [] 3000 Tryd.f44 0 [cliV c u] [] (retQ Tryd.prog Tryd.f44 0 (rNu c.by.length c.by))) := by
  constructor
  unfold cliV
  rw [vn38]
  intro x1 x2 x3 x4 x5 x6
  have e0 : ([] : By).length = 0 := rfl
  have eh : ([0#8] : By).length = 1 := rfl
  have hh : hdB (fun i => (rg 32 c.R).getD i (0 : BitVec 8)) c.s = hdB c.R c.s := by unfold hdB; rw [rgf]
  have hx1 : x1 = c.x1 := rfl
  have hx2 : x2 = pvB (hdB c.R c.s) (chN c.L1 c.n1) 2 := by rw [← hh]
  have hx3 : x3 = c.x3 := rfl
  have hx4 : x4 = idB c.n6 c.T c.A c.D := rfl
  have hx6 : x6 = c.hd := by unfold Cli.hd; rw [← hx2]
  have hx5 : x5.length ≤ 28 := by
    have a := liB_le (liB [] 43 1 (chN c.L2 c.n2)) 10 2 (.inr rfl) (chN c.L3 c.n3)
    have b := liB_le [] 43 1 (.inl rfl) (chN c.L2 c.n2)
    rw [chN_len] at a b
    have := h.h2
    have := h.h3
    show (liB (liB [] 43 1 (chN c.L2 c.n2)) 10 2 (chN c.L3 c.n3)).length ≤ 28
    omega
  have l2 : (liB [] 43 1 (chN (fun j => c.L2 j) c.n2)).length ≤ 14 := by
    have b := liB_le [] 43 1 (.inl rfl) (chN c.L2 c.n2)
    rw [chN_len] at b
    have := h.h2
    show (liB [] 43 1 (chN c.L2 c.n2)).length ≤ 14
    omega
  have l4 : (liB x5 13 2 (chN (fun j => c.L4 j) c.n4)).length ≤ 42 := by
    have b := liB_le x5 13 2 (.inr rfl) (chN c.L4 c.n4)
    rw [chN_len] at b
    have := h.h4
    show (liB x5 13 2 (chN c.L4 c.n4)).length ≤ 42
    omega
  have ls := chSh_le h.h5 c.n5 (Nat.le_refl _)
  have h5 := h.h5.1
  have l5 : x1.length ≤ 320 := by
    have b := liB_le (liB x5 13 2 (chN (fun j => c.L4 j) c.n4)) 51 2 (.inr rfl) (chSh c.G c.K c.n5)
    show (liB (liB x5 13 2 (chN (fun j => c.L4 j) c.n4)) 51 2 (chSh c.G c.K c.n5)).length ≤ 320
    omega
  have l6 : (liB x1 44 2 c.co).length ≤ 390 := by
    have b := liB_le x1 44 2 (.inr rfl) c.co
    have := h.hc
    omega
  have l3 : x3.length ≤ 400 := by
    have b := liB_le (liB x1 44 2 c.co) 45 1 (.inl rfl) c.mo
    have := h.hm
    show (liB (liB x1 44 2 c.co) 45 1 c.mo).length ≤ 400
    omega
  have lx4 : x4.length ≤ 1200 := by rw [hx4]; exact idB_le h.h6
  have lx2 : x2.length = 35 + c.s.length + 2 + 2 * c.n1 := by rw [hx2, pvB2, hdB_len, chN_len]
  have lx6 : x6.length = x2.length + 1 + 1 := by
    have : x6 = pvB x2 [0#8] 1 := rfl
    rw [this, pvB1, eh]
  have q1 : (chN (fun j => c.L1 j) c.n1).length = 2 * c.n1 := chN_len ..
  have q2 : (chN (fun j => c.L2 j) c.n2).length = 2 * c.n2 := chN_len ..
  have q3 : (chN (fun j => c.L3 j) c.n3).length = 2 * c.n3 := chN_len ..
  have q4 : (chN (fun j => c.L4 j) c.n4).length = 2 * c.n4 := chN_len ..
  have q5 : (chSh (fun j => c.G j) (fun j => c.K j) c.n5).length ≤ 68 * c.n5 := ls
  have qe : (exB x3 41 x4).length = x3.length + 4 + x4.length := exB_len ..
  have qh : (hdB (fun i => (rg 32 c.R).getD i (0 : BitVec 8)) c.s).length = 35 + c.s.length := hdB_len ..
  have by0 : (decide ((0 : Int) < (c.n6 : Int))) = decide (0 < c.n6) := by
    apply Bool.eq_iff_iff.mpr
    simp
  rw [by0]
  have p1 := h.hs
  have p2 := h.h1
  have p3 := h.h2
  have p4 := h.h3
  have p5 := h.h4
  have p6 := h.hc
  have p7 := h.hm
  have w1 : decide (0 < c.n6) = true → c.by = pvB x6 (exB x3 41 x4) 2 := fun d => by unfold Cli.by Cli.ex; rw [if_pos (of_decide_eq_true d), hx6, hx3, hx4]
  have w2 : decide (0 < c.n6) = false → c.by = pvB x6 x3 2 := fun d => by unfold Cli.by Cli.ex; rw [if_neg (of_decide_eq_false d), hx6, hx3]
  have w3 : (pvB x6 (exB x3 41 x4) 2).length = x6.length + 2 + (exB x3 41 x4).length := pvB2 ..
  have w4 : (pvB x6 x3 2).length = x6.length + 2 + x3.length := pvB2 ..
  clear_value x1 x2 x3 x4 x5 x6
  have i1 := h.i1
  have i2 := h.i2
  have i3 := h.i3
  have i4 := h.i4
  have i5 := h.h5
  have i6 := h.h6
  have i7 := h.h7
  refine ⟨puBad1 (by omega), by omega, rfl, by omega, i1, rfl, rfl, by omega, puBad2 (by omega), by omega, rfl, by omega, rfl, rfl, by omega, i2, rfl, ⟨rfl, .inl rfl, puBad1 (by omega), by omega⟩, rfl, by omega, i3, rfl, rfl, by omega, ⟨rfl, .inr rfl, puBad2 (by omega), by omega⟩, rfl, by omega, i4, rfl, rfl, by omega, ⟨rfl, .inr rfl, puBad2 (by omega), by omega⟩, rfl, i5, rfl, rfl, by omega, ⟨rfl, .inr rfl, puBad2 (by omega), by omega⟩, rfl, by omega, ⟨rfl, .inr rfl, puBad2 (by omega), by omega⟩, rfl, by omega, ⟨rfl, .inl rfl, puBad1 (by omega), by omega⟩, ?_⟩
  refine brec (fun d => ?_) (fun d => ?_)
  · rw [w1 d, w3]
    exact ⟨i7, rfl, rfl, i6, rfl, rfl, by omega, rfl, puBad2 (by omega), by omega, rfl, by omega, puBad2 (by omega), rfl, rfl, rfl, rfl, rfl, trivial⟩
  · rw [w2 d, w4]
    exact ⟨by omega, rfl, by omega, puBad2 (by omega), rfl, rfl, rfl, rfl, rfl, trivial⟩
end Go.Sym

namespace Go.Sym
open Go.Proofs Go.Spec
set_option linter.unusedVariables false
noncomputable def Hq1 : Ctx := Hp5.exe Tryd.prog gl0 [] 400 Tryd.f69.params.size 69 Tryd.f69
theorem okHq1 : COKs Tryd.prog gl0 Hq1 := okHp5.exe [] 400 _ (by kernel_rfl) (by kernel_rfl) (by kernel_rfl) (fun args w => by kernel_rfl)
noncomputable def Hq2 : Ctx := Hq1.exe Tryd.prog gl0 [] 400 2 105 Tryd.f105
theorem okHq2 : COKs Tryd.prog gl0 Hq2 := okHq1.exe [] 400 _ (by kernel_rfl) (by kernel_rfl) (by kernel_rfl) (fun args w => by kernel_rfl)
def bxF (f : Nat) : ABlk := ⟨.cells [.fn f [] []], true, 0⟩
def lsIx (n : Nat) (L : Nat → Int) : LS := ⟨Nat, fun j => [(0, inR true n L .unk), (1, .fn 105 [] [.ptr 0 0 0 0]), (7, .int .i64 n), (8, .int .i64 j)], fun j => [(0, bxF 69)], 1000, fun j => n - j, fun j => j ≤ n ∧ isU L j, fun _ => []⟩
end Go.Sym

namespace Go.Spec
open Go.Sym
open Classical in
/-- Where the first is that isn't right; -1: there is none. -/
noncomputable def ixP (P : Nat → Prop) (n : Nat) : Int := if h : ∃ j, j < n ∧ ¬ P j ∧ ∀ i, i < j → P i then (Classical.choose h : Nat) else -1
theorem ixP_no {P : Nat → Prop} {n : Nat} (h : ∀ j, j < n → P j) : ixP P n = -1 := by
  unfold ixP
  rw [dif_neg]
  rintro ⟨j, hj, hn, _⟩
  exact hn (h j hj)
theorem ixP_at {P : Nat → Prop} {n j : Nat} (hj : j < n) (hn : ¬ P j) (h : ∀ i, i < j → P i) : ixP P n = (j : Int) := by
  have he : ∃ j, j < n ∧ ¬ P j ∧ ∀ i, i < j → P i := ⟨j, hj, hn, h⟩
  unfold ixP
  rw [dif_pos he]
  obtain ⟨k1, k2, k3⟩ := Classical.choose_spec he
  generalize Classical.choose he = k at *
  rcases Nat.lt_trichotomy j k with c | c | c
  · exact absurd (k3 j c) hn
  · rw [c]
  · exact absurd (h k c) k2
theorem ixP_ge {P : Nat → Prop} {n : Nat} : 0 ≤ ixP P n ↔ ¬ ∀ j, j < n → P j := by
  constructor
  · intro h c
    rw [ixP_no c] at h
    omega
  · intro h
    unfold ixP
    split
    · omega
    · rename_i hx
      exfalso
      apply h
      intro j
      induction j using Nat.strongRecOn with
      | _ j ih =>
        intro hj
        apply Classical.byContradiction
        intro hn
        exact hx ⟨j, hj, hn, fun i hi => ih i hi (by omega)⟩
def isUj (L : Nat → Int) (j : Nat) : Prop := 0 ≤ L j ∧ L j ≤ 65535
end Go.Spec
namespace Go.Sym
open Go.Proofs Go.Spec
set_option linter.unusedVariables false
set_option maxRecDepth 100000 in
theorem vn141 (n : Nat) (L : Nat → Int) (u : NL) (z : Int) : bodyP Tryd.prog Hq2 gl0 [] [(3, lsIx n L)] 3000 Tryd.f129 1 [inR true n L u, .fn 105 [] [.ptr 0 0 0 0]] [bxF 69] (retQ Tryd.prog Tryd.f129 1 ⟨[], .int .i64 z, [some (some (bxF 69))], []⟩) = (
(∃ (x : Nat), (x ≤ n ∧ ∀ (j : Nat), j < x → (0 : Int) ≤ L j ∧ L j ≤ (65535 : Int)) ∧ n = n ∧ (∀ (y : Nat), y < n → datas Bool.true [AV.int IntKind.i64 (L y)] = Bool.true ∧ L y = L y ∧ True) ∧ (0 : Nat) = (0 : Nat) ∧ (↑n : Int) = (↑n : Int) ∧ (↑x : Int) = (0 : Int) ∧ True) ∧ ∀ (x : Nat), (x ≤ n ∧ ∀ (j : Nat), j < x → (0 : Int) ≤ L j ∧ L j ≤ (65535 : Int)) → @Bool.rec (fun _ => Prop) (z = Int.negSucc (0 : Nat) ∧ True) ((0 : Int) ≤ (↑x : Int) ∧ (↑x : Int).toNat < n ∧ @Bool.rec (fun _ => Prop) (z = (↑x : Int) ∧ True) (@Bool.rec (fun _ => Prop) (∃ (y : Nat), n - y < n - x ∧ (y ≤ n ∧ ∀ (j : Nat), j < y → (0 : Int) ≤ L j ∧ L j ≤ (65535 : Int)) ∧ n = n ∧ (∀ (y : Nat), y < n → datas Bool.true [AV.int IntKind.i64 (L y)] = Bool.true ∧ L y = L y ∧ True) ∧ (0 : Nat) = (0 : Nat) ∧ (↑n : Int) = (↑n : Int) ∧ (↑y : Int) = IntKind.i64.wrap ((↑x : Int) + (1 : Int)) ∧ True) (z = (↑x : Int) ∧ True) !decide (L (↑x : Int).toNat ≤ (65535 : Int))) (decide ((0 : Int) ≤ L (↑x : Int).toNat))) (decide ((↑x : Int) < (↑n : Int)))) := by kernel_rfl
theorem bn141 (n : Nat) (L : Nat → Int) (u : NL) (hn : n < 4611686018427387904) : Must (bodyP Tryd.prog Hq2 gl0 [] [(3, lsIx n L)] 3000 Tryd.f129 1 [inR true n L u, .fn 105 [] [.ptr 0 0 0 0]] [bxF 69] (retQ Tryd.prog Tryd.f129 1 ⟨[], .int .i64 (ixP (isUj L) n), [some (some (bxF 69))], []⟩)) := by
  constructor
  rw [vn141]
  refine ⟨⟨0, ⟨Nat.zero_le _, fun j hj => absurd hj (by omega)⟩, rfl, fun _ _ => ⟨rfl, rfl, trivial⟩, rfl, rfl, rfl, trivial⟩, fun x hx => ?_⟩
  obtain ⟨hx, hu⟩ := hx
  refine brec (fun d => ?_) (fun d => ?_)
  · have d : (x : Int) < n := of_decide_eq_true d
    rw [Int.toNat_natCast]
    refine ⟨Int.natCast_nonneg _, by omega, ?_⟩
    refine brec (fun d1 => ?_) (fun d1 => ?_)
    · have d1 : 0 ≤ L x := of_decide_eq_true d1
      refine brec (fun d2 => ?_) (fun d2 => ?_)
      · have d2 : ¬ L x ≤ 65535 := by simpa using d2
        exact ⟨ixP_at (by omega) (fun c => d2 c.2) hu, trivial⟩
      · have d2 : L x ≤ 65535 := by simpa using d2
        refine ⟨x + 1, by omega, ⟨by omega, fun j hj => ?_⟩, rfl, fun _ _ => ⟨rfl, rfl, trivial⟩, rfl, rfl, (wrap_nat (x + 1) (by omega) (by omega)).symm, trivial⟩
        by_cases c : j = x
        · subst c; exact ⟨d1, d2⟩
        · exact hu j (by omega)
    · have d1 : ¬ 0 ≤ L x := of_decide_eq_false d1
      exact ⟨ixP_at (by omega) (fun c => d1 c.1) hu, trivial⟩
  · have d : ¬ (x : Int) < n := of_decide_eq_false d
    obtain rfl : x = n := by omega
    exact ⟨ixP_no hu, trivial⟩
noncomputable def gn141 (xs : List AV) (bs : List ABlk) : TL := match xs, bs with
  | [.ros true 1 n g nl, .fn 105 [] [.ptr 0 0 0 0]], [⟨.cells [.fn 69 [] []], true, 0⟩] => .ok ⟨[isRowI g, n < 4611686018427387904], .int .i64 (ixP (isUj (rowI g)) n), [some (some (bxF 69))], []⟩
  | _, _ => .no
noncomputable def spn141 : Spec := ⟨[.r 1, .kp], fun xs h => reachX h 200 (namesL xs) [], kinds, gn141⟩
theorem cn141 : COK Tryd.prog gl0 129 (mkF spn141) := by
  refine ctrE (fn := Tryd.f129) [] 3000 (by kernel_rfl) (by kernel_rfl) okHq2 (by kernel_rfl) (fun args w => by kernel_rfl) fun xs bs r hs ho => ?_
  replace hs : (gn141 xs bs).sel = some r := hs
  unfold gn141 at hs
  split at hs
  · rename_i n g nl
    simp only [TL.sel, Option.some.injEq] at hs
    subst hs
    obtain ⟨h, h1⟩ := obsT_cons.1 ho
    have hb := bn141 n (rowI g) nl (obsT_one.1 h1)
    have e : inR true n (rowI g) nl = .ros true 1 n g nl := by
      show AV.ros true 1 n (fun j => [.int .i64 (rowI g j)]) nl = _
      rw [← h]
    refine ⟨[(3, lsIx n (rowI g))], ?_⟩
    rw [e] at hb
    exact hb
  · simp [TL.sel] at hs
noncomputable def Hq3 : Ctx := (Hq2.add 129 (mkF spn141)).exe Tryd.prog gl0 [] 400 Tryd.f104.params.size 104 Tryd.f104
theorem okHq3 : COKs Tryd.prog gl0 Hq3 := (okHq2.add cn141).exe [] 400 _ (by kernel_rfl) (by kernel_rfl) (by kernel_rfl) (fun args w => by kernel_rfl)
end Go.Sym

namespace Go.Spec
open Go.Sym
/-- Is a list right? -/
noncomputable def lnB (P : Nat → Prop) (n : Nat) (m : Int) : Bool := decide ((n : Int) ≤ m) && !decide (0 ≤ ixP P n)
theorem lnB_iff {P : Nat → Prop} {n : Nat} {m : Int} : lnB P n m = true ↔ (n : Int) ≤ m ∧ ∀ j, j < n → P j := by
  unfold lnB
  rw [Bool.and_eq_true, decide_eq_true_eq, Bool.not_eq_true', decide_eq_false_iff_not, ixP_ge, Classical.not_not]
def isSj (G : Nat → Int) (K : Nat → By) (j : Nat) : Prop := (0 ≤ G j ∧ G j ≤ 65535) ∧ 1 ≤ (K j).length ∧ (K j).length ≤ 64
def isTj (T : Nat → By) (A : Nat → Int) (j : Nat) : Prop := (1 ≤ (T j).length ∧ (T j).length ≤ 255) ∧ 0 ≤ A j ∧ A j ≤ 4294967295
def isDj (D : Nat → By) (j : Nat) : Prop := (D j).length = 32
end Go.Spec
namespace Go.Sym
open Go.Proofs Go.Spec
set_option linter.unusedVariables false
theorem vn70 (n : Nat) (L : Nat → Int) (u : NL) (m : Int) (z : Bool) : bodyP Tryd.prog Hq3 gl0 [] [] 3000 Tryd.f68 0 [inR true n L u, .int .i64 m, .fn 69 [] []] [] (retQ Tryd.prog Tryd.f68 0 ⟨[], .bool z, [], []⟩) = (
@Bool.rec (fun _ => Prop) (z = Bool.false ∧ True) (((fun (j : Nat) => [AV.int IntKind.i64 (L j)]) = fun (j : Nat) => [AV.int IntKind.i64 (L j)]) ∧ n < 4611686018427387904 ∧ z = !decide ((0 : Int) ≤ ixP (isUj fun (j : Nat) => L j) n) ∧ True) (decide ((n : Int) ≤ m))) := by kernel_rfl
theorem bn70 (n : Nat) (L : Nat → Int) (u : NL) (m : Int) (hm : m ≤ 1000) : Must (bodyP Tryd.prog Hq3 gl0 [] [] 3000 Tryd.f68 0 [inR true n L u, .int .i64 m, .fn 69 [] []] [] (retQ Tryd.prog Tryd.f68 0 ⟨[], .bool (lnB (isUj L) n m), [], []⟩)) := by
  constructor
  rw [vn70]
  unfold lnB
  refine brec (fun d => ?_) (fun d => ?_)
  · have h : (n : Int) ≤ m := of_decide_eq_true d
    rw [d]
    exact ⟨rfl, by omega, rfl, trivial⟩
  · rw [d]
    exact ⟨rfl, trivial⟩
noncomputable def gn70 (xs : List AV) (bs : List ABlk) : TL := match xs, bs with
  | [.ros true 1 n g nl, .int .i64 m, .fn 69 [] []], [] => .ok ⟨[isRowI g, m ≤ 1000], .bool (lnB (isUj (rowI g)) n m), [], []⟩
  | _, _ => .no
noncomputable def spn70 : Spec := ⟨[.r 1, .kp, .kp], fun _ _ => [], fun _ _ => [], gn70⟩
theorem cn70 : COK Tryd.prog gl0 68 (mkF spn70) := by
  refine ctrE (fn := Tryd.f68) [] 3000 (by kernel_rfl) (by kernel_rfl) okHq3 (by kernel_rfl) (fun args w => by kernel_rfl) fun xs bs r hs ho => ?_
  replace hs : (gn70 xs bs).sel = some r := hs
  unfold gn70 at hs
  split at hs
  · rename_i n g nl m
    simp only [TL.sel, Option.some.injEq] at hs
    subst hs
    obtain ⟨h, h1⟩ := obsT_cons.1 ho
    have hb := bn70 n (rowI g) nl m (obsT_one.1 h1)
    have e : inR true n (rowI g) nl = .ros true 1 n g nl := by
      show AV.ros true 1 n (fun j => [.int .i64 (rowI g j)]) nl = _
      rw [← h]
    rw [e] at hb
    exact ⟨_, hb⟩
  · simp [TL.sel] at hs
noncomputable def Hr0 : Ctx := Hp5.exe Tryd.prog gl0 [] 400 Tryd.f69.params.size 69 Tryd.f69
theorem okHr0 : COKs Tryd.prog gl0 Hr0 := okHp5.exe [] 400 _ (by kernel_rfl) (by kernel_rfl) (by kernel_rfl) (fun args w => by kernel_rfl)
noncomputable def Hr1 : Ctx := Hr0.exe Tryd.prog gl0 [] 400 Tryd.f108.params.size 108 Tryd.f108
theorem okHr1 : COKs Tryd.prog gl0 Hr1 := okHr0.exe [] 400 _ (by kernel_rfl) (by kernel_rfl) (by kernel_rfl) (fun args w => by kernel_rfl)
noncomputable def Hr2 : Ctx := Hr1.exe Tryd.prog gl0 [] 400 Tryd.f71.params.size 71 Tryd.f71
theorem okHr2 : COKs Tryd.prog gl0 Hr2 := okHr1.exe [] 400 _ (by kernel_rfl) (by kernel_rfl) (by kernel_rfl) (fun args w => by kernel_rfl)
noncomputable def Hr3 : Ctx := Hr2.exe Tryd.prog gl0 [] 400 Tryd.f73.params.size 73 Tryd.f73
theorem okHr3 : COKs Tryd.prog gl0 Hr3 := okHr2.exe [] 400 _ (by kernel_rfl) (by kernel_rfl) (by kernel_rfl) (fun args w => by kernel_rfl)
noncomputable def Hr4 : Ctx := Hr3.exe Tryd.prog gl0 [] 400 Tryd.f75.params.size 75 Tryd.f75
theorem okHr4 : COKs Tryd.prog gl0 Hr4 := okHr3.exe [] 400 _ (by kernel_rfl) (by kernel_rfl) (by kernel_rfl) (fun args w => by kernel_rfl)
noncomputable def Hr5 : Ctx := Hr4.exe Tryd.prog gl0 [] 400 2 107 Tryd.f107
theorem okHr5 : COKs Tryd.prog gl0 Hr5 := okHr4.exe [] 400 _ (by kernel_rfl) (by kernel_rfl) (by kernel_rfl) (fun args w => by kernel_rfl)
noncomputable def Hr6 : Ctx := Hr5.exe Tryd.prog gl0 [] 400 2 110 Tryd.f110
theorem okHr6 : COKs Tryd.prog gl0 Hr6 := okHr5.exe [] 400 _ (by kernel_rfl) (by kernel_rfl) (by kernel_rfl) (fun args w => by kernel_rfl)
noncomputable def Hr7 : Ctx := Hr6.exe Tryd.prog gl0 [] 400 2 112 Tryd.f112
theorem okHr7 : COKs Tryd.prog gl0 Hr7 := okHr6.exe [] 400 _ (by kernel_rfl) (by kernel_rfl) (by kernel_rfl) (fun args w => by kernel_rfl)
def lsIs (n : Nat) (G : Nat → Int) (K : Nat → By) (C : Nat → Bool) : LS := ⟨Nat, fun j => [(0, shR false n G K C .unk), (1, .fn 107 [] [.ptr 0 0 0 0]), (7, .int .i64 n), (8, .int .i64 j)], fun j => [(0, bxF 71)], 1000, fun j => n - j, fun j => j ≤ n ∧ ∀ i, i < j → isSj G K i, fun _ => []⟩
def lsIt (n : Nat) (T : Nat → By) (A : Nat → Int) (C : Nat → Bool) : LS := ⟨Nat, fun j => [(0, idR false n T A C .unk), (1, .fn 110 [] [.ptr 0 0 0 0]), (7, .int .i64 n), (8, .int .i64 j)], fun j => [(0, bxF 73)], 1000, fun j => n - j, fun j => j ≤ n ∧ ∀ i, i < j → isTj T A i, fun _ => []⟩
def lsIb (n : Nat) (D : Nat → By) (C : Nat → Bool) : LS := ⟨Nat, fun j => [(0, biR true n D C .unk), (1, .fn 112 [] [.ptr 0 0 0 0]), (7, .int .i64 n), (8, .int .i64 j)], fun j => [(0, bxF 75)], 1000, fun j => n - j, fun j => j ≤ n ∧ ∀ i, i < j → isDj D i, fun _ => []⟩
end Go.Sym

namespace Go.Spec
theorem ix_next {P : Nat → Prop} {x : Nat} (hu : ∀ i, i < x → P i) (hp : P x) : ∀ i, i < x + 1 → P i := fun i hi => by
  by_cases c : i = x
  · rw [c]; exact hp
  · exact hu i (by omega)
end Go.Spec
namespace Go.Sym
open Go.Proofs Go.Spec
set_option linter.unusedVariables false
set_option maxRecDepth 100000 in
theorem vn142 (n : Nat) (G : Nat → Int) (K : Nat → By) (C : Nat → Bool) (u : NL) (z : Int) : bodyP Tryd.prog Hr7 gl0 [] [(3, lsIs n G K C)] 3000 Tryd.f130 1 [shR false n G K C u, .fn 107 [] [.ptr 0 0 0 0]] [bxF 71] (retQ Tryd.prog Tryd.f130 1 ⟨[], .int .i64 z, [some (some (bxF 71))], []⟩) = (
let x1 := ∀ (y : Nat), y < n → datas Bool.false [AV.int IntKind.i64 (G y), AV.rb Bool.true (K y) (NL.is (C y))] = Bool.true ∧ G y = G y ∧ C y = C y ∧ K y = K y ∧ True;
(∃ (x : Nat), (x ≤ n ∧ ∀ (i : Nat), i < x → ((0 : Int) ≤ G i ∧ G i ≤ (65535 : Int)) ∧ (1 : Nat) ≤ List.length (K i) ∧ List.length (K i) ≤ (64 : Nat)) ∧ n = n ∧ x1 ∧ (0 : Nat) = (0 : Nat) ∧ (↑n : Int) = (↑n : Int) ∧ (↑x : Int) = (0 : Int) ∧ True) ∧ ∀ (x : Nat), (x ≤ n ∧ ∀ (i : Nat), i < x → ((0 : Int) ≤ G i ∧ G i ≤ (65535 : Int)) ∧ (1 : Nat) ≤ List.length (K i) ∧ List.length (K i) ≤ (64 : Nat)) → @Bool.rec (fun _ => Prop) (z = Int.negSucc (0 : Nat) ∧ True) ((0 : Int) ≤ (↑x : Int) ∧ (↑x : Int).toNat < n ∧ @Bool.rec (fun _ => Prop) (z = (↑x : Int) ∧ True) (@Bool.rec (fun _ => Prop) (z = (↑x : Int) ∧ True) (@Bool.rec (fun _ => Prop) (z = (↑x : Int) ∧ True) (@Bool.rec (fun _ => Prop) (∃ (y : Nat), n - y < n - x ∧ (y ≤ n ∧ ∀ (i : Nat), i < y → ((0 : Int) ≤ G i ∧ G i ≤ (65535 : Int)) ∧ (1 : Nat) ≤ List.length (K i) ∧ List.length (K i) ≤ (64 : Nat)) ∧ n = n ∧ x1 ∧ (0 : Nat) = (0 : Nat) ∧ (↑n : Int) = (↑n : Int) ∧ (↑y : Int) = IntKind.i64.wrap ((↑x : Int) + (1 : Int)) ∧ True) (z = (↑x : Int) ∧ True) (!decide ((↑(List.length (K (↑x : Int).toNat)) : Int) ≤ (64 : Int)))) (decide ((1 : Int) ≤ (↑(List.length (K (↑x : Int).toNat)) : Int)))) (decide (G (↑x : Int).toNat ≤ (65535 : Int)))) (decide ((0 : Int) ≤ G (↑x : Int).toNat))) (decide ((↑x : Int) < (↑n : Int)))) := by kernel_rfl
set_option maxRecDepth 100000 in
theorem vn143 (n : Nat) (T : Nat → By) (A : Nat → Int) (C : Nat → Bool) (u : NL) (z : Int) : bodyP Tryd.prog Hr7 gl0 [] [(3, lsIt n T A C)] 3000 Tryd.f131 1 [idR false n T A C u, .fn 110 [] [.ptr 0 0 0 0]] [bxF 73] (retQ Tryd.prog Tryd.f131 1 ⟨[], .int .i64 z, [some (some (bxF 73))], []⟩) = (
let x1 := ∀ (y : Nat), y < n → datas Bool.false [AV.rb Bool.true (T y) (NL.is (C y)), AV.int IntKind.i64 (A y)] = Bool.true ∧ C y = C y ∧ T y = T y ∧ A y = A y ∧ True;
(∃ (x : Nat), (x ≤ n ∧ ∀ (i : Nat), i < x → ((1 : Nat) ≤ List.length (T i) ∧ List.length (T i) ≤ (255 : Nat)) ∧ (0 : Int) ≤ A i ∧ A i ≤ (4294967295 : Int)) ∧ n = n ∧ x1 ∧ (0 : Nat) = (0 : Nat) ∧ (↑n : Int) = (↑n : Int) ∧ (↑x : Int) = (0 : Int) ∧ True) ∧ ∀ (x : Nat), (x ≤ n ∧ ∀ (i : Nat), i < x → ((1 : Nat) ≤ List.length (T i) ∧ List.length (T i) ≤ (255 : Nat)) ∧ (0 : Int) ≤ A i ∧ A i ≤ (4294967295 : Int)) → @Bool.rec (fun _ => Prop) (z = Int.negSucc (0 : Nat) ∧ True) ((0 : Int) ≤ (↑x : Int) ∧ (↑x : Int).toNat < n ∧ @Bool.rec (fun _ => Prop) (z = (↑x : Int) ∧ True) (@Bool.rec (fun _ => Prop) (z = (↑x : Int) ∧ True) (@Bool.rec (fun _ => Prop) (z = (↑x : Int) ∧ True) (@Bool.rec (fun _ => Prop) (∃ (y : Nat), n - y < n - x ∧ (y ≤ n ∧ ∀ (i : Nat), i < y → ((1 : Nat) ≤ List.length (T i) ∧ List.length (T i) ≤ (255 : Nat)) ∧ (0 : Int) ≤ A i ∧ A i ≤ (4294967295 : Int)) ∧ n = n ∧ x1 ∧ (0 : Nat) = (0 : Nat) ∧ (↑n : Int) = (↑n : Int) ∧ (↑y : Int) = IntKind.i64.wrap ((↑x : Int) + (1 : Int)) ∧ True) (z = (↑x : Int) ∧ True) (!decide (A (↑x : Int).toNat ≤ (4294967295 : Int)))) (decide ((0 : Int) ≤ A (↑x : Int).toNat))) (decide ((↑(List.length (T (↑x : Int).toNat)) : Int) ≤ (255 : Int)))) (decide ((1 : Int) ≤ (↑(List.length (T (↑x : Int).toNat)) : Int)))) (decide ((↑x : Int) < (↑n : Int)))) := by kernel_rfl
set_option maxRecDepth 100000 in
theorem vn144 (n : Nat) (D : Nat → By) (C : Nat → Bool) (u : NL) (z : Int) : bodyP Tryd.prog Hr7 gl0 [] [(3, lsIb n D C)] 3000 Tryd.f132 1 [biR true n D C u, .fn 112 [] [.ptr 0 0 0 0]] [bxF 75] (retQ Tryd.prog Tryd.f132 1 ⟨[], .int .i64 z, [some (some (bxF 75))], []⟩) = (
(∃ (x : Nat), (x ≤ n ∧ ∀ (i : Nat), i < x → List.length (D i) = (32 : Nat)) ∧ n = n ∧ (∀ (y : Nat), y < n → datas Bool.true [AV.rb Bool.true (D y) (NL.is (C y))] = Bool.true ∧ C y = C y ∧ D y = D y ∧ True) ∧ (0 : Nat) = (0 : Nat) ∧ (↑n : Int) = (↑n : Int) ∧ (↑x : Int) = (0 : Int) ∧ True) ∧ ∀ (x : Nat), (x ≤ n ∧ ∀ (i : Nat), i < x → List.length (D i) = (32 : Nat)) → @Bool.rec (fun _ => Prop) (z = Int.negSucc (0 : Nat) ∧ True) ((0 : Int) ≤ (↑x : Int) ∧ (↑x : Int).toNat < n ∧ @Bool.rec (fun _ => Prop) (∃ (y : Nat), n - y < n - x ∧ (y ≤ n ∧ ∀ (i : Nat), i < y → List.length (D i) = (32 : Nat)) ∧ n = n ∧ (∀ (y : Nat), y < n → datas Bool.true [AV.rb Bool.true (D y) (NL.is (C y))] = Bool.true ∧ C y = C y ∧ D y = D y ∧ True) ∧ (0 : Nat) = (0 : Nat) ∧ (↑n : Int) = (↑n : Int) ∧ (↑y : Int) = IntKind.i64.wrap ((↑x : Int) + (1 : Int)) ∧ True) (z = (↑x : Int) ∧ True) (!decide ((↑(List.length (D (↑x : Int).toNat)) : Int) = (32 : Int)))) (decide ((↑x : Int) < (↑n : Int)))) := by kernel_rfl
theorem bn142 (n : Nat) (G : Nat → Int) (K : Nat → By) (C : Nat → Bool) (u : NL) (hn : n < 4611686018427387904) : Must (bodyP Tryd.prog Hr7 gl0 [] [(3, lsIs n G K C)] 3000 Tryd.f130 1 [shR false n G K C u, .fn 107 [] [.ptr 0 0 0 0]] [bxF 71] (retQ Tryd.prog Tryd.f130 1 ⟨[], .int .i64 (ixP (isSj G K) n), [some (some (bxF 71))], []⟩)) := by
  constructor
  rw [vn142]
  intro x1
  have hx1 : x1 := fun y _ => ⟨rfl, rfl, rfl, rfl, trivial⟩
  clear_value x1
  refine ⟨⟨0, ⟨Nat.zero_le _, fun j hj => absurd hj (by omega)⟩, rfl, hx1, rfl, rfl, rfl, trivial⟩, fun x hx => ?_⟩
  obtain ⟨hx, hu⟩ := hx
  refine brec (fun d => ?_) (fun d => ?_)
  · have d : (x : Int) < n := of_decide_eq_true d
    rw [Int.toNat_natCast]
    refine ⟨Int.natCast_nonneg _, by omega, ?_⟩
    have bad : ¬ isSj G K x → (ixP (isSj G K) n = (x : Int) ∧ True) := fun c => ⟨ixP_at (by omega) c hu, trivial⟩
    have good : isSj G K x → ∀ i, i < x + 1 → isSj G K i := fun c => ix_next hu c
    refine brec (fun d1 => brec (fun d2 => brec (fun d3 => brec (fun d4 => bad fun c => ?_) (fun d4 => ?_)) (fun d3 => bad fun c => ?_)) (fun d2 => bad fun c => ?_)) (fun d1 => bad fun c => ?_)
    · have d4 : ¬ ((K x).length : Int) ≤ 64 := by simpa using d4
      have := c.2.2
      omega
    · have d1 : 0 ≤ G x := of_decide_eq_true d1
      have d2 : G x ≤ 65535 := of_decide_eq_true d2
      have d3 : (1 : Int) ≤ ((K x).length : Int) := of_decide_eq_true d3
      have d4 : ((K x).length : Int) ≤ 64 := by simpa using d4
      have g := good ⟨⟨d1, d2⟩, by omega, by omega⟩
      exact ⟨x + 1, by omega, ⟨by omega, g⟩, rfl, hx1, rfl, rfl, (wrap_nat (x + 1) (by omega) (by omega)).symm, trivial⟩
    · have d3 : ¬ (1 : Int) ≤ ((K x).length : Int) := of_decide_eq_false d3
      have := c.2.1
      omega
    · exact of_decide_eq_false d2 c.1.2
    · exact of_decide_eq_false d1 c.1.1
  · have d : ¬ (x : Int) < n := of_decide_eq_false d
    obtain rfl : x = n := by omega
    exact ⟨ixP_no hu, trivial⟩
theorem bn143 (n : Nat) (T : Nat → By) (A : Nat → Int) (C : Nat → Bool) (u : NL) (hn : n < 4611686018427387904) : Must (bodyP Tryd.prog Hr7 gl0 [] [(3, lsIt n T A C)] 3000 Tryd.f131 1 [idR false n T A C u, .fn 110 [] [.ptr 0 0 0 0]] [bxF 73] (retQ Tryd.prog Tryd.f131 1 ⟨[], .int .i64 (ixP (isTj T A) n), [some (some (bxF 73))], []⟩)) := by
  constructor
  rw [vn143]
  intro x1
  have hx1 : x1 := fun y _ => ⟨rfl, rfl, rfl, rfl, trivial⟩
  clear_value x1
  refine ⟨⟨0, ⟨Nat.zero_le _, fun j hj => absurd hj (by omega)⟩, rfl, hx1, rfl, rfl, rfl, trivial⟩, fun x hx => ?_⟩
  obtain ⟨hx, hu⟩ := hx
  refine brec (fun d => ?_) (fun d => ?_)
  · have d : (x : Int) < n := of_decide_eq_true d
    rw [Int.toNat_natCast]
    refine ⟨Int.natCast_nonneg _, by omega, ?_⟩
    have bad : ¬ isTj T A x → (ixP (isTj T A) n = (x : Int) ∧ True) := fun c => ⟨ixP_at (by omega) c hu, trivial⟩
    have good : isTj T A x → ∀ i, i < x + 1 → isTj T A i := fun c => ix_next hu c
    refine brec (fun d1 => brec (fun d2 => brec (fun d3 => brec (fun d4 => bad fun c => ?_) (fun d4 => ?_)) (fun d3 => bad fun c => ?_)) (fun d2 => bad fun c => ?_)) (fun d1 => bad fun c => ?_)
    · have d4 : ¬ A x ≤ 4294967295 := by simpa using d4
      exact d4 c.2.2
    · have d1 : (1 : Int) ≤ ((T x).length : Int) := of_decide_eq_true d1
      have d2 : ((T x).length : Int) ≤ 255 := of_decide_eq_true d2
      have d3 : 0 ≤ A x := of_decide_eq_true d3
      have d4 : A x ≤ 4294967295 := by simpa using d4
      have g := good ⟨⟨by omega, by omega⟩, d3, d4⟩
      exact ⟨x + 1, by omega, ⟨by omega, g⟩, rfl, hx1, rfl, rfl, (wrap_nat (x + 1) (by omega) (by omega)).symm, trivial⟩
    · exact of_decide_eq_false d3 c.2.1
    · have d2 : ¬ ((T x).length : Int) ≤ 255 := of_decide_eq_false d2
      have := c.1.2
      omega
    · have d1 : ¬ (1 : Int) ≤ ((T x).length : Int) := of_decide_eq_false d1
      have := c.1.1
      omega
  · have d : ¬ (x : Int) < n := of_decide_eq_false d
    obtain rfl : x = n := by omega
    exact ⟨ixP_no hu, trivial⟩
theorem bn144 (n : Nat) (D : Nat → By) (C : Nat → Bool) (u : NL) (hn : n < 4611686018427387904) : Must (bodyP Tryd.prog Hr7 gl0 [] [(3, lsIb n D C)] 3000 Tryd.f132 1 [biR true n D C u, .fn 112 [] [.ptr 0 0 0 0]] [bxF 75] (retQ Tryd.prog Tryd.f132 1 ⟨[], .int .i64 (ixP (isDj D) n), [some (some (bxF 75))], []⟩)) := by
  constructor
  rw [vn144]
  refine ⟨⟨0, ⟨Nat.zero_le _, fun j hj => absurd hj (by omega)⟩, rfl, fun _ _ => ⟨rfl, rfl, rfl, trivial⟩, rfl, rfl, rfl, trivial⟩, fun x hx => ?_⟩
  obtain ⟨hx, hu⟩ := hx
  refine brec (fun d => ?_) (fun d => ?_)
  · have d : (x : Int) < n := of_decide_eq_true d
    rw [Int.toNat_natCast]
    refine ⟨Int.natCast_nonneg _, by omega, ?_⟩
    have bad : ¬ isDj D x → (ixP (isDj D) n = (x : Int) ∧ True) := fun c => ⟨ixP_at (by omega) c hu, trivial⟩
    have good : isDj D x → ∀ i, i < x + 1 → isDj D i := fun c => ix_next hu c
    refine brec (fun d1 => bad fun c => ?_) (fun d1 => ?_)
    · have d1 : ¬ ((D x).length : Int) = 32 := by simpa using d1
      have c : (D x).length = 32 := c
      omega
    · have d1 : ((D x).length : Int) = 32 := by simpa using d1
      have c : (D x).length = 32 := by omega
      have g := good c
      exact ⟨x + 1, by omega, ⟨by omega, g⟩, rfl, fun _ _ => ⟨rfl, rfl, rfl, trivial⟩, rfl, rfl, (wrap_nat (x + 1) (by omega) (by omega)).symm, trivial⟩
  · have d : ¬ (x : Int) < n := of_decide_eq_false d
    obtain rfl : x = n := by omega
    exact ⟨ixP_no hu, trivial⟩
end Go.Sym

namespace Go.Sym
open Go.Proofs Go.Spec
set_option linter.unusedVariables false
noncomputable def gn142 (xs : List AV) (bs : List ABlk) : TL := match xs, bs with
  | [.ros false 2 n g nl, .fn 107 [] [.ptr 0 0 0 0]], [⟨.cells [.fn 71 [] []], true, 0⟩] => .ok ⟨[isRowS g, n < 4611686018427387904], .int .i64 (ixP (isSj (rowG g) (rowK g)) n), [some (some (bxF 71))], []⟩
  | _, _ => .no
noncomputable def spn142 : Spec := ⟨[.r 2, .kp], fun xs h => reachX h 200 (namesL xs) [], kinds, gn142⟩
theorem cn142 : COK Tryd.prog gl0 130 (mkF spn142) := by
  refine ctrE (fn := Tryd.f130) [] 3000 (by kernel_rfl) (by kernel_rfl) okHr7 (by kernel_rfl) (fun args w => by kernel_rfl) fun xs bs r hs ho => ?_
  replace hs : (gn142 xs bs).sel = some r := hs
  unfold gn142 at hs
  split at hs
  · rename_i n g nl
    simp only [TL.sel, Option.some.injEq] at hs
    subst hs
    obtain ⟨h, h1⟩ := obsT_cons.1 ho
    have hb := bn142 n (rowG g) (rowK g) (rowKc g) nl (obsT_one.1 h1)
    have e : shR false n (rowG g) (rowK g) (rowKc g) nl = .ros false 2 n g nl := by
      show AV.ros false 2 n (fun j => [.int .i64 (rowG g j), .rb true (rowK g j) (.is (rowKc g j))]) nl = _
      rw [← h]
    refine ⟨[(3, lsIs n (rowG g) (rowK g) (rowKc g))], ?_⟩
    rw [e] at hb
    exact hb
  · simp [TL.sel] at hs
noncomputable def gn143 (xs : List AV) (bs : List ABlk) : TL := match xs, bs with
  | [.ros false 2 n g nl, .fn 110 [] [.ptr 0 0 0 0]], [⟨.cells [.fn 73 [] []], true, 0⟩] => .ok ⟨[isRowT g, n < 4611686018427387904], .int .i64 (ixP (isTj (rowT g) (rowA g)) n), [some (some (bxF 73))], []⟩
  | _, _ => .no
noncomputable def spn143 : Spec := ⟨[.r 2, .kp], fun xs h => reachX h 200 (namesL xs) [], kinds, gn143⟩
theorem cn143 : COK Tryd.prog gl0 131 (mkF spn143) := by
  refine ctrE (fn := Tryd.f131) [] 3000 (by kernel_rfl) (by kernel_rfl) okHr7 (by kernel_rfl) (fun args w => by kernel_rfl) fun xs bs r hs ho => ?_
  replace hs : (gn143 xs bs).sel = some r := hs
  unfold gn143 at hs
  split at hs
  · rename_i n g nl
    simp only [TL.sel, Option.some.injEq] at hs
    subst hs
    obtain ⟨h, h1⟩ := obsT_cons.1 ho
    have hb := bn143 n (rowT g) (rowA g) (rowTc g) nl (obsT_one.1 h1)
    have e : idR false n (rowT g) (rowA g) (rowTc g) nl = .ros false 2 n g nl := by
      show AV.ros false 2 n (fun j => [.rb true (rowT g j) (.is (rowTc g j)), .int .i64 (rowA g j)]) nl = _
      rw [← h]
    refine ⟨[(3, lsIt n (rowT g) (rowA g) (rowTc g))], ?_⟩
    rw [e] at hb
    exact hb
  · simp [TL.sel] at hs
noncomputable def gn144 (xs : List AV) (bs : List ABlk) : TL := match xs, bs with
  | [.ros true 1 n g nl, .fn 112 [] [.ptr 0 0 0 0]], [⟨.cells [.fn 75 [] []], true, 0⟩] => .ok ⟨[isRowD g, n < 4611686018427387904], .int .i64 (ixP (isDj (rowD g)) n), [some (some (bxF 75))], []⟩
  | _, _ => .no
noncomputable def spn144 : Spec := ⟨[.r 1, .kp], fun xs h => reachX h 200 (namesL xs) [], kinds, gn144⟩
theorem cn144 : COK Tryd.prog gl0 132 (mkF spn144) := by
  refine ctrE (fn := Tryd.f132) [] 3000 (by kernel_rfl) (by kernel_rfl) okHr7 (by kernel_rfl) (fun args w => by kernel_rfl) fun xs bs r hs ho => ?_
  replace hs : (gn144 xs bs).sel = some r := hs
  unfold gn144 at hs
  split at hs
  · rename_i n g nl
    simp only [TL.sel, Option.some.injEq] at hs
    subst hs
    obtain ⟨h, h1⟩ := obsT_cons.1 ho
    have hb := bn144 n (rowD g) (rowDc g) nl (obsT_one.1 h1)
    have e : biR true n (rowD g) (rowDc g) nl = .ros true 1 n g nl := by
      show AV.ros true 1 n (fun j => [.rb true (rowD g j) (.is (rowDc g j))]) nl = _
      rw [← h]
    refine ⟨[(3, lsIb n (rowD g) (rowDc g))], ?_⟩
    rw [e] at hb
    exact hb
  · simp [TL.sel] at hs
noncomputable def Hs0 : Ctx := ((Hr7.add 130 (mkF spn142)).add 131 (mkF spn143)).add 132 (mkF spn144)
theorem okHs0 : COKs Tryd.prog gl0 Hs0 := ((okHr7.add cn142).add cn143).add cn144
noncomputable def Hs1 : Ctx := Hs0.exe Tryd.prog gl0 [] 400 Tryd.f106.params.size 106 Tryd.f106
theorem okHs1 : COKs Tryd.prog gl0 Hs1 := okHs0.exe [] 400 _ (by kernel_rfl) (by kernel_rfl) (by kernel_rfl) (fun args w => by kernel_rfl)
noncomputable def Hs2 : Ctx := Hs1.exe Tryd.prog gl0 [] 400 Tryd.f109.params.size 109 Tryd.f109
theorem okHs2 : COKs Tryd.prog gl0 Hs2 := okHs1.exe [] 400 _ (by kernel_rfl) (by kernel_rfl) (by kernel_rfl) (fun args w => by kernel_rfl)
noncomputable def Hs3 : Ctx := Hs2.exe Tryd.prog gl0 [] 400 Tryd.f111.params.size 111 Tryd.f111
theorem okHs3 : COKs Tryd.prog gl0 Hs3 := okHs2.exe [] 400 _ (by kernel_rfl) (by kernel_rfl) (by kernel_rfl) (fun args w => by kernel_rfl)
theorem vn72 (n : Nat) (G : Nat → Int) (K : Nat → By) (C : Nat → Bool) (u : NL) (m : Int) (z : Bool) : bodyP Tryd.prog Hs3 gl0 [] [] 3000 Tryd.f70 0 [shR false n G K C u, .int .i64 m, .fn 71 [] []] [] (retQ Tryd.prog Tryd.f70 0 ⟨[], .bool z, [], []⟩) = (
@Bool.rec (fun _ => Prop) (z = Bool.false ∧ True) (((fun (j : Nat) => [AV.int IntKind.i64 (G j), AV.rb Bool.true (K j) (NL.is (C j))]) = fun (j : Nat) => [AV.int IntKind.i64 (G j), AV.rb Bool.true (K j) (NL.is (C j))]) ∧ n < 4611686018427387904 ∧ z = !decide ((0 : Int) ≤ ixP (isSj (fun j => G j) (fun j => K j)) n) ∧ True) (decide ((n : Int) ≤ m))) := by kernel_rfl
theorem bn72 (n : Nat) (G : Nat → Int) (K : Nat → By) (C : Nat → Bool) (u : NL) (m : Int) (hm : m ≤ 1000) : Must (bodyP Tryd.prog Hs3 gl0 [] [] 3000 Tryd.f70 0 [shR false n G K C u, .int .i64 m, .fn 71 [] []] [] (retQ Tryd.prog Tryd.f70 0 ⟨[], .bool (lnB (isSj G K) n m), [], []⟩)) := by
  constructor
  rw [vn72]
  unfold lnB
  refine brec (fun d => ?_) (fun d => ?_)
  · have h : (n : Int) ≤ m := of_decide_eq_true d
    rw [d]
    exact ⟨rfl, by omega, rfl, trivial⟩
  · rw [d]
    exact ⟨rfl, trivial⟩
noncomputable def gn72 (xs : List AV) (bs : List ABlk) : TL := match xs, bs with
  | [.ros false 2 n g nl, .int .i64 m, .fn 71 [] []], [] => .ok ⟨[isRowS g, m ≤ 1000], .bool (lnB (isSj (rowG g) (rowK g)) n m), [], []⟩
  | _, _ => .no
noncomputable def spn72 : Spec := ⟨[.r 2, .kp, .kp], fun _ _ => [], fun _ _ => [], gn72⟩
theorem cn72 : COK Tryd.prog gl0 70 (mkF spn72) := by
  refine ctrE (fn := Tryd.f70) [] 3000 (by kernel_rfl) (by kernel_rfl) okHs3 (by kernel_rfl) (fun args w => by kernel_rfl) fun xs bs r hs ho => ?_
  replace hs : (gn72 xs bs).sel = some r := hs
  unfold gn72 at hs
  split at hs
  · rename_i n g nl m
    simp only [TL.sel, Option.some.injEq] at hs
    subst hs
    obtain ⟨h, h1⟩ := obsT_cons.1 ho
    have hb := bn72 n (rowG g) (rowK g) (rowKc g) nl m (obsT_one.1 h1)
    have e : shR false n (rowG g) (rowK g) (rowKc g) nl = .ros false 2 n g nl := by
      show AV.ros false 2 n (fun j => [.int .i64 (rowG g j), .rb true (rowK g j) (.is (rowKc g j))]) nl = _
      rw [← h]
    rw [e] at hb
    exact ⟨_, hb⟩
  · simp [TL.sel] at hs
theorem vn74 (n : Nat) (T : Nat → By) (A : Nat → Int) (C : Nat → Bool) (u : NL) (m : Int) (z : Bool) : bodyP Tryd.prog Hs3 gl0 [] [] 3000 Tryd.f72 0 [idR false n T A C u, .int .i64 m, .fn 73 [] []] [] (retQ Tryd.prog Tryd.f72 0 ⟨[], .bool z, [], []⟩) = (
@Bool.rec (fun _ => Prop) (z = Bool.false ∧ True) (((fun (j : Nat) => [AV.rb Bool.true (T j) (NL.is (C j)), AV.int IntKind.i64 (A j)]) = fun (j : Nat) => [AV.rb Bool.true (T j) (NL.is (C j)), AV.int IntKind.i64 (A j)]) ∧ n < 4611686018427387904 ∧ z = !decide ((0 : Int) ≤ ixP (isTj (fun j => T j) (fun j => A j)) n) ∧ True) (decide ((n : Int) ≤ m))) := by kernel_rfl
theorem bn74 (n : Nat) (T : Nat → By) (A : Nat → Int) (C : Nat → Bool) (u : NL) (m : Int) (hm : m ≤ 1000) : Must (bodyP Tryd.prog Hs3 gl0 [] [] 3000 Tryd.f72 0 [idR false n T A C u, .int .i64 m, .fn 73 [] []] [] (retQ Tryd.prog Tryd.f72 0 ⟨[], .bool (lnB (isTj T A) n m), [], []⟩)) := by
  constructor
  rw [vn74]
  unfold lnB
  refine brec (fun d => ?_) (fun d => ?_)
  · have h : (n : Int) ≤ m := of_decide_eq_true d
    rw [d]
    exact ⟨rfl, by omega, rfl, trivial⟩
  · rw [d]
    exact ⟨rfl, trivial⟩
noncomputable def gn74 (xs : List AV) (bs : List ABlk) : TL := match xs, bs with
  | [.ros false 2 n g nl, .int .i64 m, .fn 73 [] []], [] => .ok ⟨[isRowT g, m ≤ 1000], .bool (lnB (isTj (rowT g) (rowA g)) n m), [], []⟩
  | _, _ => .no
noncomputable def spn74 : Spec := ⟨[.r 2, .kp, .kp], fun _ _ => [], fun _ _ => [], gn74⟩
theorem cn74 : COK Tryd.prog gl0 72 (mkF spn74) := by
  refine ctrE (fn := Tryd.f72) [] 3000 (by kernel_rfl) (by kernel_rfl) okHs3 (by kernel_rfl) (fun args w => by kernel_rfl) fun xs bs r hs ho => ?_
  replace hs : (gn74 xs bs).sel = some r := hs
  unfold gn74 at hs
  split at hs
  · rename_i n g nl m
    simp only [TL.sel, Option.some.injEq] at hs
    subst hs
    obtain ⟨h, h1⟩ := obsT_cons.1 ho
    have hb := bn74 n (rowT g) (rowA g) (rowTc g) nl m (obsT_one.1 h1)
    have e : idR false n (rowT g) (rowA g) (rowTc g) nl = .ros false 2 n g nl := by
      show AV.ros false 2 n (fun j => [.rb true (rowT g j) (.is (rowTc g j)), .int .i64 (rowA g j)]) nl = _
      rw [← h]
    rw [e] at hb
    exact ⟨_, hb⟩
  · simp [TL.sel] at hs
theorem vn76 (n : Nat) (D : Nat → By) (C : Nat → Bool) (u : NL) (m : Int) (z : Bool) : bodyP Tryd.prog Hs3 gl0 [] [] 3000 Tryd.f74 0 [biR true n D C u, .int .i64 m, .fn 75 [] []] [] (retQ Tryd.prog Tryd.f74 0 ⟨[], .bool z, [], []⟩) = (
@Bool.rec (fun _ => Prop) (z = Bool.false ∧ True) (((fun (j : Nat) => [AV.rb Bool.true (D j) (NL.is (C j))]) = fun (j : Nat) => [AV.rb Bool.true (D j) (NL.is (C j))]) ∧ n < 4611686018427387904 ∧ z = !decide ((0 : Int) ≤ ixP (isDj (fun j => D j)) n) ∧ True) (decide ((n : Int) ≤ m))) := by kernel_rfl
theorem bn76 (n : Nat) (D : Nat → By) (C : Nat → Bool) (u : NL) (m : Int) (hm : m ≤ 1000) : Must (bodyP Tryd.prog Hs3 gl0 [] [] 3000 Tryd.f74 0 [biR true n D C u, .int .i64 m, .fn 75 [] []] [] (retQ Tryd.prog Tryd.f74 0 ⟨[], .bool (lnB (isDj D) n m), [], []⟩)) := by
  constructor
  rw [vn76]
  unfold lnB
  refine brec (fun d => ?_) (fun d => ?_)
  · have h : (n : Int) ≤ m := of_decide_eq_true d
    rw [d]
    exact ⟨rfl, by omega, rfl, trivial⟩
  · rw [d]
    exact ⟨rfl, trivial⟩
noncomputable def gn76 (xs : List AV) (bs : List ABlk) : TL := match xs, bs with
  | [.ros true 1 n g nl, .int .i64 m, .fn 75 [] []], [] => .ok ⟨[isRowD g, m ≤ 1000], .bool (lnB (isDj (rowD g)) n m), [], []⟩
  | _, _ => .no
noncomputable def spn76 : Spec := ⟨[.r 1, .kp, .kp], fun _ _ => [], fun _ _ => [], gn76⟩
theorem cn76 : COK Tryd.prog gl0 74 (mkF spn76) := by
  refine ctrE (fn := Tryd.f74) [] 3000 (by kernel_rfl) (by kernel_rfl) okHs3 (by kernel_rfl) (fun args w => by kernel_rfl) fun xs bs r hs ho => ?_
  replace hs : (gn76 xs bs).sel = some r := hs
  unfold gn76 at hs
  split at hs
  · rename_i n g nl m
    simp only [TL.sel, Option.some.injEq] at hs
    subst hs
    obtain ⟨h, h1⟩ := obsT_cons.1 ho
    have hb := bn76 n (rowD g) (rowDc g) nl m (obsT_one.1 h1)
    have e : biR true n (rowD g) (rowDc g) nl = .ros true 1 n g nl := by
      show AV.ros true 1 n (fun j => [.rb true (rowD g j) (.is (rowDc g j))]) nl = _
      rw [← h]
    rw [e] at hb
    exact ⟨_, hb⟩
  · simp [TL.sel] at hs
noncomputable def Ht1 : Ctx := (((Hp5.add 68 (mkF spn70)).add 70 (mkF spn72)).add 72 (mkF spn74)).add 74 (mkF spn76)
theorem okHt1 : COKs Tryd.prog gl0 Ht1 := (((okHp5.add cn70).add cn72).add cn74).add cn76
end Go.Sym

namespace Go.Spec
open Go.Sym
open Classical in
noncomputable def Cli.okB (c : Cli) : Bool := decide c.ok
theorem Cli.okB_iff {c : Cli} : c.okB = true ↔ c.ok := by unfold Cli.okB; exact @decide_eq_true_iff _ (Classical.propDecidable _)
theorem Cli.okB_no {c : Cli} (h : ¬ c.ok) : c.okB = false := by
  cases e : c.okB
  · rfl
  · exact absurd (Cli.okB_iff.1 e) h
end Go.Spec
namespace Go.Sym
open Go.Proofs Go.Spec
set_option linter.unusedVariables false
set_option maxRecDepth 100000 in
theorem vn37 (c : Cli) (u : Clu) (z : Bool) : bodyP Tryd.prog Ht1 gl0 [] [] 3000 Tryd.f43 0 [cliV c u] [] (retQ Tryd.prog Tryd.f43 0 ⟨[], .bool z, [], []⟩) = (
@Bool.rec (fun _ => Prop) (z = Bool.false ∧ True) (@Bool.rec (fun _ => Prop) (z = Bool.false ∧ True) (((fun (j : Nat) => [AV.int IntKind.i64 (c.L1 j)]) = fun (j : Nat) => [AV.int IntKind.i64 (c.L1 j)]) ∧ (8 : Int) ≤ (1000 : Int) ∧ @Bool.rec (fun _ => Prop) (z = Bool.false ∧ True) (((fun (j : Nat) => [AV.int IntKind.i64 (c.L2 j)]) = fun (j : Nat) => [AV.int IntKind.i64 (c.L2 j)]) ∧ (4 : Int) ≤ (1000 : Int) ∧ @Bool.rec (fun _ => Prop) (z = Bool.false ∧ True) (((fun (j : Nat) => [AV.int IntKind.i64 (c.L3 j)]) = fun (j : Nat) => [AV.int IntKind.i64 (c.L3 j)]) ∧ (4 : Int) ≤ (1000 : Int) ∧ @Bool.rec (fun _ => Prop) (z = Bool.false ∧ True) (((fun (j : Nat) => [AV.int IntKind.i64 (c.L4 j)]) = fun (j : Nat) => [AV.int IntKind.i64 (c.L4 j)]) ∧ (4 : Int) ≤ (1000 : Int) ∧ @Bool.rec (fun _ => Prop) (z = Bool.false ∧ True) (((fun (j : Nat) => [AV.int IntKind.i64 (c.G j), AV.rb Bool.true (c.K j) (NL.is (u.C j))]) = fun (j : Nat) => [AV.int IntKind.i64 (c.G j), AV.rb Bool.true (c.K j) (NL.is (u.C j))]) ∧ (4 : Int) ≤ (1000 : Int) ∧ @Bool.rec (fun _ => Prop) (z = Bool.false ∧ True) (@Bool.rec (fun _ => Prop) (z = Bool.false ∧ True) (@Bool.rec (fun _ => Prop) (z = Bool.false ∧ True) (((fun (j : Nat) => [AV.rb Bool.true (c.T j) (NL.is (u.F j)), AV.int IntKind.i64 (c.A j)]) = fun (j : Nat) => [AV.rb Bool.true (c.T j) (NL.is (u.F j)), AV.int IntKind.i64 (c.A j)]) ∧ (4 : Int) ≤ (1000 : Int) ∧ @Bool.rec (fun _ => Prop) (z = Bool.false ∧ True) (@Bool.rec (fun _ => Prop) (z = Bool.false ∧ True) (((fun (j : Nat) => [AV.rb Bool.true (c.D j) (NL.is (u.E j))]) = fun (j : Nat) => [AV.rb Bool.true (c.D j) (NL.is (u.E j))]) ∧ (4 : Int) ≤ (1000 : Int) ∧ z = lnB (isDj fun (j : Nat) => c.D j) c.n7 (4 : Int) ∧ True) (decide ((↑c.n7 : Int) = (↑c.n6 : Int)))) (lnB (isTj (fun (j : Nat) => c.T j) fun (j : Nat) => c.A j) c.n6 (4 : Int))) (decide ((↑(List.length c.mo) : Int) ≤ (4 : Int)))) (decide ((↑(List.length c.co) : Int) ≤ (64 : Int)))) (lnB (isSj (fun (j : Nat) => c.G j) fun (j : Nat) => c.K j) c.n5 (4 : Int))) (lnB (isUj fun (j : Nat) => c.L4 j) c.n4 (4 : Int))) (lnB (isUj fun (j : Nat) => c.L3 j) c.n3 (4 : Int))) (lnB (isUj fun (j : Nat) => c.L2 j) c.n2 (4 : Int))) (lnB (isUj fun (j : Nat) => c.L1 j) c.n1 (8 : Int))) (decide ((1 : Int) ≤ (↑c.n1 : Int)))) (decide ((↑(List.length c.s) : Int) ≤ (32 : Int)))) := by kernel_rfl
theorem bn37 (c : Cli) (u : Clu) : Must (bodyP Tryd.prog Ht1 gl0 [] [] 3000 Tryd.f43 0 [cliV c u] [] (retQ Tryd.prog Tryd.f43 0 ⟨[], .bool c.okB, [], []⟩)) := by
  constructor
  rw [vn37]
  have no : ¬ c.ok → (c.okB = false ∧ True) := fun h => ⟨Cli.okB_no h, trivial⟩
  have ln : ∀ {P : Nat → Prop} {n : Nat} {m : Int}, lnB P n m = false → ¬ ((n : Int) ≤ m ∧ ∀ j, j < n → P j) := fun e h => by rw [lnB_iff.2 h] at e; cases e
  refine brec (fun d1 => ?_) (fun d => no fun h => of_decide_eq_false d (by have := h.hs; omega))
  refine brec (fun d2 => ?_) (fun d => no fun h => of_decide_eq_false d (by have := h.h0; omega))
  refine ⟨rfl, by decide, ?_⟩
  refine brec (fun d3 => ?_) (fun d => no fun h => ln d ⟨by have := h.h1; omega, h.i1⟩)
  refine ⟨rfl, by decide, ?_⟩
  refine brec (fun d4 => ?_) (fun d => no fun h => ln d ⟨by have := h.h2; omega, h.i2⟩)
  refine ⟨rfl, by decide, ?_⟩
  refine brec (fun d5 => ?_) (fun d => no fun h => ln d ⟨by have := h.h3; omega, h.i3⟩)
  refine ⟨rfl, by decide, ?_⟩
  refine brec (fun d6 => ?_) (fun d => no fun h => ln d ⟨by have := h.h4; omega, h.i4⟩)
  refine ⟨rfl, by decide, ?_⟩
  refine brec (fun d7 => ?_) (fun d => no fun h => ln d ⟨by have := h.h5.1; omega, h.h5.2⟩)
  refine brec (fun d8 => ?_) (fun d => no fun h => of_decide_eq_false d (by have := h.hc; omega))
  refine brec (fun d9 => ?_) (fun d => no fun h => of_decide_eq_false d (by have := h.hm; omega))
  refine ⟨rfl, by decide, ?_⟩
  refine brec (fun da => ?_) (fun d => no fun h => ln d ⟨by have := h.h6.1; omega, fun j hj => ⟨(h.h6.2 j hj).1, (h.h6.2 j hj).2.1⟩⟩)
  refine brec (fun db => ?_) (fun d => no fun h => of_decide_eq_false d (by have := h.h7; omega))
  refine ⟨rfl, by decide, ?_, trivial⟩
  have d1 := of_decide_eq_true d1
  have d2 := of_decide_eq_true d2
  have d8 := of_decide_eq_true d8
  have d9 := of_decide_eq_true d9
  have db := of_decide_eq_true db
  have d3 := lnB_iff.1 d3
  have d4 := lnB_iff.1 d4
  have d5 := lnB_iff.1 d5
  have d6 := lnB_iff.1 d6
  have d7 := lnB_iff.1 d7
  have da := lnB_iff.1 da
  cases e : lnB (isDj fun j => c.D j) c.n7 4
  · refine Cli.okB_no fun h => ln e ⟨by have := h.h7; have := h.h6.1; omega, fun j hj => (h.h6.2 j (by have := h.h7; omega)).2.2⟩
  · have dc := lnB_iff.1 e
    refine Cli.okB_iff.2 ⟨by omega, by omega, by omega, d3.2, by omega, d4.2, by omega, d5.2, by omega, d6.2, ⟨by omega, d7.2⟩, by omega, by omega, by omega, ⟨by omega, fun j hj => ⟨(da.2 j hj).1, (da.2 j hj).2, dc.2 j (by omega)⟩⟩⟩
end Go.Sym

namespace Go.Sym
open Go.Proofs Go.Spec
set_option linter.unusedVariables false
def asCli (cs : List AV) (k : Cli → List Prop → TL) : TL :=
  match cs.drop 32, rdU8 (cs.take 32) with
  | [.rb false s .unk, .ros true 1 n1 g1 u1, .ros true 1 n2 g2 u2, .ros true 1 n3 g3 u3, .ros true 1 n4 g4 u4, .ros false 2 n5 g5 u5, .rb false co .unk, .rb false mo .unk, .ros false 2 n6 g6 u6, .ros true 1 n7 g7 u7], some l =>
    (match l.length == 32 with
    | true => k ⟨fn8 l, s, n1, rowI g1, n2, rowI g2, n3, rowI g3, n4, rowI g4, n5, rowG g5, rowK g5, co, mo, n6, rowT g6, rowA g6, n7, rowD g7⟩ [isRowI g1, isRowI g2, isRowI g3, isRowI g4, isRowS g5, isRowT g6, isRowD g7]
    | false => .no)
  | _, _ => .no
theorem asCli_sel {cs : List AV} {k : Cli → List Prop → TL} {r : RL} (h : (asCli cs k).sel = some r) : ∃ c o, (k c o).sel = some r ∧ (obsT o → ∃ u, AV.agg cs = cliV c u) := by
  unfold asCli at h
  split at h
  · rename_i s n1 g1 u1 n2 g2 u2 n3 g3 u3 n4 g4 u4 n5 g5 u5 co mo n6 g6 u6 n7 g7 u7 l hd hl
    split at h
    · rename_i hn
      refine ⟨_, _, h, fun ho => ⟨⟨u1, u2, u3, u4, u5, rowKc g5, u6, rowTc g6, u7, rowDc g7⟩, ?_⟩⟩
      obtain ⟨i1, ho⟩ := obsT_cons.1 ho
      obtain ⟨i2, ho⟩ := obsT_cons.1 ho
      obtain ⟨i3, ho⟩ := obsT_cons.1 ho
      obtain ⟨i4, ho⟩ := obsT_cons.1 ho
      obtain ⟨i5, ho⟩ := obsT_cons.1 ho
      obtain ⟨i6, ho⟩ := obsT_cons.1 ho
      have i7 := obsT_one.1 ho
      have e := List.take_append_drop 32 cs
      have e8 := agB_of hl hn
      unfold aggB at e8
      rw [AV.agg.injEq] at e8
      rw [hd, e8] at e
      unfold cliV cliA cliC inR shR idR biR
      rw [← e]
      congr 2
      unfold isRowI at i1 i2 i3 i4
      unfold isRowS at i5
      unfold isRowT at i6
      unfold isRowD at i7
      rw [← i1, ← i2, ← i3, ← i4, ← i5, ← i6, ← i7]
    · simp [TL.sel] at h
  · simp [TL.sel] at h
def gn38 (xs : List AV) (bs : List ABlk) : TL := match xs, bs with
  | [.agg cs], [] => asCli cs fun c o => .ok ⟨c.ok :: o, .slice 0 0 1 c.by.length .ow .unk, [], [⟨.bytes c.by, true, 1⟩]⟩
  | _, _ => .no
def spn38 : Spec := ⟨[cliK], fun _ _ => [], fun _ _ => [], gn38⟩
theorem cn38 : COK Tryd.prog gl0 44 (mkF spn38) := by
  refine ctrE (fn := Tryd.f44) [] 3000 (by kernel_rfl) (by kernel_rfl) okHp5 (by kernel_rfl) (fun args w => by kernel_rfl) fun xs bs r hs ho => ?_
  replace hs : (gn38 xs bs).sel = some r := hs
  unfold gn38 at hs
  split at hs
  · obtain ⟨c, o, hs, hc⟩ := asCli_sel hs
    simp only [TL.sel, Option.some.injEq] at hs
    subst hs
    obtain ⟨h, h1⟩ := obsT_cons.1 ho
    obtain ⟨u, e⟩ := hc h1
    rw [e]
    exact ⟨_, bn38 c u h⟩
  · simp [TL.sel] at hs
noncomputable def gn37 (xs : List AV) (bs : List ABlk) : TL := match xs, bs with
  | [.agg cs], [] => asCli cs fun c o => .ok ⟨o, .bool c.okB, [], []⟩
  | _, _ => .no
noncomputable def spn37 : Spec := ⟨[cliK], fun _ _ => [], fun _ _ => [], gn37⟩
theorem cn37 : COK Tryd.prog gl0 43 (mkF spn37) := by
  refine ctrE (fn := Tryd.f43) [] 3000 (by kernel_rfl) (by kernel_rfl) okHt1 (by kernel_rfl) (fun args w => by kernel_rfl) fun xs bs r hs ho => ?_
  replace hs : (gn37 xs bs).sel = some r := hs
  unfold gn37 at hs
  split at hs
  · obtain ⟨c, o, hs, hc⟩ := asCli_sel hs
    simp only [TL.sel, Option.some.injEq] at hs
    subst hs
    obtain ⟨u, e⟩ := hc ho
    rw [e]
    exact ⟨_, bn37 c u⟩
  · simp [TL.sel] at hs
noncomputable def Hu1 : Ctx := (Hp5.add 43 (mkF spn37)).add 44 (mkF spn38)
theorem okHu1 : COKs Tryd.prog gl0 Hu1 := (okHp5.add cn37).add cn38
def rPc (k : Nat) (e : Int) (B : By) : RL := ⟨[], .tup [.slice 0 0 1 k .ow .unk, .int .i64 e], [], [⟨.bytes B, true, 1⟩]⟩
end Go.Sym

namespace Go.Spec
open Go.Sym
/-- The same, by what is met of it. -/
def Cli.re (c : Cli) : Cli := { c with R := fun i => (rg 32 c.R).getD i (0 : BitVec 8) }
theorem Cli.re_ok (c : Cli) : c.re.ok ↔ c.ok := ⟨fun h => ⟨h.hs, h.h0, h.h1, h.i1, h.h2, h.i2, h.h3, h.i3, h.h4, h.i4, h.h5, h.hc, h.hm, h.h7, h.h6⟩, fun h => ⟨h.hs, h.h0, h.h1, h.i1, h.h2, h.i2, h.h3, h.i3, h.h4, h.i4, h.h5, h.hc, h.hm, h.h7, h.h6⟩⟩
theorem Cli.re_okB (c : Cli) : c.re.okB = c.okB := by
  cases e : c.okB
  · exact Cli.okB_no fun h => by rw [Cli.okB_iff.2 (c.re_ok.1 h)] at e; cases e
  · exact Cli.okB_iff.2 (c.re_ok.2 (Cli.okB_iff.1 e))
theorem Cli.re_by (c : Cli) : c.re.by = c.by := by
  have e : c.re.hd = c.hd := by
    show pvB (pvB (hdB (fun i => (rg 32 c.R).getD i (0 : BitVec 8)) c.s) (chN c.L1 c.n1) 2) [0#8] 1 = _
    unfold Cli.hd hdB
    rw [rgf]
  show pvB c.re.hd c.ex 2 = _
  rw [e]
  rfl
/-- What the call answers. -/
noncomputable def Cli.pB (c : Cli) : By := if c.okB = true then c.by else []
noncomputable def Cli.pE (c : Cli) : Int := if c.okB = true then 0 else 1
end Go.Spec
namespace Go.Sym
open Go.Proofs Go.Spec
set_option linter.unusedVariables false
def rowsE (c : Cli) (u : Clu) (P : Prop) : Prop := ((fun (j : Nat) => [AV.int IntKind.i64 (c.L1 j)]) = fun (j : Nat) => [AV.int IntKind.i64 (c.L1 j)]) ∧ ((fun (j : Nat) => [AV.int IntKind.i64 (c.L2 j)]) = fun (j : Nat) => [AV.int IntKind.i64 (c.L2 j)]) ∧ ((fun (j : Nat) => [AV.int IntKind.i64 (c.L3 j)]) = fun (j : Nat) => [AV.int IntKind.i64 (c.L3 j)]) ∧ ((fun (j : Nat) => [AV.int IntKind.i64 (c.L4 j)]) = fun (j : Nat) => [AV.int IntKind.i64 (c.L4 j)]) ∧ ((fun (j : Nat) => [AV.int IntKind.i64 (c.G j), AV.rb Bool.true (c.K j) (NL.is (u.C j))]) = fun (j : Nat) => [AV.int IntKind.i64 (c.G j), AV.rb Bool.true (c.K j) (NL.is (u.C j))]) ∧ ((fun (j : Nat) => [AV.rb Bool.true (c.T j) (NL.is (u.F j)), AV.int IntKind.i64 (c.A j)]) = fun (j : Nat) => [AV.rb Bool.true (c.T j) (NL.is (u.F j)), AV.int IntKind.i64 (c.A j)]) ∧ ((fun (j : Nat) => [AV.rb Bool.true (c.D j) (NL.is (u.E j))]) = fun (j : Nat) => [AV.rb Bool.true (c.D j) (NL.is (u.E j))]) ∧ P
set_option maxRecDepth 100000 in
theorem vn14 (c : Cli) (u : Clu) (k : Nat) (e : Int) (B : By) : bodyP Tryd.prog Hu1 gl0 [] [] 3000 Tryd.f22 0 [cliV c u] [] (retQ Tryd.prog Tryd.f22 0 (rPc k e B)) = (
rowsE c u (@Bool.rec (fun _ => Prop) (c.re.ok ∧ rowsE c u (0 = 0 ∧ 0 = 0 ∧ 0 = 0 ∧ k = List.length c.re.by ∧ e = (0 : Int) ∧ B = c.re.by ∧ True)) (k = 0 ∧ e = (1 : Int) ∧ B = [] ∧ True) (!c.re.okB))) := by kernel_rfl
theorem rowsE_of {c : Cli} {u : Clu} {P : Prop} (h : P) : rowsE c u P := ⟨rfl, rfl, rfl, rfl, rfl, rfl, rfl, h⟩
theorem bn14 (c : Cli) (u : Clu) : Must (bodyP Tryd.prog Hu1 gl0 [] [] 3000 Tryd.f22 0 [cliV c u] [] (retQ Tryd.prog Tryd.f22 0 (rPc c.pB.length c.pE c.pB))) := by
  constructor
  rw [vn14, c.re_okB, c.re_by]
  refine rowsE_of ?_
  unfold Cli.pB Cli.pE
  refine brec (fun d => ?_) (fun d => ?_)
  · have d : c.okB = false := by simpa using d
    rw [if_neg (by rw [d]; decide), if_neg (by rw [d]; decide)]
    exact ⟨rfl, rfl, rfl, trivial⟩
  · have d : c.okB = true := by simpa using d
    rw [if_pos d, if_pos d]
    exact ⟨c.re_ok.2 (Cli.okB_iff.1 d), rowsE_of ⟨rfl, rfl, rfl, rfl, rfl, rfl, trivial⟩⟩
noncomputable def gn14 (xs : List AV) (bs : List ABlk) : TL := match xs, bs with
  | [.agg cs], [] => asCli cs fun c o => .ok ⟨o, .tup [.slice 0 0 1 c.pB.length .ow .unk, .int .i64 c.pE], [], [⟨.bytes c.pB, true, 1⟩]⟩
  | _, _ => .no
noncomputable def spn14 : Spec := ⟨[cliK], fun _ _ => [], fun _ _ => [], gn14⟩
theorem cn14 : COK Tryd.prog gl0 22 (mkF spn14) := by
  refine ctrE (fn := Tryd.f22) [] 3000 (by kernel_rfl) (by kernel_rfl) okHu1 (by kernel_rfl) (fun args w => by kernel_rfl) fun xs bs r hs ho => ?_
  replace hs : (gn14 xs bs).sel = some r := hs
  unfold gn14 at hs
  split at hs
  · obtain ⟨c, o, hs, hc⟩ := asCli_sel hs
    simp only [TL.sel, Option.some.injEq] at hs
    subst hs
    obtain ⟨u, e⟩ := hc ho
    rw [e]
    exact ⟨_, bn14 c u⟩
  · simp [TL.sel] at hs
end Go.Sym
