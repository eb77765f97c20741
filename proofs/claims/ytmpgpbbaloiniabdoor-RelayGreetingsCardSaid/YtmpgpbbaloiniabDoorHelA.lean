/- Readers of bytes, and what is put behind others, by the functions of the program. -/
import Derived.Test.YtmpgpbbaloiniabDoorShaB
import Derived.Test.YtmpgpbbaloiniabDoorSymC
import Derived.Test.YtmpgpbbaloiniabDoorShaA
namespace Go.Spec
/-- A number out of bytes, the highest first. -/
def beN (l : By) : Nat := l.foldl (fun n b => n * 256 + b.toNat) 0
/-- What a reader of L, at x, with the error e, tells of m bytes: the error; where it is then; the bytes. -/
def rdE (L : By) (x : Nat) (e m : Int) : Int := if e ≠ 0 then e else if m < 0 then 3 else if ((L.length - x : Nat) : Int) < m then 2 else 0
def rdX (L : By) (x : Nat) (e m : Int) : Nat := if rdE L x e m = 0 then x + m.toNat else x
def rdB (L : By) (x : Nat) (e m : Int) : By := if rdE L x e m = 0 then (L.drop x).take m.toNat else []
/-- Of a number of so many bytes. -/
def uiE (L : By) (x : Nat) (e w : Int) : Int := if e ≠ 0 then e else if w < 1 ∨ 4 < w then 3 else rdE L x 0 w
def uiX (L : By) (x : Nat) (e w : Int) : Nat := if uiE L x e w = 0 then x + w.toNat else x
def uiV (L : By) (x : Nat) (e w : Int) : Nat := if uiE L x e w = 0 then beN ((L.drop x).take w.toNat) else 0
/-- Of a vector. -/
def veE (L : By) (x : Nat) (e w a z : Int) : Int :=
  if rdE L (uiX L x e w) (uiE L x e w) (uiV L x e w) ≠ 0 then rdE L (uiX L x e w) (uiE L x e w) (uiV L x e w)
  else if (uiV L x e w : Int) < a ∨ z < (uiV L x e w : Int) then 3 else 0
def veX (L : By) (x : Nat) (e w : Int) : Nat := rdX L (uiX L x e w) (uiE L x e w) (uiV L x e w)
def veB (L : By) (x : Nat) (e w a z : Int) : By := if veE L x e w a z = 0 then rdB L (uiX L x e w) (uiE L x e w) (uiV L x e w) else []
end Go.Spec
namespace Go.Sym
open Go.Proofs Go.Spec
set_option linter.unusedVariables false
/-- A reader, as it lies in memory. -/
def rdC (x n : Nat) (e : Int) : ABlk := ⟨.cells [.slice 1 x 1 n .ox .unk, .int .i64 e], true, 0⟩
def rdL (L : By) : ABlk := ⟨.bytes L, true, 1⟩
def reSp (na : Nat) (G : List AV → List ABlk → TL) : Spec := ⟨List.replicate na .kp, fun xs h => reachX h 200 (namesL xs) [], kinds, G⟩
/-- What clones bytes. -/
def clA (l : By) : RL := ⟨[l.length < 1099511627776], .slice 0 0 1 l.length .ow .unk, [], [⟨.bytes l, true, 1⟩]⟩
noncomputable def Qz0 : Ctx := .none []
theorem okQz0 : COKs Tryd.prog gl0 Qz0 := COKs.none
end Go.Sym

namespace Go.Sym
open Go.Proofs Go.Spec
set_option linter.unusedVariables false
set_option maxRecDepth 100000 in
theorem vq72 (p b : Bool) (l M : By) (L : Nat) : bodyP Tryd.prog Qz0 gl0 [] [] 3000 Tryd.f32 0 [.rb p l (.is b)] [] (retQ Tryd.prog Tryd.f32 0 ⟨[], .slice 0 0 1 L .ow .unk, [], [⟨.bytes M, true, 1⟩]⟩) = (
@Bool.rec (fun _ => Prop) (0 = 0 ∧ roomFor 0 (List.length l) 1 ∧ 0 = 0 ∧ 0 = 0 ∧ 0 = 0 ∧ L = 0 + List.length l ∧ M = [] ++ l ∧ True) (L = 0 ∧ M = [] ∧ True) b : Prop) := by kernel_rfl
end Go.Sym

set_option linter.unusedSimpArgs false
namespace Go.Sym
open Go.Proofs Go.Spec
set_option linter.unusedVariables false
theorem bq72 (p b : Bool) (l : By) (hb : b = true → l = []) (hl : l.length < 1099511627776) : Must (bodyP Tryd.prog Qz0 gl0 [] [] 3000 Tryd.f32 0 [.rb p l (.is b)] [] (retQ Tryd.prog Tryd.f32 0 ⟨[], .slice 0 0 1 l.length .ow .unk, [], [⟨.bytes l, true, 1⟩]⟩)) := by
  constructor
  rw [vq72]
  refine brec (fun h => ?_) (fun h => ?_)
  · rw [hb h]; exact ⟨rfl, rfl, trivial⟩
  · exact ⟨rfl, by unfold roomFor; omega, rfl, rfl, rfl, by omega, rfl, trivial⟩
theorem cq72 : COK Tryd.prog gl0 32 (mkF (unkSp clA)) := by
  refine COK.unk ?_
  refine ctrE (fn := Tryd.f32) [] 3000 (by kernel_rfl) (by kernel_rfl) okQz0 (by kernel_rfl) (fun args w => by kernel_rfl) fun xs bs r hs ho => ?_
  replace hs : (nilG clA xs bs).sel = some r := hs
  unfold nilG at hs
  split at hs
  · simp only [TL.sel, Option.some.injEq] at hs
    subst hs
    obtain ⟨h1, h2⟩ := obsT_cons.1 ho
    exact ⟨_, bq72 _ _ _ h1 (obsT_one.1 h2)⟩
  · simp [TL.sel] at hs
noncomputable def Qz1 : Ctx := Qz0.add 32 (mkF (unkSp clA))
theorem okQz1 : COKs Tryd.prog gl0 Qz1 := okQz0.add cq72
noncomputable def Qz2 : Ctx := Qz1.exe Tryd.prog gl0 [] 300 Tryd.f50.params.size 50 Tryd.f50
theorem okQz2 : COKs Tryd.prog gl0 Qz2 := okQz1.exe [] 300 _ (by kernel_rfl) (by kernel_rfl) (by kernel_rfl) (fun args w => by kernel_rfl)
noncomputable def Qz3 : Ctx := Qz2.exe Tryd.prog gl0 [] 300 Tryd.f49.params.size 49 Tryd.f49
theorem okQz3 : COKs Tryd.prog gl0 Qz3 := okQz2.exe [] 300 _ (by kernel_rfl) (by kernel_rfl) (by kernel_rfl) (fun args w => by kernel_rfl)
noncomputable def Qz4 : Ctx := Qz3.exe Tryd.prog gl0 [] 300 Tryd.f82.params.size 82 Tryd.f82
theorem okQz4 : COKs Tryd.prog gl0 Qz4 := okQz3.exe [] 300 _ (by kernel_rfl) (by kernel_rfl) (by kernel_rfl) (fun args w => by kernel_rfl)
/-- What a reader hands out: bytes, and itself. -/
def rdR (L : By) (x2 n2 : Nat) (e2 : Int) (B : By) (k : Nat) : RL := ⟨[], .slice 2 0 1 k .ow .unk, [some (some (rdC x2 n2 e2)), some (some (rdL L))], [⟨.bytes B, true, 1⟩]⟩
def rdN (L : By) (x2 n2 : Nat) (e2 v : Int) : RL := ⟨[], .int .i64 v, [some (some (rdC x2 n2 e2)), some (some (rdL L))], []⟩
end Go.Sym

namespace Go.Sym
open Go.Proofs Go.Spec
set_option linter.unusedVariables false
set_option maxRecDepth 100000 in
theorem vq19 (L B : By) (x n x2 n2 k : Nat) (e m e2 : Int) : bodyP Tryd.prog Qz4 gl0 [] [] 3000 Tryd.f47 2 [.ptr 0 0 0 0, .int .i64 m] [rdC x n e, rdL L] (retQ Tryd.prog Tryd.f47 2 (rdR L x2 n2 e2 B k)) = (
let x1 := k = 0 ∧ x2 = x ∧ 0 = 0 ∧ x2 = x ∧ n2 = n ∧ e2 = e ∧ L = L ∧ B = [] ∧ True; @Bool.rec (fun _ => Prop) (@Bool.rec (fun _ => Prop) (@Bool.rec (fun _ => Prop) ((0 : Int) ≤ m ∧ m.toNat ≤ n ∧ plus x 0 + m.toNat ≤ List.length L ∧ (List.take m.toNat (dropN (plus x 0) L)).length < 1099511627776 ∧ (0 : Int) ≤ m ∧ m.toNat ≤ n ∧ 0 = 0 ∧ 0 = 0 ∧ 0 = 0 ∧ k = (List.take m.toNat (dropN (plus x 0) L)).length ∧ x2 = plus x m.toNat ∧ 0 = 0 ∧ x2 = plus x m.toNat ∧ n2 = minus n m.toNat ∧ e2 = e ∧ L = L ∧ B = List.take m.toNat (dropN (plus x 0) L) ∧ True) (@Bool.rec (fun _ => Prop) x1 (k = 0 ∧ x2 = x ∧ 0 = 0 ∧ x2 = x ∧ n2 = n ∧ e2 = (2 : Int) ∧ L = L ∧ B = [] ∧ True) !!decide (e = (0 : Int))) (decide ((↑n : Int) < m))) (@Bool.rec (fun _ => Prop) x1 (k = 0 ∧ x2 = x ∧ 0 = 0 ∧ x2 = x ∧ n2 = n ∧ e2 = (3 : Int) ∧ L = L ∧ B = [] ∧ True) !!decide (e = (0 : Int))) (decide (m < (0 : Int)))) x1 !decide (e = (0 : Int)) : Prop) := by kernel_rfl
set_option maxRecDepth 100000 in
theorem vq19n (m : Int) : bodyP Tryd.prog Qz4 gl0 [] [] 3000 Tryd.f47 0 [.nilp, .int .i64 m] [] (retQ Tryd.prog Tryd.f47 0 ⟨[], .nils, [], []⟩) = (
True : Prop) := by kernel_rfl
set_option maxRecDepth 100000 in
theorem vq24 (L B : By) (x n : Nat) (e : Int) : bodyP Tryd.prog Qz4 gl0 [] [] 3000 Tryd.f25 0 [.rb false L .unk] [] (retQ Tryd.prog Tryd.f25 0 ⟨[], .ptr 0 0 0 0, [], [rdC x n e, rdL B]⟩) = (
List.length L < 1099511627776 ∧ 0 = 0 ∧ x = 0 ∧ 0 = 0 ∧ x = 0 ∧ n = List.length L ∧ e = (0 : Int) ∧ B = L ∧ True : Prop) := by kernel_rfl
end Go.Sym

set_option linter.unusedSimpArgs false
namespace Go.Spec
theorem beN_snoc (l : By) (x : BitVec 8) : beN (l ++ [x]) = beN l * 256 + x.toNat := by simp [beN]
theorem beN_lt (l : By) : beN l < 256 ^ l.length := by
  suffices h : ∀ n (l : By), l.length = n → beN l < 256 ^ n from h _ l rfl
  intro n
  induction n with
  | zero => intro l h; rw [List.eq_nil_of_length_eq_zero h]; decide
  | succ n ih =>
    intro l h
    obtain ⟨k, x, rfl⟩ : ∃ k x, l = k ++ [x] := ⟨l.dropLast, l.getLast (by intro h0; subst h0; simp at h), (List.dropLast_concat_getLast _).symm⟩
    rw [beN_snoc]
    have := ih k (by simpa using h)
    have := x.isLt
    rw [Nat.pow_succ]
    omega
theorem beN_take (l : By) (i : Nat) (h : i < l.length) : beN (l.take (i + 1)) = beN (l.take i) * 256 + (l.getD i 0).toNat := by
  have : l.take (i + 1) = l.take i ++ [l.getD i 0] := by
    rw [List.take_add_one]
    simp [List.getD, h]
  rw [this, beN_snoc]
theorem beN_take_lt (l : By) (i : Nat) (h : i ≤ 4) : beN (l.take i) < 4294967296 := by
  refine Nat.lt_of_lt_of_le (beN_lt _) ?_
  refine Nat.le_trans (Nat.pow_le_pow_right (by decide) (by simp; omega : (l.take i).length ≤ 4)) (by decide)
theorem rdB_len (L : By) (x : Nat) (e m : Int) (h : rdE L x e m = 0) : (rdB L x e m).length = m.toNat := by
  unfold rdB
  rw [if_pos h]
  unfold rdE at h
  split at h
  · contradiction
  · split at h
    · cases h
    · split at h
      · cases h
      · simp; omega
theorem rdX_le (L : By) (x : Nat) (e m : Int) (hx : x ≤ L.length) : rdX L x e m ≤ L.length := by
  unfold rdX
  split
  · rename_i h
    unfold rdE at h
    split at h
    · contradiction
    · split at h
      · cases h
      · split at h
        · cases h
        · omega
  · exact hx
theorem rdB_le (L : By) (x : Nat) (e m : Int) : (rdB L x e m).length ≤ L.length := by
  unfold rdB
  split
  · simp; omega
  · simp
end Go.Spec
namespace Go.Sym
open Go.Proofs Go.Spec
set_option linter.unusedVariables false
theorem or64 (a : Nat) (b : BitVec 8) (h : a < 4294967296) : IntKind.i64.wrap ((BitVec.ofInt 64 (IntKind.i64.wrap ((a : Int) * 2 ^ 8)) ||| BitVec.ofInt 64 (b.toNat : Int)).toNat : Int) = ((a * 256 + b.toNat : Nat) : Int) := by
  have hb := b.isLt
  have e1 : IntKind.i64.wrap ((a : Int) * 2 ^ 8) = ((a * 256 : Nat) : Int) := wrap_nat _ (by omega) (by omega)
  have e2 : (BitVec.ofInt 64 ((a * 256 : Nat) : Int) ||| BitVec.ofInt 64 ((b.toNat : Nat) : Int)).toNat = a * 256 + b.toNat := by
    rw [BitVec.toNat_or, BitVec.ofInt_natCast, BitVec.ofInt_natCast, BitVec.toNat_ofNat, BitVec.toNat_ofNat, Nat.mod_eq_of_lt (by omega), Nat.mod_eq_of_lt (by omega)]
    have := Nat.shiftLeft_add_eq_or_of_lt (i := 8) (b := b.toNat) (by omega) a
    rw [Nat.shiftLeft_eq] at this
    simp only [Nat.reducePow] at this
    omega
  rw [e1, e2]
  exact wrap_nat _ rfl (by omega)
theorem plus0 (x : Nat) : plus x 0 = x := by rw [plus_eq]; rfl
theorem bq19 (L : By) (x n : Nat) (e m : Int) (h1 : x + n = L.length) (h2 : L.length < 1099511627776) :
    Must (bodyP Tryd.prog Qz4 gl0 [] [] 3000 Tryd.f47 2 [.ptr 0 0 0 0, .int .i64 m] [rdC x n e, rdL L] (retQ Tryd.prog Tryd.f47 2 (rdR L (rdX L x e m) (L.length - rdX L x e m) (rdE L x e m) (rdB L x e m) (rdB L x e m).length))) := by
  constructor
  rw [vq19]
  simp only [plus_eq, minus_eq, dropN_eq, Nat.add_zero, List.length_take, List.length_drop]
  have hn : L.length - x = n := by omega
  by_cases he : e = 0
  · subst he
    by_cases hm : m < 0
    · have hE : rdE L x 0 m = 3 := by simp [rdE, hm]
      have hX : rdX L x 0 m = x := by simp [rdX, hE]
      have hB : rdB L x 0 m = [] := by simp [rdB, hE]
      simp [hm, hE, hX, hB, hn]
    · by_cases hl : (n : Int) < m
      · have hE : rdE L x 0 m = 2 := by simp [rdE, hm, hn, hl]
        have hX : rdX L x 0 m = x := by simp [rdX, hE]
        have hB : rdB L x 0 m = [] := by simp [rdB, hE]
        simp [hm, hl, hE, hX, hB, hn]
      · have hE : rdE L x 0 m = 0 := by simp [rdE, hm, hn, hl]
        have hX : rdX L x 0 m = x + m.toNat := by simp [rdX, hE]
        have hB : rdB L x 0 m = (L.drop x).take m.toNat := by simp [rdB, hE]
        have hBl : ((L.drop x).take m.toNat).length = min m.toNat (L.length - x) := by simp
        simp only [hX, hB, hE, hBl]
        simp [hm, hl]
        omega
  · have hE : rdE L x e m = e := by simp [rdE, he]
    have hX : rdX L x e m = x := by simp [rdX, hE, he]
    have hB : rdB L x e m = [] := by simp [rdB, hE, he]
    simp only [hX, hE, hB]
    simp [he, hn]
def gq19 (xs : List AV) (bs : List ABlk) : TL := match xs, bs with
  | [.ptr 0 0 0 0, .int .i64 m], [⟨.cells [.slice 1 x 1 n .ox .unk, .int .i64 e], true, 0⟩, ⟨.bytes L, true, 1⟩] =>
    .ok ⟨[x + n = L.length, L.length < 1099511627776], .slice 2 0 1 (rdB L x e m).length .ow .unk, [some (some (rdC (rdX L x e m) (L.length - rdX L x e m) (rdE L x e m))), some (some (rdL L))], [⟨.bytes (rdB L x e m), true, 1⟩]⟩
  | [.nilp, .int .i64 m], [] => .ok ⟨[], .nils, [], []⟩
  | _, _ => .no
theorem bq19n (m : Int) : Must (bodyP Tryd.prog Qz4 gl0 [] [] 3000 Tryd.f47 0 [.nilp, .int .i64 m] [] (retQ Tryd.prog Tryd.f47 0 ⟨[], .nils, [], []⟩)) := ⟨by rw [vq19n]; trivial⟩
theorem cq19 : COK Tryd.prog gl0 47 (mkF (reSp 2 gq19)) := by
  refine ctrE (fn := Tryd.f47) [] 3000 (by kernel_rfl) (by kernel_rfl) okQz4 (by kernel_rfl) (fun args w => by kernel_rfl) fun xs bs r hs ho => ?_
  replace hs : (gq19 xs bs).sel = some r := hs
  unfold gq19 at hs
  split at hs
  · simp only [TL.sel, Option.some.injEq] at hs
    subst hs
    obtain ⟨h1, h2⟩ := obsT_cons.1 ho
    exact ⟨_, bq19 _ _ _ _ _ h1 (obsT_one.1 h2)⟩
  · simp only [TL.sel, Option.some.injEq] at hs
    subst hs
    exact ⟨_, bq19n _⟩
  · simp [TL.sel] at hs
def gq24 (xs : List AV) (bs : List ABlk) : TL := match xs, bs with
  | [.rb false L .unk], [] => .ok ⟨[L.length < 1099511627776], .ptr 0 0 0 0, [], [rdC 0 L.length 0, rdL L]⟩
  | _, _ => .no
def spq24 : Spec := ⟨[.by0], fun _ _ => [], fun _ _ => [], gq24⟩
theorem bq24 (L : By) (h : L.length < 1099511627776) : Must (bodyP Tryd.prog Qz4 gl0 [] [] 3000 Tryd.f25 0 [.rb false L .unk] [] (retQ Tryd.prog Tryd.f25 0 ⟨[], .ptr 0 0 0 0, [], [rdC 0 L.length 0, rdL L]⟩)) := by
  constructor
  rw [vq24]
  exact ⟨h, rfl, rfl, rfl, rfl, rfl, rfl, rfl, trivial⟩
theorem cq24 : COK Tryd.prog gl0 25 (mkF spq24) := by
  refine ctrE (fn := Tryd.f25) [] 3000 (by kernel_rfl) (by kernel_rfl) okQz4 (by kernel_rfl) (fun args w => by kernel_rfl) fun xs bs r hs ho => ?_
  replace hs : (gq24 xs bs).sel = some r := hs
  unfold gq24 at hs
  split at hs
  · simp only [TL.sel, Option.some.injEq] at hs
    subst hs
    exact ⟨_, bq24 _ (obsT_one.1 ho)⟩
  · simp [TL.sel] at hs
noncomputable def Qz5 : Ctx := Qz4.add 47 (mkF (reSp 2 gq19))
noncomputable def Qz6 : Ctx := Qz5.add 25 (mkF spq24)
theorem okQz6 : COKs Tryd.prog gl0 Qz6 := (okQz4.add cq19).add cq24
/-- The loop of a number. -/
def lsUi (L : By) (x : Nat) (e w : Int) : LS := ⟨Nat, fun i => [(5, .int .i64 (beN ((rdB L x e w).take i))), (15, .rb false (rdB L x e w) .unk), (16, .int .i64 (rdB L x e w).length), (17, .int .i64 i)],
  fun i => [(0, rdC (rdX L x e w) (L.length - rdX L x e w) (rdE L x e w)), (1, rdL L)], 1000, fun i => (rdB L x e w).length - i, fun i => i ≤ (rdB L x e w).length, fun _ => []⟩
end Go.Sym

namespace Go.Sym
open Go.Proofs Go.Spec
set_option linter.unusedVariables false
set_option maxRecDepth 100000 in
theorem vq18 (L : By) (x n x2 n2 : Nat) (v e w e2 : Int) : bodyP Tryd.prog Qz6 gl0 [] [(7, lsUi L x e w)] 3000 Tryd.f48 2 [.ptr 0 0 0 0, .int .i64 w] [rdC x n e, rdL L] (retQ Tryd.prog Tryd.f48 2 (rdN L x2 n2 e2 v)) = (
let x1 := @Bool.rec (fun _ => Prop) (v = (0 : Int) ∧ x2 = x ∧ 0 = 0 ∧ x2 = x ∧ n2 = n ∧ e2 = e ∧ L = L ∧ True) (v = (0 : Int) ∧ x2 = x ∧ 0 = 0 ∧ x2 = x ∧ n2 = n ∧ e2 = (3 : Int) ∧ L = L ∧ True) !!decide (e = (0 : Int)); let x2_1 := rdX L x e w = rdX L x e w ∧ 0 = 0 ∧ rdX L x e w = rdX L x e w ∧ List.length L - rdX L x e w = List.length L - rdX L x e w ∧ rdE L x e w = rdE L x e w ∧ L = L ∧ True; @Bool.rec (fun _ => Prop) x1 (@Bool.rec (fun _ => Prop) (x + n = List.length L ∧ List.length L < 1099511627776 ∧ (∃ (x_1 : Nat), x_1.le (List.length (rdB L x e w)) ∧ (↑(beN (List.take x_1 (rdB L x e w))) : Int) = (0 : Int) ∧ List.length (rdB L x e w) = List.length (rdB L x e w) ∧ rdB L x e w = rdB L x e w ∧ List.length (rdB L x e w) = List.length (rdB L x e w) ∧ (↑(List.length (rdB L x e w)) : Int) = (↑(List.length (rdB L x e w)) : Int) ∧ (↑x_1 : Int) = (0 : Int) ∧ x2_1) ∧ ∀ (x_1 : Nat), x_1.le (List.length (rdB L x e w)) → @Bool.rec (fun _ => Prop) (v = (↑(beN (List.take x_1 (rdB L x e w))) : Int) ∧ x2 = rdX L x e w ∧ 0 = 0 ∧ x2 = rdX L x e w ∧ n2 = List.length L - rdX L x e w ∧ e2 = rdE L x e w ∧ L = L ∧ True) ((0 : Int) ≤ (↑x_1 : Int) ∧ (↑x_1 : Int).toNat < List.length (rdB L x e w) ∧ ∃ (y : Nat), List.length (rdB L x e w) - y < List.length (rdB L x e w) - x_1 ∧ y.le (List.length (rdB L x e w)) ∧ (↑(beN (List.take y (rdB L x e w))) : Int) = IntKind.i64.wrap (↑(BitVec.ofInt 64 (IntKind.i64.wrap ((↑(beN (List.take x_1 (rdB L x e w))) : Int) * Int.ofNat 256)) ||| BitVec.ofInt 64 (↑(List.getD (rdB L x e w) (↑x_1 : Int).toNat (0 : BitVec 8)).toNat : Int)).toNat : Int) ∧ rdB L x e w = rdB L x e w ∧ (↑(List.length (rdB L x e w)) : Int) = (↑(List.length (rdB L x e w)) : Int) ∧ (↑y : Int) = IntKind.i64.wrap ((↑x_1 : Int) + (1 : Int)) ∧ x2_1) (decide ((↑x_1 : Int) < (↑(List.length (rdB L x e w)) : Int)))) x1 !decide (w ≤ (4 : Int))) (decide ((1 : Int) ≤ w)) : Prop) := by kernel_rfl
set_option maxRecDepth 100000 in
theorem vq18n (v w : Int) : bodyP Tryd.prog Qz6 gl0 [] [] 3000 Tryd.f48 0 [.nilp, .int .i64 w] [] (retQ Tryd.prog Tryd.f48 0 ⟨[], .int .i64 v, [], []⟩) = (
@Bool.rec (fun _ => Prop) (v = (0 : Int) ∧ True) (@Bool.rec (fun _ => Prop) (v = (0 : Int) ∧ True) (v = (0 : Int) ∧ True) !decide (w ≤ (4 : Int))) (decide ((1 : Int) ≤ w)) : Prop) := by kernel_rfl
end Go.Sym

set_option linter.unusedSimpArgs false
namespace Go.Spec
theorem rdB_len_le (L : By) (x : Nat) (e m : Int) (k : Nat) (h : m ≤ k) : (rdB L x e m).length ≤ k := by
  unfold rdB
  split
  · simp; omega
  · simp
theorem uiE_w (L : By) (x : Nat) (e w : Int) (h1 : 1 ≤ w) (h2 : w ≤ 4) : uiE L x e w = rdE L x e w := by
  unfold uiE
  split
  · rename_i h; simp [rdE, h]
  · rename_i h
    have : e = 0 := by simpa using h
    subst this
    rw [if_neg (by omega)]
theorem uiX_w (L : By) (x : Nat) (e w : Int) (h1 : 1 ≤ w) (h2 : w ≤ 4) : uiX L x e w = rdX L x e w := by
  unfold uiX rdX
  rw [uiE_w L x e w h1 h2]
theorem uiV_w (L : By) (x : Nat) (e w : Int) (h1 : 1 ≤ w) (h2 : w ≤ 4) : uiV L x e w = beN (rdB L x e w) := by
  unfold uiV rdB
  rw [uiE_w L x e w h1 h2]
  split
  · rfl
  · rfl
theorem ui_bad (L : By) (x : Nat) (e w : Int) (h : ¬ (1 ≤ w ∧ w ≤ 4)) : uiE L x e w = (if e = 0 then 3 else e) ∧ uiX L x e w = x ∧ uiV L x e w = 0 := by
  have hE : uiE L x e w = (if e = 0 then 3 else e) := by
    unfold uiE
    by_cases he : e = 0
    · subst he
      rw [if_neg (by simp), if_pos (by omega)]; rfl
    · rw [if_pos he, if_neg he]
  have hne : uiE L x e w ≠ 0 := by
    rw [hE]; split
    · decide
    · assumption
  exact ⟨hE, by unfold uiX; rw [if_neg hne], by unfold uiV; rw [if_neg hne]⟩
theorem uiV_lt (L : By) (x : Nat) (e w : Int) : uiV L x e w < 4294967296 := by
  by_cases h : 1 ≤ w ∧ w ≤ 4
  · rw [uiV_w L x e w h.1 h.2]
    have := rdB_len_le L x e w 4 (by omega)
    refine Nat.lt_of_lt_of_le (beN_lt _) ?_
    exact Nat.le_trans (Nat.pow_le_pow_right (by decide) this) (by decide)
  · rw [(ui_bad L x e w h).2.2]; decide
theorem uiX_le (L : By) (x : Nat) (e w : Int) (hx : x ≤ L.length) : uiX L x e w ≤ L.length := by
  by_cases h : 1 ≤ w ∧ w ≤ 4
  · rw [uiX_w L x e w h.1 h.2]; exact rdX_le _ _ _ _ hx
  · rw [(ui_bad L x e w h).2.1]; exact hx
end Go.Spec
namespace Go.Sym
open Go.Proofs Go.Spec
set_option linter.unusedVariables false
theorem bq18 (L : By) (x n : Nat) (e w : Int) (h1 : x + n = L.length) (h2 : L.length < 1099511627776) :
    Must (bodyP Tryd.prog Qz6 gl0 [] [(7, lsUi L x e w)] 3000 Tryd.f48 2 [.ptr 0 0 0 0, .int .i64 w] [rdC x n e, rdL L] (retQ Tryd.prog Tryd.f48 2 (rdN L (uiX L x e w) (L.length - uiX L x e w) (uiE L x e w) (uiV L x e w)))) := by
  constructor
  rw [vq18]
  intro x1
  have bad : ¬ (1 ≤ w ∧ w ≤ 4) → x1 := by
    intro h
    obtain ⟨k1, k2, k3⟩ := ui_bad L x e w h
    have hn : L.length - x = n := by omega
    simp only [x1, k1, k2, k3, hn]
    by_cases he : e = 0 <;> simp [he]
  refine brec (fun g1 => ?_) (fun g1 => bad (by have := ndle.1 g1; omega))
  have g1 := dle.1 g1
  by_cases g2 : w ≤ 4
  · simp only [decide_eq_true g2, Bool.not_true]
    refine ⟨h1, h2, ⟨0, ?_⟩, fun i hi => brec (fun h => ?_) (fun h => ?_)⟩
    · and_intros <;> first | exact Nat.zero_le _ | trivial
    · have hi2 : i < (rdB L x e w).length := by have := dlt.1 h; omega
      have hl := rdB_len_le L x e w 4 (by omega)
      have hv := beN_take_lt (rdB L x e w) i (by omega)
      have := or64 (beN ((rdB L x e w).take i)) ((rdB L x e w).getD i 0) hv
      rw [← beN_take _ _ hi2] at this
      refine ⟨by omega, by omega, i + 1, by omega, by exact hi2, ?_⟩
      and_intros <;> first | trivial | exact this.symm | exact (wrap_nat _ (by omega) (by omega)).symm
    · have hi2 : i = (rdB L x e w).length := by have := ndlt.1 h; have : i ≤ _ := hi; omega
      rw [uiE_w L x e w g1 g2, uiX_w L x e w g1 g2, uiV_w L x e w g1 g2, hi2, List.take_length]
      and_intros <;> trivial
  · simp only [decide_eq_false g2, Bool.not_false]
    exact bad (by omega)
def gq18 (xs : List AV) (bs : List ABlk) : TL := match xs, bs with
  | [.ptr 0 0 0 0, .int .i64 w], [⟨.cells [.slice 1 x 1 n .ox .unk, .int .i64 e], true, 0⟩, ⟨.bytes L, true, 1⟩] =>
    .ok ⟨[x + n = L.length, L.length < 1099511627776], .int .i64 (uiV L x e w), [some (some (rdC (uiX L x e w) (L.length - uiX L x e w) (uiE L x e w))), some (some (rdL L))], []⟩
  | [.nilp, .int .i64 m], [] => .ok ⟨[], .int .i64 0, [], []⟩
  | _, _ => .no
theorem bq18n (w : Int) : Must (bodyP Tryd.prog Qz6 gl0 [] [] 3000 Tryd.f48 0 [.nilp, .int .i64 w] [] (retQ Tryd.prog Tryd.f48 0 ⟨[], .int .i64 0, [], []⟩)) := by
  constructor
  rw [vq18n]
  refine brec (fun _ => brec (fun _ => ⟨rfl, trivial⟩) (fun _ => ⟨rfl, trivial⟩)) (fun _ => ⟨rfl, trivial⟩)
theorem cq18 : COK Tryd.prog gl0 48 (mkF (reSp 2 gq18)) := by
  refine ctrE (fn := Tryd.f48) [] 3000 (by kernel_rfl) (by kernel_rfl) okQz6 (by kernel_rfl) (fun args w => by kernel_rfl) fun xs bs r hs ho => ?_
  replace hs : (gq18 xs bs).sel = some r := hs
  unfold gq18 at hs
  split at hs
  · simp only [TL.sel, Option.some.injEq] at hs
    subst hs
    obtain ⟨h1, h2⟩ := obsT_cons.1 ho
    exact ⟨_, bq18 _ _ _ _ _ h1 (obsT_one.1 h2)⟩
  · simp only [TL.sel, Option.some.injEq] at hs
    subst hs
    exact ⟨_, bq18n _⟩
  · simp [TL.sel] at hs
noncomputable def Qz7 : Ctx := Qz6.add 48 (mkF (reSp 2 gq18))
theorem okQz7 : COKs Tryd.prog gl0 Qz7 := okQz6.add cq18
end Go.Sym

namespace Go.Sym
open Go.Proofs Go.Spec
set_option linter.unusedVariables false
set_option maxRecDepth 100000 in
theorem vq20 (L B : By) (x n x2 n2 k : Nat) (e w a z e2 : Int) : bodyP Tryd.prog Qz7 gl0 [] [] 3000 Tryd.f26 2 [.ptr 0 0 0 0, .int .i64 w, .int .i64 a, .int .i64 z] [rdC x n e, rdL L] (retQ Tryd.prog Tryd.f26 2 (rdR L x2 n2 e2 B k)) = (
let x1 := rdX L (uiX L x e w) (uiE L x e w) (↑(uiV L x e w) : Int); let x2_1 := @Bool.rec (fun _ => Prop) (k = 0 ∧ x2 = x1 ∧ 0 = 0 ∧ x2 = x1 ∧ n2 = List.length L - x1 ∧ e2 = rdE L (uiX L x e w) (uiE L x e w) (↑(uiV L x e w) : Int) ∧ L = L ∧ B = [] ∧ True) (k = 0 ∧ x2 = x1 ∧ 0 = 0 ∧ x2 = x1 ∧ n2 = List.length L - x1 ∧ e2 = (3 : Int) ∧ L = L ∧ B = [] ∧ True) !!decide (rdE L (uiX L x e w) (uiE L x e w) (↑(uiV L x e w) : Int) = (0 : Int)); let x3 := rdB L (uiX L x e w) (uiE L x e w) (↑(uiV L x e w) : Int); x + n = List.length L ∧ List.length L < 1099511627776 ∧ uiX L x e w + (List.length L - uiX L x e w) = List.length L ∧ List.length L < 1099511627776 ∧ @Bool.rec (fun _ => Prop) x2_1 (@Bool.rec (fun _ => Prop) (0 = 0 ∧ 0 = 0 ∧ 0 = 0 ∧ k = List.length x3 ∧ x2 = x1 ∧ 0 = 0 ∧ x2 = x1 ∧ n2 = List.length L - x1 ∧ e2 = rdE L (uiX L x e w) (uiE L x e w) (↑(uiV L x e w) : Int) ∧ L = L ∧ B = x3 ∧ True) x2_1 (decide (z < (↑(List.length x3) : Int)))) !decide ((↑(List.length x3) : Int) < a) : Prop) := by kernel_rfl
set_option maxRecDepth 100000 in
theorem vq20n (w a z : Int) : bodyP Tryd.prog Qz7 gl0 [] [] 3000 Tryd.f26 0 [.nilp, .int .i64 w, .int .i64 a, .int .i64 z] [] (retQ Tryd.prog Tryd.f26 0 ⟨[], .nils, [], []⟩) = (
@Bool.rec (fun _ => Prop) True (@Bool.rec (fun _ => Prop) True True (decide (z < (0 : Int)))) !decide ((0 : Int) < a) : Prop) := by kernel_rfl
set_option maxRecDepth 100000 in
theorem vq21 (L : By) (x n x2 n2 : Nat) (v e w e2 : Int) : bodyP Tryd.prog Qz7 gl0 [] [] 3000 Tryd.f51 2 [.ptr 0 0 0 0] [rdC x n e, rdL L] (retQ Tryd.prog Tryd.f51 2 (rdN L x n e v)) = (
@Bool.rec (fun _ => Prop) (v = (↑n : Int) ∧ x = x ∧ 0 = 0 ∧ x = x ∧ n = n ∧ e = e ∧ L = L ∧ True) (v = (0 : Int) ∧ x = x ∧ 0 = 0 ∧ x = x ∧ n = n ∧ e = e ∧ L = L ∧ True) !decide (e = (0 : Int)) : Prop) := by kernel_rfl
set_option maxRecDepth 100000 in
theorem vq22 (L : By) (x n x2 n2 : Nat) (v e w e2 : Int) : bodyP Tryd.prog Qz7 gl0 [] [] 3000 Tryd.f29 2 [.ptr 0 0 0 0] [rdC x n e, rdL L] (retQ Tryd.prog Tryd.f29 2 (rdN L x n e v)) = (
let x1 := x = x ∧ 0 = 0 ∧ x = x ∧ n = n ∧ e = e ∧ L = L ∧ True; @Bool.rec (fun _ => Prop) (@Bool.rec (fun _ => Prop) (v = (0 : Int) ∧ x1) (v = (3 : Int) ∧ x1) (decide ((0 : Int) < (↑n : Int)))) (v = e ∧ x1) !decide (e = (0 : Int)) : Prop) := by kernel_rfl
set_option maxRecDepth 100000 in
theorem vq16 (L : By) (x n x2 n2 : Nat) (v e w e2 : Int) : bodyP Tryd.prog Qz7 gl0 [] [] 3000 Tryd.f87 2 [.ptr 0 0 0 0] [rdC x n e, rdL L] (retQ Tryd.prog Tryd.f87 2 ⟨[], .tup [], [some (some (rdC x n e2)), some (some (rdL L))], []⟩) = (
@Bool.rec (fun _ => Prop) (x = x ∧ 0 = 0 ∧ x = x ∧ n = n ∧ e2 = e ∧ L = L ∧ True) (x = x ∧ 0 = 0 ∧ x = x ∧ n = n ∧ e2 = (3 : Int) ∧ L = L ∧ True) !!decide (e = (0 : Int)) : Prop) := by kernel_rfl
end Go.Sym

namespace Go.Sym
open Go.Proofs Go.Spec
set_option linter.unusedVariables false
set_option maxRecDepth 100000 in
theorem vq21n (v : Int) : bodyP Tryd.prog Qz7 gl0 [] [] 3000 Tryd.f51 0 [.nilp] [] (retQ Tryd.prog Tryd.f51 0 ⟨[], .int .i64 v, [], []⟩) = (
v = (0 : Int) ∧ True : Prop) := by kernel_rfl
set_option maxRecDepth 100000 in
theorem vq22n (v : Int) : bodyP Tryd.prog Qz7 gl0 [] [] 3000 Tryd.f29 0 [.nilp] [] (retQ Tryd.prog Tryd.f29 0 ⟨[], .int .i64 v, [], []⟩) = (
v = (1 : Int) ∧ True : Prop) := by kernel_rfl
set_option maxRecDepth 100000 in
theorem vq16n (v : Int) : bodyP Tryd.prog Qz7 gl0 [] [] 3000 Tryd.f87 0 [.nilp] [] (retQ Tryd.prog Tryd.f87 0 ⟨[], .tup [], [], []⟩) = (
True : Prop) := by kernel_rfl
end Go.Sym

set_option linter.unusedSimpArgs false
namespace Go.Spec
def lfV (n : Nat) (e : Int) : Int := if e = 0 then n else 0
def dnV (n : Nat) (e : Int) : Int := if e = 0 then (if 0 < n then 3 else 0) else e
def faE (e : Int) : Int := if e = 0 then 3 else e
end Go.Spec
namespace Go.Sym
open Go.Proofs Go.Spec
set_option linter.unusedVariables false
theorem bq20 (L : By) (x n : Nat) (e w a z : Int) (h1 : x + n = L.length) (h2 : L.length < 1099511627776) :
    Must (bodyP Tryd.prog Qz7 gl0 [] [] 3000 Tryd.f26 2 [.ptr 0 0 0 0, .int .i64 w, .int .i64 a, .int .i64 z] [rdC x n e, rdL L]
      (retQ Tryd.prog Tryd.f26 2 (rdR L (veX L x e w) (L.length - veX L x e w) (veE L x e w a z) (veB L x e w a z) (veB L x e w a z).length))) := by
  constructor
  rw [vq20]
  have hx : x ≤ L.length := by omega
  have hu := uiX_le L x e w hx
  intro x1 x2 x3
  refine ⟨h1, h2, by omega, h2, ?_⟩
  have hX : veX L x e w = x1 := rfl
  have hr := rdE L (uiX L x e w) (uiE L x e w) (uiV L x e w)
  by_cases hE : rdE L (uiX L x e w) (uiE L x e w) (uiV L x e w) = 0
  · have hl : (x3.length : Int) = uiV L x e w := by
      have := rdB_len L (uiX L x e w) (uiE L x e w) (uiV L x e w) hE
      rw [Int.toNat_natCast] at this
      simp only [x3, this]
    rw [hl]
    by_cases hb : (uiV L x e w : Int) < a ∨ z < (uiV L x e w : Int)
    · have hvE : veE L x e w a z = 3 := by unfold veE; rw [if_neg (by simp [hE]), if_pos hb]
      have hvB : veB L x e w a z = [] := by unfold veB; rw [if_neg (by simp [hvE])]
      have hx2 : x2 := by
        simp only [x2, hvE, hvB, hX, hE]
        simp
      refine brec (fun _ => brec (fun _ => hx2) (fun h => ?_)) (fun h => ?_)
      · have := ndlt.1 h
        rename_i h3
        have : ¬ (uiV L x e w : Int) < a := by simpa using h3
        omega
      · exact hx2
    · have hvE : veE L x e w a z = 0 := by unfold veE; rw [if_neg (by simp [hE]), if_neg hb]
      have hvB : veB L x e w a z = x3 := by unfold veB; rw [if_pos hvE]
      have d1 : decide ((uiV L x e w : Int) < a) = false := decide_eq_false (by omega)
      have d2 : decide (z < (uiV L x e w : Int)) = false := decide_eq_false (by omega)
      simp only [d1, d2, Bool.not_false, hvE, hvB, hX, hE]
      and_intros <;> trivial
  · have hx3 : x3 = [] := by simp [x3, rdB, hE]
    have hvE : veE L x e w a z = rdE L (uiX L x e w) (uiE L x e w) (uiV L x e w) := by unfold veE; rw [if_pos hE]
    have hvB : veB L x e w a z = [] := by unfold veB; rw [if_neg (by rw [hvE]; exact hE)]
    have hx2 : x2 := by
      simp only [x2, hvE, hvB, hX]
      simp [hE]
    refine brec (fun _ => brec (fun _ => hx2) (fun _ => ?_)) (fun _ => hx2)
    rw [hvE, hvB, hx3, hX]
    and_intros <;> trivial
theorem bq20n (w a z : Int) : Must (bodyP Tryd.prog Qz7 gl0 [] [] 3000 Tryd.f26 0 [.nilp, .int .i64 w, .int .i64 a, .int .i64 z] [] (retQ Tryd.prog Tryd.f26 0 ⟨[], .nils, [], []⟩)) := by
  constructor
  rw [vq20n]
  exact brec (fun _ => brec (fun _ => trivial) (fun _ => trivial)) (fun _ => trivial)
def gq20 (xs : List AV) (bs : List ABlk) : TL := match xs, bs with
  | [.ptr 0 0 0 0, .int .i64 w, .int .i64 a, .int .i64 z], [⟨.cells [.slice 1 x 1 n .ox .unk, .int .i64 e], true, 0⟩, ⟨.bytes L, true, 1⟩] =>
    .ok ⟨[x + n = L.length, L.length < 1099511627776], .slice 2 0 1 (veB L x e w a z).length .ow .unk, [some (some (rdC (veX L x e w) (L.length - veX L x e w) (veE L x e w a z))), some (some (rdL L))], [⟨.bytes (veB L x e w a z), true, 1⟩]⟩
  | [.nilp, .int .i64 w, .int .i64 a, .int .i64 z], [] => .ok ⟨[], .nils, [], []⟩
  | _, _ => .no
theorem cq20 : COK Tryd.prog gl0 26 (mkF (reSp 4 gq20)) := by
  refine ctrE (fn := Tryd.f26) [] 3000 (by kernel_rfl) (by kernel_rfl) okQz7 (by kernel_rfl) (fun args w => by kernel_rfl) fun xs bs r hs ho => ?_
  replace hs : (gq20 xs bs).sel = some r := hs
  unfold gq20 at hs
  split at hs
  · simp only [TL.sel, Option.some.injEq] at hs
    subst hs
    obtain ⟨h1, h2⟩ := obsT_cons.1 ho
    exact ⟨_, bq20 _ _ _ _ _ _ _ h1 (obsT_one.1 h2)⟩
  · simp only [TL.sel, Option.some.injEq] at hs
    subst hs
    exact ⟨_, bq20n _ _ _⟩
  · simp [TL.sel] at hs
theorem bq21 (L : By) (x n : Nat) (e : Int) : Must (bodyP Tryd.prog Qz7 gl0 [] [] 3000 Tryd.f51 2 [.ptr 0 0 0 0] [rdC x n e, rdL L] (retQ Tryd.prog Tryd.f51 2 (rdN L x n e (lfV n e)))) := by
  constructor
  rw [vq21]
  · unfold lfV
    by_cases he : e = 0 <;> simp [he]
  all_goals exact 0
theorem bq22 (L : By) (x n : Nat) (e : Int) : Must (bodyP Tryd.prog Qz7 gl0 [] [] 3000 Tryd.f29 2 [.ptr 0 0 0 0] [rdC x n e, rdL L] (retQ Tryd.prog Tryd.f29 2 (rdN L x n e (dnV n e)))) := by
  constructor
  rw [vq22]
  · unfold dnV
    by_cases he : e = 0
    · by_cases hn : 0 < n
      · have : (0 : Int) < (n : Int) := by omega
        simp [he, hn, this]
      · have : ¬ (0 : Int) < (n : Int) := by omega
        simp [he, hn, this]
    · simp [he]
  all_goals exact 0
theorem bq16 (L : By) (x n : Nat) (e : Int) : Must (bodyP Tryd.prog Qz7 gl0 [] [] 3000 Tryd.f87 2 [.ptr 0 0 0 0] [rdC x n e, rdL L] (retQ Tryd.prog Tryd.f87 2 ⟨[], .tup [], [some (some (rdC x n (faE e))), some (some (rdL L))], []⟩)) := by
  constructor
  rw [vq16]
  · unfold faE
    by_cases he : e = 0 <;> simp [he]
  all_goals exact 0
def rdG (nl : TL) (v : Nat → Int → AV) (e2 : Int → Int) (xs : List AV) (bs : List ABlk) : TL := match xs, bs with
  | [.ptr 0 0 0 0], [⟨.cells [.slice 1 x 1 n .ox .unk, .int .i64 e], true, 0⟩, ⟨.bytes L, true, 1⟩] =>
    .ok ⟨[], v n e, [some (some (rdC x n (e2 e))), some (some (rdL L))], []⟩
  | [.nilp], [] => nl
  | _, _ => .no
def gq21 := rdG (.ok ⟨[], .int .i64 0, [], []⟩) (fun n e => .int .i64 (lfV n e)) (fun e => e)
def gq22 := rdG (.ok ⟨[], .int .i64 1, [], []⟩) (fun n e => .int .i64 (dnV n e)) (fun e => e)
def gq16 := rdG (.ok ⟨[], .tup [], [], []⟩) (fun n e => .tup []) faE
theorem nl21 : Must (bodyP Tryd.prog Qz7 gl0 [] [] 3000 Tryd.f51 0 [.nilp] [] (retQ Tryd.prog Tryd.f51 0 ⟨[], .int .i64 0, [], []⟩)) := ⟨by rw [vq21n]; exact ⟨rfl, trivial⟩⟩
theorem nl22 : Must (bodyP Tryd.prog Qz7 gl0 [] [] 3000 Tryd.f29 0 [.nilp] [] (retQ Tryd.prog Tryd.f29 0 ⟨[], .int .i64 1, [], []⟩)) := ⟨by rw [vq22n]; exact ⟨rfl, trivial⟩⟩
theorem nl16 : Must (bodyP Tryd.prog Qz7 gl0 [] [] 3000 Tryd.f87 0 [.nilp] [] (retQ Tryd.prog Tryd.f87 0 ⟨[], .tup [], [], []⟩)) := ⟨by rw [vq16n]; trivial; exact 0⟩
theorem cq21 : COK Tryd.prog gl0 51 (mkF (reSp 1 gq21)) := by
  refine ctrE (fn := Tryd.f51) [] 3000 (by kernel_rfl) (by kernel_rfl) okQz7 (by kernel_rfl) (fun args w => by kernel_rfl) fun xs bs r hs ho => ?_
  replace hs : (gq21 xs bs).sel = some r := hs
  unfold gq21 rdG at hs
  split at hs
  · simp only [TL.sel, Option.some.injEq] at hs
    subst hs
    exact ⟨_, bq21 _ _ _ _⟩
  · simp only [TL.sel, Option.some.injEq] at hs
    subst hs
    exact ⟨[], nl21⟩
  · simp [TL.sel] at hs
theorem cq22 : COK Tryd.prog gl0 29 (mkF (reSp 1 gq22)) := by
  refine ctrE (fn := Tryd.f29) [] 3000 (by kernel_rfl) (by kernel_rfl) okQz7 (by kernel_rfl) (fun args w => by kernel_rfl) fun xs bs r hs ho => ?_
  replace hs : (gq22 xs bs).sel = some r := hs
  unfold gq22 rdG at hs
  split at hs
  · simp only [TL.sel, Option.some.injEq] at hs
    subst hs
    exact ⟨_, bq22 _ _ _ _⟩
  · simp only [TL.sel, Option.some.injEq] at hs
    subst hs
    exact ⟨[], nl22⟩
  · simp [TL.sel] at hs
theorem cq16 : COK Tryd.prog gl0 87 (mkF (reSp 1 gq16)) := by
  refine ctrE (fn := Tryd.f87) [] 3000 (by kernel_rfl) (by kernel_rfl) okQz7 (by kernel_rfl) (fun args w => by kernel_rfl) fun xs bs r hs ho => ?_
  replace hs : (gq16 xs bs).sel = some r := hs
  unfold gq16 rdG at hs
  split at hs
  · simp only [TL.sel, Option.some.injEq] at hs
    subst hs
    exact ⟨_, bq16 _ _ _ _⟩
  · simp only [TL.sel, Option.some.injEq] at hs
    subst hs
    exact ⟨[], nl16⟩
  · simp [TL.sel] at hs
noncomputable def Qz8 : Ctx := Qz7.add 26 (mkF (reSp 4 gq20))
noncomputable def Qz9 : Ctx := Qz8.add 51 (mkF (reSp 1 gq21))
noncomputable def Qz10 : Ctx := Qz9.add 29 (mkF (reSp 1 gq22))
noncomputable def Qz11 : Ctx := Qz10.add 87 (mkF (reSp 1 gq16))
theorem okQz11 : COKs Tryd.prog gl0 Qz11 := (((okQz7.add cq20).add cq21).add cq22).add cq16
end Go.Sym

namespace Go.Spec
/-- A number in so many bytes, the highest first. -/
def puL (n w : Nat) : By := (List.range w).map fun i => BitVec.ofNat 8 (n / 256 ^ (w - 1 - i))
def puBad (n w : Int) : Bool := !decide (1 ≤ w) || !decide (w ≤ 4) || decide (n < 0) || decide ((256 : Int) ^ w.toNat ≤ n)
def puB (b : By) (n w : Int) : By := b ++ puL n.toNat w.toNat
def pvB (b v : By) (w : Int) : By := puB b v.length w ++ v
end Go.Spec
namespace Go.Sym
open Go.Proofs Go.Spec
set_option linter.unusedVariables false
def lsPu (s1 s7 s8 : Nat) (b : By) (n w : Int) (nl : NL) : LS := ⟨Nat, fun j => [(s1, .int .i64 n), (s7, .slice 100 0 1 (b.length + j) .ow nl), (s8, .int .i64 (w - 1 - (j : Int)))],
  fun j => [(100, ⟨.bytes (b ++ (puL n.toNat w.toNat).take j), true, 1⟩)], 1000, fun j => w.toNat - j, fun j => j ≤ w.toNat, fun _ => []⟩
def lsMo (b : By) (n w : Int) : LS := ⟨Nat, fun j => [(0, .rb false b .unk), (1, .int .i64 n), (2, .int .i64 w), (8, .int .i64 ((256 ^ j : Nat) : Int)), (9, .int .i64 j)],
  fun j => [], 1000, fun j => w.toNat - j, fun j => j ≤ w.toNat, fun _ => []⟩
def rN2 (v : AV) (L : Nat) (B : By) : RL := ⟨[], .slice 0 0 1 L .ow (.is false), [], [⟨.bytes B, true, 1⟩]⟩
def rN3 (L : Nat) (B : By) : RL := ⟨[], .tup [.slice 0 0 1 L .ow (.is false), .bool true], [], [⟨.bytes B, true, 1⟩]⟩
def rNn : RL := ⟨[], .nils, [], []⟩
def rNf : RL := ⟨[], .tup [.nils, .bool false], [], []⟩
end Go.Sym

namespace Go.Sym
open Go.Proofs Go.Spec
set_option linter.unusedVariables false
set_option maxRecDepth 100000 in
theorem vq30g (b B : By) (k : Nat) (n w : Int) : bodyP Tryd.prog Qz11 gl0 [] [(6, lsPu 1 7 8 b n w .unk)] 3000 Tryd.f46 0 [.rb false b .unk, .int .i64 n, .int .i64 w] [] (retQ Tryd.prog Tryd.f46 0 (rN2 .any k B)) = (
let x1 := Bool.false = Bool.true ∧ k = 0 ∧ B = [] ∧ True; @Bool.rec (fun _ => Prop) x1 (@Bool.rec (fun _ => Prop) x1 (@Bool.rec (fun _ => Prop) x1 ((0 : Int) ≤ IntKind.i64.wrap ((8 : Int) * w) ∧ @Bool.rec (fun _ => Prop) (List.length b < 1099511627776 ∧ (∃ (x : Nat), x.le w.toNat ∧ n = n ∧ 0 = 0 ∧ 0 = 0 ∧ 0 = 0 ∧ List.length b + x = List.length b ∧ w - (1 : Int) - (↑x : Int) = IntKind.i64.wrap (w - (1 : Int)) ∧ b ++ List.take x (puL n.toNat w.toNat) = b ∧ True) ∧ ∀ (x : Nat), x.le w.toNat → @Bool.rec (fun _ => Prop) (Bool.false = Bool.false ∧ 0 < List.length b + x ∧ 0 = 0 ∧ 0 = 0 ∧ 0 = 0 ∧ k = List.length b + x ∧ B = b ++ List.take x (puL n.toNat w.toNat) ∧ True) ((0 : Int) ≤ IntKind.i64.wrap ((8 : Int) * (w - (1 : Int) - (↑x : Int))) ∧ 1 = [BitVec.ofInt 8 (n.fdiv ((2 : Int) ^ Min.min (IntKind.i64.wrap ((8 : Int) * (w - (1 : Int) - (↑x : Int)))).toNat 64))].length ∧ List.length b + x = List.length (b ++ List.take x (puL n.toNat w.toNat)) ∧ roomFor (List.length b + x) [BitVec.ofInt 8 (n.fdiv ((2 : Int) ^ Min.min (IntKind.i64.wrap ((8 : Int) * (w - (1 : Int) - (↑x : Int)))).toNat 64))].length 1 ∧ ∃ (y : Nat), w.toNat - y < w.toNat - x ∧ y.le w.toNat ∧ n = n ∧ 0 = 0 ∧ 0 = 0 ∧ 0 = 0 ∧ List.length b + y = List.length b + x + [BitVec.ofInt 8 (n.fdiv ((2 : Int) ^ Min.min (IntKind.i64.wrap ((8 : Int) * (w - (1 : Int) - (↑x : Int)))).toNat 64))].length ∧ w - (1 : Int) - (↑y : Int) = IntKind.i64.wrap (w - (1 : Int) - (↑x : Int) - (1 : Int)) ∧ b ++ List.take y (puL n.toNat w.toNat) = b ++ List.take x (puL n.toNat w.toNat) ++ [BitVec.ofInt 8 (n.fdiv ((2 : Int) ^ Min.min (IntKind.i64.wrap ((8 : Int) * (w - (1 : Int) - (↑x : Int)))).toNat 64))] ∧ True) (decide ((0 : Int) ≤ w - (1 : Int) - (↑x : Int)))) x1 !decide (n.fdiv ((2 : Int) ^ Min.min (IntKind.i64.wrap ((8 : Int) * w)).toNat 64) = (0 : Int))) !decide (n < (0 : Int))) !!decide (w ≤ (4 : Int))) (decide ((1 : Int) ≤ w)) : Prop) := by kernel_rfl
set_option maxRecDepth 100000 in
theorem vq30b (b B : By) (k : Nat) (n w : Int) : bodyP Tryd.prog Qz11 gl0 [] [(6, lsPu 1 7 8 b n w .unk)] 3000 Tryd.f46 0 [.rb false b .unk, .int .i64 n, .int .i64 w] [] (retQ Tryd.prog Tryd.f46 0 rNn) = (
@Bool.rec (fun _ => Prop) True (@Bool.rec (fun _ => Prop) True (@Bool.rec (fun _ => Prop) True ((0 : Int) ≤ IntKind.i64.wrap ((8 : Int) * w) ∧ @Bool.rec (fun _ => Prop) (List.length b < 1099511627776 ∧ (∃ (x : Nat), x.le w.toNat ∧ n = n ∧ 0 = 0 ∧ 0 = 0 ∧ 0 = 0 ∧ List.length b + x = List.length b ∧ w - (1 : Int) - (↑x : Int) = IntKind.i64.wrap (w - (1 : Int)) ∧ b ++ List.take x (puL n.toNat w.toNat) = b ∧ True) ∧ ∀ (x : Nat), x.le w.toNat → @Bool.rec (fun _ => Prop) False ((0 : Int) ≤ IntKind.i64.wrap ((8 : Int) * (w - (1 : Int) - (↑x : Int))) ∧ 1 = [BitVec.ofInt 8 (n.fdiv ((2 : Int) ^ Min.min (IntKind.i64.wrap ((8 : Int) * (w - (1 : Int) - (↑x : Int)))).toNat 64))].length ∧ List.length b + x = List.length (b ++ List.take x (puL n.toNat w.toNat)) ∧ roomFor (List.length b + x) [BitVec.ofInt 8 (n.fdiv ((2 : Int) ^ Min.min (IntKind.i64.wrap ((8 : Int) * (w - (1 : Int) - (↑x : Int)))).toNat 64))].length 1 ∧ ∃ (y : Nat), w.toNat - y < w.toNat - x ∧ y.le w.toNat ∧ n = n ∧ 0 = 0 ∧ 0 = 0 ∧ 0 = 0 ∧ List.length b + y = List.length b + x + [BitVec.ofInt 8 (n.fdiv ((2 : Int) ^ Min.min (IntKind.i64.wrap ((8 : Int) * (w - (1 : Int) - (↑x : Int)))).toNat 64))].length ∧ w - (1 : Int) - (↑y : Int) = IntKind.i64.wrap (w - (1 : Int) - (↑x : Int) - (1 : Int)) ∧ b ++ List.take y (puL n.toNat w.toNat) = b ++ List.take x (puL n.toNat w.toNat) ++ [BitVec.ofInt 8 (n.fdiv ((2 : Int) ^ Min.min (IntKind.i64.wrap ((8 : Int) * (w - (1 : Int) - (↑x : Int)))).toNat 64))] ∧ True) (decide ((0 : Int) ≤ w - (1 : Int) - (↑x : Int)))) True !decide (n.fdiv ((2 : Int) ^ Min.min (IntKind.i64.wrap ((8 : Int) * w)).toNat 64) = (0 : Int))) !decide (n < (0 : Int))) !!decide (w ≤ (4 : Int))) (decide ((1 : Int) ≤ w)) : Prop) := by kernel_rfl
end Go.Sym

set_option linter.unusedSimpArgs false
namespace Go.Spec
theorem puL_len (n w : Nat) : (puL n w).length = w := by simp [puL]
theorem puL_take (n w x : Nat) (h : x < w) : (puL n w).take (x + 1) = (puL n w).take x ++ [BitVec.ofNat 8 (n / 256 ^ (w - 1 - x))] := by
  have hl : x < (puL n w).length := by rw [puL_len]; exact h
  rw [List.take_add_one, List.getElem?_eq_getElem hl]
  simp [puL]
end Go.Spec
namespace Go.Sym
open Go.Proofs Go.Spec
set_option linter.unusedVariables false
theorem shr_byte (n : Int) (h : 0 ≤ n) (j : Nat) (hj : j ≤ 3) : BitVec.ofInt 8 (n.fdiv ((2 : Int) ^ Min.min (IntKind.i64.wrap ((8 : Int) * (j : Int))).toNat 64)) = BitVec.ofNat 8 (n.toNat / 256 ^ j) := by
  obtain ⟨N, rfl⟩ : ∃ N : Nat, n = N := ⟨n.toNat, by omega⟩
  have hw : IntKind.i64.wrap ((8 : Int) * (j : Int)) = ((8 * j : Nat) : Int) := wrap_nat _ (by omega) (by omega)
  rw [hw, Int.toNat_natCast, Nat.min_eq_left (by omega), Int.toNat_natCast]
  have h2 : ((2 : Int) ^ (8 * j)) = ((256 ^ j : Nat) : Int) := by
    rw [Int.pow_mul, (by decide : (2 : Int) ^ 8 = ((256 : Nat) : Int)), ← Int.natCast_pow]
  rw [h2, Int.fdiv_eq_ediv_of_nonneg _ (Int.natCast_nonneg _), ← Int.natCast_ediv, BitVec.ofInt_natCast]
theorem shr_none (n : Int) (h : 0 ≤ n) (w : Int) (h1 : 1 ≤ w) (h2 : w ≤ 4) : decide (n.fdiv ((2 : Int) ^ Min.min (IntKind.i64.wrap ((8 : Int) * w)).toNat 64) = (0 : Int)) = !decide ((256 : Int) ^ w.toNat ≤ n) := by
  obtain ⟨N, rfl⟩ : ∃ N : Nat, n = N := ⟨n.toNat, by omega⟩
  obtain ⟨j, rfl⟩ : ∃ j : Nat, w = j := ⟨w.toNat, by omega⟩
  have hw : IntKind.i64.wrap ((8 : Int) * (j : Int)) = ((8 * j : Nat) : Int) := wrap_nat _ (by omega) (by omega)
  rw [hw, Int.toNat_natCast, Nat.min_eq_left (by omega), Int.toNat_natCast]
  have h2 : ((2 : Int) ^ (8 * j)) = ((256 ^ j : Nat) : Int) := by
    rw [Int.pow_mul, (by decide : (2 : Int) ^ 8 = ((256 : Nat) : Int)), ← Int.natCast_pow]
  have h3 : ((256 : Int) ^ j) = ((256 ^ j : Nat) : Int) := by rw [Int.natCast_pow]; rfl
  rw [h2, h3, Int.fdiv_eq_ediv_of_nonneg _ (Int.natCast_nonneg _), ← Int.natCast_ediv]
  have h4 : (((N / 256 ^ j : Nat) : Int) = 0) ↔ ¬ (((256 ^ j : Nat) : Int) ≤ (N : Int)) := by
    rw [Int.natCast_eq_zero, Int.ofNat_le, Nat.not_le, Nat.div_eq_zero_iff]
    have : 256 ^ j ≠ 0 := by exact Nat.pos_iff_ne_zero.1 (Nat.pow_pos (by decide))
    omega
  by_cases h5 : (((256 ^ j : Nat) : Int) ≤ (N : Int))
  · rw [decide_eq_true h5, decide_eq_false (by rw [h4]; simpa using h5)]; rfl
  · rw [decide_eq_false h5, decide_eq_true (h4.2 h5)]; rfl
theorem pow_le4 (j : Nat) (h : j ≤ 4) : 256 ^ j ≤ 4294967296 := Nat.le_trans (Nat.pow_le_pow_right (by decide) h) (by decide)
/-- One more round of the loop. -/
theorem pu_step (b : By) (n w : Int) (hn : 0 ≤ n) (h1 : 1 ≤ w) (h2 : w ≤ 4) (hb : b.length < 1099511627776) (x : Nat) (hx : x < w.toNat) (P : Nat → Prop) (hP : P (x + 1)) :
    (0 : Int) ≤ IntKind.i64.wrap ((8 : Int) * (w - (1 : Int) - (↑x : Int))) ∧ 1 = [BitVec.ofInt 8 (n.fdiv ((2 : Int) ^ Min.min (IntKind.i64.wrap ((8 : Int) * (w - (1 : Int) - (↑x : Int)))).toNat 64))].length ∧
    List.length b + x = List.length (b ++ List.take x (puL n.toNat w.toNat)) ∧ roomFor (List.length b + x) [BitVec.ofInt 8 (n.fdiv ((2 : Int) ^ Min.min (IntKind.i64.wrap ((8 : Int) * (w - (1 : Int) - (↑x : Int)))).toNat 64))].length 1 ∧
    w.toNat - (x + 1) < w.toNat - x ∧ (x + 1).le w.toNat ∧
    List.length b + (x + 1) = List.length b + x + [BitVec.ofInt 8 (n.fdiv ((2 : Int) ^ Min.min (IntKind.i64.wrap ((8 : Int) * (w - (1 : Int) - (↑x : Int)))).toNat 64))].length ∧
    w - (1 : Int) - (↑(x + 1) : Int) = IntKind.i64.wrap (w - (1 : Int) - (↑x : Int) - (1 : Int)) ∧
    b ++ List.take (x + 1) (puL n.toNat w.toNat) = b ++ List.take x (puL n.toNat w.toNat) ++ [BitVec.ofInt 8 (n.fdiv ((2 : Int) ^ Min.min (IntKind.i64.wrap ((8 : Int) * (w - (1 : Int) - (↑x : Int)))).toNat 64))] := by
  have e : w - 1 - (x : Int) = ((w.toNat - 1 - x : Nat) : Int) := by omega
  have e2 : IntKind.i64.wrap (w - 1 - (x : Int) - 1) = w - 1 - (x : Int) - 1 := wrap_i64 (by omega) (by omega)
  rw [e2, e, shr_byte n hn _ (by omega), puL_take _ _ _ hx]
  have hw : IntKind.i64.wrap ((8 : Int) * ((w.toNat - 1 - x : Nat) : Int)) = ((8 * (w.toNat - 1 - x) : Nat) : Int) := wrap_nat _ (by omega) (by omega)
  rw [hw]
  refine ⟨by omega, rfl, ?_, ?_, by omega, by exact hx, by simp; omega, by omega, ?_⟩
  · simp [puL_len]; omega
  · unfold roomFor; simp; omega
  · simp
theorem bq30g (b : By) (n w : Int) (hb : b.length < 1099511627776) (h : puBad n w = false) : Must (bodyP Tryd.prog Qz11 gl0 [] [(6, lsPu 1 7 8 b n w .unk)] 3000 Tryd.f46 0 [.rb false b .unk, .int .i64 n, .int .i64 w] [] (retQ Tryd.prog Tryd.f46 0 (rN2 .any (b.length + w.toNat) (puB b n w)))) := by
  constructor
  rw [vq30g]
  simp only [puBad, Bool.or_eq_false_iff, Bool.not_eq_false', decide_eq_true_eq, decide_eq_false_iff_not] at h
  obtain ⟨⟨⟨h1, h2⟩, h3⟩, h4⟩ := h
  intro x1
  have hn : 0 ≤ n := by omega
  have hw8 : IntKind.i64.wrap ((8 : Int) * w) = 8 * w := wrap_i64 (by omega) (by omega)
  have hw1 : IntKind.i64.wrap (w - 1) = w - 1 := wrap_i64 (by omega) (by omega)
  rw [shr_none n hn w h1 h2, hw8, hw1]
  simp only [decide_eq_true h1, decide_eq_true h2, decide_eq_false h3, decide_eq_false h4, Bool.not_true, Bool.not_false]
  refine ⟨by omega, hb, ⟨0, Nat.zero_le _, ?_⟩, fun x hx => brec (fun h => ?_) (fun h => ?_)⟩
  · and_intros <;> first | trivial | omega | simp
  · have hx2 : x < w.toNat := by have := dle.1 h; omega
    obtain ⟨k1, k2, k3, k4, k5, k6, k7, k8, k9⟩ := pu_step b n w hn h1 h2 hb x hx2 (fun _ => True) trivial
    refine ⟨k1, k2, k3, k4, x + 1, k5, k6, ?_⟩
    and_intros <;> first | exact k7 | exact k8 | exact k9 | trivial
  · have hx2 : x = w.toNat := by have := ndle.1 h; have : x ≤ _ := hx; omega
    subst hx2
    have hpl := puL_len n.toNat w.toNat
    have : (puL n.toNat w.toNat).take w.toNat = puL n.toNat w.toNat := List.take_of_length_le (by omega)
    rw [this]
    and_intros <;> first | trivial | omega
theorem bq30b (b : By) (n w : Int) (hb : b.length < 1099511627776) (h : puBad n w = true) : Must (bodyP Tryd.prog Qz11 gl0 [] [(6, lsPu 1 7 8 b n w .unk)] 3000 Tryd.f46 0 [.rb false b .unk, .int .i64 n, .int .i64 w] [] (retQ Tryd.prog Tryd.f46 0 rNn)) := by
  constructor
  rw [vq30b b [] 0]
  by_cases h1 : 1 ≤ w
  · by_cases h2 : w ≤ 4
    · by_cases h3 : n < 0
      · simp [h1, h2, h3]
      · have h4 : (256 : Int) ^ w.toNat ≤ n := by simpa [puBad, h1, h2, h3] using h
        have hw8 : IntKind.i64.wrap ((8 : Int) * w) = 8 * w := wrap_i64 (by omega) (by omega)
        rw [shr_none n (by omega) w h1 h2, hw8]
        simp only [decide_eq_true h1, decide_eq_true h2, decide_eq_false h3, decide_eq_true h4, Bool.not_true, Bool.not_false]
        exact ⟨by omega, trivial⟩
    · simp [h1, h2]
  · simp [h1]
def gq30 (xs : List AV) (bs : List ABlk) : TL := match xs, bs with
  | [.rb false b .unk, .int .i64 n, .int .i64 w], [] => .br (puBad n w) (.ok ⟨[b.length < 1099511627776], .nils, [], []⟩)
      (.ok ⟨[b.length < 1099511627776], .slice 0 0 1 (b.length + w.toNat) .ow (.is false), [], [⟨.bytes (puB b n w), true, 1⟩]⟩)
  | _, _ => .no
def spq30 : Spec := ⟨[.by0, .kp, .kp], fun _ _ => [], fun _ _ => [], gq30⟩
theorem cq30 : COK Tryd.prog gl0 46 (mkF spq30) := by
  refine ctrE (fn := Tryd.f46) [] 3000 (by kernel_rfl) (by kernel_rfl) okQz11 (by kernel_rfl) (fun args w => by kernel_rfl) fun xs bs r hs ho => ?_
  replace hs : (gq30 xs bs).sel = some r := hs
  unfold gq30 at hs
  split at hs
  · rename_i b n w
    cases hb : puBad n w <;> rw [hb] at hs
    · simp only [TL.sel, Option.some.injEq] at hs
      subst hs
      exact ⟨_, bq30g _ _ _ (obsT_one.1 ho) hb⟩
    · simp only [TL.sel, Option.some.injEq] at hs
      subst hs
      exact ⟨_, bq30b _ _ _ (obsT_one.1 ho) hb⟩
  · simp [TL.sel] at hs
noncomputable def Qz12 : Ctx := Qz11.add 46 (mkF spq30)
theorem okQz12 : COKs Tryd.prog gl0 Qz12 := okQz11.add cq30
end Go.Sym

set_option linter.unusedSimpArgs false
namespace Go.Spec
theorem puL_succ (n w : Nat) : puL n (w + 1) = puL (n / 256) w ++ [BitVec.ofNat 8 n] := by
  unfold puL
  rw [List.range_succ, List.map_append]
  congr 1
  · apply List.map_congr_left
    intro i hi
    have hi : i < w := by simpa using hi
    congr 1
    have e : w + 1 - 1 - i = (w - 1 - i) + 1 := by omega
    rw [e, Nat.pow_succ, Nat.mul_comm, Nat.div_div_eq_div_mul]
  · simp
theorem beN_puL : ∀ (w n : Nat), beN (puL n w) = n % 256 ^ w
  | 0, n => by simp [puL, beN, Nat.mod_one]
  | w + 1, n => by
    have h : 256 ^ (w + 1) = 256 * 256 ^ w := by rw [Nat.pow_succ, Nat.mul_comm]
    rw [puL_succ, beN_snoc, beN_puL w (n / 256), BitVec.toNat_ofNat, h, Nat.mod_mul]
    omega
theorem rd_at {L A v R : By} {x : Nat} {m : Int} (hL : L = A ++ (v ++ R)) (hx : x = A.length) (hm : m = (v.length : Int)) :
    rdE L x 0 m = 0 ∧ rdX L x 0 m = A.length + v.length ∧ rdB L x 0 m = v := by
  subst hL hx hm
  have hE : rdE (A ++ (v ++ R)) A.length 0 (v.length : Int) = 0 := by
    unfold rdE
    rw [if_neg (by simp), if_neg (by omega), if_neg (by simp only [List.length_append]; omega)]
  refine ⟨hE, by simp [rdX, hE], ?_⟩
  unfold rdB
  rw [if_pos hE]
  simp
theorem ui_at {L A R : By} {x n W : Nat} {w : Int} (hL : L = A ++ (puL n W ++ R)) (hx : x = A.length) (hw : w = (W : Int)) (h1 : 1 ≤ W) (h4 : W ≤ 4) (hn : n < 256 ^ W) :
    uiE L x 0 w = 0 ∧ uiX L x 0 w = A.length + W ∧ uiV L x 0 w = n := by
  have hl := puL_len n W
  obtain ⟨k1, k2, k3⟩ := rd_at (m := w) hL hx (by rw [hl, hw])
  rw [uiE_w _ _ _ _ (by omega) (by omega), uiX_w _ _ _ _ (by omega) (by omega), uiV_w _ _ _ _ (by omega) (by omega), k1, k2, k3, beN_puL, hl, Nat.mod_eq_of_lt hn]
  exact ⟨rfl, rfl, rfl⟩
theorem ve_at {L A v R : By} {x W : Nat} {w a z : Int} (hL : L = A ++ (puL v.length W ++ (v ++ R))) (hx : x = A.length) (hw : w = (W : Int)) (h1 : 1 ≤ W) (h4 : W ≤ 4) (hn : v.length < 256 ^ W)
    (ha : a ≤ (v.length : Int)) (hz : (v.length : Int) ≤ z) : veE L x 0 w a z = 0 ∧ veX L x 0 w = A.length + W + v.length ∧ veB L x 0 w a z = v := by
  obtain ⟨k1, k2, k3⟩ := ui_at hL hx hw h1 h4 hn
  have hl := puL_len v.length W
  obtain ⟨j1, j2, j3⟩ := rd_at (L := L) (A := A ++ puL v.length W) (v := v) (R := R) (x := A.length + W) (m := (v.length : Int)) (by rw [hL]; simp) (by simp [hl]) rfl
  have hE : veE L x 0 w a z = 0 := by
    unfold veE
    rw [k1, k2, k3, j1, if_neg (by simp), if_neg (by omega)]
  refine ⟨hE, ?_, ?_⟩
  · unfold veX
    rw [k1, k2, k3, j2]
    simp [hl]
  · unfold veB
    rw [if_pos hE, k1, k2, k3, j3]
theorem puBad_ok {n w : Int} (h1 : 1 ≤ w) (h4 : w ≤ 4) (h0 : 0 ≤ n) (hn : n < 256 ^ w.toNat) : puBad n w = false := by
  unfold puBad
  rw [decide_eq_true h1, decide_eq_true h4, decide_eq_false (by omega), decide_eq_false (by omega)]
  rfl
theorem pow256 (w : Nat) (h : 1 ≤ w) : 256 ≤ 256 ^ w := Nat.le_trans (by decide) (Nat.pow_le_pow_right (by decide) h)
theorem pow256i {w : Int} (h : 1 ≤ w) : (256 : Int) ≤ 256 ^ w.toNat := by
  have := pow256 w.toNat (by omega)
  have h2 : ((256 ^ w.toNat : Nat) : Int) = (256 : Int) ^ w.toNat := by rw [Int.natCast_pow]; rfl
  rw [← h2]; omega
end Go.Spec
