/- Sums of 256 texts at once, by numbers that hold 256 lanes: no two of neighbouring lengths are the same. -/
import Derived.Test.YtmpgpbbaloiniaaDoorShaA
import Derived.KernelRfl
/- Many sums at once: a number that holds 256 lanes of 64 bits. -/
namespace Go.Simd
open Go.Spec
set_option linter.unusedVariables false
set_option linter.unusedSimpArgs false

def pk (f : Nat → Nat) : Nat → Nat
  | 0 => 0
  | n + 1 => 2 ^ (64 * n) * f n + pk f n
theorem pk_lt {f : Nat → Nat} (hf : ∀ j, f j < 2 ^ 64) : ∀ n, pk f n < 2 ^ (64 * n)
  | 0 => by simp [pk]
  | n + 1 => by
    have h1 := pk_lt hf n
    have h2 : 2 ^ (64 * n) * f n ≤ 2 ^ (64 * n) * (2 ^ 64 - 1) := Nat.mul_le_mul_left _ (by have := hf n; omega)
    have h3 : 2 ^ (64 * (n + 1)) = 2 ^ (64 * n) * 2 ^ 64 := by rw [← Nat.pow_add]; congr 1
    simp only [pk]
    rw [h3]
    have : 2 ^ (64 * n) * 2 ^ 64 = 2 ^ (64 * n) * (2 ^ 64 - 1) + 2 ^ (64 * n) := by
      rw [← Nat.mul_succ]
    omega
theorem pk_bit {f : Nat → Nat} (hf : ∀ j, f j < 2 ^ 64) : ∀ n i, (pk f n).testBit i = (decide (i / 64 < n) && (f (i / 64)).testBit (i % 64))
  | 0, i => by simp [pk]
  | n + 1, i => by
    simp only [pk]
    rw [Nat.testBit_two_pow_mul_add _ (pk_lt hf n), pk_bit hf n]
    by_cases h : i < 64 * n
    · rw [if_pos h]
      have h1 : i / 64 < n := by omega
      have h2 : i / 64 < n + 1 := by omega
      simp [h1, h2]
    · rw [if_neg h]
      by_cases h2 : i / 64 = n
      · have h3 : i - 64 * n = i % 64 := by omega
        rw [h3, h2]
        simp
      · have h3 : ¬ i / 64 < n + 1 := by omega
        have h4 : 64 ≤ i - 64 * n := by omega
        have : (f n).testBit (i - 64 * n) = false := Nat.testBit_lt_two_pow (Nat.lt_of_lt_of_le (hf n) (Nat.pow_le_pow_right (by decide) h4))
        simp [h3, this]
theorem pk_add (f g : Nat → Nat) : ∀ n, pk f n + pk g n = pk (fun j => f j + g j) n
  | 0 => rfl
  | n + 1 => by simp only [pk]; rw [← pk_add f g n, Nat.mul_add]; omega
theorem pk_mul (c : Nat) (f : Nat → Nat) : ∀ n, c * pk f n = pk (fun j => c * f j) n
  | 0 => rfl
  | n + 1 => by simp only [pk]; rw [← pk_mul c f n, Nat.mul_add, Nat.mul_left_comm]

/-- 256 numbers of 32 bits. -/
def P (f : Nat → W32) : Nat := pk (fun j => (f j).toNat) 256
theorem lt64 (x : W32) : x.toNat < 2 ^ 64 := Nat.lt_trans x.isLt (by decide)
theorem P_bit (f : Nat → W32) (i : Nat) : (P f).testBit i = (decide (i / 64 < 256) && (f (i / 64)).getLsbD (i % 64)) := by
  unfold P
  rw [pk_bit (fun j => lt64 _)]
  rfl
def MSK : Nat := (2 ^ 16384 - 1) / (2 ^ 64 - 1) * (2 ^ 32 - 1)
def ONE : Nat := (2 ^ 16384 - 1) / (2 ^ 64 - 1)
theorem one_eq : ONE = pk (fun _ => 1) 256 := by decide +kernel
theorem msk_eq : MSK = pk (fun _ => 2 ^ 32 - 1) 256 := by decide +kernel
theorem msk_bit (i : Nat) : MSK.testBit i = (decide (i / 64 < 256) && decide (i % 64 < 32)) := by
  rw [msk_eq, pk_bit (fun _ => by decide), Nat.testBit_two_pow_sub_one]

theorem P_xor (f g : Nat → W32) : Nat.xor (P f) (P g) = P fun j => f j ^^^ g j := by
  apply Nat.eq_of_testBit_eq
  intro i
  show (P f ^^^ P g).testBit i = _
  rw [Nat.testBit_xor, P_bit, P_bit, P_bit]
  by_cases h : i / 64 < 256 <;> simp [h]
theorem P_and (f g : Nat → W32) : Nat.land (P f) (P g) = P fun j => f j &&& g j := by
  apply Nat.eq_of_testBit_eq
  intro i
  show (P f &&& P g).testBit i = _
  rw [Nat.testBit_and, P_bit, P_bit, P_bit]
  by_cases h : i / 64 < 256 <;> simp [h]
theorem P_or (f g : Nat → W32) : Nat.lor (P f) (P g) = P fun j => f j ||| g j := by
  apply Nat.eq_of_testBit_eq
  intro i
  show (P f ||| P g).testBit i = _
  rw [Nat.testBit_or, P_bit, P_bit, P_bit]
  by_cases h : i / 64 < 256 <;> simp [h]
theorem P_mod (H : Nat → Nat) (hH : ∀ j, H j < 2 ^ 64) : Nat.land (pk H 256) MSK = P fun j => BitVec.ofNat 32 (H j) := by
  apply Nat.eq_of_testBit_eq
  intro i
  show (pk H 256 &&& MSK).testBit i = _
  rw [Nat.testBit_and, pk_bit hH, msk_bit, P_bit]
  by_cases h : i / 64 < 256 <;> simp [h, BitVec.getLsbD_ofNat, Bool.and_comm]

def dup (x : Nat) : Nat := Nat.lor x (Nat.shiftLeft x 32)
theorem dup_bit (f : Nat → W32) (i : Nat) : (dup (P f)).testBit i = (decide (i / 64 < 256) && (f (i / 64)).getLsbD (i % 64 % 32)) := by
  show (P f ||| P f <<< 32).testBit i = _
  rw [Nat.testBit_or, Nat.testBit_shiftLeft, P_bit, P_bit]
  by_cases h : i % 64 < 32
  · rw [Nat.mod_eq_of_lt h]
    by_cases h2 : 32 ≤ i
    · have h3 : (i - 32) % 64 = i % 64 + 32 := by omega
      rw [h3]
      have : (f ((i - 32) / 64)).getLsbD (i % 64 + 32) = false := BitVec.getLsbD_of_ge _ _ (by omega)
      simp [this]
    · simp [h2]
  · have h1 : i % 64 % 32 = i % 64 - 32 := by omega
    have h2 : 32 ≤ i := by omega
    have h3 : (i - 32) % 64 = i % 64 - 32 := by omega
    have h4 : (i - 32) / 64 = i / 64 := by omega
    have : (f (i / 64)).getLsbD (i % 64) = false := BitVec.getLsbD_of_ge _ _ (by omega)
    simp [this, h1, h2, h3, h4]
theorem rl_bit (x : W32) (r q : Nat) (hr : r < 32) (hr0 : 0 < r) (hq : q < 32) : (rl x (32 - r)).getLsbD q = x.getLsbD ((q + r) % 32) := by
  unfold rl
  rw [BitVec.getLsbD_or, BitVec.getLsbD_shiftLeft, BitVec.getLsbD_ushiftRight]
  by_cases h : q < 32 - r
  · have h1 : (q + r) % 32 = q + r := Nat.mod_eq_of_lt (by omega)
    have h2 : 32 - (32 - r) + q = q + r := by omega
    rw [h1, h2]
    simp [h]
  · have h1 : (q + r) % 32 = q - (32 - r) := by omega
    have h2 : 32 - (32 - r) + q = q + r := by omega
    rw [h1, h2, BitVec.getLsbD_of_ge x (q + r) (by omega)]
    simp [h, hq]
theorem rot_bit (f : Nat → W32) (r i : Nat) (hr : r < 32) (hr0 : 0 < r) (hq : i % 64 < 32) : (Nat.shiftRight (dup (P f)) r).testBit i = (decide (i / 64 < 256) && (rl (f (i / 64)) (32 - r)).getLsbD (i % 64)) := by
  show (dup (P f) >>> r).testBit i = _
  rw [Nat.testBit_shiftRight, dup_bit, rl_bit _ _ _ hr hr0 hq]
  have h1 : (r + i) / 64 = i / 64 := by omega
  have h2 : (r + i) % 64 % 32 = (i % 64 + r) % 32 := by omega
  rw [h1, h2]
theorem shr_bit (f : Nat → W32) (r i : Nat) (hr : r < 32) (hq : i % 64 < 32) : (Nat.shiftRight (P f) r).testBit i = (decide (i / 64 < 256) && (f (i / 64) >>> r).getLsbD (i % 64)) := by
  show (P f >>> r).testBit i = _
  rw [Nat.testBit_shiftRight, P_bit, BitVec.getLsbD_ushiftRight]
  have h1 : (r + i) / 64 = i / 64 := by omega
  have h2 : (r + i) % 64 = r + i % 64 := by omega
  rw [h1, h2]
def xS (r s t : Nat) (M x : Nat) : Nat := Nat.land (Nat.xor (Nat.xor (Nat.shiftRight x r) (Nat.shiftRight x s)) (Nat.shiftRight x t)) M
theorem xS_eq (f : Nat → W32) (r s t : Nat) (hr : r < 32) (hr0 : 0 < r) (hs : s < 32) (hs0 : 0 < s) (ht : t < 32) (ht0 : 0 < t) : xS r s t MSK (dup (P f)) = P fun j => rl (f j) (32 - r) ^^^ rl (f j) (32 - s) ^^^ rl (f j) (32 - t) := by
  apply Nat.eq_of_testBit_eq
  intro i
  show (((Nat.shiftRight (dup (P f)) r ^^^ Nat.shiftRight (dup (P f)) s) ^^^ Nat.shiftRight (dup (P f)) t) &&& MSK).testBit i = _
  rw [Nat.testBit_and, Nat.testBit_xor, Nat.testBit_xor, msk_bit, P_bit]
  by_cases hq : i % 64 < 32
  · rw [rot_bit f r i hr hr0 hq, rot_bit f s i hs hs0 hq, rot_bit f t i ht ht0 hq]
    by_cases h : i / 64 < 256 <;> simp [h, hq]
  · rw [BitVec.getLsbD_of_ge _ (i % 64) (by omega)]
    simp [hq]
def xT (r s t : Nat) (M x y : Nat) : Nat := Nat.land (Nat.xor (Nat.xor (Nat.shiftRight y r) (Nat.shiftRight y s)) (Nat.shiftRight x t)) M
theorem xT_eq (f : Nat → W32) (r s t : Nat) (hr : r < 32) (hr0 : 0 < r) (hs : s < 32) (hs0 : 0 < s) (ht : t < 32) : xT r s t MSK (P f) (dup (P f)) = P fun j => rl (f j) (32 - r) ^^^ rl (f j) (32 - s) ^^^ f j >>> t := by
  apply Nat.eq_of_testBit_eq
  intro i
  show (((Nat.shiftRight (dup (P f)) r ^^^ Nat.shiftRight (dup (P f)) s) ^^^ Nat.shiftRight (P f) t) &&& MSK).testBit i = _
  rw [Nat.testBit_and, Nat.testBit_xor, Nat.testBit_xor, msk_bit, P_bit]
  by_cases hq : i % 64 < 32
  · rw [rot_bit f r i hr hr0 hq, rot_bit f s i hs hs0 hq, shr_bit f t i ht hq]
    by_cases h : i / 64 < 256 <;> simp [h, hq]
  · rw [BitVec.getLsbD_of_ge _ (i % 64) (by omega)]
    simp [hq]
theorem shl_P (x : Nat → BitVec 8) (r : Nat) (hr : r ≤ 24) : Nat.shiftLeft (P fun j => (x j).setWidth 32) r = P fun j => (x j).setWidth 32 <<< r := by
  apply Nat.eq_of_testBit_eq
  intro i
  show ((P fun j => (x j).setWidth 32) <<< r).testBit i = _
  rw [Nat.testBit_shiftLeft, P_bit, P_bit, BitVec.getLsbD_shiftLeft]
  by_cases h : r ≤ i % 64
  · have h1 : (i - r) / 64 = i / 64 := by omega
    have h2 : (i - r) % 64 = i % 64 - r := by omega
    have h3 : r ≤ i := by omega
    rw [h1, h2]
    by_cases h4 : i % 64 < 32
    · have h5 : ¬ i % 64 < r := by omega
      simp [h3, h4, h, h5]
    · have : ((x (i / 64)).setWidth 32).getLsbD (i % 64 - r) = false := by
        rw [BitVec.getLsbD_setWidth, BitVec.getLsbD_of_ge (x (i / 64)) _ (by omega)]
        simp
      rw [this]
      simp [h4]
  · by_cases h3 : r ≤ i
    · have h2 : (i - r) % 64 = i % 64 + (64 - r) := by omega
      rw [h2, BitVec.getLsbD_of_ge _ (i % 64 + (64 - r)) (by omega)]
      have : i % 64 < r := by omega
      simp [this]
    · have : i % 64 < r := by omega
      simp [h3, this]
end Go.Simd

namespace Go.Simd
open Go.Spec
set_option linter.unusedVariables false
set_option linter.unusedSimpArgs false

/-- A number reckoned out first. -/
def fz {α : Type} (n : Nat) (k : Nat → α) : α := Nat.rec (motive := fun _ => α) (k 0) (fun m _ => k (Nat.succ m)) n
theorem fz_eq {α : Type} (n : Nat) (k : Nat → α) : fz n k = k n := by cases n <;> rfl

def xAdd (M a b : Nat) : Nat := Nat.land (Nat.add a b) M
def xCh (e f g : Nat) : Nat := Nat.xor (Nat.land (Nat.xor f g) e) g
def xMaj (a b c : Nat) : Nat := Nat.xor (Nat.land (Nat.xor a b) c) (Nat.land a b)

theorem xCh_eq (e f g : Nat → W32) : xCh (P e) (P f) (P g) = P fun j => (e j &&& f j) ^^^ (~~~(e j) &&& g j) := by
  unfold xCh
  rw [P_xor, P_and, P_xor]
  congr 1
  funext j
  apply BitVec.eq_of_getLsbD_eq
  intro i hi
  simp only [BitVec.getLsbD_xor, BitVec.getLsbD_and, BitVec.getLsbD_not, hi, decide_true, Bool.true_and]
  cases (e j).getLsbD i <;> cases (f j).getLsbD i <;> cases (g j).getLsbD i <;> rfl
theorem xMaj_eq (a b c : Nat → W32) : xMaj (P a) (P b) (P c) = P fun j => (a j &&& b j) ^^^ (a j &&& c j) ^^^ (b j &&& c j) := by
  unfold xMaj
  rw [P_xor, P_and, P_and, P_xor]
  congr 1
  funext j
  apply BitVec.eq_of_getLsbD_eq
  intro i hi
  simp only [BitVec.getLsbD_xor, BitVec.getLsbD_and]
  cases (a j).getLsbD i <;> cases (b j).getLsbD i <;> cases (c j).getLsbD i <;> rfl
/-- The rounds. -/
noncomputable def go {α : Type} (M O : Nat) (K : Nat → Nat → Nat → Nat → Nat → Nat → Nat → Nat → α) (ks : List Nat) :
    Nat → Nat → Nat → Nat → Nat → Nat → Nat → Nat → Nat → Nat → Nat → Nat → Nat → Nat → Nat → Nat → Nat → Nat → Nat → Nat → Nat → Nat → Nat → Nat → α :=
  List.rec (motive := fun _ => Nat → Nat → Nat → Nat → Nat → Nat → Nat → Nat → Nat → Nat → Nat → Nat → Nat → Nat → Nat → Nat → Nat → Nat → Nat → Nat → Nat → Nat → Nat → Nat → α)
    (fun a b c d e f g h _ _ _ _ _ _ _ _ _ _ _ _ _ _ _ _ => K a b c d e f g h)
    (fun k _ ih a b c d e f g h w0 w1 w2 w3 w4 w5 w6 w7 w8 w9 w10 w11 w12 w13 w14 w15 =>
      fz (dup e) fun e2 => fz (dup a) fun a2 => fz (dup w14) fun x14 => fz (dup w1) fun x1 =>
      fz (Nat.add (Nat.add (Nat.add (Nat.add h (xS 6 11 25 M e2)) (xCh e f g)) (Nat.mul k O)) w0) fun t1 =>
      fz (xAdd M d t1) fun e' =>
      fz (xAdd M t1 (Nat.add (xS 2 13 22 M a2) (xMaj a b c))) fun a' =>
      fz (xAdd M (Nat.add (Nat.add (xT 17 19 10 M w14 x14) w9) (xT 7 18 3 M w1 x1)) w0) fun w16 =>
      ih a' a b c e' e f g w1 w2 w3 w4 w5 w6 w7 w8 w9 w10 w11 w12 w13 w14 w15 w16) ks

theorem sumP (F : Nat → Nat) (H : Nat → Nat) : pk F 256 + pk H 256 = pk (fun j => F j + H j) 256 := pk_add F H 256

theorem mod_of {n : Nat} (H : Nat → Nat) (f : Nat → W32) (hn : n = pk H 256) (hH : ∀ j, H j < 2 ^ 64) (hf : ∀ j, BitVec.ofNat 32 (H j) = f j) : Nat.land n MSK = P f := by
  rw [hn, P_mod _ hH]
  exact congrArg P (funext hf)
theorem xAdd_eq (a b : Nat → W32) : xAdd MSK (P a) (P b) = P fun j => a j + b j := by
  refine mod_of (fun j => (a j).toNat + (b j).toNat) _ (pk_add _ _ _) (fun j => by have := (a j).isLt; have := (b j).isLt; omega) (fun j => ?_)
  simp only [BitVec.ofNat_add, BitVec.ofNat_toNat, BitVec.setWidth_eq]
theorem P_pk (f : Nat → W32) : P f = pk (fun j => (f j).toNat) 256 := rfl

def rndsFrom (X : Nat → W32) : List W32 → Nat → (Nat → W32) → Nat → W32
  | [], _, v => v
  | k :: ks, t, v => rndsFrom X ks (t + 1) (rnd k (X t) v)

theorem go_eq {α : Type} (K : Nat → Nat → Nat → Nat → Nat → Nat → Nat → Nat → α) (X : Nat → Nat → W32)
    (hX : ∀ j i, X j (i + 16) = smS1 (X j (i + 14)) + X j (i + 9) + smS0 (X j (i + 1)) + X j i) : ∀ (ks : List W32) (t : Nat) (V : Nat → Nat → W32),
    go MSK ONE K (ks.map BitVec.toNat) (P fun j => V j 0) (P fun j => V j 1) (P fun j => V j 2) (P fun j => V j 3) (P fun j => V j 4) (P fun j => V j 5) (P fun j => V j 6) (P fun j => V j 7)
      (P fun j => X j t) (P fun j => X j (t + 1)) (P fun j => X j (t + 2)) (P fun j => X j (t + 3)) (P fun j => X j (t + 4)) (P fun j => X j (t + 5)) (P fun j => X j (t + 6)) (P fun j => X j (t + 7))
      (P fun j => X j (t + 8)) (P fun j => X j (t + 9)) (P fun j => X j (t + 10)) (P fun j => X j (t + 11)) (P fun j => X j (t + 12)) (P fun j => X j (t + 13)) (P fun j => X j (t + 14)) (P fun j => X j (t + 15)) =
    K (P fun j => rndsFrom (X j) ks t (V j) 0) (P fun j => rndsFrom (X j) ks t (V j) 1) (P fun j => rndsFrom (X j) ks t (V j) 2) (P fun j => rndsFrom (X j) ks t (V j) 3)
      (P fun j => rndsFrom (X j) ks t (V j) 4) (P fun j => rndsFrom (X j) ks t (V j) 5) (P fun j => rndsFrom (X j) ks t (V j) 6) (P fun j => rndsFrom (X j) ks t (V j) 7)
  | [], t, V => rfl
  | k :: ks, t, V => by
    have ih := go_eq K X hX ks (t + 1) (fun j => rnd k (X j t) (V j))
    have e1 : xS 6 11 25 MSK (dup (P fun j => V j 4)) = P fun j => bigS1 (V j 4) := xS_eq _ 6 11 25 (by decide) (by decide) (by decide) (by decide) (by decide) (by decide)
    have e2 : xS 2 13 22 MSK (dup (P fun j => V j 0)) = P fun j => bigS0 (V j 0) := xS_eq _ 2 13 22 (by decide) (by decide) (by decide) (by decide) (by decide) (by decide)
    have e3 : xT 17 19 10 MSK (P fun j => X j (t + 14)) (dup (P fun j => X j (t + 14))) = P fun j => smS1 (X j (t + 14)) := xT_eq _ 17 19 10 (by decide) (by decide) (by decide) (by decide) (by decide)
    have e4 : xT 7 18 3 MSK (P fun j => X j (t + 1)) (dup (P fun j => X j (t + 1))) = P fun j => smS0 (X j (t + 1)) := xT_eq _ 7 18 3 (by decide) (by decide) (by decide) (by decide) (by decide)
    have e5 : Nat.mul k.toNat ONE = pk (fun _ => k.toNat) 256 := by
      show k.toNat * ONE = _
      rw [one_eq, pk_mul]; simp
    let T1 : Nat → Nat := fun j => (V j 7).toNat + (bigS1 (V j 4)).toNat + ((V j 4 &&& V j 5) ^^^ (~~~(V j 4) &&& V j 6)).toNat + k.toNat + (X j t).toNat
    have e6 : Nat.add (Nat.add (Nat.add (Nat.add (P fun j => V j 7) (P fun j => bigS1 (V j 4))) (P fun j => (V j 4 &&& V j 5) ^^^ (~~~(V j 4) &&& V j 6))) (pk (fun _ => k.toNat) 256)) (P fun j => X j t) = pk T1 256 := by
      show (((pk _ 256 + pk _ 256) + pk _ 256) + pk _ 256) + pk _ 256 = _
      rw [pk_add, pk_add, pk_add, pk_add]
    have hT : ∀ j, T1 j < 5 * 2 ^ 32 := fun j => by
      have h1 := (V j 7).isLt; have h2 := (bigS1 (V j 4)).isLt; have h3 := ((V j 4 &&& V j 5) ^^^ (~~~(V j 4) &&& V j 6)).isLt; have h4 := k.isLt; have h5 := (X j t).isLt
      show _ + _ + _ + _ + _ < _
      omega
    have e7 : xAdd MSK (P fun j => V j 3) (pk T1 256) = P fun j => rnd k (X j t) (V j) 4 := by
      refine mod_of (fun j => (V j 3).toNat + T1 j) _ (pk_add _ _ _) (fun j => by have := (V j 3).isLt; have := hT j; omega) (fun j => ?_)
      simp only [T1, BitVec.ofNat_add, BitVec.ofNat_toNat, BitVec.setWidth_eq]
      rfl
    have e8 : xAdd MSK (pk T1 256) (Nat.add (P fun j => bigS0 (V j 0)) (P fun j => (V j 0 &&& V j 1) ^^^ (V j 0 &&& V j 2) ^^^ (V j 1 &&& V j 2))) = P fun j => rnd k (X j t) (V j) 0 := by
      refine mod_of (fun j => T1 j + ((bigS0 (V j 0)).toNat + ((V j 0 &&& V j 1) ^^^ (V j 0 &&& V j 2) ^^^ (V j 1 &&& V j 2)).toNat)) _ ?_
        (fun j => by have h1 := (bigS0 (V j 0)).isLt; have h2 := ((V j 0 &&& V j 1) ^^^ (V j 0 &&& V j 2) ^^^ (V j 1 &&& V j 2)).isLt; have := hT j; omega) (fun j => ?_)
      · show pk _ 256 + (pk _ 256 + pk _ 256) = _
        rw [pk_add, pk_add]
      · simp only [T1, BitVec.ofNat_add, BitVec.ofNat_toNat, BitVec.setWidth_eq]
        rfl
    have e9 : xAdd MSK (Nat.add (Nat.add (P fun j => smS1 (X j (t + 14))) (P fun j => X j (t + 9))) (P fun j => smS0 (X j (t + 1)))) (P fun j => X j t) = P fun j => X j (t + 1 + 15) := by
      refine mod_of (fun j => (smS1 (X j (t + 14))).toNat + (X j (t + 9)).toNat + (smS0 (X j (t + 1))).toNat + (X j t).toNat) _ ?_
        (fun j => by have h1 := (smS1 (X j (t + 14))).isLt; have h2 := (X j (t + 9)).isLt; have h3 := (smS0 (X j (t + 1))).isLt; have h4 := (X j t).isLt; omega) (fun j => ?_)
      · show ((pk _ 256 + pk _ 256) + pk _ 256) + pk _ 256 = _
        rw [pk_add, pk_add, pk_add]
      · simp only [BitVec.ofNat_add, BitVec.ofNat_toNat, BitVec.setWidth_eq]
        exact (hX j t).symm
    rw [show t + 1 + 1 = t + 2 from rfl, show t + 1 + 2 = t + 3 from rfl, show t + 1 + 3 = t + 4 from rfl, show t + 1 + 4 = t + 5 from rfl, show t + 1 + 5 = t + 6 from rfl, show t + 1 + 6 = t + 7 from rfl, show t + 1 + 7 = t + 8 from rfl, show t + 1 + 8 = t + 9 from rfl, show t + 1 + 9 = t + 10 from rfl, show t + 1 + 10 = t + 11 from rfl, show t + 1 + 11 = t + 12 from rfl, show t + 1 + 12 = t + 13 from rfl, show t + 1 + 13 = t + 14 from rfl, show t + 1 + 14 = t + 15 from rfl] at ih
    refine Eq.trans ?_ ih
    unfold go
    simp only [List.map_cons, fz_eq]
    rw [e1, e2, e3, e4, e5, xCh_eq, xMaj_eq, e6, e7, e8, e9]
    rfl
end Go.Simd

namespace Go.Simd
open Go.Spec
set_option linter.unusedVariables false
set_option linter.unusedSimpArgs false

/-- A byte of each lane's bytes. -/
def B (x : Nat → BitVec 8) : Nat := P fun j => (x j).setWidth 32
def xW (b0 b1 b2 b3 : Nat) : Nat := Nat.lor (Nat.shiftLeft b0 24) (Nat.lor (Nat.shiftLeft b1 16) (Nat.lor (Nat.shiftLeft b2 8) b3))
theorem xW_eq (x0 x1 x2 x3 : Nat → BitVec 8) : xW (B x0) (B x1) (B x2) (B x3) = P fun j => (x0 j).setWidth 32 <<< 24 ||| ((x1 j).setWidth 32 <<< 16 ||| ((x2 j).setWidth 32 <<< 8 ||| (x3 j).setWidth 32)) := by
  unfold xW B
  rw [shl_P _ 24 (by decide), shl_P _ 16 (by decide), shl_P _ 8 (by decide), P_or, P_or, P_or]
theorem word_eq (l : By) (i : Nat) : word l i = (l.getD (4 * i) 0).setWidth 32 <<< 24 ||| ((l.getD (4 * i + 1) 0).setWidth 32 <<< 16 ||| ((l.getD (4 * i + 2) 0).setWidth 32 <<< 8 ||| (l.getD (4 * i + 3) 0).setWidth 32)) := by
  simp only [word, partW, Nat.add_zero]
  simp only [BitVec.shiftLeft_or_distrib, ← BitVec.shiftLeft_add]
  simp [BitVec.or_assoc]

def schX (l : By) (i : Nat) : W32 := (schL l (i + 1)).getD i 0
theorem schX_word (l : By) (i : Nat) (h : i < 16) : schX l i = word l i := by
  unfold schX
  rw [schL_get l 0 (i + 1) i (by omega) (by omega)]
  simp [schL, List.getD, h]
theorem schX_sch (l : By) (i : Nat) (h : i < 64) : schX l i = sch l i := by
  unfold schX sch
  rcases Nat.lt_or_ge i 48 with h2 | h2
  · rw [schL_get l (i + 1) 48 i (by omega) (by omega)]
  · rw [schL_get l 48 (i + 1) i (by omega) (by omega)]
theorem schX_step (l : By) (i : Nat) : schX l (i + 16) = smS1 (schX l (i + 14)) + schX l (i + 9) + smS0 (schX l (i + 1)) + schX l i := by
  have e : schX l (i + 16) = schStep (schL l i) (i + 16) := by
    unfold schX
    rw [schL_get l (i + 1) (i + 16 + 1) (i + 16) (by omega) (by omega)]
    simp only [schL, List.getD]
    rw [List.getElem?_append_right (by rw [schL_len]; omega), schL_len]
    rw [show i + 16 - (16 + i) = 0 by omega, show 16 + i = i + 16 by omega]
    rfl
  rw [e]
  unfold schStep schX
  rw [show i + 16 - 2 = i + 14 by omega, show i + 16 - 7 = i + 9 by omega, show i + 16 - 15 = i + 1 by omega, show i + 16 - 16 = i by omega]
  rw [schL_get l i (i + 14 + 1) (i + 14) (by omega) (by omega), schL_get l i (i + 9 + 1) (i + 9) (by omega) (by omega), schL_get l i (i + 1 + 1) (i + 1) (by omega) (by omega), schL_get l i (i + 1) i (by omega) (by omega)]

theorem rndsFrom_eq (X W : Nat → W32) (v : Nat → W32) (h : ∀ i, i < 64 → X i = W i) : ∀ m n, n + m = 64 → rndsFrom X (shaK.drop n) n (rnds W v n) = rnds W v 64
  | 0, n, hn => by
    have : n = 64 := by omega
    subst this
    rfl
  | m + 1, n, hn => by
    have hlen : shaK.length = 64 := rfl
    have hlt : n < shaK.length := by omega
    rw [List.drop_eq_getElem_cons hlt]
    simp only [rndsFrom]
    rw [h n (by omega)]
    have := rndsFrom_eq X W v h m (n + 1) (by omega)
    rw [show rnds W v (n + 1) = rnd (shaK.getD n 0) (W n) (rnds W v n) from rfl] at this
    refine Eq.trans ?_ this
    have e : shaK[n] = shaK.getD n 0 := by simp [List.getD, hlt]
    rw [e]

/-- A block. -/
noncomputable def blk {α : Type} (M O : Nat) (BL : List Nat) (K : Nat → Nat → Nat → Nat → Nat → Nat → Nat → Nat → α) (a b c d e f g h : Nat) : α :=
  fz (xW (BL.getD 0 0) (BL.getD 1 0) (BL.getD 2 0) (BL.getD 3 0)) fun w0 => fz (xW (BL.getD 4 0) (BL.getD 5 0) (BL.getD 6 0) (BL.getD 7 0)) fun w1 =>
  fz (xW (BL.getD 8 0) (BL.getD 9 0) (BL.getD 10 0) (BL.getD 11 0)) fun w2 => fz (xW (BL.getD 12 0) (BL.getD 13 0) (BL.getD 14 0) (BL.getD 15 0)) fun w3 =>
  fz (xW (BL.getD 16 0) (BL.getD 17 0) (BL.getD 18 0) (BL.getD 19 0)) fun w4 => fz (xW (BL.getD 20 0) (BL.getD 21 0) (BL.getD 22 0) (BL.getD 23 0)) fun w5 =>
  fz (xW (BL.getD 24 0) (BL.getD 25 0) (BL.getD 26 0) (BL.getD 27 0)) fun w6 => fz (xW (BL.getD 28 0) (BL.getD 29 0) (BL.getD 30 0) (BL.getD 31 0)) fun w7 =>
  fz (xW (BL.getD 32 0) (BL.getD 33 0) (BL.getD 34 0) (BL.getD 35 0)) fun w8 => fz (xW (BL.getD 36 0) (BL.getD 37 0) (BL.getD 38 0) (BL.getD 39 0)) fun w9 =>
  fz (xW (BL.getD 40 0) (BL.getD 41 0) (BL.getD 42 0) (BL.getD 43 0)) fun w10 => fz (xW (BL.getD 44 0) (BL.getD 45 0) (BL.getD 46 0) (BL.getD 47 0)) fun w11 =>
  fz (xW (BL.getD 48 0) (BL.getD 49 0) (BL.getD 50 0) (BL.getD 51 0)) fun w12 => fz (xW (BL.getD 52 0) (BL.getD 53 0) (BL.getD 54 0) (BL.getD 55 0)) fun w13 =>
  fz (xW (BL.getD 56 0) (BL.getD 57 0) (BL.getD 58 0) (BL.getD 59 0)) fun w14 => fz (xW (BL.getD 60 0) (BL.getD 61 0) (BL.getD 62 0) (BL.getD 63 0)) fun w15 =>
  go M O (fun a' b' c' d' e' f' g' h' => fz (xAdd M a a') fun a => fz (xAdd M b b') fun b => fz (xAdd M c c') fun c => fz (xAdd M d d') fun d =>
    fz (xAdd M e e') fun e => fz (xAdd M f f') fun f => fz (xAdd M g g') fun g => fz (xAdd M h h') fun h => K a b c d e f g h) (shaK.map BitVec.toNat) a b c d e f g h w0 w1 w2 w3 w4 w5 w6 w7 w8 w9 w10 w11 w12 w13 w14 w15

theorem blk_eq {α : Type} (BL : List Nat) (T : Nat → By) (hT : ∀ p, p < 64 → BL.getD p 0 = B fun j => (T j).getD p 0) (K : Nat → Nat → Nat → Nat → Nat → Nat → Nat → Nat → α) (V : Nat → Nat → W32) :
    blk MSK ONE BL K (P fun j => V j 0) (P fun j => V j 1) (P fun j => V j 2) (P fun j => V j 3) (P fun j => V j 4) (P fun j => V j 5) (P fun j => V j 6) (P fun j => V j 7) =
    K (P fun j => compress (V j) (T j) 0) (P fun j => compress (V j) (T j) 1) (P fun j => compress (V j) (T j) 2) (P fun j => compress (V j) (T j) 3)
      (P fun j => compress (V j) (T j) 4) (P fun j => compress (V j) (T j) 5) (P fun j => compress (V j) (T j) 6) (P fun j => compress (V j) (T j) 7) := by
  have w : ∀ i, i < 16 → xW (BL.getD (4 * i) 0) (BL.getD (4 * i + 1) 0) (BL.getD (4 * i + 2) 0) (BL.getD (4 * i + 3) 0) = P fun j => schX (T j) (0 + i) := by
    intro i hi
    rw [hT _ (by omega), hT _ (by omega), hT _ (by omega), hT _ (by omega), xW_eq]
    refine congrArg P (funext fun j => ?_)
    rw [Nat.zero_add, schX_word _ _ hi, word_eq]
  have w0 := w 0 (by decide); have w1 := w 1 (by decide); have w2 := w 2 (by decide); have w3 := w 3 (by decide)
  have w4 := w 4 (by decide); have w5 := w 5 (by decide); have w6 := w 6 (by decide); have w7 := w 7 (by decide)
  have w8 := w 8 (by decide); have w9 := w 9 (by decide); have w10 := w 10 (by decide); have w11 := w 11 (by decide)
  have w12 := w 12 (by decide); have w13 := w 13 (by decide); have w14 := w 14 (by decide); have w15 := w 15 (by decide)
  simp only [Nat.reduceMul, Nat.reduceAdd] at w0 w1 w2 w3 w4 w5 w6 w7 w8 w9 w10 w11 w12 w13 w14 w15
  unfold blk
  simp only [fz_eq]
  rw [w0, w1, w2, w3, w4, w5, w6, w7, w8, w9, w10, w11, w12, w13, w14, w15]
  have := go_eq (fun a' b' c' d' e' f' g' h' => K (xAdd MSK (P fun j => V j 0) a') (xAdd MSK (P fun j => V j 1) b') (xAdd MSK (P fun j => V j 2) c') (xAdd MSK (P fun j => V j 3) d')
    (xAdd MSK (P fun j => V j 4) e') (xAdd MSK (P fun j => V j 5) f') (xAdd MSK (P fun j => V j 6) g') (xAdd MSK (P fun j => V j 7) h')) (fun j => schX (T j)) (fun j i => schX_step (T j) i) shaK 0 V
  simp only [Nat.zero_add] at this ⊢
  rw [this]
  simp only [xAdd_eq]
  have r : ∀ j i, V j i + rndsFrom (schX (T j)) shaK 0 (V j) i = compress (V j) (T j) i := by
    intro j i
    unfold compress
    rw [← rndsFrom_eq (schX (T j)) (sch (T j)) (V j) (fun i h => schX_sch _ _ h) 64 0 (by decide)]
    rfl
  simp only [r]

/-- So many blocks. -/
noncomputable def xb {α : Type} (M O : Nat) (BS : List Nat) : Nat → (Nat → Nat → Nat → Nat → Nat → Nat → Nat → Nat → α) → Nat → Nat → Nat → Nat → Nat → Nat → Nat → Nat → α
  | 0, K, a, b, c, d, e, f, g, h => K a b c d e f g h
  | n + 1, K, a, b, c, d, e, f, g, h => xb M O BS n (blk M O ((BS.drop (64 * n)).take 64) K) a b c d e f g h
theorem xb_eq {α : Type} (BS : List Nat) (T : Nat → By) (hT : ∀ p, BS.getD p 0 = B fun j => (T j).getD p 0) (V : Nat → Nat → W32) : ∀ (n : Nat) (K : Nat → Nat → Nat → Nat → Nat → Nat → Nat → Nat → α),
    xb MSK ONE BS n K (P fun j => V j 0) (P fun j => V j 1) (P fun j => V j 2) (P fun j => V j 3) (P fun j => V j 4) (P fun j => V j 5) (P fun j => V j 6) (P fun j => V j 7) =
    K (P fun j => blocks (V j) (T j) n 0) (P fun j => blocks (V j) (T j) n 1) (P fun j => blocks (V j) (T j) n 2) (P fun j => blocks (V j) (T j) n 3)
      (P fun j => blocks (V j) (T j) n 4) (P fun j => blocks (V j) (T j) n 5) (P fun j => blocks (V j) (T j) n 6) (P fun j => blocks (V j) (T j) n 7)
  | 0, K => rfl
  | n + 1, K => by
    simp only [xb]
    rw [xb_eq BS T hT V n, blk_eq ((BS.drop (64 * n)).take 64) (fun j => ((T j).drop (64 * n)).take 64) (fun p hp => ?_) K (fun j => blocks (V j) (T j) n)]
    · rfl
    · have e : ∀ {β : Type} (l : List β) (d : β), ((l.drop (64 * n)).take 64).getD p d = l.getD (64 * n + p) d := by
        intro β l d
        simp only [List.getD, List.getElem?_take, if_pos hp, List.getElem?_drop]
      rw [e, hT]
      simp only [e]
end Go.Simd

namespace Go.Simd
open Go.Spec
set_option linter.unusedVariables false
set_option linter.unusedSimpArgs false

theorem pk_congr {f g : Nat → Nat} : ∀ n, (∀ j, j < n → f j = g j) → pk f n = pk g n
  | 0, _ => rfl
  | n + 1, h => by simp only [pk]; rw [h n (by omega), pk_congr n fun j hj => h j (by omega)]
/-- Lane j has byte j. -/
def IOTA : Nat := pk (fun j => j) 256
theorem iota_eq : IOTA = B fun j => BitVec.ofNat 8 j := by
  unfold IOTA B P
  refine pk_congr 256 fun j hj => ?_
  simp only [BitVec.toNat_setWidth, BitVec.toNat_ofNat]
  omega
attribute [local irreducible] MSK ONE IOTA
theorem const_eq (c : BitVec 8) : Nat.mul c.toNat ONE = B fun _ => c := by
  show c.toNat * ONE = _
  rw [one_eq, pk_mul]
  unfold B P
  refine pk_congr 256 fun j hj => ?_
  simp only [BitVec.toNat_setWidth]
  have := c.isLt
  omega
theorem P_zero : (0 : Nat) = B fun _ => (0 : BitVec 8) := by
  have h := const_eq 0
  rw [show (0 : BitVec 8).toNat = 0 from rfl] at h
  exact (Nat.zero_mul ONE).symm.trans h
theorem initP (c : W32) : Nat.mul c.toNat ONE = P fun _ => c := by
  show c.toNat * ONE = _
  rw [one_eq, pk_mul]
  unfold P
  exact pk_congr 256 fun j hj => Nat.mul_one _

/-- The tail of a text of n bytes that are one and the same. -/
noncomputable def tailB (O I n : Nat) : List Nat :=
  List.replicate (n % 64) I ++ (Nat.mul 128 O :: (List.replicate (tailEnd (n % 64) - n % 64 - 9) 0 ++ (count8 (8#64 * (0#64 + BitVec.ofNat 64 n))).map fun c => Nat.mul c.toNat O))
noncomputable def h0 (M O I n : Nat) : Nat :=
  xb M O (List.replicate n I) (n / 64) (fun a b c d e f g h => xb M O (tailB O I n) (tailEnd (n % 64) / 64) (fun a _ _ _ _ _ _ _ => a) a b c d e f g h)
    (Nat.mul 0x6a09e667 O) (Nat.mul 0xbb67ae85 O) (Nat.mul 0x3c6ef372 O) (Nat.mul 0xa54ff53a O) (Nat.mul 0x510e527f O) (Nat.mul 0x9b05688c O) (Nat.mul 0x1f83d9ab O) (Nat.mul 0x5be0cd19 O)

theorem rep_getD (n p : Nat) : (List.replicate n IOTA).getD p 0 = B fun j => (List.replicate n (BitVec.ofNat 8 j)).getD p 0 := by
  simp only [List.getD, List.getElem?_replicate]
  split
  · exact iota_eq
  · exact P_zero
theorem app_getD (l1 l2 : List Nat) (T1 T2 : Nat → By) (hl : ∀ j, (T1 j).length = l1.length) (h1 : ∀ p, l1.getD p 0 = B fun j => (T1 j).getD p 0) (h2 : ∀ p, l2.getD p 0 = B fun j => (T2 j).getD p 0) (p : Nat) :
    (l1 ++ l2).getD p 0 = B fun j => (T1 j ++ T2 j).getD p 0 := by
  by_cases h : p < l1.length
  · have e : (l1 ++ l2).getD p 0 = l1.getD p 0 := by simp only [List.getD]; rw [List.getElem?_append_left h]
    rw [e, h1]
    congr 1
    funext j
    simp only [List.getD]
    rw [List.getElem?_append_left (by rw [hl]; exact h)]
  · have e : (l1 ++ l2).getD p 0 = l2.getD (p - l1.length) 0 := by simp only [List.getD]; rw [List.getElem?_append_right (by omega)]
    rw [e, h2]
    congr 1
    funext j
    simp only [List.getD]
    rw [List.getElem?_append_right (by rw [hl]; omega), hl]
theorem map_getD (l : By) (p : Nat) : (l.map fun c => Nat.mul c.toNat ONE).getD p 0 = B fun _ => l.getD p 0 := by
  simp only [List.getD, List.getElem?_map]
  cases l[p]? with
  | none => exact P_zero
  | some c => exact const_eq c
theorem rep0_getD (n p : Nat) : (List.replicate n 0).getD p 0 = B fun _ => (List.replicate n (0 : BitVec 8)).getD p 0 := by
  simp only [List.getD, List.getElem?_replicate]
  split <;> exact P_zero
theorem cons_getD (x : Nat) (l : List Nat) (c : BitVec 8) (T : Nat → By) (hx : x = B fun _ => c) (h : ∀ p, l.getD p 0 = B fun j => (T j).getD p 0) (p : Nat) : (x :: l).getD p 0 = B fun j => (c :: T j).getD p 0 := by
  cases p with
  | zero => exact hx
  | succ p => exact h p

theorem rest_rep (n : Nat) (b : BitVec 8) : rest64 (List.replicate n b) = List.replicate (n % 64) b := by
  unfold rest64
  rw [List.length_replicate, List.drop_replicate]
  congr 1
  omega
theorem tail_getD (n p : Nat) : (tailB ONE IOTA n).getD p 0 = B fun j => (padTail 0#64 (List.replicate n (BitVec.ofNat 8 j))).getD p 0 := by
  unfold tailB padTail
  simp only [rest_rep, List.length_replicate]
  refine app_getD _ _ (fun j => List.replicate (n % 64) (BitVec.ofNat 8 j)) (fun _ => _) (fun j => by simp) (rep_getD _) (fun p => ?_) p
  have c80 := const_eq 0x80#8
  rw [show (0x80#8 : BitVec 8).toNat = 128 from rfl] at c80
  refine cons_getD _ _ 0x80#8 (fun _ => _) c80 (fun p => ?_) p
  exact app_getD _ _ (fun _ => List.replicate _ 0#8) (fun _ => _) (fun j => by simp) (rep0_getD _) (map_getD _) p

theorem h0_eq (n : Nat) : h0 MSK ONE IOTA n = P fun j => shaSt begin8 0#64 (List.replicate n (BitVec.ofNat 8 j)) 0 := by
  unfold h0
  have i0 := initP 0x6a09e667#32; have i1 := initP 0xbb67ae85#32; have i2 := initP 0x3c6ef372#32; have i3 := initP 0xa54ff53a#32
  have i4 := initP 0x510e527f#32; have i5 := initP 0x9b05688c#32; have i6 := initP 0x1f83d9ab#32; have i7 := initP 0x5be0cd19#32
  rw [show (0x6a09e667#32).toNat = 0x6a09e667 from rfl] at i0
  rw [show (0xbb67ae85#32).toNat = 0xbb67ae85 from rfl] at i1
  rw [show (0x3c6ef372#32).toNat = 0x3c6ef372 from rfl] at i2
  rw [show (0xa54ff53a#32).toNat = 0xa54ff53a from rfl] at i3
  rw [show (0x510e527f#32).toNat = 0x510e527f from rfl] at i4
  rw [show (0x9b05688c#32).toNat = 0x9b05688c from rfl] at i5
  rw [show (0x1f83d9ab#32).toNat = 0x1f83d9ab from rfl] at i6
  rw [show (0x5be0cd19#32).toNat = 0x5be0cd19 from rfl] at i7
  rw [i0, i1, i2, i3, i4, i5, i6, i7]
  refine (xb_eq (List.replicate n IOTA) (fun j => List.replicate n (BitVec.ofNat 8 j)) (rep_getD n) (fun _ => begin8) (n / 64) _).trans ?_
  refine (xb_eq (tailB ONE IOTA n) (fun j => padTail 0#64 (List.replicate n (BitVec.ofNat 8 j))) (tail_getD n) (fun j => blocks begin8 (List.replicate n (BitVec.ofNat 8 j)) (n / 64)) (tailEnd (n % 64) / 64) _).trans ?_
  refine congrArg P (funext fun j => ?_)
  unfold shaSt
  rw [List.length_replicate, rest_rep, List.length_replicate]

theorem shone : Nat.shiftLeft ONE 32 = pk (fun _ => 2 ^ 32) 256 := by decide +kernel
/-- In no lane are they the same. -/
def neq (M O a b : Nat) : Bool := Nat.beq (Nat.land (Nat.add (Nat.xor a b) M) (Nat.shiftLeft O 32)) (Nat.shiftLeft O 32)
theorem neq_spec {f g : Nat → W32} (h : neq MSK ONE (P f) (P g) = true) (j : Nat) (hj : j < 256) : f j ≠ g j := by
  have h1 := Nat.eq_of_beq_eq_true h
  have h2 : (Nat.land (Nat.add (Nat.xor (P f) (P g)) MSK) (Nat.shiftLeft ONE 32)).testBit (64 * j + 32) = (Nat.shiftLeft ONE 32).testBit (64 * j + 32) := by rw [h1]
  have q1 : (64 * j + 32) / 64 = j := by omega
  have q2 : (64 * j + 32) % 64 = 32 := by omega
  have e2 : Nat.add (Nat.xor (P f) (P g)) MSK = pk (fun j => (f j ^^^ g j).toNat + (2 ^ 32 - 1)) 256 := by
    rw [P_xor, msk_eq]
    exact pk_add _ _ 256
  rw [shone, e2] at h2
  rw [show (Nat.land (pk (fun j => (f j ^^^ g j).toNat + (2 ^ 32 - 1)) 256) (pk (fun _ => 2 ^ 32) 256)).testBit (64 * j + 32) = ((pk (fun j => (f j ^^^ g j).toNat + (2 ^ 32 - 1)) 256).testBit (64 * j + 32) && (pk (fun _ => 2 ^ 32) 256).testBit (64 * j + 32)) from Nat.testBit_and _ _ _] at h2
  rw [pk_bit (fun j => by have := (f j ^^^ g j).isLt; omega), pk_bit (fun _ => by decide), q1, q2] at h2
  have t : (2 ^ 32).testBit 32 = true := by decide
  simp only [hj, decide_true, Bool.true_and, t, Bool.and_true] at h2
  intro he
  rw [he] at h2
  simp only [BitVec.xor_self] at h2
  revert h2
  decide
noncomputable def chk (M O I : Nat) : Nat → Nat → Nat → Bool
  | 0, _, _ => true
  | m + 1, k, a => fz (h0 M O I (k + 1)) fun b => match neq M O a b with | true => chk M O I m (k + 1) b | false => false
noncomputable def chkAll (m k : Nat) : Bool := fz MSK fun M => fz ONE fun O => fz IOTA fun I => fz (h0 M O I k) fun a => chk M O I m k a
theorem h0_eq' {M O I : Nat} (hM : M = MSK) (hO : O = ONE) (hI : I = IOTA) (n : Nat) : h0 M O I n = P fun j => shaSt begin8 0#64 (List.replicate n (BitVec.ofNat 8 j)) 0 := by
  rw [hM, hO, hI]; exact h0_eq n
theorem neq_spec' {M O : Nat} (hM : M = MSK) (hO : O = ONE) {f g : Nat → W32} (h : neq M O (P f) (P g) = true) (j : Nat) (hj : j < 256) : f j ≠ g j := by
  rw [hM, hO] at h; exact neq_spec h j hj
theorem chk_spec {M O I : Nat} (hM : M = MSK) (hO : O = ONE) (hI : I = IOTA) (m : Nat) : ∀ (k : Nat), chk M O I m k (h0 M O I k) = true → ∀ n, k ≤ n → n < k + m → ∀ j, j < 256 →
    shaSt begin8 0#64 (List.replicate n (BitVec.ofNat 8 j)) 0 ≠ shaSt begin8 0#64 (List.replicate (n + 1) (BitVec.ofNat 8 j)) 0 := by
  induction m with
  | zero => intro k _ n h1 h2; omega
  | succ m ih =>
    intro k h n h1 h2 j hj
    simp only [chk, fz_eq] at h
    split at h
    · rename_i hn
      rcases Nat.eq_or_lt_of_le h1 with h3 | h3
      · subst h3
        rw [h0_eq' hM hO hI, h0_eq' hM hO hI] at hn
        exact neq_spec' hM hO hn j hj
      · exact ih (k + 1) h n h3 (by omega) j hj
    · cases h
theorem chkAll_spec' {M O I : Nat} (hM : M = MSK) (hO : O = ONE) (hI : I = IOTA) (m k : Nat) (h : (fz M fun M => fz O fun O => fz I fun I => fz (h0 M O I k) fun a => chk M O I m k a) = true) : ∀ n, k ≤ n → n < k + m → ∀ j, j < 256 →
    shaSt begin8 0#64 (List.replicate n (BitVec.ofNat 8 j)) 0 ≠ shaSt begin8 0#64 (List.replicate (n + 1) (BitVec.ofNat 8 j)) 0 := by
  simp only [fz_eq] at h
  exact chk_spec hM hO hI m k h
theorem chkAll_spec (m k : Nat) (h : chkAll m k = true) : ∀ n, k ≤ n → n < k + m → ∀ j, j < 256 →
    shaSt begin8 0#64 (List.replicate n (BitVec.ofNat 8 j)) 0 ≠ shaSt begin8 0#64 (List.replicate (n + 1) (BitVec.ofNat 8 j)) 0 :=
  chkAll_spec' (M := MSK) (O := ONE) (I := IOTA) rfl rfl rfl m k (by unfold chkAll at h; exact h)
end Go.Simd

namespace Go.Simd
open Go.Spec
set_option maxRecDepth 1000000 in
theorem ck0 : chkAll 10 0 = true := by kernel_rfl
set_option maxRecDepth 1000000 in
theorem ck1 : chkAll 10 10 = true := by kernel_rfl
set_option maxRecDepth 1000000 in
theorem ck2 : chkAll 10 20 = true := by kernel_rfl
set_option maxRecDepth 1000000 in
theorem ck3 : chkAll 10 30 = true := by kernel_rfl
set_option maxRecDepth 1000000 in
theorem ck4 : chkAll 10 40 = true := by kernel_rfl
set_option maxRecDepth 1000000 in
theorem ck5 : chkAll 10 50 = true := by kernel_rfl
set_option maxRecDepth 1000000 in
theorem ck6 : chkAll 10 60 = true := by kernel_rfl
set_option maxRecDepth 1000000 in
theorem ck7 : chkAll 10 70 = true := by kernel_rfl
set_option maxRecDepth 1000000 in
theorem ck8 : chkAll 10 80 = true := by kernel_rfl
set_option maxRecDepth 1000000 in
theorem ck9 : chkAll 10 90 = true := by kernel_rfl
set_option maxRecDepth 1000000 in
theorem ck10 : chkAll 10 100 = true := by kernel_rfl
set_option maxRecDepth 1000000 in
theorem ck11 : chkAll 10 110 = true := by kernel_rfl
set_option maxRecDepth 1000000 in
theorem ck12 : chkAll 10 120 = true := by kernel_rfl
set_option maxRecDepth 1000000 in
theorem ck13 : chkAll 10 130 = true := by kernel_rfl
theorem all_neq (n : Nat) (hn : n < 140) (j : Nat) (hj : j < 256) : shaSt begin8 0#64 (List.replicate n (BitVec.ofNat 8 j)) 0 ≠ shaSt begin8 0#64 (List.replicate (n + 1) (BitVec.ofNat 8 j)) 0 := by
  rcases Nat.lt_or_ge n 10 with h | h0
  · exact chkAll_spec 10 0 ck0 n (by omega) (by omega) j hj
  rcases Nat.lt_or_ge n 20 with h | h1
  · exact chkAll_spec 10 10 ck1 n (by omega) (by omega) j hj
  rcases Nat.lt_or_ge n 30 with h | h2
  · exact chkAll_spec 10 20 ck2 n (by omega) (by omega) j hj
  rcases Nat.lt_or_ge n 40 with h | h3
  · exact chkAll_spec 10 30 ck3 n (by omega) (by omega) j hj
  rcases Nat.lt_or_ge n 50 with h | h4
  · exact chkAll_spec 10 40 ck4 n (by omega) (by omega) j hj
  rcases Nat.lt_or_ge n 60 with h | h5
  · exact chkAll_spec 10 50 ck5 n (by omega) (by omega) j hj
  rcases Nat.lt_or_ge n 70 with h | h6
  · exact chkAll_spec 10 60 ck6 n (by omega) (by omega) j hj
  rcases Nat.lt_or_ge n 80 with h | h7
  · exact chkAll_spec 10 70 ck7 n (by omega) (by omega) j hj
  rcases Nat.lt_or_ge n 90 with h | h8
  · exact chkAll_spec 10 80 ck8 n (by omega) (by omega) j hj
  rcases Nat.lt_or_ge n 100 with h | h9
  · exact chkAll_spec 10 90 ck9 n (by omega) (by omega) j hj
  rcases Nat.lt_or_ge n 110 with h | h10
  · exact chkAll_spec 10 100 ck10 n (by omega) (by omega) j hj
  rcases Nat.lt_or_ge n 120 with h | h11
  · exact chkAll_spec 10 110 ck11 n (by omega) (by omega) j hj
  rcases Nat.lt_or_ge n 130 with h | h12
  · exact chkAll_spec 10 120 ck12 n (by omega) (by omega) j hj
  exact chkAll_spec 10 130 ck13 n (by omega) (by omega) j hj
theorem byte_neq (n : Nat) (hn : n < 140) (b : BitVec 8) : shaB (List.replicate n b) ≠ shaB (List.replicate (n + 1) b) ∧ ¬ (∀ i, i < 32 → shaB (List.replicate n b) i = shaB (List.replicate (n + 1) b) i) := by
  have key : ¬ (∀ i, i < 32 → shaB (List.replicate n b) i = shaB (List.replicate (n + 1) b) i) := by
    intro h
    have h1 := all_neq n hn b.toNat b.isLt
    rw [BitVec.ofNat_toNat, BitVec.setWidth_eq] at h1
    apply h1
    have a0 := h 0 (by decide)
    have a1 := h 1 (by decide)
    have a2 := h 2 (by decide)
    have a3 := h 3 (by decide)
    rw [shaB_eq, shaB_eq] at a0 a1 a2 a3
    simp only [shaU, outByte] at a0 a1 a2 a3
    generalize shaSt begin8 0#64 (List.replicate n b) 0 = x at *
    generalize shaSt begin8 0#64 (List.replicate (n + 1) b) 0 = y at *
    apply BitVec.eq_of_getLsbD_eq
    intro i hi
    have b0 := congrArg (fun z => z.getLsbD (i % 8)) a0
    have b1 := congrArg (fun z => z.getLsbD (i % 8)) a1
    have b2 := congrArg (fun z => z.getLsbD (i % 8)) a2
    have b3 := congrArg (fun z => z.getLsbD (i % 8)) a3
    have h8 : i % 8 < 8 := Nat.mod_lt _ (by decide)
    simp [BitVec.getLsbD_setWidth, BitVec.getLsbD_ushiftRight, h8] at b0 b1 b2 b3
    rcases (show i / 8 = 0 ∨ i / 8 = 1 ∨ i / 8 = 2 ∨ i / 8 = 3 by omega) with e | e | e | e
    · rw [show i = i % 8 by omega]; exact b3
    · rw [show i = 8 + i % 8 by omega]; exact b2
    · rw [show i = 16 + i % 8 by omega]; exact b1
    · rw [show i = 24 + i % 8 by omega]; exact b0
  exact ⟨fun h => key fun i _ => by rw [h], key⟩
end Go.Simd
