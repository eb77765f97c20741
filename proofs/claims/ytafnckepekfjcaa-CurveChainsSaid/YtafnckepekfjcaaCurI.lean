/- The same by numbers: product, carries, the ladder, bits, bytes. -/
import Derived.Test.YtafnckepekfjcaaCurG
import Derived.Test.YtafnckepekfjcaaCurF
import Derived.Test.YtafnckepekfjcaaCurD
import Derived.Test.YtafnckepekfjcaaCurH
namespace Go.Spec
open Go.Sym
def accZ (x y : I16) (k i0 : Nat) : Nat → Int
  | 0 => 0
  | n + 1 => accZ x y k i0 n + x (i0 + n) * y (k - (i0 + n))
def RbI (x : I16) : Prop := ∀ i, i < 16 → -131300 ≤ x i ∧ x i ≤ 131300
theorem prod_b {a b : Int} (ha : -131300 ≤ a ∧ a ≤ 131300) (hb : -131300 ≤ b ∧ b ≤ 131300) : -17239690000 ≤ a * b ∧ a * b ≤ 17239690000 := by
  have h1 : 0 ≤ (131300 - a) * (131300 + b) := Int.mul_nonneg (by omega) (by omega)
  have h2 : 0 ≤ (131300 + a) * (131300 - b) := Int.mul_nonneg (by omega) (by omega)
  have h3 : 0 ≤ (131300 - a) * (131300 - b) := Int.mul_nonneg (by omega) (by omega)
  have h4 : 0 ≤ (131300 + a) * (131300 + b) := Int.mul_nonneg (by omega) (by omega)
  simp only [Int.add_mul, Int.sub_mul, Int.mul_add, Int.mul_sub] at h1 h2 h3 h4
  generalize a * b = p at *
  omega
theorem acc_val {x y : I16} (hx : RbI x) (hy : RbI y) (k i0 : Nat) : ∀ n, n ≤ 16 → (∀ j, j < n → i0 + j < 16 ∧ k - (i0 + j) < 16) → accR x y k i0 n = accZ x y k i0 n ∧ -(17239690000 * (n : Int)) ≤ accZ x y k i0 n ∧ accZ x y k i0 n ≤ 17239690000 * (n : Int)
  | 0, _, _ => ⟨rfl, Int.le_refl _, Int.le_refl _⟩
  | n + 1, hn, h => by
    obtain ⟨e, l, u⟩ := acc_val hx hy k i0 n (by omega) (fun j hj => h j (by omega))
    have hb := h n (by omega)
    have p := prod_b (hx (i0 + n) hb.1) (hy (k - (i0 + n)) hb.2)
    unfold accR accZ
    rw [e]
    generalize x (i0 + n) * y (k - (i0 + n)) = q at *
    generalize accZ x y k i0 n = A at *
    rw [w64_id (x := q) (by omega) (by omega)]
    have c : ((n + 1 : Nat) : Int) = (n : Int) + 1 := by omega
    refine ⟨w64_id (by omega) (by omega), ?_, ?_⟩ <;> rw [c] <;> omega
def outZ (x y : I16) : I16 := fun i => if i < 15 then accZ x y i 0 (i + 1) + 38 * accZ x y (i + 16) (i + 1) (15 - i) else accZ x y 15 0 16
theorem out_val {x y : I16} (hx : RbI x) (hy : RbI y) (i : Nat) (hi : i < 16) : outR x y i = outZ x y i ∧ -11000000000000 ≤ outZ x y i ∧ outZ x y i ≤ 11000000000000 := by
  unfold outR outZ
  by_cases h : i < 15
  · rw [if_pos h, if_pos h]
    obtain ⟨e1, l1, u1⟩ := acc_val hx hy i 0 (i + 1) (by omega) (fun j hj => by omega)
    obtain ⟨e2, l2, u2⟩ := acc_val hx hy (i + 16) (i + 1) (15 - i) (by omega) (fun j hj => by omega)
    rw [e1, e2]
    generalize accZ x y i 0 (i + 1) = A at *
    generalize accZ x y (i + 16) (i + 1) (15 - i) = B at *
    rw [w64_id (x := 38 * B) (by omega) (by omega)]
    refine ⟨w64_id (by omega) (by omega), ?_, ?_⟩ <;> omega
  · rw [if_neg h, if_neg h]
    obtain ⟨e1, l1, u1⟩ := acc_val hx hy 15 0 16 (by omega) (fun j hj => by omega)
    rw [e1]
    refine ⟨rfl, ?_, ?_⟩ <;> omega
theorem VI_congr {a b : I16} (h : ∀ i, i < 16 → a i = b i) : VI a = VI b := by
  unfold VI
  rw [h 0 (by omega), h 1 (by omega), h 2 (by omega), h 3 (by omega), h 4 (by omega), h 5 (by omega), h 6 (by omega), h 7 (by omega), h 8 (by omega), h 9 (by omega), h 10 (by omega), h 11 (by omega), h 12 (by omega), h 13 (by omega), h 14 (by omega), h 15 (by omega)]
set_option maxRecDepth 100000 in
theorem outZ_V (x y : I16) : (VI x * VI y) % 57896044618658097711785492504343953926634992332820282019728792003956564819949 = VI (outZ x y) % 57896044618658097711785492504343953926634992332820282019728792003956564819949 := by
  have m := mul16 (x 0) (x 1) (x 2) (x 3) (x 4) (x 5) (x 6) (x 7) (x 8) (x 9) (x 10) (x 11) (x 12) (x 13) (x 14) (x 15) (y 0) (y 1) (y 2) (y 3) (y 4) (y 5) (y 6) (y 7) (y 8) (y 9) (y 10) (y 11) (y 12) (y 13) (y 14) (y 15)
  have e : VI (outZ x y) = (accZ x y 0 0 1 + 38 * accZ x y 16 1 15) + 65536 * (accZ x y 1 0 2 + 38 * accZ x y 17 2 14) + 4294967296 * (accZ x y 2 0 3 + 38 * accZ x y 18 3 13) + 281474976710656 * (accZ x y 3 0 4 + 38 * accZ x y 19 4 12) + 18446744073709551616 * (accZ x y 4 0 5 + 38 * accZ x y 20 5 11) + 1208925819614629174706176 * (accZ x y 5 0 6 + 38 * accZ x y 21 6 10) + 79228162514264337593543950336 * (accZ x y 6 0 7 + 38 * accZ x y 22 7 9) + 5192296858534827628530496329220096 * (accZ x y 7 0 8 + 38 * accZ x y 23 8 8) + 340282366920938463463374607431768211456 * (accZ x y 8 0 9 + 38 * accZ x y 24 9 7) + 22300745198530623141535718272648361505980416 * (accZ x y 9 0 10 + 38 * accZ x y 25 10 6) + 1461501637330902918203684832716283019655932542976 * (accZ x y 10 0 11 + 38 * accZ x y 26 11 5) + 95780971304118053647396689196894323976171195136475136 * (accZ x y 11 0 12 + 38 * accZ x y 27 12 4) + 6277101735386680763835789423207666416102355444464034512896 * (accZ x y 12 0 13 + 38 * accZ x y 28 13 3) + 411376139330301510538742295639337626245683966408394965837152256 * (accZ x y 13 0 14 + 38 * accZ x y 29 14 2) + 26959946667150639794667015087019630673637144422540572481103610249216 * (accZ x y 14 0 15 + 38 * accZ x y 30 15 1) + 1766847064778384329583297500742918515827483896875618958121606201292619776 * accZ x y 15 0 16 := rfl
  rw [e]
  unfold VI
  rw [m]
  simp only [accZ, Int.zero_add, Nat.reduceAdd, Nat.reduceSub, Nat.add_zero, Nat.zero_add]
  rw [show (115792089237316195423570985008687907853269984665640564039457584007913129639898 : Int) = 57896044618658097711785492504343953926634992332820282019728792003956564819949 * 2 by decide, Int.mul_assoc]
  exact Int.add_mul_emod_self_left _ _ _
end Go.Spec

namespace Go.Spec
open Go.Sym
theorem re16_at (f : I16) (i : Nat) (h : i < 16) : re16 f i = f i := rg_getD 16 f i (0 : Int) h
theorem VI_re (f : I16) : VI (re16 f) = VI f := rfl
/-- Sixteen places that stand for a number below p. -/
structure Rz (x : I16) (v : Nat) : Prop where
  l0 : -38 ≤ x 0 ∧ x 0 ≤ 65573
  li : ∀ i, 0 < i → i < 16 → 0 ≤ x i ∧ x i ≤ 65535
  v : VI x % 57896044618658097711785492504343953926634992332820282019728792003956564819949 = (v : Int)
structure Rw (x : I16) (v : Nat) : Prop where
  b : RbI x
  v : VI x % 57896044618658097711785492504343953926634992332820282019728792003956564819949 = (v : Int)
theorem Rz.w {x : I16} {v : Nat} (h : Rz x v) : Rw x v := by
  refine ⟨fun i hi => ?_, h.v⟩
  by_cases h0 : i = 0
  · subst h0; have := h.l0; omega
  · have := h.li i (by omega) hi; omega
theorem Rw.re {x : I16} {v : Nat} (h : Rw x v) : Rw (re16 x) v := ⟨fun i hi => by rw [re16_at x i hi]; exact h.b i hi, h.v⟩
theorem Rz.re {x : I16} {v : Nat} (h : Rz x v) : Rz (re16 x) v := ⟨h.l0, fun i h0 hi => by rw [re16_at x i hi]; exact h.li i h0 hi, h.v⟩
/-- A first carry. -/
theorem car_1 {x : I16} (hx : ∀ i, i < 16 → -11000000000000 ≤ x i ∧ x i ≤ 11000000000000) : (-7000000000 ≤ carR x 0 ∧ carR x 0 ≤ 7000000000) ∧ (∀ i, 0 < i → i < 16 → 0 ≤ carR x i ∧ carR x i ≤ 65535) ∧ VI (carR x) % 57896044618658097711785492504343953926634992332820282019728792003956564819949 = VI x % 57896044618658097711785492504343953926634992332820282019728792003956564819949 := by
  have hb : ∀ i, i < 16 → -1152921504606846976 ≤ x i ∧ x i ≤ 1152921504606846976 := fun i hi => by have := hx i hi; omega
  obtain ⟨c0, cs, _⟩ := cu_val x hb
  have key : ∀ i, i < 16 → -11000200000000 ≤ cuR x i ∧ cuR x i ≤ 11000200000000 := by
    intro i
    induction i with
    | zero => intro _; have := hx 0 (by omega); rw [c0]; omega
    | succ i ih =>
      intro hi
      have := ih (by omega)
      have := hx (i + 1) hi
      rw [cs i (by omega)]
      omega
  refine ⟨?_, fun i h0 hi => ?_, ?_⟩
  · rw [carR_0 x hb]
    have := key 15 (by omega)
    omega
  · rw [carR_i x hb i h0 hi]
    omega
  · have e := carR_V x hb
    generalize cuR x 15 / 65536 - 1 = q at *
    omega
/-- A second. -/
theorem car_2 {x : I16} (h0 : -7000000000 ≤ x 0 ∧ x 0 ≤ 7000000000) (hi : ∀ i, 0 < i → i < 16 → 0 ≤ x i ∧ x i ≤ 65535) : (-38 ≤ carR x 0 ∧ carR x 0 ≤ 65573) ∧ (∀ i, 0 < i → i < 16 → 0 ≤ carR x i ∧ carR x i ≤ 65535) ∧ VI (carR x) % 57896044618658097711785492504343953926634992332820282019728792003956564819949 = VI x % 57896044618658097711785492504343953926634992332820282019728792003956564819949 := by
  have hb : ∀ i, i < 16 → -11000000000000 ≤ x i ∧ x i ≤ 11000000000000 := fun i h => by
    by_cases e : i = 0
    · subst e; omega
    · have := hi i (by omega) h; omega
  have hb2 : ∀ i, i < 16 → -1152921504606846976 ≤ x i ∧ x i ≤ 1152921504606846976 := fun i hi => by have := hb i hi; omega
  obtain ⟨c0, cs, _⟩ := cu_val x hb2
  obtain ⟨_, r1, r2⟩ := car_1 hb
  refine ⟨?_, r1, r2⟩
  rw [carR_0 x hb2]
  have e1 := cs 0 (by omega)
  have e2 := cs 1 (by omega)
  have k1 := hi (0 + 1) (by omega) (by omega)
  have k2 := hi (1 + 1) (by omega) (by omega)
  have key : ∀ i, 2 ≤ i → i < 16 → 0 ≤ cuR x i ∧ cuR x i ≤ 196607 := by
    intro i
    induction i with
    | zero => intro h; omega
    | succ i ih =>
      intro h2 hl
      by_cases e : i = 1
      · subst e
        rw [e2, e1, c0]
        omega
      · have := ih (by omega) (by omega)
        have := hi (i + 1) (by omega) hl
        rw [cs i (by omega)]
        omega
  have := key 15 (by omega) (by omega)
  omega
theorem mul_R {x y : I16} {v w : Nat} (hx : Rw x v) (hy : Rw y w) : Rz (mulR x y) (fM v w) := by
  have hs : ∀ i, i < 16 → -11000000000000 ≤ re16 (outR x y) i ∧ re16 (outR x y) i ≤ 11000000000000 := fun i hi => by
    obtain ⟨e, l, u⟩ := out_val hx.b hy.b i hi
    rw [re16_at _ i hi, e]
    exact ⟨l, u⟩
  have hv : VI (re16 (outR x y)) = VI (outZ x y) := VI_congr fun i hi => by rw [re16_at _ i hi, (out_val hx.b hy.b i hi).1]
  obtain ⟨a0, ai, av⟩ := car_1 hs
  obtain ⟨b0, bi, bv⟩ := car_2 (x := re16 (carR (re16 (outR x y)))) a0 (fun i h0 hi => by rw [re16_at _ i hi]; exact ai i h0 hi)
  refine ⟨b0, bi, ?_⟩
  have e : VI (mulR x y) % 57896044618658097711785492504343953926634992332820282019728792003956564819949 = (VI x * VI y) % 57896044618658097711785492504343953926634992332820282019728792003956564819949 := by
    rw [VI_re] at bv
    rw [outZ_V, ← hv, ← av, ← bv]
    rfl
  rw [e, Int.mul_emod, hx.v, hy.v]
  have c : (v : Int) * (w : Int) = ((v * w : Nat) : Int) := (Int.natCast_mul v w).symm
  rw [c]
  unfold fM PZ
  generalize v * w = q
  omega
theorem VI_add (x y : I16) : VI (fun i => x i + y i) = VI x + VI y := by
  simp only [VI]
  omega
theorem VI_sub (x y : I16) : VI (fun i => x i - y i) = VI x - VI y := by
  simp only [VI]
  omega
theorem add_R {x y : I16} {v w : Nat} (hx : Rz x v) (hy : Rz y w) : Rw (addR (re16 x) (re16 y)) (fA v w) := by
  have e : ∀ i, i < 16 → addR (re16 x) (re16 y) i = x i + y i := fun i hi => by
    have h1 := hx.w.b i hi
    have h2 := hy.w.b i hi
    show w64 (re16 x i + re16 y i) = _
    rw [re16_at x i hi, re16_at y i hi]
    exact w64_id (by omega) (by omega)
  refine ⟨fun i hi => ?_, ?_⟩
  · rw [e i hi]
    by_cases h : i = 0
    · subst h
      have := hx.l0
      have := hy.l0
      omega
    · have := hx.li i (by omega) hi
      have := hy.li i (by omega) hi
      omega
  · have a : VI (addR (re16 x) (re16 y)) = VI x + VI y := by
      rw [VI_congr (b := fun i => x i + y i) e, VI_add]
    rw [a]
    have h1 := hx.v
    have h2 := hy.v
    generalize VI x = X at *
    generalize VI y = Y at *
    unfold fA PZ
    omega
theorem sub_R {x y : I16} {v w : Nat} (hx : Rz x v) (hy : Rz y w) : Rw (subR (re16 x) (re16 y)) (fS v w) := by
  have e : ∀ i, i < 16 → subR (re16 x) (re16 y) i = x i - y i := fun i hi => by
    have h1 := hx.w.b i hi
    have h2 := hy.w.b i hi
    show w64 (re16 x i - re16 y i) = _
    rw [re16_at x i hi, re16_at y i hi]
    exact w64_id (by omega) (by omega)
  refine ⟨fun i hi => ?_, ?_⟩
  · rw [e i hi]
    by_cases h : i = 0
    · subst h
      have := hx.l0
      have := hy.l0
      omega
    · have := hx.li i (by omega) hi
      have := hy.li i (by omega) hi
      omega
  · have a : VI (subR (re16 x) (re16 y)) = VI x - VI y := by
      rw [VI_congr (b := fun i => x i - y i) e, VI_sub]
    rw [a]
    have h1 := hx.v
    have h2 := hy.v
    generalize VI x = X at *
    generalize VI y = Y at *
    unfold fS PZ
    omega
theorem one_I : Rz oneI 1 := ⟨by decide, fun i h0 hi => by unfold oneI; rw [if_neg (by omega)]; decide, by decide⟩
theorem nul_I : Rz nulI 0 := ⟨by decide, fun i h0 hi => by unfold nulI; decide, by decide⟩
theorem k_I : Rw kI 121665 := ⟨fun i hi => by unfold kI; split; { decide }; { split <;> decide }, by decide⟩
theorem iv_R {n : I16} {v : Nat} (h : Rz n v) : ∀ k, Rz (ivR n k) (invV v (k + 1))
  | 0 => by
    have e : invV v 1 = v := by
      have := h.v
      unfold invV invV
      rw [if_neg (by omega)]
      unfold fM PZ
      omega
    rw [e]
    exact h
  | k + 1 => by
    have ih := iv_R h k
    have e : invV v (k + 1 + 1) = if k + 1 = 252 ∨ k + 1 = 250 then fM (invV v (k + 1)) (invV v (k + 1)) else fM (fM (invV v (k + 1)) (invV v (k + 1))) v := rfl
    rw [e]
    by_cases c : k = 251 ∨ k = 249
    · rw [if_pos (by omega), ivR, if_pos c]
      exact mul_R ih.w.re ih.w.re
    · rw [if_neg (by omega), ivR, if_neg c]
      exact mul_R (mul_R ih.w.re ih.w.re).w.re h.w.re
structure RR (s : R4) (t : L4) : Prop where
  r1 : Rz s.x2 t.x2
  r2 : Rz s.z2 t.z2
  r3 : Rz s.x3 t.x3
  r4 : Rz s.z3 t.z3
theorem step_I {u : I16} {v : Nat} (hu : Rz u v) {s : R4} {t : L4} (h : RR s t) : RR (stepR u s) (stepV v t) := by
  have ha := (add_R h.r1 h.r2).re
  have hb := (sub_R h.r1 h.r2).re
  have hc := (add_R h.r3 h.r4).re
  have hd := (sub_R h.r3 h.r4).re
  have hda := mul_R hd ha
  have hcb := mul_R hc hb
  have haa := mul_R ha ha
  have hbb := mul_R hb hb
  have he := (sub_R haa hbb).re
  have hs := (add_R hda hcb).re
  have ht := (sub_R hda hcb).re
  exact ⟨mul_R haa.w.re hbb.w.re, mul_R he (add_R haa (mul_R k_I.re he)).re, mul_R hs hs, mul_R hu.w.re (mul_R ht ht).w.re⟩
theorem swap_I {s : R4} {t : L4} (h : RR s t) (b : Bool) : RR (swapR b s) (swapV b t) := by
  cases b
  · exact h
  · exact ⟨h.r3, h.r4, h.r1, h.r2⟩
theorem lad_I {s s' : F8} (hs : ∀ i, i ≤ 254 → bitR s i = bitV s' i) {u : I16} {v : Nat} (hu : Rz u v) : ∀ k, k ≤ 255 → RR (ladR s u k) (ladV s' v k)
  | 0, _ => ⟨one_I, nul_I, hu, one_I⟩
  | k + 1, hk => by
    rw [ladR, ladV, hs (254 - k) (by omega)]
    exact swap_I (step_I hu (swap_I (lad_I hs hu k (by omega)) _)) _
theorem sha_I {s s' : F8} (hs : ∀ i, i ≤ 254 → bitR s i = bitV s' i) {u : I16} {v : Nat} (hu : Rz u v) : Rz (mulR (re16 (ladR s u 255).x2) (re16 (ivR (re16 (ladR s u 255).z2) 254))) (shV s' v) := by
  have h := lad_I hs hu 255 (by omega)
  exact mul_R h.r1.w.re (iv_R h.r2.re 254).w.re
end Go.Spec

namespace Go.Spec
open Go.Sym
/-- A number from its places of w bits. -/
def hs (w : Nat) (f : Nat → Nat) : Nat → Nat
  | 0 => 0
  | n + 1 => 2 ^ (w * n) * f n + hs w f n
theorem hs_lt {w : Nat} {f : Nat → Nat} : ∀ n, (∀ i, i < n → f i < 2 ^ w) → hs w f n < 2 ^ (w * n)
  | 0, _ => by simp [hs]
  | n + 1, h => by
    have ih := hs_lt n (fun i hi => h i (by omega))
    have hn := h n (by omega)
    have e : 2 ^ (w * (n + 1)) = 2 ^ (w * n) * 2 ^ w := by rw [Nat.mul_add, Nat.mul_one, Nat.pow_add]
    rw [hs, e]
    have : 2 ^ (w * n) * (f n + 1) ≤ 2 ^ (w * n) * 2 ^ w := Nat.mul_le_mul_left _ hn
    rw [Nat.mul_add, Nat.mul_one] at this
    omega
theorem hs_bit {w : Nat} (hw : 0 < w) {f : Nat → Nat} : ∀ n, (∀ i, i < n → f i < 2 ^ w) → ∀ i, (hs w f n).testBit i = (decide (i < w * n) && (f (i / w)).testBit (i % w))
  | 0, _, i => by simp [hs]
  | n + 1, h, i => by
    rw [hs, Nat.testBit_two_pow_mul_add _ (hs_lt n (fun i hi => h i (by omega)))]
    have ih := hs_bit hw n (fun i hi => h i (by omega)) i
    have e : w * (n + 1) = w * n + w := by rw [Nat.mul_add, Nat.mul_one]
    by_cases c : i < w * n
    · rw [if_pos c, ih, decide_eq_true c, decide_eq_true (by omega)]
    · rw [if_neg c]
      by_cases d : i < w * (n + 1)
      · have q : i / w = n := by
          rw [Nat.div_eq_iff hw]
          rw [Nat.mul_comm n w]
          omega
        have r : i % w = i - w * n := by
          have := Nat.div_add_mod i w
          rw [q] at this
          omega
        rw [decide_eq_true d, q, r]
        rfl
      · rw [decide_eq_false d]
        refine (Nat.testBit_lt_two_pow ?_).trans (by rfl)
        refine Nat.lt_of_lt_of_le (h n (by omega)) (Nat.pow_le_pow_right (by omega) (by omega))
end Go.Spec

namespace Go.Spec
open Go.Sym
theorem sh1_bit {w : Nat} (b : Bool) (k t : Nat) (hk : k < w) (ht : t < w) : ((if b then 1 else 0 : BitVec w) <<< k).getLsbD t = (decide (t = k) && b) := by
  rw [BitVec.getLsbD_shiftLeft]
  cases b
  · simp
  · by_cases h : t = k
    · subst h; simp [ht, Nat.lt_of_le_of_lt (Nat.zero_le _) ht]
    · by_cases c : t < k
      · simp [c, h]
      · have : t - k ≠ 0 := by omega
        simp [h, c, ht, this]
theorem numS_s (b : F8) (n j : Nat) : numS b (n + 1) j = if j = n / 51 then numS b n j ||| bitB b n <<< (n % 51) else numS b n j := rfl
theorem bytS_s (b : N5) (n j : Nat) : bytS b (n + 1) j = if j = n / 8 then bytS b n j ||| bitN b n <<< (n % 8) else bytS b n j := rfl
theorem numS_bit (b : F8) (j t : Nat) (ht : t < 51) : ∀ n, (numS b n j).getLsbD t = (decide (51 * j + t < n) && bitV b (51 * j + t))
  | 0 => by simp [numS]
  | n + 1 => by
    have ih := numS_bit b j t ht n
    rw [numS_s]
    by_cases c : j = n / 51
    · rw [if_pos c, BitVec.getLsbD_or, ih, bitB_V, sh1_bit _ _ _ (by omega) (by omega)]
      by_cases d : 51 * j + t = n
      · rw [d, decide_eq_true (show t = n % 51 by omega)]
        simp
      · rw [decide_eq_false (show ¬ t = n % 51 by omega)]
        by_cases e : 51 * j + t < n
        · rw [decide_eq_true e, decide_eq_true (show 51 * j + t < n + 1 by omega)]; simp
        · rw [decide_eq_false e, decide_eq_false (show ¬ 51 * j + t < n + 1 by omega)]; simp
    · rw [if_neg c, ih]
      by_cases e : 51 * j + t < n
      · rw [decide_eq_true e, decide_eq_true (show 51 * j + t < n + 1 by omega)]
      · rw [decide_eq_false e, decide_eq_false (show ¬ 51 * j + t < n + 1 by omega)]
theorem numS_hi (b : F8) (j t : Nat) (ht : 51 ≤ t) : ∀ n, (numS b n j).getLsbD t = false
  | 0 => by simp [numS]
  | n + 1 => by
    have ih := numS_hi b j t ht n
    rw [numS_s]
    by_cases c : j = n / 51
    · rw [if_pos c, BitVec.getLsbD_or, ih, bitB_V]
      by_cases h : t < 64
      · rw [sh1_bit _ _ _ (by omega) h, decide_eq_false (show ¬ t = n % 51 by omega)]
        rfl
      · rw [BitVec.getLsbD_of_ge _ _ (by omega)]
        rfl
    · rw [if_neg c, ih]
theorem numS_lt (b : F8) (n j : Nat) : tN (numS b n) j < 2 ^ 51 := by
  refine Nat.lt_pow_two_of_testBit _ fun t ht => ?_
  exact numS_hi b j t ht n
theorem vN_hs (a : N5) : vN a = hs 51 (tN a) 5 := by
  unfold vN limb
  simp only [hs, Nat.reduceMul, Nat.reducePow]
  omega
theorem vN_bit (p : F8) (i : Nat) : (vN (numS p 255)).testBit i = (decide (i < 255) && bitV p i) := by
  rw [vN_hs, hs_bit (by decide) 5 (fun i _ => numS_lt p 255 i)]
  by_cases h : i < 255
  · have e : (tN (numS p 255) (i / 51)).testBit (i % 51) = (numS p 255 (i / 51)).getLsbD (i % 51) := rfl
    rw [e, numS_bit p _ _ (by omega) 255, show 51 * (i / 51) + i % 51 = i by omega, decide_eq_true h]
    rfl
  · rw [decide_eq_false h]
    rfl
/-- The bytes of a number below 2^255. -/
theorem bytS_bit (n : N5) (j t : Nat) (ht : t < 8) : ∀ k, k ≤ 255 → (bytS n k j).getLsbD t = (decide (8 * j + t < k) && (n ((8 * j + t) / 51)).getLsbD ((8 * j + t) % 51))
  | 0, _ => by simp [bytS]
  | k + 1, hk => by
    have ih := bytS_bit n j t ht k (by omega)
    have eb : bitN n k = if (n (k / 51)).getLsbD (k % 51) then 1 else 0 := by
      unfold bitN
      apply BitVec.eq_of_getLsbD_eq
      intro q hq
      rw [BitVec.getLsbD_and]
      by_cases h : q = 0
      · subst h
        cases hb : (n (k / 51)).getLsbD (k % 51) <;> simp [hb]
      · have : (1 : BitVec 8).getLsbD q = false := by
          simp [h]
        rw [this]
        cases (n (k / 51)).getLsbD (k % 51) <;> simp [h]
    rw [bytS_s]
    by_cases c : j = k / 8
    · rw [if_pos c, BitVec.getLsbD_or, ih, eb, sh1_bit _ _ _ (by omega) ht]
      by_cases d : 8 * j + t = k
      · rw [d, decide_eq_true (show t = k % 8 by omega)]
        simp
      · rw [decide_eq_false (show ¬ t = k % 8 by omega)]
        by_cases e : 8 * j + t < k
        · rw [decide_eq_true e, decide_eq_true (show 8 * j + t < k + 1 by omega)]; simp
        · rw [decide_eq_false e, decide_eq_false (show ¬ 8 * j + t < k + 1 by omega)]; simp
    · rw [if_neg c, ih]
      by_cases e : 8 * j + t < k
      · rw [decide_eq_true e, decide_eq_true (show 8 * j + t < k + 1 by omega)]
      · rw [decide_eq_false e, decide_eq_false (show ¬ 8 * j + t < k + 1 by omega)]
end Go.Spec

namespace Go.Spec
open Go.Sym
theorem lim_bit (v i : Nat) (hi : i < 255) : (limL v (i / 51)).getLsbD (i % 51) = v.testBit i := by
  have key : ∀ j, j < 5 → (limL v j).toNat = v / 2 ^ (51 * j) % 2 ^ 51 := by
    intro j hj
    have h : ∀ q, q < 2 ^ 51 → (BitVec.ofNat 64 q).toNat = q := fun q hq => by rw [BitVec.toNat_ofNat]; omega
    match j, hj with
    | 0, _ => exact (h _ (Nat.mod_lt _ (by decide))).trans (by simp)
    | 1, _ => exact (h _ (Nat.mod_lt _ (by decide))).trans rfl
    | 2, _ => exact (h _ (Nat.mod_lt _ (by decide))).trans rfl
    | 3, _ => exact (h _ (Nat.mod_lt _ (by decide))).trans rfl
    | 4, _ => exact (h _ (Nat.mod_lt _ (by decide))).trans rfl
  have e : (limL v (i / 51)).getLsbD (i % 51) = (limL v (i / 51)).toNat.testBit (i % 51) := rfl
  rw [e, key (i / 51) (by omega), Nat.testBit_mod_two_pow, Nat.testBit_div_two_pow, decide_eq_true (show i % 51 < 51 by omega), show i % 51 + 51 * (i / 51) = i by omega]
  rfl
theorem claRL (s : F8) : claR s = claL s := by
  have k0 : ∀ a : Fin 256, (BitVec.ofFin a : BitVec 8) / BitVec.ofNat 8 8 * BitVec.ofNat 8 8 = (BitVec.ofFin a : BitVec 8) &&& BitVec.ofNat 8 248 := by decide +kernel
  have k1 : ∀ a : Fin 256, (BitVec.ofFin a : BitVec 8) % BitVec.ofNat 8 64 + BitVec.ofNat 8 64 = (BitVec.ofFin a : BitVec 8) &&& BitVec.ofNat 8 127 ||| BitVec.ofNat 8 64 := by decide +kernel
  funext i
  unfold claR claL
  rw [show s 0 / BitVec.ofNat 8 8 * BitVec.ofNat 8 8 = s 0 &&& BitVec.ofNat 8 248 from k0 (s 0).toFin, show s 31 % BitVec.ofNat 8 64 + BitVec.ofNat 8 64 = s 31 &&& BitVec.ofNat 8 127 ||| BitVec.ofNat 8 64 from k1 (s 31).toFin]
theorem bitRV (s : F8) (i : Nat) : bitR s i = bitV s i := by
  have key : ∀ a : Fin 256, ∀ k : Fin 8, decide ((BitVec.ofFin a : BitVec 8) >>> k.val &&& BitVec.ofNat 8 1 = BitVec.ofNat 8 1) = (BitVec.ofFin a : BitVec 8).getLsbD k.val := by decide +kernel
  exact key (s (i / 8)).toFin ⟨i % 8, Nat.mod_lt _ (by decide)⟩
/-- The places of a point. -/
def unB (p : F8) (i : Nat) : Nat := if i = 31 then (p 31).toNat % 128 else (p i).toNat
theorem unp_at (p : F8) (i : Nat) (hi : i < 16) : unpR p i = (unB p (2 * i) : Int) + 256 * (unB p (2 * i + 1) : Int) := by
  have hb : ∀ j, (p j).toNat < 256 := fun j => (p j).isLt
  unfold unpR unB
  by_cases h : i = 15
  · subst h
    have h0 := hb 30
    have h1 := hb 31
    rw [if_pos rfl, if_neg (by omega), if_pos (by omega), w64_id (x := (((p 31).toNat : Int) * 256)) (by omega) (by omega), w64_id (by omega) (by omega)]
    rw [Int.tmod_eq_emod_of_nonneg (by omega)]
    have e : 2 * 15 = 30 := rfl
    rw [e]
    omega
  · have h0 := hb (2 * i)
    have h1 := hb (2 * i + 1)
    rw [if_neg h, if_neg (by omega), if_neg (by omega), w64_id (x := (((p (2 * i + 1)).toNat : Int) * 256)) (by omega) (by omega), w64_id (by omega) (by omega)]
    omega
theorem unB_lt (p : F8) (i : Nat) : unB p i < 2 ^ 8 := by
  unfold unB
  split
  · omega
  · exact (p i).isLt
theorem unB_bit (p : F8) (i : Nat) : (hs 8 (unB p) 32).testBit i = (decide (i < 255) && bitV p i) := by
  rw [hs_bit (by decide) 32 (fun i _ => unB_lt p i)]
  unfold unB bitV
  by_cases h : i < 255
  · rw [decide_eq_true h, decide_eq_true (show i < 8 * 32 by omega)]
    by_cases e : i / 8 = 31
    · rw [if_pos e, e, show 128 = 2 ^ 7 from rfl, Nat.testBit_mod_two_pow, decide_eq_true (show i % 8 < 7 by omega)]
      rfl
    · rw [if_neg e]
      rfl
  · rw [decide_eq_false h]
    by_cases c : i < 8 * 32
    · rw [decide_eq_true c]
      obtain rfl : i = 255 := by omega
      rw [if_pos (by omega), show 128 = 2 ^ 7 from rfl, Nat.testBit_mod_two_pow, decide_eq_false (by omega)]
      rfl
    · rw [decide_eq_false c]
      rfl
theorem num_is (p : F8) : vN (numS p 255) = hs 8 (unB p) 32 := Nat.eq_of_testBit_eq fun i => by rw [vN_bit, unB_bit]
set_option maxRecDepth 100000 in
theorem unp_V (p : F8) : VI (unpR p) = ((hs 8 (unB p) 32 : Nat) : Int) := by
  unfold VI
  rw [unp_at p 0 (by omega), unp_at p 1 (by omega), unp_at p 2 (by omega), unp_at p 3 (by omega), unp_at p 4 (by omega), unp_at p 5 (by omega), unp_at p 6 (by omega), unp_at p 7 (by omega), unp_at p 8 (by omega), unp_at p 9 (by omega), unp_at p 10 (by omega), unp_at p 11 (by omega), unp_at p 12 (by omega), unp_at p 13 (by omega), unp_at p 14 (by omega), unp_at p 15 (by omega)]
  simp only [hs, Nat.reduceMul, Nat.reducePow, Nat.reduceAdd, Nat.zero_add]
  omega
theorem unp_R (p : F8) : Rz (unpR p) (vN (numS p 255) % PZ) := by
  have hb : ∀ j, unB p j < 256 := unB_lt p
  refine ⟨?_, fun i _ hi => ?_, ?_⟩
  · rw [unp_at p 0 (by omega)]
    have := hb (2 * 0)
    have := hb (2 * 0 + 1)
    omega
  · rw [unp_at p i hi]
    have := hb (2 * i)
    have := hb (2 * i + 1)
    omega
  · rw [unp_V, num_is]
    unfold PZ
    omega
theorem num_R (p : F8) : Rp (numS p 255) (vN (numS p 255) % PZ) := by
  have h := fun j => numS_lt p 255 j
  have e : 2 ^ 51 = 2251799813685248 := rfl
  simp only [e] at h
  exact ⟨⟨Nat.lt_of_lt_of_le (h 0) (by decide), h 1, h 2, h 3, h 4⟩, rfl⟩
end Go.Spec

namespace Go.Spec
open Go.Sym
def Lim (t : I16) : Prop := ∀ i, i < 16 → 0 ≤ t i ∧ t i ≤ 65535
theorem car_3 {x : I16} {v : Nat} (h : Rz x v) : Lim (carR x) ∧ VI (carR x) % 57896044618658097711785492504343953926634992332820282019728792003956564819949 = (v : Int) := by
  have hb : ∀ i, i < 16 → -11000000000000 ≤ x i ∧ x i ≤ 11000000000000 := fun i hi => by have := h.w.b i hi; omega
  have hb2 : ∀ i, i < 16 → -1152921504606846976 ≤ x i ∧ x i ≤ 1152921504606846976 := fun i hi => by have := hb i hi; omega
  obtain ⟨c0, cs, _⟩ := cu_val x hb2
  obtain ⟨_, r1, r2⟩ := car_1 hb
  refine ⟨fun i hi => ?_, r2.trans h.v⟩
  by_cases e : i = 0
  · subst e
    rw [carR_0 x hb2]
    have h0 := h.l0
    have key : ∀ i, i < 16 → (0 ≤ cuR x i ∧ cuR x i ≤ 131072 + 38) ∧ (0 ≤ x 0 → 65536 ≤ cuR x i) ∧ (x 0 ≤ 65535 → cuR x i ≤ 131071) := by
      intro i
      induction i with
      | zero => intro _; rw [c0]; omega
      | succ i ih =>
        intro hi
        have := ih (by omega)
        have := h.li (i + 1) (by omega) hi
        rw [cs i (by omega)]
        omega
    have := key 15 (by omega)
    rw [c0]
    omega
  · exact r1 i (by omega) hi
theorem car_4 {x : I16} (h : Lim x) (i : Nat) (hi : i < 16) : carR x i = x i := by
  have hb2 : ∀ i, i < 16 → -1152921504606846976 ≤ x i ∧ x i ≤ 1152921504606846976 := fun i hi => by have := h i hi; omega
  obtain ⟨c0, cs, _⟩ := cu_val x hb2
  have key : ∀ i, i < 16 → cuR x i = x i + 65536 := by
    intro i
    induction i with
    | zero => intro _; exact c0
    | succ i ih =>
      intro hi
      have := ih (by omega)
      have := h i (by omega)
      rw [cs i (by omega)]
      omega
  by_cases e : i = 0
  · subst e
    have a := key 15 (by omega)
    have b := h 15 (by omega)
    have c := h 0 (by omega)
    rw [carR_0 x hb2, a, c0]
    omega
  · have b := h i hi
    rw [carR_i x hb2 i (by omega) hi, key i hi]
    omega
theorem brw_val {m : Int} (h1 : -65536 ≤ m) (h2 : m ≤ 65535) : brw m = if m < 0 then 1 else 0 := by
  unfold brw
  rw [fd16]
  by_cases h : m < 0
  · rw [if_pos h, show m / 65536 = -1 by omega]
    decide
  · rw [if_neg h, show m / 65536 = 0 by omega]
    decide
theorem low_val16 {m : Int} (_ : -65536 ≤ m) (_ : m ≤ 65535) : low16 m = m % 65536 := by
  unfold low16
  have e : (BitVec.ofInt 64 m &&& BitVec.ofNat 64 65535).toNat = (BitVec.ofInt 64 m).toNat % 65536 := by
    rw [BitVec.toNat_and]
    exact Nat.and_two_pow_sub_one_eq_mod _ 16
  rw [e, BitVec.toNat_ofInt]
  rw [w64_id (by omega) (by omega)]
  omega
theorem mv_b {t : I16} (h : Lim t) : ∀ i, i < 16 → (-65536 ≤ mvR t i ∧ mvR t i ≤ 65535) ∧ (i + 1 < 16 → mvR t (i + 1) = t (i + 1) - (if i = 14 then 32767 else 65535) - brw (mvR t i))
  | i, hi => by
    have hb : -65536 ≤ mvR t i ∧ mvR t i ≤ 65535 := by
      cases i with
      | zero =>
        have := h 0 hi
        rw [mvR, w64_id (by omega) (by omega)]
        omega
      | succ i =>
        have p := mv_b h i (by omega)
        have q := h (i + 1) hi
        rw [p.2 hi, brw_val p.1.1 p.1.2]
        split <;> split <;> omega
    refine ⟨hb, fun h2 => ?_⟩
    have q := h (i + 1) h2
    have b := brw_val hb.1 hb.2
    have b2 : 0 ≤ brw (mvR t i) ∧ brw (mvR t i) ≤ 1 := by rw [b]; split <;> omega
    rw [mvR]
    rw [w64_id (x := t (i + 1) - (if i = 14 then 32767 else 65535)) (by split <;> omega) (by split <;> omega)]
    exact w64_id (by split <;> omega) (by split <;> omega)
theorem mv_s {t : I16} (h : Lim t) (i : Nat) (hi : i + 1 < 16) : mvR t (i + 1) = t (i + 1) - (if i = 14 then 32767 else 65535) - brw (mvR t i) := (mv_b h i (by omega)).2 hi
theorem mv_l {t : I16} (h : Lim t) (i : Nat) (hi : i < 15) : nxR t i = mvR t i + 65536 * brw (mvR t i) ∧ 0 ≤ nxR t i ∧ nxR t i ≤ 65535 := by
  have b := (mv_b h i (by omega)).1
  have e : nxR t i = low16 (mvR t i) := by unfold nxR; rw [if_neg (by omega)]
  rw [e, low_val16 b.1 b.2, brw_val b.1 b.2]
  split <;> omega
theorem mv_0 {t : I16} (h : Lim t) : mvR t 0 = t 0 - 65517 := by
  have := h 0 (by omega)
  rw [mvR, w64_id (by omega) (by omega)]
theorem bel_is {t : I16} (h : Lim t) : belR t = decide (mvR t 15 < 0) := by
  have b := (mv_b h 15 (by omega)).1
  unfold belR
  rw [brw_val b.1 b.2]
  by_cases c : mvR t 15 < 0
  · rw [if_pos c, decide_eq_true c]; rfl
  · rw [if_neg c, decide_eq_false c]; rfl
theorem nx_V {t : I16} (h : Lim t) : VI (nxR t) = VI t - 57896044618658097711785492504343953926634992332820282019728792003956564819949 := by
  have lo := fun i hi => (mv_l h i hi).1
  have e15 : nxR t 15 = mvR t 15 := rfl
  have m0 := mv_0 h
  have m1 := mv_s h 0 (by omega)
  have m2 := mv_s h 1 (by omega)
  have m3 := mv_s h 2 (by omega)
  have m4 := mv_s h 3 (by omega)
  have m5 := mv_s h 4 (by omega)
  have m6 := mv_s h 5 (by omega)
  have m7 := mv_s h 6 (by omega)
  have m8 := mv_s h 7 (by omega)
  have m9 := mv_s h 8 (by omega)
  have m10 := mv_s h 9 (by omega)
  have m11 := mv_s h 10 (by omega)
  have m12 := mv_s h 11 (by omega)
  have m13 := mv_s h 12 (by omega)
  have m14 := mv_s h 13 (by omega)
  have m15 := mv_s h 14 (by omega)
  simp only [Nat.reduceAdd, Nat.zero_add, Nat.reduceEqDiff, if_true, if_false] at m1 m2 m3 m4 m5 m6 m7 m8 m9 m10 m11 m12 m13 m14 m15
  unfold VI
  rw [lo 0 (by omega), lo 1 (by omega), lo 2 (by omega), lo 3 (by omega), lo 4 (by omega), lo 5 (by omega), lo 6 (by omega), lo 7 (by omega), lo 8 (by omega), lo 9 (by omega), lo 10 (by omega), lo 11 (by omega), lo 12 (by omega), lo 13 (by omega), lo 14 (by omega), e15]
  clear lo
  generalize brw (mvR t 0) = b0 at *
  generalize brw (mvR t 1) = b1 at *
  generalize brw (mvR t 2) = b2 at *
  generalize brw (mvR t 3) = b3 at *
  generalize brw (mvR t 4) = b4 at *
  generalize brw (mvR t 5) = b5 at *
  generalize brw (mvR t 6) = b6 at *
  generalize brw (mvR t 7) = b7 at *
  generalize brw (mvR t 8) = b8 at *
  generalize brw (mvR t 9) = b9 at *
  generalize brw (mvR t 10) = b10 at *
  generalize brw (mvR t 11) = b11 at *
  generalize brw (mvR t 12) = b12 at *
  generalize brw (mvR t 13) = b13 at *
  generalize brw (mvR t 14) = b14 at *
  generalize mvR t 0 = q0 at *
  generalize mvR t 1 = q1 at *
  generalize mvR t 2 = q2 at *
  generalize mvR t 3 = q3 at *
  generalize mvR t 4 = q4 at *
  generalize mvR t 5 = q5 at *
  generalize mvR t 6 = q6 at *
  generalize mvR t 7 = q7 at *
  generalize mvR t 8 = q8 at *
  generalize mvR t 9 = q9 at *
  generalize mvR t 10 = q10 at *
  generalize mvR t 11 = q11 at *
  generalize mvR t 12 = q12 at *
  generalize mvR t 13 = q13 at *
  generalize mvR t 14 = q14 at *
  generalize mvR t 15 = q15 at *
  omega
theorem nx_b {t : I16} (h : Lim t) : (VI t < 57896044618658097711785492504343953926634992332820282019728792003956564819949 → mvR t 15 < 0) ∧ (57896044618658097711785492504343953926634992332820282019728792003956564819949 ≤ VI t → Lim (nxR t) ∧ 0 ≤ mvR t 15) := by
  have v := nx_V h
  have lo := fun i hi => (mv_l h i hi).2
  have e15 : nxR t 15 = mvR t 15 := rfl
  have b15 := (mv_b h 15 (by omega)).1
  have a0 := lo 0 (by omega)
  have a1 := lo 1 (by omega)
  have a2 := lo 2 (by omega)
  have a3 := lo 3 (by omega)
  have a4 := lo 4 (by omega)
  have a5 := lo 5 (by omega)
  have a6 := lo 6 (by omega)
  have a7 := lo 7 (by omega)
  have a8 := lo 8 (by omega)
  have a9 := lo 9 (by omega)
  have a10 := lo 10 (by omega)
  have a11 := lo 11 (by omega)
  have a12 := lo 12 (by omega)
  have a13 := lo 13 (by omega)
  have a14 := lo 14 (by omega)
  have s : 57896044618658097711785492504343953926634992332820282019728792003956564819949 ≤ VI t → 0 ≤ mvR t 15 := by
    intro hl
    have v : 0 ≤ VI (nxR t) := by omega
    unfold VI at v
    rw [e15] at v
    omega
  refine ⟨?_, fun hl => ⟨fun i hi => ?_, s hl⟩⟩
  · intro hl
    have v : VI (nxR t) < 0 := by omega
    unfold VI at v
    rw [e15] at v
    omega
  · by_cases e : i = 15
    · subst e
      have := s hl
      rw [e15]
      omega
    · exact lo i (by omega)
theorem Lim_V {t : I16} (h : Lim t) : 0 ≤ VI t ∧ VI t < 57896044618658097711785492504343953926634992332820282019728792003956564819949 + 57896044618658097711785492504343953926634992332820282019728792003956564819949 + 38 := by
  have a0 := h 0 (by omega)
  have a1 := h 1 (by omega)
  have a2 := h 2 (by omega)
  have a3 := h 3 (by omega)
  have a4 := h 4 (by omega)
  have a5 := h 5 (by omega)
  have a6 := h 6 (by omega)
  have a7 := h 7 (by omega)
  have a8 := h 8 (by omega)
  have a9 := h 9 (by omega)
  have a10 := h 10 (by omega)
  have a11 := h 11 (by omega)
  have a12 := h 12 (by omega)
  have a13 := h 13 (by omega)
  have a14 := h 14 (by omega)
  have a15 := h 15 (by omega)
  unfold VI
  omega
/-- One of the two rounds. -/
theorem pk_s {x : I16} (r : Nat) (h : Lim (pkT x r)) : Lim (pkT x (r + 1)) ∧ VI (pkT x (r + 1)) = if VI (pkT x r) < 57896044618658097711785492504343953926634992332820282019728792003956564819949 then VI (pkT x r) else VI (pkT x r) - 57896044618658097711785492504343953926634992332820282019728792003956564819949 := by
  rw [pkT]
  have b := bel_is h
  obtain ⟨n1, n2⟩ := nx_b h
  by_cases c : VI (pkT x r) < 57896044618658097711785492504343953926634992332820282019728792003956564819949
  · rw [if_pos (by rw [b]; exact decide_eq_true (n1 c)), if_pos c]
    exact ⟨h, rfl⟩
  · have := n2 (by omega)
    rw [if_neg (by rw [b, decide_eq_true_eq]; omega), if_neg c]
    exact ⟨this.1, nx_V h⟩
theorem Lim_congr {a b : I16} (h : ∀ i, i < 16 → a i = b i) (l : Lim a) : Lim b := fun i hi => by rw [← h i hi]; exact l i hi
theorem pk_val {x : I16} {v : Nat} (h : Rz x v) : Lim (pkT x 2) ∧ VI (pkT x 2) = (v : Int) := by
  obtain ⟨l, e⟩ := car_3 h.re
  have e1 : ∀ i, i < 16 → re16 (carR (re16 x)) i = carR (re16 x) i := fun i hi => re16_at _ i hi
  have l1 : Lim (re16 (carR (re16 x))) := Lim_congr (fun i hi => (e1 i hi).symm) l
  have e2 : ∀ i, i < 16 → carR (re16 (carR (re16 x))) i = carR (re16 x) i := fun i hi => (car_4 l1 i hi).trans (e1 i hi)
  have l2 := Lim_congr (fun i hi => (e2 i hi).symm) l
  have e3 : ∀ i, i < 16 → re16 (carR (re16 (carR (re16 x)))) i = carR (re16 x) i := fun i hi => (re16_at _ i hi).trans (e2 i hi)
  have l3 := Lim_congr (fun i hi => (e3 i hi).symm) l
  have e4 : ∀ i, i < 16 → pkT x 0 i = carR (re16 x) i := fun i hi => (car_4 l3 i hi).trans (e3 i hi)
  have l4 := Lim_congr (fun i hi => (e4 i hi).symm) l
  have v4 := VI_congr e4
  obtain ⟨la, va⟩ := pk_s 0 l4
  obtain ⟨lb, vb⟩ := pk_s 1 la
  have w := Lim_V l4
  refine ⟨lb, ?_⟩
  rw [vb, va]
  rw [← v4] at e
  generalize VI (pkT x 0) = q at *
  split <;> split at * <;> omega
theorem t_hs {t : I16} (h : Lim t) {v : Nat} (e : VI t = (v : Int)) : v = hs 16 (fun i => (t i).toNat) 16 := by
  unfold VI at e
  have n0 : t 0 = (((t 0).toNat : Nat) : Int) := (Int.toNat_of_nonneg (h 0 (by omega)).1).symm
  have n1 : t 1 = (((t 1).toNat : Nat) : Int) := (Int.toNat_of_nonneg (h 1 (by omega)).1).symm
  have n2 : t 2 = (((t 2).toNat : Nat) : Int) := (Int.toNat_of_nonneg (h 2 (by omega)).1).symm
  have n3 : t 3 = (((t 3).toNat : Nat) : Int) := (Int.toNat_of_nonneg (h 3 (by omega)).1).symm
  have n4 : t 4 = (((t 4).toNat : Nat) : Int) := (Int.toNat_of_nonneg (h 4 (by omega)).1).symm
  have n5 : t 5 = (((t 5).toNat : Nat) : Int) := (Int.toNat_of_nonneg (h 5 (by omega)).1).symm
  have n6 : t 6 = (((t 6).toNat : Nat) : Int) := (Int.toNat_of_nonneg (h 6 (by omega)).1).symm
  have n7 : t 7 = (((t 7).toNat : Nat) : Int) := (Int.toNat_of_nonneg (h 7 (by omega)).1).symm
  have n8 : t 8 = (((t 8).toNat : Nat) : Int) := (Int.toNat_of_nonneg (h 8 (by omega)).1).symm
  have n9 : t 9 = (((t 9).toNat : Nat) : Int) := (Int.toNat_of_nonneg (h 9 (by omega)).1).symm
  have n10 : t 10 = (((t 10).toNat : Nat) : Int) := (Int.toNat_of_nonneg (h 10 (by omega)).1).symm
  have n11 : t 11 = (((t 11).toNat : Nat) : Int) := (Int.toNat_of_nonneg (h 11 (by omega)).1).symm
  have n12 : t 12 = (((t 12).toNat : Nat) : Int) := (Int.toNat_of_nonneg (h 12 (by omega)).1).symm
  have n13 : t 13 = (((t 13).toNat : Nat) : Int) := (Int.toNat_of_nonneg (h 13 (by omega)).1).symm
  have n14 : t 14 = (((t 14).toNat : Nat) : Int) := (Int.toNat_of_nonneg (h 14 (by omega)).1).symm
  have n15 : t 15 = (((t 15).toNat : Nat) : Int) := (Int.toNat_of_nonneg (h 15 (by omega)).1).symm
  rw [n0, n1, n2, n3, n4, n5, n6, n7, n8, n9, n10, n11, n12, n13, n14, n15] at e
  simp only [hs, Nat.reduceMul, Nat.reducePow]
  clear n0 n1 n2 n3 n4 n5 n6 n7 n8 n9 n10 n11 n12 n13 n14 n15 h
  generalize (t 0).toNat = k0 at *
  generalize (t 1).toNat = k1 at *
  generalize (t 2).toNat = k2 at *
  generalize (t 3).toNat = k3 at *
  generalize (t 4).toNat = k4 at *
  generalize (t 5).toNat = k5 at *
  generalize (t 6).toNat = k6 at *
  generalize (t 7).toNat = k7 at *
  generalize (t 8).toNat = k8 at *
  generalize (t 9).toNat = k9 at *
  generalize (t 10).toNat = k10 at *
  generalize (t 11).toNat = k11 at *
  generalize (t 12).toNat = k12 at *
  generalize (t 13).toNat = k13 at *
  generalize (t 14).toNat = k14 at *
  generalize (t 15).toNat = k15 at *
  omega
theorem pk_byte {t : I16} (h : Lim t) {v : Nat} (e : VI t = (v : Int)) (hv : v < PZ) (j : Nat) (hj : j < 32) : pkB t j = bytS (limL v) 255 j := by
  have hl : ∀ i, i < 16 → (t i).toNat < 2 ^ 16 := fun i hi => by have := h i hi; omega
  have hn : ∀ i, i < 16 → t i = (((t i).toNat : Nat) : Int) := fun i hi => by have := h i hi; omega
  have tb := t_hs h e
  have hi : ∀ s, s < 8 → v.testBit (8 * j + s) = (t (j / 2)).toNat.testBit (8 * (j % 2) + s) := fun s hs => by
    rw [tb, hs_bit (by decide) 16 hl, decide_eq_true (by omega), show (8 * j + s) / 16 = j / 2 by omega, show (8 * j + s) % 16 = 8 * (j % 2) + s by omega]
    rfl
  apply BitVec.eq_of_getLsbD_eq
  intro s hs
  have rhs : (bytS (limL v) 255 j).getLsbD s = v.testBit (8 * j + s) := by
    rw [bytS_bit (limL v) j s hs 255 (Nat.le_refl _)]
    by_cases c : 8 * j + s < 255
    · rw [decide_eq_true c, lim_bit v _ c]
      rfl
    · rw [decide_eq_false c]
      refine ((Nat.testBit_lt_two_pow (Nat.lt_of_lt_of_le hv ?_)).trans (by rfl)).symm
      obtain e : 8 * j + s = 255 := by omega
      rw [e]
      decide
  rw [rhs, hi s hs]
  unfold pkB
  rw [hn (j / 2) (by omega)]
  generalize (t (j / 2)).toNat = n
  by_cases c : j % 2 = 0
  · rw [if_pos c, c, BitVec.ofInt_natCast, BitVec.getLsbD_ofNat, decide_eq_true hs]
    simp
  · have c1 : j % 2 = 1 := by omega
    have f : ((n : Nat) : Int).fdiv (Int.ofNat 256) = ((n / 256 : Nat) : Int) := by rw [Int.fdiv_eq_ediv_of_nonneg _ (by decide)]; rfl
    rw [if_neg c, c1, f, BitVec.ofInt_natCast, BitVec.getLsbD_ofNat, decide_eq_true hs, show 256 = 2 ^ 8 from rfl, Nat.testBit_div_two_pow]
    simp [Nat.add_comm]
end Go.Spec
