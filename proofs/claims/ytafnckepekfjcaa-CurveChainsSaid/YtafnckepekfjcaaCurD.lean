/- The same by numbers: sums, products, the least one, the ladder. -/
import Derived.Test.YtafnckepekfjcaaCurA
import Derived.Test.YtafnckepekfjcaaCurC
namespace Go.Spec
open Go.Sym
/-- A number in five limbs stands for v, modulo p. -/
def Rp (a : N5) (v : Nat) : Prop := okN a ∧ vN a % PZ = v
theorem tN_re5 (f : N5) : tN (re5 f) 0 = tN f 0 ∧ tN (re5 f) 1 = tN f 1 ∧ tN (re5 f) 2 = tN f 2 ∧ tN (re5 f) 3 = tN f 3 ∧ tN (re5 f) 4 = tN f 4 := ⟨rfl, rfl, rfl, rfl, rfl⟩
theorem vN_re5 (f : N5) : vN (re5 f) = vN f := rfl
theorem Rp_re5 {a : N5} {v : Nat} (h : Rp a v) : Rp (re5 a) v := ⟨⟨h.1.h0, h.1.h1, h.1.h2, h.1.h3, h.1.h4⟩, h.2⟩
/-- What carries make of limbs that aren't too great. -/
theorem car_R (f : N5) (m : Nat) (hm : m ≤ 7881299347898368) (h0 : tN f 0 < m) (h1 : tN f 1 < m) (h2 : tN f 2 < m) (h3 : tN f 3 < m) (h4 : tN f 4 < m) : okN (carL (re5 f)) ∧ ∃ c, vN (carL (re5 f)) + PZ * c = vN f := by
  obtain ⟨c, c1, c2, c3, c4, c5, c6, c7, c8⟩ := carL_val (re5 f) m (by omega) h0 h1 h2 h3 h4
  have : c ≤ 3 := by omega
  exact ⟨⟨by omega, c5, c6, c7, c8⟩, c, c2⟩
theorem mod_c {a b c : Nat} (h : a + PZ * c = b) : a % PZ = b % PZ := by
  rw [← h, Nat.add_mul_mod_self_left]
theorem add_toNat {x y : B64} (h : x.toNat + y.toNat < 18446744073709551616) : (x + y).toNat = x.toNat + y.toNat := by
  rw [BitVec.toNat_add]; omega
theorem pls_R {a b : N5} {v w : Nat} (ha : Rp a v) (hb : Rp b w) : Rp (plsL a b) ((v + w) % PZ) := by
  obtain ⟨⟨a0, a1, a2, a3, a4⟩, ea⟩ := ha
  obtain ⟨⟨b0, b1, b2, b3, b4⟩, eb⟩ := hb
  have s : ∀ i, tN a i < 2251799813685312 → tN b i < 2251799813685312 → tN (fun i => a i + b i) i = tN a i + tN b i := fun i h1 h2 => add_toNat (by unfold tN at h1 h2; omega)
  have s0 := s 0 (by omega) (by omega)
  have s1 := s 1 (by omega) (by omega)
  have s2 := s 2 (by omega) (by omega)
  have s3 := s 3 (by omega) (by omega)
  have s4 := s 4 (by omega) (by omega)
  obtain ⟨k1, c, k2⟩ := car_R (fun i => a i + b i) 4503599627370624 (by omega) (by omega) (by omega) (by omega) (by omega) (by omega)
  have e : vN (fun i => a i + b i) = vN a + vN b := by
    unfold vN limb
    rw [s0, s1, s2, s3, s4]
    omega
  refine ⟨k1, ?_⟩
  show vN (carL (re5 fun i => a i + b i)) % PZ = _
  rw [mod_c k2, e, Nat.add_mod, ea, eb]
theorem mns_R {a b : N5} {v w : Nat} (ha : Rp a v) (hb : Rp b w) : Rp (mnsL a b) ((v + (PZ - w)) % PZ) := by
  obtain ⟨⟨a0, a1, a2, a3, a4⟩, ea⟩ := ha
  obtain ⟨⟨b0, b1, b2, b3, b4⟩, eb⟩ := hb
  have hw : w < PZ := by rw [← eb]; exact Nat.mod_lt _ (by decide)
  have q : ∀ (x y : B64) (c : B64), y.toNat ≤ c.toNat → x.toNat + c.toNat < 18446744073709551616 → (x + (c - y)).toNat = x.toNat + (c.toNat - y.toNat) := by
    intro x y c h1 h2
    have hc := c.isLt
    have : (c - y).toNat = c.toNat - y.toNat := by rw [BitVec.toNat_sub]; omega
    rw [BitVec.toNat_add, this]; omega
  have z0 : (4503599627370458#64).toNat = 4503599627370458 := rfl
  have z1 : (4503599627370494#64).toNat = 4503599627370494 := rfl
  unfold tN at *
  have s0 : (mnO a b 0).toNat = (a 0).toNat + (4503599627370458 - (b 0).toNat) := q (a 0) (b 0) 4503599627370458#64 (by omega) (by omega)
  have s1 : (mnO a b 1).toNat = (a 1).toNat + (4503599627370494 - (b 1).toNat) := q (a 1) (b 1) 4503599627370494#64 (by omega) (by omega)
  have s2 : (mnO a b 2).toNat = (a 2).toNat + (4503599627370494 - (b 2).toNat) := q (a 2) (b 2) 4503599627370494#64 (by omega) (by omega)
  have s3 : (mnO a b 3).toNat = (a 3).toNat + (4503599627370494 - (b 3).toNat) := q (a 3) (b 3) 4503599627370494#64 (by omega) (by omega)
  have s4 : (mnO a b 4).toNat = (a 4).toNat + (4503599627370494 - (b 4).toNat) := q (a 4) (b 4) 4503599627370494#64 (by omega) (by omega)
  obtain ⟨k1, c, k2⟩ := car_R (mnO a b) 6755399441055808 (by omega) (by unfold tN; omega) (by unfold tN; omega) (by unfold tN; omega) (by unfold tN; omega) (by unfold tN; omega)
  have e : vN (mnO a b) + vN b = vN a + PZ * 2 := by
    unfold vN limb tN PZ
    rw [s0, s1, s2, s3, s4]
    omega
  refine ⟨k1, ?_⟩
  show vN (carL (re5 (mnO a b))) % PZ = _
  rw [mod_c k2]
  have m1 := Nat.div_add_mod (vN b) PZ
  have m2 := Nat.div_add_mod (vN a) PZ
  rw [eb] at m1
  rw [ea] at m2
  have f : vN (mnO a b) + PZ * (vN b / PZ + 1) = (v + (PZ - w)) + PZ * (vN a / PZ + 2) := by
    rw [Nat.mul_add, Nat.mul_add]
    omega
  have g := congrArg (· % PZ) f
  simp only [Nat.add_mul_mod_self_left] at g
  exact g
end Go.Spec

namespace Go.Spec
open Go.Sym
def sN (s : B64 × B64) : Nat := s.1.toNat * 18446744073709551616 + s.2.toNat
theorem mac_sN (s : B64 × B64) (x y : B64) (h : sN s + x.toNat * y.toNat < 340282366920938463463374607431768211456) : sN (mac s x y) = sN s + x.toNat * y.toNat := mac_val s x y h
theorem row_val (x y : N5) (k : Nat) (s : B64 × B64) (A : Nat) (hA : A = 5070602400912918000000000000000000 )
    (h0 : (x 0).toNat * (foldT y (5 + k)).toNat ≤ A) (h1 : (x 1).toNat * (foldT y (4 + k)).toNat ≤ A) (h2 : (x 2).toNat * (foldT y (3 + k)).toNat ≤ A) (h3 : (x 3).toNat * (foldT y (2 + k)).toNat ≤ A) (h4 : (x 4).toNat * (foldT y (1 + k)).toNat ≤ A) (hs : sN s < 18446744073709551616) :
    sN (rowT x y k s) = sN s + (x 0).toNat * (foldT y (5 + k)).toNat + (x 1).toNat * (foldT y (4 + k)).toNat + (x 2).toNat * (foldT y (3 + k)).toNat + (x 3).toNat * (foldT y (2 + k)).toNat + (x 4).toNat * (foldT y (1 + k)).toNat := by
  unfold rowT
  have e0 := mac_sN s (x 0) (foldT y (5 + k)) (by omega)
  have e1 := mac_sN (mac s (x 0) (foldT y (5 + k))) (x 1) (foldT y (4 + k)) (by omega)
  have e2 := mac_sN (mac (mac s (x 0) (foldT y (5 + k))) (x 1) (foldT y (4 + k))) (x 2) (foldT y (3 + k)) (by omega)
  have e3 := mac_sN (mac (mac (mac s (x 0) (foldT y (5 + k))) (x 1) (foldT y (4 + k))) (x 2) (foldT y (3 + k))) (x 3) (foldT y (2 + k)) (by omega)
  have e4 := mac_sN (mac (mac (mac (mac s (x 0) (foldT y (5 + k))) (x 1) (foldT y (4 + k))) (x 2) (foldT y (3 + k))) (x 3) (foldT y (2 + k))) (x 4) (foldT y (1 + k)) (by omega)
  rw [e4, e3, e2, e1, e0]
theorem more_val (s : B64 × B64) (h : s.1.toNat < 2251799813685248) : (moreT s).toNat = sN s / 2251799813685248 := by
  unfold moreT sN
  have h1 : (s.1 <<< 13).toNat = s.1.toNat <<< 13 := by
    rw [BitVec.toNat_shiftLeft, Nat.shiftLeft_eq]
    omega
  have h2 := shr51 s.2
  have l2 := s.2.isLt
  rw [BitVec.toNat_or, h1, h2]
  have := Nat.shiftLeft_add_eq_or_of_lt (i := 13) (b := s.2.toNat / 2251799813685248) (by omega) s.1.toNat
  rw [← this, Nat.shiftLeft_eq]
  omega
theorem low_val (s : B64 × B64) : (s.2 &&& msk).toNat = sN s % 2251799813685248 := by
  rw [msk_and]
  unfold sN
  omega
theorem fold_lo (y : N5) (i : Nat) (h : i < 5) (hy : (y i).toNat < 2251799813685312) : (foldT y i).toNat = 19 * (y i).toNat := by
  unfold foldT
  rw [if_pos h, BitVec.toNat_mul]
  have : (19#64).toNat = 19 := rfl
  rw [this]
  omega
theorem fold_hi (y : N5) (i : Nat) : (foldT y (5 + i)).toNat = (y i).toNat := by
  unfold foldT
  rw [if_neg (by omega), Nat.add_sub_cancel_left]
end Go.Spec

namespace Go.Spec
open Go.Sym
theorem car_full (x : N5) (h0 : tN x 0 < 9223372036854775808) (h1 : tN x 1 < 9223372036854775808) (h2 : tN x 2 < 9223372036854775808) (h3 : tN x 3 < 9223372036854775808) (h4 : tN x 4 < 9223372036854775808) :
    ∃ c0 c1 c2 c3 c, c0 = tN x 0 / 2251799813685248 ∧ c1 = (tN x 1 + c0) / 2251799813685248 ∧ c2 = (tN x 2 + c1) / 2251799813685248 ∧ c3 = (tN x 3 + c2) / 2251799813685248 ∧ c = (tN x 4 + c3) / 2251799813685248 ∧ vN (carL x) + PZ * c = vN x ∧
      tN (carL x) 0 = tN x 0 % 2251799813685248 + 19 * c ∧ tN (carL x) 1 = (tN x 1 + c0) % 2251799813685248 ∧ tN (carL x) 2 = (tN x 2 + c1) % 2251799813685248 ∧ tN (carL x) 3 = (tN x 3 + c2) % 2251799813685248 ∧ tN (carL x) 4 = (tN x 4 + c3) % 2251799813685248 := by
  unfold tN at *
  have o0 : (carO x 0).toNat = 0 := rfl
  have s0 : (x 0 + carO x 0).toNat = (x 0).toNat := by rw [BitVec.toNat_add, o0]; omega
  have o1 : (carO x 1).toNat = (x 0).toNat / 2251799813685248 := by show ((x 0 + carO x 0) >>> 51).toNat = _; rw [shr51, s0]
  have s1 : (x 1 + carO x 1).toNat = (x 1).toNat + (carO x 1).toNat := by rw [BitVec.toNat_add, o1]; omega
  have o2 : (carO x 2).toNat = ((x 1).toNat + (carO x 1).toNat) / 2251799813685248 := by show ((x 1 + carO x 1) >>> 51).toNat = _; rw [shr51, s1]
  have s2 : (x 2 + carO x 2).toNat = (x 2).toNat + (carO x 2).toNat := by rw [BitVec.toNat_add, o2, o1]; omega
  have o3 : (carO x 3).toNat = ((x 2).toNat + (carO x 2).toNat) / 2251799813685248 := by show ((x 2 + carO x 2) >>> 51).toNat = _; rw [shr51, s2]
  have s3 : (x 3 + carO x 3).toNat = (x 3).toNat + (carO x 3).toNat := by rw [BitVec.toNat_add, o3, o2, o1]; omega
  have o4 : (carO x 4).toNat = ((x 3).toNat + (carO x 3).toNat) / 2251799813685248 := by show ((x 3 + carO x 3) >>> 51).toNat = _; rw [shr51, s3]
  have s4 : (x 4 + carO x 4).toNat = (x 4).toNat + (carO x 4).toNat := by rw [BitVec.toNat_add, o4, o3, o2, o1]; omega
  have o5 : (carO x 5).toNat = ((x 4).toNat + (carO x 4).toNat) / 2251799813685248 := by show ((x 4 + carO x 4) >>> 51).toNat = _; rw [shr51, s4]
  have b1 : (carO x 1).toNat ≤ 4096 := by rw [o1]; omega
  have b2 : (carO x 2).toNat ≤ 4097 := by rw [o2]; omega
  have b3 : (carO x 3).toNat ≤ 4097 := by rw [o3]; omega
  have b4 : (carO x 4).toNat ≤ 4097 := by rw [o4]; omega
  have b5 : (carO x 5).toNat ≤ 4097 := by rw [o5]; omega
  have e0 : (carL x 0).toNat = (x 0).toNat % 2251799813685248 + 19 * (carO x 5).toNat := by
    show (((x 0 + carO x 0) &&& msk) + 19#64 * carO x 5).toNat = _
    rw [BitVec.toNat_add, BitVec.toNat_mul, msk_and, s0]
    have : (19#64).toNat = 19 := rfl
    rw [this]
    omega
  have e1 : (carL x 1).toNat = ((x 1).toNat + (carO x 1).toNat) % 2251799813685248 := by show ((x 1 + carO x 1) &&& msk).toNat = _; rw [msk_and, s1]
  have e2 : (carL x 2).toNat = ((x 2).toNat + (carO x 2).toNat) % 2251799813685248 := by show ((x 2 + carO x 2) &&& msk).toNat = _; rw [msk_and, s2]
  have e3 : (carL x 3).toNat = ((x 3).toNat + (carO x 3).toNat) % 2251799813685248 := by show ((x 3 + carO x 3) &&& msk).toNat = _; rw [msk_and, s3]
  have e4 : (carL x 4).toNat = ((x 4).toNat + (carO x 4).toNat) % 2251799813685248 := by show ((x 4 + carO x 4) &&& msk).toNat = _; rw [msk_and, s4]
  refine ⟨_, _, _, _, _, o1, o2, o3, o4, o5, ?_, e0, e1, e2, e3, e4⟩
  unfold vN tN
  rw [e0, e1, e2, e3, e4]
  exact car_nat _ _ _ _ _ _ _ _ _ _ o1 o2 o3 o4 o5
/-- Five sums of products, each with what the one ahead left. -/
theorem cols (T0 T1 T2 T3 T4 m1 m2 m3 m4 m5 : Nat) (e1 : m1 = T0 / 2251799813685248) (e2 : m2 = (T1 + m1) / 2251799813685248) (e3 : m3 = (T2 + m2) / 2251799813685248) (e4 : m4 = (T3 + m3) / 2251799813685248) (e5 : m5 = (T4 + m4) / 2251799813685248) :
    limb (T0 % 2251799813685248 + 19 * m5) ((T1 + m1) % 2251799813685248) ((T2 + m2) % 2251799813685248) ((T3 + m3) % 2251799813685248) ((T4 + m4) % 2251799813685248) + PZ * m5 = limb T0 T1 T2 T3 T4 := car_nat _ _ _ _ _ _ _ _ _ _ e1 e2 e3 e4 e5
theorem sN_0 (m : B64) : sN ((0, m) : B64 × B64) = m.toNat := by
  show 0 * 18446744073709551616 + m.toNat = m.toNat
  omega
set_option maxHeartbeats 4000000 in
theorem tim_R {x y : N5} {v w : Nat} (hx : Rp x v) (hy : Rp y w) : Rp (timesL x y) (v * w % PZ) := by
  obtain ⟨⟨x0, x1, x2, x3, x4⟩, ex⟩ := hx
  obtain ⟨⟨y0, y1, y2, y3, y4⟩, ey⟩ := hy
  have hlim := limb_mul (tN x 0) (tN x 1) (tN x 2) (tN x 3) (tN x 4) (tN y 0) (tN y 1) (tN y 2) (tN y 3) (tN y 4)
  have ev : vN x * vN y = limb (tN x 0) (tN x 1) (tN x 2) (tN x 3) (tN x 4) * limb (tN y 0) (tN y 1) (tN y 2) (tN y 3) (tN y 4) := rfl
  have P : ∀ i j, tN x i ≤ 2251799813685311 → tN y j ≤ 2251799813685311 → tN x i * tN y j ≤ 5070602400913201332763337166721 := fun i j h1 h2 => Nat.mul_le_mul h1 h2
  have lo : ∀ i, i < 5 → tN y i < 2251799813685312 → (foldT y i).toNat = 19 * tN y i := fun i h1 h2 => fold_lo y i h1 h2
  have hi : ∀ i, (foldT y (5 + i)).toNat = tN y i := fun i => fold_hi y i
  have g1 := lo 1 (by omega) (by omega)
  have g2 := lo 2 (by omega) (by omega)
  have g3 := lo 3 (by omega) (by omega)
  have g4 := lo 4 (by omega) (by omega)
  have k0 : (foldT y 5).toNat = tN y 0 := hi 0
  have k1 : (foldT y 6).toNat = tN y 1 := hi 1
  have k2 : (foldT y 7).toNat = tN y 2 := hi 2
  have k3 : (foldT y 8).toNat = tN y 3 := hi 3
  have k4 : (foldT y 9).toNat = tN y 4 := hi 4
  have c19 : ∀ a b : Nat, a * (19 * b) = 19 * (a * b) := fun a b => Nat.mul_left_comm a 19 b
  have p00 := P 0 0 (by omega) (by omega)
  have p01 := P 0 1 (by omega) (by omega)
  have p02 := P 0 2 (by omega) (by omega)
  have p03 := P 0 3 (by omega) (by omega)
  have p04 := P 0 4 (by omega) (by omega)
  have p10 := P 1 0 (by omega) (by omega)
  have p11 := P 1 1 (by omega) (by omega)
  have p12 := P 1 2 (by omega) (by omega)
  have p13 := P 1 3 (by omega) (by omega)
  have p14 := P 1 4 (by omega) (by omega)
  have p20 := P 2 0 (by omega) (by omega)
  have p21 := P 2 1 (by omega) (by omega)
  have p22 := P 2 2 (by omega) (by omega)
  have p23 := P 2 3 (by omega) (by omega)
  have p24 := P 2 4 (by omega) (by omega)
  have p30 := P 3 0 (by omega) (by omega)
  have p31 := P 3 1 (by omega) (by omega)
  have p32 := P 3 2 (by omega) (by omega)
  have p33 := P 3 3 (by omega) (by omega)
  have p34 := P 3 4 (by omega) (by omega)
  have p40 := P 4 0 (by omega) (by omega)
  have p41 := P 4 1 (by omega) (by omega)
  have p42 := P 4 2 (by omega) (by omega)
  have p43 := P 4 3 (by omega) (by omega)
  have p44 := P 4 4 (by omega) (by omega)
  have row := fun k s h0 h1 h2 h3 h4 hs => row_val x y k s _ rfl h0 h1 h2 h3 h4 hs
  have sz : sN ((0, 0) : B64 × B64) = 0 := rfl
  have sm : ∀ m : B64, sN ((0, m) : B64 × B64) = m.toNat := sN_0
  have lt64 : ∀ m : B64, sN ((0, m) : B64 × B64) < 18446744073709551616 := fun m => by rw [sm]; exact m.isLt
  have hib : ∀ s : B64 × B64, sN s < 41538374868278621028243970633760768 → s.1.toNat < 2251799813685248 := fun s h => by unfold sN at h; omega
  have S0 : sN (rowsT x y 0) = tN x 0 * tN y 0 + 19 * (tN x 1 * tN y 4 + tN x 2 * tN y 3 + tN x 3 * tN y 2 + tN x 4 * tN y 1) := by
    have r := row 0 (0, 0) (by show tN x 0 * (foldT y 5).toNat ≤ _; rw [k0]; omega) (by show tN x 1 * (foldT y 4).toNat ≤ _; rw [g4, c19]; omega) (by show tN x 2 * (foldT y 3).toNat ≤ _; rw [g3, c19]; omega) (by show tN x 3 * (foldT y 2).toNat ≤ _; rw [g2, c19]; omega) (by show tN x 4 * (foldT y 1).toNat ≤ _; rw [g1, c19]; omega) (by rw [sz]; omega)
    have r : sN (rowsT x y 0) = sN (0, 0) + tN x 0 * (foldT y 5).toNat + tN x 1 * (foldT y 4).toNat + tN x 2 * (foldT y 3).toNat + tN x 3 * (foldT y 2).toNat + tN x 4 * (foldT y 1).toNat := r
    rw [r, sz, k0, g4, g3, g2, g1, c19, c19, c19, c19]
    omega
  have M1 := more_val (rowsT x y 0) (hib _ (by omega))
  have S1 : sN (rowsT x y 1) = tN x 0 * tN y 1 + tN x 1 * tN y 0 + 19 * (tN x 2 * tN y 4 + tN x 3 * tN y 3 + tN x 4 * tN y 2) + (moreT (rowsT x y 0)).toNat := by
    have r := row 1 (0, moreT (rowsT x y 0)) (by show tN x 0 * (foldT y 6).toNat ≤ _; rw [k1]; omega) (by show tN x 1 * (foldT y 5).toNat ≤ _; rw [k0]; omega) (by show tN x 2 * (foldT y 4).toNat ≤ _; rw [g4, c19]; omega) (by show tN x 3 * (foldT y 3).toNat ≤ _; rw [g3, c19]; omega) (by show tN x 4 * (foldT y 2).toNat ≤ _; rw [g2, c19]; omega) (lt64 _)
    have r : sN (rowsT x y 1) = sN (0, moreT (rowsT x y 0)) + tN x 0 * (foldT y 6).toNat + tN x 1 * (foldT y 5).toNat + tN x 2 * (foldT y 4).toNat + tN x 3 * (foldT y 3).toNat + tN x 4 * (foldT y 2).toNat := r
    rw [r, sm, k1, k0, g4, g3, g2, c19, c19, c19]
    omega
  have M2 := more_val (rowsT x y 1) (hib _ (by omega))
  have S2 : sN (rowsT x y 2) = tN x 0 * tN y 2 + tN x 1 * tN y 1 + tN x 2 * tN y 0 + 19 * (tN x 3 * tN y 4 + tN x 4 * tN y 3) + (moreT (rowsT x y 1)).toNat := by
    have r := row 2 (0, moreT (rowsT x y 1)) (by show tN x 0 * (foldT y 7).toNat ≤ _; rw [k2]; omega) (by show tN x 1 * (foldT y 6).toNat ≤ _; rw [k1]; omega) (by show tN x 2 * (foldT y 5).toNat ≤ _; rw [k0]; omega) (by show tN x 3 * (foldT y 4).toNat ≤ _; rw [g4, c19]; omega) (by show tN x 4 * (foldT y 3).toNat ≤ _; rw [g3, c19]; omega) (lt64 _)
    have r : sN (rowsT x y 2) = sN (0, moreT (rowsT x y 1)) + tN x 0 * (foldT y 7).toNat + tN x 1 * (foldT y 6).toNat + tN x 2 * (foldT y 5).toNat + tN x 3 * (foldT y 4).toNat + tN x 4 * (foldT y 3).toNat := r
    rw [r, sm, k2, k1, k0, g4, g3, c19, c19]
    omega
  have M3 := more_val (rowsT x y 2) (hib _ (by omega))
  have S3 : sN (rowsT x y 3) = tN x 0 * tN y 3 + tN x 1 * tN y 2 + tN x 2 * tN y 1 + tN x 3 * tN y 0 + 19 * (tN x 4 * tN y 4) + (moreT (rowsT x y 2)).toNat := by
    have r := row 3 (0, moreT (rowsT x y 2)) (by show tN x 0 * (foldT y 8).toNat ≤ _; rw [k3]; omega) (by show tN x 1 * (foldT y 7).toNat ≤ _; rw [k2]; omega) (by show tN x 2 * (foldT y 6).toNat ≤ _; rw [k1]; omega) (by show tN x 3 * (foldT y 5).toNat ≤ _; rw [k0]; omega) (by show tN x 4 * (foldT y 4).toNat ≤ _; rw [g4, c19]; omega) (lt64 _)
    have r : sN (rowsT x y 3) = sN (0, moreT (rowsT x y 2)) + tN x 0 * (foldT y 8).toNat + tN x 1 * (foldT y 7).toNat + tN x 2 * (foldT y 6).toNat + tN x 3 * (foldT y 5).toNat + tN x 4 * (foldT y 4).toNat := r
    rw [r, sm, k3, k2, k1, k0, g4, c19]
    omega
  have M4 := more_val (rowsT x y 3) (hib _ (by omega))
  have S4 : sN (rowsT x y 4) = tN x 0 * tN y 4 + tN x 1 * tN y 3 + tN x 2 * tN y 2 + tN x 3 * tN y 1 + tN x 4 * tN y 0 + (moreT (rowsT x y 3)).toNat := by
    have r := row 4 (0, moreT (rowsT x y 3)) (by show tN x 0 * (foldT y 9).toNat ≤ _; rw [k4]; omega) (by show tN x 1 * (foldT y 8).toNat ≤ _; rw [k3]; omega) (by show tN x 2 * (foldT y 7).toNat ≤ _; rw [k2]; omega) (by show tN x 3 * (foldT y 6).toNat ≤ _; rw [k1]; omega) (by show tN x 4 * (foldT y 5).toNat ≤ _; rw [k0]; omega) (lt64 _)
    have r : sN (rowsT x y 4) = sN (0, moreT (rowsT x y 3)) + tN x 0 * (foldT y 9).toNat + tN x 1 * (foldT y 8).toNat + tN x 2 * (foldT y 7).toNat + tN x 3 * (foldT y 6).toNat + tN x 4 * (foldT y 5).toNat := r
    rw [r, sm, k4, k3, k2, k1, k0]
    omega
  have M5 := more_val (rowsT x y 4) (hib _ (by omega))
  generalize (moreT (rowsT x y 0)).toNat = m1 at *
  generalize (moreT (rowsT x y 1)).toNat = m2 at *
  generalize (moreT (rowsT x y 2)).toNat = m3 at *
  generalize (moreT (rowsT x y 3)).toNat = m4 at *
  generalize hm5 : (moreT (rowsT x y 4)).toNat = m5 at *
  have b5 : m5 ≤ 11258999068430000 := by omega
  have u1 : tN (timO x y) 1 = sN (rowsT x y 1) % 2251799813685248 := low_val _
  have u2 : tN (timO x y) 2 = sN (rowsT x y 2) % 2251799813685248 := low_val _
  have u3 : tN (timO x y) 3 = sN (rowsT x y 3) % 2251799813685248 := low_val _
  have u4 : tN (timO x y) 4 = sN (rowsT x y 4) % 2251799813685248 := low_val _
  have u0 : tN (timO x y) 0 = sN (rowsT x y 0) % 2251799813685248 + 19 * m5 := by
    show (((rowsT x y 0).2 &&& msk) + 19#64 * moreT (rowsT x y 4)).toNat = _
    rw [BitVec.toNat_add, BitVec.toNat_mul, low_val, hm5]
    have : (19#64).toNat = 19 := rfl
    rw [this]
    omega
  obtain ⟨d0, d1, d2, d3, d, f0, f1, f2, f3, f4, f5, f6, f7, f8, f9, f10⟩ := car_full (re5 (timO x y)) (by show tN (timO x y) 0 < _; omega) (by show tN (timO x y) 1 < _; omega) (by show tN (timO x y) 2 < _; omega) (by show tN (timO x y) 3 < _; omega) (by show tN (timO x y) 4 < _; omega)
  have f0 : d0 = tN (timO x y) 0 / 2251799813685248 := f0
  have f1 : d1 = (tN (timO x y) 1 + d0) / 2251799813685248 := f1
  have f2 : d2 = (tN (timO x y) 2 + d1) / 2251799813685248 := f2
  have f3 : d3 = (tN (timO x y) 3 + d2) / 2251799813685248 := f3
  have f4 : d = (tN (timO x y) 4 + d3) / 2251799813685248 := f4
  have f5 : vN (timesL x y) + PZ * d = vN (timO x y) := f5
  have f6 : tN (timesL x y) 0 = tN (timO x y) 0 % 2251799813685248 + 19 * d := f6
  have f7 : tN (timesL x y) 1 = (tN (timO x y) 1 + d0) % 2251799813685248 := f7
  have f8 : tN (timesL x y) 2 = (tN (timO x y) 2 + d1) % 2251799813685248 := f8
  have f9 : tN (timesL x y) 3 = (tN (timO x y) 3 + d2) % 2251799813685248 := f9
  have f10 : tN (timesL x y) 4 = (tN (timO x y) 4 + d3) % 2251799813685248 := f10
  have hd0 : d0 ≤ 96 := by omega
  have hd1 : d1 ≤ 1 := by omega
  have hd2 : d2 ≤ 1 := by omega
  have hd3 : d3 ≤ 1 := by omega
  have hd : d ≤ 1 := by omega
  refine ⟨⟨by omega, by omega, by omega, by omega, by omega⟩, ?_⟩
  have hv : vN (timO x y) + PZ * m5 = limb (tN x 0 * tN y 0 + 19 * (tN x 1 * tN y 4 + tN x 2 * tN y 3 + tN x 3 * tN y 2 + tN x 4 * tN y 1)) (tN x 0 * tN y 1 + tN x 1 * tN y 0 + 19 * (tN x 2 * tN y 4 + tN x 3 * tN y 3 + tN x 4 * tN y 2)) (tN x 0 * tN y 2 + tN x 1 * tN y 1 + tN x 2 * tN y 0 + 19 * (tN x 3 * tN y 4 + tN x 4 * tN y 3)) (tN x 0 * tN y 3 + tN x 1 * tN y 2 + tN x 2 * tN y 1 + tN x 3 * tN y 0 + 19 * (tN x 4 * tN y 4)) (tN x 0 * tN y 4 + tN x 1 * tN y 3 + tN x 2 * tN y 2 + tN x 3 * tN y 1 + tN x 4 * tN y 0) := by
    show limb (tN (timO x y) 0) (tN (timO x y) 1) (tN (timO x y) 2) (tN (timO x y) 3) (tN (timO x y) 4) + PZ * m5 = _
    rw [u0, u1, u2, u3, u4, S0, S1, S2, S3, S4]
    refine cols _ _ _ _ _ m1 m2 m3 m4 m5 ?_ ?_ ?_ ?_ ?_
    · rw [← S0]; exact M1
    · rw [← S1]; exact M2
    · rw [← S2]; exact M3
    · rw [← S3]; exact M4
    · rw [← S4]; exact M5
  rw [mod_c f5, mod_c hv, ← ex, ← ey, ← Nat.mul_mod, ev, hlim, Nat.add_mul_mod_self_left]
end Go.Spec

namespace Go.Spec
open Go.Sym
/-- The limbs of a number. -/
def limL (v : Nat) : N5 := mk5 (BitVec.ofNat 64 (v % 2251799813685248)) (BitVec.ofNat 64 (v / 2251799813685248 % 2251799813685248)) (BitVec.ofNat 64 (v / 5070602400912917605986812821504 % 2251799813685248)) (BitVec.ofNat 64 (v / 11417981541647679048466287755595961091061972992 % 2251799813685248)) (BitVec.ofNat 64 (v / 25711008708143844408671393477458601640355247900524685364822016 % 2251799813685248))
theorem cho0 (x y : N5) (i : Nat) : choL x y 0 i = x i := by
  unfold choL
  have : (0 : B64) - 0 &&& (x i ^^^ y i) = 0 := by simp
  rw [this]
  simp
theorem cho1 (x y : N5) (i : Nat) : choL x y 1 i = y i := by
  unfold choL
  have h : (0 : B64) - 1 = BitVec.allOnes 64 := by decide
  rw [h, BitVec.allOnes_and, ← BitVec.xor_assoc, BitVec.xor_self, BitVec.zero_xor]
theorem digs (c0 c1 c2 c3 c4 v : Nat) (h0 : c0 < 2251799813685248) (h1 : c1 < 2251799813685248) (h2 : c2 < 2251799813685248) (h3 : c3 < 2251799813685248) (h4 : c4 < 2251799813685248) (hv : limb c0 c1 c2 c3 c4 = v) :
    v % 2251799813685248 = c0 ∧ v / 2251799813685248 % 2251799813685248 = c1 ∧ v / 5070602400912917605986812821504 % 2251799813685248 = c2 ∧ v / 11417981541647679048466287755595961091061972992 % 2251799813685248 = c3 ∧ v / 25711008708143844408671393477458601640355247900524685364822016 % 2251799813685248 = c4 := by
  unfold limb at hv
  omega
theorem eq_lim {a : N5} {v : Nat} (h0 : tN a 0 < 2251799813685248) (h1 : tN a 1 < 2251799813685248) (h2 : tN a 2 < 2251799813685248) (h3 : tN a 3 < 2251799813685248) (h4 : tN a 4 < 2251799813685248) (hv : vN a = v) : a 0 = limL v 0 ∧ a 1 = limL v 1 ∧ a 2 = limL v 2 ∧ a 3 = limL v 3 ∧ a 4 = limL v 4 := by
  obtain ⟨d0, d1, d2, d3, d4⟩ := digs _ _ _ _ _ v h0 h1 h2 h3 h4 hv
  have k : ∀ (x : B64) (n : Nat), n = x.toNat → x = BitVec.ofNat 64 n := fun x n h => by rw [h]; simp
  exact ⟨k _ _ d0, k _ _ d1, k _ _ d2, k _ _ d3, k _ _ d4⟩
theorem lsO_val (c : N5) (h0 : tN c 0 < 2251799813685248) (h1 : tN c 1 < 2251799813685248) (h2 : tN c 2 < 2251799813685248) (h3 : tN c 3 < 2251799813685248) (h4 : tN c 4 < 2251799813685248) :
    (lsO c 0).toNat = tN c 0 + 19 ∧ (lsO c 1).toNat = tN c 1 + (lsO c 0).toNat / 2251799813685248 ∧ (lsO c 2).toNat = tN c 2 + (lsO c 1).toNat / 2251799813685248 ∧ (lsO c 3).toNat = tN c 3 + (lsO c 2).toNat / 2251799813685248 ∧ (lsO c 4).toNat = tN c 4 + (lsO c 3).toNat / 2251799813685248 := by
  unfold tN at *
  have z : (19#64).toNat = 19 := rfl
  have e0 : (lsO c 0).toNat = (c 0).toNat + 19 := by show (c 0 + 19#64).toNat = _; rw [BitVec.toNat_add, z]; omega
  have e1 : (lsO c 1).toNat = (c 1).toNat + (lsO c 0).toNat / 2251799813685248 := by show (c 1 + lsO c 0 >>> 51).toNat = _; rw [BitVec.toNat_add, shr51]; omega
  have e2 : (lsO c 2).toNat = (c 2).toNat + (lsO c 1).toNat / 2251799813685248 := by show (c 2 + lsO c 1 >>> 51).toNat = _; rw [BitVec.toNat_add, shr51]; omega
  have e3 : (lsO c 3).toNat = (c 3).toNat + (lsO c 2).toNat / 2251799813685248 := by show (c 3 + lsO c 2 >>> 51).toNat = _; rw [BitVec.toNat_add, shr51]; omega
  have e4 : (lsO c 4).toNat = (c 4).toNat + (lsO c 3).toNat / 2251799813685248 := by show (c 4 + lsO c 3 >>> 51).toNat = _; rw [BitVec.toNat_add, shr51]; omega
  exact ⟨e0, e1, e2, e3, e4⟩
theorem limb_lt {c0 c1 c2 c3 c4 : Nat} (h0 : c0 < 2251799813685248) (h1 : c1 < 2251799813685248) (h2 : c2 < 2251799813685248) (h3 : c3 < 2251799813685248) (h4 : c4 < 2251799813685248) : limb c0 c1 c2 c3 c4 < 57896044618658097711785492504343953926634992332820282019728792003956564819968 := by
  unfold limb
  omega
theorem les0 (c0 c1 c2 c3 c4 l0 l1 l2 l3 l4 : Nat) (e0 : l0 = c0 + 19) (e1 : l1 = c1 + l0 / 2251799813685248) (e2 : l2 = c2 + l1 / 2251799813685248) (e3 : l3 = c3 + l2 / 2251799813685248) (e4 : l4 = c4 + l3 / 2251799813685248) (h : limb c0 c1 c2 c3 c4 < PZ) : l4 / 2251799813685248 = 0 := by
  unfold limb PZ at h
  omega
theorem les1 (c0 c1 c2 c3 c4 l0 l1 l2 l3 l4 : Nat) (h0 : c0 < 2251799813685248) (h1 : c1 < 2251799813685248) (h2 : c2 < 2251799813685248) (h3 : c3 < 2251799813685248) (h4 : c4 < 2251799813685248) (e0 : l0 = c0 + 19) (e1 : l1 = c1 + l0 / 2251799813685248) (e2 : l2 = c2 + l1 / 2251799813685248) (e3 : l3 = c3 + l2 / 2251799813685248) (e4 : l4 = c4 + l3 / 2251799813685248) (h : ¬ limb c0 c1 c2 c3 c4 < PZ) : l4 / 2251799813685248 = 1 := by
  unfold limb PZ at h
  omega
theorem les2 (c0 c1 c2 c3 c4 l0 l1 l2 l3 l4 v : Nat) (e0 : l0 = c0 + 19) (e1 : l1 = c1 + l0 / 2251799813685248) (e2 : l2 = c2 + l1 / 2251799813685248) (e3 : l3 = c3 + l2 / 2251799813685248) (e4 : l4 = c4 + l3 / 2251799813685248) (hs : l4 / 2251799813685248 = 1) (h : limb c0 c1 c2 c3 c4 = PZ + v) :
    limb (l0 % 2251799813685248) (l1 % 2251799813685248) (l2 % 2251799813685248) (l3 % 2251799813685248) (l4 % 2251799813685248) = v := by
  unfold limb PZ at h
  unfold limb
  omega
set_option maxHeartbeats 2000000 in
theorem lea_R {x : N5} {v : Nat} (hx : Rp x v) : leaL x 0 = limL v 0 ∧ leaL x 1 = limL v 1 ∧ leaL x 2 = limL v 2 ∧ leaL x 3 = limL v 3 ∧ leaL x 4 = limL v 4 := by
  obtain ⟨⟨x0, x1, x2, x3, x4⟩, ex⟩ := hx
  obtain ⟨d0, d1, d2, d3, d, f0, f1, f2, f3, f4, f5, f6, f7, f8, f9, f10⟩ := car_full (re5 x) (by show tN x 0 < _; omega) (by show tN x 1 < _; omega) (by show tN x 2 < _; omega) (by show tN x 3 < _; omega) (by show tN x 4 < _; omega)
  have f0 : d0 = tN x 0 / 2251799813685248 := f0
  have f1 : d1 = (tN x 1 + d0) / 2251799813685248 := f1
  have f2 : d2 = (tN x 2 + d1) / 2251799813685248 := f2
  have f3 : d3 = (tN x 3 + d2) / 2251799813685248 := f3
  have f4 : d = (tN x 4 + d3) / 2251799813685248 := f4
  have f5 : vN (carL (re5 x)) + PZ * d = vN x := f5
  have f6 : tN (carL (re5 x)) 0 = tN x 0 % 2251799813685248 + 19 * d := f6
  have f7 : tN (carL (re5 x)) 1 = (tN x 1 + d0) % 2251799813685248 := f7
  have f8 : tN (carL (re5 x)) 2 = (tN x 2 + d1) % 2251799813685248 := f8
  have f9 : tN (carL (re5 x)) 3 = (tN x 3 + d2) % 2251799813685248 := f9
  have f10 : tN (carL (re5 x)) 4 = (tN x 4 + d3) % 2251799813685248 := f10
  have hc0 : tN (carL (re5 x)) 0 < 2251799813685248 := by omega
  have hm := mod_c f5
  rw [ex] at hm
  have eC : leaL x = choL (re5 (carL (re5 x))) (re5 fun i => lsO (carL (re5 x)) i &&& msk) (lsO (carL (re5 x)) 4 >>> 51) := rfl
  rw [eC]
  generalize carL (re5 x) = c at *
  have hc1 : tN c 1 < 2251799813685248 := by omega
  have hc2 : tN c 2 < 2251799813685248 := by omega
  have hc3 : tN c 3 < 2251799813685248 := by omega
  have hc4 : tN c 4 < 2251799813685248 := by omega
  obtain ⟨e0, e1, e2, e3, e4⟩ := lsO_val c hc0 hc1 hc2 hc3 hc4
  have hV : vN c = limb (tN c 0) (tN c 1) (tN c 2) (tN c 3) (tN c 4) := rfl
  have hPZ : PZ = 57896044618658097711785492504343953926634992332820282019728792003956564819949 := rfl
  have es : (lsO c 4 >>> 51).toNat = (lsO c 4).toNat / 2251799813685248 := shr51 _
  by_cases hlt : vN c < PZ
  · have hv : vN c = v := by rw [← hm, Nat.mod_eq_of_lt hlt]
    have hb : lsO c 4 >>> 51 = 0 := by
      apply BitVec.eq_of_toNat_eq
      rw [es]
      exact les0 _ _ _ _ _ _ _ _ _ _ e0 e1 e2 e3 e4 (by rw [← hV]; exact hlt)
    rw [hb, cho0, cho0, cho0, cho0, cho0]
    exact eq_lim hc0 hc1 hc2 hc3 hc4 hv
  · have h2 : vN c < 57896044618658097711785492504343953926634992332820282019728792003956564819968 := by rw [hV]; exact limb_lt hc0 hc1 hc2 hc3 hc4
    have hv : vN c = PZ + v := by
      rw [hPZ] at hm hlt ⊢
      clear hV e0 e1 e2 e3 e4 es f0 f1 f2 f3 f4 f5 f6 f7 f8 f9 f10 ex
      omega
    have hb : lsO c 4 >>> 51 = 1 := by
      apply BitVec.eq_of_toNat_eq
      rw [es]
      exact les1 _ _ _ _ _ _ _ _ _ _ hc0 hc1 hc2 hc3 hc4 e0 e1 e2 e3 e4 (by rw [← hV]; exact hlt)
    rw [hb, cho1, cho1, cho1, cho1, cho1]
    have m0 : tN (re5 fun i => lsO c i &&& msk) 0 = (lsO c 0).toNat % 2251799813685248 := msk_and _
    have m1 : tN (re5 fun i => lsO c i &&& msk) 1 = (lsO c 1).toNat % 2251799813685248 := msk_and _
    have m2 : tN (re5 fun i => lsO c i &&& msk) 2 = (lsO c 2).toNat % 2251799813685248 := msk_and _
    have m3 : tN (re5 fun i => lsO c i &&& msk) 3 = (lsO c 3).toNat % 2251799813685248 := msk_and _
    have m4 : tN (re5 fun i => lsO c i &&& msk) 4 = (lsO c 4).toNat % 2251799813685248 := msk_and _
    have hs : (lsO c 4).toNat / 2251799813685248 = 1 := by
      rw [← es, hb]; rfl
    have lt : ∀ n : Nat, n % 2251799813685248 < 2251799813685248 := fun n => Nat.mod_lt _ (by decide)
    refine eq_lim (by rw [m0]; exact lt _) (by rw [m1]; exact lt _) (by rw [m2]; exact lt _) (by rw [m3]; exact lt _) (by rw [m4]; exact lt _) ?_
    have : vN (re5 fun i => lsO c i &&& msk) = limb (tN (re5 fun i => lsO c i &&& msk) 0) (tN (re5 fun i => lsO c i &&& msk) 1) (tN (re5 fun i => lsO c i &&& msk) 2) (tN (re5 fun i => lsO c i &&& msk) 3) (tN (re5 fun i => lsO c i &&& msk) 4) := rfl
    rw [this, m0, m1, m2, m3, m4]
    exact les2 _ _ _ _ _ _ _ _ _ _ v e0 e1 e2 e3 e4 hs (by rw [← hV]; exact hv)
end Go.Spec

namespace Go.Spec
open Go.Sym
def fA (a b : Nat) : Nat := (a + b) % PZ
def fS (a b : Nat) : Nat := (a + (PZ - b)) % PZ
def fM (a b : Nat) : Nat := a * b % PZ
def invV (v : Nat) : Nat → Nat
  | 0 => 1
  | k + 1 => if k = 252 ∨ k = 250 then fM (invV v k) (invV v k) else fM (fM (invV v k) (invV v k)) v
structure L4 where
  x2 : Nat
  z2 : Nat
  x3 : Nat
  z3 : Nat
def stepV (u : Nat) (s : L4) : L4 :=
  ⟨fM (fM (fA s.x2 s.z2) (fA s.x2 s.z2)) (fM (fS s.x2 s.z2) (fS s.x2 s.z2)),
   fM (fS (fM (fA s.x2 s.z2) (fA s.x2 s.z2)) (fM (fS s.x2 s.z2) (fS s.x2 s.z2))) (fA (fM (fA s.x2 s.z2) (fA s.x2 s.z2)) (fM 121665 (fS (fM (fA s.x2 s.z2) (fA s.x2 s.z2)) (fM (fS s.x2 s.z2) (fS s.x2 s.z2))))),
   fM (fA (fM (fS s.x3 s.z3) (fA s.x2 s.z2)) (fM (fA s.x3 s.z3) (fS s.x2 s.z2))) (fA (fM (fS s.x3 s.z3) (fA s.x2 s.z2)) (fM (fA s.x3 s.z3) (fS s.x2 s.z2))),
   fM u (fM (fS (fM (fS s.x3 s.z3) (fA s.x2 s.z2)) (fM (fA s.x3 s.z3) (fS s.x2 s.z2))) (fS (fM (fS s.x3 s.z3) (fA s.x2 s.z2)) (fM (fA s.x3 s.z3) (fS s.x2 s.z2))))⟩
def swapV (b : Bool) (s : L4) : L4 := match b with | true => ⟨s.x3, s.z3, s.x2, s.z2⟩ | false => s
def bitV (s : F8) (i : Nat) : Bool := (s (i / 8)).getLsbD (i % 8)
def ladV (s : F8) (u : Nat) : Nat → L4
  | 0 => ⟨1, 0, u, 1⟩
  | k + 1 => swapV (bitV s (254 - k)) (stepV u (swapV (bitV s (254 - k)) (ladV s u k)))
def shV (s : F8) (u : Nat) : Nat := fM (ladV s u 255).x2 (invV (ladV s u 255).z2 255)
/-- The ladder's five numbers stand for these. -/
structure RL (l : N5) (u : Nat) (s : L4) : Prop where
  r1 : Rp (atL l 0) u
  r2 : Rp (atL l 5) s.x2
  r3 : Rp (atL l 10) s.z2
  r4 : Rp (atL l 15) s.x3
  r5 : Rp (atL l 20) s.z3
theorem one_R : Rp oneN 1 := ⟨⟨by decide, by decide, by decide, by decide, by decide⟩, rfl⟩
theorem nul_R : Rp nulN 0 := ⟨⟨by decide, by decide, by decide, by decide, by decide⟩, rfl⟩
theorem kN_R : Rp kN 121665 := ⟨⟨by decide, by decide, by decide, by decide, by decide⟩, rfl⟩
theorem inv_R {n : N5} {v : Nat} (h : Rp n v) : ∀ k, Rp (invN n k) (invV v k)
  | 0 => one_R
  | k + 1 => by
    have ih := Rp_re5 (inv_R h k)
    by_cases c : k = 252 ∨ k = 250
    · rw [invN, if_pos c, invV, if_pos c]
      exact tim_R ih ih
    · rw [invN, if_neg c, invV, if_neg c]
      exact tim_R (Rp_re5 (tim_R ih ih)) (Rp_re5 h)
theorem at_mk0 (a b c d e : N5) : atL (mkS a b c d e) 0 = re5 a := rfl
theorem at_mk1 (a b c d e : N5) : atL (mkS a b c d e) 5 = re5 b := rfl
theorem at_mk2 (a b c d e : N5) : atL (mkS a b c d e) 10 = re5 c := rfl
theorem at_mk3 (a b c d e : N5) : atL (mkS a b c d e) 15 = re5 d := rfl
theorem at_mk4 (a b c d e : N5) : atL (mkS a b c d e) 20 = re5 e := rfl
theorem RL_mk {a b c d e : N5} {u : Nat} {s : L4} (h1 : Rp a u) (h2 : Rp b s.x2) (h3 : Rp c s.z2) (h4 : Rp d s.x3) (h5 : Rp e s.z3) : RL (mkS a b c d e) u s :=
  ⟨by rw [at_mk0]; exact Rp_re5 h1, by rw [at_mk1]; exact Rp_re5 h2, by rw [at_mk2]; exact Rp_re5 h3, by rw [at_mk3]; exact Rp_re5 h4, by rw [at_mk4]; exact Rp_re5 h5⟩
theorem RL_25 {l : N5} {u : Nat} {s : L4} (h : RL l u s) : RL (re25 l) u s := ⟨h.r1, h.r2, h.r3, h.r4, h.r5⟩
theorem step_R {l : N5} {u : Nat} {s : L4} (h : RL l u s) : RL (steL l) u (stepV u s) := by
  have a := Rp_re5 (pls_R h.r2 h.r3)
  have b := Rp_re5 (mns_R h.r2 h.r3)
  have c := Rp_re5 (pls_R h.r4 h.r5)
  have d := Rp_re5 (mns_R h.r4 h.r5)
  have da := Rp_re5 (tim_R d a)
  have cb := Rp_re5 (tim_R c b)
  have aa := Rp_re5 (tim_R a a)
  have bb := Rp_re5 (tim_R b b)
  have e := Rp_re5 (mns_R aa bb)
  have s1 := Rp_re5 (pls_R da cb)
  have t1 := Rp_re5 (mns_R da cb)
  unfold steL stS
  exact RL_mk h.r1 (tim_R aa bb) (tim_R e (Rp_re5 (pls_R aa (Rp_re5 (tim_R (Rp_re5 kN_R) e))))) (tim_R s1 s1) (tim_R h.r1 (Rp_re5 (tim_R t1 t1)))
theorem bitB_V (s : F8) (i : Nat) : bitB s i = if bitV s i then 1 else 0 := by
  unfold bitB bitV
  apply BitVec.eq_of_getLsbD_eq
  intro j hj
  rw [BitVec.getLsbD_and]
  by_cases h : j = 0
  · subst h
    have hm : i % 8 < 64 := by omega
    cases hb : (s (i / 8)).getLsbD (i % 8) <;> simp [hb, hm]
  · have : (1 : B64).getLsbD j = false := by
      have := BitVec.getLsbD_one (w := 64) (i := j)
      simp [h]
    rw [this]
    cases (s (i / 8)).getLsbD (i % 8) <;> simp [h]
theorem swa_at (l : N5) (b : B64) : atL (swaL l b) 0 = re5 (atL l 0) ∧ atL (swaL l b) 5 = re5 (choL (atL l 5) (atL l 15) b) ∧ atL (swaL l b) 10 = re5 (choL (atL l 10) (atL l 20) b) ∧ atL (swaL l b) 15 = re5 (choL (atL l 15) (atL l 5) b) ∧ atL (swaL l b) 20 = re5 (choL (atL l 20) (atL l 10) b) := ⟨rfl, rfl, rfl, rfl, rfl⟩
theorem swap_R {l : N5} {u : Nat} {s : L4} (h : RL l u s) (b : Bool) : RL (swaL l (if b then 1 else 0)) u (swapV b s) := by
  cases b
  · obtain ⟨a0, a1, a2, a3, a4⟩ := swa_at l 0
    have c : ∀ x y : N5, choL x y 0 = x := fun x y => funext fun i => cho0 x y i
    refine ⟨?_, ?_, ?_, ?_, ?_⟩
    · show Rp (atL (swaL l 0) 0) u; rw [a0]; exact Rp_re5 h.r1
    · show Rp (atL (swaL l 0) 5) s.x2; rw [a1, c]; exact Rp_re5 h.r2
    · show Rp (atL (swaL l 0) 10) s.z2; rw [a2, c]; exact Rp_re5 h.r3
    · show Rp (atL (swaL l 0) 15) s.x3; rw [a3, c]; exact Rp_re5 h.r4
    · show Rp (atL (swaL l 0) 20) s.z3; rw [a4, c]; exact Rp_re5 h.r5
  · obtain ⟨a0, a1, a2, a3, a4⟩ := swa_at l 1
    have c : ∀ x y : N5, choL x y 1 = y := fun x y => funext fun i => cho1 x y i
    refine ⟨?_, ?_, ?_, ?_, ?_⟩
    · show Rp (atL (swaL l 1) 0) u; rw [a0]; exact Rp_re5 h.r1
    · show Rp (atL (swaL l 1) 5) s.x3; rw [a1, c]; exact Rp_re5 h.r4
    · show Rp (atL (swaL l 1) 10) s.z3; rw [a2, c]; exact Rp_re5 h.r5
    · show Rp (atL (swaL l 1) 15) s.x2; rw [a3, c]; exact Rp_re5 h.r2
    · show Rp (atL (swaL l 1) 20) s.z2; rw [a4, c]; exact Rp_re5 h.r3
theorem lad_R (s : F8) {un : N5} {u : Nat} (h : Rp un u) : ∀ k, RL (ladN s un k) u (ladV s u k)
  | 0 => RL_mk (s := ⟨1, 0, u, 1⟩) h one_R nul_R h one_R
  | k + 1 => by
    have ih := RL_25 (lad_R s h k)
    rw [ladN, ladV, bitB_V]
    exact swap_R (RL_25 (step_R (RL_25 (swap_R ih _)))) _
theorem out_R (s : F8) {un : N5} {u : Nat} (h : Rp un u) : Rp (outN (ladN s un 255)) (shV s u) := by
  have hl := lad_R s h 255
  unfold outN
  exact tim_R hl.r2 (Rp_re5 (inv_R hl.r3 255))
theorem bytS_congr {a b : N5} (h : ∀ i, i < 5 → a i = b i) : ∀ k, k ≤ 255 → bytS a k = bytS b k
  | 0, _ => rfl
  | k + 1, hk => by
    have e : bitN a k = bitN b k := by unfold bitN; rw [h (k / 51) (by omega)]
    funext j
    rw [bytS, bytS, bytS_congr h k (by omega), e]
/-- What is shared, by numbers. -/
theorem shr_V (s p : F8) {u : Nat} (h : Rp (numS p 255) u) : shrB s p = bytS (limL (shV (claL s) u)) 255 := by
  have r := Rp_re5 (out_R (claL s) h)
  obtain ⟨e0, e1, e2, e3, e4⟩ := lea_R r
  unfold shrB
  refine bytS_congr (fun i hi => ?_) 255 (Nat.le_refl _)
  rcases i with _ | _ | _ | _ | _ | i
  · exact e0
  · exact e1
  · exact e2
  · exact e3
  · exact e4
  · omega
end Go.Spec

namespace Go.Spec
open Go.Sym
theorem ladN_congr {a b : F8} (u : N5) (h : ∀ i, i < 32 → a i = b i) : ∀ k, k ≤ 255 → ladN a u k = ladN b u k
  | 0, _ => rfl
  | k + 1, hk => by
    have e : bitB a (254 - k) = bitB b (254 - k) := by unfold bitB; rw [h ((254 - k) / 8) (by omega)]
    rw [ladN, ladN, ladN_congr u h k (by omega), e]
theorem shrB_congr {s s' p p' : F8} (h : ∀ i, i < 32 → claL s i = claL s' i) (hp : numS p 255 = numS p' 255) : shrB s p = shrB s' p' := by
  unfold shrB
  rw [hp, ladN_congr _ h 255 (Nat.le_refl _)]
theorem numS_bits {a b : F8} (h : ∀ i, i < 255 → bitB a i = bitB b i) : ∀ k, k ≤ 255 → numS a k = numS b k
  | 0, _ => rfl
  | k + 1, hk => by
    funext j
    rw [numS, numS, numS_bits h k (by omega), h k (by omega)]
theorem low3 (x : BitVec 8) (y : BitVec 8) : (x ^^^ y % 8#8) &&& 248#8 = x &&& 248#8 := by
  have key : ∀ a b : Fin 256, ((BitVec.ofFin a ^^^ (BitVec.ofFin b) % 8#8) &&& 248#8 : BitVec 8) = BitVec.ofFin a &&& 248#8 := by decide +kernel
  exact key x.toFin y.toFin
theorem top1 (x : BitVec 8) : (x ^^^ 128#8) &&& 127#8 ||| 64#8 = x &&& 127#8 ||| 64#8 := by
  have key : ∀ a : Fin 256, ((BitVec.ofFin a ^^^ 128#8) &&& 127#8 ||| 64#8 : BitVec 8) = BitVec.ofFin a &&& 127#8 ||| 64#8 := by decide +kernel
  exact key x.toFin
theorem top2 (x : BitVec 8) (j : Nat) (hj : j < 7) : (((x ^^^ 128#8) >>> j).setWidth 64 &&& 1 : B64) = (x >>> j).setWidth 64 &&& 1 := by
  have key : ∀ a : Fin 256, ∀ k : Fin 7, (((BitVec.ofFin a ^^^ 128#8 : BitVec 8) >>> k.val).setWidth 64 &&& 1 : B64) = ((BitVec.ofFin a : BitVec 8) >>> k.val).setWidth 64 &&& 1 := by decide +kernel
  exact key x.toFin ⟨j, hj⟩
/-- Bytes with the highest bit turned. -/
theorem numS_top {a b : F8} (h : ∀ i, i < 31 → a i = b i) (h31 : a 31 = b 31 ^^^ 128#8) : numS a 255 = numS b 255 := by
  refine numS_bits (fun i hi => ?_) 255 (Nat.le_refl _)
  unfold bitB
  by_cases c : i / 8 < 31
  · rw [h _ c]
  · have e : i / 8 = 31 := by omega
    rw [e, h31]
    exact top2 _ _ (by omega)
/-- A number from p on, and what it is less p. -/
def bigF (n : BitVec 8) : F8 := fun i => if i = 0 then 237#8 + n else if i = 31 then 127#8 else 255#8
def smaF (n : BitVec 8) : F8 := fun i => if i = 0 then n else 0#8
def okNb (a : N5) : Bool := decide (tN a 0 < 2251799813685312) && decide (tN a 1 < 2251799813685248) && decide (tN a 2 < 2251799813685248) && decide (tN a 3 < 2251799813685248) && decide (tN a 4 < 2251799813685248)
theorem okN_b {a : N5} (h : okNb a = true) : okN a := by
  simp only [okNb, Bool.and_eq_true, decide_eq_true_eq] at h
  obtain ⟨⟨⟨⟨h0, h1⟩, h2⟩, h3⟩, h4⟩ := h
  exact ⟨h0, h1, h2, h3, h4⟩
set_option maxRecDepth 100000 in
theorem big_all : ∀ n : Fin 19, (okNb (numS (bigF (BitVec.ofNat 8 n.val)) 255) && decide (vN (numS (bigF (BitVec.ofNat 8 n.val)) 255) % PZ = n.val)) = true := by decide +kernel
set_option maxRecDepth 100000 in
theorem sma_all : ∀ n : Fin 19, (okNb (numS (smaF (BitVec.ofNat 8 n.val)) 255) && decide (vN (numS (smaF (BitVec.ofNat 8 n.val)) 255) % PZ = n.val)) = true := by decide +kernel
theorem big_R (n : Nat) (h : n < 19) : Rp (numS (bigF (BitVec.ofNat 8 n)) 255) n := by
  have := big_all ⟨n, h⟩
  rw [Bool.and_eq_true] at this
  exact ⟨okN_b this.1, of_decide_eq_true this.2⟩
theorem sma_R (n : Nat) (h : n < 19) : Rp (numS (smaF (BitVec.ofNat 8 n)) 255) n := by
  have := sma_all ⟨n, h⟩
  rw [Bool.and_eq_true] at this
  exact ⟨okN_b this.1, of_decide_eq_true this.2⟩
end Go.Spec

namespace Go.Spec
open Go.Sym
def shX : F8 := fun i => [BitVec.ofNat 8 119, BitVec.ofNat 8 7, BitVec.ofNat 8 109, BitVec.ofNat 8 10, BitVec.ofNat 8 115, BitVec.ofNat 8 24, BitVec.ofNat 8 165, BitVec.ofNat 8 125, BitVec.ofNat 8 60, BitVec.ofNat 8 22, BitVec.ofNat 8 193, BitVec.ofNat 8 114, BitVec.ofNat 8 81, BitVec.ofNat 8 178, BitVec.ofNat 8 102, BitVec.ofNat 8 69, BitVec.ofNat 8 223, BitVec.ofNat 8 76, BitVec.ofNat 8 47, BitVec.ofNat 8 135, BitVec.ofNat 8 235, BitVec.ofNat 8 192, BitVec.ofNat 8 153, BitVec.ofNat 8 42, BitVec.ofNat 8 177, BitVec.ofNat 8 119, BitVec.ofNat 8 251, BitVec.ofNat 8 165, BitVec.ofNat 8 29, BitVec.ofNat 8 185, BitVec.ofNat 8 44, BitVec.ofNat 8 42].getD i (0 : BitVec 8)
theorem sh_val : shV (claL shX) 9 = 48084050389777770101701157326923977117307187144965043058462938058489685090437 := by kernel_rfl
end Go.Spec
