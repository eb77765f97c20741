/- The tag, as a function of bytes: by limbs and by bytes; the program does it. -/
import Derived.Test.YtiebadbcdheldaaDoorChaA
/- Poly1305's numbers: limbs of 26 bits, modulo 2^130 - 5. -/
namespace Go.Spec
def PP : Nat := 1361129467683753853853498429727072845819
def nth5 (a b c d e : B64) : Nat → B64 := fun i => [a, b, c, d, e].getD i 0
def car (x : Nat → B64) : Nat → B64 :=
  let c0 := x 0 + 0#64
  let c1 := x 1 + c0 >>> 26
  let c2 := x 2 + c1 >>> 26
  let c3 := x 3 + c2 >>> 26
  let c4 := x 4 + c3 >>> 26
  nth5 ((c0 &&& 67108863#64) + 5#64 * (c4 >>> 26)) (c1 &&& 67108863#64) (c2 &&& 67108863#64) (c3 &&& 67108863#64) (c4 &&& 67108863#64)
def numS (b : F8) : Nat → B64 :=
  let t := fun (i s : Nat) => (b i).setWidth 64 <<< s
  nth5 (0#64 + t 0 0 + t 1 8 + t 2 16 + t 3 24) (0#64 + t 4 6 + t 5 14 + t 6 22) (0#64 + t 7 4 + t 8 12 + t 9 20) (0#64 + t 10 2 + t 11 10 + t 12 18) (0#64 + t 13 0 + t 14 8 + t 15 16 + t 16 24)
def clampS (k : F8) : F8 := fun i =>
  [k 0, k 1, k 2, k 3 &&& 15#8, k 4 &&& 252#8, k 5, k 6, k 7 &&& 15#8, k 8 &&& 252#8, k 9, k 10, k 11 &&& 15#8, k 12 &&& 252#8, k 13, k 14, k 15 &&& 15#8, 0#8].getD i 0
def plusS (x y : Nat → B64) : Nat → B64 := fun i => x i + y i
def mulS (x y : Nat → B64) : Nat → B64 :=
  let a := fun (i j : Nat) => x i * y j
  let b := fun (i j : Nat) => 5#64 * x i * y j
  nth5 (0#64 + a 0 0 + b 1 4 + b 2 3 + b 3 2 + b 4 1) (0#64 + a 0 1 + a 1 0 + b 2 4 + b 3 3 + b 4 2) (0#64 + a 0 2 + a 1 1 + a 2 0 + b 3 4 + b 4 3)
    (0#64 + a 0 3 + a 1 2 + a 2 1 + a 3 0 + b 4 4) (0#64 + a 0 4 + a 1 3 + a 2 2 + a 3 1 + a 4 0)
def redC (x : Nat → B64) : Nat → B64 :=
  let c0 := x 0 + 5#64
  let c1 := x 1 + c0 >>> 26
  let c2 := x 2 + c1 >>> 26
  let c3 := x 3 + c2 >>> 26
  let c4 := x 4 + c3 >>> 26
  nth5 c0 c1 c2 c3 c4
def redS (x : Nat → B64) : Nat → B64 := nth5 (redC x 0 &&& 67108863#64) (redC x 1 &&& 67108863#64) (redC x 2 &&& 67108863#64) (redC x 3 &&& 67108863#64) (redC x 4 &&& 67108863#64)
def redQ (x : Nat → B64) : Bool := !decide (redC (car x) 4 >>> 26 = 0#64)
def leastS (x : Nat → B64) : Nat → B64 := match redQ x with | true => redS (car x) | false => car x
def byteS (n : Nat → B64) (i : Nat) : BitVec 8 :=
  if 8 * i / 26 + 1 < 5 then (n (8 * i / 26) >>> (8 * i % 26) ||| n (8 * i / 26 + 1) <<< (26 - 8 * i % 26)).setWidth 8 else (n (8 * i / 26) >>> (8 * i % 26)).setWidth 8
def val5 (x : Nat → B64) : Nat := (x 0).toNat + 67108864 * (x 1).toNat + 4503599627370496 * (x 2).toNat + 302231454903657293676544 * (x 3).toNat + 20282409603651670423947251286016 * (x 4).toNat
/-- The number of n bytes, the lowest first. -/
def fV (b : F8) : Nat → Nat
  | 0 => 0
  | n + 1 => fV b n + (b n).toNat * 256 ^ n

theorem and26 (x : B64) : (x &&& 67108863#64).toNat = x.toNat % 67108864 := by
  rw [BitVec.toNat_and]
  exact Nat.and_two_pow_sub_one_eq_mod x.toNat 26
theorem shr26 (x : B64) : (x >>> 26).toNat = x.toNat / 67108864 := by
  rw [BitVec.toNat_ushiftRight, Nat.shiftRight_eq_div_pow]
theorem add_nat (x y : B64) (h : x.toNat + y.toNat < 18446744073709551616) : (x + y).toNat = x.toNat + y.toNat := by
  rw [BitVec.toNat_add]
  exact Nat.mod_eq_of_lt h
theorem mul5 (x : B64) (h : x.toNat < 3689348814741910323) : (5#64 * x).toNat = 5 * x.toNat := by
  rw [BitVec.toNat_mul]
  have : (5#64 : B64).toNat = 5 := rfl
  rw [this]
  exact Nat.mod_eq_of_lt (by omega)

/-- What one carrying does. -/
theorem car_nat (x : Nat → B64) (h : ∀ i, i < 5 → (x i).toNat < 9223372036854775808) : ∃ a1 a2 a3 a4 : Nat,
    a1 = (x 1).toNat + (x 0).toNat / 67108864 ∧ a2 = (x 2).toNat + a1 / 67108864 ∧ a3 = (x 3).toNat + a2 / 67108864 ∧ a4 = (x 4).toNat + a3 / 67108864 ∧
    (car x 0).toNat = (x 0).toNat % 67108864 + 5 * (a4 / 67108864) ∧ (car x 1).toNat = a1 % 67108864 ∧ (car x 2).toNat = a2 % 67108864 ∧ (car x 3).toNat = a3 % 67108864 ∧ (car x 4).toNat = a4 % 67108864 := by
  have h0 := h 0 (by omega)
  have h1 := h 1 (by omega)
  have h2 := h 2 (by omega)
  have h3 := h 3 (by omega)
  have h4 := h 4 (by omega)
  have e0 : (x 0 + 0#64).toNat = (x 0).toNat := by simp
  have e1 : (x 1 + (x 0 + 0#64) >>> 26).toNat = (x 1).toNat + (x 0).toNat / 67108864 := by
    rw [add_nat _ _ (by rw [shr26, e0]; omega), shr26, e0]
  have e2 : (x 2 + (x 1 + (x 0 + 0#64) >>> 26) >>> 26).toNat = (x 2).toNat + ((x 1).toNat + (x 0).toNat / 67108864) / 67108864 := by
    rw [add_nat _ _ (by rw [shr26, e1]; omega), shr26, e1]
  have e3 : (x 3 + (x 2 + (x 1 + (x 0 + 0#64) >>> 26) >>> 26) >>> 26).toNat = (x 3).toNat + ((x 2).toNat + ((x 1).toNat + (x 0).toNat / 67108864) / 67108864) / 67108864 := by
    rw [add_nat _ _ (by rw [shr26, e2]; omega), shr26, e2]
  have e4 : (x 4 + (x 3 + (x 2 + (x 1 + (x 0 + 0#64) >>> 26) >>> 26) >>> 26) >>> 26).toNat = (x 4).toNat + ((x 3).toNat + ((x 2).toNat + ((x 1).toNat + (x 0).toNat / 67108864) / 67108864) / 67108864) / 67108864 := by
    rw [add_nat _ _ (by rw [shr26, e3]; omega), shr26, e3]
  refine ⟨_, _, _, _, rfl, rfl, rfl, rfl, ?_, ?_, ?_, ?_, ?_⟩
  · show (((x 0 + 0#64) &&& 67108863#64) + 5#64 * ((x 4 + (x 3 + (x 2 + (x 1 + (x 0 + 0#64) >>> 26) >>> 26) >>> 26) >>> 26) >>> 26)).toNat = _
    have q : (5#64 * ((x 4 + (x 3 + (x 2 + (x 1 + (x 0 + 0#64) >>> 26) >>> 26) >>> 26) >>> 26) >>> 26)).toNat = 5 * (((x 4).toNat + ((x 3).toNat + ((x 2).toNat + ((x 1).toNat + (x 0).toNat / 67108864) / 67108864) / 67108864) / 67108864) / 67108864) := by
      rw [mul5 _ (by rw [shr26, e4]; omega), shr26, e4]
    rw [add_nat _ _ (by rw [and26, e0, q]; omega), and26, e0, q]
  · show ((x 1 + (x 0 + 0#64) >>> 26) &&& 67108863#64).toNat = _
    rw [and26, e1]
  · show ((x 2 + (x 1 + (x 0 + 0#64) >>> 26) >>> 26) &&& 67108863#64).toNat = _
    rw [and26, e2]
  · show ((x 3 + (x 2 + (x 1 + (x 0 + 0#64) >>> 26) >>> 26) >>> 26) &&& 67108863#64).toNat = _
    rw [and26, e3]
  · show ((x 4 + (x 3 + (x 2 + (x 1 + (x 0 + 0#64) >>> 26) >>> 26) >>> 26) >>> 26) &&& 67108863#64).toNat = _
    rw [and26, e4]
/-- It keeps the number, modulo 2^130 - 5; the limbs are short then. -/
theorem car_spec (x : Nat → B64) (h : ∀ i, i < 5 → (x i).toNat < 9223372036854775808) : ∃ o, o ≤ ((x 4).toNat + 274877906944) / 67108864 ∧ val5 x = val5 (car x) + PP * o ∧
    (car x 0).toNat < 67108864 + 5 * o ∧ (car x 1).toNat < 67108864 ∧ (car x 2).toNat < 67108864 ∧ (car x 3).toNat < 67108864 ∧ (car x 4).toNat < 67108864 := by
  obtain ⟨a1, a2, a3, a4, e1, e2, e3, e4, c0, c1, c2, c3, c4⟩ := car_nat x h
  have h0 := h 0 (by omega)
  have h1 := h 1 (by omega)
  have h2 := h 2 (by omega)
  have h3 := h 3 (by omega)
  have h4 := h 4 (by omega)
  refine ⟨a4 / 67108864, by omega, ?_, by omega, by omega, by omega, by omega, by omega⟩
  unfold val5 PP
  rw [c0, c1, c2, c3, c4]
  omega
theorem shl_nat (x : BitVec 8) (s : Nat) (h : s ≤ 24) : (x.setWidth 64 <<< s).toNat = x.toNat * 2 ^ s := by
  have hx := x.isLt
  rw [BitVec.toNat_shiftLeft, BitVec.toNat_setWidth, Nat.shiftLeft_eq, Nat.mod_eq_of_lt (show x.toNat < 2 ^ 64 by omega)]
  apply Nat.mod_eq_of_lt
  have : 2 ^ s ≤ 2 ^ 24 := Nat.pow_le_pow_right (by omega) h
  calc x.toNat * 2 ^ s ≤ 255 * 2 ^ 24 := Nat.mul_le_mul (by omega) this
    _ < 2 ^ 64 := by decide
theorem numS_spec (b : F8) : val5 (numS b) = fV b 17 ∧ ∀ i, i < 5 → (numS b i).toNat < 8589934592 := by
  have hb := fun i => (b i).isLt
  have h0 := hb 0; have h1 := hb 1; have h2 := hb 2; have h3 := hb 3; have h4 := hb 4; have h5 := hb 5; have h6 := hb 6; have h7 := hb 7; have h8 := hb 8
  have h9 := hb 9; have h10 := hb 10; have h11 := hb 11; have h12 := hb 12; have h13 := hb 13; have h14 := hb 14; have h15 := hb 15; have h16 := hb 16
  have l0 : (numS b 0).toNat = (b 0).toNat + (b 1).toNat * 256 + (b 2).toNat * 65536 + (b 3).toNat * 16777216 := by
    show (0#64 + (b 0).setWidth 64 <<< 0 + (b 1).setWidth 64 <<< 8 + (b 2).setWidth 64 <<< 16 + (b 3).setWidth 64 <<< 24).toNat = _
    simp only [BitVec.toNat_add, shl_nat _ _ (show 0 ≤ 24 by omega), shl_nat _ _ (show 8 ≤ 24 by omega), shl_nat _ _ (show 16 ≤ 24 by omega), shl_nat _ _ (show 24 ≤ 24 by omega), BitVec.toNat_ofNat]
    omega
  have l1 : (numS b 1).toNat = (b 4).toNat * 64 + (b 5).toNat * 16384 + (b 6).toNat * 4194304 := by
    show (0#64 + (b 4).setWidth 64 <<< 6 + (b 5).setWidth 64 <<< 14 + (b 6).setWidth 64 <<< 22).toNat = _
    simp only [BitVec.toNat_add, shl_nat _ _ (show 6 ≤ 24 by omega), shl_nat _ _ (show 14 ≤ 24 by omega), shl_nat _ _ (show 22 ≤ 24 by omega), BitVec.toNat_ofNat]
    omega
  have l2 : (numS b 2).toNat = (b 7).toNat * 16 + (b 8).toNat * 4096 + (b 9).toNat * 1048576 := by
    show (0#64 + (b 7).setWidth 64 <<< 4 + (b 8).setWidth 64 <<< 12 + (b 9).setWidth 64 <<< 20).toNat = _
    simp only [BitVec.toNat_add, shl_nat _ _ (show 4 ≤ 24 by omega), shl_nat _ _ (show 12 ≤ 24 by omega), shl_nat _ _ (show 20 ≤ 24 by omega), BitVec.toNat_ofNat]
    omega
  have l3 : (numS b 3).toNat = (b 10).toNat * 4 + (b 11).toNat * 1024 + (b 12).toNat * 262144 := by
    show (0#64 + (b 10).setWidth 64 <<< 2 + (b 11).setWidth 64 <<< 10 + (b 12).setWidth 64 <<< 18).toNat = _
    simp only [BitVec.toNat_add, shl_nat _ _ (show 2 ≤ 24 by omega), shl_nat _ _ (show 10 ≤ 24 by omega), shl_nat _ _ (show 18 ≤ 24 by omega), BitVec.toNat_ofNat]
    omega
  have l4 : (numS b 4).toNat = (b 13).toNat + (b 14).toNat * 256 + (b 15).toNat * 65536 + (b 16).toNat * 16777216 := by
    show (0#64 + (b 13).setWidth 64 <<< 0 + (b 14).setWidth 64 <<< 8 + (b 15).setWidth 64 <<< 16 + (b 16).setWidth 64 <<< 24).toNat = _
    simp only [BitVec.toNat_add, shl_nat _ _ (show 0 ≤ 24 by omega), shl_nat _ _ (show 8 ≤ 24 by omega), shl_nat _ _ (show 16 ≤ 24 by omega), shl_nat _ _ (show 24 ≤ 24 by omega), BitVec.toNat_ofNat]
    omega
  constructor
  · unfold val5
    rw [l0, l1, l2, l3, l4]
    simp only [fV]
    omega
  · intro i hi
    match i, hi with
    | 0, _ => rw [l0]; omega
    | 1, _ => rw [l1]; omega
    | 2, _ => rw [l2]; omega
    | 3, _ => rw [l3]; omega
    | 4, _ => rw [l4]; omega
    | i + 5, h => omega
theorem mulN (x y : B64) (hx : x.toNat < 268435456) (hy : y.toNat < 268435456) : (x * y).toNat = x.toNat * y.toNat ∧ x.toNat * y.toNat < 72057594037927936 := by
  have h : x.toNat * y.toNat < 268435456 * 268435456 := Nat.mul_lt_mul'' hx hy
  refine ⟨?_, by omega⟩
  rw [BitVec.toNat_mul]
  exact Nat.mod_eq_of_lt (by omega)
theorem mulN5 (x y : B64) (hx : x.toNat < 268435456) (hy : y.toNat < 268435456) : (5#64 * x * y).toNat = 5 * (x.toNat * y.toNat) := by
  have h : x.toNat * y.toNat < 268435456 * 268435456 := Nat.mul_lt_mul'' hx hy
  rw [BitVec.toNat_mul, mul5 _ (by omega), Nat.mul_assoc]
  exact Nat.mod_eq_of_lt (by omega)
end Go.Spec

namespace Go.Spec
theorem mul_nat (X0 X1 X2 X3 X4 Y0 Y1 Y2 Y3 Y4 : Nat) :
    (X0 + 67108864 * X1 + 4503599627370496 * X2 + 302231454903657293676544 * X3 + 20282409603651670423947251286016 * X4) * (Y0 + 67108864 * Y1 + 4503599627370496 * Y2 + 302231454903657293676544 * Y3 + 20282409603651670423947251286016 * Y4) =
    ((X0 * Y0 + 5 * (X1 * Y4) + 5 * (X2 * Y3) + 5 * (X3 * Y2) + 5 * (X4 * Y1)) + 67108864 * (X0 * Y1 + X1 * Y0 + 5 * (X2 * Y4) + 5 * (X3 * Y3) + 5 * (X4 * Y2)) + 4503599627370496 * (X0 * Y2 + X1 * Y1 + X2 * Y0 + 5 * (X3 * Y4) + 5 * (X4 * Y3)) + 302231454903657293676544 * (X0 * Y3 + X1 * Y2 + X2 * Y1 + X3 * Y0 + 5 * (X4 * Y4)) + 20282409603651670423947251286016 * (X0 * Y4 + X1 * Y3 + X2 * Y2 + X3 * Y1 + X4 * Y0)) +
    1361129467683753853853498429727072845819 * ((X1 * Y4 + X2 * Y3 + X3 * Y2 + X4 * Y1) + 67108864 * (X2 * Y4 + X3 * Y3 + X4 * Y2) + 4503599627370496 * (X3 * Y4 + X4 * Y3) + 302231454903657293676544 * (X4 * Y4)) := by
  grind
theorem mul_spec (x y : Nat → B64) (hx : ∀ i, i < 5 → (x i).toNat < 268435456) (hy : ∀ i, i < 5 → (y i).toNat < 268435456) :
    (∃ q, val5 x * val5 y = val5 (mulS x y) + PP * q) ∧ ∀ i, i < 5 → (mulS x y i).toNat < 2305843009213693952 := by
  have P := fun i j (hi : i < 5) (hj : j < 5) => mulN (x i) (y j) (hx i hi) (hy j hj)
  have Q := fun i j (hi : i < 5) (hj : j < 5) => mulN5 (x i) (y j) (hx i hi) (hy j hj)
  have b00 := (P 0 0 (by omega) (by omega)).2
  have b01 := (P 0 1 (by omega) (by omega)).2
  have b02 := (P 0 2 (by omega) (by omega)).2
  have b03 := (P 0 3 (by omega) (by omega)).2
  have b04 := (P 0 4 (by omega) (by omega)).2
  have b10 := (P 1 0 (by omega) (by omega)).2
  have b11 := (P 1 1 (by omega) (by omega)).2
  have b12 := (P 1 2 (by omega) (by omega)).2
  have b13q := (P 1 3 (by omega) (by omega)).2
  have b14q := (P 1 4 (by omega) (by omega)).2
  have b20 := (P 2 0 (by omega) (by omega)).2
  have b21 := (P 2 1 (by omega) (by omega)).2
  have b22 := (P 2 2 (by omega) (by omega)).2
  have b23 := (P 2 3 (by omega) (by omega)).2
  have b24 := (P 2 4 (by omega) (by omega)).2
  have b30q := (P 3 0 (by omega) (by omega)).2
  have b31q := (P 3 1 (by omega) (by omega)).2
  have b32 := (P 3 2 (by omega) (by omega)).2
  have b33q := (P 3 3 (by omega) (by omega)).2
  have b34 := (P 3 4 (by omega) (by omega)).2
  have b40 := (P 4 0 (by omega) (by omega)).2
  have b41 := (P 4 1 (by omega) (by omega)).2
  have b42 := (P 4 2 (by omega) (by omega)).2
  have b43 := (P 4 3 (by omega) (by omega)).2
  have b44 := (P 4 4 (by omega) (by omega)).2
  have l0 : (mulS x y 0).toNat = (x 0).toNat * (y 0).toNat + 5 * ((x 1).toNat * (y 4).toNat) + 5 * ((x 2).toNat * (y 3).toNat) + 5 * ((x 3).toNat * (y 2).toNat) + 5 * ((x 4).toNat * (y 1).toNat) := by
    show (0#64 + x 0 * y 0 + 5#64 * x 1 * y 4 + 5#64 * x 2 * y 3 + 5#64 * x 3 * y 2 + 5#64 * x 4 * y 1).toNat = _
    rw [BitVec.toNat_add, BitVec.toNat_add, BitVec.toNat_add, BitVec.toNat_add, BitVec.toNat_add, (P 0 0 (by omega) (by omega)).1, Q 1 4 (by omega) (by omega), Q 2 3 (by omega) (by omega), Q 3 2 (by omega) (by omega), Q 4 1 (by omega) (by omega), BitVec.toNat_ofNat]
    omega
  have l1 : (mulS x y 1).toNat = (x 0).toNat * (y 1).toNat + (x 1).toNat * (y 0).toNat + 5 * ((x 2).toNat * (y 4).toNat) + 5 * ((x 3).toNat * (y 3).toNat) + 5 * ((x 4).toNat * (y 2).toNat) := by
    show (0#64 + x 0 * y 1 + x 1 * y 0 + 5#64 * x 2 * y 4 + 5#64 * x 3 * y 3 + 5#64 * x 4 * y 2).toNat = _
    rw [BitVec.toNat_add, BitVec.toNat_add, BitVec.toNat_add, BitVec.toNat_add, BitVec.toNat_add, (P 0 1 (by omega) (by omega)).1, (P 1 0 (by omega) (by omega)).1, Q 2 4 (by omega) (by omega), Q 3 3 (by omega) (by omega), Q 4 2 (by omega) (by omega), BitVec.toNat_ofNat]
    omega
  have l2 : (mulS x y 2).toNat = (x 0).toNat * (y 2).toNat + (x 1).toNat * (y 1).toNat + (x 2).toNat * (y 0).toNat + 5 * ((x 3).toNat * (y 4).toNat) + 5 * ((x 4).toNat * (y 3).toNat) := by
    show (0#64 + x 0 * y 2 + x 1 * y 1 + x 2 * y 0 + 5#64 * x 3 * y 4 + 5#64 * x 4 * y 3).toNat = _
    rw [BitVec.toNat_add, BitVec.toNat_add, BitVec.toNat_add, BitVec.toNat_add, BitVec.toNat_add, (P 0 2 (by omega) (by omega)).1, (P 1 1 (by omega) (by omega)).1, (P 2 0 (by omega) (by omega)).1, Q 3 4 (by omega) (by omega), Q 4 3 (by omega) (by omega), BitVec.toNat_ofNat]
    omega
  have l3 : (mulS x y 3).toNat = (x 0).toNat * (y 3).toNat + (x 1).toNat * (y 2).toNat + (x 2).toNat * (y 1).toNat + (x 3).toNat * (y 0).toNat + 5 * ((x 4).toNat * (y 4).toNat) := by
    show (0#64 + x 0 * y 3 + x 1 * y 2 + x 2 * y 1 + x 3 * y 0 + 5#64 * x 4 * y 4).toNat = _
    rw [BitVec.toNat_add, BitVec.toNat_add, BitVec.toNat_add, BitVec.toNat_add, BitVec.toNat_add, (P 0 3 (by omega) (by omega)).1, (P 1 2 (by omega) (by omega)).1, (P 2 1 (by omega) (by omega)).1, (P 3 0 (by omega) (by omega)).1, Q 4 4 (by omega) (by omega), BitVec.toNat_ofNat]
    omega
  have l4 : (mulS x y 4).toNat = (x 0).toNat * (y 4).toNat + (x 1).toNat * (y 3).toNat + (x 2).toNat * (y 2).toNat + (x 3).toNat * (y 1).toNat + (x 4).toNat * (y 0).toNat := by
    show (0#64 + x 0 * y 4 + x 1 * y 3 + x 2 * y 2 + x 3 * y 1 + x 4 * y 0).toNat = _
    rw [BitVec.toNat_add, BitVec.toNat_add, BitVec.toNat_add, BitVec.toNat_add, BitVec.toNat_add, (P 0 4 (by omega) (by omega)).1, (P 1 3 (by omega) (by omega)).1, (P 2 2 (by omega) (by omega)).1, (P 3 1 (by omega) (by omega)).1, (P 4 0 (by omega) (by omega)).1, BitVec.toNat_ofNat]
    omega
  constructor
  · have e := mul_nat (x 0).toNat (x 1).toNat (x 2).toNat (x 3).toNat (x 4).toNat (y 0).toNat (y 1).toNat (y 2).toNat (y 3).toNat (y 4).toNat
    rw [← l0, ← l1, ← l2, ← l3, ← l4] at e
    exact ⟨_, e⟩
  · intro i hi
    match i, hi with
    | 0, _ => rw [l0]; omega
    | 1, _ => rw [l1]; omega
    | 2, _ => rw [l2]; omega
    | 3, _ => rw [l3]; omega
    | 4, _ => rw [l4]; omega
    | i + 5, h => omega
/-- Limbs that are as long as they may be between steps. -/
def okL (x : Nat → B64) : Prop := (x 0).toNat < 67109888 ∧ (x 1).toNat < 67108864 ∧ (x 2).toNat < 67108864 ∧ (x 3).toNat < 67108864 ∧ (x 4).toNat < 67108864
theorem lt5 {P : Nat → Prop} (h0 : P 0) (h1 : P 1) (h2 : P 2) (h3 : P 3) (h4 : P 4) : ∀ i, i < 5 → P i := by
  intro i hi
  match i, hi with
  | 0, _ => exact h0
  | 1, _ => exact h1
  | 2, _ => exact h2
  | 3, _ => exact h3
  | 4, _ => exact h4
  | i + 5, h => omega
theorem num_ok (b : F8) : okL (car (numS b)) ∧ ∃ o, fV b 17 = val5 (car (numS b)) + PP * o := by
  obtain ⟨hv, hl⟩ := numS_spec b
  obtain ⟨o, ho, h1, h2, h3, h4, h5, h6⟩ := car_spec (numS b) (fun i hi => by have := hl i hi; omega)
  have k0 := hl 0 (by omega)
  have k1 := hl 1 (by omega)
  have k2 := hl 2 (by omega)
  have k3 := hl 3 (by omega)
  have k4 := hl 4 (by omega)
  obtain ⟨a1, a2, a3, a4, e1, e2, e3, e4, c0, _⟩ := car_nat (numS b) (fun i hi => by have := hl i hi; omega)
  refine ⟨⟨by omega, h3, h4, h5, h6⟩, o, by rw [← hv]; exact h1⟩
/-- A sum, times r: again such limbs, and the number modulo 2^130 - 5. -/
theorem step_ok (n p r : Nat → B64) (hn : okL n) (hp : okL p) (hr : okL r) : okL (car (car (mulS (plusS n p) r))) ∧ ∃ q, (val5 n + val5 p) * val5 r = val5 (car (car (mulS (plusS n p) r))) + PP * q := by
  obtain ⟨n0, n1, n2, n3, n4⟩ := hn
  obtain ⟨p0, p1, p2, p3, p4⟩ := hp
  obtain ⟨r0, r1, r2, r3, r4⟩ := hr
  have s0 : (plusS n p 0).toNat = (n 0).toNat + (p 0).toNat := add_nat _ _ (by omega)
  have s1 : (plusS n p 1).toNat = (n 1).toNat + (p 1).toNat := add_nat _ _ (by omega)
  have s2 : (plusS n p 2).toNat = (n 2).toNat + (p 2).toNat := add_nat _ _ (by omega)
  have s3 : (plusS n p 3).toNat = (n 3).toNat + (p 3).toNat := add_nat _ _ (by omega)
  have s4 : (plusS n p 4).toNat = (n 4).toNat + (p 4).toNat := add_nat _ _ (by omega)
  have hv : val5 (plusS n p) = val5 n + val5 p := by
    unfold val5; rw [s0, s1, s2, s3, s4]; omega
  obtain ⟨⟨q, hq⟩, hm⟩ := mul_spec (plusS n p) r (lt5 (by omega) (by omega) (by omega) (by omega) (by omega)) (lt5 (by omega) (by omega) (by omega) (by omega) (by omega))
  generalize mulS (plusS n p) r = m at *
  obtain ⟨o, ho, h1, h2, h3, h4, h5, h6⟩ := car_spec m (fun i hi => by have := hm i hi; omega)
  have m4 := hm 4 (by omega)
  have hc : ∀ i, i < 5 → (car m i).toNat < 9223372036854775808 := lt5 (by omega) (by omega) (by omega) (by omega) (by omega)
  obtain ⟨o2, _, g1, _, g3, g4, g5, g6⟩ := car_spec (car m) hc
  obtain ⟨a1, a2, a3, a4, e1, e2, e3, e4, c0, _⟩ := car_nat (car m) hc
  refine ⟨⟨by omega, g3, g4, g5, g6⟩, q + o + o2, ?_⟩
  rw [← hv, hq, h1, g1, Nat.mul_add, Nat.mul_add]
  omega
end Go.Spec

namespace Go.Spec
/-- Limbs of 26 bits. -/
def okS (x : Nat → B64) : Prop := (x 0).toNat < 67108864 ∧ (x 1).toNat < 67108864 ∧ (x 2).toNat < 67108864 ∧ (x 3).toNat < 67108864 ∧ (x 4).toNat < 67108864
theorem least_ok (x : Nat → B64) (h : okL x) : okS (leastS x) ∧ val5 (leastS x) = val5 x % PP := by
  obtain ⟨n0, n1, n2, n3, n4⟩ := h
  obtain ⟨a1, a2, a3, a4, e1, e2, e3, e4, c0, c1, c2, c3, c4⟩ := car_nat x (lt5 (by omega) (by omega) (by omega) (by omega) (by omega))
  obtain ⟨o, _, v, _⟩ := car_spec x (lt5 (by omega) (by omega) (by omega) (by omega) (by omega))
  have k0 : (car x 0).toNat < 67108864 := by omega
  have k1 : (car x 1).toNat < 67108864 := by omega
  have k2 : (car x 2).toNat < 67108864 := by omega
  have k3 : (car x 3).toNat < 67108864 := by omega
  have k4 : (car x 4).toNat < 67108864 := by omega
  have hm : val5 x % PP = val5 (car x) % PP := by rw [v, Nat.add_mul_mod_self_left]
  rw [hm]
  unfold leastS redQ
  generalize car x = y at *
  clear c0 c1 c2 c3 c4 v hm
  have r0 : (redC y 0).toNat = (y 0).toNat + 5 := add_nat _ _ (by simp; omega)
  have r1 : (redC y 1).toNat = (y 1).toNat + ((y 0).toNat + 5) / 67108864 := by
    show (y 1 + (redC y 0) >>> 26).toNat = _
    rw [add_nat _ _ (by rw [shr26, r0]; omega), shr26, r0]
  have r2 : (redC y 2).toNat = (y 2).toNat + ((y 1).toNat + ((y 0).toNat + 5) / 67108864) / 67108864 := by
    show (y 2 + (redC y 1) >>> 26).toNat = _
    rw [add_nat _ _ (by rw [shr26, r1]; omega), shr26, r1]
  have r3 : (redC y 3).toNat = (y 3).toNat + ((y 2).toNat + ((y 1).toNat + ((y 0).toNat + 5) / 67108864) / 67108864) / 67108864 := by
    show (y 3 + (redC y 2) >>> 26).toNat = _
    rw [add_nat _ _ (by rw [shr26, r2]; omega), shr26, r2]
  have r4 : (redC y 4).toNat = (y 4).toNat + ((y 3).toNat + ((y 2).toNat + ((y 1).toNat + ((y 0).toNat + 5) / 67108864) / 67108864) / 67108864) / 67108864 := by
    show (y 4 + (redC y 3) >>> 26).toNat = _
    rw [add_nat _ _ (by rw [shr26, r3]; omega), shr26, r3]
  have hz : (redC y 4 >>> 26 = 0#64) ↔ (redC y 4).toNat / 67108864 = 0 := by
    rw [← shr26]
    constructor
    · intro h; rw [h]; rfl
    · intro h; exact BitVec.eq_of_toNat_eq (by rw [h]; rfl)
  by_cases hc : redC y 4 >>> 26 = 0#64
  · have hd := hz.1 hc
    simp only [hc, decide_true, Bool.not_true]
    refine ⟨⟨k0, k1, k2, k3, k4⟩, ?_⟩
    have hlt : val5 y < PP := by unfold val5 PP; omega
    rw [Nat.mod_eq_of_lt hlt]
  · have hd : ¬ (redC y 4).toNat / 67108864 = 0 := fun h => hc (hz.2 h)
    simp only [hc, decide_false, Bool.not_false]
    have s0 : (redS y 0).toNat = (redC y 0).toNat % 67108864 := and26 _
    have s1 : (redS y 1).toNat = (redC y 1).toNat % 67108864 := and26 _
    have s2 : (redS y 2).toNat = (redC y 2).toNat % 67108864 := and26 _
    have s3 : (redS y 3).toNat = (redC y 3).toNat % 67108864 := and26 _
    have s4 : (redS y 4).toNat = (redC y 4).toNat % 67108864 := and26 _
    refine ⟨⟨by omega, by omega, by omega, by omega, by omega⟩, ?_⟩
    have hv : val5 y = val5 (redS y) + PP := by
      unfold val5 PP
      rw [s0, s1, s2, s3, s4, r0, r1, r2, r3, r4]
      rw [r4] at hd
      omega
    have hlt : val5 (redS y) < PP := by
      have : val5 y < 2 * PP := by unfold val5 PP; omega
      omega
    rw [hv, Nat.add_mod_right, Nat.mod_eq_of_lt hlt]
theorem or_lt {a b t : Nat} (h : a < 2 ^ t) : a ||| b * 2 ^ t = a + b * 2 ^ t := by
  rw [Nat.or_comm, or_add h, Nat.add_comm]
/-- Two limbs' part of a byte. -/
theorem byte2 (x y : B64) (s : Nat) (hs : s < 26) (hs2 : s ≤ 24) (hx : x.toNat < 67108864) (hy : y.toNat < 67108864) : ((x >>> s ||| y <<< (26 - s)).setWidth 8).toNat = (x.toNat / 2 ^ s + y.toNat * 2 ^ (26 - s)) % 256 := by
  have hp : 2 ^ (26 - s) * 2 ^ s = 67108864 := by rw [← Nat.pow_add, show 26 - s + s = 26 by omega]
  have h1 : x.toNat / 2 ^ s < 2 ^ (26 - s) := by
    rw [Nat.div_lt_iff_lt_mul (Nat.pow_pos (by omega)), hp]; exact hx
  have h2 : 2 ^ (26 - s) ≤ 2 ^ 26 := Nat.pow_le_pow_right (by omega) (by omega)
  have h3 : y.toNat * 2 ^ (26 - s) < 2 ^ 64 := by
    calc y.toNat * 2 ^ (26 - s) ≤ 67108864 * 2 ^ 26 := Nat.mul_le_mul (by omega) h2
      _ < 2 ^ 64 := by decide
  rw [BitVec.toNat_setWidth, BitVec.toNat_or, BitVec.toNat_ushiftRight, BitVec.toNat_shiftLeft, Nat.shiftRight_eq_div_pow, Nat.shiftLeft_eq, Nat.mod_eq_of_lt h3, or_lt h1]
theorem byte_ok (y : Nat → B64) (h : okS y) : ∀ i, i < 16 → (byteS y i).toNat = val5 y / 256 ^ i % 256 := by
  obtain ⟨n0, n1, n2, n3, n4⟩ := h
  have e : ∀ i, i < 16 → byteS y i = if 8 * i / 26 + 1 < 5 then (y (8 * i / 26) >>> (8 * i % 26) ||| y (8 * i / 26 + 1) <<< (26 - 8 * i % 26)).setWidth 8 else (y (8 * i / 26) >>> (8 * i % 26)).setWidth 8 := fun _ _ => rfl
  apply lt16
  case h0 => show ((y 0 >>> 0 ||| y 1 <<< 26).setWidth 8).toNat = _; rw [byte2 _ _ 0 (by omega) (by omega) n0 n1]; unfold val5; omega
  case h1 => show ((y 0 >>> 8 ||| y 1 <<< 18).setWidth 8).toNat = _; rw [byte2 _ _ 8 (by omega) (by omega) n0 n1]; unfold val5; omega
  case h2 => show ((y 0 >>> 16 ||| y 1 <<< 10).setWidth 8).toNat = _; rw [byte2 _ _ 16 (by omega) (by omega) n0 n1]; unfold val5; omega
  case h3 => show ((y 0 >>> 24 ||| y 1 <<< 2).setWidth 8).toNat = _; rw [byte2 _ _ 24 (by omega) (by omega) n0 n1]; unfold val5; omega
  case h4 => show ((y 1 >>> 6 ||| y 2 <<< 20).setWidth 8).toNat = _; rw [byte2 _ _ 6 (by omega) (by omega) n1 n2]; unfold val5; omega
  case h5 => show ((y 1 >>> 14 ||| y 2 <<< 12).setWidth 8).toNat = _; rw [byte2 _ _ 14 (by omega) (by omega) n1 n2]; unfold val5; omega
  case h6 => show ((y 1 >>> 22 ||| y 2 <<< 4).setWidth 8).toNat = _; rw [byte2 _ _ 22 (by omega) (by omega) n1 n2]; unfold val5; omega
  case h7 => show ((y 2 >>> 4 ||| y 3 <<< 22).setWidth 8).toNat = _; rw [byte2 _ _ 4 (by omega) (by omega) n2 n3]; unfold val5; omega
  case h8 => show ((y 2 >>> 12 ||| y 3 <<< 14).setWidth 8).toNat = _; rw [byte2 _ _ 12 (by omega) (by omega) n2 n3]; unfold val5; omega
  case h9 => show ((y 2 >>> 20 ||| y 3 <<< 6).setWidth 8).toNat = _; rw [byte2 _ _ 20 (by omega) (by omega) n2 n3]; unfold val5; omega
  case h10 => show ((y 3 >>> 2 ||| y 4 <<< 24).setWidth 8).toNat = _; rw [byte2 _ _ 2 (by omega) (by omega) n3 n4]; unfold val5; omega
  case h11 => show ((y 3 >>> 10 ||| y 4 <<< 16).setWidth 8).toNat = _; rw [byte2 _ _ 10 (by omega) (by omega) n3 n4]; unfold val5; omega
  case h12 => show ((y 3 >>> 18 ||| y 4 <<< 8).setWidth 8).toNat = _; rw [byte2 _ _ 18 (by omega) (by omega) n3 n4]; unfold val5; omega
  case h13 => show ((y 4 >>> 0).setWidth 8).toNat = _; rw [BitVec.toNat_setWidth, BitVec.toNat_ushiftRight, Nat.shiftRight_eq_div_pow]; unfold val5; omega
  case h14 => show ((y 4 >>> 8).setWidth 8).toNat = _; rw [BitVec.toNat_setWidth, BitVec.toNat_ushiftRight, Nat.shiftRight_eq_div_pow]; unfold val5; omega
  case h15 => show ((y 4 >>> 16).setWidth 8).toNat = _; rw [BitVec.toNat_setWidth, BitVec.toNat_ushiftRight, Nat.shiftRight_eq_div_pow]; unfold val5; omega
end Go.Spec

/- The document's numbers of bytes: carrying, and cutting to 2^130 - 5. -/
namespace Go.Spec
abbrev FN := Nat → Nat
/-- The number of n cells, each 256 times the one ahead. -/
def V (f : FN) : Nat → Nat
  | 0 => 0
  | n + 1 => V f n + f n * 256 ^ n
theorem V_congr {f g : FN} : ∀ n, (∀ i, i < n → f i = g i) → V f n = V g n
  | 0, _ => rfl
  | n + 1, h => by simp only [V]; rw [V_congr n (fun i hi => h i (by omega)), h n (by omega)]
theorem V_add (f g : FN) : ∀ n, V (fun i => f i + g i) n = V f n + V g n
  | 0 => rfl
  | n + 1 => by simp only [V]; rw [V_add f g n, Nat.add_mul]; omega
theorem V_mul (c : Nat) (f : FN) : ∀ n, V (fun i => c * f i) n = c * V f n
  | 0 => rfl
  | n + 1 => by simp only [V]; rw [V_mul c f n, Nat.mul_add, Nat.mul_assoc]
theorem V_lt (f : FN) : ∀ n, (∀ i, i < n → f i < 256) → V f n < 256 ^ n
  | 0, _ => by simp [V]
  | n + 1, h => by
    have h1 := V_lt f n (fun i hi => h i (by omega))
    have h2 := h n (by omega)
    have h3 : f n * 256 ^ n ≤ 255 * 256 ^ n := Nat.mul_le_mul_right _ (by omega)
    simp only [V]
    rw [Nat.pow_succ]
    omega
theorem V_shift (f : FN) (m : Nat) : ∀ n, V f (m + n) = V f m + 256 ^ m * V (fun i => f (m + i)) n
  | 0 => by simp [V]
  | n + 1 => by
    rw [← Nat.add_assoc]
    simp only [V]
    rw [V_shift f m n, Nat.mul_add, Nat.pow_add, Nat.mul_left_comm, Nat.mul_comm (f (m + n))]
    omega
/-- A byte of a number of bytes. -/
theorem V_byte (f : FN) (n i : Nat) (hi : i < n) (h : ∀ j, j < n → f j < 256) : V f n / 256 ^ i % 256 = f i := by
  obtain ⟨m, rfl⟩ := Nat.exists_eq_add_of_le (show i + 1 ≤ n by omega)
  have h1 := V_lt f i (fun j hj => h j (by omega))
  have h2 := h i (by omega)
  rw [V_shift f (i + 1) m]
  simp only [V]
  have e : V f i + f i * 256 ^ i + 256 ^ (i + 1) * V (fun j => f (i + 1 + j)) m = V f i + 256 ^ i * (f i + 256 * V (fun j => f (i + 1 + j)) m) := by
    rw [Nat.pow_succ, Nat.mul_add, Nat.mul_comm (f i), Nat.mul_assoc]; omega
  rw [e, Nat.add_mul_div_left _ _ (Nat.pow_pos (by omega)), Nat.div_eq_of_lt h1, Nat.zero_add]
  omega
/-- What comes to a cell by carrying. -/
def cc (f : FN) : Nat → Nat
  | 0 => f 0
  | y + 1 => f (y + 1) + cc f y / 256
def carr (f : FN) : FN := fun y => if y < 39 then cc f y % 256 else cc f y
theorem cc_val (f : FN) : ∀ n, V (fun y => cc f y % 256) n + cc f n * 256 ^ n = V f (n + 1)
  | 0 => by simp [V, cc]
  | n + 1 => by
    have ih := cc_val f n
    have e : V f (n + 1 + 1) = V f (n + 1) + f (n + 1) * 256 ^ (n + 1) := rfl
    rw [e, ← ih]
    simp only [V, cc]
    rw [Nat.add_mul, Nat.pow_succ]
    have e2 : cc f n * 256 ^ n = cc f n % 256 * 256 ^ n + cc f n / 256 * (256 ^ n * 256) := by
      rw [Nat.mul_comm (256 ^ n) 256, ← Nat.mul_assoc, ← Nat.add_mul]
      congr 1
      omega
    omega
theorem carr_val (f : FN) : V (carr f) 40 = V f 40 := by
  have h := cc_val f 39
  have e : V (carr f) 40 = V (carr f) 39 + carr f 39 * 256 ^ 39 := rfl
  have e1 : V (carr f) 39 = V (fun y => cc f y % 256) 39 := V_congr 39 fun i hi => by unfold carr; rw [if_pos hi]
  have e2 : carr f 39 = cc f 39 := by unfold carr; rw [if_neg (by omega)]
  rw [e, e1, e2, h]
/-- What is beyond 130 bits, of the cells below i. -/
def hi (g : FN) (i : Nat) : FN := fun y => (if y + 16 < i then g (y + 16) / 4 else 0) + (if y + 17 < i then g (y + 17) % 4 * 64 else 0)
/-- What is left there. -/
def lo (g : FN) (i : Nat) : FN := fun y => if y < 16 then g y else if i ≤ y then g y else if y = 16 then g 16 % 4 else 0
def rndF (f : FN) : FN := fun y => lo (carr f) 40 y + 5 * hi (carr f) 40 y
theorem V_zero : ∀ n, V (fun _ => 0) n = 0
  | 0 => rfl
  | n + 1 => by simp [V, V_zero n]
theorem four_up (q r w : Nat) : (4 * q + r) * (w * 256) = 4 * (q * (w * 256)) + 4 * (r * 64) * w := by grind
theorem fold_key (g : FN) : ∀ n, n + 1 ≤ 24 → V (fun i => g (16 + i)) (n + 1) + (if n + 1 < 24 then 4 * (g (16 + (n + 1)) % 4 * 64) * 256 ^ n else 0) = g 16 % 4 + 4 * V (hi g 40) (n + 1) := by
  intro n
  induction n with
  | zero =>
    intro _
    simp [V, hi]
    omega
  | succ n ih =>
    intro hn
    have ih := ih (by omega)
    rw [if_pos (by omega)] at ih
    have a1 : V (fun i => g (16 + i)) (n + 1 + 1) = V (fun i => g (16 + i)) (n + 1) + g (16 + (n + 1)) * 256 ^ (n + 1) := rfl
    have a2 : V (hi g 40) (n + 1 + 1) = V (hi g 40) (n + 1) + hi g 40 (n + 1) * 256 ^ (n + 1) := rfl
    have a3 : hi g 40 (n + 1) = g (16 + (n + 1)) / 4 + (if n + 1 + 1 < 24 then g (16 + (n + 1 + 1)) % 4 * 64 else 0) := by
      unfold hi
      rw [if_pos (by omega)]
      by_cases h : n + 1 + 1 < 24
      · rw [if_pos h, if_pos (by omega), show n + 1 + 16 = 16 + (n + 1) by omega, show n + 1 + 17 = 16 + (n + 1 + 1) by omega]
      · rw [if_neg h, if_neg (by omega), show n + 1 + 16 = 16 + (n + 1) by omega]
    have a4 : g (16 + (n + 1)) * 256 ^ (n + 1) = 4 * (g (16 + (n + 1)) / 4 * 256 ^ (n + 1)) + 4 * (g (16 + (n + 1)) % 4 * 64) * 256 ^ n := by
      have h := four_up (g (16 + (n + 1)) / 4) (g (16 + (n + 1)) % 4) (256 ^ n)
      rw [Nat.div_add_mod] at h
      rw [Nat.pow_succ]
      exact h
    rw [a1, a2, a3, Nat.mul_add, Nat.add_mul, Nat.mul_add]
    by_cases h : n + 1 + 1 < 24
    · rw [if_pos h, if_pos h]
      have a5 : 4 * (g (16 + (n + 1 + 1)) % 4 * 64) * 256 ^ (n + 1) = 4 * (g (16 + (n + 1 + 1)) % 4 * 64 * 256 ^ (n + 1)) := by rw [Nat.mul_assoc]
      generalize 256 ^ (n + 1) = w at *
      omega
    · rw [if_neg h, if_neg h]
      generalize 256 ^ (n + 1) = w at *
      omega
theorem V_two (f : FN) (m n : Nat) (h : ∀ i, m ≤ i → i < m + n → f i = 0) : V f (m + n) = V f m := by
  rw [V_shift, V_congr n (g := fun _ => 0) (fun i hi => h _ (by omega) (by omega)), V_zero, Nat.mul_zero, Nat.add_zero]
theorem lo_val (g : FN) : V (lo g 40) 40 = V g 16 + 256 ^ 16 * (g 16 % 4) := by
  have e : V (lo g 40) (17 + 23) = V (lo g 40) 17 := V_two (lo g 40) 17 23 fun i h h2 => by
    unfold lo
    rw [if_neg (by omega), if_neg (by omega), if_neg (by omega)]
  have e2 : V (lo g 40) 17 = V (lo g 40) 16 + lo g 40 16 * 256 ^ 16 := rfl
  have e3 : V (lo g 40) 16 = V g 16 := V_congr 16 fun i hi => by unfold lo; rw [if_pos hi]
  have e4 : lo g 40 16 = g 16 % 4 := by simp [lo]
  rw [e2, e3, e4, Nat.mul_comm (g 16 % 4)] at e
  exact e
theorem hi_val (g : FN) : V (hi g 40) 40 = V (hi g 40) 24 := by
  have e : V (hi g 40) (24 + 16) = V (hi g 40) 24 := V_two (hi g 40) 24 16 fun i h _ => by
    unfold hi
    rw [if_neg (by omega), if_neg (by omega)]
  exact e
theorem V_shift' (f : FN) (m n k : Nat) (h : k = m + n) : V f k = V f m + 256 ^ m * V (fun i => f (m + i)) n := by
  subst h
  exact V_shift f m n
theorem fold_key24 (g : FN) (m : Nat) (hm : m = 24) : V (fun i => g (16 + i)) m = g 16 % 4 + 4 * V (hi g 40) m := by
  obtain ⟨n, rfl⟩ : ∃ n, m = n + 1 := ⟨23, by omega⟩
  have h := fold_key g n (by omega)
  rw [if_neg (by omega), Nat.add_zero] at h
  exact h
theorem fold_num (a b h l : Nat) (hl : l = a + 256 ^ 16 * b) : a + 256 ^ 16 * (b + 4 * h) = l + 1361129467683753853853498429727072845824 * h := by
  subst hl
  omega
theorem fold_val (g : FN) : V g 40 = V (lo g 40) 40 + 1361129467683753853853498429727072845824 * V (hi g 40) 40 := by
  rw [V_shift' g 16 24 40 (by omega), fold_key24 g 24 rfl, hi_val]
  exact fold_num _ _ _ _ (lo_val g)
/-- Cells that are as long as they may be. -/
def okF (f : FN) : Prop := ∀ y, y < 40 → f y < 8388608
theorem cc_lt (f : FN) (h : okF f) : ∀ y, y < 40 → cc f y < 8421505
  | 0, _ => by have := h 0 (by omega); simp only [cc]; omega
  | y + 1, hy => by
    have h1 := cc_lt f h y (by omega)
    have h2 := h (y + 1) hy
    simp only [cc]
    omega
def okT (f : FN) : Prop := f 39 = 0 ∧ f 38 = 0
theorem hi_lt (f : FN) (h : okF f) (ht : okT f) : ∀ y, y < 40 → hi (carr f) 40 y < 65536 := by
  intro y hy
  have hc := cc_lt f h
  have h38 := hc 37 (by omega)
  have e38 : cc f 38 = f 38 + cc f 37 / 256 := rfl
  have e39 : cc f 39 = f 39 + cc f 38 / 256 := rfl
  have g39 : carr f 39 < 65536 := by
    unfold carr; rw [if_neg (by omega), e39, e38, ht.1, ht.2]; omega
  have g : ∀ z, z < 39 → carr f z < 256 := fun z hz => by unfold carr; rw [if_pos hz]; omega
  unfold hi
  by_cases h1 : y + 16 < 40
  · rw [if_pos h1]
    by_cases h2 : y + 17 < 40
    · rw [if_pos h2]
      have := g (y + 16) (by omega)
      omega
    · rw [if_neg h2]
      obtain rfl : y = 23 := by omega
      have g40 : carr f (23 + 16) < 65536 := g39
      omega
  · rw [if_neg h1, if_neg (by omega)]
    omega
theorem rnd_ok (f : FN) (h : okF f) (ht : okT f) : okF (rndF f) ∧ okT (rndF f) := by
  have hh := hi_lt f h ht
  have g : ∀ z, z < 39 → carr f z < 256 := fun z hz => by unfold carr; rw [if_pos hz]; omega
  refine ⟨fun y hy => ?_, ?_, ?_⟩
  · have := hh y hy
    have hl : lo (carr f) 40 y < 256 := by
      unfold lo
      by_cases h1 : y < 16
      · rw [if_pos h1]; exact g y (by omega)
      · rw [if_neg h1, if_neg (by omega)]
        split <;> omega
    unfold rndF
    omega
  · simp [rndF, lo, hi]
  · simp [rndF, lo, hi]
theorem rnd_val (f : FN) : V (rndF f) 40 = V f 40 % 1361129467683753853853498429727072845824 + 5 * (V f 40 / 1361129467683753853853498429727072845824) := by
  have e := fold_val (carr f)
  rw [carr_val] at e
  have g : ∀ z, z < 39 → carr f z < 256 := fun z hz => by unfold carr; rw [if_pos hz]; omega
  have hl : V (lo (carr f) 40) 40 < 1361129467683753853853498429727072845824 := by
    have e3 : V (carr f) 16 < 256 ^ 16 := V_lt _ 16 fun i hi => g i (by omega)
    rw [lo_val]
    omega
  have er : V (rndF f) 40 = V (lo (carr f) 40) 40 + 5 * V (hi (carr f) 40) 40 := by
    unfold rndF
    rw [V_add, V_mul]
  rw [er]
  generalize V (lo (carr f) 40) 40 = a at *
  generalize V (hi (carr f) 40) 40 = b at *
  omega
def rndk : Nat → FN → FN
  | 0, f => f
  | k + 1, f => rndF (rndk k f)
theorem rndk_ok (f : FN) (h : okF f) (ht : okT f) : ∀ k, okF (rndk k f) ∧ okT (rndk k f)
  | 0 => ⟨h, ht⟩
  | k + 1 => rnd_ok _ (rndk_ok f h ht k).1 (rndk_ok f h ht k).2
theorem V_small (f : FN) : ∀ n, (∀ y, y < n → f y < 8388608) → V f n < 8388608 * 256 ^ n
  | 0, _ => by simp [V]
  | n + 1, h => by
    have h1 := V_small f n (fun y hy => h y (by omega))
    have h2 := h n (by omega)
    have h3 : f n * 256 ^ n ≤ 8388607 * 256 ^ n := Nat.mul_le_mul_right _ (by omega)
    simp only [V]
    rw [Nat.pow_succ]
    generalize 256 ^ n = w at *
    omega
/-- Four rounds: the number is below 2^130, and the same modulo 2^130 - 5. -/
theorem rnd4 (f : FN) (h : okF f) : V (rndk 4 f) 40 < 1361129467683753853853498429727072845824 ∧ V (rndk 4 f) 40 % PP = V f 40 % PP := by
  have h0 := V_small f 40 h
  have e1 : V (rndk 1 f) 40 = _ := rnd_val (rndk 0 f)
  have e2 : V (rndk 2 f) 40 = _ := rnd_val (rndk 1 f)
  have e3 : V (rndk 3 f) 40 = _ := rnd_val (rndk 2 f)
  have e4 : V (rndk 4 f) 40 = _ := rnd_val (rndk 3 f)
  have e0 : V (rndk 0 f) 40 = V f 40 := rfl
  rw [e0] at e1
  unfold PP
  generalize V f 40 = n0 at *
  generalize V (rndk 1 f) 40 = n1 at *
  generalize V (rndk 2 f) 40 = n2 at *
  generalize V (rndk 3 f) 40 = n3 at *
  generalize V (rndk 4 f) 40 = n4 at *
  constructor
  · have a1 : n1 / 1361129467683753853853498429727072845824 < 2 ^ 90 := by omega
    have a2 : n2 / 1361129467683753853853498429727072845824 ≤ 1 := by omega
    omega
  · omega
/-- A digit. -/
def dg (N i : Nat) : Nat := N / 256 ^ i % 256
theorem V_dg (N : Nat) : ∀ i, V (dg N) i = N % 256 ^ i
  | 0 => by simp [V, Nat.mod_one]
  | i + 1 => by
    simp only [V]
    rw [V_dg N i, Nat.pow_succ, Nat.mod_mul]
    unfold dg
    rw [Nat.mul_comm (N / 256 ^ i % 256)]
theorem out_dg (f : FN) (h : V f 40 < 1361129467683753853853498429727072845824) : ∀ y, y < 17 → carr f y = dg (V f 40) y := by
  intro y hy
  have g : ∀ z, z < 39 → carr f z < 256 := fun z hz => by unfold carr; rw [if_pos hz]; omega
  have e := V_shift' (carr f) 17 23 40 (by omega)
  rw [carr_val] at e
  have e2 : V f 40 = V (carr f) 17 := by
    generalize V (fun i => carr f (17 + i)) 23 = r at *
    generalize V (carr f) 17 = s at *
    omega
  unfold dg
  rw [e2, V_byte (carr f) 17 y hy (fun j hj => g j (by omega))]
/-- What is borrowed ahead of a digit. -/
def bw (N M i : Nat) : Nat := if N % 256 ^ i < M % 256 ^ i then 1 else 0
theorem sub_dg (N M i : Nat) (h : M ≤ N) : dg (N - M) i = (dg N i + 512 - dg M i - bw N M i) % 256 ∧ bw N M (i + 1) = if dg N i < dg M i + bw N M i then 1 else 0 := by
  have hw : 0 < 256 ^ i := Nat.pow_pos (by omega)
  have n1 := Nat.div_add_mod N (256 ^ i)
  have m1 := Nat.div_add_mod M (256 ^ i)
  have a1 := Nat.mod_lt N hw
  have b1 := Nat.mod_lt M hw
  have n2 : N % 256 ^ (i + 1) = N % 256 ^ i + 256 ^ i * dg N i := by rw [Nat.pow_succ, Nat.mod_mul]; rfl
  have m2 : M % 256 ^ (i + 1) = M % 256 ^ i + 256 ^ i * dg M i := by rw [Nat.pow_succ, Nat.mod_mul]; rfl
  have hd : (N - M) / 256 ^ i = N / 256 ^ i - M / 256 ^ i - bw N M i := by
    unfold bw
    have hq : M / 256 ^ i ≤ N / 256 ^ i := Nat.div_le_div_right h
    split
    · rename_i hlt
      have hq2 : M / 256 ^ i + 1 ≤ N / 256 ^ i := by
        rcases Nat.lt_or_ge (M / 256 ^ i) (N / 256 ^ i) with h1 | h1
        · exact h1
        · have : N / 256 ^ i = M / 256 ^ i := by omega
          rw [this] at n1
          omega
      have : N - M = 256 ^ i * (N / 256 ^ i - M / 256 ^ i - 1) + (256 ^ i + N % 256 ^ i - M % 256 ^ i) := by
        have h4 : 256 ^ i * (N / 256 ^ i - M / 256 ^ i - 1) = 256 ^ i * (N / 256 ^ i) - 256 ^ i * (M / 256 ^ i) - 256 ^ i := by
          rw [Nat.mul_sub, Nat.mul_sub, Nat.mul_one]
        rw [h4]
        have h3 : 256 ^ i * (M / 256 ^ i) + 256 ^ i ≤ 256 ^ i * (N / 256 ^ i) := by
          have := Nat.mul_le_mul_left (256 ^ i) hq2
          rw [Nat.mul_add, Nat.mul_one] at this
          exact this
        omega
      have hz : (256 ^ i + N % 256 ^ i - M % 256 ^ i) / 256 ^ i = 0 := Nat.div_eq_of_lt (by omega)
      rw [this, Nat.mul_add_div hw, hz, Nat.add_zero]
    · have : N - M = 256 ^ i * (N / 256 ^ i - M / 256 ^ i) + (N % 256 ^ i - M % 256 ^ i) := by
        have h4 : 256 ^ i * (N / 256 ^ i - M / 256 ^ i) = 256 ^ i * (N / 256 ^ i) - 256 ^ i * (M / 256 ^ i) := Nat.mul_sub _ _ _
        rw [h4]
        have := Nat.mul_le_mul_left (256 ^ i) hq
        omega
      have hz : (N % 256 ^ i - M % 256 ^ i) / 256 ^ i = 0 := Nat.div_eq_of_lt (by omega)
      rw [this, Nat.mul_add_div hw, hz, Nat.add_zero, Nat.sub_zero]
  constructor
  · unfold dg
    rw [hd]
    have hb : bw N M i ≤ 1 := by unfold bw; split <;> omega
    have hq : M / 256 ^ i + bw N M i ≤ N / 256 ^ i := by
      unfold bw
      split
      · rename_i hlt
        rcases Nat.lt_or_ge (M / 256 ^ i) (N / 256 ^ i) with h1 | h1
        · exact h1
        · have := Nat.mul_le_mul_left (256 ^ i) h1
          omega
      · exact Nat.div_le_div_right h
    omega
  · have hb : bw N M i ≤ 1 := by unfold bw; split <;> omega
    have hlt : (N % 256 ^ (i + 1) < M % 256 ^ (i + 1)) ↔ dg N i < dg M i + bw N M i := by
      rw [n2, m2]
      unfold bw
      split
      · rename_i h1
        constructor
        · intro h2
          rcases Nat.lt_or_ge (dg M i) (dg N i) with h3 | h3
          · have := Nat.mul_le_mul_left (256 ^ i) (show dg M i + 1 ≤ dg N i from h3)
            rw [Nat.mul_add, Nat.mul_one] at this
            omega
          · omega
        · intro h2
          have := Nat.mul_le_mul_left (256 ^ i) (show dg N i ≤ dg M i by omega)
          omega
      · rename_i h1
        constructor
        · intro h2
          rcases Nat.lt_or_ge (dg N i) (dg M i) with h3 | h3
          · omega
          · have := Nat.mul_le_mul_left (256 ^ i) h3
            omega
        · intro h2
          have := Nat.mul_le_mul_left (256 ^ i) (show dg N i + 1 ≤ dg M i by omega)
          rw [Nat.mul_add, Nat.mul_one] at this
          omega
    show (if N % 256 ^ (i + 1) < M % 256 ^ (i + 1) then 1 else 0) = _
    by_cases h5 : N % 256 ^ (i + 1) < M % 256 ^ (i + 1)
    · rw [if_pos h5, if_pos (hlt.1 h5)]
    · rw [if_neg h5, if_neg (fun h6 => h5 (hlt.2 h6))]
end Go.Spec

namespace Go.Spec
def re5 (x : Nat → B64) : Nat → B64 := fun i => [x 0, x 1, x 2, x 3, x 4].getD i 0
def re16 (k : F8) : F8 := fun i => [k 0, k 1, k 2, k 3, k 4, k 5, k 6, k 7, k 8, k 9, k 10, k 11, k 12, k 13, k 14, k 15].getD i 0
def re17 (k : F8) : F8 := fun i => [k 0, k 1, k 2, k 3, k 4, k 5, k 6, k 7, k 8, k 9, k 10, k 11, k 12, k 13, k 14, k 15, k 16].getD i 0
def gl (l : List (BitVec 8)) : F8 := fun i => l.getD i 0
theorem car_re (x : Nat → B64) : car (re5 x) = car x := by kernel_rfl
def i64w (x : Int) : Int := IntKind.i64.wrap x
def sumT (a b : F8) : Nat → Int
  | 0 => i64w (0 + i64w (((a 0).toNat : Int) + ((b 16).toNat : Int)))
  | i + 1 => i64w ((sumT a b i).fdiv (2 ^ (min 8 64)) + i64w (((a (i + 1)).toNat : Int) + ((b (16 + (i + 1))).toNat : Int)))
def sumS (a b : F8) : F8 := fun i => BitVec.ofInt 8 (sumT a b i)
end Go.Spec
namespace Go.Sym
open Go.Proofs Go.Spec
set_option linter.unusedVariables false
def g41 (xs : List AV) : TL := match xs with | [.agg cs] => asD 5 cs fun x => .ok (rt (agD 5 (car x))) | _ => .no
def g32 (xs : List AV) : TL := match xs with | [.agg cs] => asB 17 cs fun b => .ok (rt (agD 5 (car (numS b)))) | _ => .no
def g29 (xs : List AV) : TL := match xs with | [.agg cs] => asB 32 cs fun b => .ok (rt (agD 5 (car (numS (clampS b))))) | _ => .no
def g31 (xs : List AV) : TL := match xs with | [.agg cs, .agg ds] => asD 5 cs fun x => asD 5 ds fun y => .ok (rt (agD 5 (plusS x y))) | _ => .no
def g30 (xs : List AV) : TL := match xs with | [.agg cs, .agg ds] => asD 5 cs fun x => asD 5 ds fun y => .ok (rt (agD 5 (car (car (mulS x y))))) | _ => .no
def g34 (xs : List AV) : TL := match xs with | [.agg cs] => asD 5 cs fun x => .ok (rt (agD 5 (leastS x))) | _ => .no
def g33 (xs : List AV) : TL := match xs with | [.agg cs, .agg ds] => asD 5 cs fun x => asB 32 ds fun k => .ok (rt (aggB 16 (sumS (byteS x) k))) | _ => .no
noncomputable def Q1 : Ctx := K11.add 93 (mkF (spK 1 g41))
noncomputable def Q2 : Ctx := Q1.add 81 (mkF (spK 1 g32))
noncomputable def Q3 : Ctx := Q2.add 78 (mkF (spK 1 g29))
noncomputable def Q4 : Ctx := Q3.add 80 (mkF (spK 2 g31))
noncomputable def Q5 : Ctx := Q4.add 79 (mkF (spK 2 g30))
noncomputable def Q6 : Ctx := Q5.add 83 (mkF (spK 1 g34))
noncomputable def Q7 : Ctx := Q6.exe Tryd.prog gl0 [] 3000 Tryd.f94.params.size 94 Tryd.f94
noncomputable def Q8 : Ctx := Q6.add 82 (mkF (spK 2 g33))
end Go.Sym

namespace Go.Sym
open Go.Proofs Go.Spec
set_option linter.unusedVariables false
set_option maxRecDepth 100000 in
theorem v41 (x : Nat → B64) : bodyP Tryd.prog K11 gl0 [] [] 3000 Tryd.f93 0 [agD 5 x] [] (retQ Tryd.prog Tryd.f93 0 (rt (agD 5 (car x)))) = (
(0 : Int) ≤ (0 : Int) ∧ (0 : Int) ≤ (0 : Int) ∧ (0 : Int) ≤ Int.ofNat 1 ∧ (0 : Int) ≤ Int.ofNat 1 ∧ (0 : Int) ≤ Int.ofNat 2 ∧ (0 : Int) ≤ Int.ofNat 2 ∧ (0 : Int) ≤ Int.ofNat 3 ∧ (0 : Int) ≤ Int.ofNat 3 ∧ (0 : Int) ≤ Int.ofNat 4 ∧ (0 : Int) ≤ Int.ofNat 4 ∧ allRefl (car x) 0 5 : Prop) := by kernel_rfl
set_option maxRecDepth 100000 in
theorem v32 (b : F8) : bodyP Tryd.prog Q1 gl0 [] [] 3000 Tryd.f81 0 [aggB 17 b] [] (retQ Tryd.prog Tryd.f81 0 (rt (agD 5 (car (numS b))))) = (
(0 : Int) ≤ (0 : Int) ∧ (0 : Int) ≤ Int.ofNat 0 ∧ (0 : Int) ≤ Int.ofNat 0 ∧ (0 : Int) ≤ Int.ofNat 0 ∧ (0 : Int) ≤ Int.ofNat 1 ∧ (0 : Int) ≤ Int.ofNat 0 ∧ (0 : Int) ≤ Int.ofNat 8 ∧ (0 : Int) ≤ Int.ofNat 0 ∧ (0 : Int) ≤ Int.ofNat 2 ∧ (0 : Int) ≤ Int.ofNat 0 ∧ (0 : Int) ≤ Int.ofNat 16 ∧ (0 : Int) ≤ Int.ofNat 0 ∧ (0 : Int) ≤ Int.ofNat 3 ∧ (0 : Int) ≤ Int.ofNat 0 ∧ (0 : Int) ≤ Int.ofNat 24 ∧ (0 : Int) ≤ Int.ofNat 0 ∧ (0 : Int) ≤ Int.ofNat 4 ∧ (0 : Int) ≤ Int.ofNat 1 ∧ (0 : Int) ≤ Int.ofNat 6 ∧ (0 : Int) ≤ Int.ofNat 1 ∧ (0 : Int) ≤ Int.ofNat 5 ∧ (0 : Int) ≤ Int.ofNat 1 ∧ (0 : Int) ≤ Int.ofNat 14 ∧ (0 : Int) ≤ Int.ofNat 1 ∧ (0 : Int) ≤ Int.ofNat 6 ∧ (0 : Int) ≤ Int.ofNat 1 ∧ (0 : Int) ≤ Int.ofNat 22 ∧ (0 : Int) ≤ Int.ofNat 1 ∧ (0 : Int) ≤ Int.ofNat 7 ∧ (0 : Int) ≤ Int.ofNat 2 ∧ (0 : Int) ≤ Int.ofNat 4 ∧ (0 : Int) ≤ Int.ofNat 2 ∧ (0 : Int) ≤ Int.ofNat 8 ∧ (0 : Int) ≤ Int.ofNat 2 ∧ (0 : Int) ≤ Int.ofNat 12 ∧ (0 : Int) ≤ Int.ofNat 2 ∧ (0 : Int) ≤ Int.ofNat 9 ∧ (0 : Int) ≤ Int.ofNat 2 ∧ (0 : Int) ≤ Int.ofNat 20 ∧ (0 : Int) ≤ Int.ofNat 2 ∧ (0 : Int) ≤ Int.ofNat 10 ∧ (0 : Int) ≤ Int.ofNat 3 ∧ (0 : Int) ≤ Int.ofNat 2 ∧ (0 : Int) ≤ Int.ofNat 3 ∧ (0 : Int) ≤ Int.ofNat 11 ∧ (0 : Int) ≤ Int.ofNat 3 ∧ (0 : Int) ≤ Int.ofNat 10 ∧ (0 : Int) ≤ Int.ofNat 3 ∧ (0 : Int) ≤ Int.ofNat 12 ∧ (0 : Int) ≤ Int.ofNat 3 ∧ (0 : Int) ≤ Int.ofNat 18 ∧ (0 : Int) ≤ Int.ofNat 3 ∧ (0 : Int) ≤ Int.ofNat 13 ∧ (0 : Int) ≤ Int.ofNat 4 ∧ (0 : Int) ≤ Int.ofNat 0 ∧ (0 : Int) ≤ Int.ofNat 4 ∧ (0 : Int) ≤ Int.ofNat 14 ∧ (0 : Int) ≤ Int.ofNat 4 ∧ (0 : Int) ≤ Int.ofNat 8 ∧ (0 : Int) ≤ Int.ofNat 4 ∧ (0 : Int) ≤ Int.ofNat 15 ∧ (0 : Int) ≤ Int.ofNat 4 ∧ (0 : Int) ≤ Int.ofNat 16 ∧ (0 : Int) ≤ Int.ofNat 4 ∧ (0 : Int) ≤ Int.ofNat 16 ∧ (0 : Int) ≤ Int.ofNat 4 ∧ (0 : Int) ≤ Int.ofNat 24 ∧ (0 : Int) ≤ Int.ofNat 4 ∧ allRefl (car (numS b)) 0 5 : Prop) := by kernel_rfl
set_option maxRecDepth 100000 in
theorem v29 (b : F8) : bodyP Tryd.prog Q2 gl0 [] [] 3000 Tryd.f78 0 [aggB 32 b] [] (retQ Tryd.prog Tryd.f78 0 (rt (agD 5 (car (numS (clampS b)))))) = (
16 ≤ 17 ∧ (0 : Int) ≤ (3 : Int) ∧ (0 : Int) ≤ (3 : Int) ∧ (0 : Int) ≤ Int.ofNat 7 ∧ (0 : Int) ≤ Int.ofNat 7 ∧ (0 : Int) ≤ Int.ofNat 11 ∧ (0 : Int) ≤ Int.ofNat 11 ∧ (0 : Int) ≤ Int.ofNat 15 ∧ (0 : Int) ≤ Int.ofNat 15 ∧ (0 : Int) ≤ (4 : Int) ∧ (0 : Int) ≤ (4 : Int) ∧ (0 : Int) ≤ Int.ofNat 8 ∧ (0 : Int) ≤ Int.ofNat 8 ∧ (0 : Int) ≤ Int.ofNat 12 ∧ (0 : Int) ≤ Int.ofNat 12 ∧ allRefl (car (numS (clampS b))) 0 5 : Prop) := by kernel_rfl
set_option maxRecDepth 100000 in
theorem v31 (x y : Nat → B64) : bodyP Tryd.prog Q3 gl0 [] [] 3000 Tryd.f80 0 [agD 5 x, agD 5 y] [] (retQ Tryd.prog Tryd.f80 0 (rt (agD 5 (plusS x y)))) = (
(0 : Int) ≤ (0 : Int) ∧ (0 : Int) ≤ (0 : Int) ∧ (0 : Int) ≤ (0 : Int) ∧ (0 : Int) ≤ Int.ofNat 1 ∧ (0 : Int) ≤ Int.ofNat 1 ∧ (0 : Int) ≤ Int.ofNat 1 ∧ (0 : Int) ≤ Int.ofNat 2 ∧ (0 : Int) ≤ Int.ofNat 2 ∧ (0 : Int) ≤ Int.ofNat 2 ∧ (0 : Int) ≤ Int.ofNat 3 ∧ (0 : Int) ≤ Int.ofNat 3 ∧ (0 : Int) ≤ Int.ofNat 3 ∧ (0 : Int) ≤ Int.ofNat 4 ∧ (0 : Int) ≤ Int.ofNat 4 ∧ (0 : Int) ≤ Int.ofNat 4 ∧ allRefl (plusS x y) 0 5 : Prop) := by kernel_rfl
set_option maxRecDepth 100000 in
theorem v30 (x y : Nat → B64) : bodyP Tryd.prog Q4 gl0 [] [] 3000 Tryd.f79 0 [agD 5 x, agD 5 y] [] (retQ Tryd.prog Tryd.f79 0 (rt (agD 5 (car (car (mulS x y)))))) = (
(0 : Int) ≤ (0 : Int) ∧ (0 : Int) ≤ (0 : Int) ∧ (0 : Int) ≤ Int.ofNat 0 ∧ (0 : Int) ≤ Int.ofNat 0 ∧ (0 : Int) ≤ Int.ofNat 1 ∧ (0 : Int) ≤ Int.ofNat 1 ∧ (0 : Int) ≤ Int.ofNat 1 ∧ (0 : Int) ≤ Int.ofNat 2 ∧ (0 : Int) ≤ Int.ofNat 2 ∧ (0 : Int) ≤ Int.ofNat 2 ∧ (0 : Int) ≤ Int.ofNat 3 ∧ (0 : Int) ≤ Int.ofNat 3 ∧ (0 : Int) ≤ Int.ofNat 3 ∧ (0 : Int) ≤ Int.ofNat 4 ∧ (0 : Int) ≤ Int.ofNat 4 ∧ (0 : Int) ≤ Int.ofNat 4 ∧ (0 : Int) ≤ Int.ofNat 1 ∧ (0 : Int) ≤ (0 : Int) ∧ (0 : Int) ≤ Int.ofNat 1 ∧ (0 : Int) ≤ Int.ofNat 1 ∧ (0 : Int) ≤ Int.ofNat 1 ∧ (0 : Int) ≤ Int.ofNat 2 ∧ (0 : Int) ≤ Int.ofNat 2 ∧ (0 : Int) ≤ Int.ofNat 2 ∧ (0 : Int) ≤ Int.ofNat 3 ∧ (0 : Int) ≤ Int.ofNat 3 ∧ (0 : Int) ≤ Int.ofNat 3 ∧ (0 : Int) ≤ Int.ofNat 4 ∧ (0 : Int) ≤ Int.ofNat 4 ∧ (0 : Int) ≤ Int.ofNat 4 ∧ (0 : Int) ≤ Int.ofNat 0 ∧ (0 : Int) ≤ Int.ofNat 0 ∧ (0 : Int) ≤ Int.ofNat 2 ∧ (0 : Int) ≤ (0 : Int) ∧ (0 : Int) ≤ Int.ofNat 2 ∧ (0 : Int) ≤ Int.ofNat 2 ∧ (0 : Int) ≤ Int.ofNat 1 ∧ (0 : Int) ≤ Int.ofNat 3 ∧ (0 : Int) ≤ Int.ofNat 3 ∧ (0 : Int) ≤ Int.ofNat 2 ∧ (0 : Int) ≤ Int.ofNat 4 ∧ (0 : Int) ≤ Int.ofNat 4 ∧ (0 : Int) ≤ Int.ofNat 3 ∧ (0 : Int) ≤ Int.ofNat 0 ∧ (0 : Int) ≤ Int.ofNat 0 ∧ (0 : Int) ≤ Int.ofNat 4 ∧ (0 : Int) ≤ Int.ofNat 1 ∧ (0 : Int) ≤ Int.ofNat 1 ∧ (0 : Int) ≤ Int.ofNat 3 ∧ (0 : Int) ≤ (0 : Int) ∧ (0 : Int) ≤ Int.ofNat 3 ∧ (0 : Int) ≤ Int.ofNat 3 ∧ (0 : Int) ≤ Int.ofNat 1 ∧ (0 : Int) ≤ Int.ofNat 4 ∧ (0 : Int) ≤ Int.ofNat 4 ∧ (0 : Int) ≤ Int.ofNat 2 ∧ (0 : Int) ≤ Int.ofNat 0 ∧ (0 : Int) ≤ Int.ofNat 0 ∧ (0 : Int) ≤ Int.ofNat 3 ∧ (0 : Int) ≤ Int.ofNat 1 ∧ (0 : Int) ≤ Int.ofNat 1 ∧ (0 : Int) ≤ Int.ofNat 4 ∧ (0 : Int) ≤ Int.ofNat 2 ∧ (0 : Int) ≤ Int.ofNat 2 ∧ (0 : Int) ≤ Int.ofNat 4 ∧ (0 : Int) ≤ (0 : Int) ∧ (0 : Int) ≤ Int.ofNat 4 ∧ (0 : Int) ≤ Int.ofNat 4 ∧ (0 : Int) ≤ Int.ofNat 1 ∧ (0 : Int) ≤ Int.ofNat 0 ∧ (0 : Int) ≤ Int.ofNat 0 ∧ (0 : Int) ≤ Int.ofNat 2 ∧ (0 : Int) ≤ Int.ofNat 1 ∧ (0 : Int) ≤ Int.ofNat 1 ∧ (0 : Int) ≤ Int.ofNat 3 ∧ (0 : Int) ≤ Int.ofNat 2 ∧ (0 : Int) ≤ Int.ofNat 2 ∧ (0 : Int) ≤ Int.ofNat 4 ∧ (0 : Int) ≤ Int.ofNat 3 ∧ (0 : Int) ≤ Int.ofNat 3 ∧ allRefl (car (car (mulS x y))) 0 5 : Prop) := by kernel_rfl
set_option maxRecDepth 100000 in
theorem v33 (x : Nat → B64) (k : F8) : bodyP Tryd.prog Q7 gl0 [] [] 3000 Tryd.f82 0 [agD 5 x, aggB 32 k] [] (retQ Tryd.prog Tryd.f82 0 (rt (aggB 16 (sumS (byteS x) k)))) = (
(0 : Int) ≤ Int.ofNat 0 ∧ (0 : Int) ≤ Int.ofNat 0 ∧ (0 : Int) ≤ Int.ofNat 1 ∧ (0 : Int) ≤ Int.ofNat 26 ∧ (0 : Int) ≤ Int.ofNat 16 ∧ (0 : Int) ≤ (0 : Int) ∧ (0 : Int) ≤ Int.ofNat 0 ∧ (0 : Int) ≤ Int.ofNat 8 ∧ (0 : Int) ≤ Int.ofNat 1 ∧ (0 : Int) ≤ Int.ofNat 18 ∧ (0 : Int) ≤ Int.ofNat 17 ∧ (0 : Int) ≤ Int.ofNat 1 ∧ (0 : Int) ≤ Int.ofNat 0 ∧ (0 : Int) ≤ Int.ofNat 16 ∧ (0 : Int) ≤ Int.ofNat 1 ∧ (0 : Int) ≤ Int.ofNat 10 ∧ (0 : Int) ≤ Int.ofNat 18 ∧ (0 : Int) ≤ Int.ofNat 2 ∧ (0 : Int) ≤ Int.ofNat 0 ∧ (0 : Int) ≤ Int.ofNat 24 ∧ (0 : Int) ≤ Int.ofNat 1 ∧ (0 : Int) ≤ Int.ofNat 2 ∧ (0 : Int) ≤ Int.ofNat 19 ∧ (0 : Int) ≤ Int.ofNat 3 ∧ (0 : Int) ≤ Int.ofNat 1 ∧ (0 : Int) ≤ Int.ofNat 6 ∧ (0 : Int) ≤ Int.ofNat 2 ∧ (0 : Int) ≤ Int.ofNat 20 ∧ (0 : Int) ≤ Int.ofNat 20 ∧ (0 : Int) ≤ Int.ofNat 4 ∧ (0 : Int) ≤ Int.ofNat 1 ∧ (0 : Int) ≤ Int.ofNat 14 ∧ (0 : Int) ≤ Int.ofNat 2 ∧ (0 : Int) ≤ Int.ofNat 12 ∧ (0 : Int) ≤ Int.ofNat 21 ∧ (0 : Int) ≤ Int.ofNat 5 ∧ (0 : Int) ≤ Int.ofNat 1 ∧ (0 : Int) ≤ Int.ofNat 22 ∧ (0 : Int) ≤ Int.ofNat 2 ∧ (0 : Int) ≤ Int.ofNat 4 ∧ (0 : Int) ≤ Int.ofNat 22 ∧ (0 : Int) ≤ Int.ofNat 6 ∧ (0 : Int) ≤ Int.ofNat 2 ∧ (0 : Int) ≤ Int.ofNat 4 ∧ (0 : Int) ≤ Int.ofNat 3 ∧ (0 : Int) ≤ Int.ofNat 22 ∧ (0 : Int) ≤ Int.ofNat 23 ∧ (0 : Int) ≤ Int.ofNat 7 ∧ (0 : Int) ≤ Int.ofNat 2 ∧ (0 : Int) ≤ Int.ofNat 12 ∧ (0 : Int) ≤ Int.ofNat 3 ∧ (0 : Int) ≤ Int.ofNat 14 ∧ (0 : Int) ≤ Int.ofNat 24 ∧ (0 : Int) ≤ Int.ofNat 8 ∧ (0 : Int) ≤ Int.ofNat 2 ∧ (0 : Int) ≤ Int.ofNat 20 ∧ (0 : Int) ≤ Int.ofNat 3 ∧ (0 : Int) ≤ Int.ofNat 6 ∧ (0 : Int) ≤ Int.ofNat 25 ∧ (0 : Int) ≤ Int.ofNat 9 ∧ (0 : Int) ≤ Int.ofNat 3 ∧ (0 : Int) ≤ Int.ofNat 2 ∧ (0 : Int) ≤ Int.ofNat 4 ∧ (0 : Int) ≤ Int.ofNat 24 ∧ (0 : Int) ≤ Int.ofNat 26 ∧ (0 : Int) ≤ Int.ofNat 10 ∧ (0 : Int) ≤ Int.ofNat 3 ∧ (0 : Int) ≤ Int.ofNat 10 ∧ (0 : Int) ≤ Int.ofNat 4 ∧ (0 : Int) ≤ Int.ofNat 16 ∧ (0 : Int) ≤ Int.ofNat 27 ∧ (0 : Int) ≤ Int.ofNat 11 ∧ (0 : Int) ≤ Int.ofNat 3 ∧ (0 : Int) ≤ Int.ofNat 18 ∧ (0 : Int) ≤ Int.ofNat 4 ∧ (0 : Int) ≤ Int.ofNat 8 ∧ (0 : Int) ≤ Int.ofNat 28 ∧ (0 : Int) ≤ Int.ofNat 12 ∧ (0 : Int) ≤ Int.ofNat 4 ∧ (0 : Int) ≤ Int.ofNat 0 ∧ (0 : Int) ≤ Int.ofNat 29 ∧ (0 : Int) ≤ Int.ofNat 13 ∧ (0 : Int) ≤ Int.ofNat 4 ∧ (0 : Int) ≤ Int.ofNat 8 ∧ (0 : Int) ≤ Int.ofNat 30 ∧ (0 : Int) ≤ Int.ofNat 14 ∧ (0 : Int) ≤ Int.ofNat 4 ∧ (0 : Int) ≤ Int.ofNat 16 ∧ (0 : Int) ≤ Int.ofNat 31 ∧ (0 : Int) ≤ Int.ofNat 15 ∧ allRefl (sumS (byteS x) k) 0 16 : Prop) := by kernel_rfl
set_option maxRecDepth 100000 in
theorem v34 (x : Nat → B64) : bodyP Tryd.prog Q5 gl0 [] [] 3000 Tryd.f83 0 [agD 5 x] [] (retQ Tryd.prog Tryd.f83 0 (rt (agD 5 (leastS x)))) = (
(0 : Int) ≤ (0 : Int) ∧ (0 : Int) ≤ (0 : Int) ∧ (0 : Int) ≤ Int.ofNat 1 ∧ (0 : Int) ≤ Int.ofNat 1 ∧ (0 : Int) ≤ Int.ofNat 2 ∧ (0 : Int) ≤ Int.ofNat 2 ∧ (0 : Int) ≤ Int.ofNat 3 ∧ (0 : Int) ≤ Int.ofNat 3 ∧ (0 : Int) ≤ Int.ofNat 4 ∧ (0 : Int) ≤ Int.ofNat 4 ∧ @Bool.rec (fun _ => Prop) (leastS x 0 = car (re5 x) 0 ∧ leastS x 1 = car (re5 x) 1 ∧ leastS x 2 = car (re5 x) 2 ∧ leastS x 3 = car (re5 x) 3 ∧ leastS x 4 = car (re5 x) 4 ∧ True) (leastS x 0 = car (re5 x) 0 + BitVec.ofNat 64 5 &&& BitVec.ofNat 64 67108863 ∧ leastS x 1 = car (re5 x) 1 + (car (re5 x) 0 + BitVec.ofNat 64 5) >>> 26 &&& BitVec.ofNat 64 67108863 ∧ leastS x 2 = car (re5 x) 2 + (car (re5 x) 1 + (car (re5 x) 0 + BitVec.ofNat 64 5) >>> 26) >>> 26 &&& BitVec.ofNat 64 67108863 ∧ leastS x 3 = car (re5 x) 3 + (car (re5 x) 2 + (car (re5 x) 1 + (car (re5 x) 0 + BitVec.ofNat 64 5) >>> 26) >>> 26) >>> 26 &&& BitVec.ofNat 64 67108863 ∧ leastS x 4 = car (re5 x) 4 + (car (re5 x) 3 + (car (re5 x) 2 + (car (re5 x) 1 + (car (re5 x) 0 + BitVec.ofNat 64 5) >>> 26) >>> 26) >>> 26) >>> 26 &&& BitVec.ofNat 64 67108863 ∧ True) !decide ((car (re5 x) 4 + (car (re5 x) 3 + (car (re5 x) 2 + (car (re5 x) 1 + (car (re5 x) 0 + BitVec.ofNat 64 5) >>> 26) >>> 26) >>> 26) >>> 26) >>> 26 = BitVec.ofNat 64 0) : Prop) := by kernel_rfl
end Go.Sym

namespace Go.Sym
open Go.Proofs Go.Spec
set_option linter.unusedVariables false
theorem b41 (x : Nat → B64) : Must (bodyP Tryd.prog K11 gl0 [] [] 3000 Tryd.f93 0 [agD 5 x] [] (retQ Tryd.prog Tryd.f93 0 (rt (agD 5 (car x))))) := by
  constructor
  rw [v41]
  have hA : allRefl (car x) 0 5 := allRefl_true _ _ _
  generalize allRefl (car x) 0 5 = A at hA ⊢
  repeat refine And.intro (of_decide_eq_true (by kernel_rfl)) ?_
  exact hA
theorem b32 (b : F8) : Must (bodyP Tryd.prog Q1 gl0 [] [] 3000 Tryd.f81 0 [aggB 17 b] [] (retQ Tryd.prog Tryd.f81 0 (rt (agD 5 (car (numS b)))))) := by
  constructor
  rw [v32]
  have hA : allRefl (car (numS b)) 0 5 := allRefl_true _ _ _
  generalize allRefl (car (numS b)) 0 5 = A at hA ⊢
  repeat refine And.intro (of_decide_eq_true (by kernel_rfl)) ?_
  exact hA
theorem b29 (b : F8) : Must (bodyP Tryd.prog Q2 gl0 [] [] 3000 Tryd.f78 0 [aggB 32 b] [] (retQ Tryd.prog Tryd.f78 0 (rt (agD 5 (car (numS (clampS b))))))) := by
  constructor
  rw [v29]
  have hA : allRefl (car (numS (clampS b))) 0 5 := allRefl_true _ _ _
  generalize allRefl (car (numS (clampS b))) 0 5 = A at hA ⊢
  repeat refine And.intro (of_decide_eq_true (by kernel_rfl)) ?_
  exact hA
theorem b31q (x y : Nat → B64) : Must (bodyP Tryd.prog Q3 gl0 [] [] 3000 Tryd.f80 0 [agD 5 x, agD 5 y] [] (retQ Tryd.prog Tryd.f80 0 (rt (agD 5 (plusS x y))))) := by
  constructor
  rw [v31]
  have hA : allRefl (plusS x y) 0 5 := allRefl_true _ _ _
  generalize allRefl (plusS x y) 0 5 = A at hA ⊢
  repeat refine And.intro (of_decide_eq_true (by kernel_rfl)) ?_
  exact hA
theorem b30q (x y : Nat → B64) : Must (bodyP Tryd.prog Q4 gl0 [] [] 3000 Tryd.f79 0 [agD 5 x, agD 5 y] [] (retQ Tryd.prog Tryd.f79 0 (rt (agD 5 (car (car (mulS x y))))))) := by
  constructor
  rw [v30]
  have hA : allRefl (car (car (mulS x y))) 0 5 := allRefl_true _ _ _
  generalize allRefl (car (car (mulS x y))) 0 5 = A at hA ⊢
  repeat refine And.intro (of_decide_eq_true (by kernel_rfl)) ?_
  exact hA
theorem b33q (x : Nat → B64) (k : F8) : Must (bodyP Tryd.prog Q7 gl0 [] [] 3000 Tryd.f82 0 [agD 5 x, aggB 32 k] [] (retQ Tryd.prog Tryd.f82 0 (rt (aggB 16 (sumS (byteS x) k))))) := by
  constructor
  rw [v33]
  have hA : allRefl (sumS (byteS x) k) 0 16 := allRefl_true _ _ _
  generalize allRefl (sumS (byteS x) k) 0 16 = A at hA ⊢
  repeat refine And.intro (of_decide_eq_true (by kernel_rfl)) ?_
  exact hA
theorem b34 (x : Nat → B64) : Must (bodyP Tryd.prog Q5 gl0 [] [] 3000 Tryd.f83 0 [agD 5 x] [] (retQ Tryd.prog Tryd.f83 0 (rt (agD 5 (leastS x))))) := by
  constructor
  rw [v34]
  simp only [car_re]
  repeat refine And.intro (of_decide_eq_true (by kernel_rfl)) ?_
  refine brec (fun h => ?_) (fun h => ?_)
  · have h' : redQ x = true := h
    unfold leastS
    rw [h']
    exact ⟨rfl, rfl, rfl, rfl, rfl, trivial⟩
  · have h' : redQ x = false := h
    unfold leastS
    rw [h']
    exact ⟨rfl, rfl, rfl, rfl, rfl, trivial⟩
end Go.Sym

namespace Go.Spec
/-- A block's bytes, and 1 behind. -/
def partL (b : By) (x : Nat) : By := ((b.drop (16 * x)).take 16 ++ (List.replicate 17 0).drop (min (b.drop (16 * x)).length 16)).set (min (b.drop (16 * x)).length 16) 1
def partF (b : By) (x : Nat) : F8 := fun i => (partL b x).getD i 0
def nS (r : Nat → B64) (b : By) : Nat → (Nat → B64)
  | 0 => fun _ => 0
  | x + 1 => car (car (mulS (plusS (nS r b x) (car (numS (partF b x)))) r))
def rS (k : F8) : Nat → B64 := car (numS (clampS k))
def tagS (k : F8) (b : By) : F8 := sumS (byteS (leastS (nS (rS k) b ((b.length + 15) / 16)))) k
end Go.Spec
namespace Go.Sym
open Go.Proofs Go.Spec
set_option linter.unusedVariables false
def cD (n : Nat) (f : Nat → B64) : List AV := (List.range n).map fun i => .u64 (f i)
noncomputable def ls18 (k : F8) (b : By) : LS := ⟨Nat, fun x => [(1, .rb false b .unk), (2, .ptr 101 0 0 0), (4, .ptr 104 0 0 0), (5, .ptr 102 0 0 0), (6, .ptr 103 0 0 0), (7, .int .i64 ((16 * x : Nat) : Int))],
  fun x => [(101, ⟨.cells (cl 32 k), true, 0⟩), (102, ⟨.cells (cD 5 (rS k)), true, 0⟩), (103, ⟨.cells (cD 5 (nS (rS k) b x)), true, 0⟩), (104, ⟨.cells (cl 16 fun _ => 0), true, 0⟩)], 1000, fun x => b.length + 1 - x, fun x => 16 * x < b.length + 16, fun _ => []⟩
def sym18 : List Nat := [8, 22]
noncomputable def g18 (xs : List AV) : TL := match xs with
  | [.agg ks, .rb false b .unk] => asB 32 ks fun k => .ok ⟨[b.length < 1099511627776], aggB 16 (tagS k b), [], []⟩
  | _ => .no
noncomputable def sp18 : Spec := ⟨[.kp, .by0], fun _ _ => [], fun _ _ => [], fun xs bs => match bs with | [] => g18 xs | _ => .no⟩
noncomputable def Q9 : Ctx := Q8.add 67 (mkF sp18)
end Go.Sym

namespace Go.Sym
open Go.Proofs Go.Spec
set_option linter.unusedVariables false
set_option maxRecDepth 100000 in
theorem vc18q (k : F8) (b : By) : bodyP Tryd.prog (Q8.withSym sym18) gl0 [] [(5, ls18 k b)] 3000 Tryd.f67 0 [aggB 32 k, .rb false b .unk] [] (retQ Tryd.prog Tryd.f67 0 (rt (aggB 16 (tagS k b)))) = (
(∃ (x : Nat), (16 * x).succ.le (List.length b + 16) ∧
 b = b ∧
 0 = 0 ∧
 0 = 0 ∧
 0 = 0 ∧
 0 = 0 ∧
 (↑(16 * x) : Int) = (0 : Int) ∧
 k 0 = k 0 ∧
 k 1 = k 1 ∧
 k 2 = k 2 ∧
 k 3 = k 3 ∧
 k 4 = k 4 ∧
 k 5 = k 5 ∧
 k 6 = k 6 ∧
 k 7 = k 7 ∧
 k 8 = k 8 ∧
 k 9 = k 9 ∧
 k 10 = k 10 ∧
 k 11 = k 11 ∧
 k 12 = k 12 ∧
 k 13 = k 13 ∧
 k 14 = k 14 ∧
 k 15 = k 15 ∧
 k 16 = k 16 ∧
 k 17 = k 17 ∧
 k 18 = k 18 ∧
 k 19 = k 19 ∧
 k 20 = k 20 ∧
 k 21 = k 21 ∧
 k 22 = k 22 ∧
 k 23 = k 23 ∧
 k 24 = k 24 ∧
 k 25 = k 25 ∧
 k 26 = k 26 ∧
 k 27 = k 27 ∧
 k 28 = k 28 ∧
 k 29 = k 29 ∧
 k 30 = k 30 ∧
 k 31 = k 31 ∧
 rS k 0 = car (numS (clampS (re32 k))) 0 ∧
 rS k 1 = car (numS (clampS (re32 k))) 1 ∧
 rS k 2 = car (numS (clampS (re32 k))) 2 ∧
 rS k 3 = car (numS (clampS (re32 k))) 3 ∧
 rS k 4 = car (numS (clampS (re32 k))) 4 ∧
 nS (rS k) b x 0 = BitVec.ofNat 64 0 ∧
 nS (rS k) b x 1 = BitVec.ofNat 64 0 ∧
 nS (rS k) b x 2 = BitVec.ofNat 64 0 ∧
 nS (rS k) b x 3 = BitVec.ofNat 64 0 ∧
 nS (rS k) b x 4 = BitVec.ofNat 64 0 ∧
 (0 : BitVec 8) = BitVec.ofNat 8 0 ∧
 (0 : BitVec 8) = BitVec.ofNat 8 0 ∧
 (0 : BitVec 8) = BitVec.ofNat 8 0 ∧
 (0 : BitVec 8) = BitVec.ofNat 8 0 ∧
 (0 : BitVec 8) = BitVec.ofNat 8 0 ∧
 (0 : BitVec 8) = BitVec.ofNat 8 0 ∧
 (0 : BitVec 8) = BitVec.ofNat 8 0 ∧
 (0 : BitVec 8) = BitVec.ofNat 8 0 ∧
 (0 : BitVec 8) = BitVec.ofNat 8 0 ∧
 (0 : BitVec 8) = BitVec.ofNat 8 0 ∧
 (0 : BitVec 8) = BitVec.ofNat 8 0 ∧
 (0 : BitVec 8) = BitVec.ofNat 8 0 ∧
 (0 : BitVec 8) = BitVec.ofNat 8 0 ∧
 (0 : BitVec 8) = BitVec.ofNat 8 0 ∧
 (0 : BitVec 8) = BitVec.ofNat 8 0 ∧
 (0 : BitVec 8) = BitVec.ofNat 8 0 ∧
 True) ∧
 ∀ (x : Nat), (16 * x).succ.le (List.length b + 16) → @Bool.rec (fun _ => Prop) (tagS k b 0 = sumS (byteS (re5 (leastS ((re5 (nS (rS k) b x)))))) (re32 k) 0 ∧
 tagS k b 1 = sumS (byteS (re5 (leastS ((re5 (nS (rS k) b x)))))) (re32 k) 1 ∧
 tagS k b 2 = sumS (byteS (re5 (leastS ((re5 (nS (rS k) b x)))))) (re32 k) 2 ∧
 tagS k b 3 = sumS (byteS (re5 (leastS ((re5 (nS (rS k) b x)))))) (re32 k) 3 ∧
 tagS k b 4 = sumS (byteS (re5 (leastS ((re5 (nS (rS k) b x)))))) (re32 k) 4 ∧
 tagS k b 5 = sumS (byteS (re5 (leastS ((re5 (nS (rS k) b x)))))) (re32 k) 5 ∧
 tagS k b 6 = sumS (byteS (re5 (leastS ((re5 (nS (rS k) b x)))))) (re32 k) 6 ∧
 tagS k b 7 = sumS (byteS (re5 (leastS ((re5 (nS (rS k) b x)))))) (re32 k) 7 ∧
 tagS k b 8 = sumS (byteS (re5 (leastS ((re5 (nS (rS k) b x)))))) (re32 k) 8 ∧
 tagS k b 9 = sumS (byteS (re5 (leastS ((re5 (nS (rS k) b x)))))) (re32 k) 9 ∧
 tagS k b 10 = sumS (byteS (re5 (leastS ((re5 (nS (rS k) b x)))))) (re32 k) 10 ∧
 tagS k b 11 = sumS (byteS (re5 (leastS ((re5 (nS (rS k) b x)))))) (re32 k) 11 ∧
 tagS k b 12 = sumS (byteS (re5 (leastS ((re5 (nS (rS k) b x)))))) (re32 k) 12 ∧
 tagS k b 13 = sumS (byteS (re5 (leastS ((re5 (nS (rS k) b x)))))) (re32 k) 13 ∧
 tagS k b 14 = sumS (byteS (re5 (leastS ((re5 (nS (rS k) b x)))))) (re32 k) 14 ∧
 tagS k b 15 = sumS (byteS (re5 (leastS ((re5 (nS (rS k) b x)))))) (re32 k) 15 ∧
 True) (16 ≤ 17 ∧
 (0 : Int) ≤ (↑(16 * x) : Int) ∧
 (↑(16 * x) : Int).toNat ≤ List.length b ∧
 16 ≤ 17 ∧
 (0 : Int) ≤ (↑(Min.min (List.drop (↑(16 * x) : Int).toNat b).length 16) : Int) ∧
 (↑(Min.min (List.drop (↑(16 * x) : Int).toNat b).length 16) : Int).toNat < 17 ∧
 (↑(Min.min (List.drop (↑(16 * x) : Int).toNat b).length 16) : Int).toNat < (List.take 0 (List.replicate 17 (0 : BitVec 8)) ++ (List.take 16 (List.drop (↑(16 * x) : Int).toNat b) ++ List.drop (0 + Min.min (List.drop (↑(16 * x) : Int).toNat b).length 16) (List.replicate 17 (0 : BitVec 8)))).length ∧
 17 ≤ ((List.take 0 (List.replicate 17 (0 : BitVec 8)) ++ (List.take 16 (List.drop (↑(16 * x) : Int).toNat b) ++ List.drop (0 + Min.min (List.drop (↑(16 * x) : Int).toNat b).length 16) (List.replicate 17 (0 : BitVec 8)))).set (↑(Min.min (List.drop (↑(16 * x) : Int).toNat b).length 16) : Int).toNat (BitVec.ofNat 8 1)).length ∧
 ∃ (y : Nat), List.length b + 1 - y < List.length b + 1 - x ∧
 (16 * y).succ.le (List.length b + 16) ∧
 b = b ∧
 0 = 0 ∧
 0 = 0 ∧
 0 = 0 ∧
 0 = 0 ∧
 (↑(16 * y) : Int) = IntKind.i64.wrap ((↑(16 * x) : Int) + (16 : Int)) ∧
 k 0 = k 0 ∧
 k 1 = k 1 ∧
 k 2 = k 2 ∧
 k 3 = k 3 ∧
 k 4 = k 4 ∧
 k 5 = k 5 ∧
 k 6 = k 6 ∧
 k 7 = k 7 ∧
 k 8 = k 8 ∧
 k 9 = k 9 ∧
 k 10 = k 10 ∧
 k 11 = k 11 ∧
 k 12 = k 12 ∧
 k 13 = k 13 ∧
 k 14 = k 14 ∧
 k 15 = k 15 ∧
 k 16 = k 16 ∧
 k 17 = k 17 ∧
 k 18 = k 18 ∧
 k 19 = k 19 ∧
 k 20 = k 20 ∧
 k 21 = k 21 ∧
 k 22 = k 22 ∧
 k 23 = k 23 ∧
 k 24 = k 24 ∧
 k 25 = k 25 ∧
 k 26 = k 26 ∧
 k 27 = k 27 ∧
 k 28 = k 28 ∧
 k 29 = k 29 ∧
 k 30 = k 30 ∧
 k 31 = k 31 ∧
 rS k 0 = rS k 0 ∧
 rS k 1 = rS k 1 ∧
 rS k 2 = rS k 2 ∧
 rS k 3 = rS k 3 ∧
 rS k 4 = rS k 4 ∧
 nS (rS k) b y 0 = car (car (mulS ((re5 (plusS ((re5 (nS (rS k) b x))) ((re5 (car (numS (re17 (gl ((List.take 0 (List.replicate 17 (0 : BitVec 8)) ++ (List.take 16 (List.drop (↑(16 * x) : Int).toNat b) ++ List.drop (0 + Min.min (List.drop (↑(16 * x) : Int).toNat b).length 16) (List.replicate 17 (0 : BitVec 8)))).set (↑(Min.min (List.drop (↑(16 * x) : Int).toNat b).length 16) : Int).toNat (BitVec.ofNat 8 1))))))))))) (re5 (rS k)))) 0 ∧
 nS (rS k) b y 1 = car (car (mulS ((re5 (plusS ((re5 (nS (rS k) b x))) ((re5 (car (numS (re17 (gl ((List.take 0 (List.replicate 17 (0 : BitVec 8)) ++ (List.take 16 (List.drop (↑(16 * x) : Int).toNat b) ++ List.drop (0 + Min.min (List.drop (↑(16 * x) : Int).toNat b).length 16) (List.replicate 17 (0 : BitVec 8)))).set (↑(Min.min (List.drop (↑(16 * x) : Int).toNat b).length 16) : Int).toNat (BitVec.ofNat 8 1))))))))))) (re5 (rS k)))) 1 ∧
 nS (rS k) b y 2 = car (car (mulS ((re5 (plusS ((re5 (nS (rS k) b x))) ((re5 (car (numS (re17 (gl ((List.take 0 (List.replicate 17 (0 : BitVec 8)) ++ (List.take 16 (List.drop (↑(16 * x) : Int).toNat b) ++ List.drop (0 + Min.min (List.drop (↑(16 * x) : Int).toNat b).length 16) (List.replicate 17 (0 : BitVec 8)))).set (↑(Min.min (List.drop (↑(16 * x) : Int).toNat b).length 16) : Int).toNat (BitVec.ofNat 8 1))))))))))) (re5 (rS k)))) 2 ∧
 nS (rS k) b y 3 = car (car (mulS ((re5 (plusS ((re5 (nS (rS k) b x))) ((re5 (car (numS (re17 (gl ((List.take 0 (List.replicate 17 (0 : BitVec 8)) ++ (List.take 16 (List.drop (↑(16 * x) : Int).toNat b) ++ List.drop (0 + Min.min (List.drop (↑(16 * x) : Int).toNat b).length 16) (List.replicate 17 (0 : BitVec 8)))).set (↑(Min.min (List.drop (↑(16 * x) : Int).toNat b).length 16) : Int).toNat (BitVec.ofNat 8 1))))))))))) (re5 (rS k)))) 3 ∧
 nS (rS k) b y 4 = car (car (mulS ((re5 (plusS ((re5 (nS (rS k) b x))) ((re5 (car (numS (re17 (gl ((List.take 0 (List.replicate 17 (0 : BitVec 8)) ++ (List.take 16 (List.drop (↑(16 * x) : Int).toNat b) ++ List.drop (0 + Min.min (List.drop (↑(16 * x) : Int).toNat b).length 16) (List.replicate 17 (0 : BitVec 8)))).set (↑(Min.min (List.drop (↑(16 * x) : Int).toNat b).length 16) : Int).toNat (BitVec.ofNat 8 1))))))))))) (re5 (rS k)))) 4 ∧
 (0 : BitVec 8) = (0 : BitVec 8) ∧
 (0 : BitVec 8) = (0 : BitVec 8) ∧
 (0 : BitVec 8) = (0 : BitVec 8) ∧
 (0 : BitVec 8) = (0 : BitVec 8) ∧
 (0 : BitVec 8) = (0 : BitVec 8) ∧
 (0 : BitVec 8) = (0 : BitVec 8) ∧
 (0 : BitVec 8) = (0 : BitVec 8) ∧
 (0 : BitVec 8) = (0 : BitVec 8) ∧
 (0 : BitVec 8) = (0 : BitVec 8) ∧
 (0 : BitVec 8) = (0 : BitVec 8) ∧
 (0 : BitVec 8) = (0 : BitVec 8) ∧
 (0 : BitVec 8) = (0 : BitVec 8) ∧
 (0 : BitVec 8) = (0 : BitVec 8) ∧
 (0 : BitVec 8) = (0 : BitVec 8) ∧
 (0 : BitVec 8) = (0 : BitVec 8) ∧
 (0 : BitVec 8) = (0 : BitVec 8) ∧
 True) (decide ((↑(16 * x) : Int) < (↑(List.length b) : Int))) : Prop) := by kernel_rfl
end Go.Sym

namespace Go.Spec
theorem mulS_re (n p r : Nat → B64) : mulS (re5 (plusS (re5 n) (re5 p))) (re5 r) = mulS (plusS n p) r := by kernel_rfl
theorem numS_re (f : F8) : numS (re17 f) = numS f := by kernel_rfl
theorem clampS_re (k : F8) : clampS (re32 k) = clampS k := by kernel_rfl
theorem leastS_re (x : Nat → B64) : leastS (re5 x) = leastS x := by unfold leastS redQ; rw [car_re]
theorem sumS_re (x : Nat → B64) (k : F8) : ∀ i, i < 16 → sumS (byteS (re5 x)) (re32 k) i = sumS (byteS x) k i := by
  apply lt16 <;> kernel_rfl
end Go.Spec
namespace Go.Sym
open Go.Proofs Go.Spec
set_option linter.unusedVariables false
theorem b18q (k : F8) (b : By) (hb : b.length < 1099511627776) : Must (bodyP Tryd.prog (Q8.withSym sym18) gl0 [] [(5, ls18 k b)] 3000 Tryd.f67 0 [aggB 32 k, .rb false b .unk] [] (retQ Tryd.prog Tryd.f67 0 (rt (aggB 16 (tagS k b))))) := by
  constructor
  rw [vc18q]
  have hs := fun x i hi => sumS_re (leastS (nS (rS k) b x)) k i hi
  simp only [mulS_re, numS_re, clampS_re, leastS_re, Int.toNat_natCast, List.take_zero, List.nil_append, Nat.zero_add, true_and, and_true]
  refine ⟨⟨0, by show 16 * 0 + 1 ≤ _; omega, by simp, rfl, rfl, rfl, rfl, rfl, rfl, rfl, rfl, rfl, rfl, rfl, rfl, rfl, rfl, rfl, rfl, rfl, rfl, rfl, rfl, rfl, rfl, rfl, rfl, rfl, rfl⟩, fun x hx => ?_⟩
  replace hx : 16 * x < b.length + 16 := hx
  refine brec (fun h => ?_) (fun h => ?_)
  · replace h : 16 * x < b.length := by have := dlt.1 h; omega
    have w1 : IntKind.i64.wrap (((16 * x : Nat) : Int) + 16) = ((16 * (x + 1) : Nat) : Int) := wrap_nat _ (by omega) (by omega)
    have hl : (partL b x).length = 17 := by simp [partL]; omega
    have hl' : (List.take 16 (List.drop (16 * x) b) ++ List.drop (min (List.drop (16 * x) b).length 16) (List.replicate 17 (0 : BitVec 8))).length = 17 := by simp; omega
    simp only [List.length_set, hl', w1]
    refine ⟨by omega, by omega, by omega, by omega, by omega, by omega, by omega, by omega, x + 1, by omega, ?_, rfl, rfl, rfl, rfl, rfl, rfl⟩
    show 16 * (x + 1) + 1 ≤ _
    omega
  · replace h : b.length ≤ 16 * x := by have := ndlt.1 h; omega
    have e : (b.length + 15) / 16 = x := by omega
    have ht : ∀ i, i < 16 → tagS k b i = sumS (byteS (re5 (leastS (nS (rS k) b x)))) (re32 k) i := by
      intro i hi
      unfold tagS
      rw [e, hs x i hi]
    exact ⟨ht 0 (by omega), ht 1 (by omega), ht 2 (by omega), ht 3 (by omega), ht 4 (by omega), ht 5 (by omega), ht 6 (by omega), ht 7 (by omega), ht 8 (by omega), ht 9 (by omega), ht 10 (by omega), ht 11 (by omega), ht 12 (by omega), ht 13 (by omega), ht 14 (by omega), ht 15 (by omega)⟩
end Go.Sym
