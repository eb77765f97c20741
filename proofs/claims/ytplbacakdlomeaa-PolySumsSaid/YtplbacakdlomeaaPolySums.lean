/- PolySums: what is added to the key's second half is added to the tag. No conditions. -/
import Derived.Test.YtplbacakdlomeaaPolyC
import Derived.Test.YtplbacakdlomeaaChaC
import Derived.Test.YtplbacakdlomeaaRows
import Derived.WalkKit
import Derived.ProofKit
import Derived.OpenShut
import Derived.ChangeOld
import Derived.Below
import Derived.Carry
namespace Go.Sym
open Go.Proofs Go.Spec
set_option linter.unusedVariables false
set_option maxRecDepth 100000 in
theorem vc17  : bodyP Try.prog T1 gl0 [] [] 3000 Try.f17 0 [] [] (retQ Try.prog Try.f17 0 (rt (.bool true))) = (
1 = 1 ∧ 1 < 1099511627776 ∧ 0 < 3 ∧ 0 < 3 ∧ 3 = 3 ∧ 3 < 1099511627776 ∧ Bool.true = Bool.true ∧ True : Prop) := by kernel_rfl
set_option maxRecDepth 100000 in
theorem vc7 (k : F8) (b : By) (nl : Bool) : bodyP Try.prog T2 gl0 [] [] 3000 Try.f7 0 [aggB 32 k, .rb true b (.is nl)] [] (retQ Try.prog Try.f7 0 (rt (.bool true))) = (
(0 : Int) ≤ Min.min (↑(List.length b) : Int) (200 : Int) ∧
 (Min.min (↑(List.length b) : Int) (200 : Int)).toNat ≤ List.length b ∧
 (List.take (Min.min (↑(List.length b) : Int) (200 : Int)).toNat b).length < 1099511627776 ∧
 (List.take (Min.min (↑(List.length b) : Int) (200 : Int)).toNat b).length < 1099511627776 ∧
 @Bool.rec (fun _ => Prop) (Bool.true = Bool.false ∧
 True) (Bool.true = decide (List.take (Min.min (↑(List.length b) : Int) (200 : Int)).toNat b = List.take (Min.min (↑(List.length b) : Int) (200 : Int)).toNat b) ∧
 True) (decide (tagS (re32 k) (List.take (Min.min (↑(List.length b) : Int) (200 : Int)).toNat b) 0 = tagS (re32 k) (List.take (Min.min (↑(List.length b) : Int) (200 : Int)).toNat b) 0) && (decide (tagS (re32 k) (List.take (Min.min (↑(List.length b) : Int) (200 : Int)).toNat b) 1 = tagS (re32 k) (List.take (Min.min (↑(List.length b) : Int) (200 : Int)).toNat b) 1) && (decide (tagS (re32 k) (List.take (Min.min (↑(List.length b) : Int) (200 : Int)).toNat b) 2 = tagS (re32 k) (List.take (Min.min (↑(List.length b) : Int) (200 : Int)).toNat b) 2) && (decide (tagS (re32 k) (List.take (Min.min (↑(List.length b) : Int) (200 : Int)).toNat b) 3 = tagS (re32 k) (List.take (Min.min (↑(List.length b) : Int) (200 : Int)).toNat b) 3) && (decide (tagS (re32 k) (List.take (Min.min (↑(List.length b) : Int) (200 : Int)).toNat b) 4 = tagS (re32 k) (List.take (Min.min (↑(List.length b) : Int) (200 : Int)).toNat b) 4) && (decide (tagS (re32 k) (List.take (Min.min (↑(List.length b) : Int) (200 : Int)).toNat b) 5 = tagS (re32 k) (List.take (Min.min (↑(List.length b) : Int) (200 : Int)).toNat b) 5) && (decide (tagS (re32 k) (List.take (Min.min (↑(List.length b) : Int) (200 : Int)).toNat b) 6 = tagS (re32 k) (List.take (Min.min (↑(List.length b) : Int) (200 : Int)).toNat b) 6) && (decide (tagS (re32 k) (List.take (Min.min (↑(List.length b) : Int) (200 : Int)).toNat b) 7 = tagS (re32 k) (List.take (Min.min (↑(List.length b) : Int) (200 : Int)).toNat b) 7) && (decide (tagS (re32 k) (List.take (Min.min (↑(List.length b) : Int) (200 : Int)).toNat b) 8 = tagS (re32 k) (List.take (Min.min (↑(List.length b) : Int) (200 : Int)).toNat b) 8) && (decide (tagS (re32 k) (List.take (Min.min (↑(List.length b) : Int) (200 : Int)).toNat b) 9 = tagS (re32 k) (List.take (Min.min (↑(List.length b) : Int) (200 : Int)).toNat b) 9) && (decide (tagS (re32 k) (List.take (Min.min (↑(List.length b) : Int) (200 : Int)).toNat b) 10 = tagS (re32 k) (List.take (Min.min (↑(List.length b) : Int) (200 : Int)).toNat b) 10) && (decide (tagS (re32 k) (List.take (Min.min (↑(List.length b) : Int) (200 : Int)).toNat b) 11 = tagS (re32 k) (List.take (Min.min (↑(List.length b) : Int) (200 : Int)).toNat b) 11) && (decide (tagS (re32 k) (List.take (Min.min (↑(List.length b) : Int) (200 : Int)).toNat b) 12 = tagS (re32 k) (List.take (Min.min (↑(List.length b) : Int) (200 : Int)).toNat b) 12) && (decide (tagS (re32 k) (List.take (Min.min (↑(List.length b) : Int) (200 : Int)).toNat b) 13 = tagS (re32 k) (List.take (Min.min (↑(List.length b) : Int) (200 : Int)).toNat b) 13) && (decide (tagS (re32 k) (List.take (Min.min (↑(List.length b) : Int) (200 : Int)).toNat b) 14 = tagS (re32 k) (List.take (Min.min (↑(List.length b) : Int) (200 : Int)).toNat b) 14) && (decide (tagS (re32 k) (List.take (Min.min (↑(List.length b) : Int) (200 : Int)).toNat b) 15 = tagS (re32 k) (List.take (Min.min (↑(List.length b) : Int) (200 : Int)).toNat b) 15) && Bool.true)))))))))))))))) : Prop) := by kernel_rfl
end Go.Sym

namespace Go.Sym
open Go.Proofs Go.Spec
set_option linter.unusedVariables false
theorem b17 : Must (bodyP Try.prog T1 gl0 [] [] 3000 Try.f17 0 [] [] (retQ Try.prog Try.f17 0 (rt (.bool true)))) := by
  constructor
  rw [vc17]
  exact ⟨rfl, by omega, by omega, by omega, rfl, by omega, rfl, trivial⟩
theorem okT2 : COKs Try.prog gl0 T2 := okT1.add <| by
  refine ctrE (fn := Try.f17) [] 3000 (by kernel_rfl) (by kernel_rfl) okT1 (by kernel_rfl) (fun args w => by kernel_rfl) fun xs bs r hs ho => ?_
  obtain ⟨rfl, h2⟩ := spK_sel hs
  clear hs
  have hs := h2
  clear h2
  unfold g12 at hs
  split at hs
  · simp only [TL.sel, Option.some.injEq] at hs
    subst hs
    exact ⟨_, b17⟩
  · simp [TL.sel] at hs
theorem b7 (k : F8) (b : By) (nl : Bool) : Must (bodyP Try.prog T2 gl0 [] [] 3000 Try.f7 0 [aggB 32 k, .rb true b (.is nl)] [] (retQ Try.prog Try.f7 0 (rt (.bool true)))) := by
  constructor
  rw [vc7]
  have hM : (List.take (min (b.length : Int) 200).toNat b).length ≤ 200 := by simp; omega
  have h0 : 0 ≤ min (b.length : Int) 200 ∧ (min (b.length : Int) 200).toNat ≤ b.length := by omega
  generalize List.take (min (b.length : Int) 200).toNat b = M at *
  generalize (min (b.length : Int) 200) = m at *
  generalize re32 k = k
  simp only [decide_true, Bool.and_self, and_self, and_true]
  exact ⟨h0.1, h0.2, by omega⟩
end Go.Sym

namespace Go.Spec
/-- A byte is added to a number, byte by byte. -/
def xs (g : F8) (y : BitVec 8) : Nat → Int
  | 0 => i64w (((g 0).toNat : Int) + (y.toNat : Int))
  | i + 1 => i64w (((g (i + 1)).toNat : Int) + i64w ((xs g y i).tdiv 256))
def sumB (g : F8) (y : BitVec 8) : F8 := fun i => BitVec.ofInt 8 (xs g y i)
/-- The key whose second half is more by a byte. -/
def addK (k : F8) (y : BitVec 8) : F8 := fun i => if i < 16 then k i else sumB (fun j => k (16 + j)) y (i - 16)
/-- The key whose first half is nought. -/
def zK (k : F8) : F8 := fun i => if i < 16 then 0 else k i
def eqU (f g : F8) (i : Nat) : Nat → Bool
  | 0 => true
  | n + 1 => decide (f i = g i) && eqU f g (i + 1) n
end Go.Spec
namespace Go.Sym
open Go.Proofs Go.Spec
set_option linter.unusedVariables false
set_option maxRecDepth 100000 in
theorem vc9 (k : F8) (b : By) (y : BitVec 8) (nl : Bool) : bodyP Try.prog T2 gl0 [] [] 3000 Try.f9 0 [aggB 32 k, .rb true b (.is nl), .u8 y] [] (retQ Try.prog Try.f9 0 (rt (.bool true))) = (
(0 : Int) ≤ Min.min (↑(List.length b) : Int) (100 : Int) ∧ (Min.min (↑(List.length b) : Int) (100 : Int)).toNat ≤ List.length b ∧ (List.take (Min.min (↑(List.length b) : Int) (100 : Int)).toNat b).length < 1099511627776 ∧ (0 : Int) ≤ Int.ofNat 16 ∧ (0 : Int) ≤ Int.ofNat 16 ∧ (0 : Int) ≤ Int.ofNat 17 ∧ (0 : Int) ≤ Int.ofNat 17 ∧ (0 : Int) ≤ Int.ofNat 18 ∧ (0 : Int) ≤ Int.ofNat 18 ∧ (0 : Int) ≤ Int.ofNat 19 ∧ (0 : Int) ≤ Int.ofNat 19 ∧ (0 : Int) ≤ Int.ofNat 20 ∧ (0 : Int) ≤ Int.ofNat 20 ∧ (0 : Int) ≤ Int.ofNat 21 ∧ (0 : Int) ≤ Int.ofNat 21 ∧ (0 : Int) ≤ Int.ofNat 22 ∧ (0 : Int) ≤ Int.ofNat 22 ∧ (0 : Int) ≤ Int.ofNat 23 ∧ (0 : Int) ≤ Int.ofNat 23 ∧ (0 : Int) ≤ Int.ofNat 24 ∧ (0 : Int) ≤ Int.ofNat 24 ∧ (0 : Int) ≤ Int.ofNat 25 ∧ (0 : Int) ≤ Int.ofNat 25 ∧ (0 : Int) ≤ Int.ofNat 26 ∧ (0 : Int) ≤ Int.ofNat 26 ∧ (0 : Int) ≤ Int.ofNat 27 ∧ (0 : Int) ≤ Int.ofNat 27 ∧ (0 : Int) ≤ Int.ofNat 28 ∧ (0 : Int) ≤ Int.ofNat 28 ∧ (0 : Int) ≤ Int.ofNat 29 ∧ (0 : Int) ≤ Int.ofNat 29 ∧ (0 : Int) ≤ Int.ofNat 30 ∧ (0 : Int) ≤ Int.ofNat 30 ∧ (0 : Int) ≤ Int.ofNat 31 ∧ (0 : Int) ≤ Int.ofNat 31 ∧ (List.take (Min.min (↑(List.length b) : Int) (100 : Int)).toNat b).length < 1099511627776 ∧ (0 : Int) ≤ (0 : Int) ∧ (0 : Int) ≤ (0 : Int) ∧ (0 : Int) ≤ Int.ofNat 1 ∧ (0 : Int) ≤ Int.ofNat 1 ∧ (0 : Int) ≤ Int.ofNat 2 ∧ (0 : Int) ≤ Int.ofNat 2 ∧ (0 : Int) ≤ Int.ofNat 3 ∧ (0 : Int) ≤ Int.ofNat 3 ∧ (0 : Int) ≤ Int.ofNat 4 ∧ (0 : Int) ≤ Int.ofNat 4 ∧ (0 : Int) ≤ Int.ofNat 5 ∧ (0 : Int) ≤ Int.ofNat 5 ∧ (0 : Int) ≤ Int.ofNat 6 ∧ (0 : Int) ≤ Int.ofNat 6 ∧ (0 : Int) ≤ Int.ofNat 7 ∧ (0 : Int) ≤ Int.ofNat 7 ∧ (0 : Int) ≤ Int.ofNat 8 ∧ (0 : Int) ≤ Int.ofNat 8 ∧ (0 : Int) ≤ Int.ofNat 9 ∧ (0 : Int) ≤ Int.ofNat 9 ∧ (0 : Int) ≤ Int.ofNat 10 ∧ (0 : Int) ≤ Int.ofNat 10 ∧ (0 : Int) ≤ Int.ofNat 11 ∧ (0 : Int) ≤ Int.ofNat 11 ∧ (0 : Int) ≤ Int.ofNat 12 ∧ (0 : Int) ≤ Int.ofNat 12 ∧ (0 : Int) ≤ Int.ofNat 13 ∧ (0 : Int) ≤ Int.ofNat 13 ∧ (0 : Int) ≤ Int.ofNat 14 ∧ (0 : Int) ≤ Int.ofNat 14 ∧ (0 : Int) ≤ Int.ofNat 15 ∧ (0 : Int) ≤ Int.ofNat 15 ∧ 16 ≤ 32 ∧ 16 ≤ 32 ∧ (List.take (Min.min (↑(List.length b) : Int) (100 : Int)).toNat b).length < 1099511627776 ∧ @Bool.rec (fun _ => Prop) (Bool.true = Bool.false ∧ True) (16 ≤ 32 ∧ Bool.true = decide ([tagS (re32 (zK k)) (List.take (Min.min (↑(List.length b) : Int) (100 : Int)).toNat b) 0, tagS (re32 (zK k)) (List.take (Min.min (↑(List.length b) : Int) (100 : Int)).toNat b) 1, tagS (re32 (zK k)) (List.take (Min.min (↑(List.length b) : Int) (100 : Int)).toNat b) 2, tagS (re32 (zK k)) (List.take (Min.min (↑(List.length b) : Int) (100 : Int)).toNat b) 3, tagS (re32 (zK k)) (List.take (Min.min (↑(List.length b) : Int) (100 : Int)).toNat b) 4, tagS (re32 (zK k)) (List.take (Min.min (↑(List.length b) : Int) (100 : Int)).toNat b) 5, tagS (re32 (zK k)) (List.take (Min.min (↑(List.length b) : Int) (100 : Int)).toNat b) 6, tagS (re32 (zK k)) (List.take (Min.min (↑(List.length b) : Int) (100 : Int)).toNat b) 7, tagS (re32 (zK k)) (List.take (Min.min (↑(List.length b) : Int) (100 : Int)).toNat b) 8, tagS (re32 (zK k)) (List.take (Min.min (↑(List.length b) : Int) (100 : Int)).toNat b) 9, tagS (re32 (zK k)) (List.take (Min.min (↑(List.length b) : Int) (100 : Int)).toNat b) 10, tagS (re32 (zK k)) (List.take (Min.min (↑(List.length b) : Int) (100 : Int)).toNat b) 11, tagS (re32 (zK k)) (List.take (Min.min (↑(List.length b) : Int) (100 : Int)).toNat b) 12, tagS (re32 (zK k)) (List.take (Min.min (↑(List.length b) : Int) (100 : Int)).toNat b) 13, tagS (re32 (zK k)) (List.take (Min.min (↑(List.length b) : Int) (100 : Int)).toNat b) 14, tagS (re32 (zK k)) (List.take (Min.min (↑(List.length b) : Int) (100 : Int)).toNat b) 15] = [k 16, k 17, k 18, k 19, k 20, k 21, k 22, k 23, k 24, k 25, k 26, k 27, k 28, k 29, k 30, k 31]) ∧ True) (eqU (sumB (tagS (re32 k) (List.take (Min.min (↑(List.length b) : Int) (100 : Int)).toNat b)) y) (tagS (re32 (addK k y)) (List.take (Min.min (↑(List.length b) : Int) (100 : Int)).toNat b)) 0 16) : Prop) := by kernel_rfl
end Go.Sym

namespace Go.Spec
theorem chain_val (c F u : FN) (hF : ∀ n, F (n + 1) = F n + c n * 256 ^ n) (h0 : u 0 = c 0 + F 0) (hs : ∀ i, u (i + 1) = u i / 256 + c (i + 1)) : ∀ i, u i = F (i + 1) / 256 ^ i
  | 0 => by
    have := hF 0
    rw [Nat.pow_zero, Nat.mul_one] at this
    rw [Nat.pow_zero, Nat.div_one, h0, this]
    omega
  | i + 1 => by
    rw [hs i, chain_val c F u hF h0 hs i, hF (i + 1), Nat.add_mul_div_right _ _ (Nat.pow_pos (by omega)), Nat.div_div_eq_div_mul, ← Nat.pow_succ]
theorem V_chain (c F a : FN) (N : Nat) (hF : ∀ n, F (n + 1) = F n + c n * 256 ^ n) (ha : ∀ j, j < N → a j = F (j + 1) / 256 ^ j % 256) : ∀ n, n ≤ N → V a n = F n % 256 ^ n
  | 0, _ => by simp [V, Nat.mod_one]
  | n + 1, h => by
    show V a n + a n * 256 ^ n = _
    have e : F (n + 1) % 256 ^ n = F n % 256 ^ n := by rw [hF n, Nat.add_mul_mod_self_right]
    rw [V_chain c F a N hF ha n (by omega), ha n (by omega), Nat.pow_succ, Nat.mod_mul, e, Nat.mul_comm]
theorem modq (A B i : Nat) : (A + B % 256 ^ (i + 1)) / 256 ^ i % 256 = (A + B) / 256 ^ i % 256 := by
  rw [← Nat.mod_mul_right_div_self, ← Nat.mod_mul_right_div_self, ← Nat.pow_succ, Nat.add_mod_mod]
/-- The second half of a key. -/
def sN (k : F8) : FN := fun j => (k (16 + j)).toNat
def sumN (h s : FN) (n : Nat) : Nat := V h n + V s n
theorem sumN_succ (h s : FN) (n : Nat) : sumN h s (n + 1) = sumN h s n + (h n + s n) * 256 ^ n := by
  show V h n + h n * 256 ^ n + (V s n + s n * 256 ^ n) = V h n + V s n + (h n + s n) * 256 ^ n
  rw [Nat.add_mul]
  omega
theorem tT_val (h : FN) (k : F8) (i : Nat) : tT h k i = sumN h (sN k) (i + 1) / 256 ^ i :=
  chain_val (fun n => h n + sN k n) (sumN h (sN k)) (tT h k) (sumN_succ h (sN k)) rfl (fun _ => rfl) i
theorem tagT_nat (k : F8) (b : By) (i : Nat) : (tagT k b i).toNat = sumN (dg (HN k b ((b.length + 15) / 16))) (sN k) (i + 1) / 256 ^ i % 256 := by
  unfold tagT
  rw [tT_val, BitVec.toNat_ofNat]
/-- The same by numbers without signs. -/
def xN (g : F8) (y : BitVec 8) : Nat → Nat
  | 0 => (g 0).toNat + y.toNat
  | i + 1 => xN g y i / 256 + (g (i + 1)).toNat
theorem xN_lt (g : F8) (y : BitVec 8) : ∀ i, xN g y i < 512
  | 0 => by have := (g 0).isLt; have := y.isLt; simp only [xN]; omega
  | i + 1 => by have := (g (i + 1)).isLt; have := xN_lt g y i; simp only [xN]; omega
theorem xs_eq (g : F8) (y : BitVec 8) : ∀ i, xs g y i = ((xN g y i : Nat) : Int)
  | 0 => by
    have h1 := (g 0).isLt
    have h2 := y.isLt
    exact Go.Sym.wrap_nat ((g 0).toNat + y.toNat) (by omega) (by omega)
  | i + 1 => by
    have h1 := (g (i + 1)).isLt
    have h3 := xN_lt g y i
    have t : ((xN g y i : Nat) : Int).tdiv 256 = ((xN g y i / 256 : Nat) : Int) := Go.Sym.tdiv_nat _ 256
    have w : IntKind.i64.wrap ((xN g y i / 256 : Nat) : Int) = ((xN g y i / 256 : Nat) : Int) := Go.Sym.wrap_nat _ rfl (by omega)
    simp only [xs, i64w, xN, xs_eq g y i, t, w]
    exact Go.Sym.wrap_nat _ (by omega) (by omega)
def gN (g : F8) : FN := fun j => (g j).toNat
theorem sumB_nat (g : F8) (y : BitVec 8) (i : Nat) : (sumB g y i).toNat = (y.toNat + V (gN g) (i + 1)) / 256 ^ i % 256 := by
  unfold sumB
  rw [xs_eq, BitVec.ofInt_natCast, BitVec.toNat_ofNat]
  rw [chain_val (gN g) (fun n => y.toNat + V (gN g) n) (xN g y) (fun n => (Nat.add_assoc _ _ _).symm) rfl (fun _ => rfl) i]
theorem clampS_congr (k l : F8) (h : ∀ i, i < 16 → k i = l i) : clampS k = clampS l := by
  funext i
  unfold clampS
  rw [h 0 (by omega), h 1 (by omega), h 2 (by omega), h 3 (by omega), h 4 (by omega), h 5 (by omega), h 6 (by omega), h 7 (by omega), h 8 (by omega), h 9 (by omega), h 10 (by omega), h 11 (by omega), h 12 (by omega), h 13 (by omega), h 14 (by omega), h 15 (by omega)]
theorem HN_congr (k l : F8) (b : By) (h : clampS k = clampS l) : ∀ x, HN k b x = HN l b x
  | 0 => rfl
  | x + 1 => by
    have e : rN k = rN l := by unfold rN; rw [h]
    simp only [HN, HN_congr k l b h x, e]
theorem below16 {P : Nat → Prop} (h0 : P 0) (h1 : P 1) (h2 : P 2) (h3 : P 3) (h4 : P 4) (h5 : P 5) (h6 : P 6) (h7 : P 7) (h8 : P 8) (h9 : P 9) (h10 : P 10) (h11 : P 11) (h12 : P 12) (h13 : P 13) (h14 : P 14) (h15 : P 15) : ∀ i, i < 16 → P i := by
  intro i hi
  match i, hi with
  | 0, _ => exact h0
  | 1, _ => exact h1
  | 2, _ => exact h2
  | 3, _ => exact h3
  | 4, _ => exact h4
  | 5, _ => exact h5
  | 6, _ => exact h6
  | 7, _ => exact h7
  | 8, _ => exact h8
  | 9, _ => exact h9
  | 10, _ => exact h10
  | 11, _ => exact h11
  | 12, _ => exact h12
  | 13, _ => exact h13
  | 14, _ => exact h14
  | 15, _ => exact h15
  | n + 16, h => exact absurd h (by omega)
theorem re32_lo (k : F8) : ∀ i, i < 16 → re32 k i = k i := below16 rfl rfl rfl rfl rfl rfl rfl rfl rfl rfl rfl rfl rfl rfl rfl rfl
theorem re32_hi (k : F8) : ∀ i, i < 16 → re32 k (16 + i) = k (16 + i) := below16 rfl rfl rfl rfl rfl rfl rfl rfl rfl rfl rfl rfl rfl rfl rfl rfl
theorem sums_eq (k : F8) (y : BitVec 8) (b : By) (i : Nat) (hi : i < 16) : sumB (tagS (re32 k) b) y i = tagS (re32 (addK k y)) b i := by
  apply BitVec.eq_of_toNat_eq
  rw [tagS_T _ _ _ hi, sumB_nat, tagT_nat]
  have hc : clampS (re32 (addK k y)) = clampS (re32 k) := clampS_congr _ _ fun j hj => by rw [re32_lo _ j hj, re32_lo _ j hj]; unfold addK; rw [if_pos hj]
  rw [HN_congr _ _ b hc]
  generalize hh : dg (HN (re32 k) b ((b.length + 15) / 16)) = h
  have ha : V (gN (tagS (re32 k) b)) (i + 1) = sumN h (sN (re32 k)) (i + 1) % 256 ^ (i + 1) :=
    V_chain (fun n => h n + sN (re32 k) n) (sumN h (sN (re32 k))) _ 16 (sumN_succ _ _) (fun j hj => by
      show (tagS (re32 k) b j).toNat = _
      rw [tagS_T _ _ _ hj, tagT_nat, hh]) (i + 1) (by omega)
  have hs : V (sN (re32 (addK k y))) (i + 1) = (y.toNat + V (sN (re32 k)) (i + 1)) % 256 ^ (i + 1) :=
    V_chain (sN (re32 k)) (fun n => y.toNat + V (sN (re32 k)) n) _ 16 (fun n => (Nat.add_assoc _ _ _).symm) (fun j hj => by
      show (re32 (addK k y) (16 + j)).toNat = _
      rw [re32_hi _ j hj]
      unfold addK
      rw [if_neg (by omega), Nat.add_sub_cancel_left, sumB_nat]
      rw [V_congr (f := gN fun j => k (16 + j)) (g := sN (re32 k)) (j + 1) fun l hl => by show (k (16 + l)).toNat = (re32 k (16 + l)).toNat; rw [re32_hi k l (by omega)]]) (i + 1) (by omega)
  rw [ha, modq]
  show _ = (V h (i + 1) + V (sN (re32 (addK k y))) (i + 1)) / 256 ^ i % 256
  rw [hs, modq]
  unfold sumN
  congr 2
  omega
theorem HN_zero (k : F8) (b : By) (h : V (rN k) 16 = 0) : ∀ x, HN k b x = 0
  | 0 => rfl
  | x + 1 => by simp only [HN, h, Nat.mul_zero, Nat.zero_mod]
theorem zero_tag (k : F8) (b : By) (i : Nat) (hi : i < 16) : tagS (re32 (zK k)) b i = k (16 + i) := by
  apply BitVec.eq_of_toNat_eq
  rw [tagS_T _ _ _ hi, tagT_nat]
  have hc : clampS (re32 (zK k)) = clampS (fun _ => 0) := clampS_congr _ _ fun j hj => by rw [re32_lo _ j hj]; unfold zK; rw [if_pos hj]
  have hr : V (rN (re32 (zK k))) 16 = 0 := by
    have : rN (re32 (zK k)) = rN (fun _ => 0) := by unfold rN; rw [hc]
    rw [this]
    rfl
  rw [HN_zero _ b hr]
  have h0 : V (dg 0) (i + 1) = 0 := by rw [V_dg, Nat.zero_mod]
  unfold sumN
  rw [h0, Nat.zero_add, V_byte (sN (re32 (zK k))) (i + 1) i (by omega) (fun j hj => (re32 (zK k) (16 + j)).isLt)]
  show (re32 (zK k) (16 + i)).toNat = _
  rw [re32_hi _ i hi]
  unfold zK
  rw [if_neg (by omega)]
theorem eqU_true (f g : F8) : ∀ n i, (∀ j, i ≤ j → j < i + n → f j = g j) → eqU f g i n = true
  | 0, _, _ => rfl
  | n + 1, i, h => by
    simp only [eqU, h i (by omega) (by omega), decide_true, Bool.true_and]
    exact eqU_true f g n (i + 1) fun j h1 h2 => h j (by omega) (by omega)
end Go.Spec
namespace Go.Sym
open Go.Proofs Go.Spec
set_option linter.unusedVariables false
theorem b9 (k : F8) (b : By) (y : BitVec 8) (nl : Bool) : Must (bodyP Try.prog T2 gl0 [] [] 3000 Try.f9 0 [aggB 32 k, .rb true b (.is nl), .u8 y] [] (retQ Try.prog Try.f9 0 (rt (.bool true)))) := by
  constructor
  rw [vc9]
  have hM : (List.take (min (b.length : Int) 100).toNat b).length ≤ 100 := by simp; omega
  have h0 : 0 ≤ min (b.length : Int) 100 ∧ (min (b.length : Int) 100).toNat ≤ b.length := by omega
  generalize List.take (min (b.length : Int) 100).toNat b = M at *
  generalize (min (b.length : Int) 100) = m at *
  refine ⟨h0.1, h0.2, ?_⟩
  repeat refine And.intro (by first | exact Int.natCast_nonneg _ | omega) ?_
  refine brec (fun h => ?_) (fun h => ?_)
  · refine ⟨by omega, ?_, trivial⟩
    rw [zero_tag k M 0 (by omega), zero_tag k M 1 (by omega), zero_tag k M 2 (by omega), zero_tag k M 3 (by omega), zero_tag k M 4 (by omega), zero_tag k M 5 (by omega), zero_tag k M 6 (by omega), zero_tag k M 7 (by omega), zero_tag k M 8 (by omega), zero_tag k M 9 (by omega), zero_tag k M 10 (by omega), zero_tag k M 11 (by omega), zero_tag k M 12 (by omega), zero_tag k M 13 (by omega), zero_tag k M 14 (by omega), zero_tag k M 15 (by omega)]
    exact (decide_eq_true rfl).symm
  · rw [eqU_true _ _ 16 0 fun j _ hj => sums_eq k y M j (by omega)] at h
    cases h
end Go.Sym

/- PolySums: what is added to the key's second half is added to the tag. No conditions. -/
namespace Go.Sym
open Go.Proofs Go.Spec
theorem w9 (W : World) (v0 : Value) (k : F8) (h0 : VRel (κW W) (aggB 32 k) v0) (v1 : Value) (l1 : List (BitVec 8)) (c1 : Bool) (h1 : VRel (κW W) (.rb true l1 (.is c1)) v1) (_k1 : l1.length ≤ maxLen) (v2 : Value) (n2 : BitVec 8) (h2 : VRel (κW W) (.u8 n2) v2) :
    Calls Try.prog 9 #[v0, v1, v2] W fun e w' => e = .returned (.bool true) ∧ RowKit.Below W.heap.size W w' := by
  have hv : VRels (κW W) [aggB 32 k, .rb true l1 (.is c1), .u8 n2] [v0, v1, v2] := by
    simp only [VRels]
    exact ⟨_, _, rfl, h0, _, _, rfl, h1, _, _, rfl, h2, rfl⟩
  refine law_walk (gl := gl0) (Γ := T2) (fn := Try.f9) (av := [aggB 32 k, .rb true l1 (.is c1), .u8 n2]) (ls := []) [] 3000 (by kernel_rfl) (by kernel_rfl) okT2 (by kernel_rfl) (GW.nil W) (by kernel_rfl) hv ?_
  exact b9 k l1 n2 c1
end Go.Sym
namespace Go.Proofs.Ytplbacakdlomeaa.polySums
open Go.ChangeShapes Go.WideShapes Go.ChangeAt Go.RowKit
set_option linter.unusedVariables false

theorem own : ownKnob Try.prog.godebug = none := by kernel_rfl
theorem laid : laidOutB Try.prog = true := by kernel_rfl

set_option maxRecDepth 100000 in
theorem lifted (os : Os) (started : os.Started) (H : Type) (enc : TypeId × Value → H) :
    ReturnsInHanded {} Try.checked os 9 .any (Rows.polySumsSpec.pre6 enc Try.prog Try.f9 Rows.polySumsRow.domain false) (Rows.polySumsSpec.post enc Try.prog Try.f9 false true false false) := by
  refine returnsInHanded_of_change (C := Try.checked) own started (by kernel_rfl) Try.func9
    (ChangeSpec.witness6 (enc := enc) (C := Try.checked) false ⟨#[], #[.agg (Array.replicate 32 (.int .u8 0)), .slice none 0 0, .int .u8 0], []⟩ 8 (by kernel_rfl) (by kernel_rfl) (by kernel_rfl) (by kernel_rfl)) ?_
  intro W base args ds gs before hval0 hW hcnd _
  have hval : ∀ (j : Nat) t v, Try.f9.params[j]? = some t → args[j]? = some v → Value.okWide Try.prog W .any base t v := hval0
  have hW' := hW
  obtain ⟨p, q, hA0, hV, rfl, hfz, hnd⟩ := hW
  have hA : DataW.TrodAll enc Try.prog W 0 (fun _ => true) true Try.f9.params.toList args.toList ds p := hA0
  rw [Try.params9] at hA hval
  obtain ⟨v0, vs0, d0, ds0, p0, q0, hargs, rfl, rfl, h0, r0⟩ := trodAll_cons hA
  obtain ⟨v1, vs1, d1, ds1, p1, q1, rfl, rfl, rfl, h1, r1⟩ := trodAll_cons r0
  obtain ⟨v2, vs2, d2, ds2, p2, q2, rfl, rfl, rfl, h2, r2⟩ := trodAll_cons r1
  obtain ⟨rfl, rfl, rfl⟩ := trodAll_nil r2
  obtain rfl : args = #[v0, v1, v2] := by cases args; simp_all
  obtain ⟨rfl, rfl⟩ := trodVars_none hV
  obtain ⟨a2, rfl, rfl, rfl, w2⟩ := open_int Try.underlying5 (hval 2 5 v2 rfl rfl) h2
  clear hA0 hval0
  have hlt0 : ∀ x ∈ p0, x.block < W.heap.size := fun x hx => hW'.lt x (by simp [hx])
  obtain ⟨fuel0, hf0⟩ := h0
  obtain ⟨avs0, hs0, hd0, hr0⟩ := Go.Sym.rd_flat 9 22 (List.replicate 32 (.i .u8)) _ _ _ (by kernel_rfl) hf0
  obtain ⟨k, rfl⟩ := Go.Sym.sh_by hs0
  have hu0 := Go.Sym.agg_of_cells hr0 (by simp)
  have hlt1 : ∀ x ∈ p1, x.block < W.heap.size := fun x hx => hW'.lt x (by simp [hx])
  obtain ⟨fuel1, hf1⟩ := h1
  obtain ⟨u1, l1, c1, hc1, hcl1, hll1, hu1⟩ := Go.Sym.rd_bytes Try.underlying29 Try.underlying5 (by kernel_rfl) hf1
  have hv1 : v1 = u1 := Go.Sym.cells_slice Try.underlying29 (hval 1 29 v1 rfl rfl) hc1
  subst hv1
  refine (Go.Sym.w9 W v0 k hu0 v1 l1 c1 hu1 hll1 (.int .u8 a2) (BitVec.ofInt 8 a2) (Go.Sym.rel_u8 w2)).mono fun e W' ⟨he, bel⟩ => ?_
  subst he
  exact ⟨_, rfl, _, _, _, [], _, [], hW', trodAll_mk1 (shut_bool Try.underlying4 _), (trodAll_cons_mk (Below.trod laid (by kernel_rfl) (of_decide_eq_true (by kernel_rfl)) ⟨fuel0, hf0⟩ bel hlt0) (trodAll_cons_mk (Below.trod laid (by kernel_rfl) (of_decide_eq_true (by kernel_rfl)) ⟨fuel1, hf1⟩ bel hlt1) (trodAll_cons_mk (shut_int Try.underlying5 w2) trodAll_mk0))), rfl, bel.frame _, fun h => by cases h⟩

theorem over : Rows.polySumsRow.holds Try.pinned (OpenSpec.ofChange Rows.polySumsSpec) :=
  OpenClaim.holds_of_wide 9 Try.f9 rfl rfl rfl rfl rfl rfl rfl ⟨rfl, rfl, rfl, rfl, rfl⟩ rfl rfl rfl rfl rfl (by kernel_rfl) Try.func9 (by kernel_rfl)
    (of_decide_eq_true (by kernel_rfl)) (by unfold Func.isWrapper; first | (rw [if_pos (by decide +kernel)]; kernel_rfl) | (rw [if_neg (by decide +kernel)]; exact ⟨rfl, rfl⟩))
    (fun os started H enc _ => lifted os started H enc)

theorem proved : Rows.PolySumsSaid :=
  over
#print axioms proved
end Go.Proofs.Ytplbacakdlomeaa.polySums
