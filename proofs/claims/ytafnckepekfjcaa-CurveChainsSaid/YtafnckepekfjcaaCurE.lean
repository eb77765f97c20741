/- What is shared, out of the test of one vector; bits that do not count. -/
import Derived.Test.YtafnckepekfjcaaCurD
namespace Go.Sym
open Go.Proofs Go.Spec
set_option linter.unusedVariables false
def gTr (xs : List AV) (bs : List ABlk) : TL := match xs, bs with
  | [], [] => .ok ⟨[], .bool true, [], []⟩
  | _, _ => .no
def spTr : Spec := ⟨[], fun _ _ => [], fun _ _ => [], gTr⟩
noncomputable def V10 : Ctx := V9.add 8 (mkF spTr)
set_option maxRecDepth 100000 in
theorem vsh10 (q : Bool) : bodyP Try.prog V9 gl0 [] [] 3000 Try.f8 0 [] [] (retQ Try.prog Try.f8 0 ⟨[], .bool q, [], []⟩) = (
let x1 := fun (i : Nat) => [BitVec.ofNat 8 119, BitVec.ofNat 8 7, BitVec.ofNat 8 109, BitVec.ofNat 8 10, BitVec.ofNat 8 115, BitVec.ofNat 8 24, BitVec.ofNat 8 165, BitVec.ofNat 8 125, BitVec.ofNat 8 60, BitVec.ofNat 8 22, BitVec.ofNat 8 193, BitVec.ofNat 8 114, BitVec.ofNat 8 81, BitVec.ofNat 8 178, BitVec.ofNat 8 102, BitVec.ofNat 8 69, BitVec.ofNat 8 223, BitVec.ofNat 8 76, BitVec.ofNat 8 47, BitVec.ofNat 8 135, BitVec.ofNat 8 235, BitVec.ofNat 8 192, BitVec.ofNat 8 153, BitVec.ofNat 8 42, BitVec.ofNat 8 177, BitVec.ofNat 8 119, BitVec.ofNat 8 251, BitVec.ofNat 8 165, BitVec.ofNat 8 29, BitVec.ofNat 8 185, BitVec.ofNat 8 44, BitVec.ofNat 8 42].getD i (0 : BitVec 8); let x2 := fun (i : Nat) => (BitVec.ofNat 8 9 :: List.replicate 31 (BitVec.ofNat 8 0)).getD i (0 : BitVec 8); @Bool.rec (fun _ => Prop) (q = Bool.false ∧ True) (@Bool.rec (fun _ => Prop) (q = Bool.false ∧ True) (@Bool.rec (fun _ => Prop) (q = Bool.false ∧ True) (q = decide (shS x1 x2 3 = BitVec.ofNat 8 9) ∧ True) (decide (shS x1 x2 2 = BitVec.ofNat 8 240))) (decide (shS x1 x2 1 = BitVec.ofNat 8 32))) (decide (shS x1 x2 0 = BitVec.ofNat 8 133)) : Prop) := by kernel_rfl
end Go.Sym

namespace Go.Spec
open Go.Sym
theorem allP_get {P : Nat → Prop} {r : Prop} : ∀ (n s : Nat), allP P s n r → ∀ i, s ≤ i → i < s + n → P i
  | 0, _, _, i, h1, h2 => by omega
  | n + 1, s, h, i, h1, h2 => by
    by_cases e : i = s
    · rw [e]; exact h.1
    · exact allP_get n (s + 1) h.2 i (by omega) (by omega)
theorem lt32 {P : Nat → Prop} (h : allP P 0 32 True) (i : Nat) (hi : i < 32) : P i := allP_get 32 0 h i (Nat.zero_le _) (by omega)
def l32 (p : F8) : F8 := fun i => (rg 32 p).getD i (0 : BitVec 8)
def lotF (s : F8) (l : BitVec 8) : F8 := fun i => ((s 0 ^^^ l % BitVec.ofNat 8 8) :: rgA s 1 30 [s 31 ^^^ BitVec.ofNat 8 128]).getD i (0 : BitVec 8)
def topF (p : F8) : F8 := fun i => (rgA p 0 31 [p 31 ^^^ BitVec.ofNat 8 128]).getD i (0 : BitVec 8)
def bigL (n : BitVec 8) : F8 := fun i => ((BitVec.ofNat 8 237 + n) :: rgA (fun _ => BitVec.ofNat 8 255) 0 30 [BitVec.ofNat 8 127]).getD i (0 : BitVec 8)
def smaL (n : BitVec 8) : F8 := fun i => (n :: List.replicate 31 (BitVec.ofNat 8 0)).getD i (0 : BitVec 8)
theorem l32_at (p : F8) (i : Nat) (h : i < 32) : l32 p i = p i := rg_getD 32 p i (0 : BitVec 8) h
theorem lot_mid (s : F8) (l : BitVec 8) (i : Nat) (hi : i < 32) (h0 : i ≠ 0) (h31 : i ≠ 31) : lotF s l i = s i := lt32 (P := fun i => i ≠ 0 → i ≠ 31 → lotF s l i = s i) ⟨fun h _ => absurd rfl h, fun _ _ => rfl, fun _ _ => rfl, fun _ _ => rfl, fun _ _ => rfl, fun _ _ => rfl, fun _ _ => rfl, fun _ _ => rfl, fun _ _ => rfl, fun _ _ => rfl, fun _ _ => rfl, fun _ _ => rfl, fun _ _ => rfl, fun _ _ => rfl, fun _ _ => rfl, fun _ _ => rfl, fun _ _ => rfl, fun _ _ => rfl, fun _ _ => rfl, fun _ _ => rfl, fun _ _ => rfl, fun _ _ => rfl, fun _ _ => rfl, fun _ _ => rfl, fun _ _ => rfl, fun _ _ => rfl, fun _ _ => rfl, fun _ _ => rfl, fun _ _ => rfl, fun _ _ => rfl, fun _ _ => rfl, fun _ h => absurd rfl h, trivial⟩ i hi h0 h31
theorem top_mid (p : F8) (i : Nat) (hi : i < 32) (h31 : i ≠ 31) : topF p i = p i := lt32 (P := fun i => i ≠ 31 → topF p i = p i) ⟨fun _ => rfl, fun _ => rfl, fun _ => rfl, fun _ => rfl, fun _ => rfl, fun _ => rfl, fun _ => rfl, fun _ => rfl, fun _ => rfl, fun _ => rfl, fun _ => rfl, fun _ => rfl, fun _ => rfl, fun _ => rfl, fun _ => rfl, fun _ => rfl, fun _ => rfl, fun _ => rfl, fun _ => rfl, fun _ => rfl, fun _ => rfl, fun _ => rfl, fun _ => rfl, fun _ => rfl, fun _ => rfl, fun _ => rfl, fun _ => rfl, fun _ => rfl, fun _ => rfl, fun _ => rfl, fun _ => rfl, fun h => absurd rfl h, trivial⟩ i hi h31
theorem big_at (n : BitVec 8) (i : Nat) (hi : i < 32) : bigL n i = bigF n i := lt32 (P := fun i => bigL n i = bigF n i) ⟨rfl, rfl, rfl, rfl, rfl, rfl, rfl, rfl, rfl, rfl, rfl, rfl, rfl, rfl, rfl, rfl, rfl, rfl, rfl, rfl, rfl, rfl, rfl, rfl, rfl, rfl, rfl, rfl, rfl, rfl, rfl, rfl, trivial⟩ i hi
theorem sma_at (n : BitVec 8) (i : Nat) (hi : i < 32) : smaL n i = smaF n i := lt32 (P := fun i => smaL n i = smaF n i) ⟨rfl, rfl, rfl, rfl, rfl, rfl, rfl, rfl, rfl, rfl, rfl, rfl, rfl, rfl, rfl, rfl, rfl, rfl, rfl, rfl, rfl, rfl, rfl, rfl, rfl, rfl, rfl, rfl, rfl, rfl, rfl, rfl, trivial⟩ i hi
theorem cla_lot (s : F8) (l : BitVec 8) (i : Nat) (hi : i < 32) : claL (l32 s) i = claL (lotF s l) i := by
  unfold claL
  by_cases h0 : i = 0
  · rw [if_pos h0, if_pos h0, l32_at s 0 (by omega)]
    exact (low3 (s 0) l).symm
  · rw [if_neg h0, if_neg h0]
    by_cases h31 : i = 31
    · rw [if_pos h31, if_pos h31, l32_at s 31 (by omega)]
      exact (top1 (s 31)).symm
    · rw [if_neg h31, if_neg h31, l32_at s i hi, lot_mid s l i hi h0 h31]
theorem bits_one (s p : F8) (l : BitVec 8) : shS (l32 s) (l32 p) = shS (lotF s l) (topF p) := by
  rw [shS_eq, shS_eq]
  refine shrB_congr (cla_lot s l) ?_
  refine (numS_top (fun i hi => ?_) ?_).symm
  · rw [top_mid p i (by omega) (by omega), l32_at p i (by omega)]
  · rw [l32_at p 31 (by omega)]
    rfl
theorem bits_two (s : F8) (n : Nat) (h : n < 19) : shS s (bigL (BitVec.ofNat 8 n)) = shS s (smaL (BitVec.ofNat 8 n)) := by
  have h1 : numS (bigL (BitVec.ofNat 8 n)) 255 = numS (bigF (BitVec.ofNat 8 n)) 255 := numS_congr (fun i hi => big_at _ i hi) 255 (Nat.le_refl _)
  have h2 : numS (smaL (BitVec.ofNat 8 n)) 255 = numS (smaF (BitVec.ofNat 8 n)) 255 := numS_congr (fun i hi => sma_at _ i hi) 255 (Nat.le_refl _)
  have r1 := big_R n h
  have r2 := sma_R n h
  rw [← h1] at r1
  rw [← h2] at r2
  rw [shS_eq, shS_eq, shr_V s _ r1, shr_V s _ r2]
theorem rem19 (l : BitVec 8) : ∃ n, n < 19 ∧ l % BitVec.ofNat 8 19 = BitVec.ofNat 8 n := by
  refine ⟨l.toNat % 19, Nat.mod_lt _ (by decide), ?_⟩
  apply BitVec.eq_of_toNat_eq
  rw [BitVec.toNat_umod, BitVec.toNat_ofNat, BitVec.toNat_ofNat]
  have e : 19 % 2 ^ 8 = 19 := rfl
  rw [e]
  have := l.isLt
  omega
def sixB : F8 := bytS (limL 48084050389777770101701157326923977117307187144965043058462938058489685090437) 255
theorem shX_is : shS shX (smaL (BitVec.ofNat 8 9)) = sixB := by
  have h2 : numS (smaL (BitVec.ofNat 8 9)) 255 = numS (smaF (BitVec.ofNat 8 9)) 255 := numS_congr (fun i hi => sma_at _ i hi) 255 (Nat.le_refl _)
  have r2 := sma_R 9 (by decide)
  rw [← h2] at r2
  rw [shS_eq, shr_V shX _ r2, sh_val]
  rfl
theorem six0 : sixB 0 = BitVec.ofNat 8 133 := by decide +kernel
theorem six1 : sixB 1 = BitVec.ofNat 8 32 := by decide +kernel
theorem six2 : sixB 2 = BitVec.ofNat 8 240 := by decide +kernel
theorem six3 : sixB 3 = BitVec.ofNat 8 9 := by decide +kernel
end Go.Spec
namespace Go.Sym
open Go.Proofs Go.Spec
set_option linter.unusedVariables false
theorem bsh10 : Must (bodyP Try.prog V9 gl0 [] [] 3000 Try.f8 0 [] [] (retQ Try.prog Try.f8 0 ⟨[], .bool true, [], []⟩)) := by
  constructor
  rw [vsh10]
  intro x1 x2
  have e : shS x1 x2 = sixB := shX_is
  clear_value x1 x2
  rw [e, six0, six1, six2, six3]
  simp only [decide_true]
  exact ⟨trivial, trivial⟩
theorem csh10 : COK Try.prog gl0 8 (mkF spTr) := by
  refine ctrE (fn := Try.f8) [] 3000 (by kernel_rfl) (by kernel_rfl) okV9 (by kernel_rfl) (fun args w => by kernel_rfl) fun xs bs r hs ho => ?_
  replace hs : (gTr xs bs).sel = some r := hs
  unfold gTr at hs
  split at hs
  · simp only [TL.sel, Option.some.injEq] at hs
    subst hs
    exact ⟨_, bsh10⟩
  · simp [TL.sel] at hs
theorem okV10 : COKs Try.prog gl0 V10 := okV9.add csh10
end Go.Sym
