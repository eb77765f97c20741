/- CurveLow: with publics of which nothing but nought comes, whatever the secret is, that is told. No conditions. -/
import Derived.Test.YtmpgpbbaloiniaaCurD
import Derived.Test.YtmpgpbbaloiniaaCurA
import Derived.Test.YtmpgpbbaloiniaaRows
import Derived.WalkKit
import Derived.ProofKit
import Derived.OpenShut
import Derived.ChangeOld
import Derived.Below
import Derived.Carry
namespace Go.Sym
open Go.Proofs Go.Spec
set_option linter.unusedVariables false
def gTr (xs : List AV) (bs : List ABlk) : TL := match xs, bs with
  | [], [] => .ok ⟨[], .bool true, [], []⟩
  | _, _ => .no
def spTr : Spec := ⟨[], fun _ _ => [], fun _ _ => [], gTr⟩
noncomputable def V10 : Ctx := V9.add 10 (mkF spTr)
set_option maxRecDepth 100000 in
theorem vsh10 (q : Bool) : bodyP Try.prog V9 gl0 [] [] 3000 Try.f10 0 [] [] (retQ Try.prog Try.f10 0 ⟨[], .bool q, [], []⟩) = (
let x1 := fun (i : Nat) => [BitVec.ofNat 8 119, BitVec.ofNat 8 7, BitVec.ofNat 8 109, BitVec.ofNat 8 10, BitVec.ofNat 8 115, BitVec.ofNat 8 24, BitVec.ofNat 8 165, BitVec.ofNat 8 125, BitVec.ofNat 8 60, BitVec.ofNat 8 22, BitVec.ofNat 8 193, BitVec.ofNat 8 114, BitVec.ofNat 8 81, BitVec.ofNat 8 178, BitVec.ofNat 8 102, BitVec.ofNat 8 69, BitVec.ofNat 8 223, BitVec.ofNat 8 76, BitVec.ofNat 8 47, BitVec.ofNat 8 135, BitVec.ofNat 8 235, BitVec.ofNat 8 192, BitVec.ofNat 8 153, BitVec.ofNat 8 42, BitVec.ofNat 8 177, BitVec.ofNat 8 119, BitVec.ofNat 8 251, BitVec.ofNat 8 165, BitVec.ofNat 8 29, BitVec.ofNat 8 185, BitVec.ofNat 8 44, BitVec.ofNat 8 42].getD i (0 : BitVec 8); let x2 := fun (i : Nat) => (BitVec.ofNat 8 9 :: List.replicate 31 (BitVec.ofNat 8 0)).getD i (0 : BitVec 8); @Bool.rec (fun _ => Prop) (q = Bool.false ∧ True) (@Bool.rec (fun _ => Prop) (q = Bool.false ∧ True) (@Bool.rec (fun _ => Prop) (q = Bool.false ∧ True) (q = decide (shS x1 x2 3 = BitVec.ofNat 8 9) ∧ True) (decide (shS x1 x2 2 = BitVec.ofNat 8 240))) (decide (shS x1 x2 1 = BitVec.ofNat 8 32))) (decide (shS x1 x2 0 = BitVec.ofNat 8 133)) : Prop) := by kernel_rfl
set_option maxRecDepth 100000 in
theorem vbits (s p : F8) (l : BitVec 8) : bodyP Try.prog V10 gl0 [] [] 3000 Try.f4 0 [aggB 32 s, aggB 32 p, .u8 l] [] (retQ Try.prog Try.f4 0 ⟨[], .bool true, [], []⟩) = (
let x1 := fun (i : Nat) => (rg 32 s).getD i (0 : BitVec 8); let x2 := fun (i : Nat) => ((BitVec.ofNat 8 237 + l % BitVec.ofNat 8 19) :: rgA (fun (i : Nat) => BitVec.ofNat 8 255) 0 30 [BitVec.ofNat 8 127]).getD i (0 : BitVec 8); let x3 := fun (i : Nat) => ((s 0 ^^^ l % BitVec.ofNat 8 8) :: rgA s 1 30 [s 31 ^^^ BitVec.ofNat 8 128]).getD i (0 : BitVec 8); (0 : Int) ≤ (1 : Int) ∧ allP (fun (i : Nat) => (0 : Int) ≤ Int.ofNat i) 2 29 (@Bool.rec (fun _ => Prop) (Bool.true = Bool.false ∧ True) (@Bool.rec (fun _ => Prop) (Bool.true = Bool.false ∧ True) (@Bool.rec (fun _ => Prop) (Bool.true = Bool.false ∧ True) (Bool.true = decide (okB (shS x1 x2) = okB (shS x1 fun (i : Nat) => (l % BitVec.ofNat 8 19 :: List.replicate 31 (BitVec.ofNat 8 0)).getD i (0 : BitVec 8))) ∧ True) (andP (fun (i : Nat) => decide (shS x1 x2 i = shS x1 (fun (i : Nat) => (l % BitVec.ofNat 8 19 :: List.replicate 31 (BitVec.ofNat 8 0)).getD i (0 : BitVec 8)) i)) 0 32 Bool.true)) (decide (okB (shS x1 fun (i : Nat) => (rg 32 p).getD i (0 : BitVec 8)) = okB (shS x3 fun (i : Nat) => (rgA p 0 31 [p 31 ^^^ BitVec.ofNat 8 128]).getD i (0 : BitVec 8))))) (andP (fun (i : Nat) => decide (shS x1 (fun (i : Nat) => (rg 32 p).getD i (0 : BitVec 8)) i = shS x3 (fun (i : Nat) => (rgA p 0 31 [p 31 ^^^ BitVec.ofNat 8 128]).getD i (0 : BitVec 8)) i)) 0 32 Bool.true)) : Prop) := by kernel_rfl
end Go.Sym

namespace Go.Spec
open Go.Sym
theorem allP_get {P : Nat → Prop} {r : Prop} : ∀ (n s : Nat), allP P s n r → ∀ i, s ≤ i → i < s + n → P i
  | 0, _, _, i, h1, h2 => by omega
  | n + 1, s, h, i, h1, h2 => by
    by_cases e : i = s
    · rw [e]; exact h.1
    · exact allP_get n (s + 1) h.2 i (by omega) (by omega)
theorem lt32 {P : Nat → Prop} (h : allP P 0 32 True) (i : Nat) (hi : i < 32) : P i := allP_get 32 0 h i (Nat.zero_le _) (by omega)
def l32 (p : F8) : F8 := fun i => (rg 32 p).getD i (0 : BitVec 8)
def lotF (s : F8) (l : BitVec 8) : F8 := fun i => ((s 0 ^^^ l % BitVec.ofNat 8 8) :: rgA s 1 30 [s 31 ^^^ BitVec.ofNat 8 128]).getD i (0 : BitVec 8)
def topF (p : F8) : F8 := fun i => (rgA p 0 31 [p 31 ^^^ BitVec.ofNat 8 128]).getD i (0 : BitVec 8)
def bigL (n : BitVec 8) : F8 := fun i => ((BitVec.ofNat 8 237 + n) :: rgA (fun _ => BitVec.ofNat 8 255) 0 30 [BitVec.ofNat 8 127]).getD i (0 : BitVec 8)
def smaL (n : BitVec 8) : F8 := fun i => (n :: List.replicate 31 (BitVec.ofNat 8 0)).getD i (0 : BitVec 8)
theorem l32_at (p : F8) (i : Nat) (h : i < 32) : l32 p i = p i := rg_getD 32 p i (0 : BitVec 8) h
theorem lot_mid (s : F8) (l : BitVec 8) (i : Nat) (hi : i < 32) (h0 : i ≠ 0) (h31 : i ≠ 31) : lotF s l i = s i := lt32 (P := fun i => i ≠ 0 → i ≠ 31 → lotF s l i = s i) ⟨fun h _ => absurd rfl h, fun _ _ => rfl, fun _ _ => rfl, fun _ _ => rfl, fun _ _ => rfl, fun _ _ => rfl, fun _ _ => rfl, fun _ _ => rfl, fun _ _ => rfl, fun _ _ => rfl, fun _ _ => rfl, fun _ _ => rfl, fun _ _ => rfl, fun _ _ => rfl, fun _ _ => rfl, fun _ _ => rfl, fun _ _ => rfl, fun _ _ => rfl, fun _ _ => rfl, fun _ _ => rfl, fun _ _ => rfl, fun _ _ => rfl, fun _ _ => rfl, fun _ _ => rfl, fun _ _ => rfl, fun _ _ => rfl, fun _ _ => rfl, fun _ _ => rfl, fun _ _ => rfl, fun _ _ => rfl, fun _ _ => rfl, fun _ h => absurd rfl h, trivial⟩ i hi h0 h31
theorem top_mid (p : F8) (i : Nat) (hi : i < 32) (h31 : i ≠ 31) : topF p i = p i := lt32 (P := fun i => i ≠ 31 → topF p i = p i) ⟨fun _ => rfl, fun _ => rfl, fun _ => rfl, fun _ => rfl, fun _ => rfl, fun _ => rfl, fun _ => rfl, fun _ => rfl, fun _ => rfl, fun _ => rfl, fun _ => rfl, fun _ => rfl, fun _ => rfl, fun _ => rfl, fun _ => rfl, fun _ => rfl, fun _ => rfl, fun _ => rfl, fun _ => rfl, fun _ => rfl, fun _ => rfl, fun _ => rfl, fun _ => rfl, fun _ => rfl, fun _ => rfl, fun _ => rfl, fun _ => rfl, fun _ => rfl, fun _ => rfl, fun _ => rfl, fun _ => rfl, fun h => absurd rfl h, trivial⟩ i hi h31
theorem big_at (n : BitVec 8) (i : Nat) (hi : i < 32) : bigL n i = bigF n i := lt32 (P := fun i => bigL n i = bigF n i) ⟨rfl, rfl, rfl, rfl, rfl, rfl, rfl, rfl, rfl, rfl, rfl, rfl, rfl, rfl, rfl, rfl, rfl, rfl, rfl, rfl, rfl, rfl, rfl, rfl, rfl, rfl, rfl, rfl, rfl, rfl, rfl, rfl, trivial⟩ i hi
theorem sma_at (n : BitVec 8) (i : Nat) (hi : i < 32) : smaL n i = smaF n i := lt32 (P := fun i => smaL n i = smaF n i) ⟨rfl, rfl, rfl, rfl, rfl, rfl, rfl, rfl, rfl, rfl, rfl, rfl, rfl, rfl, rfl, rfl, rfl, rfl, rfl, rfl, rfl, rfl, rfl, rfl, rfl, rfl, rfl, rfl, rfl, rfl, rfl, rfl, trivial⟩ i hi
theorem cla_lot (s : F8) (l : BitVec 8) (i : Nat) (hi : i < 32) : claL (l32 s) i = claL (lotF s l) i := by
  unfold claL
  by_cases h0 : i = 0
  · rw [if_pos h0, if_pos h0, l32_at s 0 (by omega)]
    exact (low3 (s 0) l).symm
  · rw [if_neg h0, if_neg h0]
    by_cases h31 : i = 31
    · rw [if_pos h31, if_pos h31, l32_at s 31 (by omega)]
      exact (top1 (s 31)).symm
    · rw [if_neg h31, if_neg h31, l32_at s i hi, lot_mid s l i hi h0 h31]
theorem bits_one (s p : F8) (l : BitVec 8) : shS (l32 s) (l32 p) = shS (lotF s l) (topF p) := by
  rw [shS_eq, shS_eq]
  refine shrB_congr (cla_lot s l) ?_
  refine (numS_top (fun i hi => ?_) ?_).symm
  · rw [top_mid p i (by omega) (by omega), l32_at p i (by omega)]
  · rw [l32_at p 31 (by omega)]
    rfl
theorem bits_two (s : F8) (n : Nat) (h : n < 19) : shS s (bigL (BitVec.ofNat 8 n)) = shS s (smaL (BitVec.ofNat 8 n)) := by
  have h1 : numS (bigL (BitVec.ofNat 8 n)) 255 = numS (bigF (BitVec.ofNat 8 n)) 255 := numS_congr (fun i hi => big_at _ i hi) 255 (Nat.le_refl _)
  have h2 : numS (smaL (BitVec.ofNat 8 n)) 255 = numS (smaF (BitVec.ofNat 8 n)) 255 := numS_congr (fun i hi => sma_at _ i hi) 255 (Nat.le_refl _)
  have r1 := big_R n h
  have r2 := sma_R n h
  rw [← h1] at r1
  rw [← h2] at r2
  rw [shS_eq, shS_eq, shr_V s _ r1, shr_V s _ r2]
theorem rem19 (l : BitVec 8) : ∃ n, n < 19 ∧ l % BitVec.ofNat 8 19 = BitVec.ofNat 8 n := by
  refine ⟨l.toNat % 19, Nat.mod_lt _ (by decide), ?_⟩
  apply BitVec.eq_of_toNat_eq
  rw [BitVec.toNat_umod, BitVec.toNat_ofNat, BitVec.toNat_ofNat]
  have e : 19 % 2 ^ 8 = 19 := rfl
  rw [e]
  have := l.isLt
  omega
def sixB : F8 := bytS (limL 48084050389777770101701157326923977117307187144965043058462938058489685090437) 255
theorem shX_is : shS shX (smaL (BitVec.ofNat 8 9)) = sixB := by
  have h2 : numS (smaL (BitVec.ofNat 8 9)) 255 = numS (smaF (BitVec.ofNat 8 9)) 255 := numS_congr (fun i hi => sma_at _ i hi) 255 (Nat.le_refl _)
  have r2 := sma_R 9 (by decide)
  rw [← h2] at r2
  rw [shS_eq, shr_V shX _ r2, sh_val]
  rfl
theorem six0 : sixB 0 = BitVec.ofNat 8 133 := by decide +kernel
theorem six1 : sixB 1 = BitVec.ofNat 8 32 := by decide +kernel
theorem six2 : sixB 2 = BitVec.ofNat 8 240 := by decide +kernel
theorem six3 : sixB 3 = BitVec.ofNat 8 9 := by decide +kernel
end Go.Spec
namespace Go.Sym
open Go.Proofs Go.Spec
set_option linter.unusedVariables false
theorem bsh10 : Must (bodyP Try.prog V9 gl0 [] [] 3000 Try.f10 0 [] [] (retQ Try.prog Try.f10 0 ⟨[], .bool true, [], []⟩)) := by
  constructor
  rw [vsh10]
  intro x1 x2
  have e : shS x1 x2 = sixB := shX_is
  clear_value x1 x2
  rw [e, six0, six1, six2, six3]
  simp only [decide_true]
  exact ⟨trivial, trivial⟩
theorem csh10 : COK Try.prog gl0 10 (mkF spTr) := by
  refine ctrE (fn := Try.f10) [] 3000 (by kernel_rfl) (by kernel_rfl) okV9 (by kernel_rfl) (fun args w => by kernel_rfl) fun xs bs r hs ho => ?_
  replace hs : (gTr xs bs).sel = some r := hs
  unfold gTr at hs
  split at hs
  · simp only [TL.sel, Option.some.injEq] at hs
    subst hs
    exact ⟨_, bsh10⟩
  · simp [TL.sel] at hs
theorem okV10 : COKs Try.prog gl0 V10 := okV9.add csh10
theorem bbits (s p : F8) (l : BitVec 8) : Must (bodyP Try.prog V10 gl0 [] [] 3000 Try.f4 0 [aggB 32 s, aggB 32 p, .u8 l] [] (retQ Try.prog Try.f4 0 ⟨[], .bool true, [], []⟩)) := by
  constructor
  rw [vbits]
  intro x1 x2 x3
  obtain ⟨n, hn, hl⟩ := rem19 l
  have e1 : shS x1 (fun i => (rg 32 p).getD i (0 : BitVec 8)) = shS x3 (fun i => (rgA p 0 31 [p 31 ^^^ BitVec.ofNat 8 128]).getD i (0 : BitVec 8)) := bits_one s p l
  have e2 : shS x1 x2 = shS x1 (fun i => (l % BitVec.ofNat 8 19 :: List.replicate 31 (BitVec.ofNat 8 0)).getD i (0 : BitVec 8)) := by
    have := bits_two x1 n hn
    rw [← hl] at this
    exact this
  clear_value x1 x2 x3
  rw [e1, e2]
  simp only [decide_true, andP_tt]
  exact ⟨by decide, allP_of _ _ (fun j _ _ => Int.natCast_nonneg _) ⟨trivial, trivial⟩⟩
end Go.Sym

namespace Go.Spec
open Go.Sym
theorem PZ_pos : 0 < PZ := by decide
theorem fM_lt (a b : Nat) : fM a b < PZ := Nat.mod_lt _ PZ_pos
theorem fM_z (a : Nat) : fM 0 a = 0 := by unfold fM; rw [Nat.zero_mul]; exact Nat.zero_mod _
theorem fM_z' (a : Nat) : fM a 0 = 0 := by unfold fM; rw [Nat.mul_zero]; exact Nat.zero_mod _
theorem fS_self (q : Nat) (h : q < PZ) : fS q q = 0 := by
  unfold fS
  rw [show q + (PZ - q) = PZ by omega, Nat.mod_self]
theorem fA_z (x : Nat) : fA x 0 = fS x 0 := by
  unfold fA fS
  rw [Nat.add_zero, Nat.sub_zero, Nat.add_mod_right]
theorem sq_mod (a : Nat) : (a % PZ) * (a % PZ) % PZ = a * a % PZ := (Nat.mul_mod a a PZ).symm
theorem neg_sq (z : Nat) (h : z < PZ) : fM (fS 0 z) (fS 0 z) = fM (fA 0 z) (fA 0 z) := by
  unfold fM fS fA
  rw [sq_mod, sq_mod, Nat.zero_add, Nat.zero_add]
  generalize hw : PZ - z = w
  have hs : w + z = PZ := by omega
  have e1 : w * w + PZ * z = z * z + PZ * w := by
    rw [← hs, Nat.add_mul, Nat.add_mul, Nat.mul_comm z w]
    omega
  have := congrArg (· % PZ) e1
  simp only [Nat.add_mul_mod_self_left] at this
  exact this
theorem neg_self (q : Nat) (h : q < PZ) : fA q (fM (PZ - 1) q) = 0 := by
  unfold fA fM
  rw [Nat.add_mod_mod]
  have : q + (PZ - 1) * q = PZ * q := by
    have e : PZ = (PZ - 1) + 1 := by have := PZ_pos; omega
    calc q + (PZ - 1) * q = (PZ - 1) * q + q := Nat.add_comm _ _
      _ = ((PZ - 1) + 1) * q := by rw [Nat.add_mul, Nat.one_mul]
      _ = PZ * q := by rw [← e]
  rw [this, Nat.mul_mod_right]
/-- Of two points the ladder knows: one is nothing or 0, the other as u. -/
def pA (x z : Nat) : Prop := x = 0 ∨ z = 0
def pB (u x z : Nat) : Prop := (u = 1 ∧ x = z) ∨ (u = PZ - 1 ∧ fA x z = 0)
structure sLt (s : L4) : Prop where
  z2 : s.z2 < PZ
  z3 : s.z3 < PZ
  x2 : s.x2 < PZ
  x3 : s.x3 < PZ
theorem step_lt (u : Nat) (s : L4) : sLt (stepV u s) := ⟨fM_lt _ _, fM_lt _ _, fM_lt _ _, fM_lt _ _⟩
theorem swap_lt {s : L4} (h : sLt s) (b : Bool) : sLt (swapV b s) := by
  cases b
  · exact h
  · exact ⟨h.z3, h.z2, h.x3, h.x2⟩
theorem dbl_A (u : Nat) {s : L4} (hs : sLt s) (h : pA s.x2 s.z2) : (stepV u s).z2 = 0 := by
  have he : fM (fA s.x2 s.z2) (fA s.x2 s.z2) = fM (fS s.x2 s.z2) (fS s.x2 s.z2) := by
    rcases h with h | h
    · rw [h]; exact (neg_sq s.z2 hs.z2).symm
    · rw [h, fA_z]
  show fM (fS (fM (fA s.x2 s.z2) (fA s.x2 s.z2)) (fM (fS s.x2 s.z2) (fS s.x2 s.z2))) _ = 0
  rw [he, fS_self _ (fM_lt _ _), fM_z]
theorem dbl_B (u : Nat) {s : L4} (hs : sLt s) (h : pB u s.x2 s.z2) : (stepV u s).x2 = 0 := by
  show fM (fM (fA s.x2 s.z2) (fA s.x2 s.z2)) (fM (fS s.x2 s.z2) (fS s.x2 s.z2)) = 0
  rcases h with ⟨_, h⟩ | ⟨_, h⟩
  · rw [h, fS_self _ hs.z2, fM_z, fM_z']
  · rw [h, fM_z, fM_z]
theorem sum_sq (da cb : Nat) (h1 : cb < PZ) (h : da = 0 ∨ cb = 0) : fM (fA da cb) (fA da cb) = fM (fS da cb) (fS da cb) := by
  rcases h with h | h
  · rw [h]; exact (neg_sq cb h1).symm
  · rw [h, fA_z]
theorem add_B (u : Nat) {s : L4} (hs : sLt s) (h : pB u s.x2 s.z2 ∨ pB u s.x3 s.z3) : pB u (stepV u s).x3 (stepV u s).z3 := by
  have hz : fM (fS s.x3 s.z3) (fA s.x2 s.z2) = 0 ∨ fM (fA s.x3 s.z3) (fS s.x2 s.z2) = 0 := by
    rcases h with (⟨_, h⟩ | ⟨_, h⟩) | (⟨_, h⟩ | ⟨_, h⟩)
    · right; rw [h, fS_self _ hs.z2, fM_z']
    · left; rw [h, fM_z']
    · left; rw [h, fS_self _ hs.z3, fM_z]
    · right; rw [h, fM_z]
  have e := sum_sq (fM (fS s.x3 s.z3) (fA s.x2 s.z2)) (fM (fA s.x3 s.z3) (fS s.x2 s.z2)) (fM_lt _ _) hz
  have hu : u = 1 ∨ u = PZ - 1 := by
    rcases h with (⟨h, _⟩ | ⟨h, _⟩) | (⟨h, _⟩ | ⟨h, _⟩)
    · exact .inl h
    · exact .inr h
    · exact .inl h
    · exact .inr h
  have hx : (stepV u s).x3 = fM (fA (fM (fS s.x3 s.z3) (fA s.x2 s.z2)) (fM (fA s.x3 s.z3) (fS s.x2 s.z2))) (fA (fM (fS s.x3 s.z3) (fA s.x2 s.z2)) (fM (fA s.x3 s.z3) (fS s.x2 s.z2))) := rfl
  have hy : (stepV u s).z3 = fM u (fM (fS (fM (fS s.x3 s.z3) (fA s.x2 s.z2)) (fM (fA s.x3 s.z3) (fS s.x2 s.z2))) (fS (fM (fS s.x3 s.z3) (fA s.x2 s.z2)) (fM (fA s.x3 s.z3) (fS s.x2 s.z2)))) := rfl
  rw [hx, hy, ← e]
  generalize hq : fM (fA (fM (fS s.x3 s.z3) (fA s.x2 s.z2)) (fM (fA s.x3 s.z3) (fS s.x2 s.z2))) (fA (fM (fS s.x3 s.z3) (fA s.x2 s.z2)) (fM (fA s.x3 s.z3) (fS s.x2 s.z2))) = q
  have hl : q < PZ := by rw [← hq]; exact fM_lt _ _
  rcases hu with h | h
  · refine .inl ⟨h, ?_⟩
    rw [h]
    unfold fM
    rw [Nat.one_mul, Nat.mod_eq_of_lt hl]
  · refine .inr ⟨h, ?_⟩
    rw [h]
    exact neg_self q hl
/-- What holds ahead of each round, where u is 1 or one less than p. -/
def invB (u : Nat) (s : L4) : Prop := sLt s ∧ ((pA s.x2 s.z2 ∧ pB u s.x3 s.z3) ∨ (pB u s.x2 s.z2 ∧ pA s.x3 s.z3))
theorem invB_swap {u : Nat} {s : L4} (h : invB u s) (b : Bool) : invB u (swapV b s) := by
  cases b
  · exact h
  · exact ⟨swap_lt h.1 true, h.2.elim (fun k => .inr ⟨k.2, k.1⟩) (fun k => .inl ⟨k.2, k.1⟩)⟩
theorem invB_step {u : Nat} {s : L4} (h : invB u s) : sLt (stepV u s) ∧ pA (stepV u s).x2 (stepV u s).z2 ∧ pB u (stepV u s).x3 (stepV u s).z3 := by
  refine ⟨step_lt u s, ?_, add_B u h.1 ?_⟩
  · rcases h.2 with ⟨k, _⟩ | ⟨k, _⟩
    · exact .inr (dbl_A u h.1 k)
    · exact .inl (dbl_B u h.1 k)
  · rcases h.2 with ⟨_, k⟩ | ⟨k, _⟩
    · exact .inr k
    · exact .inl k
theorem invB_all (s : F8) {u : Nat} (hu : u = 1 ∨ u = PZ - 1) : ∀ k, invB u (ladV s u k)
  | 0 => by
    have h1 : (1 : Nat) < PZ := by decide
    refine ⟨⟨PZ_pos, h1, h1, ?_⟩, .inl ⟨.inr rfl, ?_⟩⟩
    · show u < PZ
      rcases hu with h | h <;> rw [h] <;> decide
    · rcases hu with h | h
      · exact .inl ⟨h, h⟩
      · refine .inr ⟨h, ?_⟩
        show fA u 1 = 0
        rw [h]
        decide
  | k + 1 => by
    rw [ladV]
    obtain ⟨h1, h2, h3⟩ := invB_step (invB_swap (invB_all s hu k) (bitV s (254 - k)))
    exact invB_swap ⟨h1, .inl ⟨h2, h3⟩⟩ _
theorem low_B (s : F8) {u : Nat} (hu : u = 1 ∨ u = PZ - 1) (b0 : bitV s 0 = false) (b1 : bitV s 1 = false) : (ladV s u 255).z2 = 0 := by
  have e254 : ladV s u 254 = stepV u (ladV s u 253) := by
    rw [ladV, show 254 - 253 = 1 from rfl, b1]
    rfl
  have e255 : ladV s u 255 = stepV u (ladV s u 254) := by
    rw [ladV, show 254 - 254 = 0 from rfl, b0]
    rfl
  obtain ⟨h1, h2, h3⟩ := invB_step (invB_all s hu 253)
  rw [← e254] at h1 h2
  rw [e255]
  exact dbl_A u h1 h2
theorem invA_all (s : F8) : ∀ k, sLt (ladV s 0 k) ∧ pA (ladV s 0 k).x2 (ladV s 0 k).z2 ∧ pA (ladV s 0 k).x3 (ladV s 0 k).z3
  | 0 => ⟨⟨PZ_pos, show (1 : Nat) < PZ by decide, show (1 : Nat) < PZ by decide, PZ_pos⟩, .inr rfl, .inl rfl⟩
  | k + 1 => by
    obtain ⟨h1, h2, h3⟩ := invA_all s k
    have sw : sLt (swapV (bitV s (254 - k)) (ladV s 0 k)) ∧ pA (swapV (bitV s (254 - k)) (ladV s 0 k)).x2 (swapV (bitV s (254 - k)) (ladV s 0 k)).z2 := by
      cases bitV s (254 - k)
      · exact ⟨h1, h2⟩
      · exact ⟨swap_lt h1 true, h3⟩
    have z2 := dbl_A 0 sw.1 sw.2
    have z3 : (stepV 0 (swapV (bitV s (254 - k)) (ladV s 0 k))).z3 = 0 := fM_z _
    have lt := step_lt 0 (swapV (bitV s (254 - k)) (ladV s 0 k))
    rw [ladV]
    generalize stepV 0 (swapV (bitV s (254 - k)) (ladV s 0 k)) = t at *
    cases bitV s (254 - k)
    · exact ⟨lt, .inr z2, .inr z3⟩
    · exact ⟨swap_lt lt true, .inr z3, .inr z2⟩
theorem low_A (s : F8) : (ladV s 0 255).z2 = 0 := by
  obtain ⟨h1, h2, h3⟩ := invA_all s 254
  have sw : sLt (swapV (bitV s (254 - 254)) (ladV s 0 254)) ∧ pA (swapV (bitV s (254 - 254)) (ladV s 0 254)).x2 (swapV (bitV s (254 - 254)) (ladV s 0 254)).z2 := by
    cases bitV s (254 - 254)
    · exact ⟨h1, h2⟩
    · exact ⟨swap_lt h1 true, h3⟩
  have z2 := dbl_A 0 sw.1 sw.2
  have z3 : (stepV 0 (swapV (bitV s (254 - 254)) (ladV s 0 254))).z3 = 0 := fM_z _
  rw [ladV]
  generalize stepV 0 (swapV (bitV s (254 - 254)) (ladV s 0 254)) = t at *
  cases bitV s (254 - 254)
  · exact z2
  · exact z3
theorem invV_z : invV 0 255 = 0 := by
  rw [invV, if_neg (by decide), fM_z']
/-- Nothing comes of these, whatever the secret is. -/
theorem shV_low (s : F8) {u : Nat} (hu : u = 0 ∨ u = 1 ∨ u = PZ - 1) (b0 : bitV s 0 = false) (b1 : bitV s 1 = false) : shV s u = 0 := by
  have hz : (ladV s u 255).z2 = 0 := by
    rcases hu with h | h | h
    · rw [h]; exact low_A s
    · exact low_B s (.inl h) b0 b1
    · exact low_B s (.inr h) b0 b1
  unfold shV
  rw [hz, invV_z, fM_z']
end Go.Spec

namespace Go.Spec
open Go.Sym
def lowL (a b c : BitVec 8) : F8 := fun i => if i = 0 then a else if i = 31 then c else b
set_option maxRecDepth 100000 in
theorem low0_R : Rp (numS (lowL 0#8 0#8 0#8) 255) 0 := by
  have h : (okNb (numS (lowL 0#8 0#8 0#8) 255) && decide (vN (numS (lowL 0#8 0#8 0#8) 255) % PZ = 0)) = true := by decide +kernel
  rw [Bool.and_eq_true] at h
  exact ⟨okN_b h.1, of_decide_eq_true h.2⟩
set_option maxRecDepth 100000 in
theorem low1_R : Rp (numS (lowL 1#8 0#8 0#8) 255) 1 := by
  have h : (okNb (numS (lowL 1#8 0#8 0#8) 255) && decide (vN (numS (lowL 1#8 0#8 0#8) 255) % PZ = 1)) = true := by decide +kernel
  rw [Bool.and_eq_true] at h
  exact ⟨okN_b h.1, of_decide_eq_true h.2⟩
set_option maxRecDepth 100000 in
theorem low2_R : Rp (numS (lowL 236#8 255#8 127#8) 255) (PZ - 1) := by
  have h : (okNb (numS (lowL 236#8 255#8 127#8) 255) && decide (vN (numS (lowL 236#8 255#8 127#8) 255) % PZ = PZ - 1)) = true := by decide +kernel
  rw [Bool.and_eq_true] at h
  exact ⟨okN_b h.1, of_decide_eq_true h.2⟩
theorem cla_b0 (s : F8) : bitV (claL s) 0 = false := by
  have key : ∀ a : Fin 256, ((BitVec.ofFin a : BitVec 8) &&& BitVec.ofNat 8 248).getLsbD 0 = false := by decide +kernel
  exact key (s 0).toFin
theorem cla_b1 (s : F8) : bitV (claL s) 1 = false := by
  have key : ∀ a : Fin 256, ((BitVec.ofFin a : BitVec 8) &&& BitVec.ofNat 8 248).getLsbD 1 = false := by decide +kernel
  exact key (s 0).toFin
set_option maxRecDepth 100000 in
theorem zero_all : ∀ j : Fin 32, bytS (limL 0) 255 j.val = 0#8 := by decide +kernel
theorem low_is (s p : F8) {u : Nat} (hu : u = 0 ∨ u = 1 ∨ u = PZ - 1) (h : Rp (numS p 255) u) (j : Nat) (hj : j < 32) : shS s p j = BitVec.ofNat 8 0 := by
  rw [shS_eq, shr_V s p h, shV_low (claL s) hu (cla_b0 s) (cla_b1 s)]
  exact zero_all ⟨j, hj⟩
theorem low_p (s p : F8) (a b c : BitVec 8) {u : Nat} (hu : u = 0 ∨ u = 1 ∨ u = PZ - 1) (h : Rp (numS (lowL a b c) 255) u) (hp : ∀ i, i < 32 → p i = lowL a b c i) (j : Nat) (hj : j < 32) : shS s p j = BitVec.ofNat 8 0 := by
  refine low_is s p hu ?_ j hj
  rw [numS_congr hp 255 (Nat.le_refl _)]
  exact h
theorem okB_zero {f : F8} (h : ∀ j, j < 32 → f j = BitVec.ofNat 8 0) : okB f = false := by
  unfold okB
  rw [andP_of 32 0 (fun j _ hj => decide_eq_true (h j (by omega))) rfl]
  rfl
theorem and_zero {f : F8} (h : ∀ j, j < 32 → f j = BitVec.ofNat 8 0) : andP (fun i => decide (f i = BitVec.ofNat 8 0)) 0 32 true = true := andP_of 32 0 (fun j _ hj => decide_eq_true (h j (by omega))) rfl
end Go.Spec

namespace Go.Sym
open Go.Proofs Go.Spec
set_option linter.unusedVariables false
noncomputable def V11 : Ctx := V10.withSym [28, 29]
theorem okV11 : COKs Try.prog gl0 V11 := okV10.withSym _
set_option maxRecDepth 100000 in
theorem vlow (s : F8) (n : Int) : bodyP Try.prog V11 gl0 [] [] 3000 Try.f5 0 [aggB 32 s, .int .i64 n] [] (retQ Try.prog Try.f5 0 ⟨[], .bool true, [], []⟩) = (
let x1 := IntKind.i64.wrap (↑(BitVec.ofInt 64 n % BitVec.ofNat 64 3).toNat : Int); let x2 := fun (i : Nat) => (rg 32 s).getD i (0 : BitVec 8); (0 : Int) ≤ (1 : Int) ∧ allP (fun (i : Nat) => (0 : Int) ≤ Int.ofNat i) 2 29 ((0 : Int) ≤ x1 ∧ x1.toNat < 3 ∧ @Bool.rec (fun _ => Prop) (@Bool.rec (fun _ => Prop) (@Bool.rec (fun _ => Prop) False (@Bool.rec (fun _ => Prop) (Bool.true = Bool.false ∧ True) (Bool.true = andP (fun (i : Nat) => decide (shS x2 (fun (i : Nat) => (BitVec.ofNat 8 236 :: rgA (fun (i : Nat) => BitVec.ofNat 8 255) 0 30 [BitVec.ofNat 8 127]).getD i (0 : BitVec 8)) i = BitVec.ofNat 8 0)) 0 32 Bool.true ∧ True) !okB (shS x2 fun (i : Nat) => (BitVec.ofNat 8 236 :: rgA (fun (i : Nat) => BitVec.ofNat 8 255) 0 30 [BitVec.ofNat 8 127]).getD i (0 : BitVec 8))) (decide (x1.toNat = 2))) (@Bool.rec (fun _ => Prop) (Bool.true = Bool.false ∧ True) (Bool.true = andP (fun (i : Nat) => decide (shS x2 (fun (i : Nat) => (BitVec.ofNat 8 1 :: List.replicate 31 (BitVec.ofNat 8 0)).getD i (0 : BitVec 8)) i = BitVec.ofNat 8 0)) 0 32 Bool.true ∧ True) !okB (shS x2 fun (i : Nat) => (BitVec.ofNat 8 1 :: List.replicate 31 (BitVec.ofNat 8 0)).getD i (0 : BitVec 8))) (decide (x1.toNat = 1))) (@Bool.rec (fun _ => Prop) (Bool.true = Bool.false ∧ True) (Bool.true = andP (fun (i : Nat) => decide (shS x2 (fun (i : Nat) => (List.replicate 32 (BitVec.ofNat 8 0)).getD i (0 : BitVec 8)) i = BitVec.ofNat 8 0)) 0 32 Bool.true ∧ True) !okB (shS x2 fun (i : Nat) => (List.replicate 32 (BitVec.ofNat 8 0)).getD i (0 : BitVec 8))) (decide (x1.toNat = 0))) : Prop) := by kernel_rfl
end Go.Sym

namespace Go.Sym
open Go.Proofs Go.Spec
set_option linter.unusedVariables false
theorem low_0 (i : Nat) (hi : i < 32) : (fun i => (List.replicate 32 (BitVec.ofNat 8 0)).getD i (0 : BitVec 8)) i = lowL 0#8 0#8 0#8 i := lt32 (P := fun i => (List.replicate 32 (BitVec.ofNat 8 0)).getD i (0 : BitVec 8) = lowL 0#8 0#8 0#8 i) ⟨rfl, rfl, rfl, rfl, rfl, rfl, rfl, rfl, rfl, rfl, rfl, rfl, rfl, rfl, rfl, rfl, rfl, rfl, rfl, rfl, rfl, rfl, rfl, rfl, rfl, rfl, rfl, rfl, rfl, rfl, rfl, rfl, trivial⟩ i hi
theorem low_1 (i : Nat) (hi : i < 32) : (fun i => (BitVec.ofNat 8 1 :: List.replicate 31 (BitVec.ofNat 8 0)).getD i (0 : BitVec 8)) i = lowL 1#8 0#8 0#8 i := lt32 (P := fun i => (BitVec.ofNat 8 1 :: List.replicate 31 (BitVec.ofNat 8 0)).getD i (0 : BitVec 8) = lowL 1#8 0#8 0#8 i) ⟨rfl, rfl, rfl, rfl, rfl, rfl, rfl, rfl, rfl, rfl, rfl, rfl, rfl, rfl, rfl, rfl, rfl, rfl, rfl, rfl, rfl, rfl, rfl, rfl, rfl, rfl, rfl, rfl, rfl, rfl, rfl, rfl, trivial⟩ i hi
theorem low_2 (i : Nat) (hi : i < 32) : (fun i => (BitVec.ofNat 8 236 :: rgA (fun (i : Nat) => BitVec.ofNat 8 255) 0 30 [BitVec.ofNat 8 127]).getD i (0 : BitVec 8)) i = lowL 236#8 255#8 127#8 i := lt32 (P := fun i => (BitVec.ofNat 8 236 :: rgA (fun (i : Nat) => BitVec.ofNat 8 255) 0 30 [BitVec.ofNat 8 127]).getD i (0 : BitVec 8) = lowL 236#8 255#8 127#8 i) ⟨rfl, rfl, rfl, rfl, rfl, rfl, rfl, rfl, rfl, rfl, rfl, rfl, rfl, rfl, rfl, rfl, rfl, rfl, rfl, rfl, rfl, rfl, rfl, rfl, rfl, rfl, rfl, rfl, rfl, rfl, rfl, rfl, trivial⟩ i hi
/-- One of them: not there, and noughts. -/
theorem low_one {f : F8} (h : ∀ j, j < 32 → f j = BitVec.ofNat 8 0) : @Bool.rec (fun _ => Prop) (true = false ∧ True) (true = andP (fun i => decide (f i = BitVec.ofNat 8 0)) 0 32 true ∧ True) (!okB f) := by
  rw [okB_zero h, and_zero h]
  exact ⟨rfl, trivial⟩
theorem blow (s : F8) (n : Int) : Must (bodyP Try.prog V11 gl0 [] [] 3000 Try.f5 0 [aggB 32 s, .int .i64 n] [] (retQ Try.prog Try.f5 0 ⟨[], .bool true, [], []⟩)) := by
  constructor
  rw [vlow]
  intro x1 x2
  have h3 : (BitVec.ofInt 64 n % BitVec.ofNat 64 3).toNat < 3 := by
    rw [BitVec.toNat_umod]
    exact Nat.mod_lt _ (by decide)
  have hx : x1 = (((BitVec.ofInt 64 n % BitVec.ofNat 64 3).toNat : Nat) : Int) := wrap_nat _ rfl (by omega)
  generalize (BitVec.ofInt 64 n % BitVec.ofNat 64 3).toNat = k at *
  clear_value x1 x2
  subst hx
  rw [Int.toNat_natCast]
  refine ⟨by decide, allP_of _ _ (fun j _ _ => Int.natCast_nonneg _) ⟨Int.natCast_nonneg _, h3, ?_⟩⟩
  refine brec (fun _ => low_one (low_p x2 _ 0#8 0#8 0#8 (.inl rfl) low0_R low_0)) (fun d0 => brec (fun _ => low_one (low_p x2 _ 1#8 0#8 0#8 (.inr (.inl rfl)) low1_R low_1)) (fun d1 => brec (fun _ => low_one (low_p x2 _ 236#8 255#8 127#8 (.inr (.inr rfl)) low2_R low_2)) (fun d2 => ?_)))
  have d0 := of_decide_eq_false d0
  have d1 := of_decide_eq_false d1
  have d2 := of_decide_eq_false d2
  omega
end Go.Sym

namespace Go.Sym
open Go.Spec
theorem sh_by {n : Nat} {avs : List AV} (h : shAll (List.replicate n (.i .u8)) avs) : ∃ k : F8, avs = (List.range n).map fun i => .u8 (k i) := by
  obtain ⟨l, hl, rfl⟩ := sh_u8 h
  refine ⟨fun i => l.getD i 0, ?_⟩
  apply List.ext_getElem
  · simp [hl]
  · intro i h1 h2
    have : i < l.length := by simpa using h1
    simp [List.getD, this]
end Go.Sym

/- CurveLow: with publics of which nothing but nought comes, whatever the secret is, that is told. No conditions. -/
namespace Go.Sym
open Go.Proofs Go.Spec
theorem w5 (W : World) (v0 : Value) (s : Nat → BitVec 8) (h0 : VRel (κW W) (aggB 32 s) v0) (n1 : Int) :
    Calls Try.prog 5 #[v0, .int .i64 n1] W fun e w' => e = .returned (.bool true) ∧ RowKit.Below W.heap.size W w' := by
  have hv : VRels (κW W) [aggB 32 s, .int .i64 n1] [v0, .int .i64 n1] := by
    simp only [VRels]
    exact ⟨_, _, rfl, h0, _, _, rfl, rfl, rfl⟩
  refine law_walk (gl := gl0) (Γ := V11) (fn := Try.f5) (av := [aggB 32 s, .int .i64 n1]) (ls := []) [] 3000 (by kernel_rfl) (by kernel_rfl) okV11 (by kernel_rfl) (GW.nil W) (by kernel_rfl) hv ?_
  exact blow s n1
end Go.Sym
namespace Go.Proofs.Ytmpgpbbaloiniaa.curveLow
open Go.ChangeShapes Go.WideShapes Go.ChangeAt Go.RowKit
set_option linter.unusedVariables false

theorem own : ownKnob Try.prog.godebug = none := by kernel_rfl
theorem laid : laidOutB Try.prog = true := by kernel_rfl

set_option maxRecDepth 100000 in
theorem lifted (os : Os) (started : os.Started) (H : Type) (enc : TypeId × Value → H) :
    ReturnsInHanded {} Try.checked os 5 .any (Rows.curveLowSpec.pre6 enc Try.prog Try.f5 Rows.curveLowRow.domain false) (Rows.curveLowSpec.post enc Try.prog Try.f5 false true false false) := by
  refine returnsInHanded_of_change (C := Try.checked) own started (by kernel_rfl) Try.func5
    (ChangeSpec.witness6 (enc := enc) (C := Try.checked) false ⟨#[], #[.agg (Array.replicate 32 (.int .u8 0)), .int .i64 0], []⟩ 8 (by kernel_rfl) (by kernel_rfl) (by kernel_rfl) (by kernel_rfl)) ?_
  intro W base args ds gs before hval0 hW hcnd _
  have hval : ∀ (j : Nat) t v, Try.f5.params[j]? = some t → args[j]? = some v → Value.okWide Try.prog W .any base t v := hval0
  have hW' := hW
  obtain ⟨p, q, hA0, hV, rfl, hfz, hnd⟩ := hW
  have hA : DataW.TrodAll enc Try.prog W 0 (fun _ => true) true Try.f5.params.toList args.toList ds p := hA0
  rw [Try.params5] at hA hval
  obtain ⟨v0, vs0, d0, ds0, p0, q0, hargs, rfl, rfl, h0, r0⟩ := trodAll_cons hA
  obtain ⟨v1, vs1, d1, ds1, p1, q1, rfl, rfl, rfl, h1, r1⟩ := trodAll_cons r0
  obtain ⟨rfl, rfl, rfl⟩ := trodAll_nil r1
  obtain rfl : args = #[v0, v1] := by cases args; simp_all
  obtain ⟨rfl, rfl⟩ := trodVars_none hV
  obtain ⟨a1, rfl, rfl, rfl, w1⟩ := open_int Try.underlying3 (hval 1 3 v1 rfl rfl) h1
  clear hA0 hval0
  have hlt0 : ∀ x ∈ p0, x.block < W.heap.size := fun x hx => hW'.lt x (by simp [hx])
  obtain ⟨fuel0, hf0⟩ := h0
  obtain ⟨avs0, hs0, hd0, hr0⟩ := Go.Sym.rd_flat 9 22 (List.replicate 32 (.i .u8)) _ _ _ (by kernel_rfl) hf0
  obtain ⟨s, rfl⟩ := Go.Sym.sh_by hs0
  have hu0 := Go.Sym.agg_of_cells hr0 (by simp)
  refine (Go.Sym.w5 W v0 s hu0 a1).mono fun e W' ⟨he, bel⟩ => ?_
  subst he
  exact ⟨_, rfl, _, _, _, [], _, [], hW', trodAll_mk1 (shut_bool Try.underlying4 _), (trodAll_cons_mk (Below.trod laid (by kernel_rfl) (of_decide_eq_true (by kernel_rfl)) ⟨fuel0, hf0⟩ bel hlt0) (trodAll_cons_mk (shut_int Try.underlying3 w1) trodAll_mk0)), rfl, bel.frame _, fun h => by cases h⟩

theorem over : Rows.curveLowRow.holds Try.pinned (OpenSpec.ofChange Rows.curveLowSpec) :=
  OpenClaim.holds_of_wide 5 Try.f5 rfl rfl rfl rfl rfl rfl rfl ⟨rfl, rfl, rfl, rfl, rfl⟩ rfl rfl rfl rfl rfl (by kernel_rfl) Try.func5 (by kernel_rfl)
    (of_decide_eq_true (by kernel_rfl)) (by unfold Func.isWrapper; first | (rw [if_pos (by decide +kernel)]; kernel_rfl) | (rw [if_neg (by decide +kernel)]; exact ⟨rfl, rfl⟩))
    (fun os started H enc _ => lifted os started H enc)

theorem proved : Rows.CurveLowSaid :=
  over
#print axioms proved
end Go.Proofs.Ytmpgpbbaloiniaa.curveLow
