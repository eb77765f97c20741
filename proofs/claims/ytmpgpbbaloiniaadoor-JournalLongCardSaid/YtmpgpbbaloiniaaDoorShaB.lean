/- The same: sums, and what the card ties. -/
import Derived.Test.YtmpgpbbaloiniaaDoorShaA
import Derived.Test.YtmpgpbbaloiniaaDoorRows
import Derived.Test.YtmpgpbbaloiniaaDoorCards
import Derived.Test.YtmpgpbbaloiniaaDoorTie
import Derived.WalkKit
import Derived.ProofKit
import Derived.OpenShut
import Derived.ChangeOld
import Derived.Below
import Derived.Carry
import Derived.LaidMore
import Derived.Stop.Joined
import Derived.SevenTiedAt
namespace Go.Spec
theorem st8_blocks {v : Nat → W32} (hv : ∀ i, 8 ≤ i → v i = 0) (l : By) (j : Nat) : st8 (blocks v l j 0) (blocks v l j 1) (blocks v l j 2) (blocks v l j 3) (blocks v l j 4) (blocks v l j 5) (blocks v l j 6) (blocks v l j 7) = blocks v l j := st8_eta (blocks_end hv l j)
theorem blocks_take (v : Nat → W32) (l : By) (m : Nat) : ∀ k, 64 * k ≤ m → blocks v (l.take m) k = blocks v l k
  | 0, _ => rfl
  | k + 1, h => by
    simp only [blocks]
    rw [blocks_take v l m k (by omega), List.drop_take, List.take_take, Nat.min_eq_left (by omega)]
theorem tail_sets (r : By) (e : Nat) (a : BitVec 8) (c : Nat → BitVec 8) (he : r.length + 9 ≤ e) (he2 : e ≤ 128) :
    ((((((((((r ++ List.replicate (128 - r.length) 0#8).set r.length a).set (e - 1) (c 0)).set (e - 2) (c 1)).set (e - 3) (c 2)).set (e - 4) (c 3)).set (e - 5) (c 4)).set (e - 6) (c 5)).set (e - 7) (c 6)).set (e - 8) (c 7)).take e =
      r ++ (a :: (List.replicate (e - r.length - 9) 0#8 ++ [c 7, c 6, c 5, c 4, c 3, c 2, c 1, c 0])) := by
  apply List.ext_getElem?
  intro k
  simp only [List.getElem?_take, List.getElem?_set, List.length_set, List.length_append, List.length_replicate]
  by_cases hk : k < e
  · rw [if_pos hk]
    by_cases h1 : k < r.length
    · rw [List.getElem?_append_left h1, List.getElem?_append_left h1]
      simp (disch := omega) only [if_neg]
    · conv => rhs; rw [List.getElem?_append_right (Nat.le_of_not_lt h1)]
      by_cases h2 : k = r.length
      · subst h2
        simp (disch := omega) only [if_neg, if_pos, Nat.sub_self, List.getElem?_cons_zero, if_true]
      · obtain ⟨q, rfl⟩ : ∃ q, k = r.length + 1 + q := ⟨k - r.length - 1, by omega⟩
        rw [show r.length + 1 + q - r.length = q + 1 by omega, List.getElem?_cons_succ]
        by_cases h3 : q < e - r.length - 9
        · conv => rhs; rw [List.getElem?_append_left (by simp; omega)]
          conv => lhs; simp (disch := omega) only [if_neg]
          rw [List.getElem?_append_right (by omega)]
          simp (disch := omega) only [List.getElem?_replicate, if_pos]
        · conv => rhs; rw [List.getElem?_append_right (by simp; omega)]
          simp only [List.length_replicate]
          obtain ⟨p, hp⟩ : ∃ p, q = e - r.length - 9 + p := ⟨q - (e - r.length - 9), by omega⟩
          have hp8 : p < 8 := by omega
          rw [show q - (e - r.length - 9) = p by omega]
          have : r.length + 1 + q = e - 8 + p := by omega
          rw [this]
          match p, hp8 with
          | 0, _ => (rw [if_pos (by omega), if_pos (by omega)]; rfl)
          | 1, _ => (rw [if_neg (by omega), if_pos (by omega), if_pos (by omega)]; rfl)
          | 2, _ => (rw [if_neg (by omega), if_neg (by omega), if_pos (by omega), if_pos (by omega)]; rfl)
          | 3, _ => (rw [if_neg (by omega), if_neg (by omega), if_neg (by omega), if_pos (by omega), if_pos (by omega)]; rfl)
          | 4, _ => (rw [if_neg (by omega), if_neg (by omega), if_neg (by omega), if_neg (by omega), if_pos (by omega), if_pos (by omega)]; rfl)
          | 5, _ => (rw [if_neg (by omega), if_neg (by omega), if_neg (by omega), if_neg (by omega), if_neg (by omega), if_pos (by omega), if_pos (by omega)]; rfl)
          | 6, _ => (rw [if_neg (by omega), if_neg (by omega), if_neg (by omega), if_neg (by omega), if_neg (by omega), if_neg (by omega), if_pos (by omega), if_pos (by omega)]; rfl)
          | 7, _ => (rw [if_neg (by omega), if_neg (by omega), if_neg (by omega), if_neg (by omega), if_neg (by omega), if_neg (by omega), if_neg (by omega), if_pos (by omega), if_pos (by omega)]; rfl)
  · rw [if_neg hk, List.getElem?_eq_none]
    simp
    omega
theorem copy_base (r : By) (h : r.length < 64) : List.take 0 (List.replicate 128 (0 : BitVec 8)) ++ (List.take 128 r ++ List.drop (0 + r.length) (List.replicate 128 (0 : BitVec 8))) = r ++ List.replicate (128 - r.length) 0#8 := by
  rw [List.take_zero, List.nil_append, List.take_of_length_le (by omega), Nat.zero_add, List.drop_replicate]
  rfl
end Go.Spec

namespace Go.Sym
open Go.Proofs Go.Spec
set_option linter.unusedVariables false
set_option linter.unusedSimpArgs false
set_option maxRecDepth 100000 in
set_option maxHeartbeats 2000000 in
theorem b24 (v : Nat → W32) (hv : ∀ i, 8 ≤ i → v i = 0) (ah : BitVec 64) (b : By) (hb : b.length < 4611686018427387904) : Must (bodyP Tryd.prog (B3.withSym symFi) gl0 [] [(3, lsFi v ah b), (19, lsFi2 v ah b)] 3000 Tryd.f33 0 [agg8 v, .u64 ah, .rb false b .unk] [] (retQ Tryd.prog Tryd.f33 0 ⟨[], aggB 32 (outByte (shaSt v ah b)), [], []⟩)) := by
  constructor
  rw [vc24]
  set_option simprocs false in dsimp only
  refine ⟨⟨0, Nat.zero_le _, by simp [blocks]⟩, fun x hx => ?_⟩
  replace hx : 64 * x ≤ b.length := hx
  have ew : IntKind.i64.wrap ((b.length : Int) - ((64 * x : Nat) : Int)) = ((b.length - 64 * x : Nat) : Int) := wrap_nat _ (by omega) (by omega)
  refine brec (fun h => ?_) (fun h => ?_)
  · rw [ew] at h
    replace h : 64 * x + 64 ≤ b.length := by have := dle.1 h; omega
    have e1 : IntKind.i64.wrap (((64 * x : Nat) : Int) + 64) = ((64 * x + 64 : Nat) : Int) := wrap_nat _ (by omega) (by omega)
    have hd : List.drop (64 * x) (List.take (64 * x + 64) b) = List.take 64 (List.drop (64 * x) b) := by rw [List.drop_take]; congr 1; omega
    have hl : (List.take 64 (List.drop (64 * x) b)).length = 64 := by simp; omega
    simp only [e1, Int.toNat_natCast, st8_blocks hv, hd, hl, true_and, and_true, Int.natCast_nonneg]
    refine ⟨by omega, h, x + 1, by omega, h, ?_⟩
    simp only [blocks, true_and, and_true]
    omega
  · rw [ew] at h
    replace h : b.length < 64 * x + 64 := by have := ndle.1 h; omega
    obtain rfl : x = b.length / 64 := by omega
    clear ew
    have hr : List.drop (64 * (b.length / 64)) b = rest64 b := rfl
    have hrl : (rest64 b).length < 64 := by simp [rest64]; omega
    simp only [Int.toNat_natCast, hr, Nat.min_eq_left (show (rest64 b).length ≤ 128 by omega), copy_base (rest64 b) hrl]
    have e1 : IntKind.i64.wrap (((rest64 b).length : Int) + 1) = (((rest64 b).length + 1 : Nat) : Int) := wrap_nat _ (by omega) (by omega)
    have e2 : IntKind.i64.wrap ((((rest64 b).length + 1 : Nat) : Int) + 8) = (((rest64 b).length + 9 : Nat) : Int) := wrap_nat _ (by omega) (by omega)
    simp only [e1, e2]
    refine ⟨by omega, hx, by omega, by omega, by omega, ?_, ?_⟩
    · simp; omega
    have hL : (rest64 b).length + (128 - (rest64 b).length) = 128 := by omega
    have hof : BitVec.ofInt 64 (b.length : Int) = BitVec.ofNat 64 b.length := by simp
    have last : ∀ x : Nat × By, x.2.length = 128 ∧ x.2.take (tailEnd (rest64 b).length) = padTail ah b ∧ 64 * x.1 ≤ tailEnd (rest64 b).length → ((tailEnd (rest64 b).length : Nat) : Int) ≤ ((64 * x.1 : Nat) : Int) → shaSt v ah b = tailSt v b x.2 x.1 := by
      intro x h1 h2
      have : 64 * x.1 = tailEnd (rest64 b).length := by omega
      unfold shaSt tailSt
      rw [← h1.2.1, blocks_take _ _ _ _ (by omega)]
      congr 1
      omega
    have he64 : tailEnd (rest64 b).length = 64 ∨ tailEnd (rest64 b).length = 128 := by unfold tailEnd; split <;> simp
    have hts : ∀ x : Nat × By, st8 (tailSt v b x.2 x.1 0) (tailSt v b x.2 x.1 1) (tailSt v b x.2 x.1 2) (tailSt v b x.2 x.1 3) (tailSt v b x.2 x.1 4) (tailSt v b x.2 x.1 5) (tailSt v b x.2 x.1 6) (tailSt v b x.2 x.1 7) = tailSt v b x.2 x.1 := fun x => st8_eta (blocks_end (blocks_end hv _ _) _ _)
    have take : ∀ e, tailEnd (rest64 b).length = e → (rest64 b).length + 9 ≤ e → e ≤ 128 → List.take e ((((((((((rest64 b ++ List.replicate (128 - (rest64 b).length) 0#8).set (rest64 b).length 128#8).set (e - 1) (BitVec.setWidth 8 ((8#64 * (ah + BitVec.ofInt 64 (b.length : Int))) >>> 0))).set (e - 2) (BitVec.setWidth 8 ((8#64 * (ah + BitVec.ofInt 64 (b.length : Int))) >>> 8))).set (e - 3) (BitVec.setWidth 8 ((8#64 * (ah + BitVec.ofInt 64 (b.length : Int))) >>> 16))).set (e - 4) (BitVec.setWidth 8 ((8#64 * (ah + BitVec.ofInt 64 (b.length : Int))) >>> 24))).set (e - 5) (BitVec.setWidth 8 ((8#64 * (ah + BitVec.ofInt 64 (b.length : Int))) >>> 32))).set (e - 6) (BitVec.setWidth 8 ((8#64 * (ah + BitVec.ofInt 64 (b.length : Int))) >>> 40))).set (e - 7) (BitVec.setWidth 8 ((8#64 * (ah + BitVec.ofInt 64 (b.length : Int))) >>> 48))).set (e - 8) (BitVec.setWidth 8 ((8#64 * (ah + BitVec.ofInt 64 (b.length : Int))) >>> 56))) = padTail ah b := by
      intro e he h1 h2
      rw [hof]
      refine (tail_sets (rest64 b) e 128#8 (fun i => BitVec.setWidth 8 ((8#64 * (ah + BitVec.ofNat 64 b.length)) >>> (8 * i))) h1 h2).trans ?_
      unfold padTail
      rw [he]
      rfl
    have fin : ∀ x : Nat × By, (x.2.length = 128 ∧ x.2.take (tailEnd (rest64 b).length) = padTail ah b ∧ 64 * x.1 ≤ tailEnd (rest64 b).length) → ((64 * x.1 : Nat) : Int) < (tailEnd (rest64 b).length : Nat) → IntKind.i64.wrap (((64 * x.1 : Nat) : Int) + 64) = ((64 * x.1 + 64 : Nat) : Int) ∧ 64 * x.1 + 64 ≤ tailEnd (rest64 b).length := by
      intro x h1 h2
      have : 64 * x.1 < tailEnd (rest64 b).length := by omega
      exact ⟨wrap_nat _ (by omega) (by omega), by omega⟩
    have stepE : ∀ (x : Nat × By), minus (64 * x.1 + 64) (64 * x.1) = 64 := fun x => by rw [minus_eq]; omega
    have stepD : ∀ (x : Nat × By), dropN (0 + 64 * x.1) x.2 = x.2.drop (64 * x.1) := fun x => by rw [dropN_eq, Nat.zero_add]
    refine brec (fun h => ?_) (fun h => ?_)
    · replace h : 64 < (rest64 b).length + 9 := by have := dlt.1 h; omega
      have he : tailEnd (rest64 b).length = 128 := by unfold tailEnd; rw [if_pos h]
      simp (decide := true) only [List.length_set, List.length_append, List.length_replicate, hL, true_and, and_true, hts]
      refine ⟨⟨(0, _), ⟨?_, ?_, by omega⟩, by omega, by omega, rfl, rfl, rfl, rfl, rfl, rfl, rfl, rfl, rfl⟩, fun x hx => ?_⟩
      · simp only [List.length_set, List.length_append, List.length_replicate, hL]
      · rw [he]
        exact take 128 he (by omega) (by omega)
      refine brec (fun h2 => ?_) (fun h2 => ?_)
      · obtain ⟨w1, w2⟩ := fin x hx (dlt.1 h2)
        simp only [w1, Int.toNat_natCast, stepE, stepD, true_and, and_true, Int.natCast_nonneg]
        have hl : (List.take 64 (List.drop (64 * x.1) x.2)).length = 64 := by simp; omega
        refine ⟨by omega, by omega, by omega, hl, (x.1 + 1, x.2), by show 4 - (x.1 + 1) < _; omega, ⟨hx.1, hx.2.1, w2⟩, ?_⟩
        simp only [tailSt, blocks, true_and, and_true]
        omega
      · rw [last x hx (ndlt.1 h2)]
        simp only [true_and]
    · replace h : ¬ 64 < (rest64 b).length + 9 := by have := ndlt.1 h; omega
      have he : tailEnd (rest64 b).length = 64 := by unfold tailEnd; rw [if_neg h]
      simp (decide := true) only [List.length_set, List.length_append, List.length_replicate, hL, true_and, and_true, hts]
      refine ⟨⟨(0, _), ⟨?_, ?_, by omega⟩, by omega, by omega, rfl, rfl, rfl, rfl, rfl, rfl, rfl, rfl, rfl⟩, fun x hx => ?_⟩
      · simp only [List.length_set, List.length_append, List.length_replicate, hL]
      · rw [he]
        exact take 64 he (by omega) (by omega)
      refine brec (fun h2 => ?_) (fun h2 => ?_)
      · obtain ⟨w1, w2⟩ := fin x hx (dlt.1 h2)
        simp only [w1, Int.toNat_natCast, stepE, stepD, true_and, and_true, Int.natCast_nonneg]
        have hl : (List.take 64 (List.drop (64 * x.1) x.2)).length = 64 := by simp; omega
        refine ⟨by omega, by omega, by omega, hl, (x.1 + 1, x.2), by show 4 - (x.1 + 1) < _; omega, ⟨hx.1, hx.2.1, w2⟩, ?_⟩
        simp only [tailSt, blocks, true_and, and_true]
        omega
      · rw [last x hx (ndlt.1 h2)]
        simp only [true_and]
end Go.Sym

namespace Go.Sym
open Go.Proofs Go.Spec
set_option linter.unusedVariables false
theorem c24 : COK Tryd.prog gl0 33 (mkF spFi) := by
  refine ctrE (fn := Tryd.f33) [] 3000 (by kernel_rfl) (by kernel_rfl) (okB3.withSym symFi) (by kernel_rfl) (fun args w => by kernel_rfl) ?_
  intro xs bs r hs ho
  simp only [spFi, gFi] at hs
  split at hs
  · rename_i cs ah l
    split at hs
    · rename_i a b c d e f g h hr
      simp only [TL.sel, Option.some.injEq] at hs
      subst hs
      rw [rd32_len hr]
      exact ⟨_, b24 _ (st8_end a b c d e f g h) ah l (obsT_one.1 ho)⟩
    · simp [TL.sel] at hs
  · simp [TL.sel] at hs
noncomputable def B4 : Ctx := B3.add 33 (mkF spFi)
theorem okB4 : COKs Tryd.prog gl0 B4 := okB3.add c24
noncomputable def gSu (xs : List AV) (bs : List ABlk) : TL := match xs, bs with
  | [.rb false l .unk], [] => .ok ⟨[l.length < 4611686018427387904], aggB 32 (shaB l), [], []⟩
  | _, _ => .no
noncomputable def spSu : Spec := ⟨[.by0], fun _ _ => [], fun _ _ => [], gSu⟩
theorem vc13 (b : By) : bodyP Tryd.prog B4 gl0 [0] [] 3000 Tryd.f12 0 [.rb false b .unk] [] (retQ Tryd.prog Tryd.f12 0 ⟨[], aggB 32 (shaU b), [], []⟩) = (b.length < 4611686018427387904 ∧ allRefl (shaU b) 0 32) := by kernel_rfl
theorem b13 (b : By) (h : b.length < 4611686018427387904) : Must (bodyP Tryd.prog B4 gl0 [0] [] 3000 Tryd.f12 0 [.rb false b .unk] [] (retQ Tryd.prog Tryd.f12 0 ⟨[], aggB 32 (shaU b), [], []⟩)) := by
  constructor
  rw [vc13]
  exact ⟨h, allRefl_true _ _ _⟩
theorem c13 : COK Tryd.prog gl0 12 (mkF spSu) := by
  refine ctrE (fn := Tryd.f12) [0] 3000 (by kernel_rfl) (by kernel_rfl) okB4 (by kernel_rfl) (fun args w => by kernel_rfl) ?_
  intro xs bs r hs ho
  simp only [spSu, gSu] at hs
  split at hs
  · simp only [TL.sel, Option.some.injEq] at hs
    subst hs
    rw [shaB_eq]
    exact ⟨_, b13 _ (obsT_one.1 ho)⟩
  · simp [TL.sel] at hs
noncomputable def B5 : Ctx := B4.add 12 (mkF spSu)
theorem okB5 : COKs Tryd.prog gl0 B5 := okB4.add c13
def lsSm (a b : By) : LS := ⟨Nat, fun i => [(1, .rb false b .unk), (5, .u8 (orD a b i)), (13, .rb false a .unk), (14, .int .i64 a.length), (15, .int .i64 i)], fun _ => [], 100, fun i => a.length - i, fun i => i ≤ a.length, fun _ => []⟩
noncomputable def gSm (xs : List AV) (bs : List ABlk) : TL := match xs, bs with
  | [.rb false a .unk, .rb false b .unk], [] => .ok ⟨[a.length < 4611686018427387904], .bool (sameB a b), [], []⟩
  | _, _ => .no
noncomputable def spSm : Spec := ⟨[.by0, .by0], fun _ _ => [], fun _ _ => [], gSm⟩
noncomputable def lsPd (key : By) (pad : BitVec 8) : LS := ⟨Nat, fun i => [(1, .u8 pad), (4, .ptr 100 0 0 0), (5, .ptr 101 0 0 0), (19, .int .i64 i)],
  fun i => [(100, ⟨.cells (List.replicate 8 (.u32 0)), true, 0⟩), (101, ⟨.bytes ((List.range 64).map fun k => if k < i then (macKey key).getD k 0 ^^^ pad else (macKey key).getD k 0), true, 0⟩), gblk gl0 0], 1000, fun i => 64 - i, fun i => i ≤ 64, fun _ => []⟩
noncomputable def gPd (xs : List AV) (bs : List ABlk) : TL := match xs, bs with
  | [.rb false key .unk, .u8 pad], [] => .ok ⟨[key.length < 4611686018427387904], agg8 (padSt key pad), [], []⟩
  | _, _ => .no
noncomputable def spPd : Spec := ⟨[.by0, .kp], fun _ _ => [], fun _ _ => [], gPd⟩
def symPd : List Nat := [5, 23, 27]
end Go.Sym

namespace Go.Sym
open Go.Proofs Go.Spec
set_option linter.unusedVariables false
set_option maxRecDepth 100000 in
theorem vc17 (a b : By) : bodyP Tryd.prog B5 gl0 [] [(6, lsSm a b)] 3000 Tryd.f11 0 [.rb false a .unk, .rb false b .unk] [] (retQ Tryd.prog Tryd.f11 0 ⟨[], .bool (decide (a = b)), [], []⟩) = (
Bool.rec ((∃ (x : Nat), x.le (List.length a) ∧ b = b ∧ orD a b x = BitVec.ofNat (8 : Nat) (0 : Nat) ∧ a = a ∧ (↑(List.length a) : Int) = (↑(List.length a) : Int) ∧ (↑x : Int) = (0 : Int) ∧ True) ∧ ∀ (x : Nat), x.le (List.length a) → Bool.rec (Decidable.decide (a = b) = Decidable.decide (orD a b x = BitVec.ofNat (8 : Nat) (0 : Nat)) ∧ True) ((0 : Int) ≤ (↑x : Int) ∧ (↑x : Int).toNat < List.length a ∧ (0 : Int) ≤ (↑x : Int) ∧ (↑x : Int).toNat < List.length b ∧ ∃ (y : Nat), List.length a - y < List.length a - x ∧ y.le (List.length a) ∧ b = b ∧ orD a b y = orD a b x ||| List.getD a (↑x : Int).toNat (0 : BitVec (8 : Nat)) ^^^ List.getD b (↑x : Int).toNat (0 : BitVec (8 : Nat)) ∧ a = a ∧ (↑(List.length a) : Int) = (↑(List.length a) : Int) ∧ (↑y : Int) = IntKind.i64.wrap ((↑x : Int) + (1 : Int)) ∧ True) (Decidable.decide ((↑x : Int) < (↑(List.length a) : Int)))) (Decidable.decide (a = b) = Bool.false ∧ True) !Decidable.decide ((↑(List.length a) : Int) = (↑(List.length b) : Int))) := by kernel_rfl
end Go.Sym

namespace Go.Sym
open Go.Proofs Go.Spec
set_option linter.unusedVariables false
set_option linter.unusedSimpArgs false
theorem b17 (a b : By) (ha : a.length < 4611686018427387904) : Must (bodyP Tryd.prog B5 gl0 [] [(6, lsSm a b)] 3000 Tryd.f11 0 [.rb false a .unk, .rb false b .unk] [] (retQ Tryd.prog Tryd.f11 0 ⟨[], .bool (decide (a = b)), [], []⟩)) := by
  constructor
  rw [vc17]
  refine brec (fun h => ?_) (fun h => ?_)
  · have hl : a.length ≠ b.length := by
      simp at h; omega
    have : a ≠ b := fun e => hl (by rw [e])
    simp [this]
  · have hl : a.length = b.length := by
      simp at h; omega
    refine ⟨⟨0, Nat.zero_le _, by simp [orD]⟩, fun x hx => ?_⟩
    replace hx : x ≤ a.length := hx
    refine brec (fun h => ?_) (fun h => ?_)
    · replace h : x < a.length := by have := dlt.1 h; omega
      have e1 : IntKind.i64.wrap ((x : Int) + 1) = ((x + 1 : Nat) : Int) := wrap_nat _ (by omega) (by omega)
      simp only [e1, Int.toNat_natCast, true_and, and_true, Int.natCast_nonneg]
      refine ⟨h, by omega, x + 1, by omega, h, ?_⟩
      simp [orD]
    · replace h : x = a.length := by have := ndlt.1 h; omega
      subst h
      refine ⟨?_, trivial⟩
      rw [decide_eq_decide]
      exact (orD_same a b hl).symm
theorem c17 : COK Tryd.prog gl0 11 (mkF spSm) := by
  refine ctrE (fn := Tryd.f11) [] 3000 (by kernel_rfl) (by kernel_rfl) okB5 (by kernel_rfl) (fun args w => by kernel_rfl) ?_
  intro xs bs r hs ho
  simp only [spSm, gSm] at hs
  split at hs
  · simp only [TL.sel, Option.some.injEq] at hs
    subst hs
    rw [sameB_eq]
    exact ⟨_, b17 _ _ (obsT_one.1 ho)⟩
  · simp [TL.sel] at hs
noncomputable def B6 : Ctx := B5.add 11 (mkF spSm)
theorem okB6 : COKs Tryd.prog gl0 B6 := okB5.add c17
theorem xor_row (K : By) (pad : BitVec 8) (x : Nat) (hx : x < 64) : (List.map (fun k => if k < x then K.getD k 0 ^^^ pad else K.getD k 0) (List.range 64)).set x ((List.map (fun k => if k < x then K.getD k 0 ^^^ pad else K.getD k 0) (List.range 64)).getD x 0 ^^^ pad) = List.map (fun k => if k < x + 1 then K.getD k 0 ^^^ pad else K.getD k 0) (List.range 64) := by
  rw [getD_map_range _ _ _ _ hx, if_neg (by omega)]
  apply List.ext_getElem?
  intro k
  rw [List.getElem?_set]
  by_cases hk : k < 64
  · by_cases h : x = k
    · subst h
      simp [hx]
    · rw [if_neg h]
      simp only [List.getElem?_map, List.getElem?_range hk, Option.map_some]
      by_cases h2 : k < x
      · rw [if_pos h2, if_pos (by omega)]
      · rw [if_neg h2, if_neg (by omega)]
  · rw [if_neg (by omega), List.getElem?_eq_none (by simp; omega), List.getElem?_eq_none (by simp; omega)]
theorem copy_row (S : By) (h : S.length ≤ 64) : List.take 0 (List.replicate 64 (0 : BitVec 8)) ++ (List.take 64 S ++ List.drop (0 + min S.length 64) (List.replicate 64 (0 : BitVec 8))) = List.map (fun k => S.getD k 0) (List.range 64) := by
  rw [List.take_zero, List.nil_append, List.take_of_length_le h, Nat.zero_add, Nat.min_eq_left h, List.drop_replicate]
  apply List.ext_getElem?
  intro k
  by_cases hk : k < S.length
  · rw [List.getElem?_append_left hk]
    simp [List.getD, hk, show k < 64 by omega]
  · rw [List.getElem?_append_right (by omega), List.getElem?_replicate]
    by_cases h2 : k < 64
    · rw [if_pos (by omega)]
      simp [List.getD, h2, List.getElem?_eq_none (Nat.le_of_not_lt hk)]
    · rw [if_neg (by omega), List.getElem?_eq_none (by simp; omega)]
end Go.Sym

namespace Go.Proofs.YtmpgpbbaloiniaaDoor
open Go.ChangeShapes Go.WideShapes Go.ChangeAt Go.WideMaps Go.WideElems Go.RowKit
set_option linter.unusedVariables false

theorem own : ownKnob Tryd.prog.godebug = none := by kernel_rfl
theorem laidO : laidOutB Tryd.prog = true := by kernel_rfl
theorem one5 : Tryd.prog.cellsOf 5 = 1 := by kernel_rfl
theorem one73 : Tryd.prog.cellsOf 73 = 1 := by kernel_rfl
theorem gBegin : Tryd.prog.globalNamed "relay/sha.begin" = some 0 := by kernel_rfl
theorem gRounds : Tryd.prog.globalNamed "relay/sha.rounds" = some 1 := by kernel_rfl
theorem tBegin : (Tryd.prog.globals[0]?).map (·.type) = some 74 := by kernel_rfl
theorem tRounds : (Tryd.prog.globals[1]?).map (·.type) = some 76 := by kernel_rfl
abbrev laid2 : List (String × DataW Unit) := [("relay/sha.begin", Rows.laid_relay_sha_begin), ("relay/sha.rounds", Rows.laid_relay_sha_rounds)]

theorem door_met (os : Os) (args : Array Value) : laidMetH Tryd.prog laid2 ((World.doorLaid Tryd.prog 400 os).forCall (fun _ _ => 0) ⟨#[], args, []⟩).memory :=
  laidMetH_of_parts3 (fuel := 8) (laidMet_of_run' 8 (by kernel_rfl) (by kernel_rfl)) (by kernel_rfl) (by kernel_rfl)

theorem arr_u32 {H : Type} {enc : TypeId × Value → H} {P : Program} {w : World} {base : Nat} {spare : Nat → Bool} {held : Bool} {fuel : Nat} {t e : TypeId} {n : Nat} {cs : List Value} {L : List Int} {p : List MemPlace}
    (ht : P.underlying t = some (.array n e)) (he : P.underlying e = some (.int .u32)) (hc : P.cellsOf e = 1) (h : DataW.trod enc P w base spare held fuel t cs = some (.agg (L.map fun x => .lit (.int .u32 x)), p)) :
    ∀ (i : Nat) v, (L.map fun x => Value.int .u32 x)[i]? = some v → cs[i]? = some v := by
  obtain ⟨xs, m, _, hx, _, hn, hel⟩ := DataW.trod_array ht h
  simp only [Prod.mk.injEq, DataW.agg.injEq] at hx
  intro i v hv
  have hlen : L.length = n := by
    have := congrArg List.length hx.1
    simp at this
    omega
  have hi : i < n := by
    have := (List.getElem?_eq_some_iff.1 hv).1
    simp at this
    omega
  have h1 := hel i hi
  rw [hc, Nat.mul_one] at h1
  have h2 : xs[i]? = some xs[i] := List.getElem?_eq_getElem (by omega)
  rw [h2] at h1
  obtain ⟨k, e1, e2, _⟩ := DataW.trod_int he h1
  have h3 : (L.map fun x => (DataW.lit (.int .u32 x) : DataW H))[i]? = (xs.map (·.1))[i]? := by rw [hx.1]
  rw [List.getElem?_map, List.getElem?_map, h2, e2] at h3
  rw [List.getElem?_map] at hv
  cases hL : L[i]? with
  | none => rw [hL] at hv; simp at hv
  | some a =>
    rw [hL] at h3 hv
    simp at h3 hv
    have e3 : (cs.drop i)[0]? = some (.int .u32 k) := by
      have := congrArg (fun l => l[0]?) e1
      simp only [List.getElem?_take, List.getElem?_cons_zero] at this
      simpa using this
    rw [List.getElem?_drop] at e3
    rw [← hv, h3]
    simpa using e3

theorem gw_laid {W : World} (h : laidMetH Tryd.prog laid2 W) : Go.Sym.GW Go.Sym.gl0 W := by
  rw [MakeChecks.laidMetH_plain _ _ _ (by kernel_rfl)] at h
  obtain ⟨ps, ⟨g0, t0, cs0, f0, p0, q0, hg0, ht0, hv0, hd0, ⟨g1, t1, cs1, f1, p1, q1, hg1, ht1, hv1, hd1, _, _⟩, _⟩, _, _⟩ := h
  obtain rfl := Option.some.inj (gBegin.symm.trans hg0)
  obtain rfl := Option.some.inj (gRounds.symm.trans hg1)
  obtain rfl := Option.some.inj (tBegin.symm.trans ht0)
  obtain rfl := Option.some.inj (tRounds.symm.trans ht1)
  intro g i v hv
  match g with
  | 0 =>
    have := World.var?_cell hg0 hv0 i
    rw [this]
    have h1 := arr_u32 (L := Go.Spec.shaBegin.map fun x => (x.toNat : Int)) Tryd.underlying74 Tryd.underlying73 one73 hd0 i v (by
      rw [List.map_map]; exact hv)
    simpa using h1
  | 1 =>
    have := World.var?_cell hg1 hv1 i
    rw [this]
    have h1 := arr_u32 (L := Go.Spec.shaK.map fun x => (x.toNat : Int)) Tryd.underlying76 Tryd.underlying73 one73 hd1 i v (by
      rw [List.map_map]; exact hv)
    simpa using h1
  | g + 2 => simp [Go.Sym.gl0] at hv
end Go.Proofs.YtmpgpbbaloiniaaDoor
