/- The same: sums; the document: bits. -/
import Derived.Test.YtmpgpbbaloiniaaDoorShaA
namespace Go.Spec
theorem st8_blocks {v : Nat → W32} (hv : ∀ i, 8 ≤ i → v i = 0) (l : By) (j : Nat) : st8 (blocks v l j 0) (blocks v l j 1) (blocks v l j 2) (blocks v l j 3) (blocks v l j 4) (blocks v l j 5) (blocks v l j 6) (blocks v l j 7) = blocks v l j := st8_eta (blocks_end hv l j)
theorem blocks_take (v : Nat → W32) (l : By) (m : Nat) : ∀ k, 64 * k ≤ m → blocks v (l.take m) k = blocks v l k
  | 0, _ => rfl
  | k + 1, h => by
    simp only [blocks]
    rw [blocks_take v l m k (by omega), List.drop_take, List.take_take, Nat.min_eq_left (by omega)]
theorem tail_sets (r : By) (e : Nat) (a : BitVec 8) (c : Nat → BitVec 8) (he : r.length + 9 ≤ e) (he2 : e ≤ 128) :
    ((((((((((r ++ List.replicate (128 - r.length) 0#8).set r.length a).set (e - 1) (c 0)).set (e - 2) (c 1)).set (e - 3) (c 2)).set (e - 4) (c 3)).set (e - 5) (c 4)).set (e - 6) (c 5)).set (e - 7) (c 6)).set (e - 8) (c 7)).take e =
      r ++ (a :: (List.replicate (e - r.length - 9) 0#8 ++ [c 7, c 6, c 5, c 4, c 3, c 2, c 1, c 0])) := by
  apply List.ext_getElem?
  intro k
  simp only [List.getElem?_take, List.getElem?_set, List.length_set, List.length_append, List.length_replicate]
  by_cases hk : k < e
  · rw [if_pos hk]
    by_cases h1 : k < r.length
    · rw [List.getElem?_append_left h1, List.getElem?_append_left h1]
      simp (disch := omega) only [if_neg]
    · conv => rhs; rw [List.getElem?_append_right (Nat.le_of_not_lt h1)]
      by_cases h2 : k = r.length
      · subst h2
        simp (disch := omega) only [if_neg, if_pos, Nat.sub_self, List.getElem?_cons_zero, if_true]
      · obtain ⟨q, rfl⟩ : ∃ q, k = r.length + 1 + q := ⟨k - r.length - 1, by omega⟩
        rw [show r.length + 1 + q - r.length = q + 1 by omega, List.getElem?_cons_succ]
        by_cases h3 : q < e - r.length - 9
        · conv => rhs; rw [List.getElem?_append_left (by simp; omega)]
          conv => lhs; simp (disch := omega) only [if_neg]
          rw [List.getElem?_append_right (by omega)]
          simp (disch := omega) only [List.getElem?_replicate, if_pos]
        · conv => rhs; rw [List.getElem?_append_right (by simp; omega)]
          simp only [List.length_replicate]
          obtain ⟨p, hp⟩ : ∃ p, q = e - r.length - 9 + p := ⟨q - (e - r.length - 9), by omega⟩
          have hp8 : p < 8 := by omega
          rw [show q - (e - r.length - 9) = p by omega]
          have : r.length + 1 + q = e - 8 + p := by omega
          rw [this]
          match p, hp8 with
          | 0, _ => (rw [if_pos (by omega), if_pos (by omega)]; rfl)
          | 1, _ => (rw [if_neg (by omega), if_pos (by omega), if_pos (by omega)]; rfl)
          | 2, _ => (rw [if_neg (by omega), if_neg (by omega), if_pos (by omega), if_pos (by omega)]; rfl)
          | 3, _ => (rw [if_neg (by omega), if_neg (by omega), if_neg (by omega), if_pos (by omega), if_pos (by omega)]; rfl)
          | 4, _ => (rw [if_neg (by omega), if_neg (by omega), if_neg (by omega), if_neg (by omega), if_pos (by omega), if_pos (by omega)]; rfl)
          | 5, _ => (rw [if_neg (by omega), if_neg (by omega), if_neg (by omega), if_neg (by omega), if_neg (by omega), if_pos (by omega), if_pos (by omega)]; rfl)
          | 6, _ => (rw [if_neg (by omega), if_neg (by omega), if_neg (by omega), if_neg (by omega), if_neg (by omega), if_neg (by omega), if_pos (by omega), if_pos (by omega)]; rfl)
          | 7, _ => (rw [if_neg (by omega), if_neg (by omega), if_neg (by omega), if_neg (by omega), if_neg (by omega), if_neg (by omega), if_neg (by omega), if_pos (by omega), if_pos (by omega)]; rfl)
  · rw [if_neg hk, List.getElem?_eq_none]
    simp
    omega
theorem copy_base (r : By) (h : r.length < 64) : List.take 0 (List.replicate 128 (0 : BitVec 8)) ++ (List.take 128 r ++ List.drop (0 + r.length) (List.replicate 128 (0 : BitVec 8))) = r ++ List.replicate (128 - r.length) 0#8 := by
  rw [List.take_zero, List.nil_append, List.take_of_length_le (by omega), Nat.zero_add, List.drop_replicate]
  rfl
end Go.Spec

namespace Go.Sym
open Go.Proofs Go.Spec
set_option linter.unusedVariables false
set_option linter.unusedSimpArgs false
set_option maxRecDepth 100000 in
set_option maxHeartbeats 2000000 in
theorem b24 (v : Nat → W32) (hv : ∀ i, 8 ≤ i → v i = 0) (ah : BitVec 64) (b : By) (hb : b.length < 4611686018427387904) : Must (bodyP Tryd.prog (B3.withSym symFi) gl0 [] [(3, lsFi v ah b), (19, lsFi2 v ah b)] 3000 Tryd.f33 0 [agg8 v, .u64 ah, .rb false b .unk] [] (retQ Tryd.prog Tryd.f33 0 ⟨[], aggB 32 (outByte (shaSt v ah b)), [], []⟩)) := by
  constructor
  rw [vc24]
  set_option simprocs false in dsimp only
  refine ⟨⟨0, Nat.zero_le _, by simp [blocks]⟩, fun x hx => ?_⟩
  replace hx : 64 * x ≤ b.length := hx
  have ew : IntKind.i64.wrap ((b.length : Int) - ((64 * x : Nat) : Int)) = ((b.length - 64 * x : Nat) : Int) := wrap_nat _ (by omega) (by omega)
  refine brec (fun h => ?_) (fun h => ?_)
  · rw [ew] at h
    replace h : 64 * x + 64 ≤ b.length := by have := dle.1 h; omega
    have e1 : IntKind.i64.wrap (((64 * x : Nat) : Int) + 64) = ((64 * x + 64 : Nat) : Int) := wrap_nat _ (by omega) (by omega)
    have hd : List.drop (64 * x) (List.take (64 * x + 64) b) = List.take 64 (List.drop (64 * x) b) := by rw [List.drop_take]; congr 1; omega
    have hl : (List.take 64 (List.drop (64 * x) b)).length = 64 := by simp; omega
    simp only [e1, Int.toNat_natCast, st8_blocks hv, hd, hl, true_and, and_true, Int.natCast_nonneg]
    refine ⟨by omega, h, x + 1, by omega, h, ?_⟩
    simp only [blocks, true_and, and_true]
    omega
  · rw [ew] at h
    replace h : b.length < 64 * x + 64 := by have := ndle.1 h; omega
    obtain rfl : x = b.length / 64 := by omega
    clear ew
    have hr : List.drop (64 * (b.length / 64)) b = rest64 b := rfl
    have hrl : (rest64 b).length < 64 := by simp [rest64]; omega
    simp only [Int.toNat_natCast, hr, Nat.min_eq_left (show (rest64 b).length ≤ 128 by omega), copy_base (rest64 b) hrl]
    have e1 : IntKind.i64.wrap (((rest64 b).length : Int) + 1) = (((rest64 b).length + 1 : Nat) : Int) := wrap_nat _ (by omega) (by omega)
    have e2 : IntKind.i64.wrap ((((rest64 b).length + 1 : Nat) : Int) + 8) = (((rest64 b).length + 9 : Nat) : Int) := wrap_nat _ (by omega) (by omega)
    simp only [e1, e2]
    refine ⟨by omega, hx, by omega, by omega, by omega, ?_, ?_⟩
    · simp; omega
    have hL : (rest64 b).length + (128 - (rest64 b).length) = 128 := by omega
    have hof : BitVec.ofInt 64 (b.length : Int) = BitVec.ofNat 64 b.length := by simp
    have last : ∀ x : Nat × By, x.2.length = 128 ∧ x.2.take (tailEnd (rest64 b).length) = padTail ah b ∧ 64 * x.1 ≤ tailEnd (rest64 b).length → ((tailEnd (rest64 b).length : Nat) : Int) ≤ ((64 * x.1 : Nat) : Int) → shaSt v ah b = tailSt v b x.2 x.1 := by
      intro x h1 h2
      have : 64 * x.1 = tailEnd (rest64 b).length := by omega
      unfold shaSt tailSt
      rw [← h1.2.1, blocks_take _ _ _ _ (by omega)]
      congr 1
      omega
    have he64 : tailEnd (rest64 b).length = 64 ∨ tailEnd (rest64 b).length = 128 := by unfold tailEnd; split <;> simp
    have hts : ∀ x : Nat × By, st8 (tailSt v b x.2 x.1 0) (tailSt v b x.2 x.1 1) (tailSt v b x.2 x.1 2) (tailSt v b x.2 x.1 3) (tailSt v b x.2 x.1 4) (tailSt v b x.2 x.1 5) (tailSt v b x.2 x.1 6) (tailSt v b x.2 x.1 7) = tailSt v b x.2 x.1 := fun x => st8_eta (blocks_end (blocks_end hv _ _) _ _)
    have take : ∀ e, tailEnd (rest64 b).length = e → (rest64 b).length + 9 ≤ e → e ≤ 128 → List.take e ((((((((((rest64 b ++ List.replicate (128 - (rest64 b).length) 0#8).set (rest64 b).length 128#8).set (e - 1) (BitVec.setWidth 8 ((8#64 * (ah + BitVec.ofInt 64 (b.length : Int))) >>> 0))).set (e - 2) (BitVec.setWidth 8 ((8#64 * (ah + BitVec.ofInt 64 (b.length : Int))) >>> 8))).set (e - 3) (BitVec.setWidth 8 ((8#64 * (ah + BitVec.ofInt 64 (b.length : Int))) >>> 16))).set (e - 4) (BitVec.setWidth 8 ((8#64 * (ah + BitVec.ofInt 64 (b.length : Int))) >>> 24))).set (e - 5) (BitVec.setWidth 8 ((8#64 * (ah + BitVec.ofInt 64 (b.length : Int))) >>> 32))).set (e - 6) (BitVec.setWidth 8 ((8#64 * (ah + BitVec.ofInt 64 (b.length : Int))) >>> 40))).set (e - 7) (BitVec.setWidth 8 ((8#64 * (ah + BitVec.ofInt 64 (b.length : Int))) >>> 48))).set (e - 8) (BitVec.setWidth 8 ((8#64 * (ah + BitVec.ofInt 64 (b.length : Int))) >>> 56))) = padTail ah b := by
      intro e he h1 h2
      rw [hof]
      refine (tail_sets (rest64 b) e 128#8 (fun i => BitVec.setWidth 8 ((8#64 * (ah + BitVec.ofNat 64 b.length)) >>> (8 * i))) h1 h2).trans ?_
      unfold padTail
      rw [he]
      rfl
    have fin : ∀ x : Nat × By, (x.2.length = 128 ∧ x.2.take (tailEnd (rest64 b).length) = padTail ah b ∧ 64 * x.1 ≤ tailEnd (rest64 b).length) → ((64 * x.1 : Nat) : Int) < (tailEnd (rest64 b).length : Nat) → IntKind.i64.wrap (((64 * x.1 : Nat) : Int) + 64) = ((64 * x.1 + 64 : Nat) : Int) ∧ 64 * x.1 + 64 ≤ tailEnd (rest64 b).length := by
      intro x h1 h2
      have : 64 * x.1 < tailEnd (rest64 b).length := by omega
      exact ⟨wrap_nat _ (by omega) (by omega), by omega⟩
    have stepE : ∀ (x : Nat × By), minus (64 * x.1 + 64) (64 * x.1) = 64 := fun x => by rw [minus_eq]; omega
    have stepD : ∀ (x : Nat × By), dropN (0 + 64 * x.1) x.2 = x.2.drop (64 * x.1) := fun x => by rw [dropN_eq, Nat.zero_add]
    refine brec (fun h => ?_) (fun h => ?_)
    · replace h : 64 < (rest64 b).length + 9 := by have := dlt.1 h; omega
      have he : tailEnd (rest64 b).length = 128 := by unfold tailEnd; rw [if_pos h]
      simp (decide := true) only [List.length_set, List.length_append, List.length_replicate, hL, true_and, and_true, hts]
      refine ⟨⟨(0, _), ⟨?_, ?_, by omega⟩, by omega, by omega, rfl, rfl, rfl, rfl, rfl, rfl, rfl, rfl, rfl⟩, fun x hx => ?_⟩
      · simp only [List.length_set, List.length_append, List.length_replicate, hL]
      · rw [he]
        exact take 128 he (by omega) (by omega)
      refine brec (fun h2 => ?_) (fun h2 => ?_)
      · obtain ⟨w1, w2⟩ := fin x hx (dlt.1 h2)
        simp only [w1, Int.toNat_natCast, stepE, stepD, true_and, and_true, Int.natCast_nonneg]
        have hl : (List.take 64 (List.drop (64 * x.1) x.2)).length = 64 := by simp; omega
        refine ⟨by omega, by omega, by omega, hl, (x.1 + 1, x.2), by show 4 - (x.1 + 1) < _; omega, ⟨hx.1, hx.2.1, w2⟩, ?_⟩
        simp only [tailSt, blocks, true_and, and_true]
        omega
      · rw [last x hx (ndlt.1 h2)]
        simp only [true_and]
    · replace h : ¬ 64 < (rest64 b).length + 9 := by have := ndlt.1 h; omega
      have he : tailEnd (rest64 b).length = 64 := by unfold tailEnd; rw [if_neg h]
      simp (decide := true) only [List.length_set, List.length_append, List.length_replicate, hL, true_and, and_true, hts]
      refine ⟨⟨(0, _), ⟨?_, ?_, by omega⟩, by omega, by omega, rfl, rfl, rfl, rfl, rfl, rfl, rfl, rfl, rfl⟩, fun x hx => ?_⟩
      · simp only [List.length_set, List.length_append, List.length_replicate, hL]
      · rw [he]
        exact take 64 he (by omega) (by omega)
      refine brec (fun h2 => ?_) (fun h2 => ?_)
      · obtain ⟨w1, w2⟩ := fin x hx (dlt.1 h2)
        simp only [w1, Int.toNat_natCast, stepE, stepD, true_and, and_true, Int.natCast_nonneg]
        have hl : (List.take 64 (List.drop (64 * x.1) x.2)).length = 64 := by simp; omega
        refine ⟨by omega, by omega, by omega, hl, (x.1 + 1, x.2), by show 4 - (x.1 + 1) < _; omega, ⟨hx.1, hx.2.1, w2⟩, ?_⟩
        simp only [tailSt, blocks, true_and, and_true]
        omega
      · rw [last x hx (ndlt.1 h2)]
        simp only [true_and]
end Go.Sym

namespace Go.Sym
open Go.Proofs Go.Spec
set_option linter.unusedVariables false
theorem c24 : COK Tryd.prog gl0 33 (mkF spFi) := by
  refine ctrE (fn := Tryd.f33) [] 3000 (by kernel_rfl) (by kernel_rfl) (okB3.withSym symFi) (by kernel_rfl) (fun args w => by kernel_rfl) ?_
  intro xs bs r hs ho
  simp only [spFi, gFi] at hs
  split at hs
  · rename_i cs ah l
    split at hs
    · rename_i a b c d e f g h hr
      simp only [TL.sel, Option.some.injEq] at hs
      subst hs
      rw [rd32_len hr]
      exact ⟨_, b24 _ (st8_end a b c d e f g h) ah l (obsT_one.1 ho)⟩
    · simp [TL.sel] at hs
  · simp [TL.sel] at hs
noncomputable def B4 : Ctx := B3.add 33 (mkF spFi)
theorem okB4 : COKs Tryd.prog gl0 B4 := okB3.add c24
noncomputable def gSu (xs : List AV) (bs : List ABlk) : TL := match xs, bs with
  | [.rb false l .unk], [] => .ok ⟨[l.length < 4611686018427387904], aggB 32 (shaB l), [], []⟩
  | _, _ => .no
noncomputable def spSu : Spec := ⟨[.by0], fun _ _ => [], fun _ _ => [], gSu⟩
theorem vc13 (b : By) : bodyP Tryd.prog B4 gl0 [0] [] 3000 Tryd.f12 0 [.rb false b .unk] [] (retQ Tryd.prog Tryd.f12 0 ⟨[], aggB 32 (shaU b), [], []⟩) = (b.length < 4611686018427387904 ∧ allRefl (shaU b) 0 32) := by kernel_rfl
theorem b13 (b : By) (h : b.length < 4611686018427387904) : Must (bodyP Tryd.prog B4 gl0 [0] [] 3000 Tryd.f12 0 [.rb false b .unk] [] (retQ Tryd.prog Tryd.f12 0 ⟨[], aggB 32 (shaU b), [], []⟩)) := by
  constructor
  rw [vc13]
  exact ⟨h, allRefl_true _ _ _⟩
theorem c13 : COK Tryd.prog gl0 12 (mkF spSu) := by
  refine ctrE (fn := Tryd.f12) [0] 3000 (by kernel_rfl) (by kernel_rfl) okB4 (by kernel_rfl) (fun args w => by kernel_rfl) ?_
  intro xs bs r hs ho
  simp only [spSu, gSu] at hs
  split at hs
  · simp only [TL.sel, Option.some.injEq] at hs
    subst hs
    rw [shaB_eq]
    exact ⟨_, b13 _ (obsT_one.1 ho)⟩
  · simp [TL.sel] at hs
noncomputable def B5 : Ctx := B4.add 12 (mkF spSu)
theorem okB5 : COKs Tryd.prog gl0 B5 := okB4.add c13
def lsSm (a b : By) : LS := ⟨Nat, fun i => [(1, .rb false b .unk), (5, .u8 (orD a b i)), (13, .rb false a .unk), (14, .int .i64 a.length), (15, .int .i64 i)], fun _ => [], 100, fun i => a.length - i, fun i => i ≤ a.length, fun _ => []⟩
noncomputable def gSm (xs : List AV) (bs : List ABlk) : TL := match xs, bs with
  | [.rb false a .unk, .rb false b .unk], [] => .ok ⟨[a.length < 4611686018427387904], .bool (sameB a b), [], []⟩
  | _, _ => .no
noncomputable def spSm : Spec := ⟨[.by0, .by0], fun _ _ => [], fun _ _ => [], gSm⟩
noncomputable def lsPd (key : By) (pad : BitVec 8) : LS := ⟨Nat, fun i => [(1, .u8 pad), (4, .ptr 100 0 0 0), (5, .ptr 101 0 0 0), (19, .int .i64 i)],
  fun i => [(100, ⟨.cells (List.replicate 8 (.u32 0)), true, 0⟩), (101, ⟨.bytes ((List.range 64).map fun k => if k < i then (macKey key).getD k 0 ^^^ pad else (macKey key).getD k 0), true, 0⟩), gblk gl0 0], 1000, fun i => 64 - i, fun i => i ≤ 64, fun _ => []⟩
noncomputable def gPd (xs : List AV) (bs : List ABlk) : TL := match xs, bs with
  | [.rb false key .unk, .u8 pad], [] => .ok ⟨[key.length < 4611686018427387904], agg8 (padSt key pad), [], []⟩
  | _, _ => .no
noncomputable def spPd : Spec := ⟨[.by0, .kp], fun _ _ => [], fun _ _ => [], gPd⟩
def symPd : List Nat := [5, 23, 27]
end Go.Sym

namespace Go.Sym
open Go.Proofs Go.Spec
set_option linter.unusedVariables false
set_option maxRecDepth 100000 in
theorem vc17 (a b : By) : bodyP Tryd.prog B5 gl0 [] [(6, lsSm a b)] 3000 Tryd.f11 0 [.rb false a .unk, .rb false b .unk] [] (retQ Tryd.prog Tryd.f11 0 ⟨[], .bool (decide (a = b)), [], []⟩) = (
Bool.rec ((∃ (x : Nat), x.le (List.length a) ∧ b = b ∧ orD a b x = BitVec.ofNat (8 : Nat) (0 : Nat) ∧ a = a ∧ (↑(List.length a) : Int) = (↑(List.length a) : Int) ∧ (↑x : Int) = (0 : Int) ∧ True) ∧ ∀ (x : Nat), x.le (List.length a) → Bool.rec (Decidable.decide (a = b) = Decidable.decide (orD a b x = BitVec.ofNat (8 : Nat) (0 : Nat)) ∧ True) ((0 : Int) ≤ (↑x : Int) ∧ (↑x : Int).toNat < List.length a ∧ (0 : Int) ≤ (↑x : Int) ∧ (↑x : Int).toNat < List.length b ∧ ∃ (y : Nat), List.length a - y < List.length a - x ∧ y.le (List.length a) ∧ b = b ∧ orD a b y = orD a b x ||| List.getD a (↑x : Int).toNat (0 : BitVec (8 : Nat)) ^^^ List.getD b (↑x : Int).toNat (0 : BitVec (8 : Nat)) ∧ a = a ∧ (↑(List.length a) : Int) = (↑(List.length a) : Int) ∧ (↑y : Int) = IntKind.i64.wrap ((↑x : Int) + (1 : Int)) ∧ True) (Decidable.decide ((↑x : Int) < (↑(List.length a) : Int)))) (Decidable.decide (a = b) = Bool.false ∧ True) !Decidable.decide ((↑(List.length a) : Int) = (↑(List.length b) : Int))) := by kernel_rfl
end Go.Sym

namespace Go.Sym
open Go.Proofs Go.Spec
set_option linter.unusedVariables false
set_option linter.unusedSimpArgs false
theorem b17 (a b : By) (ha : a.length < 4611686018427387904) : Must (bodyP Tryd.prog B5 gl0 [] [(6, lsSm a b)] 3000 Tryd.f11 0 [.rb false a .unk, .rb false b .unk] [] (retQ Tryd.prog Tryd.f11 0 ⟨[], .bool (decide (a = b)), [], []⟩)) := by
  constructor
  rw [vc17]
  refine brec (fun h => ?_) (fun h => ?_)
  · have hl : a.length ≠ b.length := by
      simp at h; omega
    have : a ≠ b := fun e => hl (by rw [e])
    simp [this]
  · have hl : a.length = b.length := by
      simp at h; omega
    refine ⟨⟨0, Nat.zero_le _, by simp [orD]⟩, fun x hx => ?_⟩
    replace hx : x ≤ a.length := hx
    refine brec (fun h => ?_) (fun h => ?_)
    · replace h : x < a.length := by have := dlt.1 h; omega
      have e1 : IntKind.i64.wrap ((x : Int) + 1) = ((x + 1 : Nat) : Int) := wrap_nat _ (by omega) (by omega)
      simp only [e1, Int.toNat_natCast, true_and, and_true, Int.natCast_nonneg]
      refine ⟨h, by omega, x + 1, by omega, h, ?_⟩
      simp [orD]
    · replace h : x = a.length := by have := ndlt.1 h; omega
      subst h
      refine ⟨?_, trivial⟩
      rw [decide_eq_decide]
      exact (orD_same a b hl).symm
theorem c17 : COK Tryd.prog gl0 11 (mkF spSm) := by
  refine ctrE (fn := Tryd.f11) [] 3000 (by kernel_rfl) (by kernel_rfl) okB5 (by kernel_rfl) (fun args w => by kernel_rfl) ?_
  intro xs bs r hs ho
  simp only [spSm, gSm] at hs
  split at hs
  · simp only [TL.sel, Option.some.injEq] at hs
    subst hs
    rw [sameB_eq]
    exact ⟨_, b17 _ _ (obsT_one.1 ho)⟩
  · simp [TL.sel] at hs
noncomputable def B6 : Ctx := B5.add 11 (mkF spSm)
theorem okB6 : COKs Tryd.prog gl0 B6 := okB5.add c17
theorem xor_row (K : By) (pad : BitVec 8) (x : Nat) (hx : x < 64) : (List.map (fun k => if k < x then K.getD k 0 ^^^ pad else K.getD k 0) (List.range 64)).set x ((List.map (fun k => if k < x then K.getD k 0 ^^^ pad else K.getD k 0) (List.range 64)).getD x 0 ^^^ pad) = List.map (fun k => if k < x + 1 then K.getD k 0 ^^^ pad else K.getD k 0) (List.range 64) := by
  rw [getD_map_range _ _ _ _ hx, if_neg (by omega)]
  apply List.ext_getElem?
  intro k
  rw [List.getElem?_set]
  by_cases hk : k < 64
  · by_cases h : x = k
    · subst h
      simp [hx]
    · rw [if_neg h]
      simp only [List.getElem?_map, List.getElem?_range hk, Option.map_some]
      by_cases h2 : k < x
      · rw [if_pos h2, if_pos (by omega)]
      · rw [if_neg h2, if_neg (by omega)]
  · rw [if_neg (by omega), List.getElem?_eq_none (by simp; omega), List.getElem?_eq_none (by simp; omega)]
theorem copy_row (S : By) (h : S.length ≤ 64) : List.take 0 (List.replicate 64 (0 : BitVec 8)) ++ (List.take 64 S ++ List.drop (0 + min S.length 64) (List.replicate 64 (0 : BitVec 8))) = List.map (fun k => S.getD k 0) (List.range 64) := by
  rw [List.take_zero, List.nil_append, List.take_of_length_le h, Nat.zero_add, Nat.min_eq_left h, List.drop_replicate]
  apply List.ext_getElem?
  intro k
  by_cases hk : k < S.length
  · rw [List.getElem?_append_left hk]
    simp [List.getD, hk, show k < 64 by omega]
  · rw [List.getElem?_append_right (by omega), List.getElem?_replicate]
    by_cases h2 : k < 64
    · rw [if_pos (by omega)]
      simp [List.getD, h2, List.getElem?_eq_none (Nat.le_of_not_lt hk)]
    · rw [if_neg (by omega), List.getElem?_eq_none (by simp; omega)]
end Go.Sym

namespace Go.Sym
open Go.Proofs Go.Spec
set_option linter.unusedVariables false
noncomputable def R1 : Ctx := B6.exe Tryd.prog gl0 [] 3000 Tryd.f35.params.size 35 Tryd.f35
theorem okR1 : COKs Tryd.prog gl0 R1 := okB6.exe [] 3000 _ (by kernel_rfl) (by kernel_rfl) (by kernel_rfl) (fun args w => by kernel_rfl)
noncomputable def R2 : Ctx := R1.exe Tryd.prog gl0 [] 3000 Tryd.f34.params.size 34 Tryd.f34
theorem okR2 : COKs Tryd.prog gl0 R2 := okR1.exe [] 3000 _ (by kernel_rfl) (by kernel_rfl) (by kernel_rfl) (fun args w => by kernel_rfl)
def lsBi (a b c : W32) (m : Bool) (X : W32) : LS := ⟨Nat, fun i => [(0, .u32 a), (1, .u32 b), (2, .u32 c), (3, .bool m), (9, .u32 (lowR X i)), (10, .int .i64 i)], fun _ => [], 500, fun i => 32 - i, fun i => i ≤ 32, fun _ => []⟩
def gBi (xs : List AV) (bs : List ABlk) : TL := match xs, bs with
  | [.u32 a, .u32 b, .u32 c, .bool m], [] => (match m with | true => .ok ⟨[], .u32 (mjS a b c), [], []⟩ | false => .ok ⟨[], .u32 (chS a b c), [], []⟩)
  | _, _ => .no
def spBi : Spec := ⟨[.kp, .kp, .kp, .kp], fun _ _ => [], fun _ _ => [], gBi⟩
end Go.Sym

namespace Go.Sym
open Go.Proofs Go.Spec
set_option linter.unusedVariables false
set_option maxRecDepth 100000 in
theorem vc27t (a b c : W32) : bodyP Tryd.prog R2 gl0 [] [(4, lsBi a b c true (mjS a b c))] 3000 Tryd.f36 0 [.u32 a, .u32 b, .u32 c, .bool true] [] (retQ Tryd.prog Tryd.f36 0 ⟨[], .u32 (mjS a b c), [], []⟩) = (
(∃ (x : Nat), x.le (32 : Nat) ∧ a = a ∧ b = b ∧ c = c ∧ Bool.true = Bool.true ∧ lowR (mjS a b c) x = BitVec.ofNat (32 : Nat) (0 : Nat) ∧ (↑x : Int) = (0 : Int) ∧ True) ∧ ∀ (x : Nat), x.le (32 : Nat) → Bool.rec (mjS a b c = lowR (mjS a b c) x ∧ True) ((0 : Int) ≤ (↑x : Int) ∧ (0 : Int) ≤ (↑x : Int) ∧ (0 : Int) ≤ (↑x : Int) ∧ (0 : Int) ≤ (↑x : Int) ∧ ∃ (y : Nat), (32 : Nat) - y < (32 : Nat) - x ∧ y.le (32 : Nat) ∧ a = a ∧ b = b ∧ c = c ∧ Bool.true = Bool.true ∧ lowR (mjS a b c) y = lowR (mjS a b c) x ||| (((a >>> (↑x : Int).toNat &&& BitVec.ofNat (32 : Nat) (1 : Nat)) + (b >>> (↑x : Int).toNat &&& BitVec.ofNat (32 : Nat) (1 : Nat)) + (c >>> (↑x : Int).toNat &&& BitVec.ofNat (32 : Nat) (1 : Nat))) / BitVec.ofNat (32 : Nat) (2 : Nat)) <<< (↑x : Int).toNat ∧ (↑y : Int) = IntKind.i64.wrap ((↑x : Int) + (1 : Int)) ∧ True) (Decidable.decide ((↑x : Int) < (32 : Int)))) := by kernel_rfl
set_option maxRecDepth 100000 in
theorem vc27f (a b c : W32) : bodyP Tryd.prog R2 gl0 [] [(4, lsBi a b c false (chS a b c))] 3000 Tryd.f36 0 [.u32 a, .u32 b, .u32 c, .bool false] [] (retQ Tryd.prog Tryd.f36 0 ⟨[], .u32 (chS a b c), [], []⟩) = (
(∃ (x : Nat), x.le (32 : Nat) ∧ a = a ∧ b = b ∧ c = c ∧ Bool.false = Bool.false ∧ lowR (chS a b c) x = BitVec.ofNat (32 : Nat) (0 : Nat) ∧ (↑x : Int) = (0 : Int) ∧ True) ∧ ∀ (x : Nat), x.le (32 : Nat) → Bool.rec (chS a b c = lowR (chS a b c) x ∧ True) ((0 : Int) ≤ (↑x : Int) ∧ (0 : Int) ≤ (↑x : Int) ∧ (0 : Int) ≤ (↑x : Int) ∧ Bool.rec ((0 : Int) ≤ (↑x : Int) ∧ ∃ (y : Nat), (32 : Nat) - y < (32 : Nat) - x ∧ y.le (32 : Nat) ∧ a = a ∧ b = b ∧ c = c ∧ Bool.false = Bool.false ∧ lowR (chS a b c) y = lowR (chS a b c) x ||| (c >>> (↑x : Int).toNat &&& BitVec.ofNat (32 : Nat) (1 : Nat)) <<< (↑x : Int).toNat ∧ (↑y : Int) = IntKind.i64.wrap ((↑x : Int) + (1 : Int)) ∧ True) ((0 : Int) ≤ (↑x : Int) ∧ ∃ (y : Nat), (32 : Nat) - y < (32 : Nat) - x ∧ y.le (32 : Nat) ∧ a = a ∧ b = b ∧ c = c ∧ Bool.false = Bool.false ∧ lowR (chS a b c) y = lowR (chS a b c) x ||| (b >>> (↑x : Int).toNat &&& BitVec.ofNat (32 : Nat) (1 : Nat)) <<< (↑x : Int).toNat ∧ (↑y : Int) = IntKind.i64.wrap ((↑x : Int) + (1 : Int)) ∧ True) (Decidable.decide (a >>> (↑x : Int).toNat &&& BitVec.ofNat (32 : Nat) (1 : Nat) = BitVec.ofNat (32 : Nat) (1 : Nat)))) (Decidable.decide ((↑x : Int) < (32 : Int)))) := by kernel_rfl
end Go.Sym

namespace Go.Sym
open Go.Proofs Go.Spec
set_option linter.unusedVariables false
theorem b27t (a b c : W32) : Must (bodyP Tryd.prog R2 gl0 [] [(4, lsBi a b c true (mjS a b c))] 3000 Tryd.f36 0 [.u32 a, .u32 b, .u32 c, .bool true] [] (retQ Tryd.prog Tryd.f36 0 ⟨[], .u32 (mjS a b c), [], []⟩)) := by
  constructor
  rw [vc27t]
  refine ⟨⟨0, Nat.zero_le _, by simp [lowR]⟩, fun x hx => ?_⟩
  replace hx : x ≤ 32 := hx
  refine brec (fun h => ?_) (fun h => ?_)
  · replace h : x < 32 := by have := dlt.1 h; omega
    have e1 : IntKind.i64.wrap ((x : Int) + 1) = ((x + 1 : Nat) : Int) := wrap_nat _ (by omega) (by omega)
    simp only [e1, Int.toNat_natCast, true_and, and_true, Int.natCast_nonneg]
    refine ⟨x + 1, by omega, h, ?_, rfl⟩
    rw [mj_bit a b c x h]
    rfl
  · replace h : x = 32 := by have := ndlt.1 h; omega
    subst h
    exact ⟨(lowR_all _).symm, trivial⟩
theorem b27f (a b c : W32) : Must (bodyP Tryd.prog R2 gl0 [] [(4, lsBi a b c false (chS a b c))] 3000 Tryd.f36 0 [.u32 a, .u32 b, .u32 c, .bool false] [] (retQ Tryd.prog Tryd.f36 0 ⟨[], .u32 (chS a b c), [], []⟩)) := by
  constructor
  rw [vc27f]
  refine ⟨⟨0, Nat.zero_le _, by simp [lowR]⟩, fun x hx => ?_⟩
  replace hx : x ≤ 32 := hx
  refine brec (fun h => ?_) (fun h => ?_)
  · replace h : x < 32 := by have := dlt.1 h; omega
    have e1 : IntKind.i64.wrap ((x : Int) + 1) = ((x + 1 : Nat) : Int) := wrap_nat _ (by omega) (by omega)
    simp only [e1, Int.toNat_natCast, true_and, and_true, Int.natCast_nonneg]
    refine brec (fun h2 => ?_) (fun h2 => ?_)
    · refine ⟨x + 1, by omega, h, ?_, rfl⟩
      rw [ch_bit1 a b c x h (by simpa using h2)]
      rfl
    · refine ⟨x + 1, by omega, h, ?_, rfl⟩
      rw [ch_bit0 a b c x h (by simpa using h2)]
      rfl
  · replace h : x = 32 := by have := ndlt.1 h; omega
    subst h
    exact ⟨(lowR_all _).symm, trivial⟩
theorem c27 : COK Tryd.prog gl0 36 (mkF spBi) := by
  refine ctrE (fn := Tryd.f36) [] 3000 (by kernel_rfl) (by kernel_rfl) okR2 (by kernel_rfl) (fun args w => by kernel_rfl) ?_
  intro xs bs r hs ho
  simp only [spBi, gBi] at hs
  split at hs
  · rename_i a b c m
    cases m
    · simp only [TL.sel, Option.some.injEq] at hs
      subst hs
      exact ⟨_, b27f a b c⟩
    · simp only [TL.sel, Option.some.injEq] at hs
      subst hs
      exact ⟨_, b27t a b c⟩
  · simp [TL.sel] at hs
noncomputable def R3 : Ctx := R2.add 36 (mkF spBi)
theorem okR3 : COKs Tryd.prog gl0 R3 := okR2.add c27
def kB (b : By) : List (Nat × ABlk) := [(100, ⟨.cells (List.replicate 32 (.u8 0)), true, 0⟩), (101, ⟨.bytes (shaPad b), true, 1⟩)]
def kH (b : By) (j : Nat) : List (Nat × ABlk) := kB b ++ [(102, ⟨.cells ((List.range 8).map fun i => .u32 (refSt b j i)), true, 0⟩), (103, ⟨.rows 1 64 fun y => [.u32 (shaK.getD y 0)], true, 0⟩)]
def eH (b : By) (j : Nat) : List (Nat × AV) := [(2, .ptr 100 0 0 0), (3, .slice 101 0 1 (shaPad b).length .ow (.is false)), (6, .ptr 102 0 0 0), (7, .ptr 103 0 0 0), (8, .int .i64 (64 * j : Nat))]
def ls0 (b : By) : LS := ⟨Nat, fun k => [(0, .rb false b .unk), (2, .ptr 100 0 0 0), (3, .slice 101 0 1 (b.length + 1 + k) .ow (.is false))],
  fun k => [(100, ⟨.cells (List.replicate 32 (.u8 0)), true, 0⟩), (101, ⟨.bytes (b ++ (0x80#8 :: List.replicate k 0)), true, 1⟩)], 1000, fun k => 64 - k, fun k => k ≤ zc b.length, fun _ => []⟩
def lsWI (b : By) (j i : Nat) : LS := ⟨Nat, fun c => eH b j ++ [(9, .ptr 104 0 0 0), (10, .int .i64 i), (11, .int .i64 c)],
  fun c => kH b j ++ [(104, ⟨.rows 1 64 fun y => [.u32 (if y < i then sch (refBlk b j) y else if y = i then partW (refBlk b j) i c else 0)], true, 0⟩)], 1000, fun c => 4 - c, fun c => c ≤ 4, fun _ => []⟩
def lsW (b : By) (j : Nat) : LS := ⟨Nat, fun i => eH b j ++ [(9, .ptr 104 0 0 0), (10, .int .i64 i)],
  fun i => kH b j ++ [(104, ⟨.rows 1 64 fun y => [.u32 (if y < i then sch (refBlk b j) y else 0)], true, 0⟩)], 1000, fun i => 64 - i, fun i => i ≤ 64, fun i => [(21, lsWI b j i)]⟩
def lsV (b : By) (j : Nat) : LS := ⟨Nat, fun i => eH b j ++ [(9, .ptr 104 0 0 0), (14, .ptr 105 0 0 0), (15, .int .i64 i)],
  fun i => kH b j ++ [(104, ⟨.rows 1 64 fun y => [.u32 (sch (refBlk b j) y)], true, 0⟩), (105, ⟨.cells ((List.range 8).map fun k => .u32 (rnds (sch (refBlk b j)) (refSt b j) i k)), true, 0⟩)], 1000, fun i => 64 - i, fun i => i ≤ 64, fun _ => []⟩
def ls7 (b : By) : LS := ⟨Nat, fun i => [(2, .ptr 100 0 0 0), (3, .slice 101 0 1 (b.length + 1 + zc b.length + i) .ow (.is false)), (4, .u64 (BitVec.ofNat 64 b.length * 8#64)), (5, .int .i64 (7 - (i : Int)))],
  fun i => [(100, ⟨.cells (List.replicate 32 (.u8 0)), true, 0⟩), (101, ⟨.bytes (b ++ (0x80#8 :: (List.replicate (zc b.length) 0#8 ++ (count8 (BitVec.ofNat 64 b.length * 8#64)).take i))), true, 1⟩)], 1000, fun i => 8 - i, fun i => i ≤ 8, fun _ => []⟩
def lsO (b : By) : LS := ⟨Nat, fun i => [(2, .ptr 100 0 0 0), (6, .ptr 102 0 0 0), (19, .ptr 106 0 0 0), (20, .int .i64 i)],
  fun i => [(100, ⟨.cells (List.replicate 32 (.u8 0)), true, 0⟩), (102, ⟨.cells ((List.range 8).map fun i => .u32 (refSt b ((shaPad b).length / 64) i)), true, 0⟩), (106, ⟨.bytes ((List.range 32).map fun k => if k < i then outByte (refSt b ((shaPad b).length / 64)) k else 0), true, 0⟩)], 1000, fun i => 32 - i, fun i => i ≤ 32, fun _ => []⟩
def lsB (b : By) : LS := ⟨Nat, fun j => eH b j, fun j => kH b j, 1000, fun j => (shaPad b).length - 64 * j, fun j => 64 * j ≤ (shaPad b).length, fun j => [(17, lsW b j), (28, lsV b j)]⟩
def symRs : List Nat := [9, 69, 70, 83, 86, 87, 90, 91, 103, 104, 117, 118, 120, 149, 150, 153, 154, 19, 215, 216, 223]
end Go.Sym

namespace Go.Sym
open Go.Proofs Go.Spec
set_option linter.unusedVariables false
set_option maxRecDepth 100000 in
theorem vc14 (b : By) : bodyP Tryd.prog (R3.withSym symRs) gl0 [] [(3, ls0 b), (7, ls7 b), (13, lsB b), (39, lsO b)] 3000 Tryd.f13 0 [.rb false b .unk] [] (retQ Tryd.prog Tryd.f13 0 ⟨[], aggB 32 (outByte (refSt b ((shaPad b).length / 64))), [], []⟩) = (
let x1 := refSt b (List.length (shaPad b) / 64); let x2 := (0 : BitVec 8) = BitVec.ofNat 8 0; let x3 := BitVec.ofNat 64 (List.length b) * BitVec.ofNat 64 8; let x4 := [x1 0, x1 1, x1 2, x1 3, x1 4, x1 5, x1 6, x1 7]; 0 = 0 ∧ roomFor 0 (List.length b) 1 ∧ 1 = 1 ∧ 0 + List.length b = ([] ++ b).length ∧ roomFor (0 + List.length b) 1 1 ∧ (∃ (x : Nat), x.le (zc (List.length b)) ∧ b = b ∧ 0 = 0 ∧ Bool.false = (Bool.false && decide (List.length b = 0) && Bool.false) ∧ 0 = 0 ∧ 0 = 0 ∧ 0 = 0 ∧ List.length b + 1 + x = 0 + List.length b + 1 ∧ x2 ∧ x2 ∧ x2 ∧ x2 ∧ x2 ∧ x2 ∧ x2 ∧ x2 ∧ x2 ∧ x2 ∧ x2 ∧ x2 ∧ x2 ∧ x2 ∧ x2 ∧ x2 ∧ x2 ∧ x2 ∧ x2 ∧ x2 ∧ x2 ∧ x2 ∧ x2 ∧ x2 ∧ x2 ∧ x2 ∧ x2 ∧ x2 ∧ x2 ∧ x2 ∧ x2 ∧ x2 ∧ b ++ BitVec.ofNat 8 128 :: List.replicate x (0 : BitVec 8) = [] ++ b ++ [BitVec.ofNat 8 128] ∧ True) ∧ ∀ (x : Nat), x.le (zc (List.length b)) → @Bool.rec (fun _ => Prop) ((∃ (x_1 : Nat), x_1.le 8 ∧ 0 = 0 ∧ Bool.false = Bool.false ∧ 0 = 0 ∧ 0 = 0 ∧ 0 = 0 ∧ List.length b + 1 + zc (List.length b) + x_1 = List.length b + 1 + x ∧ x3 = BitVec.ofInt 64 (↑(List.length b) : Int) * BitVec.ofNat 64 8 ∧ (7 : Int) - (↑x_1 : Int) = (7 : Int) ∧ (0 : BitVec 8) = (0 : BitVec 8) ∧ (0 : BitVec 8) = (0 : BitVec 8) ∧ (0 : BitVec 8) = (0 : BitVec 8) ∧ (0 : BitVec 8) = (0 : BitVec 8) ∧ (0 : BitVec 8) = (0 : BitVec 8) ∧ (0 : BitVec 8) = (0 : BitVec 8) ∧ (0 : BitVec 8) = (0 : BitVec 8) ∧ (0 : BitVec 8) = (0 : BitVec 8) ∧ (0 : BitVec 8) = (0 : BitVec 8) ∧ (0 : BitVec 8) = (0 : BitVec 8) ∧ (0 : BitVec 8) = (0 : BitVec 8) ∧ (0 : BitVec 8) = (0 : BitVec 8) ∧ (0 : BitVec 8) = (0 : BitVec 8) ∧ (0 : BitVec 8) = (0 : BitVec 8) ∧ (0 : BitVec 8) = (0 : BitVec 8) ∧ (0 : BitVec 8) = (0 : BitVec 8) ∧ (0 : BitVec 8) = (0 : BitVec 8) ∧ (0 : BitVec 8) = (0 : BitVec 8) ∧ (0 : BitVec 8) = (0 : BitVec 8) ∧ (0 : BitVec 8) = (0 : BitVec 8) ∧ (0 : BitVec 8) = (0 : BitVec 8) ∧ (0 : BitVec 8) = (0 : BitVec 8) ∧ (0 : BitVec 8) = (0 : BitVec 8) ∧ (0 : BitVec 8) = (0 : BitVec 8) ∧ (0 : BitVec 8) = (0 : BitVec 8) ∧ (0 : BitVec 8) = (0 : BitVec 8) ∧ (0 : BitVec 8) = (0 : BitVec 8) ∧ (0 : BitVec 8) = (0 : BitVec 8) ∧ (0 : BitVec 8) = (0 : BitVec 8) ∧ (0 : BitVec 8) = (0 : BitVec 8) ∧ (0 : BitVec 8) = (0 : BitVec 8) ∧ (0 : BitVec 8) = (0 : BitVec 8) ∧ b ++ BitVec.ofNat 8 128 :: (List.replicate (zc (List.length b)) (BitVec.ofNat 8 0) ++ List.take x_1 (count8 x3)) = b ++ BitVec.ofNat 8 128 :: List.replicate x (0 : BitVec 8) ∧ True) ∧ ∀ (x : Nat), let x1_1 := [BitVec.setWidth 8 (x3 >>> (IntKind.i64.wrap ((8 : Int) * ((7 : Int) - (↑x : Int)))).toNat)]; let x2 := b ++ BitVec.ofNat 8 128 :: (List.replicate (zc (List.length b)) (BitVec.ofNat 8 0) ++ List.take x (count8 x3)); x.le 8 → @Bool.rec (fun _ => Prop) ((∃ (x_1 : Nat), (64 * x_1).le (List.length (shaPad b)) ∧ 0 = 0 ∧ Bool.false = Bool.false ∧ 0 = 0 ∧ 0 = 0 ∧ 0 = 0 ∧ List.length (shaPad b) = List.length b + 1 + zc (List.length b) + x ∧ 0 = 0 ∧ 0 = 0 ∧ (↑(64 * x_1) : Int) = (0 : Int) ∧ (0 : BitVec 8) = (0 : BitVec 8) ∧ (0 : BitVec 8) = (0 : BitVec 8) ∧ (0 : BitVec 8) = (0 : BitVec 8) ∧ (0 : BitVec 8) = (0 : BitVec 8) ∧ (0 : BitVec 8) = (0 : BitVec 8) ∧ (0 : BitVec 8) = (0 : BitVec 8) ∧ (0 : BitVec 8) = (0 : BitVec 8) ∧ (0 : BitVec 8) = (0 : BitVec 8) ∧ (0 : BitVec 8) = (0 : BitVec 8) ∧ (0 : BitVec 8) = (0 : BitVec 8) ∧ (0 : BitVec 8) = (0 : BitVec 8) ∧ (0 : BitVec 8) = (0 : BitVec 8) ∧ (0 : BitVec 8) = (0 : BitVec 8) ∧ (0 : BitVec 8) = (0 : BitVec 8) ∧ (0 : BitVec 8) = (0 : BitVec 8) ∧ (0 : BitVec 8) = (0 : BitVec 8) ∧ (0 : BitVec 8) = (0 : BitVec 8) ∧ (0 : BitVec 8) = (0 : BitVec 8) ∧ (0 : BitVec 8) = (0 : BitVec 8) ∧ (0 : BitVec 8) = (0 : BitVec 8) ∧ (0 : BitVec 8) = (0 : BitVec 8) ∧ (0 : BitVec 8) = (0 : BitVec 8) ∧ (0 : BitVec 8) = (0 : BitVec 8) ∧ (0 : BitVec 8) = (0 : BitVec 8) ∧ (0 : BitVec 8) = (0 : BitVec 8) ∧ (0 : BitVec 8) = (0 : BitVec 8) ∧ (0 : BitVec 8) = (0 : BitVec 8) ∧ (0 : BitVec 8) = (0 : BitVec 8) ∧ (0 : BitVec 8) = (0 : BitVec 8) ∧ (0 : BitVec 8) = (0 : BitVec 8) ∧ (0 : BitVec 8) = (0 : BitVec 8) ∧ (0 : BitVec 8) = (0 : BitVec 8) ∧ shaPad b = x2 ∧ refSt b x_1 0 = BitVec.ofNat 32 1779033703 ∧ refSt b x_1 1 = BitVec.ofNat 32 3144134277 ∧ refSt b x_1 2 = BitVec.ofNat 32 1013904242 ∧ refSt b x_1 3 = BitVec.ofNat 32 2773480762 ∧ refSt b x_1 4 = BitVec.ofNat 32 1359893119 ∧ refSt b x_1 5 = BitVec.ofNat 32 2600822924 ∧ refSt b x_1 6 = BitVec.ofNat 32 528734635 ∧ refSt b x_1 7 = BitVec.ofNat 32 1541459225 ∧ 64 = 64 ∧ (∀ (y : Nat), y < 64 → datas Bool.false [AV.u32 (shaK.getD y (0 : W32))] = Bool.true ∧ cut 1 (have y := have y := have y := have y := [AV.u32 (BitVec.ofNat 32 2428436474), AV.u32 (BitVec.ofNat 32 2756734187), AV.u32 (BitVec.ofNat 32 3204031479), AV.u32 (BitVec.ofNat 32 3329325298)]; AV.u32 (BitVec.ofNat 32 1955562222) :: AV.u32 (BitVec.ofNat 32 2024104815) :: AV.u32 (BitVec.ofNat 32 2227730452) :: AV.u32 (BitVec.ofNat 32 2361852424) :: y; have y := AV.u32 (BitVec.ofNat 32 958139571) :: AV.u32 (BitVec.ofNat 32 1322822218) :: AV.u32 (BitVec.ofNat 32 1537002063) :: AV.u32 (BitVec.ofNat 32 1747873779) :: y; AV.u32 (BitVec.ofNat 32 430227734) :: AV.u32 (BitVec.ofNat 32 506948616) :: AV.u32 (BitVec.ofNat 32 659060556) :: AV.u32 (BitVec.ofNat 32 883997877) :: y; have y := have y := AV.u32 (BitVec.ofNat 32 3516065817) :: AV.u32 (BitVec.ofNat 32 3600352804) :: AV.u32 (BitVec.ofNat 32 4094571909) :: AV.u32 (BitVec.ofNat 32 275423344) :: y; AV.u32 (BitVec.ofNat 32 2730485921) :: AV.u32 (BitVec.ofNat 32 2820302411) :: AV.u32 (BitVec.ofNat 32 3259730800) :: AV.u32 (BitVec.ofNat 32 3345764771) :: y; have y := AV.u32 (BitVec.ofNat 32 1695183700) :: AV.u32 (BitVec.ofNat 32 1986661051) :: AV.u32 (BitVec.ofNat 32 2177026350) :: AV.u32 (BitVec.ofNat 32 2456956037) :: y; AV.u32 (BitVec.ofNat 32 666307205) :: AV.u32 (BitVec.ofNat 32 773529912) :: AV.u32 (BitVec.ofNat 32 1294757372) :: AV.u32 (BitVec.ofNat 32 1396182291) :: y; have y := have y := have y := AV.u32 (BitVec.ofNat 32 3336571891) :: AV.u32 (BitVec.ofNat 32 3584528711) :: AV.u32 (BitVec.ofNat 32 113926993) :: AV.u32 (BitVec.ofNat 32 338241895) :: y; AV.u32 (BitVec.ofNat 32 2554220882) :: AV.u32 (BitVec.ofNat 32 2821834349) :: AV.u32 (BitVec.ofNat 32 2952996808) :: AV.u32 (BitVec.ofNat 32 3210313671) :: y; have y := AV.u32 (BitVec.ofNat 32 770255983) :: AV.u32 (BitVec.ofNat 32 1249150122) :: AV.u32 (BitVec.ofNat 32 1555081692) :: AV.u32 (BitVec.ofNat 32 1996064986) :: y; AV.u32 (BitVec.ofNat 32 3835390401) :: AV.u32 (BitVec.ofNat 32 4022224774) :: AV.u32 (BitVec.ofNat 32 264347078) :: AV.u32 (BitVec.ofNat 32 604807628) :: y; have y := have y := AV.u32 (BitVec.ofNat 32 1925078388) :: AV.u32 (BitVec.ofNat 32 2162078206) :: AV.u32 (BitVec.ofNat 32 2614888103) :: AV.u32 (BitVec.ofNat 32 3248222580) :: y; AV.u32 (BitVec.ofNat 32 3624381080) :: AV.u32 (BitVec.ofNat 32 310598401) :: AV.u32 (BitVec.ofNat 32 607225278) :: AV.u32 (BitVec.ofNat 32 1426881987) :: y; have y := AV.u32 (BitVec.ofNat 32 961987163) :: AV.u32 (BitVec.ofNat 32 1508970993) :: AV.u32 (BitVec.ofNat 32 2453635748) :: AV.u32 (BitVec.ofNat 32 2870763221) :: y; AV.u32 (BitVec.ofNat 32 1116352408) :: AV.u32 (BitVec.ofNat 32 1899447441) :: AV.u32 (BitVec.ofNat 32 3049323471) :: AV.u32 (BitVec.ofNat 32 3921009573) :: y) y = [AV.u32 (shaK.getD y (0 : W32))]) ∧ True) ∧ ∀ (x : Nat), let x1_2 := refSt b x 5 = refSt b x 5; let x2 := refSt b x 3 = refSt b x 3; let x3 := refSt b x 4 = refSt b x 4; let x4_1 := refSt b x 6 = refSt b x 6; let x5 := refSt b x 0 = refSt b x 0; let x6 := refSt b x 2 = refSt b x 2; let x7 := refSt b x 7 = refSt b x 7; let x8 := refSt b x 1 = refSt b x 1; let x9 := (↑(64 * x) : Int) = (↑(64 * x) : Int); (64 * x).le (List.length (shaPad b)) → @Bool.rec (fun _ => Prop) ((∃ (x_1 : Nat), x_1.le 32 ∧ 0 = 0 ∧ 0 = 0 ∧ 0 = 0 ∧ (↑x_1 : Int) = (0 : Int) ∧ (0 : BitVec 8) = (0 : BitVec 8) ∧ (0 : BitVec 8) = (0 : BitVec 8) ∧ (0 : BitVec 8) = (0 : BitVec 8) ∧ (0 : BitVec 8) = (0 : BitVec 8) ∧ (0 : BitVec 8) = (0 : BitVec 8) ∧ (0 : BitVec 8) = (0 : BitVec 8) ∧ (0 : BitVec 8) = (0 : BitVec 8) ∧ (0 : BitVec 8) = (0 : BitVec 8) ∧ (0 : BitVec 8) = (0 : BitVec 8) ∧ (0 : BitVec 8) = (0 : BitVec 8) ∧ (0 : BitVec 8) = (0 : BitVec 8) ∧ (0 : BitVec 8) = (0 : BitVec 8) ∧ (0 : BitVec 8) = (0 : BitVec 8) ∧ (0 : BitVec 8) = (0 : BitVec 8) ∧ (0 : BitVec 8) = (0 : BitVec 8) ∧ (0 : BitVec 8) = (0 : BitVec 8) ∧ (0 : BitVec 8) = (0 : BitVec 8) ∧ (0 : BitVec 8) = (0 : BitVec 8) ∧ (0 : BitVec 8) = (0 : BitVec 8) ∧ (0 : BitVec 8) = (0 : BitVec 8) ∧ (0 : BitVec 8) = (0 : BitVec 8) ∧ (0 : BitVec 8) = (0 : BitVec 8) ∧ (0 : BitVec 8) = (0 : BitVec 8) ∧ (0 : BitVec 8) = (0 : BitVec 8) ∧ (0 : BitVec 8) = (0 : BitVec 8) ∧ (0 : BitVec 8) = (0 : BitVec 8) ∧ (0 : BitVec 8) = (0 : BitVec 8) ∧ (0 : BitVec 8) = (0 : BitVec 8) ∧ (0 : BitVec 8) = (0 : BitVec 8) ∧ (0 : BitVec 8) = (0 : BitVec 8) ∧ (0 : BitVec 8) = (0 : BitVec 8) ∧ (0 : BitVec 8) = (0 : BitVec 8) ∧ x1 0 = refSt b x 0 ∧ x1 1 = refSt b x 1 ∧ x1 2 = refSt b x 2 ∧ x1 3 = refSt b x 3 ∧ x1 4 = refSt b x 4 ∧ x1 5 = refSt b x 5 ∧ x1 6 = refSt b x 6 ∧ x1 7 = refSt b x 7 ∧ List.map (fun (k : Nat) => if k < x_1 then outByte x1 k else (0 : BitVec 8)) (List.range 32) = List.replicate 32 (0 : BitVec 8) ∧ True) ∧ ∀ (x : Nat), let x1_3 := List.map (fun (k : Nat) => if k < x then outByte x1 k else (0 : BitVec 8)) (List.range 32); x.le 32 → @Bool.rec (fun _ => Prop) (32 ≤ x1_3.length ∧ outByte x1 0 = x1_3.getD 0 (0 : BitVec 8) ∧ outByte x1 1 = x1_3.getD 1 (0 : BitVec 8) ∧ outByte x1 2 = x1_3.getD 2 (0 : BitVec 8) ∧ outByte x1 3 = x1_3.getD 3 (0 : BitVec 8) ∧ outByte x1 4 = x1_3.getD 4 (0 : BitVec 8) ∧ outByte x1 5 = x1_3.getD 5 (0 : BitVec 8) ∧ outByte x1 6 = x1_3.getD 6 (0 : BitVec 8) ∧ outByte x1 7 = x1_3.getD 7 (0 : BitVec 8) ∧ outByte x1 8 = x1_3.getD 8 (0 : BitVec 8) ∧ outByte x1 9 = x1_3.getD 9 (0 : BitVec 8) ∧ outByte x1 10 = x1_3.getD 10 (0 : BitVec 8) ∧ outByte x1 11 = x1_3.getD 11 (0 : BitVec 8) ∧ outByte x1 12 = x1_3.getD 12 (0 : BitVec 8) ∧ outByte x1 13 = x1_3.getD 13 (0 : BitVec 8) ∧ outByte x1 14 = x1_3.getD 14 (0 : BitVec 8) ∧ outByte x1 15 = x1_3.getD 15 (0 : BitVec 8) ∧ outByte x1 16 = x1_3.getD 16 (0 : BitVec 8) ∧ outByte x1 17 = x1_3.getD 17 (0 : BitVec 8) ∧ outByte x1 18 = x1_3.getD 18 (0 : BitVec 8) ∧ outByte x1 19 = x1_3.getD 19 (0 : BitVec 8) ∧ outByte x1 20 = x1_3.getD 20 (0 : BitVec 8) ∧ outByte x1 21 = x1_3.getD 21 (0 : BitVec 8) ∧ outByte x1 22 = x1_3.getD 22 (0 : BitVec 8) ∧ outByte x1 23 = x1_3.getD 23 (0 : BitVec 8) ∧ outByte x1 24 = x1_3.getD 24 (0 : BitVec 8) ∧ outByte x1 25 = x1_3.getD 25 (0 : BitVec 8) ∧ outByte x1 26 = x1_3.getD 26 (0 : BitVec 8) ∧ outByte x1 27 = x1_3.getD 27 (0 : BitVec 8) ∧ outByte x1 28 = x1_3.getD 28 (0 : BitVec 8) ∧ outByte x1 29 = x1_3.getD 29 (0 : BitVec 8) ∧ outByte x1 30 = x1_3.getD 30 (0 : BitVec 8) ∧ outByte x1 31 = x1_3.getD 31 (0 : BitVec 8) ∧ True) ((0 : Int) ≤ IntKind.i64.wrap ((↑x : Int).tdiv (4 : Int)) ∧ (IntKind.i64.wrap ((↑x : Int).tdiv (4 : Int))).toNat < 8 ∧ (IntKind.i64.wrap ((↑x : Int).tdiv (4 : Int))).toNat < x4.length ∧ True ∧ (0 : Int) ≤ IntKind.i64.wrap ((24 : Int) - IntKind.i64.wrap ((8 : Int) * (↑x : Int).tmod (4 : Int))) ∧ (0 : Int) ≤ (↑x : Int) ∧ (↑x : Int).toNat < 32 ∧ (↑x : Int).toNat < x1_3.length ∧ ∃ (y : Nat), 32 - y < 32 - x ∧ y.le 32 ∧ 0 = 0 ∧ 0 = 0 ∧ 0 = 0 ∧ (↑y : Int) = IntKind.i64.wrap ((↑x : Int) + (1 : Int)) ∧ (0 : BitVec 8) = (0 : BitVec 8) ∧ (0 : BitVec 8) = (0 : BitVec 8) ∧ (0 : BitVec 8) = (0 : BitVec 8) ∧ (0 : BitVec 8) = (0 : BitVec 8) ∧ (0 : BitVec 8) = (0 : BitVec 8) ∧ (0 : BitVec 8) = (0 : BitVec 8) ∧ (0 : BitVec 8) = (0 : BitVec 8) ∧ (0 : BitVec 8) = (0 : BitVec 8) ∧ (0 : BitVec 8) = (0 : BitVec 8) ∧ (0 : BitVec 8) = (0 : BitVec 8) ∧ (0 : BitVec 8) = (0 : BitVec 8) ∧ (0 : BitVec 8) = (0 : BitVec 8) ∧ (0 : BitVec 8) = (0 : BitVec 8) ∧ (0 : BitVec 8) = (0 : BitVec 8) ∧ (0 : BitVec 8) = (0 : BitVec 8) ∧ (0 : BitVec 8) = (0 : BitVec 8) ∧ (0 : BitVec 8) = (0 : BitVec 8) ∧ (0 : BitVec 8) = (0 : BitVec 8) ∧ (0 : BitVec 8) = (0 : BitVec 8) ∧ (0 : BitVec 8) = (0 : BitVec 8) ∧ (0 : BitVec 8) = (0 : BitVec 8) ∧ (0 : BitVec 8) = (0 : BitVec 8) ∧ (0 : BitVec 8) = (0 : BitVec 8) ∧ (0 : BitVec 8) = (0 : BitVec 8) ∧ (0 : BitVec 8) = (0 : BitVec 8) ∧ (0 : BitVec 8) = (0 : BitVec 8) ∧ (0 : BitVec 8) = (0 : BitVec 8) ∧ (0 : BitVec 8) = (0 : BitVec 8) ∧ (0 : BitVec 8) = (0 : BitVec 8) ∧ (0 : BitVec 8) = (0 : BitVec 8) ∧ (0 : BitVec 8) = (0 : BitVec 8) ∧ (0 : BitVec 8) = (0 : BitVec 8) ∧ x1 0 = x1 0 ∧ x1 1 = x1 1 ∧ x1 2 = x1 2 ∧ x1 3 = x1 3 ∧ x1 4 = x1 4 ∧ x1 5 = x1 5 ∧ x1 6 = x1 6 ∧ x1 7 = x1 7 ∧ List.map (fun (k : Nat) => if k < y then outByte x1 k else (0 : BitVec 8)) (List.range 32) = x1_3.set (↑x : Int).toNat (BitVec.setWidth 8 (x4.getD (IntKind.i64.wrap ((↑x : Int).tdiv (4 : Int))).toNat (0 : BitVec 32) >>> (IntKind.i64.wrap ((24 : Int) - IntKind.i64.wrap ((8 : Int) * (↑x : Int).tmod (4 : Int)))).toNat)) ∧ True) (decide ((↑x : Int) < (32 : Int)))) ((∃ (x_1 : Nat), x_1.le 64 ∧ 0 = 0 ∧ Bool.false = Bool.false ∧ 0 = 0 ∧ 0 = 0 ∧ 0 = 0 ∧ List.length (shaPad b) = List.length (shaPad b) ∧ 0 = 0 ∧ 0 = 0 ∧ x9 ∧ 0 = 0 ∧ (↑x_1 : Int) = (0 : Int) ∧ (0 : BitVec 8) = (0 : BitVec 8) ∧ (0 : BitVec 8) = (0 : BitVec 8) ∧ (0 : BitVec 8) = (0 : BitVec 8) ∧ (0 : BitVec 8) = (0 : BitVec 8) ∧ (0 : BitVec 8) = (0 : BitVec 8) ∧ (0 : BitVec 8) = (0 : BitVec 8) ∧ (0 : BitVec 8) = (0 : BitVec 8) ∧ (0 : BitVec 8) = (0 : BitVec 8) ∧ (0 : BitVec 8) = (0 : BitVec 8) ∧ (0 : BitVec 8) = (0 : BitVec 8) ∧ (0 : BitVec 8) = (0 : BitVec 8) ∧ (0 : BitVec 8) = (0 : BitVec 8) ∧ (0 : BitVec 8) = (0 : BitVec 8) ∧ (0 : BitVec 8) = (0 : BitVec 8) ∧ (0 : BitVec 8) = (0 : BitVec 8) ∧ (0 : BitVec 8) = (0 : BitVec 8) ∧ (0 : BitVec 8) = (0 : BitVec 8) ∧ (0 : BitVec 8) = (0 : BitVec 8) ∧ (0 : BitVec 8) = (0 : BitVec 8) ∧ (0 : BitVec 8) = (0 : BitVec 8) ∧ (0 : BitVec 8) = (0 : BitVec 8) ∧ (0 : BitVec 8) = (0 : BitVec 8) ∧ (0 : BitVec 8) = (0 : BitVec 8) ∧ (0 : BitVec 8) = (0 : BitVec 8) ∧ (0 : BitVec 8) = (0 : BitVec 8) ∧ (0 : BitVec 8) = (0 : BitVec 8) ∧ (0 : BitVec 8) = (0 : BitVec 8) ∧ (0 : BitVec 8) = (0 : BitVec 8) ∧ (0 : BitVec 8) = (0 : BitVec 8) ∧ (0 : BitVec 8) = (0 : BitVec 8) ∧ (0 : BitVec 8) = (0 : BitVec 8) ∧ (0 : BitVec 8) = (0 : BitVec 8) ∧ shaPad b = shaPad b ∧ x5 ∧ x8 ∧ x6 ∧ x2 ∧ x3 ∧ x1_2 ∧ x4_1 ∧ x7 ∧ 64 = 64 ∧ (∀ (y : Nat), y < 64 → datas Bool.false [AV.u32 (shaK.getD y (0 : W32))] = Bool.true ∧ [AV.u32 (shaK.getD y (0 : W32))] = [AV.u32 (shaK.getD y (0 : W32))]) ∧ 64 = 64 ∧ (∀ (y : Nat), y < 64 → datas Bool.false [AV.u32 (if y < x_1 then sch (refBlk b x) y else (0 : BitVec 32))] = Bool.true ∧ [AV.u32 (0 : BitVec 32)] = [AV.u32 (if y < x_1 then sch (refBlk b x) y else (0 : BitVec 32))]) ∧ True) ∧ ∀ (x_1 : Nat), let x1 := if (IntKind.i64.wrap ((↑x_1 : Int) - (15 : Int))).toNat < x_1 then sch (refBlk b x) (IntKind.i64.wrap ((↑x_1 : Int) - (15 : Int))).toNat else (0 : BitVec 32); let x2_1 := if (IntKind.i64.wrap ((↑x_1 : Int) - (2 : Int))).toNat < x_1 then sch (refBlk b x) (IntKind.i64.wrap ((↑x_1 : Int) - (2 : Int))).toNat else (0 : BitVec 32); let x3_1 := IntKind.i64.wrap ((↑(64 * x) : Int) + IntKind.i64.wrap ((4 : Int) * (↑x_1 : Int))); x_1.le 64 → @Bool.rec (fun _ => Prop) ((∃ (x_2 : Nat), x_2.le 64 ∧ 0 = 0 ∧ Bool.false = Bool.false ∧ 0 = 0 ∧ 0 = 0 ∧ 0 = 0 ∧ List.length (shaPad b) = List.length (shaPad b) ∧ 0 = 0 ∧ 0 = 0 ∧ x9 ∧ 0 = 0 ∧ 0 = 0 ∧ (↑x_2 : Int) = (0 : Int) ∧ (0 : BitVec 8) = (0 : BitVec 8) ∧ (0 : BitVec 8) = (0 : BitVec 8) ∧ (0 : BitVec 8) = (0 : BitVec 8) ∧ (0 : BitVec 8) = (0 : BitVec 8) ∧ (0 : BitVec 8) = (0 : BitVec 8) ∧ (0 : BitVec 8) = (0 : BitVec 8) ∧ (0 : BitVec 8) = (0 : BitVec 8) ∧ (0 : BitVec 8) = (0 : BitVec 8) ∧ (0 : BitVec 8) = (0 : BitVec 8) ∧ (0 : BitVec 8) = (0 : BitVec 8) ∧ (0 : BitVec 8) = (0 : BitVec 8) ∧ (0 : BitVec 8) = (0 : BitVec 8) ∧ (0 : BitVec 8) = (0 : BitVec 8) ∧ (0 : BitVec 8) = (0 : BitVec 8) ∧ (0 : BitVec 8) = (0 : BitVec 8) ∧ (0 : BitVec 8) = (0 : BitVec 8) ∧ (0 : BitVec 8) = (0 : BitVec 8) ∧ (0 : BitVec 8) = (0 : BitVec 8) ∧ (0 : BitVec 8) = (0 : BitVec 8) ∧ (0 : BitVec 8) = (0 : BitVec 8) ∧ (0 : BitVec 8) = (0 : BitVec 8) ∧ (0 : BitVec 8) = (0 : BitVec 8) ∧ (0 : BitVec 8) = (0 : BitVec 8) ∧ (0 : BitVec 8) = (0 : BitVec 8) ∧ (0 : BitVec 8) = (0 : BitVec 8) ∧ (0 : BitVec 8) = (0 : BitVec 8) ∧ (0 : BitVec 8) = (0 : BitVec 8) ∧ (0 : BitVec 8) = (0 : BitVec 8) ∧ (0 : BitVec 8) = (0 : BitVec 8) ∧ (0 : BitVec 8) = (0 : BitVec 8) ∧ (0 : BitVec 8) = (0 : BitVec 8) ∧ (0 : BitVec 8) = (0 : BitVec 8) ∧ shaPad b = shaPad b ∧ x5 ∧ x8 ∧ x6 ∧ x2 ∧ x3 ∧ x1_2 ∧ x4_1 ∧ x7 ∧ 64 = 64 ∧ (∀ (y : Nat), y < 64 → datas Bool.false [AV.u32 (shaK.getD y (0 : W32))] = Bool.true ∧ [AV.u32 (shaK.getD y (0 : W32))] = [AV.u32 (shaK.getD y (0 : W32))]) ∧ 64 = 64 ∧ (∀ (y : Nat), y < 64 → datas Bool.false [AV.u32 (sch (refBlk b x) y)] = Bool.true ∧ [AV.u32 (if y < x_1 then sch (refBlk b x) y else (0 : BitVec 32))] = [AV.u32 (sch (refBlk b x) y)]) ∧ rnds (sch (refBlk b x)) (refSt b x) x_2 0 = refSt b x 0 ∧ rnds (sch (refBlk b x)) (refSt b x) x_2 1 = refSt b x 1 ∧ rnds (sch (refBlk b x)) (refSt b x) x_2 2 = refSt b x 2 ∧ rnds (sch (refBlk b x)) (refSt b x) x_2 3 = refSt b x 3 ∧ rnds (sch (refBlk b x)) (refSt b x) x_2 4 = refSt b x 4 ∧ rnds (sch (refBlk b x)) (refSt b x) x_2 5 = refSt b x 5 ∧ rnds (sch (refBlk b x)) (refSt b x) x_2 6 = refSt b x 6 ∧ rnds (sch (refBlk b x)) (refSt b x) x_2 7 = refSt b x 7 ∧ True) ∧ ∀ (x_2 : Nat), let x1 := rnds (sch (refBlk b x)) (refSt b x) x_2 4; let x2_2 := rnds (sch (refBlk b x)) (refSt b x) x_2 0; let x3_2 := rnds (sch (refBlk b x)) (refSt b x) x_2 7 + ((x1 >>> 6 ||| x1 <<< 26) ^^^ (x1 >>> 11 ||| x1 <<< 21) ^^^ (x1 >>> 25 ||| x1 <<< 7)) + chS x1 (rnds (sch (refBlk b x)) (refSt b x) x_2 5) (rnds (sch (refBlk b x)) (refSt b x) x_2 6) + shaK.getD (↑x_2 : Int).toNat (0 : W32) + sch (refBlk b x) (↑x_2 : Int).toNat; x_2.le 64 → @Bool.rec (fun _ => Prop) ((0 : Int) ≤ (0 : Int) ∧ (0 : Int) ≤ (0 : Int) ∧ (0 : Int) ≤ (0 : Int) ∧ (0 : Int) ≤ Int.ofNat 1 ∧ (0 : Int) ≤ Int.ofNat 1 ∧ (0 : Int) ≤ Int.ofNat 1 ∧ (0 : Int) ≤ Int.ofNat 2 ∧ (0 : Int) ≤ Int.ofNat 2 ∧ (0 : Int) ≤ Int.ofNat 2 ∧ (0 : Int) ≤ Int.ofNat 3 ∧ (0 : Int) ≤ Int.ofNat 3 ∧ (0 : Int) ≤ Int.ofNat 3 ∧ (0 : Int) ≤ Int.ofNat 4 ∧ (0 : Int) ≤ Int.ofNat 4 ∧ (0 : Int) ≤ Int.ofNat 4 ∧ (0 : Int) ≤ Int.ofNat 5 ∧ (0 : Int) ≤ Int.ofNat 5 ∧ (0 : Int) ≤ Int.ofNat 5 ∧ (0 : Int) ≤ Int.ofNat 6 ∧ (0 : Int) ≤ Int.ofNat 6 ∧ (0 : Int) ≤ Int.ofNat 6 ∧ (0 : Int) ≤ Int.ofNat 7 ∧ (0 : Int) ≤ Int.ofNat 7 ∧ (0 : Int) ≤ Int.ofNat 7 ∧ ∃ (y : Nat), List.length (shaPad b) - 64 * y < List.length (shaPad b) - 64 * x ∧ (64 * y).le (List.length (shaPad b)) ∧ 0 = 0 ∧ Bool.false = Bool.false ∧ 0 = 0 ∧ 0 = 0 ∧ 0 = 0 ∧ List.length (shaPad b) = List.length (shaPad b) ∧ 0 = 0 ∧ 0 = 0 ∧ (↑(64 * y) : Int) = IntKind.i64.wrap ((↑(64 * x) : Int) + (64 : Int)) ∧ (0 : BitVec 8) = (0 : BitVec 8) ∧ (0 : BitVec 8) = (0 : BitVec 8) ∧ (0 : BitVec 8) = (0 : BitVec 8) ∧ (0 : BitVec 8) = (0 : BitVec 8) ∧ (0 : BitVec 8) = (0 : BitVec 8) ∧ (0 : BitVec 8) = (0 : BitVec 8) ∧ (0 : BitVec 8) = (0 : BitVec 8) ∧ (0 : BitVec 8) = (0 : BitVec 8) ∧ (0 : BitVec 8) = (0 : BitVec 8) ∧ (0 : BitVec 8) = (0 : BitVec 8) ∧ (0 : BitVec 8) = (0 : BitVec 8) ∧ (0 : BitVec 8) = (0 : BitVec 8) ∧ (0 : BitVec 8) = (0 : BitVec 8) ∧ (0 : BitVec 8) = (0 : BitVec 8) ∧ (0 : BitVec 8) = (0 : BitVec 8) ∧ (0 : BitVec 8) = (0 : BitVec 8) ∧ (0 : BitVec 8) = (0 : BitVec 8) ∧ (0 : BitVec 8) = (0 : BitVec 8) ∧ (0 : BitVec 8) = (0 : BitVec 8) ∧ (0 : BitVec 8) = (0 : BitVec 8) ∧ (0 : BitVec 8) = (0 : BitVec 8) ∧ (0 : BitVec 8) = (0 : BitVec 8) ∧ (0 : BitVec 8) = (0 : BitVec 8) ∧ (0 : BitVec 8) = (0 : BitVec 8) ∧ (0 : BitVec 8) = (0 : BitVec 8) ∧ (0 : BitVec 8) = (0 : BitVec 8) ∧ (0 : BitVec 8) = (0 : BitVec 8) ∧ (0 : BitVec 8) = (0 : BitVec 8) ∧ (0 : BitVec 8) = (0 : BitVec 8) ∧ (0 : BitVec 8) = (0 : BitVec 8) ∧ (0 : BitVec 8) = (0 : BitVec 8) ∧ (0 : BitVec 8) = (0 : BitVec 8) ∧ shaPad b = shaPad b ∧ refSt b y 0 = refSt b x 0 + x2_2 ∧ refSt b y 1 = refSt b x 1 + rnds (sch (refBlk b x)) (refSt b x) x_2 1 ∧ refSt b y 2 = refSt b x 2 + rnds (sch (refBlk b x)) (refSt b x) x_2 2 ∧ refSt b y 3 = refSt b x 3 + rnds (sch (refBlk b x)) (refSt b x) x_2 3 ∧ refSt b y 4 = refSt b x 4 + x1 ∧ refSt b y 5 = refSt b x 5 + rnds (sch (refBlk b x)) (refSt b x) x_2 5 ∧ refSt b y 6 = refSt b x 6 + rnds (sch (refBlk b x)) (refSt b x) x_2 6 ∧ refSt b y 7 = refSt b x 7 + rnds (sch (refBlk b x)) (refSt b x) x_2 7 ∧ 64 = 64 ∧ (∀ (y : Nat), y < 64 → datas Bool.false [AV.u32 (shaK.getD y (0 : W32))] = Bool.true ∧ [AV.u32 (shaK.getD y (0 : W32))] = [AV.u32 (shaK.getD y (0 : W32))]) ∧ True) ((0 : Int) ≤ (6 : Int) ∧ (0 : Int) ≤ Int.ofNat 26 ∧ (0 : Int) ≤ (11 : Int) ∧ (0 : Int) ≤ Int.ofNat 21 ∧ (0 : Int) ≤ (25 : Int) ∧ (0 : Int) ≤ Int.ofNat 7 ∧ (0 : Int) ≤ (↑x_2 : Int) ∧ (↑x_2 : Int).toNat < 64 ∧ (↑x_2 : Int).toNat < 64 ∧ True ∧ (0 : Int) ≤ (↑x_2 : Int) ∧ (↑x_2 : Int).toNat < 64 ∧ (↑x_2 : Int).toNat < 64 ∧ True ∧ (0 : Int) ≤ (2 : Int) ∧ (0 : Int) ≤ Int.ofNat 30 ∧ (0 : Int) ≤ (13 : Int) ∧ (0 : Int) ≤ Int.ofNat 19 ∧ (0 : Int) ≤ (22 : Int) ∧ (0 : Int) ≤ Int.ofNat 10 ∧ ∃ (y : Nat), 64 - y < 64 - x_2 ∧ y.le 64 ∧ 0 = 0 ∧ Bool.false = Bool.false ∧ 0 = 0 ∧ 0 = 0 ∧ 0 = 0 ∧ List.length (shaPad b) = List.length (shaPad b) ∧ 0 = 0 ∧ 0 = 0 ∧ x9 ∧ 0 = 0 ∧ 0 = 0 ∧ (↑y : Int) = IntKind.i64.wrap ((↑x_2 : Int) + (1 : Int)) ∧ (0 : BitVec 8) = (0 : BitVec 8) ∧ (0 : BitVec 8) = (0 : BitVec 8) ∧ (0 : BitVec 8) = (0 : BitVec 8) ∧ (0 : BitVec 8) = (0 : BitVec 8) ∧ (0 : BitVec 8) = (0 : BitVec 8) ∧ (0 : BitVec 8) = (0 : BitVec 8) ∧ (0 : BitVec 8) = (0 : BitVec 8) ∧ (0 : BitVec 8) = (0 : BitVec 8) ∧ (0 : BitVec 8) = (0 : BitVec 8) ∧ (0 : BitVec 8) = (0 : BitVec 8) ∧ (0 : BitVec 8) = (0 : BitVec 8) ∧ (0 : BitVec 8) = (0 : BitVec 8) ∧ (0 : BitVec 8) = (0 : BitVec 8) ∧ (0 : BitVec 8) = (0 : BitVec 8) ∧ (0 : BitVec 8) = (0 : BitVec 8) ∧ (0 : BitVec 8) = (0 : BitVec 8) ∧ (0 : BitVec 8) = (0 : BitVec 8) ∧ (0 : BitVec 8) = (0 : BitVec 8) ∧ (0 : BitVec 8) = (0 : BitVec 8) ∧ (0 : BitVec 8) = (0 : BitVec 8) ∧ (0 : BitVec 8) = (0 : BitVec 8) ∧ (0 : BitVec 8) = (0 : BitVec 8) ∧ (0 : BitVec 8) = (0 : BitVec 8) ∧ (0 : BitVec 8) = (0 : BitVec 8) ∧ (0 : BitVec 8) = (0 : BitVec 8) ∧ (0 : BitVec 8) = (0 : BitVec 8) ∧ (0 : BitVec 8) = (0 : BitVec 8) ∧ (0 : BitVec 8) = (0 : BitVec 8) ∧ (0 : BitVec 8) = (0 : BitVec 8) ∧ (0 : BitVec 8) = (0 : BitVec 8) ∧ (0 : BitVec 8) = (0 : BitVec 8) ∧ (0 : BitVec 8) = (0 : BitVec 8) ∧ shaPad b = shaPad b ∧ x5 ∧ x8 ∧ x6 ∧ x2 ∧ x3 ∧ x1_2 ∧ x4_1 ∧ x7 ∧ 64 = 64 ∧ (∀ (y : Nat), y < 64 → datas Bool.false [AV.u32 (shaK.getD y (0 : W32))] = Bool.true ∧ [AV.u32 (shaK.getD y (0 : W32))] = [AV.u32 (shaK.getD y (0 : W32))]) ∧ 64 = 64 ∧ (∀ (y : Nat), y < 64 → datas Bool.false [AV.u32 (sch (refBlk b x) y)] = Bool.true ∧ [AV.u32 (sch (refBlk b x) y)] = [AV.u32 (sch (refBlk b x) y)]) ∧ rnds (sch (refBlk b x)) (refSt b x) y 0 = x3_2 + (((x2_2 >>> 2 ||| x2_2 <<< 30) ^^^ (x2_2 >>> 13 ||| x2_2 <<< 19) ^^^ (x2_2 >>> 22 ||| x2_2 <<< 10)) + mjS x2_2 (rnds (sch (refBlk b x)) (refSt b x) x_2 1) (rnds (sch (refBlk b x)) (refSt b x) x_2 2)) ∧ rnds (sch (refBlk b x)) (refSt b x) y 1 = x2_2 ∧ rnds (sch (refBlk b x)) (refSt b x) y 2 = rnds (sch (refBlk b x)) (refSt b x) x_2 1 ∧ rnds (sch (refBlk b x)) (refSt b x) y 3 = rnds (sch (refBlk b x)) (refSt b x) x_2 2 ∧ rnds (sch (refBlk b x)) (refSt b x) y 4 = rnds (sch (refBlk b x)) (refSt b x) x_2 3 + x3_2 ∧ rnds (sch (refBlk b x)) (refSt b x) y 5 = x1 ∧ rnds (sch (refBlk b x)) (refSt b x) y 6 = rnds (sch (refBlk b x)) (refSt b x) x_2 5 ∧ rnds (sch (refBlk b x)) (refSt b x) y 7 = rnds (sch (refBlk b x)) (refSt b x) x_2 6 ∧ True) (decide ((↑x_2 : Int) < (64 : Int)))) (@Bool.rec (fun _ => Prop) ((0 : Int) ≤ IntKind.i64.wrap ((↑x_1 : Int) - (2 : Int)) ∧ (IntKind.i64.wrap ((↑x_1 : Int) - (2 : Int))).toNat < 64 ∧ (IntKind.i64.wrap ((↑x_1 : Int) - (2 : Int))).toNat < 64 ∧ True ∧ (0 : Int) ≤ IntKind.i64.wrap ((↑x_1 : Int) - (15 : Int)) ∧ (IntKind.i64.wrap ((↑x_1 : Int) - (15 : Int))).toNat < 64 ∧ (IntKind.i64.wrap ((↑x_1 : Int) - (15 : Int))).toNat < 64 ∧ True ∧ (0 : Int) ≤ (17 : Int) ∧ (0 : Int) ≤ Int.ofNat 15 ∧ (0 : Int) ≤ (19 : Int) ∧ (0 : Int) ≤ Int.ofNat 13 ∧ (0 : Int) ≤ IntKind.i64.wrap ((↑x_1 : Int) - (7 : Int)) ∧ (IntKind.i64.wrap ((↑x_1 : Int) - (7 : Int))).toNat < 64 ∧ (IntKind.i64.wrap ((↑x_1 : Int) - (7 : Int))).toNat < 64 ∧ True ∧ (0 : Int) ≤ (7 : Int) ∧ (0 : Int) ≤ Int.ofNat 25 ∧ (0 : Int) ≤ (18 : Int) ∧ (0 : Int) ≤ Int.ofNat 14 ∧ (0 : Int) ≤ IntKind.i64.wrap ((↑x_1 : Int) - (16 : Int)) ∧ (IntKind.i64.wrap ((↑x_1 : Int) - (16 : Int))).toNat < 64 ∧ (IntKind.i64.wrap ((↑x_1 : Int) - (16 : Int))).toNat < 64 ∧ True ∧ (0 : Int) ≤ (↑x_1 : Int) ∧ (↑x_1 : Int).toNat < 64 ∧ (↑x_1 : Int).toNat < 64 ∧ [AV.u32 (if (↑x_1 : Int).toNat < x_1 then sch (refBlk b x) (↑x_1 : Int).toNat else (0 : BitVec 32))].length = 1 ∧ ∃ (y : Nat), 64 - y < 64 - x_1 ∧ y.le 64 ∧ 0 = 0 ∧ Bool.false = Bool.false ∧ 0 = 0 ∧ 0 = 0 ∧ 0 = 0 ∧ List.length (shaPad b) = List.length (shaPad b) ∧ 0 = 0 ∧ 0 = 0 ∧ x9 ∧ 0 = 0 ∧ (↑y : Int) = IntKind.i64.wrap ((↑x_1 : Int) + (1 : Int)) ∧ (0 : BitVec 8) = (0 : BitVec 8) ∧ (0 : BitVec 8) = (0 : BitVec 8) ∧ (0 : BitVec 8) = (0 : BitVec 8) ∧ (0 : BitVec 8) = (0 : BitVec 8) ∧ (0 : BitVec 8) = (0 : BitVec 8) ∧ (0 : BitVec 8) = (0 : BitVec 8) ∧ (0 : BitVec 8) = (0 : BitVec 8) ∧ (0 : BitVec 8) = (0 : BitVec 8) ∧ (0 : BitVec 8) = (0 : BitVec 8) ∧ (0 : BitVec 8) = (0 : BitVec 8) ∧ (0 : BitVec 8) = (0 : BitVec 8) ∧ (0 : BitVec 8) = (0 : BitVec 8) ∧ (0 : BitVec 8) = (0 : BitVec 8) ∧ (0 : BitVec 8) = (0 : BitVec 8) ∧ (0 : BitVec 8) = (0 : BitVec 8) ∧ (0 : BitVec 8) = (0 : BitVec 8) ∧ (0 : BitVec 8) = (0 : BitVec 8) ∧ (0 : BitVec 8) = (0 : BitVec 8) ∧ (0 : BitVec 8) = (0 : BitVec 8) ∧ (0 : BitVec 8) = (0 : BitVec 8) ∧ (0 : BitVec 8) = (0 : BitVec 8) ∧ (0 : BitVec 8) = (0 : BitVec 8) ∧ (0 : BitVec 8) = (0 : BitVec 8) ∧ (0 : BitVec 8) = (0 : BitVec 8) ∧ (0 : BitVec 8) = (0 : BitVec 8) ∧ (0 : BitVec 8) = (0 : BitVec 8) ∧ (0 : BitVec 8) = (0 : BitVec 8) ∧ (0 : BitVec 8) = (0 : BitVec 8) ∧ (0 : BitVec 8) = (0 : BitVec 8) ∧ (0 : BitVec 8) = (0 : BitVec 8) ∧ (0 : BitVec 8) = (0 : BitVec 8) ∧ (0 : BitVec 8) = (0 : BitVec 8) ∧ shaPad b = shaPad b ∧ x5 ∧ x8 ∧ x6 ∧ x2 ∧ x3 ∧ x1_2 ∧ x4_1 ∧ x7 ∧ 64 = 64 ∧ (∀ (y : Nat), y < 64 → datas Bool.false [AV.u32 (shaK.getD y (0 : W32))] = Bool.true ∧ [AV.u32 (shaK.getD y (0 : W32))] = [AV.u32 (shaK.getD y (0 : W32))]) ∧ 64 = 64 ∧ (∀ (y_1 : Nat), y_1 < 64 → datas Bool.false [AV.u32 (if y_1 < y then sch (refBlk b x) y_1 else (0 : BitVec 32))] = Bool.true ∧ (bif y_1 == (↑x_1 : Int).toNat then [AV.u32 ((((x2_1 >>> 17 ||| x2_1 <<< 15) ^^^ (x2_1 >>> 19 ||| x2_1 <<< 13) ^^^ x2_1 >>> 10) + if (IntKind.i64.wrap ((↑x_1 : Int) - (7 : Int))).toNat < x_1 then sch (refBlk b x) (IntKind.i64.wrap ((↑x_1 : Int) - (7 : Int))).toNat else (0 : BitVec 32)) + ((x1 >>> 7 ||| x1 <<< 25) ^^^ (x1 >>> 18 ||| x1 <<< 14) ^^^ x1 >>> 3) + if (IntKind.i64.wrap ((↑x_1 : Int) - (16 : Int))).toNat < x_1 then sch (refBlk b x) (IntKind.i64.wrap ((↑x_1 : Int) - (16 : Int))).toNat else (0 : BitVec 32))] else [AV.u32 (if y_1 < x_1 then sch (refBlk b x) y_1 else (0 : BitVec 32))]) = [AV.u32 (if y_1 < y then sch (refBlk b x) y_1 else (0 : BitVec 32))]) ∧ True) ((∃ (x_2 : Nat), x_2.le 4 ∧ 0 = 0 ∧ Bool.false = Bool.false ∧ 0 = 0 ∧ 0 = 0 ∧ 0 = 0 ∧ List.length (shaPad b) = List.length (shaPad b) ∧ 0 = 0 ∧ 0 = 0 ∧ x9 ∧ 0 = 0 ∧ (↑x_1 : Int) = (↑x_1 : Int) ∧ (↑x_2 : Int) = (0 : Int) ∧ (0 : BitVec 8) = (0 : BitVec 8) ∧ (0 : BitVec 8) = (0 : BitVec 8) ∧ (0 : BitVec 8) = (0 : BitVec 8) ∧ (0 : BitVec 8) = (0 : BitVec 8) ∧ (0 : BitVec 8) = (0 : BitVec 8) ∧ (0 : BitVec 8) = (0 : BitVec 8) ∧ (0 : BitVec 8) = (0 : BitVec 8) ∧ (0 : BitVec 8) = (0 : BitVec 8) ∧ (0 : BitVec 8) = (0 : BitVec 8) ∧ (0 : BitVec 8) = (0 : BitVec 8) ∧ (0 : BitVec 8) = (0 : BitVec 8) ∧ (0 : BitVec 8) = (0 : BitVec 8) ∧ (0 : BitVec 8) = (0 : BitVec 8) ∧ (0 : BitVec 8) = (0 : BitVec 8) ∧ (0 : BitVec 8) = (0 : BitVec 8) ∧ (0 : BitVec 8) = (0 : BitVec 8) ∧ (0 : BitVec 8) = (0 : BitVec 8) ∧ (0 : BitVec 8) = (0 : BitVec 8) ∧ (0 : BitVec 8) = (0 : BitVec 8) ∧ (0 : BitVec 8) = (0 : BitVec 8) ∧ (0 : BitVec 8) = (0 : BitVec 8) ∧ (0 : BitVec 8) = (0 : BitVec 8) ∧ (0 : BitVec 8) = (0 : BitVec 8) ∧ (0 : BitVec 8) = (0 : BitVec 8) ∧ (0 : BitVec 8) = (0 : BitVec 8) ∧ (0 : BitVec 8) = (0 : BitVec 8) ∧ (0 : BitVec 8) = (0 : BitVec 8) ∧ (0 : BitVec 8) = (0 : BitVec 8) ∧ (0 : BitVec 8) = (0 : BitVec 8) ∧ (0 : BitVec 8) = (0 : BitVec 8) ∧ (0 : BitVec 8) = (0 : BitVec 8) ∧ (0 : BitVec 8) = (0 : BitVec 8) ∧ shaPad b = shaPad b ∧ x5 ∧ x8 ∧ x6 ∧ x2 ∧ x3 ∧ x1_2 ∧ x4_1 ∧ x7 ∧ 64 = 64 ∧ (∀ (y : Nat), y < 64 → datas Bool.false [AV.u32 (shaK.getD y (0 : W32))] = Bool.true ∧ [AV.u32 (shaK.getD y (0 : W32))] = [AV.u32 (shaK.getD y (0 : W32))]) ∧ 64 = 64 ∧ (∀ (y : Nat), y < 64 → datas Bool.false [AV.u32 (if y < x_1 then sch (refBlk b x) y else if y = x_1 then partW (refBlk b x) x_1 x_2 else (0 : BitVec 32))] = Bool.true ∧ [AV.u32 (if y < x_1 then sch (refBlk b x) y else (0 : BitVec 32))] = [AV.u32 (if y < x_1 then sch (refBlk b x) y else if y = x_1 then partW (refBlk b x) x_1 x_2 else (0 : BitVec 32))]) ∧ True) ∧ ∀ (x_2 : Nat), x_2.le 4 → @Bool.rec (fun _ => Prop) (∃ (y : Nat), 64 - y < 64 - x_1 ∧ y.le 64 ∧ 0 = 0 ∧ Bool.false = Bool.false ∧ 0 = 0 ∧ 0 = 0 ∧ 0 = 0 ∧ List.length (shaPad b) = List.length (shaPad b) ∧ 0 = 0 ∧ 0 = 0 ∧ x9 ∧ 0 = 0 ∧ (↑y : Int) = IntKind.i64.wrap ((↑x_1 : Int) + (1 : Int)) ∧ (0 : BitVec 8) = (0 : BitVec 8) ∧ (0 : BitVec 8) = (0 : BitVec 8) ∧ (0 : BitVec 8) = (0 : BitVec 8) ∧ (0 : BitVec 8) = (0 : BitVec 8) ∧ (0 : BitVec 8) = (0 : BitVec 8) ∧ (0 : BitVec 8) = (0 : BitVec 8) ∧ (0 : BitVec 8) = (0 : BitVec 8) ∧ (0 : BitVec 8) = (0 : BitVec 8) ∧ (0 : BitVec 8) = (0 : BitVec 8) ∧ (0 : BitVec 8) = (0 : BitVec 8) ∧ (0 : BitVec 8) = (0 : BitVec 8) ∧ (0 : BitVec 8) = (0 : BitVec 8) ∧ (0 : BitVec 8) = (0 : BitVec 8) ∧ (0 : BitVec 8) = (0 : BitVec 8) ∧ (0 : BitVec 8) = (0 : BitVec 8) ∧ (0 : BitVec 8) = (0 : BitVec 8) ∧ (0 : BitVec 8) = (0 : BitVec 8) ∧ (0 : BitVec 8) = (0 : BitVec 8) ∧ (0 : BitVec 8) = (0 : BitVec 8) ∧ (0 : BitVec 8) = (0 : BitVec 8) ∧ (0 : BitVec 8) = (0 : BitVec 8) ∧ (0 : BitVec 8) = (0 : BitVec 8) ∧ (0 : BitVec 8) = (0 : BitVec 8) ∧ (0 : BitVec 8) = (0 : BitVec 8) ∧ (0 : BitVec 8) = (0 : BitVec 8) ∧ (0 : BitVec 8) = (0 : BitVec 8) ∧ (0 : BitVec 8) = (0 : BitVec 8) ∧ (0 : BitVec 8) = (0 : BitVec 8) ∧ (0 : BitVec 8) = (0 : BitVec 8) ∧ (0 : BitVec 8) = (0 : BitVec 8) ∧ (0 : BitVec 8) = (0 : BitVec 8) ∧ (0 : BitVec 8) = (0 : BitVec 8) ∧ shaPad b = shaPad b ∧ x5 ∧ x8 ∧ x6 ∧ x2 ∧ x3 ∧ x1_2 ∧ x4_1 ∧ x7 ∧ 64 = 64 ∧ (∀ (y : Nat), y < 64 → datas Bool.false [AV.u32 (shaK.getD y (0 : W32))] = Bool.true ∧ [AV.u32 (shaK.getD y (0 : W32))] = [AV.u32 (shaK.getD y (0 : W32))]) ∧ 64 = 64 ∧ (∀ (y_1 : Nat), y_1 < 64 → datas Bool.false [AV.u32 (if y_1 < y then sch (refBlk b x) y_1 else (0 : BitVec 32))] = Bool.true ∧ [AV.u32 (if y_1 < x_1 then sch (refBlk b x) y_1 else if y_1 = x_1 then partW (refBlk b x) x_1 x_2 else (0 : BitVec 32))] = [AV.u32 (if y_1 < y then sch (refBlk b x) y_1 else (0 : BitVec 32))]) ∧ True) ((0 : Int) ≤ (↑x_1 : Int) ∧ (↑x_1 : Int).toNat < 64 ∧ (↑x_1 : Int).toNat < 64 ∧ True ∧ (0 : Int) ≤ IntKind.i64.wrap (x3_1 + (↑x_2 : Int)) ∧ (IntKind.i64.wrap (x3_1 + (↑x_2 : Int))).toNat < List.length (shaPad b) ∧ (IntKind.i64.wrap (x3_1 + (↑x_2 : Int))).toNat < List.length (shaPad b) ∧ (0 : Int) ≤ (↑x_1 : Int) ∧ (↑x_1 : Int).toNat < 64 ∧ (↑x_1 : Int).toNat < 64 ∧ [AV.u32 (if (↑x_1 : Int).toNat < x_1 then sch (refBlk b x) (↑x_1 : Int).toNat else if (↑x_1 : Int).toNat = x_1 then partW (refBlk b x) x_1 x_2 else (0 : BitVec 32))].length = 1 ∧ ∃ (y : Nat), 4 - y < 4 - x_2 ∧ y.le 4 ∧ 0 = 0 ∧ Bool.false = Bool.false ∧ 0 = 0 ∧ 0 = 0 ∧ 0 = 0 ∧ List.length (shaPad b) = List.length (shaPad b) ∧ 0 = 0 ∧ 0 = 0 ∧ x9 ∧ 0 = 0 ∧ (↑x_1 : Int) = (↑x_1 : Int) ∧ (↑y : Int) = IntKind.i64.wrap ((↑x_2 : Int) + (1 : Int)) ∧ (0 : BitVec 8) = (0 : BitVec 8) ∧ (0 : BitVec 8) = (0 : BitVec 8) ∧ (0 : BitVec 8) = (0 : BitVec 8) ∧ (0 : BitVec 8) = (0 : BitVec 8) ∧ (0 : BitVec 8) = (0 : BitVec 8) ∧ (0 : BitVec 8) = (0 : BitVec 8) ∧ (0 : BitVec 8) = (0 : BitVec 8) ∧ (0 : BitVec 8) = (0 : BitVec 8) ∧ (0 : BitVec 8) = (0 : BitVec 8) ∧ (0 : BitVec 8) = (0 : BitVec 8) ∧ (0 : BitVec 8) = (0 : BitVec 8) ∧ (0 : BitVec 8) = (0 : BitVec 8) ∧ (0 : BitVec 8) = (0 : BitVec 8) ∧ (0 : BitVec 8) = (0 : BitVec 8) ∧ (0 : BitVec 8) = (0 : BitVec 8) ∧ (0 : BitVec 8) = (0 : BitVec 8) ∧ (0 : BitVec 8) = (0 : BitVec 8) ∧ (0 : BitVec 8) = (0 : BitVec 8) ∧ (0 : BitVec 8) = (0 : BitVec 8) ∧ (0 : BitVec 8) = (0 : BitVec 8) ∧ (0 : BitVec 8) = (0 : BitVec 8) ∧ (0 : BitVec 8) = (0 : BitVec 8) ∧ (0 : BitVec 8) = (0 : BitVec 8) ∧ (0 : BitVec 8) = (0 : BitVec 8) ∧ (0 : BitVec 8) = (0 : BitVec 8) ∧ (0 : BitVec 8) = (0 : BitVec 8) ∧ (0 : BitVec 8) = (0 : BitVec 8) ∧ (0 : BitVec 8) = (0 : BitVec 8) ∧ (0 : BitVec 8) = (0 : BitVec 8) ∧ (0 : BitVec 8) = (0 : BitVec 8) ∧ (0 : BitVec 8) = (0 : BitVec 8) ∧ (0 : BitVec 8) = (0 : BitVec 8) ∧ shaPad b = shaPad b ∧ x5 ∧ x8 ∧ x6 ∧ x2 ∧ x3 ∧ x1_2 ∧ x4_1 ∧ x7 ∧ 64 = 64 ∧ (∀ (y : Nat), y < 64 → datas Bool.false [AV.u32 (shaK.getD y (0 : W32))] = Bool.true ∧ [AV.u32 (shaK.getD y (0 : W32))] = [AV.u32 (shaK.getD y (0 : W32))]) ∧ 64 = 64 ∧ (∀ (y_1 : Nat), y_1 < 64 → datas Bool.false [AV.u32 (if y_1 < x_1 then sch (refBlk b x) y_1 else if y_1 = x_1 then partW (refBlk b x) x_1 y else (0 : BitVec 32))] = Bool.true ∧ (bif y_1 == (↑x_1 : Int).toNat then [AV.u32 ((if (↑x_1 : Int).toNat < x_1 then sch (refBlk b x) (↑x_1 : Int).toNat else if (↑x_1 : Int).toNat = x_1 then partW (refBlk b x) x_1 x_2 else (0 : BitVec 32)) * BitVec.ofNat 32 256 + BitVec.setWidth 32 (List.getD (shaPad b) (IntKind.i64.wrap (x3_1 + (↑x_2 : Int))).toNat (0 : BitVec 8)))] else [AV.u32 (if y_1 < x_1 then sch (refBlk b x) y_1 else if y_1 = x_1 then partW (refBlk b x) x_1 x_2 else (0 : BitVec 32))]) = [AV.u32 (if y_1 < x_1 then sch (refBlk b x) y_1 else if y_1 = x_1 then partW (refBlk b x) x_1 y else (0 : BitVec 32))]) ∧ True) (decide ((↑x_2 : Int) < (4 : Int)))) (decide ((↑x_1 : Int) < (16 : Int)))) (decide ((↑x_1 : Int) < (64 : Int)))) (decide ((↑(64 * x) : Int) < (↑(List.length (shaPad b)) : Int)))) ((0 : Int) ≤ IntKind.i64.wrap ((8 : Int) * ((7 : Int) - (↑x : Int))) ∧ 1 = x1_1.length ∧ List.length b + 1 + zc (List.length b) + x = List.length x2 ∧ roomFor (List.length b + 1 + zc (List.length b) + x) x1_1.length 1 ∧ ∃ (y : Nat), 8 - y < 8 - x ∧ y.le 8 ∧ 0 = 0 ∧ Bool.false = (Bool.false && decide (x1_1.length = 0)) ∧ 0 = 0 ∧ 0 = 0 ∧ 0 = 0 ∧ List.length b + 1 + zc (List.length b) + y = List.length b + 1 + zc (List.length b) + x + x1_1.length ∧ x3 = x3 ∧ (7 : Int) - (↑y : Int) = IntKind.i64.wrap ((7 : Int) - (↑x : Int) - (1 : Int)) ∧ (0 : BitVec 8) = (0 : BitVec 8) ∧ (0 : BitVec 8) = (0 : BitVec 8) ∧ (0 : BitVec 8) = (0 : BitVec 8) ∧ (0 : BitVec 8) = (0 : BitVec 8) ∧ (0 : BitVec 8) = (0 : BitVec 8) ∧ (0 : BitVec 8) = (0 : BitVec 8) ∧ (0 : BitVec 8) = (0 : BitVec 8) ∧ (0 : BitVec 8) = (0 : BitVec 8) ∧ (0 : BitVec 8) = (0 : BitVec 8) ∧ (0 : BitVec 8) = (0 : BitVec 8) ∧ (0 : BitVec 8) = (0 : BitVec 8) ∧ (0 : BitVec 8) = (0 : BitVec 8) ∧ (0 : BitVec 8) = (0 : BitVec 8) ∧ (0 : BitVec 8) = (0 : BitVec 8) ∧ (0 : BitVec 8) = (0 : BitVec 8) ∧ (0 : BitVec 8) = (0 : BitVec 8) ∧ (0 : BitVec 8) = (0 : BitVec 8) ∧ (0 : BitVec 8) = (0 : BitVec 8) ∧ (0 : BitVec 8) = (0 : BitVec 8) ∧ (0 : BitVec 8) = (0 : BitVec 8) ∧ (0 : BitVec 8) = (0 : BitVec 8) ∧ (0 : BitVec 8) = (0 : BitVec 8) ∧ (0 : BitVec 8) = (0 : BitVec 8) ∧ (0 : BitVec 8) = (0 : BitVec 8) ∧ (0 : BitVec 8) = (0 : BitVec 8) ∧ (0 : BitVec 8) = (0 : BitVec 8) ∧ (0 : BitVec 8) = (0 : BitVec 8) ∧ (0 : BitVec 8) = (0 : BitVec 8) ∧ (0 : BitVec 8) = (0 : BitVec 8) ∧ (0 : BitVec 8) = (0 : BitVec 8) ∧ (0 : BitVec 8) = (0 : BitVec 8) ∧ (0 : BitVec 8) = (0 : BitVec 8) ∧ b ++ BitVec.ofNat 8 128 :: (List.replicate (zc (List.length b)) (BitVec.ofNat 8 0) ++ List.take y (count8 x3)) = x2 ++ x1_1 ∧ True) (decide ((0 : Int) ≤ (7 : Int) - (↑x : Int)))) (1 = 1 ∧ List.length b + 1 + x = List.length (b ++ BitVec.ofNat 8 128 :: List.replicate x (0 : BitVec 8)) ∧ roomFor (List.length b + 1 + x) 1 1 ∧ ∃ (y : Nat), 64 - y < 64 - x ∧ y.le (zc (List.length b)) ∧ b = b ∧ 0 = 0 ∧ Bool.false = Bool.false ∧ 0 = 0 ∧ 0 = 0 ∧ 0 = 0 ∧ List.length b + 1 + y = List.length b + 1 + x + 1 ∧ (0 : BitVec 8) = (0 : BitVec 8) ∧ (0 : BitVec 8) = (0 : BitVec 8) ∧ (0 : BitVec 8) = (0 : BitVec 8) ∧ (0 : BitVec 8) = (0 : BitVec 8) ∧ (0 : BitVec 8) = (0 : BitVec 8) ∧ (0 : BitVec 8) = (0 : BitVec 8) ∧ (0 : BitVec 8) = (0 : BitVec 8) ∧ (0 : BitVec 8) = (0 : BitVec 8) ∧ (0 : BitVec 8) = (0 : BitVec 8) ∧ (0 : BitVec 8) = (0 : BitVec 8) ∧ (0 : BitVec 8) = (0 : BitVec 8) ∧ (0 : BitVec 8) = (0 : BitVec 8) ∧ (0 : BitVec 8) = (0 : BitVec 8) ∧ (0 : BitVec 8) = (0 : BitVec 8) ∧ (0 : BitVec 8) = (0 : BitVec 8) ∧ (0 : BitVec 8) = (0 : BitVec 8) ∧ (0 : BitVec 8) = (0 : BitVec 8) ∧ (0 : BitVec 8) = (0 : BitVec 8) ∧ (0 : BitVec 8) = (0 : BitVec 8) ∧ (0 : BitVec 8) = (0 : BitVec 8) ∧ (0 : BitVec 8) = (0 : BitVec 8) ∧ (0 : BitVec 8) = (0 : BitVec 8) ∧ (0 : BitVec 8) = (0 : BitVec 8) ∧ (0 : BitVec 8) = (0 : BitVec 8) ∧ (0 : BitVec 8) = (0 : BitVec 8) ∧ (0 : BitVec 8) = (0 : BitVec 8) ∧ (0 : BitVec 8) = (0 : BitVec 8) ∧ (0 : BitVec 8) = (0 : BitVec 8) ∧ (0 : BitVec 8) = (0 : BitVec 8) ∧ (0 : BitVec 8) = (0 : BitVec 8) ∧ (0 : BitVec 8) = (0 : BitVec 8) ∧ (0 : BitVec 8) = (0 : BitVec 8) ∧ b ++ BitVec.ofNat 8 128 :: List.replicate y (0 : BitVec 8) = b ++ BitVec.ofNat 8 128 :: List.replicate x (0 : BitVec 8) ++ [BitVec.ofNat 8 0] ∧ True) !decide ((↑(List.length b + 1 + x) : Int).tmod (64 : Int) = (56 : Int)) : Prop) := by kernel_rfl
end Go.Sym
