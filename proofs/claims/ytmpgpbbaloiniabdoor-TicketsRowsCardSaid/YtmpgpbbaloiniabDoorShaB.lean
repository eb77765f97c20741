/- The same: sums, sums under keys, by the program and by the document; and what the card ties. -/
import Derived.Test.YtmpgpbbaloiniabDoorShaA
import Derived.Test.YtmpgpbbaloiniabDoorRows
import Derived.Test.YtmpgpbbaloiniabDoorCards
import Derived.Test.YtmpgpbbaloiniabDoorTie
import Derived.WalkKit
import Derived.ProofKit
import Derived.OpenShut
import Derived.ChangeOld
import Derived.Below
import Derived.Carry
import Derived.LaidMore
import Derived.Stop.Joined
import Derived.SevenTiedAt
namespace Go.Spec
theorem st8_blocks {v : Nat → W32} (hv : ∀ i, 8 ≤ i → v i = 0) (l : By) (j : Nat) : st8 (blocks v l j 0) (blocks v l j 1) (blocks v l j 2) (blocks v l j 3) (blocks v l j 4) (blocks v l j 5) (blocks v l j 6) (blocks v l j 7) = blocks v l j := st8_eta (blocks_end hv l j)
theorem blocks_take (v : Nat → W32) (l : By) (m : Nat) : ∀ k, 64 * k ≤ m → blocks v (l.take m) k = blocks v l k
  | 0, _ => rfl
  | k + 1, h => by
    simp only [blocks]
    rw [blocks_take v l m k (by omega), List.drop_take, List.take_take, Nat.min_eq_left (by omega)]
theorem tail_sets (r : By) (e : Nat) (a : BitVec 8) (c : Nat → BitVec 8) (he : r.length + 9 ≤ e) (he2 : e ≤ 128) :
    ((((((((((r ++ List.replicate (128 - r.length) 0#8).set r.length a).set (e - 1) (c 0)).set (e - 2) (c 1)).set (e - 3) (c 2)).set (e - 4) (c 3)).set (e - 5) (c 4)).set (e - 6) (c 5)).set (e - 7) (c 6)).set (e - 8) (c 7)).take e =
      r ++ (a :: (List.replicate (e - r.length - 9) 0#8 ++ [c 7, c 6, c 5, c 4, c 3, c 2, c 1, c 0])) := by
  apply List.ext_getElem?
  intro k
  simp only [List.getElem?_take, List.getElem?_set, List.length_set, List.length_append, List.length_replicate]
  by_cases hk : k < e
  · rw [if_pos hk]
    by_cases h1 : k < r.length
    · rw [List.getElem?_append_left h1, List.getElem?_append_left h1]
      simp (disch := omega) only [if_neg]
    · conv => rhs; rw [List.getElem?_append_right (Nat.le_of_not_lt h1)]
      by_cases h2 : k = r.length
      · subst h2
        simp (disch := omega) only [if_neg, if_pos, Nat.sub_self, List.getElem?_cons_zero, if_true]
      · obtain ⟨q, rfl⟩ : ∃ q, k = r.length + 1 + q := ⟨k - r.length - 1, by omega⟩
        rw [show r.length + 1 + q - r.length = q + 1 by omega, List.getElem?_cons_succ]
        by_cases h3 : q < e - r.length - 9
        · conv => rhs; rw [List.getElem?_append_left (by simp; omega)]
          conv => lhs; simp (disch := omega) only [if_neg]
          rw [List.getElem?_append_right (by omega)]
          simp (disch := omega) only [List.getElem?_replicate, if_pos]
        · conv => rhs; rw [List.getElem?_append_right (by simp; omega)]
          simp only [List.length_replicate]
          obtain ⟨p, hp⟩ : ∃ p, q = e - r.length - 9 + p := ⟨q - (e - r.length - 9), by omega⟩
          have hp8 : p < 8 := by omega
          rw [show q - (e - r.length - 9) = p by omega]
          have : r.length + 1 + q = e - 8 + p := by omega
          rw [this]
          match p, hp8 with
          | 0, _ => (rw [if_pos (by omega), if_pos (by omega)]; rfl)
          | 1, _ => (rw [if_neg (by omega), if_pos (by omega), if_pos (by omega)]; rfl)
          | 2, _ => (rw [if_neg (by omega), if_neg (by omega), if_pos (by omega), if_pos (by omega)]; rfl)
          | 3, _ => (rw [if_neg (by omega), if_neg (by omega), if_neg (by omega), if_pos (by omega), if_pos (by omega)]; rfl)
          | 4, _ => (rw [if_neg (by omega), if_neg (by omega), if_neg (by omega), if_neg (by omega), if_pos (by omega), if_pos (by omega)]; rfl)
          | 5, _ => (rw [if_neg (by omega), if_neg (by omega), if_neg (by omega), if_neg (by omega), if_neg (by omega), if_pos (by omega), if_pos (by omega)]; rfl)
          | 6, _ => (rw [if_neg (by omega), if_neg (by omega), if_neg (by omega), if_neg (by omega), if_neg (by omega), if_neg (by omega), if_pos (by omega), if_pos (by omega)]; rfl)
          | 7, _ => (rw [if_neg (by omega), if_neg (by omega), if_neg (by omega), if_neg (by omega), if_neg (by omega), if_neg (by omega), if_neg (by omega), if_pos (by omega), if_pos (by omega)]; rfl)
  · rw [if_neg hk, List.getElem?_eq_none]
    simp
    omega
theorem copy_base (r : By) (h : r.length < 64) : List.take 0 (List.replicate 128 (0 : BitVec 8)) ++ (List.take 128 r ++ List.drop (0 + r.length) (List.replicate 128 (0 : BitVec 8))) = r ++ List.replicate (128 - r.length) 0#8 := by
  rw [List.take_zero, List.nil_append, List.take_of_length_le (by omega), Nat.zero_add, List.drop_replicate]
  rfl
end Go.Spec

namespace Go.Sym
open Go.Proofs Go.Spec
set_option linter.unusedVariables false
set_option linter.unusedSimpArgs false
set_option maxRecDepth 100000 in
set_option maxHeartbeats 2000000 in
theorem b24 (v : Nat → W32) (hv : ∀ i, 8 ≤ i → v i = 0) (ah : BitVec 64) (b : By) (hb : b.length < 4611686018427387904) : Must (bodyP Tryd.prog (B3.withSym symFi) gl0 [] [(3, lsFi v ah b), (19, lsFi2 v ah b)] 3000 Tryd.f66 0 [agg8 v, .u64 ah, .rb false b .unk] [] (retQ Tryd.prog Tryd.f66 0 ⟨[], aggB 32 (outByte (shaSt v ah b)), [], []⟩)) := by
  constructor
  rw [vc24]
  set_option simprocs false in dsimp only
  refine ⟨⟨0, Nat.zero_le _, by simp [blocks]⟩, fun x hx => ?_⟩
  replace hx : 64 * x ≤ b.length := hx
  have ew : IntKind.i64.wrap ((b.length : Int) - ((64 * x : Nat) : Int)) = ((b.length - 64 * x : Nat) : Int) := wrap_nat _ (by omega) (by omega)
  refine brec (fun h => ?_) (fun h => ?_)
  · rw [ew] at h
    replace h : 64 * x + 64 ≤ b.length := by have := dle.1 h; omega
    have e1 : IntKind.i64.wrap (((64 * x : Nat) : Int) + 64) = ((64 * x + 64 : Nat) : Int) := wrap_nat _ (by omega) (by omega)
    have hd : List.drop (64 * x) (List.take (64 * x + 64) b) = List.take 64 (List.drop (64 * x) b) := by rw [List.drop_take]; congr 1; omega
    have hl : (List.take 64 (List.drop (64 * x) b)).length = 64 := by simp; omega
    simp only [e1, Int.toNat_natCast, st8_blocks hv, hd, hl, true_and, and_true, Int.natCast_nonneg]
    refine ⟨by omega, h, x + 1, by omega, h, ?_⟩
    simp only [blocks, true_and, and_true]
    omega
  · rw [ew] at h
    replace h : b.length < 64 * x + 64 := by have := ndle.1 h; omega
    obtain rfl : x = b.length / 64 := by omega
    clear ew
    have hr : List.drop (64 * (b.length / 64)) b = rest64 b := rfl
    have hrl : (rest64 b).length < 64 := by simp [rest64]; omega
    simp only [Int.toNat_natCast, hr, Nat.min_eq_left (show (rest64 b).length ≤ 128 by omega), copy_base (rest64 b) hrl]
    have e1 : IntKind.i64.wrap (((rest64 b).length : Int) + 1) = (((rest64 b).length + 1 : Nat) : Int) := wrap_nat _ (by omega) (by omega)
    have e2 : IntKind.i64.wrap ((((rest64 b).length + 1 : Nat) : Int) + 8) = (((rest64 b).length + 9 : Nat) : Int) := wrap_nat _ (by omega) (by omega)
    simp only [e1, e2]
    refine ⟨by omega, hx, by omega, by omega, by omega, ?_, ?_⟩
    · simp; omega
    have hL : (rest64 b).length + (128 - (rest64 b).length) = 128 := by omega
    have hof : BitVec.ofInt 64 (b.length : Int) = BitVec.ofNat 64 b.length := by simp
    have last : ∀ x : Nat × By, x.2.length = 128 ∧ x.2.take (tailEnd (rest64 b).length) = padTail ah b ∧ 64 * x.1 ≤ tailEnd (rest64 b).length → ((tailEnd (rest64 b).length : Nat) : Int) ≤ ((64 * x.1 : Nat) : Int) → shaSt v ah b = tailSt v b x.2 x.1 := by
      intro x h1 h2
      have : 64 * x.1 = tailEnd (rest64 b).length := by omega
      unfold shaSt tailSt
      rw [← h1.2.1, blocks_take _ _ _ _ (by omega)]
      congr 1
      omega
    have he64 : tailEnd (rest64 b).length = 64 ∨ tailEnd (rest64 b).length = 128 := by unfold tailEnd; split <;> simp
    have hts : ∀ x : Nat × By, st8 (tailSt v b x.2 x.1 0) (tailSt v b x.2 x.1 1) (tailSt v b x.2 x.1 2) (tailSt v b x.2 x.1 3) (tailSt v b x.2 x.1 4) (tailSt v b x.2 x.1 5) (tailSt v b x.2 x.1 6) (tailSt v b x.2 x.1 7) = tailSt v b x.2 x.1 := fun x => st8_eta (blocks_end (blocks_end hv _ _) _ _)
    have take : ∀ e, tailEnd (rest64 b).length = e → (rest64 b).length + 9 ≤ e → e ≤ 128 → List.take e ((((((((((rest64 b ++ List.replicate (128 - (rest64 b).length) 0#8).set (rest64 b).length 128#8).set (e - 1) (BitVec.setWidth 8 ((8#64 * (ah + BitVec.ofInt 64 (b.length : Int))) >>> 0))).set (e - 2) (BitVec.setWidth 8 ((8#64 * (ah + BitVec.ofInt 64 (b.length : Int))) >>> 8))).set (e - 3) (BitVec.setWidth 8 ((8#64 * (ah + BitVec.ofInt 64 (b.length : Int))) >>> 16))).set (e - 4) (BitVec.setWidth 8 ((8#64 * (ah + BitVec.ofInt 64 (b.length : Int))) >>> 24))).set (e - 5) (BitVec.setWidth 8 ((8#64 * (ah + BitVec.ofInt 64 (b.length : Int))) >>> 32))).set (e - 6) (BitVec.setWidth 8 ((8#64 * (ah + BitVec.ofInt 64 (b.length : Int))) >>> 40))).set (e - 7) (BitVec.setWidth 8 ((8#64 * (ah + BitVec.ofInt 64 (b.length : Int))) >>> 48))).set (e - 8) (BitVec.setWidth 8 ((8#64 * (ah + BitVec.ofInt 64 (b.length : Int))) >>> 56))) = padTail ah b := by
      intro e he h1 h2
      rw [hof]
      refine (tail_sets (rest64 b) e 128#8 (fun i => BitVec.setWidth 8 ((8#64 * (ah + BitVec.ofNat 64 b.length)) >>> (8 * i))) h1 h2).trans ?_
      unfold padTail
      rw [he]
      rfl
    have fin : ∀ x : Nat × By, (x.2.length = 128 ∧ x.2.take (tailEnd (rest64 b).length) = padTail ah b ∧ 64 * x.1 ≤ tailEnd (rest64 b).length) → ((64 * x.1 : Nat) : Int) < (tailEnd (rest64 b).length : Nat) → IntKind.i64.wrap (((64 * x.1 : Nat) : Int) + 64) = ((64 * x.1 + 64 : Nat) : Int) ∧ 64 * x.1 + 64 ≤ tailEnd (rest64 b).length := by
      intro x h1 h2
      have : 64 * x.1 < tailEnd (rest64 b).length := by omega
      exact ⟨wrap_nat _ (by omega) (by omega), by omega⟩
    have stepE : ∀ (x : Nat × By), minus (64 * x.1 + 64) (64 * x.1) = 64 := fun x => by rw [minus_eq]; omega
    have stepD : ∀ (x : Nat × By), dropN (0 + 64 * x.1) x.2 = x.2.drop (64 * x.1) := fun x => by rw [dropN_eq, Nat.zero_add]
    refine brec (fun h => ?_) (fun h => ?_)
    · replace h : 64 < (rest64 b).length + 9 := by have := dlt.1 h; omega
      have he : tailEnd (rest64 b).length = 128 := by unfold tailEnd; rw [if_pos h]
      simp (decide := true) only [List.length_set, List.length_append, List.length_replicate, hL, true_and, and_true, hts]
      refine ⟨⟨(0, _), ⟨?_, ?_, by omega⟩, by omega, by omega, rfl, rfl, rfl, rfl, rfl, rfl, rfl, rfl, rfl⟩, fun x hx => ?_⟩
      · simp only [List.length_set, List.length_append, List.length_replicate, hL]
      · rw [he]
        exact take 128 he (by omega) (by omega)
      refine brec (fun h2 => ?_) (fun h2 => ?_)
      · obtain ⟨w1, w2⟩ := fin x hx (dlt.1 h2)
        simp only [w1, Int.toNat_natCast, stepE, stepD, true_and, and_true, Int.natCast_nonneg]
        have hl : (List.take 64 (List.drop (64 * x.1) x.2)).length = 64 := by simp; omega
        refine ⟨by omega, by omega, by omega, hl, (x.1 + 1, x.2), by show 4 - (x.1 + 1) < _; omega, ⟨hx.1, hx.2.1, w2⟩, ?_⟩
        simp only [tailSt, blocks, true_and, and_true]
        omega
      · rw [last x hx (ndlt.1 h2)]
        simp only [true_and]
    · replace h : ¬ 64 < (rest64 b).length + 9 := by have := ndlt.1 h; omega
      have he : tailEnd (rest64 b).length = 64 := by unfold tailEnd; rw [if_neg h]
      simp (decide := true) only [List.length_set, List.length_append, List.length_replicate, hL, true_and, and_true, hts]
      refine ⟨⟨(0, _), ⟨?_, ?_, by omega⟩, by omega, by omega, rfl, rfl, rfl, rfl, rfl, rfl, rfl, rfl, rfl⟩, fun x hx => ?_⟩
      · simp only [List.length_set, List.length_append, List.length_replicate, hL]
      · rw [he]
        exact take 64 he (by omega) (by omega)
      refine brec (fun h2 => ?_) (fun h2 => ?_)
      · obtain ⟨w1, w2⟩ := fin x hx (dlt.1 h2)
        simp only [w1, Int.toNat_natCast, stepE, stepD, true_and, and_true, Int.natCast_nonneg]
        have hl : (List.take 64 (List.drop (64 * x.1) x.2)).length = 64 := by simp; omega
        refine ⟨by omega, by omega, by omega, hl, (x.1 + 1, x.2), by show 4 - (x.1 + 1) < _; omega, ⟨hx.1, hx.2.1, w2⟩, ?_⟩
        simp only [tailSt, blocks, true_and, and_true]
        omega
      · rw [last x hx (ndlt.1 h2)]
        simp only [true_and]
end Go.Sym

namespace Go.Sym
open Go.Proofs Go.Spec
set_option linter.unusedVariables false
theorem c24 : COK Tryd.prog gl0 66 (mkF spFi) := by
  refine ctrE (fn := Tryd.f66) [] 3000 (by kernel_rfl) (by kernel_rfl) (okB3.withSym symFi) (by kernel_rfl) (fun args w => by kernel_rfl) ?_
  intro xs bs r hs ho
  simp only [spFi, gFi] at hs
  split at hs
  · rename_i cs ah l
    split at hs
    · rename_i a b c d e f g h hr
      simp only [TL.sel, Option.some.injEq] at hs
      subst hs
      rw [rd32_len hr]
      exact ⟨_, b24 _ (st8_end a b c d e f g h) ah l (obsT_one.1 ho)⟩
    · simp [TL.sel] at hs
  · simp [TL.sel] at hs
noncomputable def B4 : Ctx := B3.add 66 (mkF spFi)
theorem okB4 : COKs Tryd.prog gl0 B4 := okB3.add c24
noncomputable def gSu (xs : List AV) (bs : List ABlk) : TL := match xs, bs with
  | [.rb false l .unk], [] => .ok ⟨[l.length < 4611686018427387904], aggB 32 (shaB l), [], []⟩
  | _, _ => .no
noncomputable def spSu : Spec := ⟨[.by0], fun _ _ => [], fun _ _ => [], gSu⟩
theorem vc13 (b : By) : bodyP Tryd.prog B4 gl0 [0] [] 3000 Tryd.f52 0 [.rb false b .unk] [] (retQ Tryd.prog Tryd.f52 0 ⟨[], aggB 32 (shaU b), [], []⟩) = (b.length < 4611686018427387904 ∧ allRefl (shaU b) 0 32) := by kernel_rfl
theorem b13 (b : By) (h : b.length < 4611686018427387904) : Must (bodyP Tryd.prog B4 gl0 [0] [] 3000 Tryd.f52 0 [.rb false b .unk] [] (retQ Tryd.prog Tryd.f52 0 ⟨[], aggB 32 (shaU b), [], []⟩)) := by
  constructor
  rw [vc13]
  exact ⟨h, allRefl_true _ _ _⟩
theorem c13 : COK Tryd.prog gl0 52 (mkF spSu) := by
  refine ctrE (fn := Tryd.f52) [0] 3000 (by kernel_rfl) (by kernel_rfl) okB4 (by kernel_rfl) (fun args w => by kernel_rfl) ?_
  intro xs bs r hs ho
  simp only [spSu, gSu] at hs
  split at hs
  · simp only [TL.sel, Option.some.injEq] at hs
    subst hs
    rw [shaB_eq]
    exact ⟨_, b13 _ (obsT_one.1 ho)⟩
  · simp [TL.sel] at hs
noncomputable def B5 : Ctx := B4.add 52 (mkF spSu)
theorem okB5 : COKs Tryd.prog gl0 B5 := okB4.add c13
def lsSm (a b : By) : LS := ⟨Nat, fun i => [(1, .rb false b .unk), (5, .u8 (orD a b i)), (13, .rb false a .unk), (14, .int .i64 a.length), (15, .int .i64 i)], fun _ => [], 100, fun i => a.length - i, fun i => i ≤ a.length, fun _ => []⟩
noncomputable def gSm (xs : List AV) (bs : List ABlk) : TL := match xs, bs with
  | [.rb false a .unk, .rb false b .unk], [] => .ok ⟨[a.length < 4611686018427387904], .bool (sameB a b), [], []⟩
  | _, _ => .no
noncomputable def spSm : Spec := ⟨[.by0, .by0], fun _ _ => [], fun _ _ => [], gSm⟩
noncomputable def lsPd (key : By) (pad : BitVec 8) : LS := ⟨Nat, fun i => [(1, .u8 pad), (4, .ptr 100 0 0 0), (5, .ptr 101 0 0 0), (19, .int .i64 i)],
  fun i => [(100, ⟨.cells (List.replicate 8 (.u32 0)), true, 0⟩), (101, ⟨.bytes ((List.range 64).map fun k => if k < i then (macKey key).getD k 0 ^^^ pad else (macKey key).getD k 0), true, 0⟩), gblk gl0 0], 1000, fun i => 64 - i, fun i => i ≤ 64, fun _ => []⟩
noncomputable def gPd (xs : List AV) (bs : List ABlk) : TL := match xs, bs with
  | [.rb false key .unk, .u8 pad], [] => .ok ⟨[key.length < 4611686018427387904], agg8 (padSt key pad), [], []⟩
  | _, _ => .no
noncomputable def spPd : Spec := ⟨[.by0, .kp], fun _ _ => [], fun _ _ => [], gPd⟩
def symPd : List Nat := [5, 23, 27]
end Go.Sym

namespace Go.Sym
open Go.Proofs Go.Spec
set_option linter.unusedVariables false
set_option maxRecDepth 100000 in
theorem vc17 (a b : By) : bodyP Tryd.prog B5 gl0 [] [(6, lsSm a b)] 3000 Tryd.f65 0 [.rb false a .unk, .rb false b .unk] [] (retQ Tryd.prog Tryd.f65 0 ⟨[], .bool (decide (a = b)), [], []⟩) = (
Bool.rec ((∃ (x : Nat), x.le (List.length a) ∧ b = b ∧ orD a b x = BitVec.ofNat (8 : Nat) (0 : Nat) ∧ a = a ∧ (↑(List.length a) : Int) = (↑(List.length a) : Int) ∧ (↑x : Int) = (0 : Int) ∧ True) ∧ ∀ (x : Nat), x.le (List.length a) → Bool.rec (Decidable.decide (a = b) = Decidable.decide (orD a b x = BitVec.ofNat (8 : Nat) (0 : Nat)) ∧ True) ((0 : Int) ≤ (↑x : Int) ∧ (↑x : Int).toNat < List.length a ∧ (0 : Int) ≤ (↑x : Int) ∧ (↑x : Int).toNat < List.length b ∧ ∃ (y : Nat), List.length a - y < List.length a - x ∧ y.le (List.length a) ∧ b = b ∧ orD a b y = orD a b x ||| List.getD a (↑x : Int).toNat (0 : BitVec (8 : Nat)) ^^^ List.getD b (↑x : Int).toNat (0 : BitVec (8 : Nat)) ∧ a = a ∧ (↑(List.length a) : Int) = (↑(List.length a) : Int) ∧ (↑y : Int) = IntKind.i64.wrap ((↑x : Int) + (1 : Int)) ∧ True) (Decidable.decide ((↑x : Int) < (↑(List.length a) : Int)))) (Decidable.decide (a = b) = Bool.false ∧ True) !Decidable.decide ((↑(List.length a) : Int) = (↑(List.length b) : Int))) := by kernel_rfl
set_option maxRecDepth 100000 in
theorem vc28 (key : By) (pad : BitVec 8) : bodyP Tryd.prog (B5.withSym symPd) gl0 [0] [(8, lsPd key pad)] 3000 Tryd.f67 0 [.rb false key .unk, .u8 pad] [] (retQ Tryd.prog Tryd.f67 0 ⟨[], agg8 (padSt key pad), [], []⟩) = (
let x1 := st8 (BitVec.ofNat 32 1779033703) (BitVec.ofNat 32 3144134277) (BitVec.ofNat 32 1013904242) (BitVec.ofNat 32 2773480762) (BitVec.ofNat 32 1359893119) (BitVec.ofNat 32 2600822924) (BitVec.ofNat 32 528734635) (BitVec.ofNat 32 1541459225); let x2 := BitVec.ofNat 32 1779033703 = BitVec.ofNat 32 1779033703 ∧ BitVec.ofNat 32 3144134277 = BitVec.ofNat 32 3144134277 ∧ BitVec.ofNat 32 1013904242 = BitVec.ofNat 32 1013904242 ∧ BitVec.ofNat 32 2773480762 = BitVec.ofNat 32 2773480762 ∧ BitVec.ofNat 32 1359893119 = BitVec.ofNat 32 1359893119 ∧ BitVec.ofNat 32 2600822924 = BitVec.ofNat 32 2600822924 ∧ BitVec.ofNat 32 528734635 = BitVec.ofNat 32 528734635 ∧ BitVec.ofNat 32 1541459225 = BitVec.ofNat 32 1541459225 ∧ True; let x3 := [shaB key 0, shaB key 1, shaB key 2, shaB key 3, shaB key 4, shaB key 5, shaB key 6, shaB key 7, shaB key 8, shaB key 9, shaB key 10, shaB key 11, shaB key 12, shaB key 13, shaB key 14, shaB key 15, shaB key 16, shaB key 17, shaB key 18, shaB key 19, shaB key 20, shaB key 21, shaB key 22, shaB key 23, shaB key 24, shaB key 25, shaB key 26, shaB key 27, shaB key 28, shaB key 29, shaB key 30, shaB key 31]; let x4 := (0 : BitVec 32) = BitVec.ofNat 32 0; @Bool.rec (fun _ => Prop) (64 ≤ 64 ∧ (∃ (x : Nat), x.le 64 ∧ pad = pad ∧ 0 = 0 ∧ 0 = 0 ∧ (↑x : Int) = (0 : Int) ∧ x4 ∧ x4 ∧ x4 ∧ x4 ∧ x4 ∧ x4 ∧ x4 ∧ x4 ∧ List.map (fun (k : Nat) => if k < x then List.getD (macKey key) k (0 : BitVec 8) ^^^ pad else List.getD (macKey key) k (0 : BitVec 8)) (List.range 64) = List.take 0 (List.replicate 64 (0 : BitVec 8)) ++ (List.take 64 key ++ List.drop (0 + Min.min (List.length key) 64) (List.replicate 64 (0 : BitVec 8))) ∧ x2) ∧ ∀ (x : Nat), let x1_1 := List.map (fun (k : Nat) => if k < x then List.getD (macKey key) k (0 : BitVec 8) ^^^ pad else List.getD (macKey key) k (0 : BitVec 8)) (List.range 64); x.le 64 → @Bool.rec (fun _ => Prop) (64 ≤ x1_1.length ∧ (List.take 64 x1_1).length = 64 ∧ padSt key pad 0 = compress x1 (List.take 64 x1_1) 0 ∧ padSt key pad 1 = compress x1 (List.take 64 x1_1) 1 ∧ padSt key pad 2 = compress x1 (List.take 64 x1_1) 2 ∧ padSt key pad 3 = compress x1 (List.take 64 x1_1) 3 ∧ padSt key pad 4 = compress x1 (List.take 64 x1_1) 4 ∧ padSt key pad 5 = compress x1 (List.take 64 x1_1) 5 ∧ padSt key pad 6 = compress x1 (List.take 64 x1_1) 6 ∧ padSt key pad 7 = compress x1 (List.take 64 x1_1) 7 ∧ True) ((0 : Int) ≤ (↑x : Int) ∧ (↑x : Int).toNat < 64 ∧ (↑x : Int).toNat < x1_1.length ∧ (0 : Int) ≤ (↑x : Int) ∧ (↑x : Int).toNat < 64 ∧ (↑x : Int).toNat < x1_1.length ∧ ∃ (y : Nat), 64 - y < 64 - x ∧ y.le 64 ∧ pad = pad ∧ 0 = 0 ∧ 0 = 0 ∧ (↑y : Int) = IntKind.i64.wrap ((↑x : Int) + (1 : Int)) ∧ (0 : BitVec 32) = (0 : BitVec 32) ∧ (0 : BitVec 32) = (0 : BitVec 32) ∧ (0 : BitVec 32) = (0 : BitVec 32) ∧ (0 : BitVec 32) = (0 : BitVec 32) ∧ (0 : BitVec 32) = (0 : BitVec 32) ∧ (0 : BitVec 32) = (0 : BitVec 32) ∧ (0 : BitVec 32) = (0 : BitVec 32) ∧ (0 : BitVec 32) = (0 : BitVec 32) ∧ List.map (fun (k : Nat) => if k < y then List.getD (macKey key) k (0 : BitVec 8) ^^^ pad else List.getD (macKey key) k (0 : BitVec 8)) (List.range 64) = x1_1.set (↑x : Int).toNat (x1_1.getD (↑x : Int).toNat (0 : BitVec 8) ^^^ pad) ∧ x2) (decide ((↑x : Int) < (64 : Int)))) (List.length key < 4611686018427387904 ∧ 64 ≤ 64 ∧ (∃ (x : Nat), x.le 64 ∧ pad = pad ∧ 0 = 0 ∧ 0 = 0 ∧ (↑x : Int) = (0 : Int) ∧ x4 ∧ x4 ∧ x4 ∧ x4 ∧ x4 ∧ x4 ∧ x4 ∧ x4 ∧ List.map (fun (k : Nat) => if k < x then List.getD (macKey key) k (0 : BitVec 8) ^^^ pad else List.getD (macKey key) k (0 : BitVec 8)) (List.range 64) = List.take 0 (List.replicate 64 (0 : BitVec 8)) ++ (List.take 64 x3 ++ List.drop (0 + Min.min x3.length 64) (List.replicate 64 (0 : BitVec 8))) ∧ x2) ∧ ∀ (x : Nat), let x1_1 := List.map (fun (k : Nat) => if k < x then List.getD (macKey key) k (0 : BitVec 8) ^^^ pad else List.getD (macKey key) k (0 : BitVec 8)) (List.range 64); x.le 64 → @Bool.rec (fun _ => Prop) (64 ≤ x1_1.length ∧ (List.take 64 x1_1).length = 64 ∧ padSt key pad 0 = compress x1 (List.take 64 x1_1) 0 ∧ padSt key pad 1 = compress x1 (List.take 64 x1_1) 1 ∧ padSt key pad 2 = compress x1 (List.take 64 x1_1) 2 ∧ padSt key pad 3 = compress x1 (List.take 64 x1_1) 3 ∧ padSt key pad 4 = compress x1 (List.take 64 x1_1) 4 ∧ padSt key pad 5 = compress x1 (List.take 64 x1_1) 5 ∧ padSt key pad 6 = compress x1 (List.take 64 x1_1) 6 ∧ padSt key pad 7 = compress x1 (List.take 64 x1_1) 7 ∧ True) ((0 : Int) ≤ (↑x : Int) ∧ (↑x : Int).toNat < 64 ∧ (↑x : Int).toNat < x1_1.length ∧ (0 : Int) ≤ (↑x : Int) ∧ (↑x : Int).toNat < 64 ∧ (↑x : Int).toNat < x1_1.length ∧ ∃ (y : Nat), 64 - y < 64 - x ∧ y.le 64 ∧ pad = pad ∧ 0 = 0 ∧ 0 = 0 ∧ (↑y : Int) = IntKind.i64.wrap ((↑x : Int) + (1 : Int)) ∧ (0 : BitVec 32) = (0 : BitVec 32) ∧ (0 : BitVec 32) = (0 : BitVec 32) ∧ (0 : BitVec 32) = (0 : BitVec 32) ∧ (0 : BitVec 32) = (0 : BitVec 32) ∧ (0 : BitVec 32) = (0 : BitVec 32) ∧ (0 : BitVec 32) = (0 : BitVec 32) ∧ (0 : BitVec 32) = (0 : BitVec 32) ∧ (0 : BitVec 32) = (0 : BitVec 32) ∧ List.map (fun (k : Nat) => if k < y then List.getD (macKey key) k (0 : BitVec 8) ^^^ pad else List.getD (macKey key) k (0 : BitVec 8)) (List.range 64) = x1_1.set (↑x : Int).toNat (x1_1.getD (↑x : Int).toNat (0 : BitVec 8) ^^^ pad) ∧ x2) (decide ((↑x : Int) < (64 : Int)))) (decide ((64 : Int) < (↑(List.length key) : Int))) : Prop) := by kernel_rfl
end Go.Sym

namespace Go.Sym
open Go.Proofs Go.Spec
set_option linter.unusedVariables false
set_option linter.unusedSimpArgs false
theorem b17 (a b : By) (ha : a.length < 4611686018427387904) : Must (bodyP Tryd.prog B5 gl0 [] [(6, lsSm a b)] 3000 Tryd.f65 0 [.rb false a .unk, .rb false b .unk] [] (retQ Tryd.prog Tryd.f65 0 ⟨[], .bool (decide (a = b)), [], []⟩)) := by
  constructor
  rw [vc17]
  refine brec (fun h => ?_) (fun h => ?_)
  · have hl : a.length ≠ b.length := by
      simp at h; omega
    have : a ≠ b := fun e => hl (by rw [e])
    simp [this]
  · have hl : a.length = b.length := by
      simp at h; omega
    refine ⟨⟨0, Nat.zero_le _, by simp [orD]⟩, fun x hx => ?_⟩
    replace hx : x ≤ a.length := hx
    refine brec (fun h => ?_) (fun h => ?_)
    · replace h : x < a.length := by have := dlt.1 h; omega
      have e1 : IntKind.i64.wrap ((x : Int) + 1) = ((x + 1 : Nat) : Int) := wrap_nat _ (by omega) (by omega)
      simp only [e1, Int.toNat_natCast, true_and, and_true, Int.natCast_nonneg]
      refine ⟨h, by omega, x + 1, by omega, h, ?_⟩
      simp [orD]
    · replace h : x = a.length := by have := ndlt.1 h; omega
      subst h
      refine ⟨?_, trivial⟩
      rw [decide_eq_decide]
      exact (orD_same a b hl).symm
theorem c17 : COK Tryd.prog gl0 65 (mkF spSm) := by
  refine ctrE (fn := Tryd.f65) [] 3000 (by kernel_rfl) (by kernel_rfl) okB5 (by kernel_rfl) (fun args w => by kernel_rfl) ?_
  intro xs bs r hs ho
  simp only [spSm, gSm] at hs
  split at hs
  · simp only [TL.sel, Option.some.injEq] at hs
    subst hs
    rw [sameB_eq]
    exact ⟨_, b17 _ _ (obsT_one.1 ho)⟩
  · simp [TL.sel] at hs
noncomputable def B6 : Ctx := B5.add 65 (mkF spSm)
theorem okB6 : COKs Tryd.prog gl0 B6 := okB5.add c17
theorem xor_row (K : By) (pad : BitVec 8) (x : Nat) (hx : x < 64) : (List.map (fun k => if k < x then K.getD k 0 ^^^ pad else K.getD k 0) (List.range 64)).set x ((List.map (fun k => if k < x then K.getD k 0 ^^^ pad else K.getD k 0) (List.range 64)).getD x 0 ^^^ pad) = List.map (fun k => if k < x + 1 then K.getD k 0 ^^^ pad else K.getD k 0) (List.range 64) := by
  rw [getD_map_range _ _ _ _ hx, if_neg (by omega)]
  apply List.ext_getElem?
  intro k
  rw [List.getElem?_set]
  by_cases hk : k < 64
  · by_cases h : x = k
    · subst h
      simp [hx]
    · rw [if_neg h]
      simp only [List.getElem?_map, List.getElem?_range hk, Option.map_some]
      by_cases h2 : k < x
      · rw [if_pos h2, if_pos (by omega)]
      · rw [if_neg h2, if_neg (by omega)]
  · rw [if_neg (by omega), List.getElem?_eq_none (by simp; omega), List.getElem?_eq_none (by simp; omega)]
theorem copy_row (S : By) (h : S.length ≤ 64) : List.take 0 (List.replicate 64 (0 : BitVec 8)) ++ (List.take 64 S ++ List.drop (0 + min S.length 64) (List.replicate 64 (0 : BitVec 8))) = List.map (fun k => S.getD k 0) (List.range 64) := by
  rw [List.take_zero, List.nil_append, List.take_of_length_le h, Nat.zero_add, Nat.min_eq_left h, List.drop_replicate]
  apply List.ext_getElem?
  intro k
  by_cases hk : k < S.length
  · rw [List.getElem?_append_left hk]
    simp [List.getD, hk, show k < 64 by omega]
  · rw [List.getElem?_append_right (by omega), List.getElem?_replicate]
    by_cases h2 : k < 64
    · rw [if_pos (by omega)]
      simp [List.getD, h2, List.getElem?_eq_none (Nat.le_of_not_lt hk)]
    · rw [if_neg (by omega), List.getElem?_eq_none (by simp; omega)]
end Go.Sym

namespace Go.Proofs.YtmpgpbbaloiniabDoor
open Go.ChangeShapes Go.WideShapes Go.ChangeAt Go.WideMaps Go.WideElems Go.RowKit
set_option linter.unusedVariables false

theorem own : ownKnob Tryd.prog.godebug = none := by kernel_rfl
theorem laidO : laidOutB Tryd.prog = true := by kernel_rfl
theorem one5 : Tryd.prog.cellsOf 5 = 1 := by kernel_rfl
theorem one126 : Tryd.prog.cellsOf 126 = 1 := by kernel_rfl
theorem gBegin : Tryd.prog.globalNamed "relay/sha.begin" = some 0 := by kernel_rfl
theorem gRounds : Tryd.prog.globalNamed "relay/sha.rounds" = some 1 := by kernel_rfl
theorem tBegin : (Tryd.prog.globals[0]?).map (·.type) = some 127 := by kernel_rfl
theorem tRounds : (Tryd.prog.globals[1]?).map (·.type) = some 166 := by kernel_rfl
abbrev laid2 : List (String × DataW Unit) := [("relay/sha.begin", Rows.laid_relay_sha_begin), ("relay/sha.rounds", Rows.laid_relay_sha_rounds)]

theorem door_met (os : Os) (args : Array Value) : laidMetH Tryd.prog laid2 ((World.doorLaid Tryd.prog 400 os).forCall (fun _ _ => 0) ⟨#[], args, []⟩).memory :=
  laidMetH_of_parts3 (fuel := 8) (laidMet_of_run' 8 (by kernel_rfl) (by kernel_rfl)) (by kernel_rfl) (by kernel_rfl)

theorem arr_u32 {H : Type} {enc : TypeId × Value → H} {P : Program} {w : World} {base : Nat} {spare : Nat → Bool} {held : Bool} {fuel : Nat} {t e : TypeId} {n : Nat} {cs : List Value} {L : List Int} {p : List MemPlace}
    (ht : P.underlying t = some (.array n e)) (he : P.underlying e = some (.int .u32)) (hc : P.cellsOf e = 1) (h : DataW.trod enc P w base spare held fuel t cs = some (.agg (L.map fun x => .lit (.int .u32 x)), p)) :
    ∀ (i : Nat) v, (L.map fun x => Value.int .u32 x)[i]? = some v → cs[i]? = some v := by
  obtain ⟨xs, m, _, hx, _, hn, hel⟩ := DataW.trod_array ht h
  simp only [Prod.mk.injEq, DataW.agg.injEq] at hx
  intro i v hv
  have hlen : L.length = n := by
    have := congrArg List.length hx.1
    simp at this
    omega
  have hi : i < n := by
    have := (List.getElem?_eq_some_iff.1 hv).1
    simp at this
    omega
  have h1 := hel i hi
  rw [hc, Nat.mul_one] at h1
  have h2 : xs[i]? = some xs[i] := List.getElem?_eq_getElem (by omega)
  rw [h2] at h1
  obtain ⟨k, e1, e2, _⟩ := DataW.trod_int he h1
  have h3 : (L.map fun x => (DataW.lit (.int .u32 x) : DataW H))[i]? = (xs.map (·.1))[i]? := by rw [hx.1]
  rw [List.getElem?_map, List.getElem?_map, h2, e2] at h3
  rw [List.getElem?_map] at hv
  cases hL : L[i]? with
  | none => rw [hL] at hv; simp at hv
  | some a =>
    rw [hL] at h3 hv
    simp at h3 hv
    have e3 : (cs.drop i)[0]? = some (.int .u32 k) := by
      have := congrArg (fun l => l[0]?) e1
      simp only [List.getElem?_take, List.getElem?_cons_zero] at this
      simpa using this
    rw [List.getElem?_drop] at e3
    rw [← hv, h3]
    simpa using e3

theorem gw_laid {W : World} (h : laidMetH Tryd.prog laid2 W) : Go.Sym.GW Go.Sym.gl0 W := by
  rw [MakeChecks.laidMetH_plain _ _ _ (by kernel_rfl)] at h
  obtain ⟨ps, ⟨g0, t0, cs0, f0, p0, q0, hg0, ht0, hv0, hd0, ⟨g1, t1, cs1, f1, p1, q1, hg1, ht1, hv1, hd1, _, _⟩, _⟩, _, _⟩ := h
  obtain rfl := Option.some.inj (gBegin.symm.trans hg0)
  obtain rfl := Option.some.inj (gRounds.symm.trans hg1)
  obtain rfl := Option.some.inj (tBegin.symm.trans ht0)
  obtain rfl := Option.some.inj (tRounds.symm.trans ht1)
  intro g i v hv
  match g with
  | 0 =>
    have := World.var?_cell hg0 hv0 i
    rw [this]
    have h1 := arr_u32 (L := Go.Spec.shaBegin.map fun x => (x.toNat : Int)) Tryd.underlying127 Tryd.underlying126 one126 hd0 i v (by
      rw [List.map_map]; exact hv)
    simpa using h1
  | 1 =>
    have := World.var?_cell hg1 hv1 i
    rw [this]
    have h1 := arr_u32 (L := Go.Spec.shaK.map fun x => (x.toNat : Int)) Tryd.underlying166 Tryd.underlying126 one126 hd1 i v (by
      rw [List.map_map]; exact hv)
    simpa using h1
  | g + 2 => simp [Go.Sym.gl0] at hv
end Go.Proofs.YtmpgpbbaloiniabDoor

namespace Go.Sym
open Go.Proofs Go.Spec
set_option linter.unusedVariables false
set_option linter.unusedSimpArgs false
theorem padRow (key : By) (pad : BitVec 8) : List.take 64 (List.map (fun k => if k < 64 then (macKey key).getD k 0 ^^^ pad else (macKey key).getD k 0) (List.range 64)) = padBlock key pad := by
  rw [List.take_of_length_le (by simp)]
  unfold padBlock
  apply List.map_congr_left
  intro i hi
  rw [if_pos (by simpa using hi)]
set_option maxRecDepth 100000 in
theorem b28 (key : By) (pad : BitVec 8) (hk : key.length < 4611686018427387904) : Must (bodyP Tryd.prog (B5.withSym symPd) gl0 [0] [(8, lsPd key pad)] 3000 Tryd.f67 0 [.rb false key .unk, .u8 pad] [] (retQ Tryd.prog Tryd.f67 0 ⟨[], agg8 (padSt key pad), [], []⟩)) := by
  constructor
  rw [vc28]
  set_option simprocs false in dsimp only
  have loop : ∀ x : Nat, x ≤ 64 → x < 64 → IntKind.i64.wrap ((x : Int) + 1) = ((x + 1 : Nat) : Int) := fun x _ h => wrap_nat _ (by omega) (by omega)
  refine brec (fun h => ?_) (fun h => ?_)
  · have hlen : 64 < key.length := by have := dlt.1 h; omega
    have hm : macKey key = sha key := if_pos hlen
    refine ⟨hk, by omega, ⟨0, Nat.zero_le _, ?_⟩, fun x hx => ?_⟩
    · simp only [true_and, and_true]
      refine ⟨rfl, rfl, rfl, rfl, rfl, rfl, rfl, rfl, rfl, ?_⟩
      refine Eq.trans ?_ (copy_row (sha key) (by simp [sha])).symm
      rw [hm]
      simp
    · replace hx : x ≤ 64 := hx
      refine brec (fun h => ?_) (fun h => ?_)
      · replace h : x < 64 := by have := dlt.1 h; omega
        simp only [loop x hx h, Int.toNat_natCast, xor_row _ _ x h, true_and, and_true, Int.natCast_nonneg, List.length_map, List.length_range]
        exact ⟨h, h, h, h, x + 1, by omega, h, rfl, rfl⟩
      · replace h : x = 64 := by have := ndlt.1 h; omega
        subst h
        simp only [padRow, List.length_map, List.length_range]
        refine ⟨by omega, by simp [padBlock], ?_⟩
        exact ⟨rfl, rfl, rfl, rfl, rfl, rfl, rfl, rfl, trivial⟩
  · have hlen : ¬ 64 < key.length := by have := ndlt.1 h; omega
    have hm : macKey key = key := if_neg hlen
    refine ⟨by omega, ⟨0, Nat.zero_le _, ?_⟩, fun x hx => ?_⟩
    · simp only [true_and, and_true]
      refine ⟨rfl, rfl, rfl, rfl, rfl, rfl, rfl, rfl, rfl, ?_⟩
      refine Eq.trans ?_ (copy_row key (by omega)).symm
      rw [hm]
      simp
    · replace hx : x ≤ 64 := hx
      refine brec (fun h => ?_) (fun h => ?_)
      · replace h : x < 64 := by have := dlt.1 h; omega
        simp only [loop x hx h, Int.toNat_natCast, xor_row _ _ x h, true_and, and_true, Int.natCast_nonneg, List.length_map, List.length_range]
        exact ⟨h, h, h, h, x + 1, by omega, h, rfl, rfl⟩
      · replace h : x = 64 := by have := ndlt.1 h; omega
        subst h
        simp only [padRow, List.length_map, List.length_range]
        refine ⟨by omega, by simp [padBlock], ?_⟩
        exact ⟨rfl, rfl, rfl, rfl, rfl, rfl, rfl, rfl, trivial⟩
theorem c28 : COK Tryd.prog gl0 67 (mkF spPd) := by
  refine ctrE (fn := Tryd.f67) [0] 3000 (by kernel_rfl) (by kernel_rfl) (okB5.withSym symPd) (by kernel_rfl) (fun args w => by kernel_rfl) ?_
  intro xs bs r hs ho
  simp only [spPd, gPd] at hs
  split at hs
  · simp only [TL.sel, Option.some.injEq] at hs
    subst hs
    exact ⟨_, b28 _ _ (obsT_one.1 ho)⟩
  · simp [TL.sel] at hs
noncomputable def B7 : Ctx := B6.add 67 (mkF spPd)
theorem okB7 : COKs Tryd.prog gl0 B7 := okB6.add c28
noncomputable def gMa (xs : List AV) (bs : List ABlk) : TL := match xs, bs with
  | [.rb false key .unk, .rb false b .unk], [] => .ok ⟨[key.length < 4611686018427387904 ∧ b.length < 4611686018427387904], aggB 32 (macB key b), [], []⟩
  | _, _ => .no
noncomputable def spMa : Spec := ⟨[.by0, .by0], fun _ _ => [], fun _ _ => [], gMa⟩
theorem vc15 (key b : By) : bodyP Tryd.prog B7 gl0 [] [] 3000 Tryd.f42 0 [.rb false key .unk, .rb false b .unk] [] (retQ Tryd.prog Tryd.f42 0 ⟨[], aggB 32 (macU key b), [], []⟩) = (key.length < 4611686018427387904 ∧ b.length < 4611686018427387904 ∧ key.length < 4611686018427387904 ∧ (macIn key b).length < 4611686018427387904 ∧ allRefl (macU key b) 0 32) := by kernel_rfl
theorem b15 (key b : By) (h : key.length < 4611686018427387904 ∧ b.length < 4611686018427387904) : Must (bodyP Tryd.prog B7 gl0 [] [] 3000 Tryd.f42 0 [.rb false key .unk, .rb false b .unk] [] (retQ Tryd.prog Tryd.f42 0 ⟨[], aggB 32 (macU key b), [], []⟩)) := by
  constructor
  rw [vc15]
  exact ⟨h.1, h.2, h.1, by simp [macIn], allRefl_true _ _ _⟩
theorem c15 : COK Tryd.prog gl0 42 (mkF spMa) := by
  refine ctrE (fn := Tryd.f42) [] 3000 (by kernel_rfl) (by kernel_rfl) okB7 (by kernel_rfl) (fun args w => by kernel_rfl) ?_
  intro xs bs r hs ho
  simp only [spMa, gMa] at hs
  split at hs
  · simp only [TL.sel, Option.some.injEq] at hs
    subst hs
    rw [macB_un]
    exact ⟨_, b15 _ _ (obsT_one.1 ho)⟩
  · simp [TL.sel] at hs
noncomputable def B8 : Ctx := B7.add 42 (mkF spMa)
theorem okB8 : COKs Tryd.prog gl0 B8 := okB7.add c15
end Go.Sym

namespace Go.Sym
open Go.Proofs Go.Spec
set_option linter.unusedVariables false
noncomputable def R1 : Ctx := B8.exe Tryd.prog gl0 [] 3000 Tryd.f100.params.size 100 Tryd.f100
theorem okR1 : COKs Tryd.prog gl0 R1 := okB8.exe [] 3000 _ (by kernel_rfl) (by kernel_rfl) (by kernel_rfl) (fun args w => by kernel_rfl)
noncomputable def R2 : Ctx := R1.exe Tryd.prog gl0 [] 3000 Tryd.f99.params.size 99 Tryd.f99
theorem okR2 : COKs Tryd.prog gl0 R2 := okR1.exe [] 3000 _ (by kernel_rfl) (by kernel_rfl) (by kernel_rfl) (fun args w => by kernel_rfl)
def lsBi (a b c : W32) (m : Bool) (X : W32) : LS := ⟨Nat, fun i => [(0, .u32 a), (1, .u32 b), (2, .u32 c), (3, .bool m), (9, .u32 (lowR X i)), (10, .int .i64 i)], fun _ => [], 500, fun i => 32 - i, fun i => i ≤ 32, fun _ => []⟩
def gBi (xs : List AV) (bs : List ABlk) : TL := match xs, bs with
  | [.u32 a, .u32 b, .u32 c, .bool m], [] => (match m with | true => .ok ⟨[], .u32 (mjS a b c), [], []⟩ | false => .ok ⟨[], .u32 (chS a b c), [], []⟩)
  | _, _ => .no
def spBi : Spec := ⟨[.kp, .kp, .kp, .kp], fun _ _ => [], fun _ _ => [], gBi⟩
end Go.Sym

namespace Go.Sym
open Go.Proofs Go.Spec
set_option linter.unusedVariables false
set_option maxRecDepth 100000 in
theorem vc27t (a b c : W32) : bodyP Tryd.prog R2 gl0 [] [(4, lsBi a b c true (mjS a b c))] 3000 Tryd.f101 0 [.u32 a, .u32 b, .u32 c, .bool true] [] (retQ Tryd.prog Tryd.f101 0 ⟨[], .u32 (mjS a b c), [], []⟩) = (
(∃ (x : Nat), x.le (32 : Nat) ∧ a = a ∧ b = b ∧ c = c ∧ Bool.true = Bool.true ∧ lowR (mjS a b c) x = BitVec.ofNat (32 : Nat) (0 : Nat) ∧ (↑x : Int) = (0 : Int) ∧ True) ∧ ∀ (x : Nat), x.le (32 : Nat) → Bool.rec (mjS a b c = lowR (mjS a b c) x ∧ True) ((0 : Int) ≤ (↑x : Int) ∧ (0 : Int) ≤ (↑x : Int) ∧ (0 : Int) ≤ (↑x : Int) ∧ (0 : Int) ≤ (↑x : Int) ∧ ∃ (y : Nat), (32 : Nat) - y < (32 : Nat) - x ∧ y.le (32 : Nat) ∧ a = a ∧ b = b ∧ c = c ∧ Bool.true = Bool.true ∧ lowR (mjS a b c) y = lowR (mjS a b c) x ||| (((a >>> (↑x : Int).toNat &&& BitVec.ofNat (32 : Nat) (1 : Nat)) + (b >>> (↑x : Int).toNat &&& BitVec.ofNat (32 : Nat) (1 : Nat)) + (c >>> (↑x : Int).toNat &&& BitVec.ofNat (32 : Nat) (1 : Nat))) / BitVec.ofNat (32 : Nat) (2 : Nat)) <<< (↑x : Int).toNat ∧ (↑y : Int) = IntKind.i64.wrap ((↑x : Int) + (1 : Int)) ∧ True) (Decidable.decide ((↑x : Int) < (32 : Int)))) := by kernel_rfl
set_option maxRecDepth 100000 in
theorem vc27f (a b c : W32) : bodyP Tryd.prog R2 gl0 [] [(4, lsBi a b c false (chS a b c))] 3000 Tryd.f101 0 [.u32 a, .u32 b, .u32 c, .bool false] [] (retQ Tryd.prog Tryd.f101 0 ⟨[], .u32 (chS a b c), [], []⟩) = (
(∃ (x : Nat), x.le (32 : Nat) ∧ a = a ∧ b = b ∧ c = c ∧ Bool.false = Bool.false ∧ lowR (chS a b c) x = BitVec.ofNat (32 : Nat) (0 : Nat) ∧ (↑x : Int) = (0 : Int) ∧ True) ∧ ∀ (x : Nat), x.le (32 : Nat) → Bool.rec (chS a b c = lowR (chS a b c) x ∧ True) ((0 : Int) ≤ (↑x : Int) ∧ (0 : Int) ≤ (↑x : Int) ∧ (0 : Int) ≤ (↑x : Int) ∧ Bool.rec ((0 : Int) ≤ (↑x : Int) ∧ ∃ (y : Nat), (32 : Nat) - y < (32 : Nat) - x ∧ y.le (32 : Nat) ∧ a = a ∧ b = b ∧ c = c ∧ Bool.false = Bool.false ∧ lowR (chS a b c) y = lowR (chS a b c) x ||| (c >>> (↑x : Int).toNat &&& BitVec.ofNat (32 : Nat) (1 : Nat)) <<< (↑x : Int).toNat ∧ (↑y : Int) = IntKind.i64.wrap ((↑x : Int) + (1 : Int)) ∧ True) ((0 : Int) ≤ (↑x : Int) ∧ ∃ (y : Nat), (32 : Nat) - y < (32 : Nat) - x ∧ y.le (32 : Nat) ∧ a = a ∧ b = b ∧ c = c ∧ Bool.false = Bool.false ∧ lowR (chS a b c) y = lowR (chS a b c) x ||| (b >>> (↑x : Int).toNat &&& BitVec.ofNat (32 : Nat) (1 : Nat)) <<< (↑x : Int).toNat ∧ (↑y : Int) = IntKind.i64.wrap ((↑x : Int) + (1 : Int)) ∧ True) (Decidable.decide (a >>> (↑x : Int).toNat &&& BitVec.ofNat (32 : Nat) (1 : Nat) = BitVec.ofNat (32 : Nat) (1 : Nat)))) (Decidable.decide ((↑x : Int) < (32 : Int)))) := by kernel_rfl
end Go.Sym

namespace Go.Sym
open Go.Proofs Go.Spec
set_option linter.unusedVariables false
theorem b27t (a b c : W32) : Must (bodyP Tryd.prog R2 gl0 [] [(4, lsBi a b c true (mjS a b c))] 3000 Tryd.f101 0 [.u32 a, .u32 b, .u32 c, .bool true] [] (retQ Tryd.prog Tryd.f101 0 ⟨[], .u32 (mjS a b c), [], []⟩)) := by
  constructor
  rw [vc27t]
  refine ⟨⟨0, Nat.zero_le _, by simp [lowR]⟩, fun x hx => ?_⟩
  replace hx : x ≤ 32 := hx
  refine brec (fun h => ?_) (fun h => ?_)
  · replace h : x < 32 := by have := dlt.1 h; omega
    have e1 : IntKind.i64.wrap ((x : Int) + 1) = ((x + 1 : Nat) : Int) := wrap_nat _ (by omega) (by omega)
    simp only [e1, Int.toNat_natCast, true_and, and_true, Int.natCast_nonneg]
    refine ⟨x + 1, by omega, h, ?_, rfl⟩
    rw [mj_bit a b c x h]
    rfl
  · replace h : x = 32 := by have := ndlt.1 h; omega
    subst h
    exact ⟨(lowR_all _).symm, trivial⟩
theorem b27f (a b c : W32) : Must (bodyP Tryd.prog R2 gl0 [] [(4, lsBi a b c false (chS a b c))] 3000 Tryd.f101 0 [.u32 a, .u32 b, .u32 c, .bool false] [] (retQ Tryd.prog Tryd.f101 0 ⟨[], .u32 (chS a b c), [], []⟩)) := by
  constructor
  rw [vc27f]
  refine ⟨⟨0, Nat.zero_le _, by simp [lowR]⟩, fun x hx => ?_⟩
  replace hx : x ≤ 32 := hx
  refine brec (fun h => ?_) (fun h => ?_)
  · replace h : x < 32 := by have := dlt.1 h; omega
    have e1 : IntKind.i64.wrap ((x : Int) + 1) = ((x + 1 : Nat) : Int) := wrap_nat _ (by omega) (by omega)
    simp only [e1, Int.toNat_natCast, true_and, and_true, Int.natCast_nonneg]
    refine brec (fun h2 => ?_) (fun h2 => ?_)
    · refine ⟨x + 1, by omega, h, ?_, rfl⟩
      rw [ch_bit1 a b c x h (by simpa using h2)]
      rfl
    · refine ⟨x + 1, by omega, h, ?_, rfl⟩
      rw [ch_bit0 a b c x h (by simpa using h2)]
      rfl
  · replace h : x = 32 := by have := ndlt.1 h; omega
    subst h
    exact ⟨(lowR_all _).symm, trivial⟩
theorem c27 : COK Tryd.prog gl0 101 (mkF spBi) := by
  refine ctrE (fn := Tryd.f101) [] 3000 (by kernel_rfl) (by kernel_rfl) okR2 (by kernel_rfl) (fun args w => by kernel_rfl) ?_
  intro xs bs r hs ho
  simp only [spBi, gBi] at hs
  split at hs
  · rename_i a b c m
    cases m
    · simp only [TL.sel, Option.some.injEq] at hs
      subst hs
      exact ⟨_, b27f a b c⟩
    · simp only [TL.sel, Option.some.injEq] at hs
      subst hs
      exact ⟨_, b27t a b c⟩
  · simp [TL.sel] at hs
noncomputable def R3 : Ctx := R2.add 101 (mkF spBi)
theorem okR3 : COKs Tryd.prog gl0 R3 := okR2.add c27
def kB (b : By) : List (Nat × ABlk) := [(100, ⟨.cells (List.replicate 32 (.u8 0)), true, 0⟩), (101, ⟨.bytes (shaPad b), true, 1⟩)]
def kH (b : By) (j : Nat) : List (Nat × ABlk) := kB b ++ [(102, ⟨.cells ((List.range 8).map fun i => .u32 (refSt b j i)), true, 0⟩), (103, ⟨.rows 1 64 fun y => [.u32 (shaK.getD y 0)], true, 0⟩)]
def eH (b : By) (j : Nat) : List (Nat × AV) := [(2, .ptr 100 0 0 0), (3, .slice 101 0 1 (shaPad b).length .ow (.is false)), (6, .ptr 102 0 0 0), (7, .ptr 103 0 0 0), (8, .int .i64 (64 * j : Nat))]
def ls0 (b : By) : LS := ⟨Nat, fun k => [(0, .rb false b .unk), (2, .ptr 100 0 0 0), (3, .slice 101 0 1 (b.length + 1 + k) .ow (.is false))],
  fun k => [(100, ⟨.cells (List.replicate 32 (.u8 0)), true, 0⟩), (101, ⟨.bytes (b ++ (0x80#8 :: List.replicate k 0)), true, 1⟩)], 1000, fun k => 64 - k, fun k => k ≤ zc b.length, fun _ => []⟩
def lsWI (b : By) (j i : Nat) : LS := ⟨Nat, fun c => eH b j ++ [(9, .ptr 104 0 0 0), (10, .int .i64 i), (11, .int .i64 c)],
  fun c => kH b j ++ [(104, ⟨.rows 1 64 fun y => [.u32 (if y < i then sch (refBlk b j) y else if y = i then partW (refBlk b j) i c else 0)], true, 0⟩)], 1000, fun c => 4 - c, fun c => c ≤ 4, fun _ => []⟩
def lsW (b : By) (j : Nat) : LS := ⟨Nat, fun i => eH b j ++ [(9, .ptr 104 0 0 0), (10, .int .i64 i)],
  fun i => kH b j ++ [(104, ⟨.rows 1 64 fun y => [.u32 (if y < i then sch (refBlk b j) y else 0)], true, 0⟩)], 1000, fun i => 64 - i, fun i => i ≤ 64, fun i => [(21, lsWI b j i)]⟩
def lsV (b : By) (j : Nat) : LS := ⟨Nat, fun i => eH b j ++ [(9, .ptr 104 0 0 0), (14, .ptr 105 0 0 0), (15, .int .i64 i)],
  fun i => kH b j ++ [(104, ⟨.rows 1 64 fun y => [.u32 (sch (refBlk b j) y)], true, 0⟩), (105, ⟨.cells ((List.range 8).map fun k => .u32 (rnds (sch (refBlk b j)) (refSt b j) i k)), true, 0⟩)], 1000, fun i => 64 - i, fun i => i ≤ 64, fun _ => []⟩
def ls7 (b : By) : LS := ⟨Nat, fun i => [(2, .ptr 100 0 0 0), (3, .slice 101 0 1 (b.length + 1 + zc b.length + i) .ow (.is false)), (4, .u64 (BitVec.ofNat 64 b.length * 8#64)), (5, .int .i64 (7 - (i : Int)))],
  fun i => [(100, ⟨.cells (List.replicate 32 (.u8 0)), true, 0⟩), (101, ⟨.bytes (b ++ (0x80#8 :: (List.replicate (zc b.length) 0#8 ++ (count8 (BitVec.ofNat 64 b.length * 8#64)).take i))), true, 1⟩)], 1000, fun i => 8 - i, fun i => i ≤ 8, fun _ => []⟩
def lsO (b : By) : LS := ⟨Nat, fun i => [(2, .ptr 100 0 0 0), (6, .ptr 102 0 0 0), (19, .ptr 106 0 0 0), (20, .int .i64 i)],
  fun i => [(100, ⟨.cells (List.replicate 32 (.u8 0)), true, 0⟩), (102, ⟨.cells ((List.range 8).map fun i => .u32 (refSt b ((shaPad b).length / 64) i)), true, 0⟩), (106, ⟨.bytes ((List.range 32).map fun k => if k < i then outByte (refSt b ((shaPad b).length / 64)) k else 0), true, 0⟩)], 1000, fun i => 32 - i, fun i => i ≤ 32, fun _ => []⟩
def lsB (b : By) : LS := ⟨Nat, fun j => eH b j, fun j => kH b j, 1000, fun j => (shaPad b).length - 64 * j, fun j => 64 * j ≤ (shaPad b).length, fun j => [(17, lsW b j), (28, lsV b j)]⟩
def symRs : List Nat := [9, 69, 70, 83, 86, 87, 90, 91, 103, 104, 117, 118, 120, 149, 150, 153, 154, 19, 215, 216, 223]
end Go.Sym

namespace Go.Sym
open Go.Proofs Go.Spec
set_option linter.unusedVariables false
set_option maxRecDepth 100000 in
theorem vc14 (b : By) : bodyP Tryd.prog (R3.withSym symRs) gl0 [] [(3, ls0 b), (7, ls7 b), (13, lsB b), (39, lsO b)] 3000 Tryd.f64 0 [.rb false b .unk] [] (retQ Tryd.prog Tryd.f64 0 ⟨[], aggB 32 (outByte (refSt b ((shaPad b).length / 64))), [], []⟩) = (
let x1 := refSt b (List.length (shaPad b) / 64); let x2 := (0 : BitVec 8) = BitVec.ofNat 8 0; let x3 := BitVec.ofNat 64 (List.length b) * BitVec.ofNat 64 8; let x4 := [x1 0, x1 1, x1 2, x1 3, x1 4, x1 5, x1 6, x1 7]; 0 = 0 ∧ roomFor 0 (List.length b) 1 ∧ 1 = 1 ∧ 0 + List.length b = ([] ++ b).length ∧ roomFor (0 + List.length b) 1 1 ∧ (∃ (x : Nat), x.le (zc (List.length b)) ∧ b = b ∧ 0 = 0 ∧ Bool.false = (Bool.false && decide (List.length b = 0) && Bool.false) ∧ 0 = 0 ∧ 0 = 0 ∧ 0 = 0 ∧ List.length b + 1 + x = 0 + List.length b + 1 ∧ x2 ∧ x2 ∧ x2 ∧ x2 ∧ x2 ∧ x2 ∧ x2 ∧ x2 ∧ x2 ∧ x2 ∧ x2 ∧ x2 ∧ x2 ∧ x2 ∧ x2 ∧ x2 ∧ x2 ∧ x2 ∧ x2 ∧ x2 ∧ x2 ∧ x2 ∧ x2 ∧ x2 ∧ x2 ∧ x2 ∧ x2 ∧ x2 ∧ x2 ∧ x2 ∧ x2 ∧ x2 ∧ b ++ BitVec.ofNat 8 128 :: List.replicate x (0 : BitVec 8) = [] ++ b ++ [BitVec.ofNat 8 128] ∧ True) ∧ ∀ (x : Nat), x.le (zc (List.length b)) → @Bool.rec (fun _ => Prop) ((∃ (x_1 : Nat), x_1.le 8 ∧ 0 = 0 ∧ Bool.false = Bool.false ∧ 0 = 0 ∧ 0 = 0 ∧ 0 = 0 ∧ List.length b + 1 + zc (List.length b) + x_1 = List.length b + 1 + x ∧ x3 = BitVec.ofInt 64 (↑(List.length b) : Int) * BitVec.ofNat 64 8 ∧ (7 : Int) - (↑x_1 : Int) = (7 : Int) ∧ (0 : BitVec 8) = (0 : BitVec 8) ∧ (0 : BitVec 8) = (0 : BitVec 8) ∧ (0 : BitVec 8) = (0 : BitVec 8) ∧ (0 : BitVec 8) = (0 : BitVec 8) ∧ (0 : BitVec 8) = (0 : BitVec 8) ∧ (0 : BitVec 8) = (0 : BitVec 8) ∧ (0 : BitVec 8) = (0 : BitVec 8) ∧ (0 : BitVec 8) = (0 : BitVec 8) ∧ (0 : BitVec 8) = (0 : BitVec 8) ∧ (0 : BitVec 8) = (0 : BitVec 8) ∧ (0 : BitVec 8) = (0 : BitVec 8) ∧ (0 : BitVec 8) = (0 : BitVec 8) ∧ (0 : BitVec 8) = (0 : BitVec 8) ∧ (0 : BitVec 8) = (0 : BitVec 8) ∧ (0 : BitVec 8) = (0 : BitVec 8) ∧ (0 : BitVec 8) = (0 : BitVec 8) ∧ (0 : BitVec 8) = (0 : BitVec 8) ∧ (0 : BitVec 8) = (0 : BitVec 8) ∧ (0 : BitVec 8) = (0 : BitVec 8) ∧ (0 : BitVec 8) = (0 : BitVec 8) ∧ (0 : BitVec 8) = (0 : BitVec 8) ∧ (0 : BitVec 8) = (0 : BitVec 8) ∧ (0 : BitVec 8) = (0 : BitVec 8) ∧ (0 : BitVec 8) = (0 : BitVec 8) ∧ (0 : BitVec 8) = (0 : BitVec 8) ∧ (0 : BitVec 8) = (0 : BitVec 8) ∧ (0 : BitVec 8) = (0 : BitVec 8) ∧ (0 : BitVec 8) = (0 : BitVec 8) ∧ (0 : BitVec 8) = (0 : BitVec 8) ∧ (0 : BitVec 8) = (0 : BitVec 8) ∧ (0 : BitVec 8) = (0 : BitVec 8) ∧ (0 : BitVec 8) = (0 : BitVec 8) ∧ b ++ BitVec.ofNat 8 128 :: (List.replicate (zc (List.length b)) (BitVec.ofNat 8 0) ++ List.take x_1 (count8 x3)) = b ++ BitVec.ofNat 8 128 :: List.replicate x (0 : BitVec 8) ∧ True) ∧ ∀ (x : Nat), let x1_1 := [BitVec.setWidth 8 (x3 >>> (IntKind.i64.wrap ((8 : Int) * ((7 : Int) - (↑x : Int)))).toNat)]; let x2 := b ++ BitVec.ofNat 8 128 :: (List.replicate (zc (List.length b)) (BitVec.ofNat 8 0) ++ List.take x (count8 x3)); x.le 8 → @Bool.rec (fun _ => Prop) ((∃ (x_1 : Nat), (64 * x_1).le (List.length (shaPad b)) ∧ 0 = 0 ∧ Bool.false = Bool.false ∧ 0 = 0 ∧ 0 = 0 ∧ 0 = 0 ∧ List.length (shaPad b) = List.length b + 1 + zc (List.length b) + x ∧ 0 = 0 ∧ 0 = 0 ∧ (↑(64 * x_1) : Int) = (0 : Int) ∧ (0 : BitVec 8) = (0 : BitVec 8) ∧ (0 : BitVec 8) = (0 : BitVec 8) ∧ (0 : BitVec 8) = (0 : BitVec 8) ∧ (0 : BitVec 8) = (0 : BitVec 8) ∧ (0 : BitVec 8) = (0 : BitVec 8) ∧ (0 : BitVec 8) = (0 : BitVec 8) ∧ (0 : BitVec 8) = (0 : BitVec 8) ∧ (0 : BitVec 8) = (0 : BitVec 8) ∧ (0 : BitVec 8) = (0 : BitVec 8) ∧ (0 : BitVec 8) = (0 : BitVec 8) ∧ (0 : BitVec 8) = (0 : BitVec 8) ∧ (0 : BitVec 8) = (0 : BitVec 8) ∧ (0 : BitVec 8) = (0 : BitVec 8) ∧ (0 : BitVec 8) = (0 : BitVec 8) ∧ (0 : BitVec 8) = (0 : BitVec 8) ∧ (0 : BitVec 8) = (0 : BitVec 8) ∧ (0 : BitVec 8) = (0 : BitVec 8) ∧ (0 : BitVec 8) = (0 : BitVec 8) ∧ (0 : BitVec 8) = (0 : BitVec 8) ∧ (0 : BitVec 8) = (0 : BitVec 8) ∧ (0 : BitVec 8) = (0 : BitVec 8) ∧ (0 : BitVec 8) = (0 : BitVec 8) ∧ (0 : BitVec 8) = (0 : BitVec 8) ∧ (0 : BitVec 8) = (0 : BitVec 8) ∧ (0 : BitVec 8) = (0 : BitVec 8) ∧ (0 : BitVec 8) = (0 : BitVec 8) ∧ (0 : BitVec 8) = (0 : BitVec 8) ∧ (0 : BitVec 8) = (0 : BitVec 8) ∧ (0 : BitVec 8) = (0 : BitVec 8) ∧ (0 : BitVec 8) = (0 : BitVec 8) ∧ (0 : BitVec 8) = (0 : BitVec 8) ∧ (0 : BitVec 8) = (0 : BitVec 8) ∧ shaPad b = x2 ∧ refSt b x_1 0 = BitVec.ofNat 32 1779033703 ∧ refSt b x_1 1 = BitVec.ofNat 32 3144134277 ∧ refSt b x_1 2 = BitVec.ofNat 32 1013904242 ∧ refSt b x_1 3 = BitVec.ofNat 32 2773480762 ∧ refSt b x_1 4 = BitVec.ofNat 32 1359893119 ∧ refSt b x_1 5 = BitVec.ofNat 32 2600822924 ∧ refSt b x_1 6 = BitVec.ofNat 32 528734635 ∧ refSt b x_1 7 = BitVec.ofNat 32 1541459225 ∧ 64 = 64 ∧ (∀ (y : Nat), y < 64 → datas Bool.false [AV.u32 (shaK.getD y (0 : W32))] = Bool.true ∧ cut 1 (have y := have y := have y := have y := [AV.u32 (BitVec.ofNat 32 2428436474), AV.u32 (BitVec.ofNat 32 2756734187), AV.u32 (BitVec.ofNat 32 3204031479), AV.u32 (BitVec.ofNat 32 3329325298)]; AV.u32 (BitVec.ofNat 32 1955562222) :: AV.u32 (BitVec.ofNat 32 2024104815) :: AV.u32 (BitVec.ofNat 32 2227730452) :: AV.u32 (BitVec.ofNat 32 2361852424) :: y; have y := AV.u32 (BitVec.ofNat 32 958139571) :: AV.u32 (BitVec.ofNat 32 1322822218) :: AV.u32 (BitVec.ofNat 32 1537002063) :: AV.u32 (BitVec.ofNat 32 1747873779) :: y; AV.u32 (BitVec.ofNat 32 430227734) :: AV.u32 (BitVec.ofNat 32 506948616) :: AV.u32 (BitVec.ofNat 32 659060556) :: AV.u32 (BitVec.ofNat 32 883997877) :: y; have y := have y := AV.u32 (BitVec.ofNat 32 3516065817) :: AV.u32 (BitVec.ofNat 32 3600352804) :: AV.u32 (BitVec.ofNat 32 4094571909) :: AV.u32 (BitVec.ofNat 32 275423344) :: y; AV.u32 (BitVec.ofNat 32 2730485921) :: AV.u32 (BitVec.ofNat 32 2820302411) :: AV.u32 (BitVec.ofNat 32 3259730800) :: AV.u32 (BitVec.ofNat 32 3345764771) :: y; have y := AV.u32 (BitVec.ofNat 32 1695183700) :: AV.u32 (BitVec.ofNat 32 1986661051) :: AV.u32 (BitVec.ofNat 32 2177026350) :: AV.u32 (BitVec.ofNat 32 2456956037) :: y; AV.u32 (BitVec.ofNat 32 666307205) :: AV.u32 (BitVec.ofNat 32 773529912) :: AV.u32 (BitVec.ofNat 32 1294757372) :: AV.u32 (BitVec.ofNat 32 1396182291) :: y; have y := have y := have y := AV.u32 (BitVec.ofNat 32 3336571891) :: AV.u32 (BitVec.ofNat 32 3584528711) :: AV.u32 (BitVec.ofNat 32 113926993) :: AV.u32 (BitVec.ofNat 32 338241895) :: y; AV.u32 (BitVec.ofNat 32 2554220882) :: AV.u32 (BitVec.ofNat 32 2821834349) :: AV.u32 (BitVec.ofNat 32 2952996808) :: AV.u32 (BitVec.ofNat 32 3210313671) :: y; have y := AV.u32 (BitVec.ofNat 32 770255983) :: AV.u32 (BitVec.ofNat 32 1249150122) :: AV.u32 (BitVec.ofNat 32 1555081692) :: AV.u32 (BitVec.ofNat 32 1996064986) :: y; AV.u32 (BitVec.ofNat 32 3835390401) :: AV.u32 (BitVec.ofNat 32 4022224774) :: AV.u32 (BitVec.ofNat 32 264347078) :: AV.u32 (BitVec.ofNat 32 604807628) :: y; have y := have y := AV.u32 (BitVec.ofNat 32 1925078388) :: AV.u32 (BitVec.ofNat 32 2162078206) :: AV.u32 (BitVec.ofNat 32 2614888103) :: AV.u32 (BitVec.ofNat 32 3248222580) :: y; AV.u32 (BitVec.ofNat 32 3624381080) :: AV.u32 (BitVec.ofNat 32 310598401) :: AV.u32 (BitVec.ofNat 32 607225278) :: AV.u32 (BitVec.ofNat 32 1426881987) :: y; have y := AV.u32 (BitVec.ofNat 32 961987163) :: AV.u32 (BitVec.ofNat 32 1508970993) :: AV.u32 (BitVec.ofNat 32 2453635748) :: AV.u32 (BitVec.ofNat 32 2870763221) :: y; AV.u32 (BitVec.ofNat 32 1116352408) :: AV.u32 (BitVec.ofNat 32 1899447441) :: AV.u32 (BitVec.ofNat 32 3049323471) :: AV.u32 (BitVec.ofNat 32 3921009573) :: y) y = [AV.u32 (shaK.getD y (0 : W32))]) ∧ True) ∧ ∀ (x : Nat), let x1_2 := refSt b x 5 = refSt b x 5; let x2 := refSt b x 3 = refSt b x 3; let x3 := refSt b x 4 = refSt b x 4; let x4_1 := refSt b x 6 = refSt b x 6; let x5 := refSt b x 0 = refSt b x 0; let x6 := refSt b x 2 = refSt b x 2; let x7 := refSt b x 7 = refSt b x 7; let x8 := refSt b x 1 = refSt b x 1; let x9 := (↑(64 * x) : Int) = (↑(64 * x) : Int); (64 * x).le (List.length (shaPad b)) → @Bool.rec (fun _ => Prop) ((∃ (x_1 : Nat), x_1.le 32 ∧ 0 = 0 ∧ 0 = 0 ∧ 0 = 0 ∧ (↑x_1 : Int) = (0 : Int) ∧ (0 : BitVec 8) = (0 : BitVec 8) ∧ (0 : BitVec 8) = (0 : BitVec 8) ∧ (0 : BitVec 8) = (0 : BitVec 8) ∧ (0 : BitVec 8) = (0 : BitVec 8) ∧ (0 : BitVec 8) = (0 : BitVec 8) ∧ (0 : BitVec 8) = (0 : BitVec 8) ∧ (0 : BitVec 8) = (0 : BitVec 8) ∧ (0 : BitVec 8) = (0 : BitVec 8) ∧ (0 : BitVec 8) = (0 : BitVec 8) ∧ (0 : BitVec 8) = (0 : BitVec 8) ∧ (0 : BitVec 8) = (0 : BitVec 8) ∧ (0 : BitVec 8) = (0 : BitVec 8) ∧ (0 : BitVec 8) = (0 : BitVec 8) ∧ (0 : BitVec 8) = (0 : BitVec 8) ∧ (0 : BitVec 8) = (0 : BitVec 8) ∧ (0 : BitVec 8) = (0 : BitVec 8) ∧ (0 : BitVec 8) = (0 : BitVec 8) ∧ (0 : BitVec 8) = (0 : BitVec 8) ∧ (0 : BitVec 8) = (0 : BitVec 8) ∧ (0 : BitVec 8) = (0 : BitVec 8) ∧ (0 : BitVec 8) = (0 : BitVec 8) ∧ (0 : BitVec 8) = (0 : BitVec 8) ∧ (0 : BitVec 8) = (0 : BitVec 8) ∧ (0 : BitVec 8) = (0 : BitVec 8) ∧ (0 : BitVec 8) = (0 : BitVec 8) ∧ (0 : BitVec 8) = (0 : BitVec 8) ∧ (0 : BitVec 8) = (0 : BitVec 8) ∧ (0 : BitVec 8) = (0 : BitVec 8) ∧ (0 : BitVec 8) = (0 : BitVec 8) ∧ (0 : BitVec 8) = (0 : BitVec 8) ∧ (0 : BitVec 8) = (0 : BitVec 8) ∧ (0 : BitVec 8) = (0 : BitVec 8) ∧ x1 0 = refSt b x 0 ∧ x1 1 = refSt b x 1 ∧ x1 2 = refSt b x 2 ∧ x1 3 = refSt b x 3 ∧ x1 4 = refSt b x 4 ∧ x1 5 = refSt b x 5 ∧ x1 6 = refSt b x 6 ∧ x1 7 = refSt b x 7 ∧ List.map (fun (k : Nat) => if k < x_1 then outByte x1 k else (0 : BitVec 8)) (List.range 32) = List.replicate 32 (0 : BitVec 8) ∧ True) ∧ ∀ (x : Nat), let x1_3 := List.map (fun (k : Nat) => if k < x then outByte x1 k else (0 : BitVec 8)) (List.range 32); x.le 32 → @Bool.rec (fun _ => Prop) (32 ≤ x1_3.length ∧ outByte x1 0 = x1_3.getD 0 (0 : BitVec 8) ∧ outByte x1 1 = x1_3.getD 1 (0 : BitVec 8) ∧ outByte x1 2 = x1_3.getD 2 (0 : BitVec 8) ∧ outByte x1 3 = x1_3.getD 3 (0 : BitVec 8) ∧ outByte x1 4 = x1_3.getD 4 (0 : BitVec 8) ∧ outByte x1 5 = x1_3.getD 5 (0 : BitVec 8) ∧ outByte x1 6 = x1_3.getD 6 (0 : BitVec 8) ∧ outByte x1 7 = x1_3.getD 7 (0 : BitVec 8) ∧ outByte x1 8 = x1_3.getD 8 (0 : BitVec 8) ∧ outByte x1 9 = x1_3.getD 9 (0 : BitVec 8) ∧ outByte x1 10 = x1_3.getD 10 (0 : BitVec 8) ∧ outByte x1 11 = x1_3.getD 11 (0 : BitVec 8) ∧ outByte x1 12 = x1_3.getD 12 (0 : BitVec 8) ∧ outByte x1 13 = x1_3.getD 13 (0 : BitVec 8) ∧ outByte x1 14 = x1_3.getD 14 (0 : BitVec 8) ∧ outByte x1 15 = x1_3.getD 15 (0 : BitVec 8) ∧ outByte x1 16 = x1_3.getD 16 (0 : BitVec 8) ∧ outByte x1 17 = x1_3.getD 17 (0 : BitVec 8) ∧ outByte x1 18 = x1_3.getD 18 (0 : BitVec 8) ∧ outByte x1 19 = x1_3.getD 19 (0 : BitVec 8) ∧ outByte x1 20 = x1_3.getD 20 (0 : BitVec 8) ∧ outByte x1 21 = x1_3.getD 21 (0 : BitVec 8) ∧ outByte x1 22 = x1_3.getD 22 (0 : BitVec 8) ∧ outByte x1 23 = x1_3.getD 23 (0 : BitVec 8) ∧ outByte x1 24 = x1_3.getD 24 (0 : BitVec 8) ∧ outByte x1 25 = x1_3.getD 25 (0 : BitVec 8) ∧ outByte x1 26 = x1_3.getD 26 (0 : BitVec 8) ∧ outByte x1 27 = x1_3.getD 27 (0 : BitVec 8) ∧ outByte x1 28 = x1_3.getD 28 (0 : BitVec 8) ∧ outByte x1 29 = x1_3.getD 29 (0 : BitVec 8) ∧ outByte x1 30 = x1_3.getD 30 (0 : BitVec 8) ∧ outByte x1 31 = x1_3.getD 31 (0 : BitVec 8) ∧ True) ((0 : Int) ≤ IntKind.i64.wrap ((↑x : Int).tdiv (4 : Int)) ∧ (IntKind.i64.wrap ((↑x : Int).tdiv (4 : Int))).toNat < 8 ∧ (IntKind.i64.wrap ((↑x : Int).tdiv (4 : Int))).toNat < x4.length ∧ True ∧ (0 : Int) ≤ IntKind.i64.wrap ((24 : Int) - IntKind.i64.wrap ((8 : Int) * (↑x : Int).tmod (4 : Int))) ∧ (0 : Int) ≤ (↑x : Int) ∧ (↑x : Int).toNat < 32 ∧ (↑x : Int).toNat < x1_3.length ∧ ∃ (y : Nat), 32 - y < 32 - x ∧ y.le 32 ∧ 0 = 0 ∧ 0 = 0 ∧ 0 = 0 ∧ (↑y : Int) = IntKind.i64.wrap ((↑x : Int) + (1 : Int)) ∧ (0 : BitVec 8) = (0 : BitVec 8) ∧ (0 : BitVec 8) = (0 : BitVec 8) ∧ (0 : BitVec 8) = (0 : BitVec 8) ∧ (0 : BitVec 8) = (0 : BitVec 8) ∧ (0 : BitVec 8) = (0 : BitVec 8) ∧ (0 : BitVec 8) = (0 : BitVec 8) ∧ (0 : BitVec 8) = (0 : BitVec 8) ∧ (0 : BitVec 8) = (0 : BitVec 8) ∧ (0 : BitVec 8) = (0 : BitVec 8) ∧ (0 : BitVec 8) = (0 : BitVec 8) ∧ (0 : BitVec 8) = (0 : BitVec 8) ∧ (0 : BitVec 8) = (0 : BitVec 8) ∧ (0 : BitVec 8) = (0 : BitVec 8) ∧ (0 : BitVec 8) = (0 : BitVec 8) ∧ (0 : BitVec 8) = (0 : BitVec 8) ∧ (0 : BitVec 8) = (0 : BitVec 8) ∧ (0 : BitVec 8) = (0 : BitVec 8) ∧ (0 : BitVec 8) = (0 : BitVec 8) ∧ (0 : BitVec 8) = (0 : BitVec 8) ∧ (0 : BitVec 8) = (0 : BitVec 8) ∧ (0 : BitVec 8) = (0 : BitVec 8) ∧ (0 : BitVec 8) = (0 : BitVec 8) ∧ (0 : BitVec 8) = (0 : BitVec 8) ∧ (0 : BitVec 8) = (0 : BitVec 8) ∧ (0 : BitVec 8) = (0 : BitVec 8) ∧ (0 : BitVec 8) = (0 : BitVec 8) ∧ (0 : BitVec 8) = (0 : BitVec 8) ∧ (0 : BitVec 8) = (0 : BitVec 8) ∧ (0 : BitVec 8) = (0 : BitVec 8) ∧ (0 : BitVec 8) = (0 : BitVec 8) ∧ (0 : BitVec 8) = (0 : BitVec 8) ∧ (0 : BitVec 8) = (0 : BitVec 8) ∧ x1 0 = x1 0 ∧ x1 1 = x1 1 ∧ x1 2 = x1 2 ∧ x1 3 = x1 3 ∧ x1 4 = x1 4 ∧ x1 5 = x1 5 ∧ x1 6 = x1 6 ∧ x1 7 = x1 7 ∧ List.map (fun (k : Nat) => if k < y then outByte x1 k else (0 : BitVec 8)) (List.range 32) = x1_3.set (↑x : Int).toNat (BitVec.setWidth 8 (x4.getD (IntKind.i64.wrap ((↑x : Int).tdiv (4 : Int))).toNat (0 : BitVec 32) >>> (IntKind.i64.wrap ((24 : Int) - IntKind.i64.wrap ((8 : Int) * (↑x : Int).tmod (4 : Int)))).toNat)) ∧ True) (decide ((↑x : Int) < (32 : Int)))) ((∃ (x_1 : Nat), x_1.le 64 ∧ 0 = 0 ∧ Bool.false = Bool.false ∧ 0 = 0 ∧ 0 = 0 ∧ 0 = 0 ∧ List.length (shaPad b) = List.length (shaPad b) ∧ 0 = 0 ∧ 0 = 0 ∧ x9 ∧ 0 = 0 ∧ (↑x_1 : Int) = (0 : Int) ∧ (0 : BitVec 8) = (0 : BitVec 8) ∧ (0 : BitVec 8) = (0 : BitVec 8) ∧ (0 : BitVec 8) = (0 : BitVec 8) ∧ (0 : BitVec 8) = (0 : BitVec 8) ∧ (0 : BitVec 8) = (0 : BitVec 8) ∧ (0 : BitVec 8) = (0 : BitVec 8) ∧ (0 : BitVec 8) = (0 : BitVec 8) ∧ (0 : BitVec 8) = (0 : BitVec 8) ∧ (0 : BitVec 8) = (0 : BitVec 8) ∧ (0 : BitVec 8) = (0 : BitVec 8) ∧ (0 : BitVec 8) = (0 : BitVec 8) ∧ (0 : BitVec 8) = (0 : BitVec 8) ∧ (0 : BitVec 8) = (0 : BitVec 8) ∧ (0 : BitVec 8) = (0 : BitVec 8) ∧ (0 : BitVec 8) = (0 : BitVec 8) ∧ (0 : BitVec 8) = (0 : BitVec 8) ∧ (0 : BitVec 8) = (0 : BitVec 8) ∧ (0 : BitVec 8) = (0 : BitVec 8) ∧ (0 : BitVec 8) = (0 : BitVec 8) ∧ (0 : BitVec 8) = (0 : BitVec 8) ∧ (0 : BitVec 8) = (0 : BitVec 8) ∧ (0 : BitVec 8) = (0 : BitVec 8) ∧ (0 : BitVec 8) = (0 : BitVec 8) ∧ (0 : BitVec 8) = (0 : BitVec 8) ∧ (0 : BitVec 8) = (0 : BitVec 8) ∧ (0 : BitVec 8) = (0 : BitVec 8) ∧ (0 : BitVec 8) = (0 : BitVec 8) ∧ (0 : BitVec 8) = (0 : BitVec 8) ∧ (0 : BitVec 8) = (0 : BitVec 8) ∧ (0 : BitVec 8) = (0 : BitVec 8) ∧ (0 : BitVec 8) = (0 : BitVec 8) ∧ (0 : BitVec 8) = (0 : BitVec 8) ∧ shaPad b = shaPad b ∧ x5 ∧ x8 ∧ x6 ∧ x2 ∧ x3 ∧ x1_2 ∧ x4_1 ∧ x7 ∧ 64 = 64 ∧ (∀ (y : Nat), y < 64 → datas Bool.false [AV.u32 (shaK.getD y (0 : W32))] = Bool.true ∧ [AV.u32 (shaK.getD y (0 : W32))] = [AV.u32 (shaK.getD y (0 : W32))]) ∧ 64 = 64 ∧ (∀ (y : Nat), y < 64 → datas Bool.false [AV.u32 (if y < x_1 then sch (refBlk b x) y else (0 : BitVec 32))] = Bool.true ∧ [AV.u32 (0 : BitVec 32)] = [AV.u32 (if y < x_1 then sch (refBlk b x) y else (0 : BitVec 32))]) ∧ True) ∧ ∀ (x_1 : Nat), let x1 := if (IntKind.i64.wrap ((↑x_1 : Int) - (15 : Int))).toNat < x_1 then sch (refBlk b x) (IntKind.i64.wrap ((↑x_1 : Int) - (15 : Int))).toNat else (0 : BitVec 32); let x2_1 := if (IntKind.i64.wrap ((↑x_1 : Int) - (2 : Int))).toNat < x_1 then sch (refBlk b x) (IntKind.i64.wrap ((↑x_1 : Int) - (2 : Int))).toNat else (0 : BitVec 32); let x3_1 := IntKind.i64.wrap ((↑(64 * x) : Int) + IntKind.i64.wrap ((4 : Int) * (↑x_1 : Int))); x_1.le 64 → @Bool.rec (fun _ => Prop) ((∃ (x_2 : Nat), x_2.le 64 ∧ 0 = 0 ∧ Bool.false = Bool.false ∧ 0 = 0 ∧ 0 = 0 ∧ 0 = 0 ∧ List.length (shaPad b) = List.length (shaPad b) ∧ 0 = 0 ∧ 0 = 0 ∧ x9 ∧ 0 = 0 ∧ 0 = 0 ∧ (↑x_2 : Int) = (0 : Int) ∧ (0 : BitVec 8) = (0 : BitVec 8) ∧ (0 : BitVec 8) = (0 : BitVec 8) ∧ (0 : BitVec 8) = (0 : BitVec 8) ∧ (0 : BitVec 8) = (0 : BitVec 8) ∧ (0 : BitVec 8) = (0 : BitVec 8) ∧ (0 : BitVec 8) = (0 : BitVec 8) ∧ (0 : BitVec 8) = (0 : BitVec 8) ∧ (0 : BitVec 8) = (0 : BitVec 8) ∧ (0 : BitVec 8) = (0 : BitVec 8) ∧ (0 : BitVec 8) = (0 : BitVec 8) ∧ (0 : BitVec 8) = (0 : BitVec 8) ∧ (0 : BitVec 8) = (0 : BitVec 8) ∧ (0 : BitVec 8) = (0 : BitVec 8) ∧ (0 : BitVec 8) = (0 : BitVec 8) ∧ (0 : BitVec 8) = (0 : BitVec 8) ∧ (0 : BitVec 8) = (0 : BitVec 8) ∧ (0 : BitVec 8) = (0 : BitVec 8) ∧ (0 : BitVec 8) = (0 : BitVec 8) ∧ (0 : BitVec 8) = (0 : BitVec 8) ∧ (0 : BitVec 8) = (0 : BitVec 8) ∧ (0 : BitVec 8) = (0 : BitVec 8) ∧ (0 : BitVec 8) = (0 : BitVec 8) ∧ (0 : BitVec 8) = (0 : BitVec 8) ∧ (0 : BitVec 8) = (0 : BitVec 8) ∧ (0 : BitVec 8) = (0 : BitVec 8) ∧ (0 : BitVec 8) = (0 : BitVec 8) ∧ (0 : BitVec 8) = (0 : BitVec 8) ∧ (0 : BitVec 8) = (0 : BitVec 8) ∧ (0 : BitVec 8) = (0 : BitVec 8) ∧ (0 : BitVec 8) = (0 : BitVec 8) ∧ (0 : BitVec 8) = (0 : BitVec 8) ∧ (0 : BitVec 8) = (0 : BitVec 8) ∧ shaPad b = shaPad b ∧ x5 ∧ x8 ∧ x6 ∧ x2 ∧ x3 ∧ x1_2 ∧ x4_1 ∧ x7 ∧ 64 = 64 ∧ (∀ (y : Nat), y < 64 → datas Bool.false [AV.u32 (shaK.getD y (0 : W32))] = Bool.true ∧ [AV.u32 (shaK.getD y (0 : W32))] = [AV.u32 (shaK.getD y (0 : W32))]) ∧ 64 = 64 ∧ (∀ (y : Nat), y < 64 → datas Bool.false [AV.u32 (sch (refBlk b x) y)] = Bool.true ∧ [AV.u32 (if y < x_1 then sch (refBlk b x) y else (0 : BitVec 32))] = [AV.u32 (sch (refBlk b x) y)]) ∧ rnds (sch (refBlk b x)) (refSt b x) x_2 0 = refSt b x 0 ∧ rnds (sch (refBlk b x)) (refSt b x) x_2 1 = refSt b x 1 ∧ rnds (sch (refBlk b x)) (refSt b x) x_2 2 = refSt b x 2 ∧ rnds (sch (refBlk b x)) (refSt b x) x_2 3 = refSt b x 3 ∧ rnds (sch (refBlk b x)) (refSt b x) x_2 4 = refSt b x 4 ∧ rnds (sch (refBlk b x)) (refSt b x) x_2 5 = refSt b x 5 ∧ rnds (sch (refBlk b x)) (refSt b x) x_2 6 = refSt b x 6 ∧ rnds (sch (refBlk b x)) (refSt b x) x_2 7 = refSt b x 7 ∧ True) ∧ ∀ (x_2 : Nat), let x1 := rnds (sch (refBlk b x)) (refSt b x) x_2 4; let x2_2 := rnds (sch (refBlk b x)) (refSt b x) x_2 0; let x3_2 := rnds (sch (refBlk b x)) (refSt b x) x_2 7 + ((x1 >>> 6 ||| x1 <<< 26) ^^^ (x1 >>> 11 ||| x1 <<< 21) ^^^ (x1 >>> 25 ||| x1 <<< 7)) + chS x1 (rnds (sch (refBlk b x)) (refSt b x) x_2 5) (rnds (sch (refBlk b x)) (refSt b x) x_2 6) + shaK.getD (↑x_2 : Int).toNat (0 : W32) + sch (refBlk b x) (↑x_2 : Int).toNat; x_2.le 64 → @Bool.rec (fun _ => Prop) ((0 : Int) ≤ (0 : Int) ∧ (0 : Int) ≤ (0 : Int) ∧ (0 : Int) ≤ (0 : Int) ∧ (0 : Int) ≤ Int.ofNat 1 ∧ (0 : Int) ≤ Int.ofNat 1 ∧ (0 : Int) ≤ Int.ofNat 1 ∧ (0 : Int) ≤ Int.ofNat 2 ∧ (0 : Int) ≤ Int.ofNat 2 ∧ (0 : Int) ≤ Int.ofNat 2 ∧ (0 : Int) ≤ Int.ofNat 3 ∧ (0 : Int) ≤ Int.ofNat 3 ∧ (0 : Int) ≤ Int.ofNat 3 ∧ (0 : Int) ≤ Int.ofNat 4 ∧ (0 : Int) ≤ Int.ofNat 4 ∧ (0 : Int) ≤ Int.ofNat 4 ∧ (0 : Int) ≤ Int.ofNat 5 ∧ (0 : Int) ≤ Int.ofNat 5 ∧ (0 : Int) ≤ Int.ofNat 5 ∧ (0 : Int) ≤ Int.ofNat 6 ∧ (0 : Int) ≤ Int.ofNat 6 ∧ (0 : Int) ≤ Int.ofNat 6 ∧ (0 : Int) ≤ Int.ofNat 7 ∧ (0 : Int) ≤ Int.ofNat 7 ∧ (0 : Int) ≤ Int.ofNat 7 ∧ ∃ (y : Nat), List.length (shaPad b) - 64 * y < List.length (shaPad b) - 64 * x ∧ (64 * y).le (List.length (shaPad b)) ∧ 0 = 0 ∧ Bool.false = Bool.false ∧ 0 = 0 ∧ 0 = 0 ∧ 0 = 0 ∧ List.length (shaPad b) = List.length (shaPad b) ∧ 0 = 0 ∧ 0 = 0 ∧ (↑(64 * y) : Int) = IntKind.i64.wrap ((↑(64 * x) : Int) + (64 : Int)) ∧ (0 : BitVec 8) = (0 : BitVec 8) ∧ (0 : BitVec 8) = (0 : BitVec 8) ∧ (0 : BitVec 8) = (0 : BitVec 8) ∧ (0 : BitVec 8) = (0 : BitVec 8) ∧ (0 : BitVec 8) = (0 : BitVec 8) ∧ (0 : BitVec 8) = (0 : BitVec 8) ∧ (0 : BitVec 8) = (0 : BitVec 8) ∧ (0 : BitVec 8) = (0 : BitVec 8) ∧ (0 : BitVec 8) = (0 : BitVec 8) ∧ (0 : BitVec 8) = (0 : BitVec 8) ∧ (0 : BitVec 8) = (0 : BitVec 8) ∧ (0 : BitVec 8) = (0 : BitVec 8) ∧ (0 : BitVec 8) = (0 : BitVec 8) ∧ (0 : BitVec 8) = (0 : BitVec 8) ∧ (0 : BitVec 8) = (0 : BitVec 8) ∧ (0 : BitVec 8) = (0 : BitVec 8) ∧ (0 : BitVec 8) = (0 : BitVec 8) ∧ (0 : BitVec 8) = (0 : BitVec 8) ∧ (0 : BitVec 8) = (0 : BitVec 8) ∧ (0 : BitVec 8) = (0 : BitVec 8) ∧ (0 : BitVec 8) = (0 : BitVec 8) ∧ (0 : BitVec 8) = (0 : BitVec 8) ∧ (0 : BitVec 8) = (0 : BitVec 8) ∧ (0 : BitVec 8) = (0 : BitVec 8) ∧ (0 : BitVec 8) = (0 : BitVec 8) ∧ (0 : BitVec 8) = (0 : BitVec 8) ∧ (0 : BitVec 8) = (0 : BitVec 8) ∧ (0 : BitVec 8) = (0 : BitVec 8) ∧ (0 : BitVec 8) = (0 : BitVec 8) ∧ (0 : BitVec 8) = (0 : BitVec 8) ∧ (0 : BitVec 8) = (0 : BitVec 8) ∧ (0 : BitVec 8) = (0 : BitVec 8) ∧ shaPad b = shaPad b ∧ refSt b y 0 = refSt b x 0 + x2_2 ∧ refSt b y 1 = refSt b x 1 + rnds (sch (refBlk b x)) (refSt b x) x_2 1 ∧ refSt b y 2 = refSt b x 2 + rnds (sch (refBlk b x)) (refSt b x) x_2 2 ∧ refSt b y 3 = refSt b x 3 + rnds (sch (refBlk b x)) (refSt b x) x_2 3 ∧ refSt b y 4 = refSt b x 4 + x1 ∧ refSt b y 5 = refSt b x 5 + rnds (sch (refBlk b x)) (refSt b x) x_2 5 ∧ refSt b y 6 = refSt b x 6 + rnds (sch (refBlk b x)) (refSt b x) x_2 6 ∧ refSt b y 7 = refSt b x 7 + rnds (sch (refBlk b x)) (refSt b x) x_2 7 ∧ 64 = 64 ∧ (∀ (y : Nat), y < 64 → datas Bool.false [AV.u32 (shaK.getD y (0 : W32))] = Bool.true ∧ [AV.u32 (shaK.getD y (0 : W32))] = [AV.u32 (shaK.getD y (0 : W32))]) ∧ True) ((0 : Int) ≤ (6 : Int) ∧ (0 : Int) ≤ Int.ofNat 26 ∧ (0 : Int) ≤ (11 : Int) ∧ (0 : Int) ≤ Int.ofNat 21 ∧ (0 : Int) ≤ (25 : Int) ∧ (0 : Int) ≤ Int.ofNat 7 ∧ (0 : Int) ≤ (↑x_2 : Int) ∧ (↑x_2 : Int).toNat < 64 ∧ (↑x_2 : Int).toNat < 64 ∧ True ∧ (0 : Int) ≤ (↑x_2 : Int) ∧ (↑x_2 : Int).toNat < 64 ∧ (↑x_2 : Int).toNat < 64 ∧ True ∧ (0 : Int) ≤ (2 : Int) ∧ (0 : Int) ≤ Int.ofNat 30 ∧ (0 : Int) ≤ (13 : Int) ∧ (0 : Int) ≤ Int.ofNat 19 ∧ (0 : Int) ≤ (22 : Int) ∧ (0 : Int) ≤ Int.ofNat 10 ∧ ∃ (y : Nat), 64 - y < 64 - x_2 ∧ y.le 64 ∧ 0 = 0 ∧ Bool.false = Bool.false ∧ 0 = 0 ∧ 0 = 0 ∧ 0 = 0 ∧ List.length (shaPad b) = List.length (shaPad b) ∧ 0 = 0 ∧ 0 = 0 ∧ x9 ∧ 0 = 0 ∧ 0 = 0 ∧ (↑y : Int) = IntKind.i64.wrap ((↑x_2 : Int) + (1 : Int)) ∧ (0 : BitVec 8) = (0 : BitVec 8) ∧ (0 : BitVec 8) = (0 : BitVec 8) ∧ (0 : BitVec 8) = (0 : BitVec 8) ∧ (0 : BitVec 8) = (0 : BitVec 8) ∧ (0 : BitVec 8) = (0 : BitVec 8) ∧ (0 : BitVec 8) = (0 : BitVec 8) ∧ (0 : BitVec 8) = (0 : BitVec 8) ∧ (0 : BitVec 8) = (0 : BitVec 8) ∧ (0 : BitVec 8) = (0 : BitVec 8) ∧ (0 : BitVec 8) = (0 : BitVec 8) ∧ (0 : BitVec 8) = (0 : BitVec 8) ∧ (0 : BitVec 8) = (0 : BitVec 8) ∧ (0 : BitVec 8) = (0 : BitVec 8) ∧ (0 : BitVec 8) = (0 : BitVec 8) ∧ (0 : BitVec 8) = (0 : BitVec 8) ∧ (0 : BitVec 8) = (0 : BitVec 8) ∧ (0 : BitVec 8) = (0 : BitVec 8) ∧ (0 : BitVec 8) = (0 : BitVec 8) ∧ (0 : BitVec 8) = (0 : BitVec 8) ∧ (0 : BitVec 8) = (0 : BitVec 8) ∧ (0 : BitVec 8) = (0 : BitVec 8) ∧ (0 : BitVec 8) = (0 : BitVec 8) ∧ (0 : BitVec 8) = (0 : BitVec 8) ∧ (0 : BitVec 8) = (0 : BitVec 8) ∧ (0 : BitVec 8) = (0 : BitVec 8) ∧ (0 : BitVec 8) = (0 : BitVec 8) ∧ (0 : BitVec 8) = (0 : BitVec 8) ∧ (0 : BitVec 8) = (0 : BitVec 8) ∧ (0 : BitVec 8) = (0 : BitVec 8) ∧ (0 : BitVec 8) = (0 : BitVec 8) ∧ (0 : BitVec 8) = (0 : BitVec 8) ∧ (0 : BitVec 8) = (0 : BitVec 8) ∧ shaPad b = shaPad b ∧ x5 ∧ x8 ∧ x6 ∧ x2 ∧ x3 ∧ x1_2 ∧ x4_1 ∧ x7 ∧ 64 = 64 ∧ (∀ (y : Nat), y < 64 → datas Bool.false [AV.u32 (shaK.getD y (0 : W32))] = Bool.true ∧ [AV.u32 (shaK.getD y (0 : W32))] = [AV.u32 (shaK.getD y (0 : W32))]) ∧ 64 = 64 ∧ (∀ (y : Nat), y < 64 → datas Bool.false [AV.u32 (sch (refBlk b x) y)] = Bool.true ∧ [AV.u32 (sch (refBlk b x) y)] = [AV.u32 (sch (refBlk b x) y)]) ∧ rnds (sch (refBlk b x)) (refSt b x) y 0 = x3_2 + (((x2_2 >>> 2 ||| x2_2 <<< 30) ^^^ (x2_2 >>> 13 ||| x2_2 <<< 19) ^^^ (x2_2 >>> 22 ||| x2_2 <<< 10)) + mjS x2_2 (rnds (sch (refBlk b x)) (refSt b x) x_2 1) (rnds (sch (refBlk b x)) (refSt b x) x_2 2)) ∧ rnds (sch (refBlk b x)) (refSt b x) y 1 = x2_2 ∧ rnds (sch (refBlk b x)) (refSt b x) y 2 = rnds (sch (refBlk b x)) (refSt b x) x_2 1 ∧ rnds (sch (refBlk b x)) (refSt b x) y 3 = rnds (sch (refBlk b x)) (refSt b x) x_2 2 ∧ rnds (sch (refBlk b x)) (refSt b x) y 4 = rnds (sch (refBlk b x)) (refSt b x) x_2 3 + x3_2 ∧ rnds (sch (refBlk b x)) (refSt b x) y 5 = x1 ∧ rnds (sch (refBlk b x)) (refSt b x) y 6 = rnds (sch (refBlk b x)) (refSt b x) x_2 5 ∧ rnds (sch (refBlk b x)) (refSt b x) y 7 = rnds (sch (refBlk b x)) (refSt b x) x_2 6 ∧ True) (decide ((↑x_2 : Int) < (64 : Int)))) (@Bool.rec (fun _ => Prop) ((0 : Int) ≤ IntKind.i64.wrap ((↑x_1 : Int) - (2 : Int)) ∧ (IntKind.i64.wrap ((↑x_1 : Int) - (2 : Int))).toNat < 64 ∧ (IntKind.i64.wrap ((↑x_1 : Int) - (2 : Int))).toNat < 64 ∧ True ∧ (0 : Int) ≤ IntKind.i64.wrap ((↑x_1 : Int) - (15 : Int)) ∧ (IntKind.i64.wrap ((↑x_1 : Int) - (15 : Int))).toNat < 64 ∧ (IntKind.i64.wrap ((↑x_1 : Int) - (15 : Int))).toNat < 64 ∧ True ∧ (0 : Int) ≤ (17 : Int) ∧ (0 : Int) ≤ Int.ofNat 15 ∧ (0 : Int) ≤ (19 : Int) ∧ (0 : Int) ≤ Int.ofNat 13 ∧ (0 : Int) ≤ IntKind.i64.wrap ((↑x_1 : Int) - (7 : Int)) ∧ (IntKind.i64.wrap ((↑x_1 : Int) - (7 : Int))).toNat < 64 ∧ (IntKind.i64.wrap ((↑x_1 : Int) - (7 : Int))).toNat < 64 ∧ True ∧ (0 : Int) ≤ (7 : Int) ∧ (0 : Int) ≤ Int.ofNat 25 ∧ (0 : Int) ≤ (18 : Int) ∧ (0 : Int) ≤ Int.ofNat 14 ∧ (0 : Int) ≤ IntKind.i64.wrap ((↑x_1 : Int) - (16 : Int)) ∧ (IntKind.i64.wrap ((↑x_1 : Int) - (16 : Int))).toNat < 64 ∧ (IntKind.i64.wrap ((↑x_1 : Int) - (16 : Int))).toNat < 64 ∧ True ∧ (0 : Int) ≤ (↑x_1 : Int) ∧ (↑x_1 : Int).toNat < 64 ∧ (↑x_1 : Int).toNat < 64 ∧ [AV.u32 (if (↑x_1 : Int).toNat < x_1 then sch (refBlk b x) (↑x_1 : Int).toNat else (0 : BitVec 32))].length = 1 ∧ ∃ (y : Nat), 64 - y < 64 - x_1 ∧ y.le 64 ∧ 0 = 0 ∧ Bool.false = Bool.false ∧ 0 = 0 ∧ 0 = 0 ∧ 0 = 0 ∧ List.length (shaPad b) = List.length (shaPad b) ∧ 0 = 0 ∧ 0 = 0 ∧ x9 ∧ 0 = 0 ∧ (↑y : Int) = IntKind.i64.wrap ((↑x_1 : Int) + (1 : Int)) ∧ (0 : BitVec 8) = (0 : BitVec 8) ∧ (0 : BitVec 8) = (0 : BitVec 8) ∧ (0 : BitVec 8) = (0 : BitVec 8) ∧ (0 : BitVec 8) = (0 : BitVec 8) ∧ (0 : BitVec 8) = (0 : BitVec 8) ∧ (0 : BitVec 8) = (0 : BitVec 8) ∧ (0 : BitVec 8) = (0 : BitVec 8) ∧ (0 : BitVec 8) = (0 : BitVec 8) ∧ (0 : BitVec 8) = (0 : BitVec 8) ∧ (0 : BitVec 8) = (0 : BitVec 8) ∧ (0 : BitVec 8) = (0 : BitVec 8) ∧ (0 : BitVec 8) = (0 : BitVec 8) ∧ (0 : BitVec 8) = (0 : BitVec 8) ∧ (0 : BitVec 8) = (0 : BitVec 8) ∧ (0 : BitVec 8) = (0 : BitVec 8) ∧ (0 : BitVec 8) = (0 : BitVec 8) ∧ (0 : BitVec 8) = (0 : BitVec 8) ∧ (0 : BitVec 8) = (0 : BitVec 8) ∧ (0 : BitVec 8) = (0 : BitVec 8) ∧ (0 : BitVec 8) = (0 : BitVec 8) ∧ (0 : BitVec 8) = (0 : BitVec 8) ∧ (0 : BitVec 8) = (0 : BitVec 8) ∧ (0 : BitVec 8) = (0 : BitVec 8) ∧ (0 : BitVec 8) = (0 : BitVec 8) ∧ (0 : BitVec 8) = (0 : BitVec 8) ∧ (0 : BitVec 8) = (0 : BitVec 8) ∧ (0 : BitVec 8) = (0 : BitVec 8) ∧ (0 : BitVec 8) = (0 : BitVec 8) ∧ (0 : BitVec 8) = (0 : BitVec 8) ∧ (0 : BitVec 8) = (0 : BitVec 8) ∧ (0 : BitVec 8) = (0 : BitVec 8) ∧ (0 : BitVec 8) = (0 : BitVec 8) ∧ shaPad b = shaPad b ∧ x5 ∧ x8 ∧ x6 ∧ x2 ∧ x3 ∧ x1_2 ∧ x4_1 ∧ x7 ∧ 64 = 64 ∧ (∀ (y : Nat), y < 64 → datas Bool.false [AV.u32 (shaK.getD y (0 : W32))] = Bool.true ∧ [AV.u32 (shaK.getD y (0 : W32))] = [AV.u32 (shaK.getD y (0 : W32))]) ∧ 64 = 64 ∧ (∀ (y_1 : Nat), y_1 < 64 → datas Bool.false [AV.u32 (if y_1 < y then sch (refBlk b x) y_1 else (0 : BitVec 32))] = Bool.true ∧ (bif y_1 == (↑x_1 : Int).toNat then [AV.u32 ((((x2_1 >>> 17 ||| x2_1 <<< 15) ^^^ (x2_1 >>> 19 ||| x2_1 <<< 13) ^^^ x2_1 >>> 10) + if (IntKind.i64.wrap ((↑x_1 : Int) - (7 : Int))).toNat < x_1 then sch (refBlk b x) (IntKind.i64.wrap ((↑x_1 : Int) - (7 : Int))).toNat else (0 : BitVec 32)) + ((x1 >>> 7 ||| x1 <<< 25) ^^^ (x1 >>> 18 ||| x1 <<< 14) ^^^ x1 >>> 3) + if (IntKind.i64.wrap ((↑x_1 : Int) - (16 : Int))).toNat < x_1 then sch (refBlk b x) (IntKind.i64.wrap ((↑x_1 : Int) - (16 : Int))).toNat else (0 : BitVec 32))] else [AV.u32 (if y_1 < x_1 then sch (refBlk b x) y_1 else (0 : BitVec 32))]) = [AV.u32 (if y_1 < y then sch (refBlk b x) y_1 else (0 : BitVec 32))]) ∧ True) ((∃ (x_2 : Nat), x_2.le 4 ∧ 0 = 0 ∧ Bool.false = Bool.false ∧ 0 = 0 ∧ 0 = 0 ∧ 0 = 0 ∧ List.length (shaPad b) = List.length (shaPad b) ∧ 0 = 0 ∧ 0 = 0 ∧ x9 ∧ 0 = 0 ∧ (↑x_1 : Int) = (↑x_1 : Int) ∧ (↑x_2 : Int) = (0 : Int) ∧ (0 : BitVec 8) = (0 : BitVec 8) ∧ (0 : BitVec 8) = (0 : BitVec 8) ∧ (0 : BitVec 8) = (0 : BitVec 8) ∧ (0 : BitVec 8) = (0 : BitVec 8) ∧ (0 : BitVec 8) = (0 : BitVec 8) ∧ (0 : BitVec 8) = (0 : BitVec 8) ∧ (0 : BitVec 8) = (0 : BitVec 8) ∧ (0 : BitVec 8) = (0 : BitVec 8) ∧ (0 : BitVec 8) = (0 : BitVec 8) ∧ (0 : BitVec 8) = (0 : BitVec 8) ∧ (0 : BitVec 8) = (0 : BitVec 8) ∧ (0 : BitVec 8) = (0 : BitVec 8) ∧ (0 : BitVec 8) = (0 : BitVec 8) ∧ (0 : BitVec 8) = (0 : BitVec 8) ∧ (0 : BitVec 8) = (0 : BitVec 8) ∧ (0 : BitVec 8) = (0 : BitVec 8) ∧ (0 : BitVec 8) = (0 : BitVec 8) ∧ (0 : BitVec 8) = (0 : BitVec 8) ∧ (0 : BitVec 8) = (0 : BitVec 8) ∧ (0 : BitVec 8) = (0 : BitVec 8) ∧ (0 : BitVec 8) = (0 : BitVec 8) ∧ (0 : BitVec 8) = (0 : BitVec 8) ∧ (0 : BitVec 8) = (0 : BitVec 8) ∧ (0 : BitVec 8) = (0 : BitVec 8) ∧ (0 : BitVec 8) = (0 : BitVec 8) ∧ (0 : BitVec 8) = (0 : BitVec 8) ∧ (0 : BitVec 8) = (0 : BitVec 8) ∧ (0 : BitVec 8) = (0 : BitVec 8) ∧ (0 : BitVec 8) = (0 : BitVec 8) ∧ (0 : BitVec 8) = (0 : BitVec 8) ∧ (0 : BitVec 8) = (0 : BitVec 8) ∧ (0 : BitVec 8) = (0 : BitVec 8) ∧ shaPad b = shaPad b ∧ x5 ∧ x8 ∧ x6 ∧ x2 ∧ x3 ∧ x1_2 ∧ x4_1 ∧ x7 ∧ 64 = 64 ∧ (∀ (y : Nat), y < 64 → datas Bool.false [AV.u32 (shaK.getD y (0 : W32))] = Bool.true ∧ [AV.u32 (shaK.getD y (0 : W32))] = [AV.u32 (shaK.getD y (0 : W32))]) ∧ 64 = 64 ∧ (∀ (y : Nat), y < 64 → datas Bool.false [AV.u32 (if y < x_1 then sch (refBlk b x) y else if y = x_1 then partW (refBlk b x) x_1 x_2 else (0 : BitVec 32))] = Bool.true ∧ [AV.u32 (if y < x_1 then sch (refBlk b x) y else (0 : BitVec 32))] = [AV.u32 (if y < x_1 then sch (refBlk b x) y else if y = x_1 then partW (refBlk b x) x_1 x_2 else (0 : BitVec 32))]) ∧ True) ∧ ∀ (x_2 : Nat), x_2.le 4 → @Bool.rec (fun _ => Prop) (∃ (y : Nat), 64 - y < 64 - x_1 ∧ y.le 64 ∧ 0 = 0 ∧ Bool.false = Bool.false ∧ 0 = 0 ∧ 0 = 0 ∧ 0 = 0 ∧ List.length (shaPad b) = List.length (shaPad b) ∧ 0 = 0 ∧ 0 = 0 ∧ x9 ∧ 0 = 0 ∧ (↑y : Int) = IntKind.i64.wrap ((↑x_1 : Int) + (1 : Int)) ∧ (0 : BitVec 8) = (0 : BitVec 8) ∧ (0 : BitVec 8) = (0 : BitVec 8) ∧ (0 : BitVec 8) = (0 : BitVec 8) ∧ (0 : BitVec 8) = (0 : BitVec 8) ∧ (0 : BitVec 8) = (0 : BitVec 8) ∧ (0 : BitVec 8) = (0 : BitVec 8) ∧ (0 : BitVec 8) = (0 : BitVec 8) ∧ (0 : BitVec 8) = (0 : BitVec 8) ∧ (0 : BitVec 8) = (0 : BitVec 8) ∧ (0 : BitVec 8) = (0 : BitVec 8) ∧ (0 : BitVec 8) = (0 : BitVec 8) ∧ (0 : BitVec 8) = (0 : BitVec 8) ∧ (0 : BitVec 8) = (0 : BitVec 8) ∧ (0 : BitVec 8) = (0 : BitVec 8) ∧ (0 : BitVec 8) = (0 : BitVec 8) ∧ (0 : BitVec 8) = (0 : BitVec 8) ∧ (0 : BitVec 8) = (0 : BitVec 8) ∧ (0 : BitVec 8) = (0 : BitVec 8) ∧ (0 : BitVec 8) = (0 : BitVec 8) ∧ (0 : BitVec 8) = (0 : BitVec 8) ∧ (0 : BitVec 8) = (0 : BitVec 8) ∧ (0 : BitVec 8) = (0 : BitVec 8) ∧ (0 : BitVec 8) = (0 : BitVec 8) ∧ (0 : BitVec 8) = (0 : BitVec 8) ∧ (0 : BitVec 8) = (0 : BitVec 8) ∧ (0 : BitVec 8) = (0 : BitVec 8) ∧ (0 : BitVec 8) = (0 : BitVec 8) ∧ (0 : BitVec 8) = (0 : BitVec 8) ∧ (0 : BitVec 8) = (0 : BitVec 8) ∧ (0 : BitVec 8) = (0 : BitVec 8) ∧ (0 : BitVec 8) = (0 : BitVec 8) ∧ (0 : BitVec 8) = (0 : BitVec 8) ∧ shaPad b = shaPad b ∧ x5 ∧ x8 ∧ x6 ∧ x2 ∧ x3 ∧ x1_2 ∧ x4_1 ∧ x7 ∧ 64 = 64 ∧ (∀ (y : Nat), y < 64 → datas Bool.false [AV.u32 (shaK.getD y (0 : W32))] = Bool.true ∧ [AV.u32 (shaK.getD y (0 : W32))] = [AV.u32 (shaK.getD y (0 : W32))]) ∧ 64 = 64 ∧ (∀ (y_1 : Nat), y_1 < 64 → datas Bool.false [AV.u32 (if y_1 < y then sch (refBlk b x) y_1 else (0 : BitVec 32))] = Bool.true ∧ [AV.u32 (if y_1 < x_1 then sch (refBlk b x) y_1 else if y_1 = x_1 then partW (refBlk b x) x_1 x_2 else (0 : BitVec 32))] = [AV.u32 (if y_1 < y then sch (refBlk b x) y_1 else (0 : BitVec 32))]) ∧ True) ((0 : Int) ≤ (↑x_1 : Int) ∧ (↑x_1 : Int).toNat < 64 ∧ (↑x_1 : Int).toNat < 64 ∧ True ∧ (0 : Int) ≤ IntKind.i64.wrap (x3_1 + (↑x_2 : Int)) ∧ (IntKind.i64.wrap (x3_1 + (↑x_2 : Int))).toNat < List.length (shaPad b) ∧ (IntKind.i64.wrap (x3_1 + (↑x_2 : Int))).toNat < List.length (shaPad b) ∧ (0 : Int) ≤ (↑x_1 : Int) ∧ (↑x_1 : Int).toNat < 64 ∧ (↑x_1 : Int).toNat < 64 ∧ [AV.u32 (if (↑x_1 : Int).toNat < x_1 then sch (refBlk b x) (↑x_1 : Int).toNat else if (↑x_1 : Int).toNat = x_1 then partW (refBlk b x) x_1 x_2 else (0 : BitVec 32))].length = 1 ∧ ∃ (y : Nat), 4 - y < 4 - x_2 ∧ y.le 4 ∧ 0 = 0 ∧ Bool.false = Bool.false ∧ 0 = 0 ∧ 0 = 0 ∧ 0 = 0 ∧ List.length (shaPad b) = List.length (shaPad b) ∧ 0 = 0 ∧ 0 = 0 ∧ x9 ∧ 0 = 0 ∧ (↑x_1 : Int) = (↑x_1 : Int) ∧ (↑y : Int) = IntKind.i64.wrap ((↑x_2 : Int) + (1 : Int)) ∧ (0 : BitVec 8) = (0 : BitVec 8) ∧ (0 : BitVec 8) = (0 : BitVec 8) ∧ (0 : BitVec 8) = (0 : BitVec 8) ∧ (0 : BitVec 8) = (0 : BitVec 8) ∧ (0 : BitVec 8) = (0 : BitVec 8) ∧ (0 : BitVec 8) = (0 : BitVec 8) ∧ (0 : BitVec 8) = (0 : BitVec 8) ∧ (0 : BitVec 8) = (0 : BitVec 8) ∧ (0 : BitVec 8) = (0 : BitVec 8) ∧ (0 : BitVec 8) = (0 : BitVec 8) ∧ (0 : BitVec 8) = (0 : BitVec 8) ∧ (0 : BitVec 8) = (0 : BitVec 8) ∧ (0 : BitVec 8) = (0 : BitVec 8) ∧ (0 : BitVec 8) = (0 : BitVec 8) ∧ (0 : BitVec 8) = (0 : BitVec 8) ∧ (0 : BitVec 8) = (0 : BitVec 8) ∧ (0 : BitVec 8) = (0 : BitVec 8) ∧ (0 : BitVec 8) = (0 : BitVec 8) ∧ (0 : BitVec 8) = (0 : BitVec 8) ∧ (0 : BitVec 8) = (0 : BitVec 8) ∧ (0 : BitVec 8) = (0 : BitVec 8) ∧ (0 : BitVec 8) = (0 : BitVec 8) ∧ (0 : BitVec 8) = (0 : BitVec 8) ∧ (0 : BitVec 8) = (0 : BitVec 8) ∧ (0 : BitVec 8) = (0 : BitVec 8) ∧ (0 : BitVec 8) = (0 : BitVec 8) ∧ (0 : BitVec 8) = (0 : BitVec 8) ∧ (0 : BitVec 8) = (0 : BitVec 8) ∧ (0 : BitVec 8) = (0 : BitVec 8) ∧ (0 : BitVec 8) = (0 : BitVec 8) ∧ (0 : BitVec 8) = (0 : BitVec 8) ∧ (0 : BitVec 8) = (0 : BitVec 8) ∧ shaPad b = shaPad b ∧ x5 ∧ x8 ∧ x6 ∧ x2 ∧ x3 ∧ x1_2 ∧ x4_1 ∧ x7 ∧ 64 = 64 ∧ (∀ (y : Nat), y < 64 → datas Bool.false [AV.u32 (shaK.getD y (0 : W32))] = Bool.true ∧ [AV.u32 (shaK.getD y (0 : W32))] = [AV.u32 (shaK.getD y (0 : W32))]) ∧ 64 = 64 ∧ (∀ (y_1 : Nat), y_1 < 64 → datas Bool.false [AV.u32 (if y_1 < x_1 then sch (refBlk b x) y_1 else if y_1 = x_1 then partW (refBlk b x) x_1 y else (0 : BitVec 32))] = Bool.true ∧ (bif y_1 == (↑x_1 : Int).toNat then [AV.u32 ((if (↑x_1 : Int).toNat < x_1 then sch (refBlk b x) (↑x_1 : Int).toNat else if (↑x_1 : Int).toNat = x_1 then partW (refBlk b x) x_1 x_2 else (0 : BitVec 32)) * BitVec.ofNat 32 256 + BitVec.setWidth 32 (List.getD (shaPad b) (IntKind.i64.wrap (x3_1 + (↑x_2 : Int))).toNat (0 : BitVec 8)))] else [AV.u32 (if y_1 < x_1 then sch (refBlk b x) y_1 else if y_1 = x_1 then partW (refBlk b x) x_1 x_2 else (0 : BitVec 32))]) = [AV.u32 (if y_1 < x_1 then sch (refBlk b x) y_1 else if y_1 = x_1 then partW (refBlk b x) x_1 y else (0 : BitVec 32))]) ∧ True) (decide ((↑x_2 : Int) < (4 : Int)))) (decide ((↑x_1 : Int) < (16 : Int)))) (decide ((↑x_1 : Int) < (64 : Int)))) (decide ((↑(64 * x) : Int) < (↑(List.length (shaPad b)) : Int)))) ((0 : Int) ≤ IntKind.i64.wrap ((8 : Int) * ((7 : Int) - (↑x : Int))) ∧ 1 = x1_1.length ∧ List.length b + 1 + zc (List.length b) + x = List.length x2 ∧ roomFor (List.length b + 1 + zc (List.length b) + x) x1_1.length 1 ∧ ∃ (y : Nat), 8 - y < 8 - x ∧ y.le 8 ∧ 0 = 0 ∧ Bool.false = (Bool.false && decide (x1_1.length = 0)) ∧ 0 = 0 ∧ 0 = 0 ∧ 0 = 0 ∧ List.length b + 1 + zc (List.length b) + y = List.length b + 1 + zc (List.length b) + x + x1_1.length ∧ x3 = x3 ∧ (7 : Int) - (↑y : Int) = IntKind.i64.wrap ((7 : Int) - (↑x : Int) - (1 : Int)) ∧ (0 : BitVec 8) = (0 : BitVec 8) ∧ (0 : BitVec 8) = (0 : BitVec 8) ∧ (0 : BitVec 8) = (0 : BitVec 8) ∧ (0 : BitVec 8) = (0 : BitVec 8) ∧ (0 : BitVec 8) = (0 : BitVec 8) ∧ (0 : BitVec 8) = (0 : BitVec 8) ∧ (0 : BitVec 8) = (0 : BitVec 8) ∧ (0 : BitVec 8) = (0 : BitVec 8) ∧ (0 : BitVec 8) = (0 : BitVec 8) ∧ (0 : BitVec 8) = (0 : BitVec 8) ∧ (0 : BitVec 8) = (0 : BitVec 8) ∧ (0 : BitVec 8) = (0 : BitVec 8) ∧ (0 : BitVec 8) = (0 : BitVec 8) ∧ (0 : BitVec 8) = (0 : BitVec 8) ∧ (0 : BitVec 8) = (0 : BitVec 8) ∧ (0 : BitVec 8) = (0 : BitVec 8) ∧ (0 : BitVec 8) = (0 : BitVec 8) ∧ (0 : BitVec 8) = (0 : BitVec 8) ∧ (0 : BitVec 8) = (0 : BitVec 8) ∧ (0 : BitVec 8) = (0 : BitVec 8) ∧ (0 : BitVec 8) = (0 : BitVec 8) ∧ (0 : BitVec 8) = (0 : BitVec 8) ∧ (0 : BitVec 8) = (0 : BitVec 8) ∧ (0 : BitVec 8) = (0 : BitVec 8) ∧ (0 : BitVec 8) = (0 : BitVec 8) ∧ (0 : BitVec 8) = (0 : BitVec 8) ∧ (0 : BitVec 8) = (0 : BitVec 8) ∧ (0 : BitVec 8) = (0 : BitVec 8) ∧ (0 : BitVec 8) = (0 : BitVec 8) ∧ (0 : BitVec 8) = (0 : BitVec 8) ∧ (0 : BitVec 8) = (0 : BitVec 8) ∧ (0 : BitVec 8) = (0 : BitVec 8) ∧ b ++ BitVec.ofNat 8 128 :: (List.replicate (zc (List.length b)) (BitVec.ofNat 8 0) ++ List.take y (count8 x3)) = x2 ++ x1_1 ∧ True) (decide ((0 : Int) ≤ (7 : Int) - (↑x : Int)))) (1 = 1 ∧ List.length b + 1 + x = List.length (b ++ BitVec.ofNat 8 128 :: List.replicate x (0 : BitVec 8)) ∧ roomFor (List.length b + 1 + x) 1 1 ∧ ∃ (y : Nat), 64 - y < 64 - x ∧ y.le (zc (List.length b)) ∧ b = b ∧ 0 = 0 ∧ Bool.false = Bool.false ∧ 0 = 0 ∧ 0 = 0 ∧ 0 = 0 ∧ List.length b + 1 + y = List.length b + 1 + x + 1 ∧ (0 : BitVec 8) = (0 : BitVec 8) ∧ (0 : BitVec 8) = (0 : BitVec 8) ∧ (0 : BitVec 8) = (0 : BitVec 8) ∧ (0 : BitVec 8) = (0 : BitVec 8) ∧ (0 : BitVec 8) = (0 : BitVec 8) ∧ (0 : BitVec 8) = (0 : BitVec 8) ∧ (0 : BitVec 8) = (0 : BitVec 8) ∧ (0 : BitVec 8) = (0 : BitVec 8) ∧ (0 : BitVec 8) = (0 : BitVec 8) ∧ (0 : BitVec 8) = (0 : BitVec 8) ∧ (0 : BitVec 8) = (0 : BitVec 8) ∧ (0 : BitVec 8) = (0 : BitVec 8) ∧ (0 : BitVec 8) = (0 : BitVec 8) ∧ (0 : BitVec 8) = (0 : BitVec 8) ∧ (0 : BitVec 8) = (0 : BitVec 8) ∧ (0 : BitVec 8) = (0 : BitVec 8) ∧ (0 : BitVec 8) = (0 : BitVec 8) ∧ (0 : BitVec 8) = (0 : BitVec 8) ∧ (0 : BitVec 8) = (0 : BitVec 8) ∧ (0 : BitVec 8) = (0 : BitVec 8) ∧ (0 : BitVec 8) = (0 : BitVec 8) ∧ (0 : BitVec 8) = (0 : BitVec 8) ∧ (0 : BitVec 8) = (0 : BitVec 8) ∧ (0 : BitVec 8) = (0 : BitVec 8) ∧ (0 : BitVec 8) = (0 : BitVec 8) ∧ (0 : BitVec 8) = (0 : BitVec 8) ∧ (0 : BitVec 8) = (0 : BitVec 8) ∧ (0 : BitVec 8) = (0 : BitVec 8) ∧ (0 : BitVec 8) = (0 : BitVec 8) ∧ (0 : BitVec 8) = (0 : BitVec 8) ∧ (0 : BitVec 8) = (0 : BitVec 8) ∧ (0 : BitVec 8) = (0 : BitVec 8) ∧ b ++ BitVec.ofNat 8 128 :: List.replicate y (0 : BitVec 8) = b ++ BitVec.ofNat 8 128 :: List.replicate x (0 : BitVec 8) ++ [BitVec.ofNat 8 0] ∧ True) !decide ((↑(List.length b + 1 + x) : Int).tmod (64 : Int) = (56 : Int)) : Prop) := by kernel_rfl
end Go.Sym

namespace Go.Sym
open Go.Proofs Go.Spec
set_option linter.unusedVariables false
set_option linter.unusedSimpArgs false
set_option maxRecDepth 100000 in
set_option maxHeartbeats 2000000 in
theorem b14 (b : By) (hb : b.length < 35184372088832) : Must (bodyP Tryd.prog (R3.withSym symRs) gl0 [] [(3, ls0 b), (7, ls7 b), (13, lsB b), (39, lsO b)] 3000 Tryd.f64 0 [.rb false b .unk] [] (retQ Tryd.prog Tryd.f64 0 ⟨[], aggB 32 (outByte (refSt b ((shaPad b).length / 64))), [], []⟩)) := by
  constructor
  rw [vc14]
  set_option simprocs false in dsimp only
  have hz : zc b.length < 64 := by unfold zc; omega
  refine ⟨rfl, by unfold roomFor; omega, rfl, by simp, by unfold roomFor; omega, ⟨0, Nat.zero_le _, ?_⟩, fun k hk => ?_⟩
  · simp
  replace hk : k ≤ zc b.length := hk
  have tm : ∀ n : Nat, ((n : Int)).tmod 64 = ((n % 64 : Nat) : Int) := fun n => by
    rw [Int.tmod_eq_emod_of_nonneg (by omega)]; omega
  refine brec (fun h => ?_) (fun h => ?_)
  · -- one nought more
    have hk2 : k < zc b.length := by
      rw [tm] at h
      simp at h
      unfold zc at hk ⊢
      omega
    simp only [true_and, and_true]
    refine ⟨by simp; omega, by unfold roomFor; omega, k + 1, by omega, hk2, by omega, ?_⟩
    rw [List.replicate_succ']
    simp
  · have hk2 : k = zc b.length := by
      rw [tm] at h
      simp at h
      unfold zc at hk ⊢
      omega
    subst hk2
    refine ⟨⟨0, Nat.zero_le _, by simp⟩, fun i hi => ?_⟩
    replace hi : i ≤ 8 := hi
    refine brec (fun h => ?_) (fun h => ?_)
    · have hi8 : i < 8 := by
        have := dle.1 h; omega
      have w1 : IntKind.i64.wrap (8 * (7 - (i : Int))) = ((8 * (7 - i) : Nat) : Int) := wrap_nat _ (by omega) (by omega)
      have w2 : IntKind.i64.wrap (7 - (i : Int) - 1) = 7 - ((i + 1 : Nat) : Int) := by rw [wrap_i64 (by omega) (by omega)]; omega
      have hlen : List.length (b ++ 128#8 :: (List.replicate (zc b.length) 0#8 ++ List.take i (count8 (BitVec.ofNat 64 b.length * 8#64)))) = b.length + 1 + zc b.length + i := by
        simp [count8_len]; omega
      simp only [w1, w2, hlen, Int.toNat_natCast, List.length_cons, List.length_nil, Int.natCast_nonneg, true_and, and_true]
      refine ⟨by unfold roomFor; omega, i + 1, by omega, hi8, rfl, by omega, rfl, ?_⟩
      rw [← count8_step _ _ hi8]
      simp
    · have hi8 : i = 8 := by
        have := ndle.1 h; omega
      subst hi8
      refine ⟨⟨0, Nat.zero_le _, ?_⟩, fun j hj => ?_⟩
      · simp only [true_and, and_true]
        refine ⟨shaPad_len b, rfl, ?_, rfl, rfl, rfl, rfl, rfl, rfl, rfl, rfl, fun y hy => ⟨rfl, cut_map AV.u32 shaK 0 y hy⟩⟩
        rw [List.take_of_length_le (by rw [count8_len]; omega)]
        rfl
      replace hj : 64 * j ≤ (shaPad b).length := hj
      refine brec (fun h => ?_) (fun h => ?_)
      · have hj2 : 64 * j + 64 ≤ (shaPad b).length := by
          have := dlt.1 h
          have := shaPad_mod b
          omega
        have hP : (shaPad b).length < 35184372088932 := by rw [shaPad_len]; omega
        simp only [true_and, and_true, d32, implies_true]
        refine ⟨⟨0, Nat.zero_le _, rfl, fun y hy => u32_one (by simp)⟩, fun i hi => ?_⟩
        replace hi : i ≤ 64 := hi
        refine brec (fun h => ?_) (fun h => ?_)
        · replace h : i < 64 := by have := dlt.1 h; omega
          have e1 : IntKind.i64.wrap ((i : Int) + 1) = ((i + 1 : Nat) : Int) := wrap_nat _ (by omega) (by omega)
          refine brec (fun h16 => ?_) (fun h16 => ?_)
          · replace h16 : i < 16 := by have := dlt.1 h16; omega
            refine ⟨⟨0, Nat.zero_le _, rfl, fun y hy => u32_one ?_⟩, fun c hc => ?_⟩
            · by_cases h1 : y < i
              · rw [if_pos h1, if_pos h1]
              · rw [if_neg h1, if_neg h1]
                simp [partW]
            replace hc : c ≤ 4 := hc
            refine brec (fun h4 => ?_) (fun h4 => ?_)
            · replace h4 : c < 4 := by have := dlt.1 h4; omega
              have e4 : IntKind.i64.wrap ((c : Int) + 1) = ((c + 1 : Nat) : Int) := wrap_nat _ (by omega) (by omega)
              have e5 : IntKind.i64.wrap (4 * (i : Int)) = ((4 * i : Nat) : Int) := wrap_nat _ (by omega) (by omega)
              have e6 : IntKind.i64.wrap (((64 * j : Nat) : Int) + ((4 * i : Nat) : Int)) = ((64 * j + 4 * i : Nat) : Int) := wrap_nat _ (by omega) (by omega)
              have e7 : IntKind.i64.wrap (((64 * j + 4 * i : Nat) : Int) + (c : Int)) = ((64 * j + 4 * i + c : Nat) : Int) := wrap_nat _ (by omega) (by omega)
              simp only [e4, e5, e6, e7, Int.toNat_natCast, Int.natCast_nonneg, true_and, and_true]
              refine ⟨h, h, by omega, by omega, h, h, rfl, c + 1, by omega, h4, rfl, fun y hy => ?_⟩
              rw [bif32]
              refine u32_one ?_
              by_cases hyx : y = i
              · subst hyx
                simp only [Nat.lt_irrefl, if_false, if_true, beq_self_eq_true, cond_true]
                rw [mul256, Nat.add_assoc, ← refBlk_get b j (4 * y + c) (by omega)]
                rfl
              · have : (y == i) = false := by simpa using hyx
                rw [this, cond_false]
                simp only [hyx, if_false]
            · replace h4 : c = 4 := by have := ndlt.1 h4; omega
              subst h4
              refine ⟨i + 1, by omega, h, e1.symm, fun y hy => u32_one ?_⟩
              by_cases h1 : y < i
              · rw [if_pos h1, if_pos (by omega)]
              · rw [if_neg h1]
                by_cases h2 : y = i
                · rw [if_pos h2, if_pos (by omega), h2, sch_word _ _ h16]; rfl
                · rw [if_neg h2, if_neg (by omega)]
          · replace h16 : 16 ≤ i := by have := ndlt.1 h16; omega
            have e2 : IntKind.i64.wrap ((i : Int) - 2) = ((i - 2 : Nat) : Int) := wrap_nat _ (by omega) (by omega)
            have e7 : IntKind.i64.wrap ((i : Int) - 7) = ((i - 7 : Nat) : Int) := wrap_nat _ (by omega) (by omega)
            have e15 : IntKind.i64.wrap ((i : Int) - 15) = ((i - 15 : Nat) : Int) := wrap_nat _ (by omega) (by omega)
            have e16 : IntKind.i64.wrap ((i : Int) - 16) = ((i - 16 : Nat) : Int) := wrap_nat _ (by omega) (by omega)
            simp (decide := true) only [e1, e2, e7, e15, e16, Int.toNat_natCast, Int.natCast_nonneg, true_and, and_true]
            refine ⟨by omega, by omega, by omega, by omega, by omega, by omega, by omega, by omega, h, h, rfl, i + 1, by omega, h, rfl, fun y hy => ?_⟩
            rw [bif32]
            refine u32_one ?_
            by_cases hyx : y = i
            · subst hyx
              rw [beq_self_eq_true, cond_true, if_pos (by omega), if_pos (by omega), if_pos (by omega), if_pos (by omega), if_pos (by omega), sch_step _ y h16 h]
              simp only [smS0, smS1, rl, BitVec.or_comm]
            · have : (y == i) = false := by simpa using hyx
              rw [this, cond_false]
              by_cases h2 : y < i
              · rw [if_pos h2, if_pos (by omega)]
              · rw [if_neg h2, if_neg (by omega)]
        · replace h : i = 64 := by have := ndlt.1 h; omega
          subst h
          refine ⟨⟨0, Nat.zero_le _, rfl, fun y hy => u32_one (by rw [if_pos hy]), rfl, rfl, rfl, rfl, rfl, rfl, rfl, rfl⟩, fun i hi => ?_⟩
          replace hi : i ≤ 64 := hi
          refine brec (fun h => ?_) (fun h => ?_)
          · replace h : i < 64 := by have := dlt.1 h; omega
            have e1 : IntKind.i64.wrap ((i : Int) + 1) = ((i + 1 : Nat) : Int) := wrap_nat _ (by omega) (by omega)
            simp (decide := true) only [e1, Int.toNat_natCast, Int.natCast_nonneg, true_and, and_true]
            refine ⟨h, h, h, h, i + 1, by omega, h, rfl, ?_⟩
            simp only [rnds, rnd, bigS1, bigS0, rl, chS, mjS, BitVec.or_comm, true_and, and_true]
          · replace h : i = 64 := by have := ndlt.1 h; omega
            subst h
            simp (decide := true) only [true_and, and_true]
            have e1 : IntKind.i64.wrap (((64 * j : Nat) : Int) + 64) = ((64 * (j + 1) : Nat) : Int) := wrap_nat _ (by omega) (by omega)
            exact ⟨j + 1, by omega, by show 64 * (j + 1) ≤ _; omega, e1.symm, rfl, rfl, rfl, rfl, rfl, rfl, rfl, rfl⟩
      · have hj2 : j = (shaPad b).length / 64 := by
          have := ndlt.1 h
          have := shaPad_mod b
          omega
        subst hj2
        simp only [true_and, and_true, d32, implies_true]
        refine ⟨⟨0, Nat.zero_le _, rfl, rfl⟩, fun x hx => ?_⟩
        replace hx : x ≤ 32 := hx
        refine brec (fun h => ?_) (fun h => ?_)
        · replace h : x < 32 := by have := dlt.1 h; omega
          have list8 : ∀ (v : Nat → W32) q, q < 8 → [v 0, v 1, v 2, v 3, v 4, v 5, v 6, v 7].getD q 0 = v q := fun v q hq => getD_map_range v 8 q 0 hq
          have d1 : ((x : Int)).tdiv 4 = ((x / 4 : Nat) : Int) := tdiv_nat x 4
          have d2 : ((x : Int)).tmod 4 = ((x % 4 : Nat) : Int) := tmod_nat x 4
          have w1 : IntKind.i64.wrap ((x / 4 : Nat) : Int) = ((x / 4 : Nat) : Int) := wrap_nat _ rfl (by omega)
          have w2 : IntKind.i64.wrap (8 * ((x % 4 : Nat) : Int)) = ((8 * (x % 4) : Nat) : Int) := wrap_nat _ (by omega) (by omega)
          have w3 : IntKind.i64.wrap (24 - ((8 * (x % 4) : Nat) : Int)) = ((24 - 8 * (x % 4) : Nat) : Int) := wrap_nat _ (by omega) (by omega)
          have w4 : IntKind.i64.wrap ((x : Int) + 1) = ((x + 1 : Nat) : Int) := wrap_nat _ (by omega) (by omega)
          simp only [d1, d2, w1, w2, w3, w4, Int.toNat_natCast, Int.natCast_nonneg, list8 _ (x / 4) (show x / 4 < 8 by omega), List.length_map, List.length_range, List.length_cons, List.length_nil, true_and, and_true]
          refine ⟨by omega, by omega, h, h, x + 1, by omega, h, rfl, ?_⟩
          exact (fill_row (outByte (refSt b ((shaPad b).length / 64))) 0 32 x h).symm
        · replace h : x = 32 := by have := ndlt.1 h; omega
          subst h
          simp
end Go.Sym

namespace Go.Spec
theorem blocks_app (v : Nat → W32) (A B : By) (q : Nat) (hA : A.length = 64 * q) : ∀ k, blocks v (A ++ B) (q + k) = blocks (blocks v A q) B k
  | 0 => by
    show blocks v (A ++ B) q = blocks v A q
    have := blocks_take v (A ++ B) (64 * q) q (Nat.le_refl _)
    rw [← this, ← hA, List.take_left]
  | k + 1 => by
    show compress (blocks v (A ++ B) (q + k)) (List.take 64 (List.drop (64 * (q + k)) (A ++ B))) = compress (blocks (blocks v A q) B k) (List.take 64 (List.drop (64 * k) B))
    rw [blocks_app v A B q hA k]
    congr 1
    rw [List.drop_append, List.drop_eq_nil_of_le (by omega), List.nil_append]
    congr 2
    omega
theorem zc_tail (n : Nat) : zc n = tailEnd (n % 64) - n % 64 - 9 := by
  unfold zc tailEnd
  split <;> omega
theorem rest64_len (b : By) : (rest64 b).length = b.length % 64 := by
  simp [rest64]; omega
theorem shaPad_split (b : By) : shaPad b = b.take (64 * (b.length / 64)) ++ padTail 0#64 b := by
  unfold shaPad padTail
  rw [rest64_len, ← zc_tail, ← List.append_assoc]
  congr 1
  · exact (List.take_append_drop _ _).symm
  · rw [BitVec.zero_add, BitVec.mul_comm]
theorem refSt_sha (b : By) : refSt b ((shaPad b).length / 64) = shaSt begin8 0#64 b := by
  have e : (shaPad b).length / 64 = b.length / 64 + tailEnd (rest64 b).length / 64 := by
    rw [shaPad_len, rest64_len, zc_tail]
    unfold tailEnd
    split <;> omega
  unfold refSt shaSt
  rw [e]
  have hA : (b.take (64 * (b.length / 64))).length = 64 * (b.length / 64) := by simp; omega
  conv => lhs; rw [shaPad_split]
  rw [blocks_app _ _ _ _ hA, blocks_take _ _ _ _ (Nat.le_refl _)]
/-- A block ahead. -/
theorem sha_ahead (v : Nat → W32) (P l : By) (hP : P.length = 64) (ah : BitVec 64) : shaSt v ah (P ++ l) = shaSt (compress v P) (ah + 64#64) l := by
  have hr : rest64 (P ++ l) = rest64 l := by
    unfold rest64
    rw [List.length_append, hP, show (64 + l.length) / 64 = 1 + l.length / 64 by omega, List.drop_append, List.drop_eq_nil_of_le (by omega), List.nil_append]
    congr 1
    omega
  have hp : padTail ah (P ++ l) = padTail (ah + 64#64) l := by
    have e : ah + BitVec.ofNat 64 (64 + l.length) = ah + 64#64 + BitVec.ofNat 64 l.length := by
      rw [BitVec.add_assoc, BitVec.ofNat_add]
    unfold padTail
    rw [hr, List.length_append, hP, e]
  have hb : blocks v (P ++ l) ((P ++ l).length / 64) = blocks (compress v P) l (l.length / 64) := by
    have e1 : blocks v P 1 = compress v P := by
      simp only [blocks]
      rw [Nat.mul_zero, List.drop_zero, List.take_of_length_le (by omega)]
    have e2 : (P ++ l).length / 64 = 1 + l.length / 64 := by rw [List.length_append, hP]; omega
    rw [e2, blocks_app _ _ _ 1 (by omega), e1]
  unfold shaSt
  rw [hp, hb, hr]
theorem padBlock_len (key : By) (p : BitVec 8) : (padBlock key p).length = 64 := by simp [padBlock]
theorem shaB_pad (key b : By) (p : BitVec 8) : shaB (padBlock key p ++ b) = outByte (shaSt (padSt key p) 64#64 b) := by
  rw [shaB_eq]
  unfold shaU padSt
  rw [sha_ahead _ _ _ (padBlock_len _ _), BitVec.zero_add]
theorem macB_eq (key b : By) : macB key b = shaB (padBlock key 0x5c#8 ++ sha (padBlock key 0x36#8 ++ b)) := by
  rw [shaB_pad, macB_un]
  unfold macU macIn sha
  rw [shaB_pad, eta8_padSt, eta8_padSt]
end Go.Spec
namespace Go.Sym
open Go.Proofs Go.Spec
set_option linter.unusedVariables false
noncomputable def gRs (xs : List AV) (bs : List ABlk) : TL := match xs, bs with
  | [.rb false b .unk], [] => .ok ⟨[b.length < 35184372088832], aggB 32 (shaB b), [], []⟩
  | _, _ => .no
noncomputable def spRs : Spec := ⟨[.by0], fun _ _ => [], fun _ _ => [], gRs⟩
theorem c14 : COK Tryd.prog gl0 64 (mkF spRs) := by
  refine ctrE (fn := Tryd.f64) [] 3000 (by kernel_rfl) (by kernel_rfl) (okR3.withSym symRs) (by kernel_rfl) (fun args w => by kernel_rfl) ?_
  intro xs bs r hs ho
  simp only [spRs, gRs] at hs
  split at hs
  · rename_i b
    simp only [TL.sel, Option.some.injEq] at hs
    subst hs
    have h := b14 b (obsT_one.1 ho)
    rw [refSt_sha] at h
    rw [shaB_eq]
    exact ⟨_, h⟩
  · simp [TL.sel] at hs
noncomputable def R4 : Ctx := R3.add 64 (mkF spRs)
theorem okR4 : COKs Tryd.prog gl0 R4 := okR3.add c14
end Go.Sym

namespace Go.Sym
open Go.Proofs Go.Spec
set_option linter.unusedVariables false
theorem abc0 : shaB [97#8, 98#8, 99#8] 0 = 186#8 := by rw [shaB_eq]; kernel_rfl
theorem abc1 : shaB [97#8, 98#8, 99#8] 1 = 120#8 := by rw [shaB_eq]; kernel_rfl
theorem abc31 : shaB [97#8, 98#8, 99#8] 31 = 173#8 := by rw [shaB_eq]; kernel_rfl
theorem sameB_self (a : By) : sameB a a = true := by rw [sameB_eq]; simp
def gTr (xs : List AV) (bs : List ABlk) : TL := match xs, bs with
  | [], [] => .ok ⟨[], .bool true, [], []⟩
  | _, _ => .no
def spTr : Spec := ⟨[], fun _ _ => [], fun _ _ => [], gTr⟩
noncomputable def R5 : Ctx := R4
theorem okR5 : COKs Tryd.prog gl0 R5 := okR4
end Go.Sym

namespace Go.Spec
noncomputable def padTo (key : By) (p : BitVec 8) (x : Nat) : By := (List.range 64).map fun k => if k < x then (macKey key).getD k 0 ^^^ p else 0
end Go.Spec
namespace Go.Sym
open Go.Proofs Go.Spec
set_option linter.unusedVariables false
/-- The key as it is met: itself, or its sum. -/
noncomputable def lsRm (key b : By) : LS := ⟨Nat, fun i => [(0, .rb false (macKey key) .unk), (1, .rb false b .unk), (4, .ptr 100 0 0 0), (6, .slice 101 0 1 64 .ow (.is false)), (7, .slice 102 0 1 64 .ow (.is false)), (8, .int .i64 i)],
  fun i => [(100, ⟨.cells (List.replicate 32 (.u8 0)), true, 0⟩), (101, ⟨.bytes (padTo key 0x36#8 i), true, 1⟩), (102, ⟨.bytes (padTo key 0x5c#8 i), true, 1⟩)], 1000, fun i => 64 - i, fun i => i ≤ 64, fun _ => []⟩
end Go.Sym

namespace Go.Sym
open Go.Proofs Go.Spec
set_option linter.unusedVariables false
set_option maxRecDepth 100000 in
theorem vc16 (key b : By) : bodyP Tryd.prog R5 gl0 [] [(7, lsRm key b)] 3000 Tryd.f38 0 [.rb false key .unk, .rb false b .unk] [] (retQ Tryd.prog Tryd.f38 0 ⟨[], aggB 32 (shaB (padBlock key 0x5c#8 ++ sha (padBlock key 0x36#8 ++ b))), [], []⟩) = (
let x1 := padBlock key (BitVec.ofNat 8 92) ++ sha (padBlock key (BitVec.ofNat 8 54) ++ b); let x2 := (0 : BitVec 8) = BitVec.ofNat 8 0; @Bool.rec (fun _ => Prop) (64 ≤ 64 ∧ 64 ≤ 281474976710656 ∧ 64 ≤ 9223372036854775807 ∧ 64 ≤ 64 ∧ 64 ≤ 281474976710656 ∧ 64 ≤ 9223372036854775807 ∧ (∃ (x : Nat), x.le 64 ∧ macKey key = key ∧ b = b ∧ 0 = 0 ∧ Bool.false = Bool.false ∧ 0 = 0 ∧ 0 = 0 ∧ 0 = 0 ∧ 64 = 64 ∧ Bool.false = Bool.false ∧ 0 = 0 ∧ 0 = 0 ∧ 0 = 0 ∧ 64 = 64 ∧ (↑x : Int) = (0 : Int) ∧ x2 ∧ x2 ∧ x2 ∧ x2 ∧ x2 ∧ x2 ∧ x2 ∧ x2 ∧ x2 ∧ x2 ∧ x2 ∧ x2 ∧ x2 ∧ x2 ∧ x2 ∧ x2 ∧ x2 ∧ x2 ∧ x2 ∧ x2 ∧ x2 ∧ x2 ∧ x2 ∧ x2 ∧ x2 ∧ x2 ∧ x2 ∧ x2 ∧ x2 ∧ x2 ∧ x2 ∧ x2 ∧ padTo key (BitVec.ofNat 8 54) x = List.replicate 64 (0 : BitVec 8) ∧ padTo key (BitVec.ofNat 8 92) x = List.replicate 64 (0 : BitVec 8) ∧ True) ∧ ∀ (x : Nat), let x1_1 := padTo key (BitVec.ofNat 8 92) x ++ sha (padTo key (BitVec.ofNat 8 54) x ++ b); let x2 := padTo key (BitVec.ofNat 8 54) x; x.le 64 → @Bool.rec (fun _ => Prop) (64 = List.length x2 ∧ roomFor 64 (List.length b) 1 ∧ 64 + List.length b = List.length (x2 ++ b) ∧ List.length (x2 ++ b) < 35184372088832 ∧ 64 = List.length (padTo key (BitVec.ofNat 8 92) x) ∧ roomFor 64 (List.length (sha (x2 ++ b))) 1 ∧ 64 + List.length (sha (x2 ++ b)) = List.length x1_1 ∧ List.length x1_1 < 35184372088832 ∧ shaB x1 0 = shaB x1_1 0 ∧ shaB x1 1 = shaB x1_1 1 ∧ shaB x1 2 = shaB x1_1 2 ∧ shaB x1 3 = shaB x1_1 3 ∧ shaB x1 4 = shaB x1_1 4 ∧ shaB x1 5 = shaB x1_1 5 ∧ shaB x1 6 = shaB x1_1 6 ∧ shaB x1 7 = shaB x1_1 7 ∧ shaB x1 8 = shaB x1_1 8 ∧ shaB x1 9 = shaB x1_1 9 ∧ shaB x1 10 = shaB x1_1 10 ∧ shaB x1 11 = shaB x1_1 11 ∧ shaB x1 12 = shaB x1_1 12 ∧ shaB x1 13 = shaB x1_1 13 ∧ shaB x1 14 = shaB x1_1 14 ∧ shaB x1 15 = shaB x1_1 15 ∧ shaB x1 16 = shaB x1_1 16 ∧ shaB x1 17 = shaB x1_1 17 ∧ shaB x1 18 = shaB x1_1 18 ∧ shaB x1 19 = shaB x1_1 19 ∧ shaB x1 20 = shaB x1_1 20 ∧ shaB x1 21 = shaB x1_1 21 ∧ shaB x1 22 = shaB x1_1 22 ∧ shaB x1 23 = shaB x1_1 23 ∧ shaB x1 24 = shaB x1_1 24 ∧ shaB x1 25 = shaB x1_1 25 ∧ shaB x1 26 = shaB x1_1 26 ∧ shaB x1 27 = shaB x1_1 27 ∧ shaB x1 28 = shaB x1_1 28 ∧ shaB x1 29 = shaB x1_1 29 ∧ shaB x1 30 = shaB x1_1 30 ∧ shaB x1 31 = shaB x1_1 31 ∧ True) (@Bool.rec (fun _ => Prop) ((0 : Int) ≤ (↑x : Int) ∧ (↑x : Int).toNat < 64 ∧ (↑x : Int).toNat < List.length x2 ∧ (0 : Int) ≤ (↑x : Int) ∧ (↑x : Int).toNat < 64 ∧ (↑x : Int).toNat < List.length (padTo key (BitVec.ofNat 8 92) x) ∧ ∃ (y : Nat), 64 - y < 64 - x ∧ y.le 64 ∧ macKey key = macKey key ∧ b = b ∧ 0 = 0 ∧ Bool.false = Bool.false ∧ 0 = 0 ∧ 0 = 0 ∧ 0 = 0 ∧ 64 = 64 ∧ Bool.false = Bool.false ∧ 0 = 0 ∧ 0 = 0 ∧ 0 = 0 ∧ 64 = 64 ∧ (↑y : Int) = IntKind.i64.wrap ((↑x : Int) + (1 : Int)) ∧ (0 : BitVec 8) = (0 : BitVec 8) ∧ (0 : BitVec 8) = (0 : BitVec 8) ∧ (0 : BitVec 8) = (0 : BitVec 8) ∧ (0 : BitVec 8) = (0 : BitVec 8) ∧ (0 : BitVec 8) = (0 : BitVec 8) ∧ (0 : BitVec 8) = (0 : BitVec 8) ∧ (0 : BitVec 8) = (0 : BitVec 8) ∧ (0 : BitVec 8) = (0 : BitVec 8) ∧ (0 : BitVec 8) = (0 : BitVec 8) ∧ (0 : BitVec 8) = (0 : BitVec 8) ∧ (0 : BitVec 8) = (0 : BitVec 8) ∧ (0 : BitVec 8) = (0 : BitVec 8) ∧ (0 : BitVec 8) = (0 : BitVec 8) ∧ (0 : BitVec 8) = (0 : BitVec 8) ∧ (0 : BitVec 8) = (0 : BitVec 8) ∧ (0 : BitVec 8) = (0 : BitVec 8) ∧ (0 : BitVec 8) = (0 : BitVec 8) ∧ (0 : BitVec 8) = (0 : BitVec 8) ∧ (0 : BitVec 8) = (0 : BitVec 8) ∧ (0 : BitVec 8) = (0 : BitVec 8) ∧ (0 : BitVec 8) = (0 : BitVec 8) ∧ (0 : BitVec 8) = (0 : BitVec 8) ∧ (0 : BitVec 8) = (0 : BitVec 8) ∧ (0 : BitVec 8) = (0 : BitVec 8) ∧ (0 : BitVec 8) = (0 : BitVec 8) ∧ (0 : BitVec 8) = (0 : BitVec 8) ∧ (0 : BitVec 8) = (0 : BitVec 8) ∧ (0 : BitVec 8) = (0 : BitVec 8) ∧ (0 : BitVec 8) = (0 : BitVec 8) ∧ (0 : BitVec 8) = (0 : BitVec 8) ∧ (0 : BitVec 8) = (0 : BitVec 8) ∧ (0 : BitVec 8) = (0 : BitVec 8) ∧ padTo key (BitVec.ofNat 8 54) y = List.set x2 (↑x : Int).toNat (BitVec.ofNat 8 54) ∧ padTo key (BitVec.ofNat 8 92) y = List.set (padTo key (BitVec.ofNat 8 92) x) (↑x : Int).toNat (BitVec.ofNat 8 92) ∧ True) ((0 : Int) ≤ (↑x : Int) ∧ (↑x : Int).toNat < List.length (macKey key) ∧ (0 : Int) ≤ (↑x : Int) ∧ (↑x : Int).toNat < 64 ∧ (↑x : Int).toNat < List.length x2 ∧ (0 : Int) ≤ (↑x : Int) ∧ (↑x : Int).toNat < 64 ∧ (↑x : Int).toNat < List.length (padTo key (BitVec.ofNat 8 92) x) ∧ ∃ (y : Nat), 64 - y < 64 - x ∧ y.le 64 ∧ macKey key = macKey key ∧ b = b ∧ 0 = 0 ∧ Bool.false = Bool.false ∧ 0 = 0 ∧ 0 = 0 ∧ 0 = 0 ∧ 64 = 64 ∧ Bool.false = Bool.false ∧ 0 = 0 ∧ 0 = 0 ∧ 0 = 0 ∧ 64 = 64 ∧ (↑y : Int) = IntKind.i64.wrap ((↑x : Int) + (1 : Int)) ∧ (0 : BitVec 8) = (0 : BitVec 8) ∧ (0 : BitVec 8) = (0 : BitVec 8) ∧ (0 : BitVec 8) = (0 : BitVec 8) ∧ (0 : BitVec 8) = (0 : BitVec 8) ∧ (0 : BitVec 8) = (0 : BitVec 8) ∧ (0 : BitVec 8) = (0 : BitVec 8) ∧ (0 : BitVec 8) = (0 : BitVec 8) ∧ (0 : BitVec 8) = (0 : BitVec 8) ∧ (0 : BitVec 8) = (0 : BitVec 8) ∧ (0 : BitVec 8) = (0 : BitVec 8) ∧ (0 : BitVec 8) = (0 : BitVec 8) ∧ (0 : BitVec 8) = (0 : BitVec 8) ∧ (0 : BitVec 8) = (0 : BitVec 8) ∧ (0 : BitVec 8) = (0 : BitVec 8) ∧ (0 : BitVec 8) = (0 : BitVec 8) ∧ (0 : BitVec 8) = (0 : BitVec 8) ∧ (0 : BitVec 8) = (0 : BitVec 8) ∧ (0 : BitVec 8) = (0 : BitVec 8) ∧ (0 : BitVec 8) = (0 : BitVec 8) ∧ (0 : BitVec 8) = (0 : BitVec 8) ∧ (0 : BitVec 8) = (0 : BitVec 8) ∧ (0 : BitVec 8) = (0 : BitVec 8) ∧ (0 : BitVec 8) = (0 : BitVec 8) ∧ (0 : BitVec 8) = (0 : BitVec 8) ∧ (0 : BitVec 8) = (0 : BitVec 8) ∧ (0 : BitVec 8) = (0 : BitVec 8) ∧ (0 : BitVec 8) = (0 : BitVec 8) ∧ (0 : BitVec 8) = (0 : BitVec 8) ∧ (0 : BitVec 8) = (0 : BitVec 8) ∧ (0 : BitVec 8) = (0 : BitVec 8) ∧ (0 : BitVec 8) = (0 : BitVec 8) ∧ (0 : BitVec 8) = (0 : BitVec 8) ∧ padTo key (BitVec.ofNat 8 54) y = List.set x2 (↑x : Int).toNat (List.getD (macKey key) (↑x : Int).toNat (0 : BitVec 8) ^^^ BitVec.ofNat 8 54) ∧ padTo key (BitVec.ofNat 8 92) y = List.set (padTo key (BitVec.ofNat 8 92) x) (↑x : Int).toNat (List.getD (macKey key) (↑x : Int).toNat (0 : BitVec 8) ^^^ BitVec.ofNat 8 92) ∧ True) (decide ((↑x : Int) < (↑(List.length (macKey key)) : Int)))) (decide ((↑x : Int) < (64 : Int)))) (List.length key < 35184372088832 ∧ 0 = 0 ∧ roomFor 0 (List.length (sha key)) 1 ∧ 64 ≤ 64 ∧ 64 ≤ 281474976710656 ∧ 64 ≤ 9223372036854775807 ∧ 64 ≤ 64 ∧ 64 ≤ 281474976710656 ∧ 64 ≤ 9223372036854775807 ∧ (∃ (x : Nat), x.le 64 ∧ 0 + List.length (sha key) = ([] ++ sha key).length ∧ macKey key = [] ++ sha key ∧ 0 + List.length (sha key) = List.length (macKey key) ∧ b = b ∧ 0 = 0 ∧ Bool.false = Bool.false ∧ 0 = 0 ∧ 0 = 0 ∧ 0 = 0 ∧ 64 = 64 ∧ Bool.false = Bool.false ∧ 0 = 0 ∧ 0 = 0 ∧ 0 = 0 ∧ 64 = 64 ∧ (↑x : Int) = (0 : Int) ∧ x2 ∧ x2 ∧ x2 ∧ x2 ∧ x2 ∧ x2 ∧ x2 ∧ x2 ∧ x2 ∧ x2 ∧ x2 ∧ x2 ∧ x2 ∧ x2 ∧ x2 ∧ x2 ∧ x2 ∧ x2 ∧ x2 ∧ x2 ∧ x2 ∧ x2 ∧ x2 ∧ x2 ∧ x2 ∧ x2 ∧ x2 ∧ x2 ∧ x2 ∧ x2 ∧ x2 ∧ x2 ∧ padTo key (BitVec.ofNat 8 54) x = List.replicate 64 (0 : BitVec 8) ∧ padTo key (BitVec.ofNat 8 92) x = List.replicate 64 (0 : BitVec 8) ∧ True) ∧ ∀ (x : Nat), let x1_1 := padTo key (BitVec.ofNat 8 92) x ++ sha (padTo key (BitVec.ofNat 8 54) x ++ b); let x2 := padTo key (BitVec.ofNat 8 54) x; x.le 64 → @Bool.rec (fun _ => Prop) (64 = List.length x2 ∧ roomFor 64 (List.length b) 1 ∧ 64 + List.length b = List.length (x2 ++ b) ∧ List.length (x2 ++ b) < 35184372088832 ∧ 64 = List.length (padTo key (BitVec.ofNat 8 92) x) ∧ roomFor 64 (List.length (sha (x2 ++ b))) 1 ∧ 64 + List.length (sha (x2 ++ b)) = List.length x1_1 ∧ List.length x1_1 < 35184372088832 ∧ shaB x1 0 = shaB x1_1 0 ∧ shaB x1 1 = shaB x1_1 1 ∧ shaB x1 2 = shaB x1_1 2 ∧ shaB x1 3 = shaB x1_1 3 ∧ shaB x1 4 = shaB x1_1 4 ∧ shaB x1 5 = shaB x1_1 5 ∧ shaB x1 6 = shaB x1_1 6 ∧ shaB x1 7 = shaB x1_1 7 ∧ shaB x1 8 = shaB x1_1 8 ∧ shaB x1 9 = shaB x1_1 9 ∧ shaB x1 10 = shaB x1_1 10 ∧ shaB x1 11 = shaB x1_1 11 ∧ shaB x1 12 = shaB x1_1 12 ∧ shaB x1 13 = shaB x1_1 13 ∧ shaB x1 14 = shaB x1_1 14 ∧ shaB x1 15 = shaB x1_1 15 ∧ shaB x1 16 = shaB x1_1 16 ∧ shaB x1 17 = shaB x1_1 17 ∧ shaB x1 18 = shaB x1_1 18 ∧ shaB x1 19 = shaB x1_1 19 ∧ shaB x1 20 = shaB x1_1 20 ∧ shaB x1 21 = shaB x1_1 21 ∧ shaB x1 22 = shaB x1_1 22 ∧ shaB x1 23 = shaB x1_1 23 ∧ shaB x1 24 = shaB x1_1 24 ∧ shaB x1 25 = shaB x1_1 25 ∧ shaB x1 26 = shaB x1_1 26 ∧ shaB x1 27 = shaB x1_1 27 ∧ shaB x1 28 = shaB x1_1 28 ∧ shaB x1 29 = shaB x1_1 29 ∧ shaB x1 30 = shaB x1_1 30 ∧ shaB x1 31 = shaB x1_1 31 ∧ True) (@Bool.rec (fun _ => Prop) ((0 : Int) ≤ (↑x : Int) ∧ (↑x : Int).toNat < 64 ∧ (↑x : Int).toNat < List.length x2 ∧ (0 : Int) ≤ (↑x : Int) ∧ (↑x : Int).toNat < 64 ∧ (↑x : Int).toNat < List.length (padTo key (BitVec.ofNat 8 92) x) ∧ ∃ (y : Nat), 64 - y < 64 - x ∧ y.le 64 ∧ macKey key = macKey key ∧ b = b ∧ 0 = 0 ∧ Bool.false = Bool.false ∧ 0 = 0 ∧ 0 = 0 ∧ 0 = 0 ∧ 64 = 64 ∧ Bool.false = Bool.false ∧ 0 = 0 ∧ 0 = 0 ∧ 0 = 0 ∧ 64 = 64 ∧ (↑y : Int) = IntKind.i64.wrap ((↑x : Int) + (1 : Int)) ∧ (0 : BitVec 8) = (0 : BitVec 8) ∧ (0 : BitVec 8) = (0 : BitVec 8) ∧ (0 : BitVec 8) = (0 : BitVec 8) ∧ (0 : BitVec 8) = (0 : BitVec 8) ∧ (0 : BitVec 8) = (0 : BitVec 8) ∧ (0 : BitVec 8) = (0 : BitVec 8) ∧ (0 : BitVec 8) = (0 : BitVec 8) ∧ (0 : BitVec 8) = (0 : BitVec 8) ∧ (0 : BitVec 8) = (0 : BitVec 8) ∧ (0 : BitVec 8) = (0 : BitVec 8) ∧ (0 : BitVec 8) = (0 : BitVec 8) ∧ (0 : BitVec 8) = (0 : BitVec 8) ∧ (0 : BitVec 8) = (0 : BitVec 8) ∧ (0 : BitVec 8) = (0 : BitVec 8) ∧ (0 : BitVec 8) = (0 : BitVec 8) ∧ (0 : BitVec 8) = (0 : BitVec 8) ∧ (0 : BitVec 8) = (0 : BitVec 8) ∧ (0 : BitVec 8) = (0 : BitVec 8) ∧ (0 : BitVec 8) = (0 : BitVec 8) ∧ (0 : BitVec 8) = (0 : BitVec 8) ∧ (0 : BitVec 8) = (0 : BitVec 8) ∧ (0 : BitVec 8) = (0 : BitVec 8) ∧ (0 : BitVec 8) = (0 : BitVec 8) ∧ (0 : BitVec 8) = (0 : BitVec 8) ∧ (0 : BitVec 8) = (0 : BitVec 8) ∧ (0 : BitVec 8) = (0 : BitVec 8) ∧ (0 : BitVec 8) = (0 : BitVec 8) ∧ (0 : BitVec 8) = (0 : BitVec 8) ∧ (0 : BitVec 8) = (0 : BitVec 8) ∧ (0 : BitVec 8) = (0 : BitVec 8) ∧ (0 : BitVec 8) = (0 : BitVec 8) ∧ (0 : BitVec 8) = (0 : BitVec 8) ∧ padTo key (BitVec.ofNat 8 54) y = List.set x2 (↑x : Int).toNat (BitVec.ofNat 8 54) ∧ padTo key (BitVec.ofNat 8 92) y = List.set (padTo key (BitVec.ofNat 8 92) x) (↑x : Int).toNat (BitVec.ofNat 8 92) ∧ True) ((0 : Int) ≤ (↑x : Int) ∧ (↑x : Int).toNat < List.length (macKey key) ∧ (0 : Int) ≤ (↑x : Int) ∧ (↑x : Int).toNat < 64 ∧ (↑x : Int).toNat < List.length x2 ∧ (0 : Int) ≤ (↑x : Int) ∧ (↑x : Int).toNat < 64 ∧ (↑x : Int).toNat < List.length (padTo key (BitVec.ofNat 8 92) x) ∧ ∃ (y : Nat), 64 - y < 64 - x ∧ y.le 64 ∧ macKey key = macKey key ∧ b = b ∧ 0 = 0 ∧ Bool.false = Bool.false ∧ 0 = 0 ∧ 0 = 0 ∧ 0 = 0 ∧ 64 = 64 ∧ Bool.false = Bool.false ∧ 0 = 0 ∧ 0 = 0 ∧ 0 = 0 ∧ 64 = 64 ∧ (↑y : Int) = IntKind.i64.wrap ((↑x : Int) + (1 : Int)) ∧ (0 : BitVec 8) = (0 : BitVec 8) ∧ (0 : BitVec 8) = (0 : BitVec 8) ∧ (0 : BitVec 8) = (0 : BitVec 8) ∧ (0 : BitVec 8) = (0 : BitVec 8) ∧ (0 : BitVec 8) = (0 : BitVec 8) ∧ (0 : BitVec 8) = (0 : BitVec 8) ∧ (0 : BitVec 8) = (0 : BitVec 8) ∧ (0 : BitVec 8) = (0 : BitVec 8) ∧ (0 : BitVec 8) = (0 : BitVec 8) ∧ (0 : BitVec 8) = (0 : BitVec 8) ∧ (0 : BitVec 8) = (0 : BitVec 8) ∧ (0 : BitVec 8) = (0 : BitVec 8) ∧ (0 : BitVec 8) = (0 : BitVec 8) ∧ (0 : BitVec 8) = (0 : BitVec 8) ∧ (0 : BitVec 8) = (0 : BitVec 8) ∧ (0 : BitVec 8) = (0 : BitVec 8) ∧ (0 : BitVec 8) = (0 : BitVec 8) ∧ (0 : BitVec 8) = (0 : BitVec 8) ∧ (0 : BitVec 8) = (0 : BitVec 8) ∧ (0 : BitVec 8) = (0 : BitVec 8) ∧ (0 : BitVec 8) = (0 : BitVec 8) ∧ (0 : BitVec 8) = (0 : BitVec 8) ∧ (0 : BitVec 8) = (0 : BitVec 8) ∧ (0 : BitVec 8) = (0 : BitVec 8) ∧ (0 : BitVec 8) = (0 : BitVec 8) ∧ (0 : BitVec 8) = (0 : BitVec 8) ∧ (0 : BitVec 8) = (0 : BitVec 8) ∧ (0 : BitVec 8) = (0 : BitVec 8) ∧ (0 : BitVec 8) = (0 : BitVec 8) ∧ (0 : BitVec 8) = (0 : BitVec 8) ∧ (0 : BitVec 8) = (0 : BitVec 8) ∧ (0 : BitVec 8) = (0 : BitVec 8) ∧ padTo key (BitVec.ofNat 8 54) y = List.set x2 (↑x : Int).toNat (List.getD (macKey key) (↑x : Int).toNat (0 : BitVec 8) ^^^ BitVec.ofNat 8 54) ∧ padTo key (BitVec.ofNat 8 92) y = List.set (padTo key (BitVec.ofNat 8 92) x) (↑x : Int).toNat (List.getD (macKey key) (↑x : Int).toNat (0 : BitVec 8) ^^^ BitVec.ofNat 8 92) ∧ True) (decide ((↑x : Int) < (↑(List.length (macKey key)) : Int)))) (decide ((↑x : Int) < (64 : Int)))) (decide ((64 : Int) < (↑(List.length key) : Int))) : Prop) := by kernel_rfl
end Go.Sym

namespace Go.Spec
theorem padTo_len (key : By) (p : BitVec 8) (x : Nat) : (padTo key p x).length = 64 := by simp [padTo]
theorem padTo_set (key : By) (p : BitVec 8) (x : Nat) (hx : x < 64) : (padTo key p x).set x ((macKey key).getD x 0 ^^^ p) = padTo key p (x + 1) :=
  Go.Sym.fill_row (fun k => (macKey key).getD k 0 ^^^ p) 0 64 x hx
theorem padTo_all (key : By) (p : BitVec 8) : padTo key p 64 = padBlock key p := by
  unfold padTo padBlock
  apply List.map_congr_left
  intro i hi
  rw [if_pos (by simpa using hi)]
theorem padTo_none (key : By) (p : BitVec 8) : padTo key p 0 = List.replicate 64 0 := rfl
end Go.Spec
namespace Go.Sym
open Go.Proofs Go.Spec
set_option linter.unusedVariables false
set_option linter.unusedSimpArgs false
set_option maxRecDepth 100000 in
theorem b16 (key b : By) (h1 : key.length < 17592186044416) (h2 : b.length < 17592186044416) : Must (bodyP Tryd.prog R5 gl0 [] [(7, lsRm key b)] 3000 Tryd.f38 0 [.rb false key .unk, .rb false b .unk] [] (retQ Tryd.prog Tryd.f38 0 ⟨[], aggB 32 (shaB (padBlock key 0x5c#8 ++ sha (padBlock key 0x36#8 ++ b))), [], []⟩)) := by
  constructor
  rw [vc16]
  set_option simprocs false in dsimp only
  have hsl : ∀ l : By, (sha l).length = 32 := fun l => by simp [sha]
  have noSign : ∀ x : Nat, x < 64 → IntKind.i64.wrap ((x : Int) + 1) = ((x + 1 : Nat) : Int) := fun x h => wrap_nat _ (by omega) (by omega)
  have zero : ∀ x : Nat, ¬ x < (macKey key).length → (macKey key).getD x 0 = 0 := fun x h => by
    simp only [List.getD]
    rw [List.getElem?_eq_none (by omega)]
    rfl
  have set36 : ∀ x : Nat, x < 64 → ¬ x < (macKey key).length → (padTo key 54#8 x).set x 54#8 = padTo key 54#8 (x + 1) := fun x h hn => by
    rw [← padTo_set key 54#8 x h, zero x hn]
    simp
  have set5c : ∀ x : Nat, x < 64 → ¬ x < (macKey key).length → (padTo key 92#8 x).set x 92#8 = padTo key 92#8 (x + 1) := fun x h hn => by
    rw [← padTo_set key 92#8 x h, zero x hn]
    simp
  refine brec (fun h => ?_) (fun h => ?_)
  · have hlen : 64 < key.length := by have := dlt.1 h; omega
    have hm : macKey key = sha key := if_pos hlen
    simp (decide := true) only [true_and, and_true]
    refine ⟨by omega, by rw [hsl]; unfold roomFor; omega, ⟨0, Nat.zero_le _, by simp, by rw [hm]; simp, by first | rfl | (rw [hm]; simp), rfl, rfl, rfl⟩, fun x hx => ?_⟩
    replace hx : x ≤ 64 := hx
    refine brec (fun h => ?_) (fun h => ?_)
    · replace h : x < 64 := by have := dlt.1 h; omega
      refine brec (fun h3 => ?_) (fun h3 => ?_)
      · replace h3 : x < (macKey key).length := by have := dlt.1 h3; omega
        simp only [noSign x h, Int.toNat_natCast, Int.natCast_nonneg, padTo_len, padTo_set _ _ x h, true_and, and_true]
        exact ⟨h3, h, h, h, h, x + 1, by omega, h, rfl, rfl, rfl⟩
      · replace h3 : ¬ x < (macKey key).length := by have := ndlt.1 h3; omega
        simp only [noSign x h, Int.toNat_natCast, Int.natCast_nonneg, padTo_len, set36 x h h3, set5c x h h3, true_and, and_true]
        exact ⟨h, h, h, h, x + 1, by omega, h, rfl, rfl, rfl⟩
    · replace h : x = 64 := by have := ndlt.1 h; omega
      subst h
      simp only [padTo_all, padBlock_len, hsl, List.length_append, true_and, and_true]
      refine ⟨by unfold roomFor; omega, by omega, by unfold roomFor; omega, by omega⟩
  · have hlen : ¬ 64 < key.length := by have := ndlt.1 h; omega
    have hm : macKey key = key := if_neg hlen
    simp (decide := true) only [true_and, and_true]
    refine ⟨⟨0, Nat.zero_le _, hm, rfl, rfl, rfl⟩, fun x hx => ?_⟩
    replace hx : x ≤ 64 := hx
    refine brec (fun h => ?_) (fun h => ?_)
    · replace h : x < 64 := by have := dlt.1 h; omega
      refine brec (fun h3 => ?_) (fun h3 => ?_)
      · replace h3 : x < (macKey key).length := by have := dlt.1 h3; omega
        simp only [noSign x h, Int.toNat_natCast, Int.natCast_nonneg, padTo_len, padTo_set _ _ x h, true_and, and_true]
        exact ⟨h3, h, h, h, h, x + 1, by omega, h, rfl, rfl, rfl⟩
      · replace h3 : ¬ x < (macKey key).length := by have := ndlt.1 h3; omega
        simp only [noSign x h, Int.toNat_natCast, Int.natCast_nonneg, padTo_len, set36 x h h3, set5c x h h3, true_and, and_true]
        exact ⟨h, h, h, h, x + 1, by omega, h, rfl, rfl, rfl⟩
    · replace h : x = 64 := by have := ndlt.1 h; omega
      subst h
      simp only [padTo_all, padBlock_len, hsl, List.length_append, true_and, and_true]
      refine ⟨by unfold roomFor; omega, by omega, by unfold roomFor; omega, by omega⟩
noncomputable def gRm (xs : List AV) (bs : List ABlk) : TL := match xs, bs with
  | [.rb false key .unk, .rb false b .unk], [] => .ok ⟨[key.length < 17592186044416, b.length < 17592186044416], aggB 32 (macB key b), [], []⟩
  | _, _ => .no
noncomputable def spRm : Spec := ⟨[.by0, .by0], fun _ _ => [], fun _ _ => [], gRm⟩
theorem c16 : COK Tryd.prog gl0 38 (mkF spRm) := by
  refine ctrE (fn := Tryd.f38) [] 3000 (by kernel_rfl) (by kernel_rfl) okR5 (by kernel_rfl) (fun args w => by kernel_rfl) ?_
  intro xs bs r hs ho
  simp only [spRm, gRm] at hs
  split at hs
  · simp only [TL.sel, Option.some.injEq] at hs
    subst hs
    rw [macB_eq]
    exact ⟨_, b16 _ _ (obsT_cons.1 ho).1 (obsT_one.1 (obsT_cons.1 ho).2)⟩
  · simp [TL.sel] at hs
noncomputable def R6 : Ctx := R5.add 38 (mkF spRm)
theorem okR6 : COKs Tryd.prog gl0 R6 := okR5.add c16
end Go.Sym
