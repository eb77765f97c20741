/- DiskFails: power goes in just the write that was said, of so many that are not refused; the sectors ahead are written whole, those behind not at all. No conditions. -/
import Derived.Test.YtmpgpbbaloiniaaDskA
import Derived.Test.YtmpgpbbaloiniaaRows
import Derived.WalkKit
import Derived.ProofKit
import Derived.OpenShut
import Derived.ChangeOld
import Derived.Below
import Derived.Carry
namespace Go.Sym
open Go.Proofs Go.Spec
set_option linter.unusedVariables false
set_option maxRecDepth 100000 in
theorem vd15  : bodyP Try.prog D11 gl0 [] [] 3000 Try.f15 0 [] [] (retQ Try.prog Try.f15 0 ⟨[], .bool true, [], []⟩) = (
(0 : Int) ≤ (2 : Int) ∧
 (0 : Int) ≤ (2 : Int) ∧
 2 ≤ 2 ∧
 128 ≤ 281474976710656 ∧
 2 ≤ 9223372036854775807 ∧
 64 ≤ 64 ∧
 64 ≤ 281474976710656 ∧
 64 ≤ 9223372036854775807 ∧
 (0 : Int) ≤ (0 : Int) ∧
 0 < 64 ∧
 0 < 64 ∧
 (0 : Int) ≤ Int.ofNat 1 ∧
 1 < 64 ∧
 1 < 64 ∧
 (0 : Int) ≤ Int.ofNat 2 ∧
 2 < 64 ∧
 2 < 64 ∧
 (0 : Int) ≤ Int.ofNat 3 ∧
 3 < 64 ∧
 3 < 64 ∧
 (0 : Int) ≤ Int.ofNat 4 ∧
 4 < 64 ∧
 4 < 64 ∧
 (0 : Int) ≤ Int.ofNat 5 ∧
 5 < 64 ∧
 5 < 64 ∧
 (0 : Int) ≤ Int.ofNat 6 ∧
 6 < 64 ∧
 6 < 64 ∧
 (0 : Int) ≤ Int.ofNat 7 ∧
 7 < 64 ∧
 7 < 64 ∧
 (0 : Int) ≤ Int.ofNat 8 ∧
 8 < 64 ∧
 8 < 64 ∧
 (0 : Int) ≤ Int.ofNat 9 ∧
 9 < 64 ∧
 9 < 64 ∧
 (0 : Int) ≤ Int.ofNat 10 ∧
 10 < 64 ∧
 10 < 64 ∧
 (0 : Int) ≤ Int.ofNat 11 ∧
 11 < 64 ∧
 11 < 64 ∧
 (0 : Int) ≤ Int.ofNat 12 ∧
 12 < 64 ∧
 12 < 64 ∧
 (0 : Int) ≤ Int.ofNat 13 ∧
 13 < 64 ∧
 13 < 64 ∧
 (0 : Int) ≤ Int.ofNat 14 ∧
 14 < 64 ∧
 14 < 64 ∧
 (0 : Int) ≤ Int.ofNat 15 ∧
 15 < 64 ∧
 15 < 64 ∧
 (0 : Int) ≤ Int.ofNat 16 ∧
 16 < 64 ∧
 16 < 64 ∧
 (0 : Int) ≤ Int.ofNat 17 ∧
 17 < 64 ∧
 17 < 64 ∧
 (0 : Int) ≤ Int.ofNat 18 ∧
 18 < 64 ∧
 18 < 64 ∧
 (0 : Int) ≤ Int.ofNat 19 ∧
 19 < 64 ∧
 19 < 64 ∧
 (0 : Int) ≤ Int.ofNat 20 ∧
 20 < 64 ∧
 20 < 64 ∧
 (0 : Int) ≤ Int.ofNat 21 ∧
 21 < 64 ∧
 21 < 64 ∧
 (0 : Int) ≤ Int.ofNat 22 ∧
 22 < 64 ∧
 22 < 64 ∧
 (0 : Int) ≤ Int.ofNat 23 ∧
 23 < 64 ∧
 23 < 64 ∧
 (0 : Int) ≤ Int.ofNat 24 ∧
 24 < 64 ∧
 24 < 64 ∧
 (0 : Int) ≤ Int.ofNat 25 ∧
 25 < 64 ∧
 25 < 64 ∧
 (0 : Int) ≤ Int.ofNat 26 ∧
 26 < 64 ∧
 26 < 64 ∧
 (0 : Int) ≤ Int.ofNat 27 ∧
 27 < 64 ∧
 27 < 64 ∧
 (0 : Int) ≤ Int.ofNat 28 ∧
 28 < 64 ∧
 28 < 64 ∧
 (0 : Int) ≤ Int.ofNat 29 ∧
 29 < 64 ∧
 29 < 64 ∧
 (0 : Int) ≤ Int.ofNat 30 ∧
 30 < 64 ∧
 30 < 64 ∧
 (0 : Int) ≤ Int.ofNat 31 ∧
 31 < 64 ∧
 31 < 64 ∧
 (0 : Int) ≤ Int.ofNat 32 ∧
 32 < 64 ∧
 32 < 64 ∧
 (0 : Int) ≤ Int.ofNat 33 ∧
 33 < 64 ∧
 33 < 64 ∧
 (0 : Int) ≤ Int.ofNat 34 ∧
 34 < 64 ∧
 34 < 64 ∧
 (0 : Int) ≤ Int.ofNat 35 ∧
 35 < 64 ∧
 35 < 64 ∧
 (0 : Int) ≤ Int.ofNat 36 ∧
 36 < 64 ∧
 36 < 64 ∧
 (0 : Int) ≤ Int.ofNat 37 ∧
 37 < 64 ∧
 37 < 64 ∧
 (0 : Int) ≤ Int.ofNat 38 ∧
 38 < 64 ∧
 38 < 64 ∧
 (0 : Int) ≤ Int.ofNat 39 ∧
 39 < 64 ∧
 39 < 64 ∧
 (0 : Int) ≤ Int.ofNat 40 ∧
 40 < 64 ∧
 40 < 64 ∧
 (0 : Int) ≤ Int.ofNat 41 ∧
 41 < 64 ∧
 41 < 64 ∧
 (0 : Int) ≤ Int.ofNat 42 ∧
 42 < 64 ∧
 42 < 64 ∧
 (0 : Int) ≤ Int.ofNat 43 ∧
 43 < 64 ∧
 43 < 64 ∧
 (0 : Int) ≤ Int.ofNat 44 ∧
 44 < 64 ∧
 44 < 64 ∧
 (0 : Int) ≤ Int.ofNat 45 ∧
 45 < 64 ∧
 45 < 64 ∧
 (0 : Int) ≤ Int.ofNat 46 ∧
 46 < 64 ∧
 46 < 64 ∧
 (0 : Int) ≤ Int.ofNat 47 ∧
 47 < 64 ∧
 47 < 64 ∧
 (0 : Int) ≤ Int.ofNat 48 ∧
 48 < 64 ∧
 48 < 64 ∧
 (0 : Int) ≤ Int.ofNat 49 ∧
 49 < 64 ∧
 49 < 64 ∧
 (0 : Int) ≤ Int.ofNat 50 ∧
 50 < 64 ∧
 50 < 64 ∧
 (0 : Int) ≤ Int.ofNat 51 ∧
 51 < 64 ∧
 51 < 64 ∧
 (0 : Int) ≤ Int.ofNat 52 ∧
 52 < 64 ∧
 52 < 64 ∧
 (0 : Int) ≤ Int.ofNat 53 ∧
 53 < 64 ∧
 53 < 64 ∧
 (0 : Int) ≤ Int.ofNat 54 ∧
 54 < 64 ∧
 54 < 64 ∧
 (0 : Int) ≤ Int.ofNat 55 ∧
 55 < 64 ∧
 55 < 64 ∧
 (0 : Int) ≤ Int.ofNat 56 ∧
 56 < 64 ∧
 56 < 64 ∧
 (0 : Int) ≤ Int.ofNat 57 ∧
 57 < 64 ∧
 57 < 64 ∧
 (0 : Int) ≤ Int.ofNat 58 ∧
 58 < 64 ∧
 58 < 64 ∧
 (0 : Int) ≤ Int.ofNat 59 ∧
 59 < 64 ∧
 59 < 64 ∧
 (0 : Int) ≤ Int.ofNat 60 ∧
 60 < 64 ∧
 60 < 64 ∧
 (0 : Int) ≤ Int.ofNat 61 ∧
 61 < 64 ∧
 61 < 64 ∧
 (0 : Int) ≤ Int.ofNat 62 ∧
 62 < 64 ∧
 62 < 64 ∧
 (0 : Int) ≤ Int.ofNat 63 ∧
 63 < 64 ∧
 63 < 64 ∧
 (0 : Int) ≤ (1 : Int) ∧
 1 < 2 ∧
 (0 : Int) ≤ Int.ofNat 10 ∧
 10 ≤ 64 ∧
 64 = 64 ∧
 74 ≤ 128 ∧
 (0 : Int) ≤ (1 : Int) ∧
 1 < 2 ∧
 128 ≤ 128 ∧
 0 = 0 ∧
 roomFor 0 64 1 ∧
 9 < 64 ∧
 9 < 64 ∧
 10 < 64 ∧
 10 < 64 ∧
 Bool.true = Bool.true ∧
 True : Prop) := by kernel_rfl
set_option maxRecDepth 100000 in
theorem bd15 : Must (bodyP Try.prog D11 gl0 [] [] 3000 Try.f15 0 [] [] (retQ Try.prog Try.f15 0 ⟨[], .bool true, [], []⟩)) := by
  constructor
  rw [vd15]
  simp (decide := true) only [and_true, true_and]
  unfold roomFor
  decide
def gDt (xs : List AV) (bs : List ABlk) : TL := match xs, bs with
  | [], [] => .ok ⟨[], .bool true, [], []⟩
  | _, _ => .no
def spDt : Spec := ⟨[], fun _ _ => [], fun _ _ => [], gDt⟩
theorem cDt : COK Try.prog gl0 15 (mkF spDt) := by
  refine ctrE (fn := Try.f15) [] 3000 (by kernel_rfl) (by kernel_rfl) okD11 (by kernel_rfl) (fun args w => by kernel_rfl) fun xs bs r hs ho => ?_
  replace hs : (gDt xs bs).sel = some r := hs
  unfold gDt at hs
  split at hs
  · simp only [TL.sel, Option.some.injEq] at hs
    subst hs
    exact ⟨_, bd15⟩
  · simp [TL.sel] at hs
noncomputable def D12 : Ctx := D11.add 15 (mkF spDt)
theorem okD12 : COKs Try.prog gl0 D12 := okD11.add cDt
def dkk (n : Int) : Nat := (BitVec.ofInt 64 n % 20#64).toNat
def dkt (n : Int) : Nat := (BitVec.ofInt 64 n % 65#64).toNat
def dkC (on : Bool) (w g t : Int) : ABlk := ⟨.cells [.slice 201 0 64 30 .ow .unk, .bool on, .int .i64 w, .int .i64 g, .int .i64 t], true, 0⟩
def dkE (k t : Nat) : List (Nat × AV) := [(7, .int .i64 k), (8, .int .i64 t), (9, .ptr 200 0 0 0), (10, .int .i64 0), (11, .slice 100 0 1 64 .ow .unk)]
def lsD1 (k t : Nat) (r : Bool) : LS := ⟨Nat, fun i => (2, .bool r) :: (12, .int .i64 i) :: dkE k t, fun i => [(100, ⟨.bytes (dkF i), true, 1⟩), (200, dkC true 0 (-1) 0), (201, ⟨.bytes (dkS 0 0 0), true, 64⟩)], 1000, fun i => 64 - i, fun i => i ≤ 64, fun _ => []⟩
def lsD2 (k t : Nat) (r : Bool) : LS := ⟨Nat, fun i => (2, .bool r) :: (13, .int .i64 i) :: dkE k t, fun i => [(100, ⟨.bytes (dkF 64), true, 1⟩), (200, dkC (decide (i ≤ k)) (min i (k + 1) : Nat) (k - i : Nat) t), (201, ⟨.bytes (dkS k t i), true, 64⟩)], 1000, fun i => 25 - i, fun i => i ≤ 25, fun _ => []⟩
def lsD3 (k t : Nat) : LS := ⟨Nat, fun i => (15, .int .i64 i) :: dkE k t, fun i => [(100, ⟨.bytes (dkF 64), true, 1⟩), (200, dkC true (k + 1 : Nat) (-1) t), (201, ⟨.bytes (dkS k t 25), true, 64⟩)], 1000, fun i => 25 - i, fun i => i ≤ 25, fun _ => []⟩
def lsDk (n m : Int) (r : Bool) : List (Nat × LS) := [(6, lsD1 (dkk n) (dkt m) r), (11, lsD2 (dkk n) (dkt m) r), (20, lsD3 (dkk n) (dkt m))]
end Go.Sym

set_option linter.unusedSimpArgs false
namespace Go.Spec
theorem map_at {n : Nat} {f : Nat → BitVec 8} (p : Nat) : ((List.range n).map f)[p]? = if p < n then some (f p) else none := by
  by_cases h : p < n
  · rw [if_pos h, List.getElem?_map, List.getElem?_range h]; rfl
  · rw [if_neg h, List.getElem?_eq_none (by simp; omega)]
theorem dkF_len (i : Nat) : (dkF i).length = 64 := by simp [dkF]
theorem dkS_len (k t i : Nat) : (dkS k t i).length = 1920 := by simp [dkS]
theorem dkF_at (i p : Nat) : (dkF i)[p]? = if p < 64 then some (dkFb i p) else none := map_at p
theorem dkS_at (k t i p : Nat) : (dkS k t i)[p]? = if p < 1920 then some (dkB k t i p) else none := map_at p
theorem dkF_zero : dkF 0 = List.replicate 64 0 := by
  apply List.ext_getElem?
  intro p
  rw [dkF_at, List.getElem?_replicate]
  rfl
theorem dkF_set (x : Nat) (h : x < 64) : dkF (x + 1) = (dkF x).set x (dkN x) := by
  apply List.ext_getElem?
  intro p
  rw [List.getElem?_set, dkF_at, dkF_at, dkF_len]
  by_cases hp : x = p
  · subst hp
    rw [if_pos h, if_pos rfl, if_pos h]
    unfold dkFb
    rw [if_pos (by omega)]
  · rw [if_neg hp]
    split
    · unfold dkFb
      by_cases h2 : p < x
      · rw [if_pos (by omega), if_pos h2]
      · rw [if_neg (by omega), if_neg h2]
    · rfl
theorem dkS_zero (k t : Nat) : dkS k t 0 = List.replicate 1920 0 := by
  apply List.ext_getElem?
  intro p
  rw [dkS_at, List.getElem?_replicate]
  split
  · unfold dkB
    rw [if_neg (by omega)]
  · rfl
theorem dkS_put {k t i n : Nat} (hi : i < 25) (hn : n ≤ 64) (h : (i < k ∧ n = 64) ∨ (i = k ∧ n = t)) :
    dkS k t (i + 1) = (dkS k t i).take (i * 64) ++ ((dkF 64).take n ++ (dkS k t i).drop (i * 64 + n)) := by
  apply List.ext_getElem?
  intro p
  rw [dkS_at]
  by_cases h1 : p < i * 64
  · rw [List.getElem?_append_left (by rw [List.length_take, dkS_len]; omega), List.getElem?_take, if_pos h1, dkS_at, if_pos (by omega), if_pos (by omega)]
    unfold dkB
    by_cases h2 : p / 64 < i ∧ (p / 64 < k ∨ (p / 64 = k ∧ p % 64 < t))
    · rw [if_pos h2, if_pos (by omega)]
    · rw [if_neg h2, if_neg (by omega)]
  · rw [List.getElem?_append_right (by rw [List.length_take, dkS_len]; omega), List.length_take, dkS_len, Nat.min_eq_left (by omega)]
    by_cases h2 : p < i * 64 + n
    · rw [List.getElem?_append_left (by rw [List.length_take, dkF_len]; omega), List.getElem?_take, if_pos (by omega), dkF_at, if_pos (by omega), if_pos (by omega)]
      unfold dkB dkFb
      rw [if_pos (by omega), if_pos (by omega), show p % 64 = p - i * 64 by omega]
    · rw [List.getElem?_append_right (by rw [List.length_take, dkF_len]; omega), List.length_take, dkF_len, Nat.min_eq_left hn, List.getElem?_drop, dkS_at, show i * 64 + n + (p - i * 64 - n) = p by omega]
      split
      · unfold dkB
        by_cases h3 : p / 64 < i ∧ (p / 64 < k ∨ (p / 64 = k ∧ p % 64 < t))
        · rw [if_pos h3, if_pos (by omega)]
        · rw [if_neg h3, if_neg (by omega)]
      · rfl
theorem dkS_skip {k t i : Nat} (h : k < i) : dkS k t (i + 1) = dkS k t i := by
  apply List.ext_getElem?
  intro p
  rw [dkS_at, dkS_at]
  split
  · unfold dkB
    by_cases h3 : p / 64 < i ∧ (p / 64 < k ∨ (p / 64 = k ∧ p % 64 < t))
    · rw [if_pos h3, if_pos (by omega)]
    · rw [if_neg h3, if_neg (by omega)]
  · rfl
theorem dkS_read {k t i n : Nat} (hi : i < 25) (hn : n ≤ 64) (h : (i < k ∧ n = 64) ∨ (i = k ∧ n = t) ∨ (k < i ∧ n = 0)) :
    ((dkS k t 25).drop (i * 64)).take 64 = (dkF 64).take n ++ List.replicate (64 - n) 0 := by
  apply List.ext_getElem?
  intro p
  rw [List.getElem?_take]
  by_cases h1 : p < 64
  · rw [if_pos h1, List.getElem?_drop, dkS_at, if_pos (by omega)]
    unfold dkB
    by_cases h2 : p < n
    · rw [List.getElem?_append_left (by rw [List.length_take, dkF_len]; omega), List.getElem?_take, if_pos h2, dkF_at, if_pos h1, if_pos (by omega)]
      unfold dkFb
      rw [if_pos h1, show (i * 64 + p) % 64 = p by omega]
    · rw [List.getElem?_append_right (by rw [List.length_take, dkF_len]; omega), List.length_take, dkF_len, Nat.min_eq_left hn, List.getElem?_replicate, if_neg (by omega), if_pos (by omega)]
  · rw [if_neg h1, List.getElem?_eq_none (by rw [List.length_append, List.length_take, dkF_len, List.length_replicate]; omega)]
end Go.Spec

set_option linter.unusedSimpArgs false
namespace Go.Sym
open Go.Proofs Go.Spec
set_option linter.unusedVariables false
set_option maxRecDepth 100000 in
theorem vd7 (n m : Int) (r : Bool) : bodyP Try.prog D12 gl0 [] (lsDk n m r) 3000 Try.f7 0 [.int .i64 n, .int .i64 m, .bool r] [] (retQ Try.prog Try.f7 0 ⟨[], .bool true, [], []⟩) = (
let x1 := (BitVec.ofInt 64 n % BitVec.ofNat 64 20).toNat; let x2 := (BitVec.ofInt 64 m % BitVec.ofNat 64 65).toNat; let x3 := (↑x1 : Int) = (↑x1 : Int) ∧ (↑x2 : Int) = (↑x2 : Int) ∧ 0 = 0 ∧ (0 : Int) = (0 : Int) ∧ 0 = 0 ∧ 0 = 0 ∧ 0 = 0 ∧ 64 = 64 ∧ dkF 64 = dkF 64 ∧ 0 = 0 ∧ 0 = 0 ∧ 0 = 0 ∧ 30 = 30 ∧ Bool.true = Bool.true ∧ (↑(x1 + 1) : Int) = (↑(x1 + 1) : Int) ∧ Int.negSucc 0 = Int.negSucc 0 ∧ (↑x2 : Int) = (↑x2 : Int) ∧ dkS x1 x2 25 = dkS x1 x2 25 ∧ True; let x4 := (IntKind.i64.wrap ((64 : Int) - (↑x2 : Int))).toNat; (0 : Int) ≤ (30 : Int) ∧ (0 : Int) ≤ (30 : Int) ∧ 30 ≤ 30 ∧ 1920 ≤ 281474976710656 ∧ 30 ≤ 9223372036854775807 ∧ 64 ≤ 64 ∧ 64 ≤ 281474976710656 ∧ 64 ≤ 9223372036854775807 ∧ (∃ (x : Nat), x.le 64 ∧ r = r ∧ (↑x : Int) = (0 : Int) ∧ (↑x1 : Int) = IntKind.i64.wrap (↑x1 : Int) ∧ (↑x2 : Int) = IntKind.i64.wrap (↑x2 : Int) ∧ 0 = 0 ∧ (0 : Int) = (0 : Int) ∧ 0 = 0 ∧ 0 = 0 ∧ 0 = 0 ∧ 64 = 64 ∧ dkF x = List.replicate 64 (0 : BitVec 8) ∧ 0 = 0 ∧ 0 = 0 ∧ 0 = 0 ∧ 30 = 30 ∧ Bool.true = Bool.true ∧ (0 : Int) = (0 : Int) ∧ Int.negSucc 0 = Int.negSucc 0 ∧ (0 : Int) = (0 : Int) ∧ dkS 0 0 0 = List.replicate 1920 (0 : BitVec 8) ∧ True) ∧ ∀ (x : Nat), x.le 64 → @Bool.rec (fun _ => Prop) ((∃ (x_1 : Nat), x_1.le 25 ∧ r = r ∧ (↑x_1 : Int) = (0 : Int) ∧ (↑x1 : Int) = (↑x1 : Int) ∧ (↑x2 : Int) = (↑x2 : Int) ∧ 0 = 0 ∧ (0 : Int) = (0 : Int) ∧ 0 = 0 ∧ 0 = 0 ∧ 0 = 0 ∧ 64 = 64 ∧ dkF 64 = dkF x ∧ 0 = 0 ∧ 0 = 0 ∧ 0 = 0 ∧ 30 = 30 ∧ decide (x_1 ≤ x1) = Bool.true ∧ (↑(Min.min x_1 (x1 + 1)) : Int) = (0 : Int) ∧ (↑(x1 - x_1) : Int) = (↑x1 : Int) ∧ (↑x2 : Int) = Min.min (Max.max (↑x2 : Int) (0 : Int)) (64 : Int) ∧ dkS x1 x2 x_1 = dkS 0 0 0 ∧ True) ∧ ∀ (x : Nat), let x1_1 := @Bool.rec (fun _ => Prop) (@Bool.rec (fun _ => Prop) (@Bool.rec (fun _ => Prop) (@Bool.rec (fun _ => Prop) ((0 : Int) ≤ (↑x : Int) ∧ (↑x : Int).toNat < 30 ∧ 64 = 64 ∧ plus ((↑x : Int).toNat * 64) 0 + 64 ≤ List.length (dkS x1 x2 x) ∧ @Bool.rec (fun _ => Prop) (Bool.true = Bool.false ∧ True) (∃ (y : Nat), 25 - y < 25 - x ∧ y.le 25 ∧ r = r ∧ (↑y : Int) = IntKind.i64.wrap ((↑x : Int) + (1 : Int)) ∧ (↑x1 : Int) = (↑x1 : Int) ∧ (↑x2 : Int) = (↑x2 : Int) ∧ 0 = 0 ∧ (0 : Int) = (0 : Int) ∧ 0 = 0 ∧ 0 = 0 ∧ 0 = 0 ∧ 64 = 64 ∧ dkF 64 = dkF 64 ∧ 0 = 0 ∧ 0 = 0 ∧ 0 = 0 ∧ 30 = 30 ∧ decide (y ≤ x1) = decide (x ≤ x1) ∧ (↑(Min.min y (x1 + 1)) : Int) = IntKind.i64.wrap ((↑(Min.min x (x1 + 1)) : Int) + (1 : Int)) ∧ (↑(x1 - y) : Int) = (↑(x1 - x) : Int) ∧ (↑x2 : Int) = (↑x2 : Int) ∧ dkS x1 x2 y = List.take (plus ((↑x : Int).toNat * 64) 0) (dkS x1 x2 x) ++ (List.take 64 (dkF 64) ++ List.drop (plus ((↑x : Int).toNat * 64) 0 + 64) (dkS x1 x2 x)) ∧ True) !!decide (Bool.true = decide ((↑x : Int) < (↑x1 : Int)))) ((0 : Int) ≤ (↑x : Int) ∧ (↑x : Int).toNat < 30 ∧ 64 = 64 ∧ plus ((↑x : Int).toNat * 64) 0 + 64 ≤ List.length (dkS x1 x2 x) ∧ @Bool.rec (fun _ => Prop) (Bool.true = Bool.false ∧ True) (∃ (y : Nat), 25 - y < 25 - x ∧ y.le 25 ∧ r = r ∧ (↑y : Int) = IntKind.i64.wrap ((↑x : Int) + (1 : Int)) ∧ (↑x1 : Int) = (↑x1 : Int) ∧ (↑x2 : Int) = (↑x2 : Int) ∧ 0 = 0 ∧ (0 : Int) = (0 : Int) ∧ 0 = 0 ∧ 0 = 0 ∧ 0 = 0 ∧ 64 = 64 ∧ dkF 64 = dkF 64 ∧ 0 = 0 ∧ 0 = 0 ∧ 0 = 0 ∧ 30 = 30 ∧ decide (y ≤ x1) = decide (x ≤ x1) ∧ (↑(Min.min y (x1 + 1)) : Int) = IntKind.i64.wrap ((↑(Min.min x (x1 + 1)) : Int) + (1 : Int)) ∧ (↑(x1 - y) : Int) = IntKind.i64.wrap ((↑(x1 - x) : Int) - (1 : Int)) ∧ (↑x2 : Int) = (↑x2 : Int) ∧ dkS x1 x2 y = List.take (plus ((↑x : Int).toNat * 64) 0) (dkS x1 x2 x) ++ (List.take 64 (dkF 64) ++ List.drop (plus ((↑x : Int).toNat * 64) 0 + 64) (dkS x1 x2 x)) ∧ True) !!decide (Bool.true = decide ((↑x : Int) < (↑x1 : Int)))) (decide ((0 : Int) < (↑(x1 - x) : Int)))) ((0 : Int) ≤ (↑x : Int) ∧ (↑x : Int).toNat < 30 ∧ (0 : Int) ≤ (↑x2 : Int) ∧ (↑x2 : Int).toNat ≤ 64 ∧ 64 = 64 ∧ plus ((↑x : Int).toNat * 64) (0 + 0) + (↑x2 : Int).toNat ≤ List.length (dkS x1 x2 x) ∧ @Bool.rec (fun _ => Prop) (Bool.true = Bool.false ∧ True) (∃ (y : Nat), 25 - y < 25 - x ∧ y.le 25 ∧ r = r ∧ (↑y : Int) = IntKind.i64.wrap ((↑x : Int) + (1 : Int)) ∧ (↑x1 : Int) = (↑x1 : Int) ∧ (↑x2 : Int) = (↑x2 : Int) ∧ 0 = 0 ∧ (0 : Int) = (0 : Int) ∧ 0 = 0 ∧ 0 = 0 ∧ 0 = 0 ∧ 64 = 64 ∧ dkF 64 = dkF 64 ∧ 0 = 0 ∧ 0 = 0 ∧ 0 = 0 ∧ 30 = 30 ∧ decide (y ≤ x1) = Bool.false ∧ (↑(Min.min y (x1 + 1)) : Int) = IntKind.i64.wrap ((↑(Min.min x (x1 + 1)) : Int) + (1 : Int)) ∧ (↑(x1 - y) : Int) = (↑(x1 - x) : Int) ∧ (↑x2 : Int) = (↑x2 : Int) ∧ dkS x1 x2 y = List.take (plus ((↑x : Int).toNat * 64) (0 + 0)) (dkS x1 x2 x) ++ (List.take (↑x2 : Int).toNat (dkF 64) ++ List.drop (plus ((↑x : Int).toNat * 64) (0 + 0) + Min.min 64 (↑x2 : Int).toNat) (dkS x1 x2 x)) ∧ True) !!decide (Bool.false = decide ((↑x : Int) < (↑x1 : Int)))) (decide ((↑(x1 - x) : Int) = (0 : Int)))) (@Bool.rec (fun _ => Prop) (Bool.true = Bool.false ∧ True) (Bool.true = Bool.false ∧ True) !!decide (Bool.false = decide ((↑x : Int) < (↑x1 : Int)))) (decide (Int.ofNat 30 ≤ (↑x : Int)))) (@Bool.rec (fun _ => Prop) (Bool.true = Bool.false ∧ True) (∃ (y : Nat), 25 - y < 25 - x ∧ y.le 25 ∧ r = r ∧ (↑y : Int) = IntKind.i64.wrap ((↑x : Int) + (1 : Int)) ∧ (↑x1 : Int) = (↑x1 : Int) ∧ (↑x2 : Int) = (↑x2 : Int) ∧ 0 = 0 ∧ (0 : Int) = (0 : Int) ∧ 0 = 0 ∧ 0 = 0 ∧ 0 = 0 ∧ 64 = 64 ∧ dkF 64 = dkF 64 ∧ 0 = 0 ∧ 0 = 0 ∧ 0 = 0 ∧ 30 = 30 ∧ decide (y ≤ x1) = decide (x ≤ x1) ∧ (↑(Min.min y (x1 + 1)) : Int) = (↑(Min.min x (x1 + 1)) : Int) ∧ (↑(x1 - y) : Int) = (↑(x1 - x) : Int) ∧ (↑x2 : Int) = (↑x2 : Int) ∧ dkS x1 x2 y = dkS x1 x2 x ∧ True) !!decide (Bool.false = decide ((↑x : Int) < (↑x1 : Int)))) !decide (x ≤ x1); x.le 25 → @Bool.rec (fun _ => Prop) ((∃ (x_1 : Nat), x_1.le 25 ∧ (↑x_1 : Int) = (0 : Int) ∧ (↑x1 : Int) = (↑x1 : Int) ∧ (↑x2 : Int) = (↑x2 : Int) ∧ 0 = 0 ∧ (0 : Int) = (0 : Int) ∧ 0 = 0 ∧ 0 = 0 ∧ 0 = 0 ∧ 64 = 64 ∧ dkF 64 = dkF 64 ∧ 0 = 0 ∧ 0 = 0 ∧ 0 = 0 ∧ 30 = 30 ∧ Bool.true = Bool.true ∧ (↑(x1 + 1) : Int) = (↑(Min.min x (x1 + 1)) : Int) ∧ Int.negSucc 0 = Int.negSucc 0 ∧ (↑x2 : Int) = (↑x2 : Int) ∧ dkS x1 x2 25 = dkS x1 x2 x ∧ True) ∧ ∀ (x : Nat), let x1_2 := List.take 64 (dropN (plus ((↑x : Int).toNat * 64) 0) (dkS x1 x2 25)); let x2_1 := 0 + x1_2.length = ([] ++ x1_2).length ∧ (0 : Int) ≤ (0 : Int) ∧ 0 ≤ 64 ∧ 0 ≤ 64 ∧ (0 : Int) ≤ Int.ofNat 64 ∧ (0 : Int) ≤ Int.ofNat 64 ∧ 64 ≤ 64 ∧ 64 ≤ 281474976710656 ∧ 64 ≤ 9223372036854775807 ∧ 64 = 64 ∧ 64 ≤ 9223372036854775807 ∧ @Bool.rec (fun _ => Prop) (∃ (y : Nat), 25 - y < 25 - x ∧ y.le 25 ∧ (↑y : Int) = IntKind.i64.wrap ((↑x : Int) + (1 : Int)) ∧ x3) (Bool.true = Bool.false ∧ True) !decide ([] ++ x1_2 = List.take 0 (dkF 64) ++ List.replicate 64 (0 : BitVec 8)); x.le 25 → @Bool.rec (fun _ => Prop) (Bool.true = decide ((↑(x1 + 1) : Int) = IntKind.i64.wrap ((↑x1 : Int) + (1 : Int))) ∧ True) (@Bool.rec (fun _ => Prop) ((0 : Int) ≤ (↑x : Int) ∧ (↑x : Int).toNat < 30 ∧ plus ((↑x : Int).toNat * 64) 0 + 64 ≤ List.length (dkS x1 x2 25) ∧ 0 = 0 ∧ roomFor 0 x1_2.length 1 ∧ @Bool.rec (fun _ => Prop) (@Bool.rec (fun _ => Prop) (0 + x1_2.length = ([] ++ x1_2).length ∧ (0 : Int) ≤ (64 : Int) ∧ 64 ≤ 64 ∧ 64 ≤ 64 ∧ (0 : Int) ≤ Int.ofNat 0 ∧ (0 : Int) ≤ Int.ofNat 0 ∧ 0 ≤ 0 ∧ 0 ≤ 281474976710656 ∧ 0 ≤ 9223372036854775807 ∧ 0 = 0 ∧ 64 ≤ 9223372036854775807 ∧ @Bool.rec (fun _ => Prop) (∃ (y : Nat), 25 - y < 25 - x ∧ y.le 25 ∧ (↑y : Int) = IntKind.i64.wrap ((↑x : Int) + (1 : Int)) ∧ x3) (Bool.true = Bool.false ∧ True) !decide ([] ++ x1_2 = List.take 64 (dkF 64) ++ List.replicate 0 (0 : BitVec 8))) x2_1 (decide ((↑x1 : Int) < (↑x : Int)))) (@Bool.rec (fun _ => Prop) (0 + x1_2.length = ([] ++ x1_2).length ∧ (0 : Int) ≤ (↑x2 : Int) ∧ (↑x2 : Int).toNat ≤ 64 ∧ 0 + (↑x2 : Int).toNat ≤ 64 ∧ (0 : Int) ≤ IntKind.i64.wrap ((64 : Int) - (↑x2 : Int)) ∧ (0 : Int) ≤ IntKind.i64.wrap ((64 : Int) - (↑x2 : Int)) ∧ x4 ≤ x4 ∧ 1 * x4 ≤ 281474976710656 ∧ x4 ≤ 9223372036854775807 ∧ x4 = (List.replicate x4 (0 : BitVec 8)).length ∧ (List.take (↑x2 : Int).toNat (dkF 64)).length + (List.replicate x4 (0 : BitVec 8)).length ≤ 9223372036854775807 ∧ @Bool.rec (fun _ => Prop) (∃ (y : Nat), 25 - y < 25 - x ∧ y.le 25 ∧ (↑y : Int) = IntKind.i64.wrap ((↑x : Int) + (1 : Int)) ∧ x3) (Bool.true = Bool.false ∧ True) !decide ([] ++ x1_2 = List.take (↑x2 : Int).toNat (dkF 64) ++ List.replicate x4 (0 : BitVec 8))) x2_1 (decide ((↑x1 : Int) < (↑x : Int)))) (decide ((↑x : Int) = (↑x1 : Int)))) (@Bool.rec (fun _ => Prop) (@Bool.rec (fun _ => Prop) (Bool.true = Bool.false ∧ True) (Bool.true = Bool.false ∧ True) (decide ((↑x1 : Int) < (↑x : Int)))) (@Bool.rec (fun _ => Prop) (Bool.true = Bool.false ∧ True) (Bool.true = Bool.false ∧ True) (decide ((↑x1 : Int) < (↑x : Int)))) (decide ((↑x : Int) = (↑x1 : Int)))) (decide (Int.ofNat 30 ≤ (↑x : Int)))) (decide ((↑x : Int) < (25 : Int)))) (@Bool.rec (fun _ => Prop) x1_1 (@Bool.rec (fun _ => Prop) (5 ≤ 64 ∧ @Bool.rec (fun _ => Prop) x1_1 x1_1 !decide (x ≤ x1)) (5 ≤ 64 ∧ @Bool.rec (fun _ => Prop) x1_1 x1_1 !decide (x ≤ x1)) !decide (x ≤ x1)) r) (decide ((↑x : Int) < (25 : Int)))) ((0 : Int) ≤ (↑x : Int) ∧ (↑x : Int).toNat < 64 ∧ (↑x : Int).toNat < List.length (dkF x) ∧ ∃ (y : Nat), 64 - y < 64 - x ∧ y.le 64 ∧ r = r ∧ (↑y : Int) = IntKind.i64.wrap ((↑x : Int) + (1 : Int)) ∧ (↑x1 : Int) = (↑x1 : Int) ∧ (↑x2 : Int) = (↑x2 : Int) ∧ 0 = 0 ∧ (0 : Int) = (0 : Int) ∧ 0 = 0 ∧ 0 = 0 ∧ 0 = 0 ∧ 64 = 64 ∧ dkF y = List.set (dkF x) (↑x : Int).toNat (BitVec.ofInt 8 (IntKind.i64.wrap ((↑x : Int) + (1 : Int)))) ∧ 0 = 0 ∧ 0 = 0 ∧ 0 = 0 ∧ 30 = 30 ∧ Bool.true = Bool.true ∧ (0 : Int) = (0 : Int) ∧ Int.negSucc 0 = Int.negSucc 0 ∧ (0 : Int) = (0 : Int) ∧ dkS 0 0 0 = dkS 0 0 0 ∧ True) (decide ((↑x : Int) < (64 : Int))) : Prop) := by kernel_rfl
theorem nd1 {p : Prop} [Decidable p] (h : p) : (!decide p) = false := by rw [decide_eq_true h]; rfl
theorem nd0 {p : Prop} [Decidable p] (h : ¬ p) : (!decide p) = true := by rw [decide_eq_false h]; rfl
theorem plus_e (x n : Nat) : plus x n = x + n := by unfold plus; split <;> simp
set_option maxRecDepth 10000 in
theorem bd7 (n m : Int) (r : Bool) : Must (bodyP Try.prog D12 gl0 [] (lsDk n m r) 3000 Try.f7 0 [.int .i64 n, .int .i64 m, .bool r] [] (retQ Try.prog Try.f7 0 ⟨[], .bool true, [], []⟩)) := by
  constructor
  rw [vd7]
  intro x1 x2 x3 x4
  have hx1 : x1 < 20 := by show (BitVec.ofInt 64 n % BitVec.ofNat 64 20).toNat < 20; rw [BitVec.toNat_umod]; exact Nat.mod_lt _ (by decide)
  have hx2 : x2 < 65 := by show (BitVec.ofInt 64 m % BitVec.ofNat 64 65).toNat < 65; rw [BitVec.toNat_umod]; exact Nat.mod_lt _ (by decide)
  have hx3 : x3 := by
    and_intros
    all_goals first | rfl | trivial
  have hx4 : x4 = 64 - x2 := by
    show (IntKind.i64.wrap ((64 : Int) - (↑x2 : Int))).toNat = 64 - x2
    rw [wrap_i64 (by omega) (by omega)]
    omega
  have hw4 : IntKind.i64.wrap ((64 : Int) - (↑x2 : Int)) = ((64 - x2 : Nat) : Int) := by rw [wrap_i64 (by omega) (by omega)]; omega
  have e1 : IntKind.i64.wrap (↑x1 : Int) = (↑x1 : Int) := wrap_i64 (by omega) (by omega)
  have e2 : IntKind.i64.wrap (↑x2 : Int) = (↑x2 : Int) := wrap_i64 (by omega) (by omega)
  have wr : ∀ x : Nat, x < 100 → IntKind.i64.wrap ((↑x : Int) + (1 : Int)) = ((x + 1 : Nat) : Int) := fun x hx => wrap_nat _ (by omega) (by omega)
  clear_value x1 x2 x3 x4
  subst hx4
  refine ⟨by omega, by omega, by omega, by omega, by omega, by omega, by omega, by omega, ⟨0, Nat.zero_le _, ?_⟩, ?_⟩
  · rw [e1, e2]
    and_intros
    all_goals first | rfl | trivial | exact dkF_zero | exact dkS_zero 0 0
  intro x hx
  have hx : x ≤ 64 := hx
  rw [Int.toNat_natCast, wr x (by omega)]
  refine brec (fun d => ?_) (fun d => ?_)
  · have d := dlt.1 d
    refine ⟨by omega, by omega, by rw [dkF_len]; omega, x + 1, by omega, (by show x + 1 ≤ 64; omega), ?_⟩
    and_intros
    all_goals first | rfl | trivial | skip
    rw [dkF_set x (by omega), BitVec.ofInt_natCast]
    rfl
  have d := ndlt.1 d
  obtain rfl : x = 64 := by omega
  refine ⟨⟨0, Nat.zero_le _, ?_⟩, ?_⟩
  · rw [dkS_zero x1 x2, dkS_zero 0 0]
    and_intros
    all_goals first | rfl | trivial | exact decide_eq_true (Nat.zero_le _) | omega | skip
  intro x y1 hx
  have hx : x ≤ 25 := hx
  have hy1 : x < 25 → y1 := by
    intro hl
    have hp : plus ((x : Int).toNat * 64) 0 = x * 64 := by rw [plus_e, Int.toNat_natCast, Nat.add_zero]
    have hp2 : plus ((x : Int).toNat * 64) (0 + 0) = x * 64 := by rw [plus_e, Int.toNat_natCast, Nat.add_zero]
    unfold y1
    rw [hp, wr x (by omega), Int.toNat_natCast, dkS_len]
    repeat rw [Int.toNat_natCast]
    by_cases h1 : x ≤ x1
    · rw [nd1 h1, decide_eq_false (show ¬ Int.ofNat 30 ≤ (↑x : Int) by show ¬ (30 : Int) ≤ _; omega)]
      by_cases h2 : x = x1
      · rw [decide_eq_true (show ((x1 - x : Nat) : Int) = 0 by omega), decide_eq_false (show ¬ (↑x : Int) < (↑x1 : Int) by omega)]
        refine ⟨by omega, by omega, by omega, by omega, rfl, by omega, x + 1, by omega, (by show x + 1 ≤ 25; omega), ?_⟩
        rw [wrap_i64 (by omega) (by omega)]
        and_intros
        all_goals first | rfl | trivial | exact decide_eq_false (by omega) | omega | skip
        rw [Nat.min_eq_right (by omega)]
        exact dkS_put hl (by omega) (.inr ⟨h2, rfl⟩)
      · rw [decide_eq_false (show ¬ ((x1 - x : Nat) : Int) = 0 by omega), decide_eq_true (show (0 : Int) < ((x1 - x : Nat) : Int) by omega), decide_eq_true (show (↑x : Int) < (↑x1 : Int) by omega)]
        refine ⟨by omega, by omega, rfl, by omega, x + 1, by omega, (by show x + 1 ≤ 25; omega), ?_⟩
        rw [wrap_i64 (x := ((x1 - x : Nat) : Int) - 1) (by omega) (by omega), wrap_i64 (by omega) (by omega)]
        and_intros
        all_goals first | rfl | trivial | exact (decide_eq_true (show x + 1 ≤ x1 by omega)).trans (decide_eq_true (show x ≤ x1 by omega)).symm | omega | skip
        exact dkS_put hl (by omega) (.inl ⟨by omega, rfl⟩)
    · rw [nd0 h1, decide_eq_false (show ¬ (↑x : Int) < (↑x1 : Int) by omega)]
      refine ⟨x + 1, by omega, (by show x + 1 ≤ 25; omega), ?_⟩
      and_intros
      all_goals first | rfl | trivial | exact (decide_eq_false (show ¬ x + 1 ≤ x1 by omega)).trans (decide_eq_false (show ¬ x ≤ x1 by omega)).symm | omega | skip
      exact dkS_skip (by omega)
  clear_value y1
  refine brec (fun d => ?_) (fun d => ?_)
  · have d := dlt.1 d
    have hy1 := hy1 (by omega)
    exact brec (fun _ => brec (fun _ => ⟨by omega, brec (fun _ => hy1) (fun _ => hy1)⟩) (fun _ => ⟨by omega, brec (fun _ => hy1) (fun _ => hy1)⟩)) (fun _ => hy1)
  have d := ndlt.1 d
  obtain rfl : x = 25 := by omega
  clear hy1
  refine ⟨⟨0, Nat.zero_le _, ?_⟩, ?_⟩
  · and_intros
    all_goals first | rfl | trivial | omega | skip
  intro x z1 z2 hx
  have hx : x ≤ 25 := hx
  refine brec ?_ (fun d => by rw [wr x1 (by omega)]; exact ⟨(decide_eq_true rfl).symm, trivial⟩)
  intro d
  have d := dlt.1 d
  have hz1 : z1 = ((dkS x1 x2 25).drop (x * 64)).take 64 := by
    show List.take 64 (dropN (plus ((x : Int).toNat * 64) 0) (dkS x1 x2 25)) = _
    rw [dropN_eq, plus_e, Int.toNat_natCast, Nat.add_zero]
  have hzl : z1.length = 64 := by rw [hz1, List.length_take, List.length_drop, dkS_len]; omega
  have ha : ([] ++ z1) = z1 := rfl
  have hpl : plus ((x : Int).toNat * 64) 0 = x * 64 := by rw [plus_e, Int.toNat_natCast, Nat.add_zero]
  rw [decide_eq_false (show ¬ Int.ofNat 30 ≤ (↑x : Int) by show ¬ (30 : Int) ≤ _; omega), hpl, dkS_len, wr x (by omega)]
  have hz2 : x1 < x → z2 := by
    intro h
    unfold z2
    rw [wr x (by omega), nd1 (show [] ++ z1 = List.take 0 (dkF 64) ++ List.replicate 64 (0 : BitVec 8) by rw [ha, hz1]; exact dkS_read (by omega) (by omega) (.inr (.inr ⟨h, rfl⟩)))]
    exact ⟨by rw [ha]; omega, by omega, by omega, by omega, Int.natCast_nonneg _, Int.natCast_nonneg _, by omega, by omega, by omega, rfl, by omega, x + 1, by omega, (by show x + 1 ≤ 25; omega), rfl, hx3⟩
  clear_value z2
  refine ⟨by omega, by omega, by omega, rfl, by unfold roomFor; omega, ?_⟩
  by_cases h1 : x = x1
  · rw [decide_eq_true (show (↑x : Int) = (↑x1 : Int) by omega), decide_eq_false (show ¬ (↑x1 : Int) < (↑x : Int) by omega)]
    have hr : (List.replicate (64 - x2) (0 : BitVec 8)).length = 64 - x2 := List.length_replicate
    have ht : (List.take x2 (dkF 64)).length = x2 := by rw [List.length_take, dkF_len]; omega
    rw [hw4, hr, ht]
    repeat rw [Int.toNat_natCast]
    rw [nd1 (show [] ++ z1 = List.take x2 (dkF 64) ++ List.replicate (64 - x2) (0 : BitVec 8) by rw [ha, hz1]; exact dkS_read (by omega) (by omega) (.inr (.inl ⟨h1, rfl⟩)))]
    exact ⟨by rw [ha]; omega, by omega, by omega, by omega, by omega, by omega, by omega, by omega, by omega, rfl, by omega, x + 1, by omega, (by show x + 1 ≤ 25; omega), rfl, hx3⟩
  · rw [decide_eq_false (show ¬ (↑x : Int) = (↑x1 : Int) by omega)]
    by_cases h2 : x1 < x
    · rw [decide_eq_true (show (↑x1 : Int) < (↑x : Int) by omega)]
      exact hz2 h2
    · rw [decide_eq_false (show ¬ (↑x1 : Int) < (↑x : Int) by omega), nd1 (show [] ++ z1 = List.take 64 (dkF 64) ++ List.replicate 0 (0 : BitVec 8) by rw [ha, hz1]; exact dkS_read (by omega) (by omega) (.inl ⟨by omega, rfl⟩))]
      exact ⟨by rw [ha]; omega, by omega, by omega, by omega, Int.natCast_nonneg _, Int.natCast_nonneg _, by omega, by omega, by omega, rfl, by omega, x + 1, by omega, (by show x + 1 ≤ 25; omega), rfl, hx3⟩
end Go.Sym

/- DiskFails: power goes in just the write that was said, of so many that are not refused; the sectors ahead are written whole, those behind not at all. No conditions. -/
namespace Go.Sym
open Go.Proofs Go.Spec
theorem w7 (W : World) (n0 : Int) (n1 : Int) (n2 : Bool) :
    Calls Try.prog 7 #[.int .i64 n0, .int .i64 n1, .bool n2] W fun e w' => e = .returned (.bool true) ∧ RowKit.Below W.heap.size W w' := by
  have hv : VRels (κW W) [.int .i64 n0, .int .i64 n1, .bool n2] [.int .i64 n0, .int .i64 n1, .bool n2] := by
    simp only [VRels]
    exact ⟨_, _, rfl, rfl, _, _, rfl, rfl, _, _, rfl, rfl, rfl⟩
  refine law_walk (gl := gl0) (Γ := D12) (fn := Try.f7) (av := [.int .i64 n0, .int .i64 n1, .bool n2]) (ls := (lsDk n0 n1 n2)) [] 3000 (by kernel_rfl) (by kernel_rfl) okD12 (by kernel_rfl) (GW.nil W) (by kernel_rfl) hv ?_
  exact bd7 n0 n1 n2
end Go.Sym
namespace Go.Proofs.Ytmpgpbbaloiniaa.diskFails
open Go.ChangeShapes Go.WideShapes Go.ChangeAt Go.RowKit
set_option linter.unusedVariables false

theorem own : ownKnob Try.prog.godebug = none := by kernel_rfl
theorem laid : laidOutB Try.prog = true := by kernel_rfl

set_option maxRecDepth 100000 in
theorem lifted (os : Os) (started : os.Started) (H : Type) (enc : TypeId × Value → H) :
    ReturnsInHanded {} Try.checked os 7 .any (Rows.diskFailsSpec.pre6 enc Try.prog Try.f7 Rows.diskFailsRow.domain false) (Rows.diskFailsSpec.post enc Try.prog Try.f7 false true false false) := by
  refine returnsInHanded_of_change (C := Try.checked) own started (by kernel_rfl) Try.func7
    (ChangeSpec.witness6 (enc := enc) (C := Try.checked) false ⟨#[], #[.int .i64 0, .int .i64 0, .bool false], []⟩ 8 (by kernel_rfl) (by kernel_rfl) (by kernel_rfl) (by kernel_rfl)) ?_
  intro W base args ds gs before hval0 hW hcnd _
  have hval : ∀ (j : Nat) t v, Try.f7.params[j]? = some t → args[j]? = some v → Value.okWide Try.prog W .any base t v := hval0
  have hW' := hW
  obtain ⟨p, q, hA0, hV, rfl, hfz, hnd⟩ := hW
  have hA : DataW.TrodAll enc Try.prog W 0 (fun _ => true) true Try.f7.params.toList args.toList ds p := hA0
  rw [Try.params7] at hA hval
  obtain ⟨v0, vs0, d0, ds0, p0, q0, hargs, rfl, rfl, h0, r0⟩ := trodAll_cons hA
  obtain ⟨v1, vs1, d1, ds1, p1, q1, rfl, rfl, rfl, h1, r1⟩ := trodAll_cons r0
  obtain ⟨v2, vs2, d2, ds2, p2, q2, rfl, rfl, rfl, h2, r2⟩ := trodAll_cons r1
  obtain ⟨rfl, rfl, rfl⟩ := trodAll_nil r2
  obtain rfl : args = #[v0, v1, v2] := by cases args; simp_all
  obtain ⟨rfl, rfl⟩ := trodVars_none hV
  obtain ⟨a0, rfl, rfl, rfl, w0⟩ := open_int Try.underlying3 (hval 0 3 v0 rfl rfl) h0
  obtain ⟨a1, rfl, rfl, rfl, w1⟩ := open_int Try.underlying3 (hval 1 3 v1 rfl rfl) h1
  obtain ⟨a2, rfl, rfl, rfl⟩ := open_bool Try.underlying4 (hval 2 4 v2 rfl rfl) h2
  clear hA0 hval0
  refine (Go.Sym.w7 W a0 a1 a2).mono fun e W' ⟨he, bel⟩ => ?_
  subst he
  exact ⟨_, rfl, _, _, _, [], _, [], hW', trodAll_mk1 (shut_bool Try.underlying4 _), (trodAll_cons_mk (shut_int Try.underlying3 w0) (trodAll_cons_mk (shut_int Try.underlying3 w1) (trodAll_cons_mk (shut_bool Try.underlying4 _) trodAll_mk0))), rfl, bel.frame _, fun h => by cases h⟩

theorem over : Rows.diskFailsRow.holds Try.pinned (OpenSpec.ofChange Rows.diskFailsSpec) :=
  OpenClaim.holds_of_wide 7 Try.f7 rfl rfl rfl rfl rfl rfl rfl ⟨rfl, rfl, rfl, rfl, rfl⟩ rfl rfl rfl rfl rfl (by kernel_rfl) Try.func7 (by kernel_rfl)
    (of_decide_eq_true (by kernel_rfl)) (by unfold Func.isWrapper; first | (rw [if_pos (by decide +kernel)]; kernel_rfl) | (rw [if_neg (by decide +kernel)]; exact ⟨rfl, rfl⟩))
    (fun os started H enc _ => lifted os started H enc)

theorem proved : Rows.DiskFailsSaid :=
  over
#print axioms proved
end Go.Proofs.Ytmpgpbbaloiniaa.diskFails
