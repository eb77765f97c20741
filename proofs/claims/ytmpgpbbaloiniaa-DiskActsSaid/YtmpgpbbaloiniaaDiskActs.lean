/- DiskActs: in every row of calls a disk answers what the document's disk answers; a copy goes the same way, and changes nothing; of none nothing is told. No conditions. -/
import Derived.Test.YtmpgpbbaloiniaaDskA
import Derived.Test.YtmpgpbbaloiniaaRows
import Derived.WalkKit
import Derived.ProofKit
import Derived.OpenShut
import Derived.ChangeOld
import Derived.Below
import Derived.Carry
namespace Go.Sym
set_option linter.unusedVariables false
open Go.ChangeShapes Go.WideShapes
section
variable {H : Type} {enc : TypeId × Value → H} {P : Program} {W : World} {base : Nat} {spare : Nat → Bool} {held : Bool}
theorem rd_rowsF {t e : TypeId} {fuel : Nat} {cs : List Value} {x : DataW H × List MemPlace} {sz : Nat} {l : List Sh} {av0 : List AV} (ht : P.underlying t = some (.slice e)) (hsz : P.cellsOf e = sz) (hpos : 0 < sz) (hfl : flat P 9 e = some l) (h0 : shAll l av0)
    (h : DataW.trod enc P W base spare held fuel t cs = some x) : ∃ v n g c, cs = [v] ∧ (c = true → n = 0) ∧ n ≤ maxLen ∧ (∀ y, shAll l (g y)) ∧ VRel (κW W) (.ros true sz n g (.is c)) v :=
  rd_rows ht hsz hpos h0 (fun n xs y hh => rd_flat 9 e l n xs y hfl hh) h
end
/-- Rows of four numbers. -/
theorem sh_four {g : Nat → List AV} (h : ∀ y, shAll [.i .i64, .i .i64, .i .i64, .i .i64] (g y)) : ∃ A B C D : Nat → Int, g = fun y => [.int .i64 (A y), .int .i64 (B y), .int .i64 (C y), .int .i64 (D y)] := by
  have each : ∀ y, ∃ a b c d : Int, g y = [.int .i64 a, .int .i64 b, .int .i64 c, .int .i64 d] := by
    intro y
    obtain ⟨a, r, e1, ⟨n1, k1, _⟩, h1⟩ := sh_cons (h y)
    obtain ⟨b, r, e2, ⟨n2, k2, _⟩, h2⟩ := sh_cons h1
    obtain ⟨c, r, e3, ⟨n3, k3, _⟩, h3⟩ := sh_cons h2
    obtain ⟨d, r, e4, ⟨n4, k4, _⟩, h4⟩ := sh_cons h3
    have e5 := sh_nil h4
    subst e5
    exact ⟨n1, n2, n3, n4, by rw [e1, e2, e3, e4, k1, k2, k3, k4]⟩
  refine ⟨fun y => Classical.choose (each y), fun y => Classical.choose (Classical.choose_spec (each y)), fun y => Classical.choose (Classical.choose_spec (Classical.choose_spec (each y))), fun y => Classical.choose (Classical.choose_spec (Classical.choose_spec (Classical.choose_spec (each y)))), ?_⟩
  funext y
  exact Classical.choose_spec (Classical.choose_spec (Classical.choose_spec (Classical.choose_spec (each y))))
/-- Rows of bytes. -/
theorem sh_rb {g : Nat → List AV} (h : ∀ y, shAll [.y] (g y)) : ∃ (F : Nat → List (BitVec 8)) (C : Nat → Bool), g = (fun y => [.rb true (F y) (.is (C y))]) ∧ ∀ y, (C y = true → F y = []) ∧ (F y).length ≤ maxLen := by
  have each : ∀ y, ∃ (l : List (BitVec 8)) (c : Bool), g y = [.rb true l (.is c)] ∧ (c = true → l = []) ∧ l.length ≤ maxLen := by
    intro y
    obtain ⟨a, r, e1, ⟨l, c, k1, k2, k3⟩, h1⟩ := sh_cons (h y)
    have e5 := sh_nil h1
    subst e5
    exact ⟨l, c, by rw [e1, k1], k2, k3⟩
  refine ⟨fun y => Classical.choose (each y), fun y => Classical.choose (Classical.choose_spec (each y)), ?_, fun y => (Classical.choose_spec (Classical.choose_spec (each y))).2⟩
  funext y
  exact (Classical.choose_spec (Classical.choose_spec (each y))).1
end Go.Sym

namespace Go.Sym
set_option linter.unusedVariables false
theorem range_i64 {n : Int} (h : (Lit.int .i64 n).wf = true) : -9223372036854775808 ≤ n ∧ n < 9223372036854775808 := by
  simp [Lit.wf, IntKind.has, IntKind.min, IntKind.max, IntKind.signed, IntKind.bits] at h
  omega
/-- Rows of three numbers, and bytes. -/
theorem sh_act {g : Nat → List AV} (h : ∀ y, shAll [.i .i64, .i .i64, .i .i64, .y] (g y)) : ∃ (W I N : Nat → Int) (B : Nat → List (BitVec 8)) (C : Nat → Bool), g = (fun y => [.int .i64 (W y), .int .i64 (I y), .int .i64 (N y), .rb true (B y) (.is (C y))]) ∧
    ((∀ y, -9223372036854775808 ≤ I y ∧ I y < 9223372036854775808) ∧ ∀ y, (B y).length ≤ 9223372036854775807) := by
  have each : ∀ y, ∃ p : Int × Int × Int × List (BitVec 8) × Bool, g y = [.int .i64 p.1, .int .i64 p.2.1, .int .i64 p.2.2.1, .rb true p.2.2.2.1 (.is p.2.2.2.2)] ∧
      (-9223372036854775808 ≤ p.2.1 ∧ p.2.1 < 9223372036854775808) ∧ p.2.2.2.1.length ≤ 9223372036854775807 := by
    intro y
    obtain ⟨a, r, e1, ⟨n1, k1, _⟩, h1⟩ := sh_cons (h y)
    obtain ⟨b, r, e2, ⟨n2, k2, w2⟩, h2⟩ := sh_cons h1
    obtain ⟨c, r, e3, ⟨n3, k3, _⟩, h3⟩ := sh_cons h2
    obtain ⟨d, r, e4, ⟨l, c4, k4, _, k5⟩, h4⟩ := sh_cons h3
    have e5 := sh_nil h4
    subst e5
    exact ⟨(n1, n2, n3, l, c4), by rw [e1, e2, e3, e4, k1, k2, k3, k4], range_i64 w2, k5⟩
  refine ⟨fun y => (Classical.choose (each y)).1, fun y => (Classical.choose (each y)).2.1, fun y => (Classical.choose (each y)).2.2.1, fun y => (Classical.choose (each y)).2.2.2.1, fun y => (Classical.choose (each y)).2.2.2.2, ?_, ?_, ?_⟩
  · funext y
    exact (Classical.choose_spec (each y)).1
  · exact fun y => (Classical.choose_spec (each y)).2.1
  · exact fun y => (Classical.choose_spec (each y)).2.2
end Go.Sym

namespace Go.Sym
open Go.Proofs Go.Spec
set_option linter.unusedVariables false
set_option maxRecDepth 100000 in
theorem vd15  : bodyP Try.prog D11 gl0 [] [] 3000 Try.f15 0 [] [] (retQ Try.prog Try.f15 0 ⟨[], .bool true, [], []⟩) = (
(0 : Int) ≤ (2 : Int) ∧
 (0 : Int) ≤ (2 : Int) ∧
 2 ≤ 2 ∧
 128 ≤ 281474976710656 ∧
 2 ≤ 9223372036854775807 ∧
 64 ≤ 64 ∧
 64 ≤ 281474976710656 ∧
 64 ≤ 9223372036854775807 ∧
 (0 : Int) ≤ (0 : Int) ∧
 0 < 64 ∧
 0 < 64 ∧
 (0 : Int) ≤ Int.ofNat 1 ∧
 1 < 64 ∧
 1 < 64 ∧
 (0 : Int) ≤ Int.ofNat 2 ∧
 2 < 64 ∧
 2 < 64 ∧
 (0 : Int) ≤ Int.ofNat 3 ∧
 3 < 64 ∧
 3 < 64 ∧
 (0 : Int) ≤ Int.ofNat 4 ∧
 4 < 64 ∧
 4 < 64 ∧
 (0 : Int) ≤ Int.ofNat 5 ∧
 5 < 64 ∧
 5 < 64 ∧
 (0 : Int) ≤ Int.ofNat 6 ∧
 6 < 64 ∧
 6 < 64 ∧
 (0 : Int) ≤ Int.ofNat 7 ∧
 7 < 64 ∧
 7 < 64 ∧
 (0 : Int) ≤ Int.ofNat 8 ∧
 8 < 64 ∧
 8 < 64 ∧
 (0 : Int) ≤ Int.ofNat 9 ∧
 9 < 64 ∧
 9 < 64 ∧
 (0 : Int) ≤ Int.ofNat 10 ∧
 10 < 64 ∧
 10 < 64 ∧
 (0 : Int) ≤ Int.ofNat 11 ∧
 11 < 64 ∧
 11 < 64 ∧
 (0 : Int) ≤ Int.ofNat 12 ∧
 12 < 64 ∧
 12 < 64 ∧
 (0 : Int) ≤ Int.ofNat 13 ∧
 13 < 64 ∧
 13 < 64 ∧
 (0 : Int) ≤ Int.ofNat 14 ∧
 14 < 64 ∧
 14 < 64 ∧
 (0 : Int) ≤ Int.ofNat 15 ∧
 15 < 64 ∧
 15 < 64 ∧
 (0 : Int) ≤ Int.ofNat 16 ∧
 16 < 64 ∧
 16 < 64 ∧
 (0 : Int) ≤ Int.ofNat 17 ∧
 17 < 64 ∧
 17 < 64 ∧
 (0 : Int) ≤ Int.ofNat 18 ∧
 18 < 64 ∧
 18 < 64 ∧
 (0 : Int) ≤ Int.ofNat 19 ∧
 19 < 64 ∧
 19 < 64 ∧
 (0 : Int) ≤ Int.ofNat 20 ∧
 20 < 64 ∧
 20 < 64 ∧
 (0 : Int) ≤ Int.ofNat 21 ∧
 21 < 64 ∧
 21 < 64 ∧
 (0 : Int) ≤ Int.ofNat 22 ∧
 22 < 64 ∧
 22 < 64 ∧
 (0 : Int) ≤ Int.ofNat 23 ∧
 23 < 64 ∧
 23 < 64 ∧
 (0 : Int) ≤ Int.ofNat 24 ∧
 24 < 64 ∧
 24 < 64 ∧
 (0 : Int) ≤ Int.ofNat 25 ∧
 25 < 64 ∧
 25 < 64 ∧
 (0 : Int) ≤ Int.ofNat 26 ∧
 26 < 64 ∧
 26 < 64 ∧
 (0 : Int) ≤ Int.ofNat 27 ∧
 27 < 64 ∧
 27 < 64 ∧
 (0 : Int) ≤ Int.ofNat 28 ∧
 28 < 64 ∧
 28 < 64 ∧
 (0 : Int) ≤ Int.ofNat 29 ∧
 29 < 64 ∧
 29 < 64 ∧
 (0 : Int) ≤ Int.ofNat 30 ∧
 30 < 64 ∧
 30 < 64 ∧
 (0 : Int) ≤ Int.ofNat 31 ∧
 31 < 64 ∧
 31 < 64 ∧
 (0 : Int) ≤ Int.ofNat 32 ∧
 32 < 64 ∧
 32 < 64 ∧
 (0 : Int) ≤ Int.ofNat 33 ∧
 33 < 64 ∧
 33 < 64 ∧
 (0 : Int) ≤ Int.ofNat 34 ∧
 34 < 64 ∧
 34 < 64 ∧
 (0 : Int) ≤ Int.ofNat 35 ∧
 35 < 64 ∧
 35 < 64 ∧
 (0 : Int) ≤ Int.ofNat 36 ∧
 36 < 64 ∧
 36 < 64 ∧
 (0 : Int) ≤ Int.ofNat 37 ∧
 37 < 64 ∧
 37 < 64 ∧
 (0 : Int) ≤ Int.ofNat 38 ∧
 38 < 64 ∧
 38 < 64 ∧
 (0 : Int) ≤ Int.ofNat 39 ∧
 39 < 64 ∧
 39 < 64 ∧
 (0 : Int) ≤ Int.ofNat 40 ∧
 40 < 64 ∧
 40 < 64 ∧
 (0 : Int) ≤ Int.ofNat 41 ∧
 41 < 64 ∧
 41 < 64 ∧
 (0 : Int) ≤ Int.ofNat 42 ∧
 42 < 64 ∧
 42 < 64 ∧
 (0 : Int) ≤ Int.ofNat 43 ∧
 43 < 64 ∧
 43 < 64 ∧
 (0 : Int) ≤ Int.ofNat 44 ∧
 44 < 64 ∧
 44 < 64 ∧
 (0 : Int) ≤ Int.ofNat 45 ∧
 45 < 64 ∧
 45 < 64 ∧
 (0 : Int) ≤ Int.ofNat 46 ∧
 46 < 64 ∧
 46 < 64 ∧
 (0 : Int) ≤ Int.ofNat 47 ∧
 47 < 64 ∧
 47 < 64 ∧
 (0 : Int) ≤ Int.ofNat 48 ∧
 48 < 64 ∧
 48 < 64 ∧
 (0 : Int) ≤ Int.ofNat 49 ∧
 49 < 64 ∧
 49 < 64 ∧
 (0 : Int) ≤ Int.ofNat 50 ∧
 50 < 64 ∧
 50 < 64 ∧
 (0 : Int) ≤ Int.ofNat 51 ∧
 51 < 64 ∧
 51 < 64 ∧
 (0 : Int) ≤ Int.ofNat 52 ∧
 52 < 64 ∧
 52 < 64 ∧
 (0 : Int) ≤ Int.ofNat 53 ∧
 53 < 64 ∧
 53 < 64 ∧
 (0 : Int) ≤ Int.ofNat 54 ∧
 54 < 64 ∧
 54 < 64 ∧
 (0 : Int) ≤ Int.ofNat 55 ∧
 55 < 64 ∧
 55 < 64 ∧
 (0 : Int) ≤ Int.ofNat 56 ∧
 56 < 64 ∧
 56 < 64 ∧
 (0 : Int) ≤ Int.ofNat 57 ∧
 57 < 64 ∧
 57 < 64 ∧
 (0 : Int) ≤ Int.ofNat 58 ∧
 58 < 64 ∧
 58 < 64 ∧
 (0 : Int) ≤ Int.ofNat 59 ∧
 59 < 64 ∧
 59 < 64 ∧
 (0 : Int) ≤ Int.ofNat 60 ∧
 60 < 64 ∧
 60 < 64 ∧
 (0 : Int) ≤ Int.ofNat 61 ∧
 61 < 64 ∧
 61 < 64 ∧
 (0 : Int) ≤ Int.ofNat 62 ∧
 62 < 64 ∧
 62 < 64 ∧
 (0 : Int) ≤ Int.ofNat 63 ∧
 63 < 64 ∧
 63 < 64 ∧
 (0 : Int) ≤ (1 : Int) ∧
 1 < 2 ∧
 (0 : Int) ≤ Int.ofNat 10 ∧
 10 ≤ 64 ∧
 64 = 64 ∧
 74 ≤ 128 ∧
 (0 : Int) ≤ (1 : Int) ∧
 1 < 2 ∧
 128 ≤ 128 ∧
 0 = 0 ∧
 roomFor 0 64 1 ∧
 9 < 64 ∧
 9 < 64 ∧
 10 < 64 ∧
 10 < 64 ∧
 Bool.true = Bool.true ∧
 True : Prop) := by kernel_rfl
set_option maxRecDepth 100000 in
theorem bd15 : Must (bodyP Try.prog D11 gl0 [] [] 3000 Try.f15 0 [] [] (retQ Try.prog Try.f15 0 ⟨[], .bool true, [], []⟩)) := by
  constructor
  rw [vd15]
  simp (decide := true) only [and_true, true_and]
  unfold roomFor
  decide
def gDt (xs : List AV) (bs : List ABlk) : TL := match xs, bs with
  | [], [] => .ok ⟨[], .bool true, [], []⟩
  | _, _ => .no
def spDt : Spec := ⟨[], fun _ _ => [], fun _ _ => [], gDt⟩
theorem cDt : COK Try.prog gl0 15 (mkF spDt) := by
  refine ctrE (fn := Try.f15) [] 3000 (by kernel_rfl) (by kernel_rfl) okD11 (by kernel_rfl) (fun args w => by kernel_rfl) fun xs bs r hs ho => ?_
  replace hs : (gDt xs bs).sel = some r := hs
  unfold gDt at hs
  split at hs
  · simp only [TL.sel, Option.some.injEq] at hs
    subst hs
    exact ⟨_, bd15⟩
  · simp [TL.sel] at hs
noncomputable def D12 : Ctx := D11.add 15 (mkF spDt)
theorem okD12 : COKs Try.prog gl0 D12 := okD11.add cDt
def dkk (n : Int) : Nat := (BitVec.ofInt 64 n % 20#64).toNat
def dkt (n : Int) : Nat := (BitVec.ofInt 64 n % 65#64).toNat
def dkC (on : Bool) (w g t : Int) : ABlk := ⟨.cells [.slice 201 0 64 30 .ow .unk, .bool on, .int .i64 w, .int .i64 g, .int .i64 t], true, 0⟩
def dkE (k t : Nat) : List (Nat × AV) := [(7, .int .i64 k), (8, .int .i64 t), (9, .ptr 200 0 0 0), (10, .int .i64 0), (11, .slice 100 0 1 64 .ow .unk)]
def lsD1 (k t : Nat) (r : Bool) : LS := ⟨Nat, fun i => (2, .bool r) :: (12, .int .i64 i) :: dkE k t, fun i => [(100, ⟨.bytes (dkF i), true, 1⟩), (200, dkC true 0 (-1) 0), (201, ⟨.bytes (dkS 0 0 0), true, 64⟩)], 1000, fun i => 64 - i, fun i => i ≤ 64, fun _ => []⟩
def lsD2 (k t : Nat) (r : Bool) : LS := ⟨Nat, fun i => (2, .bool r) :: (13, .int .i64 i) :: dkE k t, fun i => [(100, ⟨.bytes (dkF 64), true, 1⟩), (200, dkC (decide (i ≤ k)) (min i (k + 1) : Nat) (k - i : Nat) t), (201, ⟨.bytes (dkS k t i), true, 64⟩)], 1000, fun i => 25 - i, fun i => i ≤ 25, fun _ => []⟩
def lsD3 (k t : Nat) : LS := ⟨Nat, fun i => (15, .int .i64 i) :: dkE k t, fun i => [(100, ⟨.bytes (dkF 64), true, 1⟩), (200, dkC true (k + 1 : Nat) (-1) t), (201, ⟨.bytes (dkS k t 25), true, 64⟩)], 1000, fun i => 25 - i, fun i => i ≤ 25, fun _ => []⟩
def lsDk (n m : Int) (r : Bool) : List (Nat × LS) := [(6, lsD1 (dkk n) (dkt m) r), (11, lsD2 (dkk n) (dkt m) r), (20, lsD3 (dkk n) (dkt m))]
end Go.Sym

set_option linter.unusedSimpArgs false
namespace Go.Spec
theorem map_at {n : Nat} {f : Nat → BitVec 8} (p : Nat) : ((List.range n).map f)[p]? = if p < n then some (f p) else none := by
  by_cases h : p < n
  · rw [if_pos h, List.getElem?_map, List.getElem?_range h]; rfl
  · rw [if_neg h, List.getElem?_eq_none (by simp; omega)]
theorem dkF_len (i : Nat) : (dkF i).length = 64 := by simp [dkF]
theorem dkS_len (k t i : Nat) : (dkS k t i).length = 1920 := by simp [dkS]
theorem dkF_at (i p : Nat) : (dkF i)[p]? = if p < 64 then some (dkFb i p) else none := map_at p
theorem dkS_at (k t i p : Nat) : (dkS k t i)[p]? = if p < 1920 then some (dkB k t i p) else none := map_at p
theorem dkF_zero : dkF 0 = List.replicate 64 0 := by
  apply List.ext_getElem?
  intro p
  rw [dkF_at, List.getElem?_replicate]
  rfl
theorem dkF_set (x : Nat) (h : x < 64) : dkF (x + 1) = (dkF x).set x (dkN x) := by
  apply List.ext_getElem?
  intro p
  rw [List.getElem?_set, dkF_at, dkF_at, dkF_len]
  by_cases hp : x = p
  · subst hp
    rw [if_pos h, if_pos rfl, if_pos h]
    unfold dkFb
    rw [if_pos (by omega)]
  · rw [if_neg hp]
    split
    · unfold dkFb
      by_cases h2 : p < x
      · rw [if_pos (by omega), if_pos h2]
      · rw [if_neg (by omega), if_neg h2]
    · rfl
theorem dkS_zero (k t : Nat) : dkS k t 0 = List.replicate 1920 0 := by
  apply List.ext_getElem?
  intro p
  rw [dkS_at, List.getElem?_replicate]
  split
  · unfold dkB
    rw [if_neg (by omega)]
  · rfl
theorem dkS_put {k t i n : Nat} (hi : i < 25) (hn : n ≤ 64) (h : (i < k ∧ n = 64) ∨ (i = k ∧ n = t)) :
    dkS k t (i + 1) = (dkS k t i).take (i * 64) ++ ((dkF 64).take n ++ (dkS k t i).drop (i * 64 + n)) := by
  apply List.ext_getElem?
  intro p
  rw [dkS_at]
  by_cases h1 : p < i * 64
  · rw [List.getElem?_append_left (by rw [List.length_take, dkS_len]; omega), List.getElem?_take, if_pos h1, dkS_at, if_pos (by omega), if_pos (by omega)]
    unfold dkB
    by_cases h2 : p / 64 < i ∧ (p / 64 < k ∨ (p / 64 = k ∧ p % 64 < t))
    · rw [if_pos h2, if_pos (by omega)]
    · rw [if_neg h2, if_neg (by omega)]
  · rw [List.getElem?_append_right (by rw [List.length_take, dkS_len]; omega), List.length_take, dkS_len, Nat.min_eq_left (by omega)]
    by_cases h2 : p < i * 64 + n
    · rw [List.getElem?_append_left (by rw [List.length_take, dkF_len]; omega), List.getElem?_take, if_pos (by omega), dkF_at, if_pos (by omega), if_pos (by omega)]
      unfold dkB dkFb
      rw [if_pos (by omega), if_pos (by omega), show p % 64 = p - i * 64 by omega]
    · rw [List.getElem?_append_right (by rw [List.length_take, dkF_len]; omega), List.length_take, dkF_len, Nat.min_eq_left hn, List.getElem?_drop, dkS_at, show i * 64 + n + (p - i * 64 - n) = p by omega]
      split
      · unfold dkB
        by_cases h3 : p / 64 < i ∧ (p / 64 < k ∨ (p / 64 = k ∧ p % 64 < t))
        · rw [if_pos h3, if_pos (by omega)]
        · rw [if_neg h3, if_neg (by omega)]
      · rfl
theorem dkS_skip {k t i : Nat} (h : k < i) : dkS k t (i + 1) = dkS k t i := by
  apply List.ext_getElem?
  intro p
  rw [dkS_at, dkS_at]
  split
  · unfold dkB
    by_cases h3 : p / 64 < i ∧ (p / 64 < k ∨ (p / 64 = k ∧ p % 64 < t))
    · rw [if_pos h3, if_pos (by omega)]
    · rw [if_neg h3, if_neg (by omega)]
  · rfl
theorem dkS_read {k t i n : Nat} (hi : i < 25) (hn : n ≤ 64) (h : (i < k ∧ n = 64) ∨ (i = k ∧ n = t) ∨ (k < i ∧ n = 0)) :
    ((dkS k t 25).drop (i * 64)).take 64 = (dkF 64).take n ++ List.replicate (64 - n) 0 := by
  apply List.ext_getElem?
  intro p
  rw [List.getElem?_take]
  by_cases h1 : p < 64
  · rw [if_pos h1, List.getElem?_drop, dkS_at, if_pos (by omega)]
    unfold dkB
    by_cases h2 : p < n
    · rw [List.getElem?_append_left (by rw [List.length_take, dkF_len]; omega), List.getElem?_take, if_pos h2, dkF_at, if_pos h1, if_pos (by omega)]
      unfold dkFb
      rw [if_pos h1, show (i * 64 + p) % 64 = p by omega]
    · rw [List.getElem?_append_right (by rw [List.length_take, dkF_len]; omega), List.length_take, dkF_len, Nat.min_eq_left hn, List.getElem?_replicate, if_neg (by omega), if_pos (by omega)]
  · rw [if_neg h1, List.getElem?_eq_none (by rw [List.length_append, List.length_take, dkF_len, List.length_replicate]; omega)]
end Go.Spec

namespace Go.Spec
open Go.Sym
/-- Why a write, or a read, is refused (a read: n = 64). -/
def dwR (sz : Nat) (on : Bool) (i : Int) (n : Nat) : Int := if on = false then 6 else if i < 0 ∨ (sz : Int) ≤ i then 1 else if n ≠ 64 then 1 else 0
def dwE (sz : Nat) (on : Bool) (g i : Int) (n : Nat) : Int := if dwR sz on i n ≠ 0 then dwR sz on i n else if g = 0 then 6 else 0
def dwO (sz : Nat) (on : Bool) (g i : Int) (n : Nat) : Bool := if dwR sz on i n ≠ 0 then on else if g = 0 then false else on
def dwW (sz : Nat) (on : Bool) (w i : Int) (n : Nat) : Int := if dwR sz on i n ≠ 0 then w else w + 1
def dwG (sz : Nat) (on : Bool) (g i : Int) (n : Nat) : Int := if dwR sz on i n ≠ 0 then g else if 0 < g then g - 1 else g
/-- Bytes put into a sector. -/
def dPut (L : By) (i : Nat) (c : By) : By := L.take (i * 64) ++ (c ++ L.drop (i * 64 + c.length))
def dwL (sz : Nat) (on : Bool) (g t i : Int) (L b : By) : By := if dwR sz on i b.length ≠ 0 then L else if g = 0 then dPut L i.toNat (b.take t.toNat) else dPut L i.toNat b
def drB (sz : Nat) (on : Bool) (i : Int) (L : By) : By := if dwR sz on i 64 ≠ 0 then [] else (L.drop (i.toNat * 64)).take 64
end Go.Spec
namespace Go.Sym
open Go.Proofs Go.Spec
set_option linter.unusedVariables false
def dkA (sz : Nat) (on : Bool) (w g t : Int) : ABlk := ⟨.cells [.slice 1 0 64 sz .ow (.is false), .bool on, .int .i64 w, .int .i64 g, .int .i64 t], true, 0⟩
def dkL (L : By) : ABlk := ⟨.bytes L, true, 64⟩
end Go.Sym

set_option linter.unusedSimpArgs false
namespace Go.Sym
open Go.Proofs Go.Spec
set_option linter.unusedVariables false
set_option maxRecDepth 100000 in
theorem vd16 (L b L2 : By) (sz : Nat) (on o2 : Bool) (w g t i e w2 g2 : Int) : bodyP Try.prog D3 gl0 [] [] 3000 Try.f16 2 [.ptr 0 0 0 0, .int .i64 i, .rb false b .unk] [dkA sz on w g t, dkL L] (retQ Try.prog Try.f16 2 ⟨[], .int .i64 e, [some (some (dkA sz o2 w2 g2 t)), some (some (dkL L2))], []⟩) = (
let x1 := Bool.false = Bool.false ∧ 0 = 0 ∧ 0 = 0 ∧ 0 = 0 ∧ sz = sz ∧ o2 = on ∧ w2 = w ∧ g2 = g ∧ t = t ∧ L2 = L ∧ True; let x2 := t = t ∧ L2 = List.take (plus (i.toNat * 64) 0) L ++ (List.take 64 b ++ List.drop (plus (i.toNat * 64) 0 + Min.min (List.length b) 64) L) ∧ True; @Bool.rec (fun _ => Prop) (@Bool.rec (fun _ => Prop) (e = (1 : Int) ∧ x1) (@Bool.rec (fun _ => Prop) (@Bool.rec (fun _ => Prop) (@Bool.rec (fun _ => Prop) (@Bool.rec (fun _ => Prop) ((0 : Int) ≤ i ∧ i.toNat < sz ∧ plus (i.toNat * 64) 0 + 64 ≤ List.length L ∧ e = (0 : Int) ∧ Bool.false = Bool.false ∧ 0 = 0 ∧ 0 = 0 ∧ 0 = 0 ∧ sz = sz ∧ o2 = on ∧ w2 = IntKind.i64.wrap (w + (1 : Int)) ∧ g2 = g ∧ x2) ((0 : Int) ≤ i ∧ i.toNat < sz ∧ plus (i.toNat * 64) 0 + 64 ≤ List.length L ∧ e = (0 : Int) ∧ Bool.false = Bool.false ∧ 0 = 0 ∧ 0 = 0 ∧ 0 = 0 ∧ sz = sz ∧ o2 = on ∧ w2 = IntKind.i64.wrap (w + (1 : Int)) ∧ g2 = IntKind.i64.wrap (g - (1 : Int)) ∧ x2) (decide ((0 : Int) < g))) ((0 : Int) ≤ i ∧ i.toNat < sz ∧ (0 : Int) ≤ t ∧ t.toNat ≤ 64 ∧ plus (i.toNat * 64) (0 + 0) + t.toNat ≤ List.length L ∧ e = (6 : Int) ∧ Bool.false = Bool.false ∧ 0 = 0 ∧ 0 = 0 ∧ 0 = 0 ∧ sz = sz ∧ o2 = Bool.false ∧ w2 = IntKind.i64.wrap (w + (1 : Int)) ∧ g2 = g ∧ t = t ∧ L2 = List.take (plus (i.toNat * 64) (0 + 0)) L ++ (List.take t.toNat b ++ List.drop (plus (i.toNat * 64) (0 + 0) + Min.min (List.length b) t.toNat) L) ∧ True) (decide (g = (0 : Int)))) (e = (1 : Int) ∧ x1) !decide ((↑(List.length b) : Int) = (64 : Int))) (e = (1 : Int) ∧ x1) (decide ((↑sz : Int) ≤ i))) !decide (i < (0 : Int))) (e = (6 : Int) ∧ x1) !on : Prop) := by kernel_rfl
set_option maxRecDepth 100000 in
theorem vd16n (b : By) (i : Int) : bodyP Try.prog D3 gl0 [] [] 3000 Try.f16 0 [.nilp, .int .i64 i, .rb false b .unk] [] (retQ Try.prog Try.f16 0 ⟨[], .int .i64 1, [], []⟩) = (
(1 : Int) = (1 : Int) ∧ True : Prop) := by kernel_rfl
set_option maxRecDepth 100000 in
theorem vd12 (L B : By) (sz m : Nat) (on : Bool) (w g t i e : Int) : bodyP Try.prog D3 gl0 [] [] 3000 Try.f12 2 [.ptr 0 0 0 0, .int .i64 i] [dkA sz on w g t, dkL L] (retQ Try.prog Try.f12 2 ⟨[], .tup [.slice 2 0 1 m .ow .unk, .int .i64 e], [some (some (dkA sz on w g t)), some (some (dkL L))], [⟨.bytes B, true, 1⟩]⟩) = (
let x1 := Bool.false = Bool.false ∧ 0 = 0 ∧ 0 = 0 ∧ 0 = 0 ∧ sz = sz ∧ on = on ∧ w = w ∧ g = g ∧ t = t ∧ L = L ∧ B = [] ∧ True; @Bool.rec (fun _ => Prop) (@Bool.rec (fun _ => Prop) (m = 0 ∧ e = (1 : Int) ∧ x1) (@Bool.rec (fun _ => Prop) ((0 : Int) ≤ i ∧ i.toNat < sz ∧ plus (i.toNat * 64) 0 + 64 ≤ List.length L ∧ 0 = 0 ∧ roomFor 0 (List.take 64 (dropN (plus (i.toNat * 64) 0) L)).length 1 ∧ 0 = 0 ∧ 0 = 0 ∧ 0 = 0 ∧ m = 0 + (List.take 64 (dropN (plus (i.toNat * 64) 0) L)).length ∧ e = (0 : Int) ∧ Bool.false = Bool.false ∧ 0 = 0 ∧ 0 = 0 ∧ 0 = 0 ∧ sz = sz ∧ on = on ∧ w = w ∧ g = g ∧ t = t ∧ L = L ∧ B = [] ++ List.take 64 (dropN (plus (i.toNat * 64) 0) L) ∧ True) (m = 0 ∧ e = (1 : Int) ∧ x1) (decide ((↑sz : Int) ≤ i))) !decide (i < (0 : Int))) (m = 0 ∧ e = (6 : Int) ∧ x1) !on : Prop) := by kernel_rfl
set_option maxRecDepth 100000 in
theorem vd12n (i : Int) : bodyP Try.prog D3 gl0 [] [] 3000 Try.f12 0 [.nilp, .int .i64 i] [] (retQ Try.prog Try.f12 0 ⟨[], .tup [.nils, .int .i64 1], [], []⟩) = (
(1 : Int) = (1 : Int) ∧ True : Prop) := by kernel_rfl
theorem nd1 {p : Prop} [Decidable p] (h : p) : (!decide p) = false := by rw [decide_eq_true h]; rfl
theorem nd0 {p : Prop} [Decidable p] (h : ¬ p) : (!decide p) = true := by rw [decide_eq_false h]; rfl
theorem plus_e (x n : Nat) : plus x n = x + n := by unfold plus; split <;> simp
theorem dw_ref {sz : Nat} {on : Bool} {w g t i e : Int} {L b : By} (h : dwR sz on i b.length = e) (he : e ≠ 0) :
    dwE sz on g i b.length = e ∧ dwO sz on g i b.length = on ∧ dwW sz on w i b.length = w ∧ dwG sz on g i b.length = g ∧ dwL sz on g t i L b = L := by
  unfold dwE dwO dwW dwG dwL
  rw [h, if_pos he, if_pos he, if_pos he, if_pos he, if_pos he]
  exact ⟨rfl, rfl, rfl, rfl, rfl⟩
theorem dw_ok {sz : Nat} {on : Bool} {w g t i : Int} {L b : By} (h : dwR sz on i b.length = 0) :
    dwE sz on g i b.length = (if g = 0 then 6 else 0) ∧ dwO sz on g i b.length = (if g = 0 then false else on) ∧ dwW sz on w i b.length = w + 1 ∧ dwG sz on g i b.length = (if 0 < g then g - 1 else g) ∧
    dwL sz on g t i L b = (if g = 0 then dPut L i.toNat (b.take t.toNat) else dPut L i.toNat b) := by
  unfold dwE dwO dwW dwG dwL
  rw [h]
  exact ⟨rfl, rfl, rfl, rfl, rfl⟩
theorem bd16 (L b : By) (sz : Nat) (on : Bool) (w g t i : Int) (hL : L.length = sz * 64) (ht0 : 0 ≤ t) (ht : t ≤ 64) (hw0 : 0 ≤ w) (hw : w < 4611686018427387904) (hg : g < 9223372036854775808) :
    Must (bodyP Try.prog D3 gl0 [] [] 3000 Try.f16 2 [.ptr 0 0 0 0, .int .i64 i, .rb false b .unk] [dkA sz on w g t, dkL L] (retQ Try.prog Try.f16 2 ⟨[], .int .i64 (dwE sz on g i b.length), [some (some (dkA sz (dwO sz on g i b.length) (dwW sz on w i b.length) (dwG sz on g i b.length) t)), some (some (dkL (dwL sz on g t i L b)))], []⟩)) := by
  constructor
  rw [vd16]
  intro x1 x2
  have ref : ∀ e, dwR sz on i b.length = e → e ≠ 0 → dwE sz on g i b.length = e ∧ x1 := fun e h he => by
    obtain ⟨a1, a2, a3, a4, a5⟩ := dw_ref (w := w) (g := g) (t := t) (L := L) h he
    exact ⟨a1, rfl, rfl, rfl, rfl, rfl, a2, a3, a4, rfl, a5, trivial⟩
  cases on with
  | false => exact ref 6 (by unfold dwR; rfl) (by omega)
  | true =>
  show @Bool.rec (fun _ => Prop) _ _ (!decide (i < 0))
  by_cases c1 : i < 0
  · rw [nd1 c1]
    exact ref 1 (by unfold dwR; rw [if_neg (by decide), if_pos (.inl c1)]) (by omega)
  rw [nd0 c1]
  show @Bool.rec (fun _ => Prop) _ _ (decide ((sz : Int) ≤ i))
  refine brec (fun c2 => ?_) (fun c2 => ?_)
  · have c2 : (sz : Int) ≤ i := by simpa using c2
    exact ref 1 (by unfold dwR; rw [if_neg (by decide), if_pos (.inr c2)]) (by omega)
  have c2 := ndle.1 c2
  by_cases c3 : (↑b.length : Int) = 64
  · rw [nd1 c3]
    have hR : dwR sz true i b.length = 0 := by unfold dwR; rw [if_neg (by decide), if_neg (by omega), if_neg (by omega)]
    obtain ⟨a1, a2, a3, a4, a5⟩ := dw_ok (w := w) (g := g) (t := t) (L := L) hR
    have hp : plus (i.toNat * 64) 0 = i.toNat * 64 := by rw [plus_e, Nat.add_zero]
    have hi : i.toNat < sz := by omega
    have hw1 : IntKind.i64.wrap (w + 1) = w + 1 := wrap_i64 (by omega) (by omega)
    have hL2 : i.toNat * 64 + 64 ≤ L.length := by omega
    rw [a1, a2, a3, a4, hw1]
    refine brec (fun d => ?_) (fun d => ?_)
    · have d : g = 0 := by simpa using d
      rw [if_pos d] at a5
      rw [if_pos d, if_pos d, if_neg (by omega), hp]
      refine ⟨by omega, hi, ht0, by omega, by omega, rfl, rfl, rfl, rfl, rfl, rfl, rfl, rfl, rfl, rfl, ?_, trivial⟩
      rw [a5]
      unfold dPut
      rw [List.length_take, Nat.min_comm b.length]
    · have d : g ≠ 0 := by simpa using d
      have hx2 : x2 := by
        refine ⟨rfl, ?_, trivial⟩
        rw [a5, if_neg d, hp]
        unfold dPut
        rw [List.take_of_length_le (l := b) (i := 64) (by omega), Nat.min_eq_left (show b.length ≤ 64 by omega)]
      rw [if_neg d, if_neg d]
      refine brec (fun d2 => ?_) (fun d2 => ?_)
      · have d2 := dlt.1 d2
        rw [if_pos d2, hp, wrap_i64 (x := g - 1) (by omega) (by omega)]
        exact ⟨by omega, hi, by omega, rfl, rfl, rfl, rfl, rfl, rfl, rfl, rfl, rfl, hx2⟩
      · have d2 := ndlt.1 d2
        rw [if_neg (by omega), hp]
        exact ⟨by omega, hi, by omega, rfl, rfl, rfl, rfl, rfl, rfl, rfl, rfl, rfl, hx2⟩
  · rw [nd0 c3]
    exact ref 1 (by unfold dwR; rw [if_neg (by decide), if_neg (by omega), if_pos (by omega)]) (by omega)
theorem bd16n (b : By) (i : Int) : Must (bodyP Try.prog D3 gl0 [] [] 3000 Try.f16 0 [.nilp, .int .i64 i, .rb false b .unk] [] (retQ Try.prog Try.f16 0 ⟨[], .int .i64 1, [], []⟩)) := ⟨by rw [vd16n]; exact ⟨rfl, trivial⟩⟩
theorem bd12n (i : Int) : Must (bodyP Try.prog D3 gl0 [] [] 3000 Try.f12 0 [.nilp, .int .i64 i] [] (retQ Try.prog Try.f12 0 ⟨[], .tup [.nils, .int .i64 1], [], []⟩)) := ⟨by rw [vd12n]; exact ⟨rfl, trivial⟩⟩
theorem bd12 (L : By) (sz : Nat) (on : Bool) (w g t i : Int) (hL : L.length = sz * 64) :
    Must (bodyP Try.prog D3 gl0 [] [] 3000 Try.f12 2 [.ptr 0 0 0 0, .int .i64 i] [dkA sz on w g t, dkL L] (retQ Try.prog Try.f12 2 ⟨[], .tup [.slice 2 0 1 (drB sz on i L).length .ow .unk, .int .i64 (dwR sz on i 64)], [some (some (dkA sz on w g t)), some (some (dkL L))], [⟨.bytes (drB sz on i L), true, 1⟩]⟩)) := by
  constructor
  rw [vd12]
  intro x1
  have ref : ∀ e, dwR sz on i 64 = e → e ≠ 0 → (drB sz on i L).length = 0 ∧ dwR sz on i 64 = e ∧ x1 := fun e h he => by
    have hB : drB sz on i L = [] := by unfold drB; rw [h, if_pos he]
    refine ⟨by rw [hB]; rfl, h, ?_⟩
    unfold x1
    rw [hB]
    exact ⟨rfl, rfl, rfl, rfl, rfl, rfl, rfl, rfl, rfl, rfl, rfl, trivial⟩
  cases on with
  | false => exact ref 6 (by unfold dwR; rfl) (by omega)
  | true =>
  show @Bool.rec (fun _ => Prop) _ _ (!decide (i < 0))
  by_cases c1 : i < 0
  · rw [nd1 c1]
    exact ref 1 (by unfold dwR; rw [if_neg (by decide), if_pos (.inl c1)]) (by omega)
  rw [nd0 c1]
  show @Bool.rec (fun _ => Prop) _ _ (decide ((sz : Int) ≤ i))
  refine brec (fun c2 => ?_) (fun c2 => ?_)
  · have c2 : (sz : Int) ≤ i := by simpa using c2
    exact ref 1 (by unfold dwR; rw [if_neg (by decide), if_pos (.inr c2)]) (by omega)
  have c2 := ndle.1 c2
  have hR : dwR sz true i 64 = 0 := by unfold dwR; rw [if_neg (by decide), if_neg (by omega), if_neg (by omega)]
  have hp : plus (i.toNat * 64) 0 = i.toNat * 64 := by rw [plus_e, Nat.add_zero]
  have hB : drB sz true i L = List.take 64 (dropN (plus (i.toNat * 64) 0) L) := by unfold drB; rw [hR, if_neg (by omega), hp, dropN_eq]
  rw [← hB, hR]
  have hl : (drB sz true i L).length ≤ 64 := by rw [hB, List.length_take]; omega
  exact ⟨by omega, by omega, by rw [hp]; omega, rfl, by unfold roomFor; omega, rfl, rfl, rfl, (Nat.zero_add _).symm, rfl, rfl, rfl, rfl, rfl, rfl, rfl, rfl, rfl, rfl, rfl, rfl, trivial⟩
end Go.Sym

namespace Go.Sym
open Go.Proofs Go.Spec
set_option linter.unusedVariables false
def rkA (sz : Nat) (off : Bool) (till torn wr : Int) : ABlk := ⟨.cells [.slice 1 0 1 sz .ow .unk, .bool off, .int .i64 till, .int .i64 torn, .int .i64 wr], true, 0⟩
def rkS (sz : Nat) (F : Nat → By) : ABlk := ⟨.rows 1 sz (fun j => [.rb true (F j) (.is false)]), true, 1⟩
def dkZ : By := List.replicate 64 0
def lsRn (sz : Nat) : LS := ⟨Nat, fun k => [(0, .int .i64 sz), (3, .ptr 102 0 0 0), (4, .int .i64 k)], fun k => [(102, ⟨.cells [.slice 103 0 1 k .ow .unk, .bool false, .int .i64 (-1), .int .i64 0, .int .i64 0], true, 0⟩), (103, rkS k fun _ => dkZ)], 1000, fun k => sz - k, fun k => k ≤ sz, fun _ => []⟩
end Go.Sym

set_option linter.unusedSimpArgs false
namespace Go.Spec
open Go.Sym
def rwE (sz : Nat) (off : Bool) (ti i : Int) (n : Nat) : Int := if dwR sz (!off) i n ≠ 0 then dwR sz (!off) i n else if ti = 0 then 6 else 0
def rwO (sz : Nat) (off : Bool) (ti i : Int) (n : Nat) : Bool := if dwR sz (!off) i n ≠ 0 then off else if ti = 0 then true else off
def rwT (sz : Nat) (off : Bool) (ti i : Int) (n : Nat) : Int := if dwR sz (!off) i n ≠ 0 then ti else if 0 ≤ ti then ti - 1 else ti
def rwW (sz : Nat) (off : Bool) (wr i : Int) (n : Nat) : Int := if dwR sz (!off) i n ≠ 0 then wr else wr + 1
def rwF (sz : Nat) (off : Bool) (ti to i : Int) (F : Nat → By) (b : By) (j : Nat) : By := if dwR sz (!off) i b.length ≠ 0 then F j else if j = i.toNat then (if ti = 0 then b.take to.toNat ++ (F j).drop to.toNat else b) else F j
def rrB (sz : Nat) (off : Bool) (i : Int) (F : Nat → By) : By := if dwR sz (!off) i 64 ≠ 0 then [] else F i.toNat
end Go.Spec
namespace Go.Sym
open Go.Proofs Go.Spec
set_option linter.unusedVariables false
set_option maxRecDepth 100000 in
theorem vd22 (sz : Nat) : bodyP Try.prog (D0.withFrz [(17, [.by8])]) gl0 [] [(4, lsRn sz)] 3000 Try.f22 0 [.int .i64 sz] [] (retQ Try.prog Try.f22 0 ⟨[], .ptr 0 0 0 0, [], [rkA sz false (-1) 0 0, rkS sz fun _ => dkZ]⟩) = (
let x1 := [AV.rb Bool.true (List.replicate 64 (0 : BitVec 8)) (NL.is Bool.false)]; (∃ (x : Nat), x.le sz ∧ (↑sz : Int) = (↑sz : Int) ∧ 0 = 0 ∧ (↑x : Int) = (0 : Int) ∧ x = 0 ∧ Bool.false = Bool.false ∧ Int.negSucc 0 = Int.negSucc 0 ∧ (0 : Int) = (0 : Int) ∧ (0 : Int) = (0 : Int) ∧ x = 0 ∧ True) ∧ ∀ (x : Nat), x.le sz → @Bool.rec (fun _ => Prop) ((∀ (y : Nat), y < sz → outs Bool.true x1 = Bool.true) ∧ 0 = 0 ∧ 0 = 0 ∧ 0 = 0 ∧ 0 = 0 ∧ sz = x ∧ Bool.false = Bool.false ∧ Int.negSucc 0 = Int.negSucc 0 ∧ (0 : Int) = (0 : Int) ∧ (0 : Int) = (0 : Int) ∧ sz = x ∧ (∀ (y : Nat), y < sz → datas Bool.false x1 = Bool.true ∧ x1 = x1) ∧ True) (64 ≤ 64 ∧ 64 ≤ 281474976710656 ∧ 64 ≤ 9223372036854775807 ∧ 64 = 64 ∧ x = x ∧ roomFor x 1 24 ∧ ∃ (y : Nat), sz - y < sz - x ∧ y.le sz ∧ (↑sz : Int) = (↑sz : Int) ∧ 0 = 0 ∧ (↑y : Int) = IntKind.i64.wrap ((↑x : Int) + (1 : Int)) ∧ 0 = 0 ∧ 0 = 0 ∧ 0 = 0 ∧ y = x + 1 ∧ Bool.false = Bool.false ∧ Int.negSucc 0 = Int.negSucc 0 ∧ (0 : Int) = (0 : Int) ∧ (0 : Int) = (0 : Int) ∧ y = x + 1 ∧ (∀ (y_1 : Nat), y_1 < y → datas Bool.false x1 = Bool.true ∧ glue (fun (j : Nat) => x1) x (cut 1 (List.take 1 (List.drop 0 x1))) y_1 = x1) ∧ True) (decide ((↑x : Int) < (↑sz : Int))) : Prop) := by kernel_rfl
set_option maxRecDepth 100000 in
theorem vd23 (B : By) (F : Nat → By) (sz : Nat) (off : Bool) (ti to wr i e : Int) : bodyP Try.prog D0 gl0 [] [] 3000 Try.f23 2 [.ptr 0 0 0 0, .int .i64 i] [rkA sz off ti to wr, rkS sz F] (retQ Try.prog Try.f23 2 ⟨[], .tup [.rb true B .unk, .int .i64 e], [some (some (rkA sz off ti to wr)), some (some (rkS sz F))], []⟩) = (
let x1 := 0 = 0 ∧ 0 = 0 ∧ 0 = 0 ∧ sz = sz ∧ off = off ∧ ti = ti ∧ to = to ∧ wr = wr ∧ sz = sz ∧ (∀ (y : Nat), y < sz → datas Bool.false [AV.rb Bool.true (F y) (NL.is Bool.false)] = Bool.true ∧ [AV.rb Bool.true (F y) (NL.is Bool.false)] = [AV.rb Bool.true (F y) (NL.is Bool.false)]) ∧ True; let x2 := ∀ (y : Nat), y < sz → outs Bool.true [AV.rb Bool.true (F y) (NL.is Bool.false)] = Bool.true; @Bool.rec (fun _ => Prop) (@Bool.rec (fun _ => Prop) (x2 ∧ B = [] ∧ e = (1 : Int) ∧ x1) (@Bool.rec (fun _ => Prop) ((0 : Int) ≤ i ∧ i.toNat < sz ∧ i.toNat < sz ∧ x2 ∧ B = F i.toNat ∧ e = (0 : Int) ∧ x1) (x2 ∧ B = [] ∧ e = (1 : Int) ∧ x1) (decide ((↑sz : Int) ≤ i))) !decide (i < (0 : Int))) (x2 ∧ B = [] ∧ e = (6 : Int) ∧ x1) off : Prop) := by kernel_rfl
set_option maxRecDepth 100000 in
theorem vd24 (b : By) (F F2 : Nat → By) (sz : Nat) (off o2 : Bool) (ti to wr i e ti2 wr2 : Int) : bodyP Try.prog (D0.withFrz [(80, [.by8])]) gl0 [] [] 3000 Try.f24 2 [.ptr 0 0 0 0, .int .i64 i, .rb false b .unk] [rkA sz off ti to wr, rkS sz F] (retQ Try.prog Try.f24 2 ⟨[], .int .i64 e, [some (some (rkA sz o2 ti2 to wr2)), some (some (rkS sz F2))], []⟩) = (
let x1 := to = to ∧ wr2 = IntKind.i64.wrap (wr + (1 : Int)) ∧ sz = sz ∧ (∀ (y : Nat), y < sz → datas Bool.false [AV.rb Bool.true (F2 y) (NL.is Bool.false)] = Bool.true ∧ (bif y == i.toNat then splice [AV.rb Bool.true (F y) (NL.is Bool.false)] 0 [AV.rb Bool.true ([] ++ List.take 64 b ++ List.drop 64 (F i.toNat)) (NL.is (Bool.false && decide ((List.take 64 b).length = 0) && decide ((List.drop 64 (F i.toNat)).length = 0)))] else [AV.rb Bool.true (F y) (NL.is Bool.false)]) = [AV.rb Bool.true (F2 y) (NL.is Bool.false)]) ∧ True; let x2 := 0 = 0 ∧ 0 = 0 ∧ 0 = 0 ∧ sz = sz ∧ o2 = off ∧ ti2 = ti ∧ to = to ∧ wr2 = wr ∧ sz = sz ∧ (∀ (y : Nat), y < sz → datas Bool.false [AV.rb Bool.true (F2 y) (NL.is Bool.false)] = Bool.true ∧ [AV.rb Bool.true (F y) (NL.is Bool.false)] = [AV.rb Bool.true (F2 y) (NL.is Bool.false)]) ∧ True; let x3 := ∀ (y : Nat), y < sz → outs Bool.true [AV.rb Bool.true (F2 y) (NL.is Bool.false)] = Bool.true; let x4 := to = to ∧ wr2 = IntKind.i64.wrap (wr + (1 : Int)) ∧ sz = sz ∧ (∀ (y : Nat), y < sz → datas Bool.false [AV.rb Bool.true (F2 y) (NL.is Bool.false)] = Bool.true ∧ (bif y == i.toNat then splice [AV.rb Bool.true (F y) (NL.is Bool.false)] 0 [AV.rb Bool.true ([] ++ List.take to.toNat b ++ List.drop to.toNat (F i.toNat)) (NL.is (Bool.false && decide ((List.take to.toNat b).length = 0) && decide ((List.drop to.toNat (F i.toNat)).length = 0)))] else [AV.rb Bool.true (F y) (NL.is Bool.false)]) = [AV.rb Bool.true (F2 y) (NL.is Bool.false)]) ∧ True; let x5 := 0 = 0 ∧ 0 = 0 ∧ 0 = 0 ∧ sz = sz ∧ o2 = off ∧ ti2 = IntKind.i64.wrap (ti - (1 : Int)) ∧ x1; @Bool.rec (fun _ => Prop) (@Bool.rec (fun _ => Prop) (x3 ∧ e = (1 : Int) ∧ x2) (@Bool.rec (fun _ => Prop) (x3 ∧ e = (1 : Int) ∧ x2) (@Bool.rec (fun _ => Prop) (@Bool.rec (fun _ => Prop) (@Bool.rec (fun _ => Prop) ((0 : Int) ≤ (64 : Int) ∧ 64 ≤ List.length b ∧ 0 = 0 ∧ roomFor 0 (List.take 64 b).length 1 ∧ (0 : Int) ≤ i ∧ i.toNat < sz ∧ i.toNat < sz ∧ (0 : Int) ≤ (64 : Int) ∧ 64 ≤ List.length (F i.toNat) ∧ 0 + (List.take 64 b).length = ([] ++ List.take 64 b).length ∧ roomFor (0 + (List.take 64 b).length) (List.drop 64 (F i.toNat)).length 1 ∧ 0 + (List.take 64 b).length + (List.drop 64 (F i.toNat)).length = ([] ++ List.take 64 b ++ List.drop 64 (F i.toNat)).length ∧ (0 : Int) ≤ i ∧ i.toNat < sz ∧ i.toNat < sz ∧ @Bool.rec (fun _ => Prop) (x3 ∧ e = (0 : Int) ∧ 0 = 0 ∧ 0 = 0 ∧ 0 = 0 ∧ sz = sz ∧ o2 = off ∧ ti2 = ti ∧ x1) (x3 ∧ e = (6 : Int) ∧ 0 = 0 ∧ 0 = 0 ∧ 0 = 0 ∧ sz = sz ∧ o2 = off ∧ ti2 = ti ∧ x1) off) ((0 : Int) ≤ (64 : Int) ∧ 64 ≤ List.length b ∧ 0 = 0 ∧ roomFor 0 (List.take 64 b).length 1 ∧ (0 : Int) ≤ i ∧ i.toNat < sz ∧ i.toNat < sz ∧ (0 : Int) ≤ (64 : Int) ∧ 64 ≤ List.length (F i.toNat) ∧ 0 + (List.take 64 b).length = ([] ++ List.take 64 b).length ∧ roomFor (0 + (List.take 64 b).length) (List.drop 64 (F i.toNat)).length 1 ∧ 0 + (List.take 64 b).length + (List.drop 64 (F i.toNat)).length = ([] ++ List.take 64 b ++ List.drop 64 (F i.toNat)).length ∧ (0 : Int) ≤ i ∧ i.toNat < sz ∧ i.toNat < sz ∧ @Bool.rec (fun _ => Prop) (x3 ∧ e = (0 : Int) ∧ x5) (x3 ∧ e = (6 : Int) ∧ x5) off) (decide ((0 : Int) ≤ ti))) (@Bool.rec (fun _ => Prop) ((0 : Int) ≤ to ∧ to.toNat ≤ List.length b ∧ 0 = 0 ∧ roomFor 0 (List.take to.toNat b).length 1 ∧ (0 : Int) ≤ i ∧ i.toNat < sz ∧ i.toNat < sz ∧ (0 : Int) ≤ to ∧ to.toNat ≤ List.length (F i.toNat) ∧ 0 + (List.take to.toNat b).length = ([] ++ List.take to.toNat b).length ∧ roomFor (0 + (List.take to.toNat b).length) (List.drop to.toNat (F i.toNat)).length 1 ∧ 0 + (List.take to.toNat b).length + (List.drop to.toNat (F i.toNat)).length = ([] ++ List.take to.toNat b ++ List.drop to.toNat (F i.toNat)).length ∧ (0 : Int) ≤ i ∧ i.toNat < sz ∧ i.toNat < sz ∧ x3 ∧ e = (6 : Int) ∧ 0 = 0 ∧ 0 = 0 ∧ 0 = 0 ∧ sz = sz ∧ o2 = Bool.true ∧ ti2 = ti ∧ x4) ((0 : Int) ≤ to ∧ to.toNat ≤ List.length b ∧ 0 = 0 ∧ roomFor 0 (List.take to.toNat b).length 1 ∧ (0 : Int) ≤ i ∧ i.toNat < sz ∧ i.toNat < sz ∧ (0 : Int) ≤ to ∧ to.toNat ≤ List.length (F i.toNat) ∧ 0 + (List.take to.toNat b).length = ([] ++ List.take to.toNat b).length ∧ roomFor (0 + (List.take to.toNat b).length) (List.drop to.toNat (F i.toNat)).length 1 ∧ 0 + (List.take to.toNat b).length + (List.drop to.toNat (F i.toNat)).length = ([] ++ List.take to.toNat b ++ List.drop to.toNat (F i.toNat)).length ∧ (0 : Int) ≤ i ∧ i.toNat < sz ∧ i.toNat < sz ∧ x3 ∧ e = (6 : Int) ∧ 0 = 0 ∧ 0 = 0 ∧ 0 = 0 ∧ sz = sz ∧ o2 = Bool.true ∧ ti2 = IntKind.i64.wrap (ti - (1 : Int)) ∧ x4) (decide ((0 : Int) ≤ ti))) (decide (ti = (0 : Int)))) (x3 ∧ e = (1 : Int) ∧ x2) !decide ((↑(List.length b) : Int) = (64 : Int))) !decide ((↑sz : Int) ≤ i)) !decide (i < (0 : Int))) (x3 ∧ e = (6 : Int) ∧ x2) off : Prop) := by kernel_rfl
theorem bd22 (sz : Nat) (hs : sz ≤ 512) : Must (bodyP Try.prog (D0.withFrz [(17, [.by8])]) gl0 [] [(4, lsRn sz)] 3000 Try.f22 0 [.int .i64 sz] [] (retQ Try.prog Try.f22 0 ⟨[], .ptr 0 0 0 0, [], [rkA sz false (-1) 0 0, rkS sz fun _ => dkZ]⟩)) := by
  constructor
  rw [vd22]
  intro x1
  refine ⟨⟨0, Nat.zero_le _, rfl, rfl, rfl, rfl, rfl, rfl, rfl, rfl, rfl, trivial⟩, fun x hx => ?_⟩
  have hx : x ≤ sz := hx
  refine brec (fun d => ?_) (fun d => ?_)
  · have d := dlt.1 d
    refine ⟨by omega, by omega, by omega, rfl, rfl, by unfold roomFor; omega, x + 1, by omega, (by show x + 1 ≤ sz; omega), ?_⟩
    rw [wrap_nat (x + 1) (by omega) (by omega)]
    and_intros
    all_goals first | rfl | trivial | skip
    intro y hy
    refine ⟨rfl, ?_⟩
    unfold glue
    split
    · rfl
    · have : y - x = 0 := by omega
      rw [this]
      rfl
  · have d := ndlt.1 d
    obtain rfl : x = sz := by omega
    and_intros
    all_goals first | rfl | trivial | skip
    · intro y hy; rfl
    · intro y hy; exact ⟨rfl, rfl⟩
theorem bd23 (F : Nat → By) (sz : Nat) (off : Bool) (ti to wr i : Int) : Must (bodyP Try.prog D0 gl0 [] [] 3000 Try.f23 2 [.ptr 0 0 0 0, .int .i64 i] [rkA sz off ti to wr, rkS sz F] (retQ Try.prog Try.f23 2 ⟨[], .tup [.rb true (rrB sz off i F) .unk, .int .i64 (dwR sz (!off) i 64)], [some (some (rkA sz off ti to wr)), some (some (rkS sz F))], []⟩)) := by
  constructor
  rw [vd23]
  intro x1 x2
  have hx1 : x1 := by
    and_intros
    all_goals first | rfl | trivial | skip
    intro y hy; exact ⟨rfl, rfl⟩
  have hx2 : x2 := fun y hy => rfl
  clear_value x1 x2
  have ref : ∀ e, dwR sz (!off) i 64 = e → e ≠ 0 → x2 ∧ rrB sz off i F = [] ∧ dwR sz (!off) i 64 = e ∧ x1 := fun e h he =>
    ⟨hx2, by unfold rrB; rw [h, if_pos he], h, hx1⟩
  cases off with
  | true => exact ref 6 (by unfold dwR; rfl) (by omega)
  | false =>
  show @Bool.rec (fun _ => Prop) _ _ (!decide (i < 0))
  by_cases c1 : i < 0
  · rw [nd1 c1]
    exact ref 1 (by unfold dwR; rw [if_neg (by decide), if_pos (.inl c1)]) (by omega)
  rw [nd0 c1]
  show @Bool.rec (fun _ => Prop) _ _ (decide ((sz : Int) ≤ i))
  refine brec (fun c2 => ?_) (fun c2 => ?_)
  · have c2 : (sz : Int) ≤ i := by simpa using c2
    exact ref 1 (by unfold dwR; rw [if_neg (by decide), if_pos (.inr c2)]) (by omega)
  have c2 := ndle.1 c2
  have hR : dwR sz (!false) i 64 = 0 := by unfold dwR; rw [if_neg (by decide), if_neg (by omega), if_neg (by omega)]
  exact ⟨by omega, by omega, by omega, hx2, by unfold rrB; rw [hR, if_neg (by omega)], hR, hx1⟩
end Go.Sym

set_option linter.unusedSimpArgs false
namespace Go.Sym
open Go.Proofs Go.Spec
set_option linter.unusedVariables false
theorem row_put {F F2 : Nat → By} {k y : Nat} {B : By} {c d : Bool} (h1 : y = k → F2 y = B) (h2 : y ≠ k → F2 y = F y) :
    datas Bool.false [AV.rb Bool.true (F2 y) (NL.is Bool.false)] = Bool.true ∧ (bif y == k then splice [AV.rb Bool.true (F y) (NL.is Bool.false)] 0 [AV.rb Bool.true B (NL.is (Bool.false && c && d))] else [AV.rb Bool.true (F y) (NL.is Bool.false)]) = [AV.rb Bool.true (F2 y) (NL.is Bool.false)] := by
  refine ⟨rfl, ?_⟩
  by_cases h : y = k
  · rw [show (y == k) = true by simp [h], h1 h]
    rfl
  · rw [show (y == k) = false by simp [h], h2 h]
    rfl
theorem bd24 (b : By) (F : Nat → By) (sz : Nat) (off : Bool) (ti to wr i : Int) (hF : ∀ j, j < sz → (F j).length = 64) (ht0 : 0 ≤ to) (ht : to ≤ 64) (hw0 : 0 ≤ wr) (hw : wr < 4611686018427387904) (hti : ti < 9223372036854775808) :
    Must (bodyP Try.prog (D0.withFrz [(80, [.by8])]) gl0 [] [] 3000 Try.f24 2 [.ptr 0 0 0 0, .int .i64 i, .rb false b .unk] [rkA sz off ti to wr, rkS sz F] (retQ Try.prog Try.f24 2 ⟨[], .int .i64 (rwE sz off ti i b.length), [some (some (rkA sz (rwO sz off ti i b.length) (rwT sz off ti i b.length) to (rwW sz off wr i b.length))), some (some (rkS sz (rwF sz off ti to i F b)))], []⟩)) := by
  constructor
  rw [vd24]
  intro x1 x2 x3 x4 x5
  have hx3 : x3 := fun y hy => rfl
  have ref : ∀ e, dwR sz (!off) i b.length = e → e ≠ 0 → x3 ∧ rwE sz off ti i b.length = e ∧ x2 := fun e h he => by
    have hFF : ∀ y, rwF sz off ti to i F b y = F y := fun y => by unfold rwF; rw [h, if_pos he]
    refine ⟨hx3, by unfold rwE; rw [h, if_pos he], rfl, rfl, rfl, rfl, by unfold rwO; rw [h, if_pos he], by unfold rwT; rw [h, if_pos he], rfl, by unfold rwW; rw [h, if_pos he], rfl, fun y hy => ⟨rfl, by rw [hFF y]⟩, trivial⟩
  cases off with
  | true => exact ref 6 (by unfold dwR; rfl) (by omega)
  | false =>
  show @Bool.rec (fun _ => Prop) _ _ (!decide (i < 0))
  by_cases c1 : i < 0
  · rw [nd1 c1]
    exact ref 1 (by unfold dwR; rw [if_neg (by decide), if_pos (.inl c1)]) (by omega)
  rw [nd0 c1]
  show @Bool.rec (fun _ => Prop) _ _ (!decide ((sz : Int) ≤ i))
  by_cases c2 : (sz : Int) ≤ i
  · rw [nd1 c2]
    exact ref 1 (by unfold dwR; rw [if_neg (by decide), if_pos (.inr c2)]) (by omega)
  rw [nd0 c2]
  show @Bool.rec (fun _ => Prop) _ _ (!decide ((↑b.length : Int) = 64))
  by_cases c3 : (↑b.length : Int) = 64
  · rw [nd1 c3]
    have hR : dwR sz (!false) i b.length = 0 := by unfold dwR; rw [if_neg (by decide), if_neg (by omega), if_neg (by omega)]
    have hi : i.toNat < sz := by omega
    have hb : b.length = 64 := by omega
    have hFi := hF _ hi
    have e1 : rwE sz false ti i b.length = if ti = 0 then 6 else 0 := by unfold rwE; rw [hR]; rfl
    have e2 : rwO sz false ti i b.length = if ti = 0 then true else false := by unfold rwO; rw [hR]; rfl
    have e3 : rwT sz false ti i b.length = if 0 ≤ ti then ti - 1 else ti := by unfold rwT; rw [hR]; rfl
    have e4 : rwW sz false wr i b.length = wr + 1 := by unfold rwW; rw [hR]; rfl
    have hw1 : IntKind.i64.wrap (wr + 1) = wr + 1 := wrap_i64 (by omega) (by omega)
    have t64 : List.take 64 b = b := List.take_of_length_le (by omega)
    have d64 : List.drop 64 (F i.toNat) = [] := List.drop_eq_nil_of_le (by omega)
    have hF2 : ∀ y, y ≠ i.toNat → rwF sz false ti to i F b y = F y := fun y hy => by unfold rwF; rw [hR, if_neg (by omega), if_neg hy]
    have hx1 : ti ≠ 0 → x1 := fun h0 => by
      refine ⟨rfl, by rw [e4, hw1], rfl, fun y hy => row_put (fun h => ?_) (hF2 y), trivial⟩
      unfold rwF
      rw [hR, if_neg (by omega), if_pos h, if_neg h0, t64, d64]
      simp
    have hx4 : ti = 0 → x4 := fun h0 => by
      refine ⟨rfl, by rw [e4, hw1], rfl, fun y hy => row_put (fun h => ?_) (hF2 y), trivial⟩
      unfold rwF
      rw [hR, if_neg (by omega), if_pos h, if_pos h0, h]
      simp
    have hx5 : 0 < ti → x5 := fun h0 => by
      refine ⟨rfl, rfl, rfl, rfl, by rw [e2, if_neg (by omega)], by rw [e3, if_pos (by omega), wrap_i64 (by omega) (by omega)], hx1 (by omega)⟩
    have hl64 : (List.take 64 b).length = 64 := by rw [t64]; exact hb
    have hd64 : (List.drop 64 (F i.toNat)).length = 0 := by rw [d64]; rfl
    have hlt : (List.take to.toNat b).length = to.toNat := by rw [List.length_take]; omega
    have hdt : (List.drop to.toNat (F i.toNat)).length = 64 - to.toNat := by rw [List.length_drop]; omega
    have ha : ∀ (l : By), [] ++ l = l := fun l => rfl
    refine brec (fun d => ?_) (fun d => ?_)
    · have d : ti = 0 := by simpa using d
      have s1 : ([] ++ List.take to.toNat b).length = to.toNat := by rw [ha]; exact hlt
      have s2 : ([] ++ List.take to.toNat b ++ List.drop to.toNat (F i.toNat)).length = 64 := by rw [List.length_append, s1, hdt]; omega
      refine brec (fun d2 => ?_) (fun d2 => absurd (ndle.1 d2) (by omega))
      exact ⟨ht0, by omega, rfl, by unfold roomFor; omega, by omega, hi, hi, ht0, by omega, by omega, by unfold roomFor; omega, by omega, by omega, hi, hi, hx3, by rw [e1, if_pos d], rfl, rfl, rfl, rfl, by rw [e2, if_pos d], by rw [e3, if_pos (by omega), wrap_i64 (by omega) (by omega)], hx4 d⟩
    · have d : ti ≠ 0 := by simpa using d
      have s1 : ([] ++ List.take 64 b).length = 64 := by rw [ha]; exact hl64
      have s2 : ([] ++ List.take 64 b ++ List.drop 64 (F i.toNat)).length = 64 := by rw [List.length_append, s1, hd64]
      refine brec (fun d2 => ?_) (fun d2 => ?_)
      · have d2 : 0 ≤ ti := by simpa using d2
        exact ⟨by omega, by omega, rfl, by unfold roomFor; omega, by omega, hi, hi, by omega, by omega, by omega, by unfold roomFor; omega, by omega, by omega, hi, hi, hx3, by rw [e1, if_neg d], hx5 (by omega)⟩
      · have d2 := ndle.1 d2
        exact ⟨by omega, by omega, rfl, by unfold roomFor; omega, by omega, hi, hi, by omega, by omega, by omega, by unfold roomFor; omega, by omega, by omega, hi, hi, hx3, by rw [e1, if_neg d], rfl, rfl, rfl, rfl, by rw [e2, if_neg d], by rw [e3, if_neg (by omega)], hx1 d⟩
  · rw [nd0 c3]
    exact ref 1 (by unfold dwR; rw [if_neg (by decide), if_neg (by omega), if_pos (by omega)]) (by omega)
end Go.Sym

set_option linter.unusedSimpArgs false
namespace Go.Sym
open Go.Proofs Go.Spec
set_option linter.unusedVariables false
def gD16 (xs : List AV) (bs : List ABlk) : TL := match xs, bs with
  | [.ptr 0 0 0 0, .int .i64 i, .rb false b .unk], [⟨.cells [.slice 1 0 64 sz .ow (.is false), .bool on, .int .i64 w, .int .i64 g, .int .i64 t], true, 0⟩, ⟨.bytes L, true, 64⟩] =>
    .ok ⟨[L.length = sz * 64, 0 ≤ t, t ≤ 64, 0 ≤ w, w < 4611686018427387904, g < 9223372036854775808], .int .i64 (dwE sz on g i b.length), [some (some (dkA sz (dwO sz on g i b.length) (dwW sz on w i b.length) (dwG sz on g i b.length) t)), some (some (dkL (dwL sz on g t i L b)))], []⟩
  | [.nilp, .int .i64 i, .rb false b .unk], [] => .ok ⟨[], .int .i64 1, [], []⟩
  | _, _ => .no
def spD16 : Spec := ⟨[.kp, .kp, .by0], fun xs h => reachX h 200 (namesL (xs.take 1)) [], kinds, gD16⟩
theorem cD16 : COK Try.prog gl0 16 (mkF spD16) := by
  refine ctrE (fn := Try.f16) [] 3000 (by kernel_rfl) (by kernel_rfl) okD3 (by kernel_rfl) (fun args w => by kernel_rfl) fun xs bs r hs ho => ?_
  replace hs : (gD16 xs bs).sel = some r := hs
  unfold gD16 at hs
  split at hs
  · simp only [TL.sel, Option.some.injEq] at hs
    subst hs
    obtain ⟨h1, ho⟩ := obsT_cons.1 ho
    obtain ⟨h2, ho⟩ := obsT_cons.1 ho
    obtain ⟨h3, ho⟩ := obsT_cons.1 ho
    obtain ⟨h4, ho⟩ := obsT_cons.1 ho
    obtain ⟨h5, ho⟩ := obsT_cons.1 ho
    exact ⟨_, bd16 _ _ _ _ _ _ _ _ h1 h2 h3 h4 h5 (obsT_one.1 ho)⟩
  · simp only [TL.sel, Option.some.injEq] at hs
    subst hs
    exact ⟨_, bd16n _ _⟩
  · simp [TL.sel] at hs
def gD12 (xs : List AV) (bs : List ABlk) : TL := match xs, bs with
  | [.ptr 0 0 0 0, .int .i64 i], [⟨.cells [.slice 1 0 64 sz .ow (.is false), .bool on, .int .i64 w, .int .i64 g, .int .i64 t], true, 0⟩, ⟨.bytes L, true, 64⟩] =>
    .ok ⟨[L.length = sz * 64], .tup [.slice 2 0 1 (drB sz on i L).length .ow .unk, .int .i64 (dwR sz on i 64)], [some (some (dkA sz on w g t)), some (some (dkL L))], [⟨.bytes (drB sz on i L), true, 1⟩]⟩
  | [.nilp, .int .i64 i], [] => .ok ⟨[], .tup [.nils, .int .i64 1], [], []⟩
  | _, _ => .no
def spD12 : Spec := ⟨[.kp, .kp], fun xs h => reachX h 200 (namesL (xs.take 1)) [], kinds, gD12⟩
theorem cD12 : COK Try.prog gl0 12 (mkF spD12) := by
  refine ctrE (fn := Try.f12) [] 3000 (by kernel_rfl) (by kernel_rfl) okD3 (by kernel_rfl) (fun args w => by kernel_rfl) fun xs bs r hs ho => ?_
  replace hs : (gD12 xs bs).sel = some r := hs
  unfold gD12 at hs
  split at hs
  · simp only [TL.sel, Option.some.injEq] at hs
    subst hs
    exact ⟨_, bd12 _ _ _ _ _ _ _ (obsT_one.1 ho)⟩
  · simp only [TL.sel, Option.some.injEq] at hs
    subst hs
    exact ⟨_, bd12n _⟩
  · simp [TL.sel] at hs
def gD22 (xs : List AV) (bs : List ABlk) : TL := match xs, bs with
  | [.int .i64 n], [] => .ok ⟨[0 ≤ n, n ≤ 512], .ptr 0 0 0 0, [], [rkA n.toNat false (-1) 0 0, rkS n.toNat fun _ => dkZ]⟩
  | _, _ => .no
def spD22 : Spec := ⟨[.kp], fun _ _ => [], fun _ _ => [], gD22⟩
theorem cD22 : COK Try.prog gl0 22 (mkF spD22) := by
  refine ctrE (fn := Try.f22) [] 3000 (by kernel_rfl) (by kernel_rfl) (okD0.withFrz [(17, [.by8])]) (by kernel_rfl) (fun args w => by kernel_rfl) fun xs bs r hs ho => ?_
  replace hs : (gD22 xs bs).sel = some r := hs
  unfold gD22 at hs
  split at hs
  · rename_i n
    simp only [TL.sel, Option.some.injEq] at hs
    subst hs
    obtain ⟨h1, ho⟩ := obsT_cons.1 ho
    have h2 := obsT_one.1 ho
    obtain ⟨m, rfl⟩ : ∃ m : Nat, n = m := ⟨n.toNat, by omega⟩
    exact ⟨_, bd22 m (by omega)⟩
  · simp [TL.sel] at hs
def rowB (g : Nat → List AV) (j : Nat) : By := match g j with | [.rb true l _] => l | _ => []
def isRow (g : Nat → List AV) : Prop := g = fun j => [.rb true (rowB g j) (.is false)]
def gD23 (xs : List AV) (bs : List ABlk) : TL := match xs, bs with
  | [.ptr 0 0 0 0, .int .i64 i], [⟨.cells [.slice 1 0 1 sz .ow .unk, .bool off, .int .i64 ti, .int .i64 to, .int .i64 wr], true, 0⟩, ⟨.rows 1 sz2 g, true, 1⟩] =>
    .ok ⟨[sz2 = sz, isRow g], .tup [.rb true (rrB sz off i (rowB g)) .unk, .int .i64 (dwR sz (!off) i 64)], [some (some (rkA sz off ti to wr)), some (some (rkS sz (rowB g)))], []⟩
  | _, _ => .no
def spD23 : Spec := ⟨[.kp, .kp], fun xs h => reachX h 200 (namesL (xs.take 1)) [], kinds, gD23⟩
theorem cD23 : COK Try.prog gl0 23 (mkF spD23) := by
  refine ctrE (fn := Try.f23) [] 3000 (by kernel_rfl) (by kernel_rfl) okD0 (by kernel_rfl) (fun args w => by kernel_rfl) fun xs bs r hs ho => ?_
  replace hs : (gD23 xs bs).sel = some r := hs
  unfold gD23 at hs
  split at hs
  · rename_i i sz off ti to wr sz2 g
    simp only [TL.sel, Option.some.injEq] at hs
    subst hs
    obtain ⟨h1, ho⟩ := obsT_cons.1 ho
    have h2 : isRow g := obsT_one.1 ho
    subst h1
    have hb := bd23 (rowB g) sz2 off ti to wr i
    have e : rkS sz2 (rowB g) = ⟨.rows 1 sz2 g, true, 1⟩ := by
      show (⟨.rows 1 sz2 (fun j => [.rb true (rowB g j) (.is false)]), true, 1⟩ : ABlk) = _
      rw [← h2]
    refine ⟨[], ?_⟩
    rw [e] at hb
    rw [e]
    exact hb
  · simp [TL.sel] at hs
def gD24 (xs : List AV) (bs : List ABlk) : TL := match xs, bs with
  | [.ptr 0 0 0 0, .int .i64 i, .rb false b .unk], [⟨.cells [.slice 1 0 1 sz .ow .unk, .bool off, .int .i64 ti, .int .i64 to, .int .i64 wr], true, 0⟩, ⟨.rows 1 sz2 g, true, 1⟩] =>
    .ok ⟨[sz2 = sz, isRow g, ∀ j, j < sz → (rowB g j).length = 64, 0 ≤ to, to ≤ 64, 0 ≤ wr, wr < 4611686018427387904, ti < 9223372036854775808], .int .i64 (rwE sz off ti i b.length), [some (some (rkA sz (rwO sz off ti i b.length) (rwT sz off ti i b.length) to (rwW sz off wr i b.length))), some (some (rkS sz (rwF sz off ti to i (rowB g) b)))], []⟩
  | _, _ => .no
def spD24 : Spec := ⟨[.kp, .kp, .by0], fun xs h => reachX h 200 (namesL (xs.take 1)) [], kinds, gD24⟩
theorem cD24 : COK Try.prog gl0 24 (mkF spD24) := by
  refine ctrE (fn := Try.f24) [] 3000 (by kernel_rfl) (by kernel_rfl) (okD0.withFrz [(80, [.by8])]) (by kernel_rfl) (fun args w => by kernel_rfl) fun xs bs r hs ho => ?_
  replace hs : (gD24 xs bs).sel = some r := hs
  unfold gD24 at hs
  split at hs
  · rename_i i b sz off ti to wr sz2 g
    simp only [TL.sel, Option.some.injEq] at hs
    subst hs
    obtain ⟨h1, ho⟩ := obsT_cons.1 ho
    obtain ⟨h2, ho⟩ := obsT_cons.1 ho
    obtain ⟨h3, ho⟩ := obsT_cons.1 ho
    obtain ⟨h4, ho⟩ := obsT_cons.1 ho
    obtain ⟨h5, ho⟩ := obsT_cons.1 ho
    obtain ⟨h6, ho⟩ := obsT_cons.1 ho
    obtain ⟨h7, ho⟩ := obsT_cons.1 ho
    have h8 := obsT_one.1 ho
    have h2 : isRow g := h2
    subst h1
    have hb := bd24 b (rowB g) sz2 off ti to wr i h3 h4 h5 h6 h7 h8
    have e : rkS sz2 (rowB g) = ⟨.rows 1 sz2 g, true, 1⟩ := by
      show (⟨.rows 1 sz2 (fun j => [.rb true (rowB g j) (.is false)]), true, 1⟩ : ABlk) = _
      rw [← h2]
    refine ⟨[], ?_⟩
    rw [e] at hb
    exact hb
  · simp [TL.sel] at hs
noncomputable def A0 : Ctx := D11.exe Try.prog gl0 [] 400 Try.f43.params.size 43 Try.f43
theorem okA0 : COKs Try.prog gl0 A0 := okD11.exe [] 400 _ (by kernel_rfl) (by kernel_rfl) (by kernel_rfl) (fun args w => by kernel_rfl)
noncomputable def A1 : Ctx := A0.exe Try.prog gl0 [] 400 Try.f20.params.size 20 Try.f20
theorem okA1 : COKs Try.prog gl0 A1 := okA0.exe [] 400 _ (by kernel_rfl) (by kernel_rfl) (by kernel_rfl) (fun args w => by kernel_rfl)
noncomputable def A2 : Ctx := A1.exe Try.prog gl0 [] 400 Try.f25.params.size 25 Try.f25
theorem okA2 : COKs Try.prog gl0 A2 := okA1.exe [] 400 _ (by kernel_rfl) (by kernel_rfl) (by kernel_rfl) (fun args w => by kernel_rfl)
noncomputable def A3 : Ctx := A2.exe Try.prog gl0 [] 400 Try.f26.params.size 26 Try.f26
theorem okA3 : COKs Try.prog gl0 A3 := okA2.exe [] 400 _ (by kernel_rfl) (by kernel_rfl) (by kernel_rfl) (fun args w => by kernel_rfl)
noncomputable def A4 : Ctx := (((A3.add 15 (mkF spDt)).add 16 (mkF spD16)).add 12 (mkF spD12))
theorem okA4 : COKs Try.prog gl0 A4 := ((okA3.add cDt).add cD16).add cD12
noncomputable def A5 : Ctx := (((A4.add 22 (mkF spD22)).add 23 (mkF spD23)).add 24 (mkF spD24))
theorem okA5 : COKs Try.prog gl0 A5 := ((okA4.add cD22).add cD23).add cD24
end Go.Sym

namespace Go.Spec
open Go.Sym
/-- A disk, as the law follows it: round, bytes, power, writes, good ones ahead of the torn one, bytes of that; the document's good ones. -/
structure SpD where
  i : Nat
  L : By
  on : Bool
  w : Int
  g : Int
  t : Int
  ti : Int
/-- The sectors. -/
def secs (L : By) (j : Nat) : By := (L.drop (j * 64)).take 64
structure DOk (sz nR : Nat) (y : SpD) : Prop where
  i1 : y.i ≤ 50
  i2 : y.i ≤ nR
  L : y.L.length = sz * 64
  t0 : 0 ≤ y.t
  t1 : y.t ≤ 64
  w0 : 0 ≤ y.w
  w1 : y.w ≤ y.i
  g0 : -9223372036854775808 ≤ y.g
  g1 : y.g < 9223372036854775808
  ti1 : y.ti < 9223372036854775808
  same : y.on = true → y.ti = max y.g (-1)
end Go.Spec
namespace Go.Sym
open Go.Proofs Go.Spec
set_option linter.unusedVariables false
def actR (W I N : Nat → Int) (B : Nat → By) (C : Nat → Bool) : Nat → List AV := fun j => [.int .i64 (W j), .int .i64 (I j), .int .i64 (N j), .rb true (B j) (.is (C j))]
def dkK (sz : Nat) (L : By) (on off : Bool) (w g t ti : Int) : List (Nat × ABlk) :=
  [(200, ⟨.cells [.slice 201 0 64 sz .ow (.is false), .bool on, .int .i64 w, .int .i64 g, .int .i64 t], true, 0⟩), (201, ⟨.bytes L, true, 64⟩),
   (202, ⟨.cells [.slice 203 0 1 sz .ow .unk, .bool off, .int .i64 ti, .int .i64 t, .int .i64 w], true, 0⟩), (203, rkS sz (secs L))]
def lsA1 (n : Int) (row : AV) (nR : Nat) : LS := ⟨SpD, fun y => [(0, .int .i64 n), (1, row), (7, .ptr 200 0 0 0), (8, .int .i64 0), (9, .ptr 202 0 0 0), (10, .int .i64 y.i)],
  fun y => dkK n.toNat y.L y.on (!y.on) y.w y.g y.t y.ti, 1000, fun y => 51 - y.i, DOk n.toNat nR, fun _ => []⟩
def lsA2 (n : Int) : LS := ⟨SpD, fun y => [(0, .int .i64 n), (7, .ptr 200 0 0 0), (8, .int .i64 0), (9, .ptr 202 0 0 0), (21, .int .i64 y.i)],
  fun y => dkK n.toNat y.L true (!y.on) y.w (-1) y.t y.ti, 1000, fun y => n.toNat - y.i, fun y => y.i ≤ n.toNat ∧ y.L.length = n.toNat * 64, fun _ => []⟩
def lsAct (n : Int) (row : AV) (nR : Nat) : List (Nat × LS) := [(12, lsA1 n row nR), (43, lsA2 n)]
end Go.Sym

set_option linter.unusedSimpArgs false
namespace Go.Spec
open Go.Sym
theorem secs_at (L : By) (j p : Nat) : (secs L j)[p]? = if p < 64 then L[j * 64 + p]? else none := by
  unfold secs
  rw [List.getElem?_take, List.getElem?_drop]
theorem secs_len {L : By} {sz j : Nat} (h : L.length = sz * 64) (hj : j < sz) : (secs L j).length = 64 := by
  unfold secs
  rw [List.length_take, List.length_drop]
  omega
theorem dPut_len {L c : By} {i : Nat} (h : i * 64 + c.length ≤ L.length) : (dPut L i c).length = L.length := by
  unfold dPut
  rw [List.length_append, List.length_append, List.length_take, List.length_drop]
  omega
theorem dPut_at {L c : By} {i q : Nat} (h : i * 64 + c.length ≤ L.length) : (dPut L i c)[q]? = if q < i * 64 then L[q]? else if q < i * 64 + c.length then c[q - i * 64]? else L[q]? := by
  unfold dPut
  by_cases h1 : q < i * 64
  · rw [if_pos h1, List.getElem?_append_left (by rw [List.length_take]; omega), List.getElem?_take, if_pos h1]
  · rw [if_neg h1, List.getElem?_append_right (by rw [List.length_take]; omega), List.length_take, Nat.min_eq_left (by omega)]
    by_cases h2 : q < i * 64 + c.length
    · rw [if_pos h2, List.getElem?_append_left (by omega)]
    · rw [if_neg h2, List.getElem?_append_right (by omega), List.getElem?_drop, show i * 64 + c.length + (q - i * 64 - c.length) = q by omega]
theorem secs_put {L c : By} {i j : Nat} (h : i * 64 + c.length ≤ L.length) (hc : c.length ≤ 64) : secs (dPut L i c) j = if j = i then c ++ (secs L j).drop c.length else secs L j := by
  apply List.ext_getElem?
  intro p
  rw [secs_at]
  by_cases hj : j = i
  · subst hj
    rw [if_pos rfl]
    by_cases h1 : p < c.length
    · rw [if_pos (by omega), dPut_at h, if_neg (by omega), if_pos (by omega), List.getElem?_append_left h1, Nat.add_sub_cancel_left]
    · rw [List.getElem?_append_right (by omega), List.getElem?_drop, secs_at, show c.length + (p - c.length) = p by omega]
      split
      · rw [dPut_at h, if_neg (by omega), if_neg (by omega)]
      · rfl
  · rw [if_neg hj, secs_at]
    split
    · rw [dPut_at h]
      rcases Nat.lt_or_ge j i with h2 | h2
      · rw [if_pos (by omega)]
      · rw [if_neg (by omega), if_neg (by omega)]
    · rfl
theorem dwR_zero {sz : Nat} {on : Bool} {i : Int} {n : Nat} (h : dwR sz on i n = 0) : on = true ∧ 0 ≤ i ∧ i < sz ∧ n = 64 := by
  unfold dwR at h
  by_cases h1 : on = false
  · rw [if_pos h1] at h; omega
  · rw [if_neg h1] at h
    by_cases h2 : i < 0 ∨ (sz : Int) ≤ i
    · rw [if_pos h2] at h; omega
    · rw [if_neg h2] at h
      by_cases h3 : n ≠ 64
      · rw [if_pos h3] at h; omega
      · exact ⟨by simpa using h1, by omega, by omega, by omega⟩
/-- Both disks are written, and tell the same. -/
theorem dk_write {sz nR : Nat} {x : SpD} (hx : DOk sz nR x) (h1 : x.i < 50) (h2 : x.i < nR) (i : Int) (b : By) :
    DOk sz nR ⟨x.i + 1, dwL sz x.on x.g x.t i x.L b, dwO sz x.on x.g i b.length, dwW sz x.on x.w i b.length, dwG sz x.on x.g i b.length, x.t, rwT sz (!x.on) x.ti i b.length⟩ ∧
    dwE sz x.on x.g i b.length = rwE sz (!x.on) x.ti i b.length ∧ (!dwO sz x.on x.g i b.length) = rwO sz (!x.on) x.ti i b.length ∧ dwW sz x.on x.w i b.length = rwW sz (!x.on) x.w i b.length ∧
    (∀ j, j < sz → rwF sz (!x.on) x.ti x.t i (secs x.L) b j = secs (dwL sz x.on x.g x.t i x.L b) j) := by
  have a1 := hx.i1
  have a2 := hx.i2
  have aL := hx.L
  have at0 := hx.t0
  have at1 := hx.t1
  have aw0 := hx.w0
  have aw1 := hx.w1
  have ag0 := hx.g0
  have ag1 := hx.g1
  have ati := hx.ti1
  unfold dwE rwE dwO rwO dwW rwW dwG rwT dwL rwF
  rw [Bool.not_not]
  by_cases hR : dwR sz x.on i b.length = 0
  · obtain ⟨r1, r2, r3, r4⟩ := dwR_zero hR
    have hs := hx.same r1
    rw [hR, r1]
    have hg : x.g = 0 ↔ x.ti = 0 := by omega
    have hin : i.toNat < sz := by omega
    have hc1 : (b.take x.t.toNat).length = x.t.toNat := by rw [List.length_take]; omega
    have hl1 : i.toNat * 64 + (b.take x.t.toNat).length ≤ x.L.length := by omega
    have hl2 : i.toNat * 64 + b.length ≤ x.L.length := by omega
    simp only [ne_eq, not_true_eq_false, if_false]
    refine ⟨⟨by show x.i + 1 ≤ 50; omega, by show x.i + 1 ≤ nR; omega, ?_, at0, at1, by show 0 ≤ x.w + 1; omega, by show x.w + 1 ≤ ((x.i + 1 : Nat) : Int); omega, ?_, ?_, ?_, ?_⟩, ?_, ?_, trivial, ?_⟩
    · show (if x.g = 0 then dPut x.L i.toNat (b.take x.t.toNat) else dPut x.L i.toNat b).length = _
      split
      · rw [dPut_len hl1]; exact aL
      · rw [dPut_len hl2]; exact aL
    · show -9223372036854775808 ≤ (if 0 < x.g then x.g - 1 else x.g)
      split <;> omega
    · show (if 0 < x.g then x.g - 1 else x.g) < 9223372036854775808
      split <;> omega
    · show (if 0 ≤ x.ti then x.ti - 1 else x.ti) < 9223372036854775808
      split <;> omega
    · show (if x.g = 0 then false else true) = true → (if 0 ≤ x.ti then x.ti - 1 else x.ti) = max (if 0 < x.g then x.g - 1 else x.g) (-1)
      intro h
      by_cases h0 : x.g = 0
      · rw [if_pos h0] at h; cases h
      · split <;> split <;> omega
    · by_cases h0 : x.g = 0
      · rw [if_pos h0, if_pos (hg.1 h0)]
      · rw [if_neg h0, if_neg (fun h => h0 (hg.2 h))]
    · by_cases h0 : x.g = 0
      · rw [if_pos h0, if_pos (hg.1 h0)]; first | done | rfl
      · rw [if_neg h0, if_neg (fun h => h0 (hg.2 h))]; first | done | rfl
    · intro j hj
      have hsl := secs_len aL hj
      by_cases h0 : x.g = 0
      · rw [if_pos h0, if_pos (hg.1 h0), secs_put hl1 (by omega), hc1]
      · rw [if_neg h0, if_neg (fun h => h0 (hg.2 h)), secs_put hl2 (by omega)]
        split
        · rw [List.drop_eq_nil_of_le (by omega), List.append_nil]
        · rfl
  · simp only [ne_eq, hR, not_false_eq_true, if_true]
    refine ⟨⟨by show x.i + 1 ≤ 50; omega, by show x.i + 1 ≤ nR; omega, aL, at0, at1, aw0, by show x.w ≤ ((x.i + 1 : Nat) : Int); omega, ag0, ag1, ati, hx.same⟩, trivial, trivial, trivial, fun j hj => trivial⟩
theorem dk_read {sz : Nat} {on : Bool} {i : Int} {L : By} : drB sz on i L = rrB sz (!on) i (secs L) := by
  unfold drB rrB
  rw [Bool.not_not]
  rfl
theorem dwL_len {sz : Nat} {on : Bool} {g t i : Int} {L b : By} (hL : L.length = sz * 64) (ht : t ≤ 64) : (dwL sz on g t i L b).length = sz * 64 := by
  unfold dwL
  by_cases hR : dwR sz on i b.length = 0
  · obtain ⟨r1, r2, r3, r4⟩ := dwR_zero hR
    rw [hR, if_neg (by omega)]
    split
    · rw [dPut_len (by rw [List.length_take]; omega)]; exact hL
    · rw [dPut_len (by omega)]; exact hL
  · rw [if_pos hR]; exact hL
end Go.Spec

namespace Go.Sym
open Go.Proofs Go.Spec
set_option linter.unusedVariables false
set_option maxRecDepth 100000 in
theorem vd6 (n : Int) (nR : Nat) (W I N : Nat → Int) (B : Nat → By) (C : Nat → Bool) (c : Bool) : bodyP Try.prog A5 gl0 [] (lsAct n (.ros true 4 nR (actR W I N B C) (.is c)) nR) 3000 Try.f6 0 [.int .i64 n, .ros true 4 nR (actR W I N B C) (.is c)] [] (retQ Try.prog Try.f6 0 ⟨[], .bool true, [], []⟩) = (
let x1 := let x1 := ∀ (y : Nat), y < nR → datas Bool.true [AV.int IntKind.i64 (W y), AV.int IntKind.i64 (I y), AV.int IntKind.i64 (N y), AV.rb Bool.true (B y) (NL.is (C y))] = Bool.true ∧ W y = W y ∧ I y = I y ∧ N y = N y ∧ C y = C y ∧ B y = B y ∧ True; let x2 := ∀ (x : SpD), x.i ≤ n.toNat ∧ List.length x.L = n.toNat * 64 → @Bool.rec (fun _ => Prop) (Bool.true = Bool.true ∧ True) (List.length x.L = n.toNat * 64 ∧ @Bool.rec (fun _ => Prop) (Bool.true = Bool.false ∧ True) (List.length (drB n.toNat Bool.true (↑x.i : Int) x.L) = List.length (drB n.toNat Bool.true (↑x.i : Int) x.L) ∧ (0 : Int) ≤ (↑x.i : Int) ∧ (↑x.i : Int).toNat < n.toNat ∧ (↑x.i : Int).toNat < n.toNat ∧ @Bool.rec (fun _ => Prop) (∃ (y : SpD), n.toNat - y.i < n.toNat - x.i ∧ (y.i ≤ n.toNat ∧ List.length y.L = n.toNat * 64) ∧ n = n ∧ 0 = 0 ∧ (0 : Int) = (0 : Int) ∧ 0 = 0 ∧ (↑y.i : Int) = IntKind.i64.wrap ((↑x.i : Int) + (1 : Int)) ∧ Bool.false = Bool.false ∧ 0 = 0 ∧ 0 = 0 ∧ 0 = 0 ∧ n.toNat = n.toNat ∧ Bool.true = Bool.true ∧ y.w = x.w ∧ Int.negSucc 0 = Int.negSucc 0 ∧ y.t = x.t ∧ y.L = x.L ∧ 0 = 0 ∧ 0 = 0 ∧ 0 = 0 ∧ n.toNat = n.toNat ∧ (!y.on) = !x.on ∧ y.ti = x.ti ∧ y.t = x.t ∧ y.w = x.w ∧ n.toNat = n.toNat ∧ (∀ (y_1 : Nat), y_1 < n.toNat → datas Bool.false [AV.rb Bool.true (secs y.L y_1) (NL.is Bool.false)] = Bool.true ∧ [AV.rb Bool.true (secs x.L y_1) (NL.is Bool.false)] = [AV.rb Bool.true (secs y.L y_1) (NL.is Bool.false)]) ∧ True) (Bool.true = Bool.false ∧ True) !decide (drB n.toNat Bool.true (↑x.i : Int) x.L = secs x.L (↑x.i : Int).toNat)) !!decide (dwR n.toNat Bool.true (↑x.i : Int) 64 = (0 : Int))) (decide ((↑x.i : Int) < n)); let x3 := (0 + n.toNat) * 64; ∀ (x : SpD), let x1_1 := let x1_1 := [] ++ List.take (Min.min (↑(List.length (B (↑x.i : Int).toNat)) : Int) (64 : Int)).toNat (B (↑x.i : Int).toNat) ++ List.replicate (Max.max (IntKind.i64.wrap ((64 : Int) - (↑(List.length (B (↑x.i : Int).toNat)) : Int))) (0 : Int)).toNat (0 : BitVec 8); let x2 := List.take (Min.min (↑(List.length (B (↑x.i : Int).toNat)) : Int) (70 : Int)).toNat (B (↑x.i : Int).toNat); let x3_1 := List.take (Min.min (↑(List.length (B (↑x.i : Int).toNat)) : Int) (64 : Int)).toNat (B (↑x.i : Int).toNat); let x4 := Max.max (IntKind.i64.wrap ((64 : Int) - (↑(List.length (B (↑x.i : Int).toNat)) : Int))) (0 : Int); (0 : Int) ≤ Min.min (↑(List.length (B (↑x.i : Int).toNat)) : Int) (64 : Int) ∧ (Min.min (↑(List.length (B (↑x.i : Int).toNat)) : Int) (64 : Int)).toNat ≤ List.length (B (↑x.i : Int).toNat) ∧ 0 = 0 ∧ roomFor 0 x3_1.length 1 ∧ (0 : Int) ≤ x4 ∧ x4 < (9223372036854775808 : Int) ∧ 0 + x3_1.length = ([] ++ x3_1).length ∧ roomFor (0 + x3_1.length) (List.replicate x4.toNat (0 : BitVec 8)).length 1 ∧ @Bool.rec (fun _ => Prop) (0 + x3_1.length + (List.replicate x4.toNat (0 : BitVec 8)).length = x1_1.length ∧ (List.take (n.toNat * 64) x.L).length = x3 ∧ (0 : Int) ≤ x.t ∧ x.t ≤ (64 : Int) ∧ (0 : Int) ≤ x.w ∧ x.w < (4611686018427387904 : Int) ∧ x.g < (9223372036854775808 : Int) ∧ 0 + x3_1.length + (List.replicate x4.toNat (0 : BitVec 8)).length = x1_1.length ∧ List.length x.L = n.toNat * 64 ∧ (0 : Int) ≤ x.t ∧ x.t ≤ (64 : Int) ∧ (0 : Int) ≤ x.w ∧ x.w < (4611686018427387904 : Int) ∧ x.g < (9223372036854775808 : Int) ∧ 0 + x3_1.length + (List.replicate x4.toNat (0 : BitVec 8)).length = x1_1.length ∧ (∀ (y : Nat), y < n.toNat → datas Bool.false [AV.rb Bool.true (secs x.L y) (NL.is Bool.false)] = Bool.true) ∧ n.toNat = n.toNat ∧ ((fun (j : Nat) => [AV.rb Bool.true (secs x.L j) (NL.is Bool.false)]) = fun (j : Nat) => [AV.rb Bool.true (secs x.L j) (NL.is Bool.false)]) ∧ (∀ (j : Nat), j < n.toNat → List.length (secs x.L j) = 64) ∧ (0 : Int) ≤ x.t ∧ x.t ≤ (64 : Int) ∧ (0 : Int) ≤ x.w ∧ x.w < (4611686018427387904 : Int) ∧ x.ti < (9223372036854775808 : Int) ∧ @Bool.rec (fun _ => Prop) (Bool.true = Bool.false ∧ True) (@Bool.rec (fun _ => Prop) (Bool.true = Bool.false ∧ True) (@Bool.rec (fun _ => Prop) (64 ≤ 64 ∧ 64 ≤ 281474976710656 ∧ 64 ≤ 9223372036854775807 ∧ 64 = 64 ∧ List.length (dwL (0 + n.toNat) x.on x.g x.t (I (↑x.i : Int).toNat) (List.take (n.toNat * 64) x.L) x1_1) = x3 ∧ (0 : Int) ≤ x.t ∧ x.t ≤ (64 : Int) ∧ (0 : Int) ≤ dwW (0 + n.toNat) x.on x.w (I (↑x.i : Int).toNat) x1_1.length ∧ dwW (0 + n.toNat) x.on x.w (I (↑x.i : Int).toNat) x1_1.length < (4611686018427387904 : Int) ∧ Int.negSucc 0 < (9223372036854775808 : Int) ∧ @Bool.rec (fun _ => Prop) (Bool.true = Bool.false ∧ True) (@Bool.rec (fun _ => Prop) (Bool.true = Bool.false ∧ True) (@Bool.rec (fun _ => Prop) (∃ (y : SpD), 51 - y.i < 51 - x.i ∧ DOk n.toNat nR y ∧ n = n ∧ c = c ∧ nR = nR ∧ x1 ∧ 0 = 0 ∧ (0 : Int) = (0 : Int) ∧ 0 = 0 ∧ (↑y.i : Int) = IntKind.i64.wrap ((↑x.i : Int) + (1 : Int)) ∧ Bool.false = Bool.false ∧ 0 = 0 ∧ 0 = 0 ∧ 0 = 0 ∧ n.toNat = n.toNat ∧ y.on = dwO n.toNat x.on x.g (I (↑x.i : Int).toNat) x1_1.length ∧ y.w = dwW n.toNat x.on x.w (I (↑x.i : Int).toNat) x1_1.length ∧ y.g = dwG n.toNat x.on x.g (I (↑x.i : Int).toNat) x1_1.length ∧ y.t = x.t ∧ y.L = dwL n.toNat x.on x.g x.t (I (↑x.i : Int).toNat) x.L x1_1 ∧ 0 = 0 ∧ 0 = 0 ∧ 0 = 0 ∧ n.toNat = n.toNat ∧ (!y.on) = rwO n.toNat (!x.on) x.ti (I (↑x.i : Int).toNat) x1_1.length ∧ y.ti = rwT n.toNat (!x.on) x.ti (I (↑x.i : Int).toNat) x1_1.length ∧ y.t = x.t ∧ y.w = rwW n.toNat (!x.on) x.w (I (↑x.i : Int).toNat) x1_1.length ∧ n.toNat = n.toNat ∧ (∀ (y_1 : Nat), y_1 < n.toNat → datas Bool.false [AV.rb Bool.true (secs y.L y_1) (NL.is Bool.false)] = Bool.true ∧ [AV.rb Bool.true (rwF n.toNat (!x.on) x.ti x.t (I (↑x.i : Int).toNat) (fun (j : Nat) => secs x.L j) x1_1 y_1) (NL.is Bool.false)] = [AV.rb Bool.true (secs y.L y_1) (NL.is Bool.false)]) ∧ True) (Bool.true = Bool.false ∧ True) !decide ((↑n.toNat : Int) = n)) !!decide (dwW n.toNat x.on x.w (I (↑x.i : Int).toNat) x1_1.length = rwW n.toNat (!x.on) x.w (I (↑x.i : Int).toNat) x1_1.length)) !decide (dwO n.toNat x.on x.g (I (↑x.i : Int).toNat) x1_1.length = rwO n.toNat (!x.on) x.ti (I (↑x.i : Int).toNat) x1_1.length)) (Bool.true = Bool.false ∧ True) !decide (dwO (0 + n.toNat) x.on x.g (I (↑x.i : Int).toNat) x1_1.length = dwO n.toNat x.on x.g (I (↑x.i : Int).toNat) x1_1.length)) !!decide (dwE n.toNat x.on x.g (I (↑x.i : Int).toNat) x1_1.length = rwE n.toNat (!x.on) x.ti (I (↑x.i : Int).toNat) x1_1.length)) !!decide (dwE (0 + n.toNat) x.on x.g (I (↑x.i : Int).toNat) x1_1.length = dwE n.toNat x.on x.g (I (↑x.i : Int).toNat) x1_1.length)) ((0 : Int) ≤ Min.min (↑(List.length (B (↑x.i : Int).toNat)) : Int) (70 : Int) ∧ (Min.min (↑(List.length (B (↑x.i : Int).toNat)) : Int) (70 : Int)).toNat ≤ List.length (B (↑x.i : Int).toNat) ∧ (List.take (n.toNat * 64) x.L).length = x3 ∧ (0 : Int) ≤ x.t ∧ x.t ≤ (64 : Int) ∧ (0 : Int) ≤ x.w ∧ x.w < (4611686018427387904 : Int) ∧ x.g < (9223372036854775808 : Int) ∧ List.length x.L = n.toNat * 64 ∧ (0 : Int) ≤ x.t ∧ x.t ≤ (64 : Int) ∧ (0 : Int) ≤ x.w ∧ x.w < (4611686018427387904 : Int) ∧ x.g < (9223372036854775808 : Int) ∧ (∀ (y : Nat), y < n.toNat → datas Bool.false [AV.rb Bool.true (secs x.L y) (NL.is Bool.false)] = Bool.true) ∧ n.toNat = n.toNat ∧ ((fun (j : Nat) => [AV.rb Bool.true (secs x.L j) (NL.is Bool.false)]) = fun (j : Nat) => [AV.rb Bool.true (secs x.L j) (NL.is Bool.false)]) ∧ (∀ (j : Nat), j < n.toNat → List.length (secs x.L j) = 64) ∧ (0 : Int) ≤ x.t ∧ x.t ≤ (64 : Int) ∧ (0 : Int) ≤ x.w ∧ x.w < (4611686018427387904 : Int) ∧ x.ti < (9223372036854775808 : Int) ∧ @Bool.rec (fun _ => Prop) (Bool.true = Bool.false ∧ True) (@Bool.rec (fun _ => Prop) (Bool.true = Bool.false ∧ True) (@Bool.rec (fun _ => Prop) (64 ≤ 64 ∧ 64 ≤ 281474976710656 ∧ 64 ≤ 9223372036854775807 ∧ 64 = 64 ∧ List.length (dwL (0 + n.toNat) x.on x.g x.t (I (↑x.i : Int).toNat) (List.take (n.toNat * 64) x.L) x2) = x3 ∧ (0 : Int) ≤ x.t ∧ x.t ≤ (64 : Int) ∧ (0 : Int) ≤ dwW (0 + n.toNat) x.on x.w (I (↑x.i : Int).toNat) x2.length ∧ dwW (0 + n.toNat) x.on x.w (I (↑x.i : Int).toNat) x2.length < (4611686018427387904 : Int) ∧ Int.negSucc 0 < (9223372036854775808 : Int) ∧ @Bool.rec (fun _ => Prop) (Bool.true = Bool.false ∧ True) (@Bool.rec (fun _ => Prop) (Bool.true = Bool.false ∧ True) (@Bool.rec (fun _ => Prop) (∃ (y : SpD), 51 - y.i < 51 - x.i ∧ DOk n.toNat nR y ∧ n = n ∧ c = c ∧ nR = nR ∧ x1 ∧ 0 = 0 ∧ (0 : Int) = (0 : Int) ∧ 0 = 0 ∧ (↑y.i : Int) = IntKind.i64.wrap ((↑x.i : Int) + (1 : Int)) ∧ Bool.false = Bool.false ∧ 0 = 0 ∧ 0 = 0 ∧ 0 = 0 ∧ n.toNat = n.toNat ∧ y.on = dwO n.toNat x.on x.g (I (↑x.i : Int).toNat) x2.length ∧ y.w = dwW n.toNat x.on x.w (I (↑x.i : Int).toNat) x2.length ∧ y.g = dwG n.toNat x.on x.g (I (↑x.i : Int).toNat) x2.length ∧ y.t = x.t ∧ y.L = dwL n.toNat x.on x.g x.t (I (↑x.i : Int).toNat) x.L x2 ∧ 0 = 0 ∧ 0 = 0 ∧ 0 = 0 ∧ n.toNat = n.toNat ∧ (!y.on) = rwO n.toNat (!x.on) x.ti (I (↑x.i : Int).toNat) x2.length ∧ y.ti = rwT n.toNat (!x.on) x.ti (I (↑x.i : Int).toNat) x2.length ∧ y.t = x.t ∧ y.w = rwW n.toNat (!x.on) x.w (I (↑x.i : Int).toNat) x2.length ∧ n.toNat = n.toNat ∧ (∀ (y_1 : Nat), y_1 < n.toNat → datas Bool.false [AV.rb Bool.true (secs y.L y_1) (NL.is Bool.false)] = Bool.true ∧ [AV.rb Bool.true (rwF n.toNat (!x.on) x.ti x.t (I (↑x.i : Int).toNat) (fun (j : Nat) => secs x.L j) x2 y_1) (NL.is Bool.false)] = [AV.rb Bool.true (secs y.L y_1) (NL.is Bool.false)]) ∧ True) (Bool.true = Bool.false ∧ True) !decide ((↑n.toNat : Int) = n)) !!decide (dwW n.toNat x.on x.w (I (↑x.i : Int).toNat) x2.length = rwW n.toNat (!x.on) x.w (I (↑x.i : Int).toNat) x2.length)) !decide (dwO n.toNat x.on x.g (I (↑x.i : Int).toNat) x2.length = rwO n.toNat (!x.on) x.ti (I (↑x.i : Int).toNat) x2.length)) (Bool.true = Bool.false ∧ True) !decide (dwO (0 + n.toNat) x.on x.g (I (↑x.i : Int).toNat) x2.length = dwO n.toNat x.on x.g (I (↑x.i : Int).toNat) x2.length)) !!decide (dwE n.toNat x.on x.g (I (↑x.i : Int).toNat) x2.length = rwE n.toNat (!x.on) x.ti (I (↑x.i : Int).toNat) x2.length)) !!decide (dwE (0 + n.toNat) x.on x.g (I (↑x.i : Int).toNat) x2.length = dwE n.toNat x.on x.g (I (↑x.i : Int).toNat) x2.length)) (decide ((N (↑x.i : Int).toNat).tmod (13 : Int) = (12 : Int))); let x2_1 := @Bool.rec (fun _ => Prop) (@Bool.rec (fun _ => Prop) (@Bool.rec (fun _ => Prop) (Bool.true = Bool.false ∧ True) (@Bool.rec (fun _ => Prop) (Bool.true = Bool.false ∧ True) (@Bool.rec (fun _ => Prop) (∃ (y : SpD), 51 - y.i < 51 - x.i ∧ DOk n.toNat nR y ∧ n = n ∧ c = c ∧ nR = nR ∧ x1 ∧ 0 = 0 ∧ (0 : Int) = (0 : Int) ∧ 0 = 0 ∧ (↑y.i : Int) = IntKind.i64.wrap ((↑x.i : Int) + (1 : Int)) ∧ Bool.false = Bool.false ∧ 0 = 0 ∧ 0 = 0 ∧ 0 = 0 ∧ n.toNat = n.toNat ∧ y.on = x.on ∧ y.w = x.w ∧ y.g = x.g ∧ y.t = x.t ∧ y.L = x.L ∧ 0 = 0 ∧ 0 = 0 ∧ 0 = 0 ∧ n.toNat = n.toNat ∧ (!y.on) = !x.on ∧ y.ti = x.ti ∧ y.t = x.t ∧ y.w = x.w ∧ n.toNat = n.toNat ∧ (∀ (y_1 : Nat), y_1 < n.toNat → datas Bool.false [AV.rb Bool.true (secs y.L y_1) (NL.is Bool.false)] = Bool.true ∧ [AV.rb Bool.true (secs x.L y_1) (NL.is Bool.false)] = [AV.rb Bool.true (secs y.L y_1) (NL.is Bool.false)]) ∧ True) (Bool.true = Bool.false ∧ True) !decide ((↑n.toNat : Int) = n)) !!decide (x.w = x.w)) !decide (x.on = !x.on)) ((∀ (y : Nat), y < n.toNat → datas Bool.false [AV.rb Bool.true (secs x.L y) (NL.is Bool.false)] = Bool.true) ∧ (∀ (y : Nat), y < n.toNat → outs Bool.true [AV.rb Bool.true (secs x.L y) (NL.is Bool.false)] = Bool.true) ∧ @Bool.rec (fun _ => Prop) (Bool.true = Bool.false ∧ True) (@Bool.rec (fun _ => Prop) (∃ (y : SpD), 51 - y.i < 51 - x.i ∧ DOk n.toNat nR y ∧ n = n ∧ c = c ∧ nR = nR ∧ x1 ∧ 0 = 0 ∧ (0 : Int) = (0 : Int) ∧ 0 = 0 ∧ (↑y.i : Int) = IntKind.i64.wrap ((↑x.i : Int) + (1 : Int)) ∧ Bool.false = Bool.false ∧ 0 = 0 ∧ 0 = 0 ∧ 0 = 0 ∧ n.toNat = n.toNat ∧ y.on = Bool.true ∧ y.w = x.w ∧ y.g = Int.negSucc 0 ∧ y.t = x.t ∧ y.L = x.L ∧ 0 = 0 ∧ 0 = 0 ∧ 0 = 0 ∧ n.toNat = n.toNat ∧ (!y.on) = Bool.false ∧ y.ti = Int.negSucc 0 ∧ y.t = x.t ∧ y.w = x.w ∧ n.toNat = n.toNat ∧ (∀ (y_1 : Nat), y_1 < n.toNat → datas Bool.false [AV.rb Bool.true (secs y.L y_1) (NL.is Bool.false)] = Bool.true ∧ [AV.rb Bool.true (secs x.L y_1) (NL.is Bool.false)] = [AV.rb Bool.true (secs y.L y_1) (NL.is Bool.false)]) ∧ True) (Bool.true = Bool.false ∧ True) !decide ((↑n.toNat : Int) = n)) !!decide (x.w = x.w)) (decide (IntKind.i64.wrap (↑(BitVec.ofInt 64 (W (↑x.i : Int).toNat) % BitVec.ofNat 64 6).toNat : Int) = (5 : Int)))) ((∀ (y : Nat), y < n.toNat → datas Bool.false [AV.rb Bool.true (secs x.L y) (NL.is Bool.false)] = Bool.true) ∧ (∀ (y : Nat), y < n.toNat → outs Bool.true [AV.rb Bool.true (secs x.L y) (NL.is Bool.false)] = Bool.true) ∧ @Bool.rec (fun _ => Prop) (Bool.true = Bool.false ∧ True) (@Bool.rec (fun _ => Prop) (Bool.true = Bool.false ∧ True) (@Bool.rec (fun _ => Prop) (∃ (y : SpD), 51 - y.i < 51 - x.i ∧ DOk n.toNat nR y ∧ n = n ∧ c = c ∧ nR = nR ∧ x1 ∧ 0 = 0 ∧ (0 : Int) = (0 : Int) ∧ 0 = 0 ∧ (↑y.i : Int) = IntKind.i64.wrap ((↑x.i : Int) + (1 : Int)) ∧ Bool.false = Bool.false ∧ 0 = 0 ∧ 0 = 0 ∧ 0 = 0 ∧ n.toNat = n.toNat ∧ y.on = x.on ∧ y.w = x.w ∧ y.g = I (↑x.i : Int).toNat ∧ y.t = Min.min (Max.max (N (↑x.i : Int).toNat) (0 : Int)) (64 : Int) ∧ y.L = x.L ∧ 0 = 0 ∧ 0 = 0 ∧ 0 = 0 ∧ n.toNat = n.toNat ∧ (!y.on) = !x.on ∧ y.ti = Max.max (I (↑x.i : Int).toNat) (Int.negSucc 0) ∧ y.t = Min.min (Max.max (N (↑x.i : Int).toNat) (0 : Int)) (64 : Int) ∧ y.w = x.w ∧ n.toNat = n.toNat ∧ (∀ (y_1 : Nat), y_1 < n.toNat → datas Bool.false [AV.rb Bool.true (secs y.L y_1) (NL.is Bool.false)] = Bool.true ∧ [AV.rb Bool.true (secs x.L y_1) (NL.is Bool.false)] = [AV.rb Bool.true (secs y.L y_1) (NL.is Bool.false)]) ∧ True) (Bool.true = Bool.false ∧ True) !decide ((↑n.toNat : Int) = n)) !!decide (x.w = x.w)) !decide (x.on = !x.on)) (decide (IntKind.i64.wrap (↑(BitVec.ofInt 64 (W (↑x.i : Int).toNat) % BitVec.ofNat 64 6).toNat : Int) = (4 : Int))); let x3 := (∃ (x_1 : SpD), (x_1.i ≤ n.toNat ∧ List.length x_1.L = n.toNat * 64) ∧ n = n ∧ 0 = 0 ∧ (0 : Int) = (0 : Int) ∧ 0 = 0 ∧ (↑x_1.i : Int) = (0 : Int) ∧ Bool.false = Bool.false ∧ 0 = 0 ∧ 0 = 0 ∧ 0 = 0 ∧ n.toNat = n.toNat ∧ Bool.true = Bool.true ∧ x_1.w = x.w ∧ Int.negSucc 0 = Int.negSucc 0 ∧ x_1.t = x.t ∧ x_1.L = x.L ∧ 0 = 0 ∧ 0 = 0 ∧ 0 = 0 ∧ n.toNat = n.toNat ∧ (!x_1.on) = !x.on ∧ x_1.ti = x.ti ∧ x_1.t = x.t ∧ x_1.w = x.w ∧ n.toNat = n.toNat ∧ (∀ (y : Nat), y < n.toNat → datas Bool.false [AV.rb Bool.true (secs x_1.L y) (NL.is Bool.false)] = Bool.true ∧ [AV.rb Bool.true (secs x.L y) (NL.is Bool.false)] = [AV.rb Bool.true (secs x_1.L y) (NL.is Bool.false)]) ∧ True) ∧ x2; let x4 := IntKind.i64.wrap (↑(BitVec.ofInt 64 (W (↑x.i : Int).toNat) % BitVec.ofNat 64 6).toNat : Int); DOk n.toNat nR x → @Bool.rec (fun _ => Prop) x3 (@Bool.rec (fun _ => Prop) x3 ((0 : Int) ≤ (↑x.i : Int) ∧ (↑x.i : Int).toNat < nR ∧ 0 + n.toNat * 64 ≤ List.length x.L ∧ 0 = 0 ∧ roomFor 0 n.toNat 64 ∧ @Bool.rec (fun _ => Prop) (@Bool.rec (fun _ => Prop) (@Bool.rec (fun _ => Prop) (@Bool.rec (fun _ => Prop) x2_1 x1_1 (decide (x4 = (3 : Int)))) (@Bool.rec (fun _ => Prop) x2_1 x1_1 (decide (x4 = (2 : Int)))) (decide (x4 = (2 : Int)))) (@Bool.rec (fun _ => Prop) x2_1 x1_1 (decide (x4 = (1 : Int)))) (decide (x4 = (1 : Int)))) (List.length x.L = n.toNat * 64 ∧ (∀ (y : Nat), y < n.toNat → datas Bool.false [AV.rb Bool.true (secs x.L y) (NL.is Bool.false)] = Bool.true) ∧ n.toNat = n.toNat ∧ ((fun (j : Nat) => [AV.rb Bool.true (secs x.L j) (NL.is Bool.false)]) = fun (j : Nat) => [AV.rb Bool.true (secs x.L j) (NL.is Bool.false)]) ∧ @Bool.rec (fun _ => Prop) (Bool.true = Bool.false ∧ True) (List.length (drB n.toNat x.on (I (↑x.i : Int).toNat) x.L) = List.length (drB n.toNat x.on (I (↑x.i : Int).toNat) x.L) ∧ @Bool.rec (fun _ => Prop) (@Bool.rec (fun _ => Prop) (Bool.true = Bool.false ∧ True) (@Bool.rec (fun _ => Prop) (Bool.true = Bool.false ∧ True) (@Bool.rec (fun _ => Prop) (∃ (y : SpD), 51 - y.i < 51 - x.i ∧ DOk n.toNat nR y ∧ n = n ∧ c = c ∧ nR = nR ∧ x1 ∧ 0 = 0 ∧ (0 : Int) = (0 : Int) ∧ 0 = 0 ∧ (↑y.i : Int) = IntKind.i64.wrap ((↑x.i : Int) + (1 : Int)) ∧ Bool.false = Bool.false ∧ 0 = 0 ∧ 0 = 0 ∧ 0 = 0 ∧ n.toNat = n.toNat ∧ y.on = x.on ∧ y.w = x.w ∧ y.g = x.g ∧ y.t = x.t ∧ y.L = x.L ∧ 0 = 0 ∧ 0 = 0 ∧ 0 = 0 ∧ n.toNat = n.toNat ∧ (!y.on) = !x.on ∧ y.ti = x.ti ∧ y.t = x.t ∧ y.w = x.w ∧ n.toNat = n.toNat ∧ (∀ (y_1 : Nat), y_1 < n.toNat → datas Bool.false [AV.rb Bool.true (secs y.L y_1) (NL.is Bool.false)] = Bool.true ∧ [AV.rb Bool.true (secs x.L y_1) (NL.is Bool.false)] = [AV.rb Bool.true (secs y.L y_1) (NL.is Bool.false)]) ∧ True) (Bool.true = Bool.false ∧ True) !decide ((↑n.toNat : Int) = n)) !!decide (x.w = x.w)) !decide (x.on = !x.on)) (Bool.true = Bool.false ∧ True) !decide (drB n.toNat x.on (I (↑x.i : Int).toNat) x.L = rrB n.toNat (!x.on) (I (↑x.i : Int).toNat) fun (j : Nat) => secs x.L j)) !!decide (dwR n.toNat x.on (I (↑x.i : Int).toNat) 64 = dwR n.toNat (!!x.on) (I (↑x.i : Int).toNat) 64)) (decide (x4 = (0 : Int)))) (decide ((↑x.i : Int) < (50 : Int)))) (decide ((↑x.i : Int) < (↑nR : Int))); let x2 := @Bool.rec (fun _ => Prop) (Bool.true = Bool.true ∧ True) (@Bool.rec (fun _ => Prop) ((0 : Int) ≤ n ∧ n ≤ (512 : Int) ∧ (∃ (x : SpD), DOk n.toNat nR x ∧ False) ∧ x1) (Bool.true = Bool.true ∧ True) (decide ((512 : Int) < n))) !decide (n < (1 : Int)); @Bool.rec (fun _ => Prop) x2 (@Bool.rec (fun _ => Prop) ((0 : Int) ≤ n ∧ (0 : Int) ≤ n ∧ n.toNat ≤ n.toNat ∧ 64 * n.toNat ≤ 281474976710656 ∧ n.toNat ≤ 9223372036854775807 ∧ @Bool.rec (fun _ => Prop) (Bool.true = Bool.false ∧ True) (@Bool.rec (fun _ => Prop) ((0 : Int) ≤ n ∧ n ≤ (512 : Int) ∧ (∃ (x : SpD), DOk n.toNat nR x ∧ n = n ∧ c = c ∧ nR = nR ∧ (∀ (y : Nat), y < nR → datas Bool.true [AV.int IntKind.i64 (W y), AV.int IntKind.i64 (I y), AV.int IntKind.i64 (N y), AV.rb Bool.true (B y) (NL.is (C y))] = Bool.true ∧ W y = W y ∧ I y = I y ∧ N y = N y ∧ C y = C y ∧ B y = B y ∧ True) ∧ 0 = 0 ∧ (0 : Int) = (0 : Int) ∧ 0 = 0 ∧ (↑x.i : Int) = (0 : Int) ∧ Bool.false = Bool.false ∧ 0 = 0 ∧ 0 = 0 ∧ 0 = 0 ∧ n.toNat = n.toNat ∧ x.on = Bool.true ∧ x.w = (0 : Int) ∧ x.g = Int.negSucc 0 ∧ x.t = (0 : Int) ∧ x.L = List.replicate (n.toNat * 64) (0 : BitVec 8) ∧ 0 = 0 ∧ 0 = 0 ∧ 0 = 0 ∧ n.toNat = n.toNat ∧ (!x.on) = Bool.false ∧ x.ti = Int.negSucc 0 ∧ x.t = (0 : Int) ∧ x.w = (0 : Int) ∧ n.toNat = n.toNat ∧ (∀ (y : Nat), y < n.toNat → datas Bool.false [AV.rb Bool.true (secs x.L y) (NL.is Bool.false)] = Bool.true ∧ [AV.rb Bool.true (List.replicate 64 (0 : BitVec 8)) (NL.is Bool.false)] = [AV.rb Bool.true (secs x.L y) (NL.is Bool.false)]) ∧ True) ∧ x1) (Bool.true = Bool.false ∧ True) (decide ((512 : Int) < n))) !decide (n < (1 : Int))) x2 (decide ((512 : Int) < n))) !decide (n < (1 : Int)) : Prop) := by kernel_rfl
end Go.Sym

set_option linter.unusedSimpArgs false
namespace Go.Sym
open Go.Proofs Go.Spec
set_option linter.unusedVariables false
theorem nn1 {p : Prop} [Decidable p] (h : p) : (!!decide p) = true := by rw [decide_eq_true h]; rfl
theorem dk_tail {n : Int} {c : Bool} {r1 : Prop} {s3 sz nR : Nat} {x : SpD} (hr1 : r1) (hs3 : s3 = sz * 64) (hz : (sz : Int) = n) (hx : DOk sz nR x) (h1 : x.i < 50) (h2 : x.i < nR) (i : Int) (b : By) : (
@Bool.rec (fun _ => Prop) (Bool.true = Bool.false ∧ True) (@Bool.rec (fun _ => Prop) (Bool.true = Bool.false ∧ True) (@Bool.rec (fun _ => Prop) (64 ≤ 64 ∧ 64 ≤ 281474976710656 ∧ 64 ≤ 9223372036854775807 ∧ 64 = 64 ∧ List.length (dwL (0 + sz) x.on x.g x.t i (List.take (sz * 64) x.L) b) = s3 ∧ (0 : Int) ≤ x.t ∧ x.t ≤ (64 : Int) ∧ (0 : Int) ≤ dwW (0 + sz) x.on x.w i b.length ∧ dwW (0 + sz) x.on x.w i b.length < (4611686018427387904 : Int) ∧ Int.negSucc 0 < (9223372036854775808 : Int) ∧ @Bool.rec (fun _ => Prop) (Bool.true = Bool.false ∧ True) (@Bool.rec (fun _ => Prop) (Bool.true = Bool.false ∧ True) (@Bool.rec (fun _ => Prop) (∃ (y : SpD), 51 - y.i < 51 - x.i ∧ DOk sz nR y ∧ n = n ∧ c = c ∧ nR = nR ∧ r1 ∧ 0 = 0 ∧ (0 : Int) = (0 : Int) ∧ 0 = 0 ∧ (↑y.i : Int) = IntKind.i64.wrap ((↑x.i : Int) + (1 : Int)) ∧ Bool.false = Bool.false ∧ 0 = 0 ∧ 0 = 0 ∧ 0 = 0 ∧ sz = sz ∧ y.on = dwO sz x.on x.g i b.length ∧ y.w = dwW sz x.on x.w i b.length ∧ y.g = dwG sz x.on x.g i b.length ∧ y.t = x.t ∧ y.L = dwL sz x.on x.g x.t i x.L b ∧ 0 = 0 ∧ 0 = 0 ∧ 0 = 0 ∧ sz = sz ∧ (!y.on) = rwO sz (!x.on) x.ti i b.length ∧ y.ti = rwT sz (!x.on) x.ti i b.length ∧ y.t = x.t ∧ y.w = rwW sz (!x.on) x.w i b.length ∧ sz = sz ∧ (∀ (y_1 : Nat), y_1 < sz → datas Bool.false [AV.rb Bool.true (secs y.L y_1) (NL.is Bool.false)] = Bool.true ∧ [AV.rb Bool.true (rwF sz (!x.on) x.ti x.t i (fun (j : Nat) => secs x.L j) b y_1) (NL.is Bool.false)] = [AV.rb Bool.true (secs y.L y_1) (NL.is Bool.false)]) ∧ True) (Bool.true = Bool.false ∧ True) !decide ((↑sz : Int) = n)) !!decide (dwW sz x.on x.w i b.length = rwW sz (!x.on) x.w i b.length)) !decide (dwO sz x.on x.g i b.length = rwO sz (!x.on) x.ti i b.length)) (Bool.true = Bool.false ∧ True) !decide (dwO (0 + sz) x.on x.g i b.length = dwO sz x.on x.g i b.length)) !!decide (dwE sz x.on x.g i b.length = rwE sz (!x.on) x.ti i b.length)) !!decide (dwE (0 + sz) x.on x.g i b.length = dwE sz x.on x.g i b.length) : Prop) := by
  obtain ⟨k1, k2, k3, k4, k5⟩ := dk_write hx h1 h2 i b
  have aL := hx.L
  have hl := k1.L
  have hl : (dwL sz x.on x.g x.t i x.L b).length = sz * 64 := hl
  have hw0 : 0 ≤ dwW sz x.on x.w i b.length := k1.w0
  have hw1 : dwW sz x.on x.w i b.length ≤ ((x.i + 1 : Nat) : Int) := k1.w1
  have hi1 := wrap_nat (x := (↑x.i : Int) + 1) (x.i + 1) (by omega) (by omega)
  have ht : List.take (sz * 64) x.L = x.L := List.take_of_length_le (by omega)
  rw [Nat.zero_add, ht, hi1]
  rw [nn1 (show dwE sz x.on x.g i b.length = dwE sz x.on x.g i b.length from rfl), nn1 k2, nd1 (show dwO sz x.on x.g i b.length = dwO sz x.on x.g i b.length from rfl)]
  refine ⟨by omega, by omega, by omega, rfl, by omega, hx.t0, hx.t1, hw0, by omega, by omega, ?_⟩
  have hne : ¬ (dwO sz x.on x.g i b.length = rwO sz (!x.on) x.ti i b.length) := by
    rw [← k3]; cases dwO sz x.on x.g i b.length <;> decide
  rw [nd0 hne, nn1 k4, nd1 hz]
  refine ⟨⟨x.i + 1, dwL sz x.on x.g x.t i x.L b, dwO sz x.on x.g i b.length, dwW sz x.on x.w i b.length, dwG sz x.on x.g i b.length, x.t, rwT sz (!x.on) x.ti i b.length⟩, by show 51 - (x.i + 1) < 51 - x.i; omega, k1, ?_⟩
  and_intros
  all_goals first | rfl | trivial | exact hr1 | exact k3 | exact k4 | skip
  intro y hy
  exact ⟨rfl, by rw [show rwF sz (!x.on) x.ti x.t i (fun j => secs x.L j) b y = secs (dwL sz x.on x.g x.t i x.L b) y from k5 y hy]⟩
end Go.Sym

set_option linter.unusedSimpArgs false
namespace Go.Sym
open Go.Proofs Go.Spec
set_option linter.unusedVariables false
set_option maxRecDepth 10000 in
theorem bd6 (n : Int) (nR : Nat) (W I N : Nat → Int) (B : Nat → By) (C : Nat → Bool) (c : Bool) (hI : ∀ j, -9223372036854775808 ≤ I j ∧ I j < 9223372036854775808) (hB : ∀ j, (B j).length ≤ 9223372036854775807) :
    Must (bodyP Try.prog A5 gl0 [] (lsAct n (.ros true 4 nR (actR W I N B C) (.is c)) nR) 3000 Try.f6 0 [.int .i64 n, .ros true 4 nR (actR W I N B C) (.is c)] [] (retQ Try.prog Try.f6 0 ⟨[], .bool true, [], []⟩)) := by
  constructor
  rw [vd6]
  generalize hsz : n.toNat = sz
  intro x1 x2
  have hx1 : 1 ≤ n → n ≤ 512 → x1 := by
    intro h1 h2
    have hz : (sz : Int) = n := by omega
    unfold x1
    intro r1 l2 s3 x w1 o2 e3 k4 hx
    have hr1 : r1 := fun y hy => ⟨rfl, rfl, rfl, rfl, rfl, rfl, trivial⟩
    have hl2 : l2 := by
      intro z hzz
      have hzz : z.i ≤ sz ∧ z.L.length = sz * 64 := hzz
      refine brec (fun d => ?_) (fun d => ⟨rfl, trivial⟩)
      have d := dlt.1 d
      have hR : dwR sz true (↑z.i : Int) 64 = 0 := by unfold dwR; rw [if_neg (by decide), if_neg (by omega), if_neg (by omega)]
      rw [nn1 hR]
      have hB2 : drB sz true (↑z.i : Int) z.L = secs z.L (↑z.i : Int).toNat := by unfold drB; rw [hR, if_neg (by omega)]; rfl
      refine ⟨hzz.2, rfl, by omega, by omega, by omega, ?_⟩
      rw [nd1 hB2, wrap_nat (z.i + 1) (by omega) (by omega)]
      refine ⟨{ z with i := z.i + 1 }, by show sz - (z.i + 1) < sz - z.i; omega, ⟨by show z.i + 1 ≤ sz; omega, hzz.2⟩, ?_⟩
      and_intros
      all_goals first | rfl | trivial | skip
      intro y hy; exact ⟨rfl, rfl⟩
    have hs3 : s3 = sz * 64 := by show (0 + sz) * 64 = sz * 64; rw [Nat.zero_add]
    have he3 : e3 := by
      refine ⟨⟨{ x with i := 0 }, ⟨Nat.zero_le _, hx.L⟩, ?_⟩, hl2⟩
      and_intros
      all_goals first | rfl | trivial | skip
      intro y hy; exact ⟨rfl, rfl⟩
    have hk4 : IntKind.i64.wrap (↑(BitVec.ofInt 64 (W (↑x.i : Int).toNat) % BitVec.ofNat 64 6).toNat : Int) = k4 := rfl
    have hk : 0 ≤ k4 ∧ k4 < 6 := by
      have hm : (BitVec.ofInt 64 (W (↑x.i : Int).toNat) % BitVec.ofNat 64 6).toNat < 6 := by rw [BitVec.toNat_umod]; exact Nat.mod_lt _ (by decide)
      have : k4 = (↑(BitVec.ofInt 64 (W (↑x.i : Int).toNat) % BitVec.ofNat 64 6).toNat : Int) := wrap_i64 (by omega) (by omega)
      omega
    have aL := hx.L
    have a1 := hx.i1
    have a2 := hx.i2
    have at0 := hx.t0
    have at1 := hx.t1
    have aw0 := hx.w0
    have aw1 := hx.w1
    have ag0 := hx.g0
    have ag1 := hx.g1
    have ati := hx.ti1
    have hno : ¬ (x.on = !x.on) := by cases x.on <;> decide
    have hsec : ∀ j, j < sz → (secs x.L j).length = 64 := fun j hj => secs_len aL hj
    have ho2 : x.i < 50 → x.i < nR → k4 = 4 ∨ k4 = 5 → o2 := by
      intro g1 g2 hk45
      unfold o2
      rw [hk4, wrap_nat (x := (↑x.i : Int) + 1) (x.i + 1) (by omega) (by omega), nd0 hno, nn1 (show x.w = x.w from rfl), nd1 hz]
      have hI1 := (hI (↑x.i : Int).toNat).1
      have hI2 := (hI (↑x.i : Int).toNat).2
      by_cases h4 : k4 = 4
      · rw [decide_eq_true h4]
        refine ⟨fun y hy => rfl, fun y hy => rfl, ⟨x.i + 1, x.L, x.on, x.w, I (↑x.i : Int).toNat, min (max (N (↑x.i : Int).toNat) 0) 64, max (I (↑x.i : Int).toNat) (-1)⟩, by show 51 - (x.i + 1) < 51 - x.i; omega, ?_, ?_⟩
        · exact ⟨by show x.i + 1 ≤ 50; omega, by show x.i + 1 ≤ nR; omega, aL, by show 0 ≤ min (max (N (↑x.i : Int).toNat) 0) 64; omega, by show min (max (N (↑x.i : Int).toNat) 0) 64 ≤ 64; omega, aw0, by show x.w ≤ ((x.i + 1 : Nat) : Int); omega, hI1, hI2, by show max (I (↑x.i : Int).toNat) (-1) < _; omega, fun _ => rfl⟩
        · and_intros
          all_goals first | rfl | trivial | exact hr1 | skip
          intro y hy; exact ⟨rfl, rfl⟩
      · rw [decide_eq_false h4, decide_eq_true (show k4 = 5 by omega)]
        refine ⟨fun y hy => rfl, fun y hy => rfl, ⟨x.i + 1, x.L, true, x.w, -1, x.t, -1⟩, by show 51 - (x.i + 1) < 51 - x.i; omega, ?_, ?_⟩
        · exact ⟨by show x.i + 1 ≤ 50; omega, by show x.i + 1 ≤ nR; omega, aL, at0, at1, aw0, by show x.w ≤ ((x.i + 1 : Nat) : Int); omega, by show -9223372036854775808 ≤ (-1 : Int); omega, by show (-1 : Int) < _; omega, by show (-1 : Int) < _; omega, fun _ => rfl⟩
        · and_intros
          all_goals first | rfl | trivial | exact hr1 | skip
          intro y hy; exact ⟨rfl, rfl⟩
    have hw1 : x.i < 50 → x.i < nR → w1 := by
      intro g1 g2
      unfold w1
      intro b1 b2 p3 p4
      have hBl := hB (↑x.i : Int).toNat
      have hp4 : p4 = ((64 - (B (↑x.i : Int).toNat).length : Nat) : Int) := by
        show max (IntKind.i64.wrap ((64 : Int) - (↑(B (↑x.i : Int).toNat).length : Int))) 0 = _
        rw [wrap_i64 (by omega) (by omega)]
        omega
      have hp3 : p3.length = min (B (↑x.i : Int).toNat).length 64 := by
        show (List.take (Min.min (↑(List.length (B (↑x.i : Int).toNat)) : Int) 64).toNat (B (↑x.i : Int).toNat)).length = _
        rw [List.length_take]; omega
      have hb1 : b1.length = p3.length + p4.toNat := by
        show ([] ++ p3 ++ List.replicate p4.toNat (0 : BitVec 8)).length = _
        rw [List.length_append, List.length_replicate]; rfl
      have hrp : (List.replicate p4.toNat (0 : BitVec 8)).length = p4.toNat := List.length_replicate
      have hap : ([] ++ p3).length = p3.length := rfl
      have ht : List.take (sz * 64) x.L = x.L := List.take_of_length_le (by omega)
      have hlt : (List.take (sz * 64) x.L).length = s3 := by rw [ht, hs3]; exact aL
      clear_value b1 b2 p3 p4
      refine ⟨by omega, by omega, rfl, by unfold roomFor; omega, by omega, by omega, by rw [hap]; omega, by rw [hrp]; unfold roomFor; omega, ?_⟩
      rw [hrp]
      refine brec (fun d => ?_) (fun d => ?_)
      · exact ⟨by omega, by omega, hlt, at0, at1, aw0, by omega, ag1, aL, at0, at1, aw0, by omega, ag1, fun y hy => rfl, rfl, rfl, hsec, at0, at1, aw0, by omega, ati, dk_tail hr1 hs3 hz hx g1 g2 _ b2⟩
      · exact ⟨by omega, hlt, at0, at1, aw0, by omega, ag1, by omega, aL, at0, at1, aw0, by omega, ag1, by omega, fun y hy => rfl, rfl, rfl, hsec, at0, at1, aw0, by omega, ati, dk_tail hr1 hs3 hz hx g1 g2 _ b1⟩
    clear_value w1 o2 e3 l2 s3
    refine brec (fun d1 => ?_) (fun _ => he3)
    have d1 := dlt.1 d1
    refine brec (fun d2 => ?_) (fun _ => he3)
    have d2 := dlt.1 d2
    have hw1 := hw1 (by omega) (by omega)
    have ho2 := ho2 (by omega) (by omega)
    refine ⟨by omega, by omega, by omega, rfl, by unfold roomFor; omega, ?_⟩
    by_cases c0 : k4 = 0
    · rw [decide_eq_true c0]
      refine ⟨aL, fun y hy => rfl, rfl, rfl, ?_⟩
      rw [nn1 (show dwR sz x.on (I (↑x.i : Int).toNat) 64 = dwR sz (!!x.on) (I (↑x.i : Int).toNat) 64 by rw [Bool.not_not])]
      refine ⟨rfl, ?_⟩
      rw [nd1 (show drB sz x.on (I (↑x.i : Int).toNat) x.L = rrB sz (!x.on) (I (↑x.i : Int).toNat) (fun j => secs x.L j) from dk_read), nd0 hno, nn1 (show x.w = x.w from rfl), nd1 hz, wrap_nat (x := (↑x.i : Int) + 1) (x.i + 1) (by omega) (by omega)]
      refine ⟨⟨x.i + 1, x.L, x.on, x.w, x.g, x.t, x.ti⟩, by show 51 - (x.i + 1) < 51 - x.i; omega, ⟨by show x.i + 1 ≤ 50; omega, by show x.i + 1 ≤ nR; omega, aL, at0, at1, aw0, by show x.w ≤ ((x.i + 1 : Nat) : Int); omega, ag0, ag1, ati, hx.same⟩, ?_⟩
      and_intros
      all_goals first | rfl | trivial | exact hr1 | skip
      intro y hy; exact ⟨rfl, rfl⟩
    rw [decide_eq_false c0]
    by_cases c1 : k4 = 1
    · rw [decide_eq_true c1]
      exact hw1
    rw [decide_eq_false c1]
    by_cases c2 : k4 = 2
    · rw [decide_eq_true c2]
      exact hw1
    rw [decide_eq_false c2]
    by_cases c3 : k4 = 3
    · rw [decide_eq_true c3]
      exact hw1
    rw [decide_eq_false c3]
    exact ho2 (by omega)
  clear_value x1
  have hx2 : n < 1 ∨ 512 < n → x2 := by
    intro h
    unfold x2
    by_cases h1 : n < 1
    · rw [nd1 h1]
      exact ⟨rfl, trivial⟩
    · rw [nd0 h1, decide_eq_true (show 512 < n by omega)]
      exact ⟨rfl, trivial⟩
  clear_value x2
  by_cases h1 : n < 1
  · rw [nd1 h1]
    exact hx2 (.inl h1)
  rw [nd0 h1]
  by_cases h2 : 512 < n
  · rw [decide_eq_true h2]
    exact hx2 (.inr h2)
  rw [decide_eq_false h2]
  have hz : (sz : Int) = n := by omega
  refine ⟨by omega, by omega, by omega, by omega, by omega, by omega, by omega, ⟨⟨0, List.replicate (sz * 64) 0, true, 0, -1, 0, -1⟩, ?_, ?_⟩, hx1 (by omega) (by omega)⟩
  · exact ⟨Nat.zero_le _, Nat.zero_le _, List.length_replicate, by show (0 : Int) ≤ 0; omega, by show (0 : Int) ≤ 64; omega, by show (0 : Int) ≤ 0; omega, by show (0 : Int) ≤ ((0 : Nat) : Int); omega, by show -9223372036854775808 ≤ (-1 : Int); omega, by show (-1 : Int) < _; omega, by show (-1 : Int) < _; omega, fun _ => rfl⟩
  · and_intros
    all_goals first | rfl | trivial | skip
    · intro y hy; exact ⟨rfl, rfl, rfl, rfl, rfl, rfl, trivial⟩
    · intro y hy
      refine ⟨rfl, ?_⟩
      have : secs (List.replicate (sz * 64) (0 : BitVec 8)) y = List.replicate 64 0 := by
        unfold secs
        rw [List.drop_replicate, List.take_replicate, Nat.min_eq_left (by omega)]
      rw [this]
end Go.Sym

/- DiskActs: in every row of calls a disk answers what the document's disk answers; a copy goes the same way, and changes nothing; of none nothing is told. No conditions. -/
namespace Go.Sym
open Go.Proofs Go.Spec
theorem w6 (W : World) (n0 : Int) (v1 : Value) (X I N : Nat → Int) (B : Nat → List (BitVec 8)) (C : Nat → Bool) (n1 : Nat) (c1 : Bool) (h1 : VRel (κW W) (.ros true 4 n1 (fun j => [.int .i64 (X j), .int .i64 (I j), .int .i64 (N j), .rb true (B j) (.is (C j))]) (.is c1)) v1) (_k1 : n1 ≤ maxLen) (_hIB : (∀ y, -9223372036854775808 ≤ I y ∧ I y < 9223372036854775808) ∧ ∀ y, (B y).length ≤ 9223372036854775807) :
    Calls Try.prog 6 #[.int .i64 n0, v1] W fun e w' => e = .returned (.bool true) ∧ RowKit.Below W.heap.size W w' := by
  have hv : VRels (κW W) [.int .i64 n0, .ros true 4 n1 (fun j => [.int .i64 (X j), .int .i64 (I j), .int .i64 (N j), .rb true (B j) (.is (C j))]) (.is c1)] [.int .i64 n0, v1] := by
    simp only [VRels]
    exact ⟨_, _, rfl, rfl, _, _, rfl, h1, rfl⟩
  refine law_walk (gl := gl0) (Γ := A5) (fn := Try.f6) (av := [.int .i64 n0, .ros true 4 n1 (fun j => [.int .i64 (X j), .int .i64 (I j), .int .i64 (N j), .rb true (B j) (.is (C j))]) (.is c1)]) (ls := (lsAct n0 (.ros true 4 n1 (actR X I N B C) (.is c1)) n1)) [] 3000 (by kernel_rfl) (by kernel_rfl) okA5 (by kernel_rfl) (GW.nil W) (by kernel_rfl) hv ?_
  exact bd6 n0 n1 X I N B C c1 _hIB.1 _hIB.2
end Go.Sym
namespace Go.Proofs.Ytmpgpbbaloiniaa.diskActs
open Go.ChangeShapes Go.WideShapes Go.ChangeAt Go.RowKit
set_option linter.unusedVariables false

theorem own : ownKnob Try.prog.godebug = none := by kernel_rfl
theorem laid : laidOutB Try.prog = true := by kernel_rfl

set_option maxRecDepth 100000 in
theorem lifted (os : Os) (started : os.Started) (H : Type) (enc : TypeId × Value → H) :
    ReturnsInHanded {} Try.checked os 6 .any (Rows.diskActsSpec.pre6 enc Try.prog Try.f6 Rows.diskActsRow.domain false) (Rows.diskActsSpec.post enc Try.prog Try.f6 false true false false) := by
  refine returnsInHanded_of_change (C := Try.checked) own started (by kernel_rfl) Try.func6
    (ChangeSpec.witness6 (enc := enc) (C := Try.checked) false ⟨#[], #[.int .i64 0, .slice none 0 0], []⟩ 8 (by kernel_rfl) (by kernel_rfl) (by kernel_rfl) (by kernel_rfl)) ?_
  intro W base args ds gs before hval0 hW hcnd _
  have hval : ∀ (j : Nat) t v, Try.f6.params[j]? = some t → args[j]? = some v → Value.okWide Try.prog W .any base t v := hval0
  have hW' := hW
  obtain ⟨p, q, hA0, hV, rfl, hfz, hnd⟩ := hW
  have hA : DataW.TrodAll enc Try.prog W 0 (fun _ => true) true Try.f6.params.toList args.toList ds p := hA0
  rw [Try.params6] at hA hval
  obtain ⟨v0, vs0, d0, ds0, p0, q0, hargs, rfl, rfl, h0, r0⟩ := trodAll_cons hA
  obtain ⟨v1, vs1, d1, ds1, p1, q1, rfl, rfl, rfl, h1, r1⟩ := trodAll_cons r0
  obtain ⟨rfl, rfl, rfl⟩ := trodAll_nil r1
  obtain rfl : args = #[v0, v1] := by cases args; simp_all
  obtain ⟨rfl, rfl⟩ := trodVars_none hV
  obtain ⟨a0, rfl, rfl, rfl, w0⟩ := open_int Try.underlying3 (hval 0 3 v0 rfl rfl) h0
  clear hA0 hval0
  have hlt1 : ∀ x ∈ p1, x.block < W.heap.size := fun x hx => hW'.lt x (by simp [hx])
  obtain ⟨fuel1, hf1⟩ := h1
  obtain ⟨u1, n1, g1, c1, hc1, hcl1, hll1, hg1, hu1⟩ := Go.Sym.rd_rowsF (sz := 4) (l := [.i .i64, .i .i64, .i .i64, .y]) (av0 := [.int .i64 0, .int .i64 0, .int .i64 0, .rb true [] (.is true)]) Try.underlying31 (by kernel_rfl) (by decide) (by kernel_rfl) ⟨⟨0, rfl, by kernel_rfl⟩, ⟨0, rfl, by kernel_rfl⟩, ⟨0, rfl, by kernel_rfl⟩, ⟨[], true, rfl, fun _ => rfl, by simp⟩, trivial⟩ hf1
  have hv1 : v1 = u1 := Go.Sym.cells_slice Try.underlying31 (hval 1 31 v1 rfl rfl) hc1
  subst hv1
  obtain ⟨X, I, N, B, C, rfl, hIB⟩ := Go.Sym.sh_act hg1
  refine (Go.Sym.w6 W a0 v1 X I N B C n1 c1 hu1 hll1 hIB).mono fun e W' ⟨he, bel⟩ => ?_
  subst he
  exact ⟨_, rfl, _, _, _, [], _, [], hW', trodAll_mk1 (shut_bool Try.underlying4 _), (trodAll_cons_mk (shut_int Try.underlying3 w0) (trodAll_cons_mk (Below.trod laid (by kernel_rfl) (of_decide_eq_true (by kernel_rfl)) ⟨fuel1, hf1⟩ bel hlt1) trodAll_mk0)), rfl, bel.frame _, fun h => by cases h⟩

theorem over : Rows.diskActsRow.holds Try.pinned (OpenSpec.ofChange Rows.diskActsSpec) :=
  OpenClaim.holds_of_wide 6 Try.f6 rfl rfl rfl rfl rfl rfl rfl ⟨rfl, rfl, rfl, rfl, rfl⟩ rfl rfl rfl rfl rfl (by kernel_rfl) Try.func6 (by kernel_rfl)
    (of_decide_eq_true (by kernel_rfl)) (by unfold Func.isWrapper; first | (rw [if_pos (by decide +kernel)]; kernel_rfl) | (rw [if_neg (by decide +kernel)]; exact ⟨rfl, rfl⟩))
    (fun os started H enc _ => lifted os started H enc)

theorem proved : Rows.DiskActsSaid :=
  over
#print axioms proved
end Go.Proofs.Ytmpgpbbaloiniaa.diskActs
