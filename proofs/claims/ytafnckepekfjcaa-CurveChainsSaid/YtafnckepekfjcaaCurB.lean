/- The same: out of bytes, into bytes, a step of the ladder, what is one over a number. -/
import Derived.Test.YtafnckepekfjcaaCurA
namespace Go.Spec
def allRefl {α : Type} (f : Nat → α) : Nat → Nat → Prop
  | _, 0 => True
  | i, n + 1 => f i = f i ∧ allRefl f (i + 1) n
theorem allRefl_true {α : Type} (f : Nat → α) : ∀ n i, allRefl f i n
  | 0, _ => trivial
  | n + 1, i => ⟨rfl, allRefl_true f n (i + 1)⟩
/-- The number from a place on. -/
def atL (l : N5) (k : Nat) : N5 := re5 fun i => l (k + i)
def swaL (l : N5) (b : B64) : N5 := fun i =>
  if i < 5 then l i else if i < 10 then choL (atL l 5) (atL l 15) b (i - 5) else if i < 15 then choL (atL l 10) (atL l 20) b (i - 10) else if i < 20 then choL (atL l 15) (atL l 5) b (i - 15) else choL (atL l 20) (atL l 10) b (i - 20)
def kN : N5 := fun i => if i = 0 then 121665#64 else 0
def mkS (x1 x2 z2 x3 z3 : N5) : N5 := fun i => if i < 5 then x1 i else if i < 10 then x2 (i - 5) else if i < 15 then z2 (i - 10) else if i < 20 then x3 (i - 15) else z3 (i - 20)
def stS (x1 x2 z2 x3 z3 : N5) : N5 := mkS x1
  (timesL (re5 (timesL (re5 (plsL x2 z2)) (re5 (plsL x2 z2)))) (re5 (timesL (re5 (mnsL x2 z2)) (re5 (mnsL x2 z2)))))
  (timesL (re5 (mnsL (re5 (timesL (re5 (plsL x2 z2)) (re5 (plsL x2 z2)))) (re5 (timesL (re5 (mnsL x2 z2)) (re5 (mnsL x2 z2)))))) (re5 (plsL (re5 (timesL (re5 (plsL x2 z2)) (re5 (plsL x2 z2)))) (re5 (timesL (re5 kN) (re5 (mnsL (re5 (timesL (re5 (plsL x2 z2)) (re5 (plsL x2 z2)))) (re5 (timesL (re5 (mnsL x2 z2)) (re5 (mnsL x2 z2)))))))))))
  (timesL (re5 (plsL (re5 (timesL (re5 (mnsL x3 z3)) (re5 (plsL x2 z2)))) (re5 (timesL (re5 (plsL x3 z3)) (re5 (mnsL x2 z2)))))) (re5 (plsL (re5 (timesL (re5 (mnsL x3 z3)) (re5 (plsL x2 z2)))) (re5 (timesL (re5 (plsL x3 z3)) (re5 (mnsL x2 z2)))))))
  (timesL x1 (re5 (timesL (re5 (mnsL (re5 (timesL (re5 (mnsL x3 z3)) (re5 (plsL x2 z2)))) (re5 (timesL (re5 (plsL x3 z3)) (re5 (mnsL x2 z2)))))) (re5 (mnsL (re5 (timesL (re5 (mnsL x3 z3)) (re5 (plsL x2 z2)))) (re5 (timesL (re5 (plsL x3 z3)) (re5 (mnsL x2 z2)))))))))
def steL (l : N5) : N5 := stS (atL l 0) (atL l 5) (atL l 10) (atL l 15) (atL l 20)
theorem mkS_0 (x1 x2 z2 x3 z3 : N5) : mkS x1 x2 z2 x3 z3 0 = x1 0 := rfl
theorem mkS_1 (x1 x2 z2 x3 z3 : N5) : mkS x1 x2 z2 x3 z3 1 = x1 1 := rfl
theorem mkS_2 (x1 x2 z2 x3 z3 : N5) : mkS x1 x2 z2 x3 z3 2 = x1 2 := rfl
theorem mkS_3 (x1 x2 z2 x3 z3 : N5) : mkS x1 x2 z2 x3 z3 3 = x1 3 := rfl
theorem mkS_4 (x1 x2 z2 x3 z3 : N5) : mkS x1 x2 z2 x3 z3 4 = x1 4 := rfl
theorem mkS_5 (x1 x2 z2 x3 z3 : N5) : mkS x1 x2 z2 x3 z3 5 = x2 0 := rfl
theorem mkS_6 (x1 x2 z2 x3 z3 : N5) : mkS x1 x2 z2 x3 z3 6 = x2 1 := rfl
theorem mkS_7 (x1 x2 z2 x3 z3 : N5) : mkS x1 x2 z2 x3 z3 7 = x2 2 := rfl
theorem mkS_8 (x1 x2 z2 x3 z3 : N5) : mkS x1 x2 z2 x3 z3 8 = x2 3 := rfl
theorem mkS_9 (x1 x2 z2 x3 z3 : N5) : mkS x1 x2 z2 x3 z3 9 = x2 4 := rfl
theorem mkS_10 (x1 x2 z2 x3 z3 : N5) : mkS x1 x2 z2 x3 z3 10 = z2 0 := rfl
theorem mkS_11 (x1 x2 z2 x3 z3 : N5) : mkS x1 x2 z2 x3 z3 11 = z2 1 := rfl
theorem mkS_12 (x1 x2 z2 x3 z3 : N5) : mkS x1 x2 z2 x3 z3 12 = z2 2 := rfl
theorem mkS_13 (x1 x2 z2 x3 z3 : N5) : mkS x1 x2 z2 x3 z3 13 = z2 3 := rfl
theorem mkS_14 (x1 x2 z2 x3 z3 : N5) : mkS x1 x2 z2 x3 z3 14 = z2 4 := rfl
theorem mkS_15 (x1 x2 z2 x3 z3 : N5) : mkS x1 x2 z2 x3 z3 15 = x3 0 := rfl
theorem mkS_16 (x1 x2 z2 x3 z3 : N5) : mkS x1 x2 z2 x3 z3 16 = x3 1 := rfl
theorem mkS_17 (x1 x2 z2 x3 z3 : N5) : mkS x1 x2 z2 x3 z3 17 = x3 2 := rfl
theorem mkS_18 (x1 x2 z2 x3 z3 : N5) : mkS x1 x2 z2 x3 z3 18 = x3 3 := rfl
theorem mkS_19 (x1 x2 z2 x3 z3 : N5) : mkS x1 x2 z2 x3 z3 19 = x3 4 := rfl
theorem mkS_20 (x1 x2 z2 x3 z3 : N5) : mkS x1 x2 z2 x3 z3 20 = z3 0 := rfl
theorem mkS_21 (x1 x2 z2 x3 z3 : N5) : mkS x1 x2 z2 x3 z3 21 = z3 1 := rfl
theorem mkS_22 (x1 x2 z2 x3 z3 : N5) : mkS x1 x2 z2 x3 z3 22 = z3 2 := rfl
theorem mkS_23 (x1 x2 z2 x3 z3 : N5) : mkS x1 x2 z2 x3 z3 23 = z3 3 := rfl
theorem mkS_24 (x1 x2 z2 x3 z3 : N5) : mkS x1 x2 z2 x3 z3 24 = z3 4 := rfl
end Go.Spec
namespace Go.Sym
open Go.Proofs Go.Spec
set_option linter.unusedVariables false
def mk25 (a0 a1 a2 a3 a4 a5 a6 a7 a8 a9 a10 a11 a12 a13 a14 a15 a16 a17 a18 a19 a20 a21 a22 a23 a24 : B64) : N5 := fun i => [a0, a1, a2, a3, a4, a5, a6, a7, a8, a9, a10, a11, a12, a13, a14, a15, a16, a17, a18, a19, a20, a21, a22, a23, a24].getD i 0
def ag25 (f : N5) : AV := .agg [.u64 (f 0), .u64 (f 1), .u64 (f 2), .u64 (f 3), .u64 (f 4), .u64 (f 5), .u64 (f 6), .u64 (f 7), .u64 (f 8), .u64 (f 9), .u64 (f 10), .u64 (f 11), .u64 (f 12), .u64 (f 13), .u64 (f 14), .u64 (f 15), .u64 (f 16), .u64 (f 17), .u64 (f 18), .u64 (f 19), .u64 (f 20), .u64 (f 21), .u64 (f 22), .u64 (f 23), .u64 (f 24)]
def asD25 (cs : List AV) (k : N5 → TL) : TL := match cs with | [.u64 a0, .u64 a1, .u64 a2, .u64 a3, .u64 a4, .u64 a5, .u64 a6, .u64 a7, .u64 a8, .u64 a9, .u64 a10, .u64 a11, .u64 a12, .u64 a13, .u64 a14, .u64 a15, .u64 a16, .u64 a17, .u64 a18, .u64 a19, .u64 a20, .u64 a21, .u64 a22, .u64 a23, .u64 a24] => k (mk25 a0 a1 a2 a3 a4 a5 a6 a7 a8 a9 a10 a11 a12 a13 a14 a15 a16 a17 a18 a19 a20 a21 a22 a23 a24) | _ => .no
set_option maxHeartbeats 0 in
theorem asD25_sel {cs : List AV} {k : N5 → TL} {r : RL} (h : (asD25 cs k).sel = some r) : ∃ f, AV.agg cs = agD 25 f ∧ (k f).sel = some r := by
  unfold asD25 at h
  split at h
  · exact ⟨_, rfl, h⟩
  · simp [TL.sel] at h
set_option maxRecDepth 100000 in
theorem vswa (x : N5) (b : B64) : bodyP Try.prog V3 gl0 [] [] 3000 Try.f11 0 [agD 25 x, .u64 b] [] (retQ Try.prog Try.f11 0 ⟨[], agD 25 (swaL x b), [], []⟩) = allRefl (swaL x b) 0 25 := by kernel_rfl
end Go.Sym

namespace Go.Sym
open Go.Proofs Go.Spec
set_option linter.unusedVariables false
set_option maxRecDepth 100000 in
theorem vste (x z : N5) : bodyP Try.prog V3 gl0 [] [] 3000 Try.f12 0 [agD 25 x] [] (retQ Try.prog Try.f12 0 ⟨[], agD 25 z, [], []⟩) = (let y1 : N5 := mk5 (x 5) (x 6) (x 7) (x 8) (x 9); let y2 : N5 := mk5 (x 10) (x 11) (x 12) (x 13) (x 14); let y3 : N5 := mk5 (plsL y1 y2 0) (plsL y1 y2 1) (plsL y1 y2 2) (plsL y1 y2 3) (plsL y1 y2 4); let y4 : N5 := mk5 (timesL y3 y3 0) (timesL y3 y3 1) (timesL y3 y3 2) (timesL y3 y3 3) (timesL y3 y3 4); let y5 : N5 := mk5 (mnsL y1 y2 0) (mnsL y1 y2 1) (mnsL y1 y2 2) (mnsL y1 y2 3) (mnsL y1 y2 4); let y6 : N5 := mk5 (timesL y5 y5 0) (timesL y5 y5 1) (timesL y5 y5 2) (timesL y5 y5 3) (timesL y5 y5 4); let y7 : N5 := mk5 (x 15) (x 16) (x 17) (x 18) (x 19); let y8 : N5 := mk5 (x 20) (x 21) (x 22) (x 23) (x 24); let y9 : N5 := mk5 (mnsL y7 y8 0) (mnsL y7 y8 1) (mnsL y7 y8 2) (mnsL y7 y8 3) (mnsL y7 y8 4); let y10 : N5 := mk5 (timesL y9 y3 0) (timesL y9 y3 1) (timesL y9 y3 2) (timesL y9 y3 3) (timesL y9 y3 4); let y11 : N5 := mk5 (plsL y7 y8 0) (plsL y7 y8 1) (plsL y7 y8 2) (plsL y7 y8 3) (plsL y7 y8 4); let y12 : N5 := mk5 (timesL y11 y5 0) (timesL y11 y5 1) (timesL y11 y5 2) (timesL y11 y5 3) (timesL y11 y5 4); let y13 : N5 := mk5 (BitVec.ofNat 64 121665) (BitVec.ofNat 64 0) (BitVec.ofNat 64 0) (BitVec.ofNat 64 0) (BitVec.ofNat 64 0); let w1 : N5 := mk5 (mnsL y4 y6 0) (mnsL y4 y6 1) (mnsL y4 y6 2) (mnsL y4 y6 3) (mnsL y4 y6 4); let w2 : N5 := mk5 (mnsL y10 y12 0) (mnsL y10 y12 1) (mnsL y10 y12 2) (mnsL y10 y12 3) (mnsL y10 y12 4); let w3 : N5 := mk5 (plsL y10 y12 0) (plsL y10 y12 1) (plsL y10 y12 2) (plsL y10 y12 3) (plsL y10 y12 4); let w6 : N5 := mk5 (timesL y13 w1 0) (timesL y13 w1 1) (timesL y13 w1 2) (timesL y13 w1 3) (timesL y13 w1 4); let w8 : N5 := mk5 (timesL w2 w2 0) (timesL w2 w2 1) (timesL w2 w2 2) (timesL w2 w2 3) (timesL w2 w2 4); let w9 : N5 := mk5 (plsL y4 w6 0) (plsL y4 w6 1) (plsL y4 w6 2) (plsL y4 w6 3) (plsL y4 w6 4); let w11 : N5 := mk5 (x 0) (x 1) (x 2) (x 3) (x 4); z 0 = x 0 ∧ z 1 = x 1 ∧ z 2 = x 2 ∧ z 3 = x 3 ∧ z 4 = x 4 ∧ z 5 = timesL y4 y6 0 ∧ z 6 = timesL y4 y6 1 ∧ z 7 = timesL y4 y6 2 ∧ z 8 = timesL y4 y6 3 ∧ z 9 = timesL y4 y6 4 ∧ z 10 = timesL w1 w9 0 ∧ z 11 = timesL w1 w9 1 ∧ z 12 = timesL w1 w9 2 ∧ z 13 = timesL w1 w9 3 ∧ z 14 = timesL w1 w9 4 ∧ z 15 = timesL w3 w3 0 ∧ z 16 = timesL w3 w3 1 ∧ z 17 = timesL w3 w3 2 ∧ z 18 = timesL w3 w3 3 ∧ z 19 = timesL w3 w3 4 ∧ z 20 = timesL w11 w8 0 ∧ z 21 = timesL w11 w8 1 ∧ z 22 = timesL w11 w8 2 ∧ z 23 = timesL w11 w8 3 ∧ z 24 = timesL w11 w8 4 ∧ True : Prop) := by kernel_rfl
end Go.Sym

namespace Go.Sym
open Go.Proofs Go.Spec
set_option linter.unusedVariables false
set_option maxRecDepth 100000 in
theorem bste (x : N5) : Must (bodyP Try.prog V3 gl0 [] [] 3000 Try.f12 0 [agD 25 x] [] (retQ Try.prog Try.f12 0 ⟨[], agD 25 (steL x), [], []⟩)) := by
  constructor
  rw [vste]
  intro y1 y2 y3 y4 y5 y6 y7 y8 y9 y10 y11 y12 y13 w1 w2 w3 w6 w8 w9 w11
  have hy1 : y1 = atL x 5 := rfl
  have hy2 : y2 = atL x 10 := rfl
  have hy3 : y3 = re5 (plsL y1 y2) := rfl
  have hy4 : y4 = re5 (timesL y3 y3) := rfl
  have hy5 : y5 = re5 (mnsL y1 y2) := rfl
  have hy6 : y6 = re5 (timesL y5 y5) := rfl
  have hy7 : y7 = atL x 15 := rfl
  have hy8 : y8 = atL x 20 := rfl
  have hy9 : y9 = re5 (mnsL y7 y8) := rfl
  have hy10 : y10 = re5 (timesL y9 y3) := rfl
  have hy11 : y11 = re5 (plsL y7 y8) := rfl
  have hy12 : y12 = re5 (timesL y11 y5) := rfl
  have hy13 : y13 = re5 kN := rfl
  have hw1 : w1 = re5 (mnsL y4 y6) := rfl
  have hw2 : w2 = re5 (mnsL y10 y12) := rfl
  have hw3 : w3 = re5 (plsL y10 y12) := rfl
  have hw6 : w6 = re5 (timesL y13 w1) := rfl
  have hw8 : w8 = re5 (timesL w2 w2) := rfl
  have hw9 : w9 = re5 (plsL y4 w6) := rfl
  have hw11 : w11 = atL x 0 := rfl
  clear_value y1 y2 y3 y4 y5 y6 y7 y8 y9 y10 y11 y12 y13 w1 w2 w3 w6 w8 w9 w11
  subst hy1 hy2 hy3 hy4 hy5 hy6 hy7 hy8 hy9 hy10 hy11 hy12 hy13 hw1 hw2 hw3 hw6 hw8 hw9 hw11
  rw [steL, stS]
  exact ⟨mkS_0 _ _ _ _ _, mkS_1 _ _ _ _ _, mkS_2 _ _ _ _ _, mkS_3 _ _ _ _ _, mkS_4 _ _ _ _ _, mkS_5 _ _ _ _ _, mkS_6 _ _ _ _ _, mkS_7 _ _ _ _ _, mkS_8 _ _ _ _ _, mkS_9 _ _ _ _ _, mkS_10 _ _ _ _ _, mkS_11 _ _ _ _ _, mkS_12 _ _ _ _ _, mkS_13 _ _ _ _ _, mkS_14 _ _ _ _ _, mkS_15 _ _ _ _ _, mkS_16 _ _ _ _ _, mkS_17 _ _ _ _ _, mkS_18 _ _ _ _ _, mkS_19 _ _ _ _ _, mkS_20 _ _ _ _ _, mkS_21 _ _ _ _ _, mkS_22 _ _ _ _ _, mkS_23 _ _ _ _ _, mkS_24 _ _ _ _ _, trivial⟩
def gSwa (xs : List AV) : TL := match xs with | [.agg cs, .u64 b] => asD25 cs fun x => .ok (rt (ag25 (swaL x b))) | _ => .no
def gSte (xs : List AV) : TL := match xs with | [.agg cs] => asD25 cs fun x => .ok (rt (ag25 (steL x))) | _ => .no
theorem cswa : COK Try.prog gl0 11 (mkF (spK 2 gSwa)) := by
  refine ctrE (fn := Try.f11) [] 3000 (by kernel_rfl) (by kernel_rfl) okV3 (by kernel_rfl) (fun args w => by kernel_rfl) fun xs bs r hs ho => ?_
  obtain ⟨rfl, hs0⟩ := spK_sel hs
  clear hs
  rename (TL.sel _ = _) => hs
  unfold gSwa at hs
  split at hs
  · obtain ⟨x, e, hs⟩ := asD25_sel hs
    simp only [TL.sel, Option.some.injEq] at hs
    subst hs
    rw [e]
    refine ⟨[], ⟨?_⟩⟩
    show bodyP Try.prog V3 gl0 [] [] 3000 Try.f11 0 [agD 25 x, .u64 _] [] (retQ Try.prog Try.f11 0 ⟨[], agD 25 (swaL x _), [], []⟩)
    rw [vswa]
    exact allRefl_true _ _ _
  · simp [TL.sel] at hs
theorem cste : COK Try.prog gl0 12 (mkF (spK 1 gSte)) := by
  refine ctrE (fn := Try.f12) [] 3000 (by kernel_rfl) (by kernel_rfl) okV3 (by kernel_rfl) (fun args w => by kernel_rfl) fun xs bs r hs ho => ?_
  obtain ⟨rfl, hs0⟩ := spK_sel hs
  clear hs
  rename (TL.sel _ = _) => hs
  unfold gSte at hs
  split at hs
  · obtain ⟨x, e, hs⟩ := asD25_sel hs
    simp only [TL.sel, Option.some.injEq] at hs
    subst hs
    rw [e]
    exact ⟨[], bste x⟩
  · simp [TL.sel] at hs
noncomputable def V4 : Ctx := (V3.add 11 (mkF (spK 2 gSwa))).add 12 (mkF (spK 1 gSte))
theorem okV4 : COKs Try.prog gl0 V4 := (okV3.add cswa).add cste
end Go.Sym

namespace Go.Spec
open Go.Sym
/-- A bit of bytes, of a number. -/
def bitB (b : F8) (i : Nat) : B64 := ((b (i / 8)) >>> (i % 8)).setWidth 64 &&& 1
/-- The number of the first bits. -/
def numS (b : F8) : Nat → N5
  | 0 => fun _ => 0
  | i + 1 => fun j => if j = i / 51 then numS b i j ||| bitB b i <<< (i % 51) else numS b i j
end Go.Spec
namespace Go.Sym
open Go.Proofs Go.Spec
set_option linter.unusedVariables false
def lsNum (b : F8) : LS := ⟨Nat, fun i => [(1, .ptr 100 0 0 0), (2, .ptr 101 0 0 0), (3, .ptr 102 0 0 0), (6, .int .i64 i)],
  fun i => [(100, ⟨.cells ((List.range 32).map fun i => .u8 (b i)), true, 0⟩), (101, ⟨.cells ((List.range 5).map fun j => .u64 0), true, 0⟩), (102, ⟨.rows 1 5 (fun j => [.u64 (numS b i j)]), true, 0⟩)], 1000, fun i => 255 - i, fun i => i ≤ 255, fun _ => []⟩
noncomputable def V3n : Ctx := V3.withSym [11, 12, 20, 21, 27]
end Go.Sym

namespace Go.Spec
open Go.Sym
/-- A bit of a number, as a byte; the bytes of the first bits. -/
def bitN (n : N5) (i : Nat) : BitVec 8 := (n (i / 51) >>> (i % 51)).setWidth 8 &&& 1
def bytS (n : N5) : Nat → F8
  | 0 => fun _ => 0
  | i + 1 => fun j => if j = i / 8 then bytS n i j ||| bitN n i <<< (i % 8) else bytS n i j
end Go.Spec
namespace Go.Sym
open Go.Proofs Go.Spec
set_option linter.unusedVariables false
def lsByt (n : N5) : LS := ⟨Nat, fun i => [(1, .ptr 100 0 0 0), (2, .ptr 101 0 0 0), (3, .ptr 102 0 0 0), (8, .int .i64 i)],
  fun i => [(100, ⟨.cells ((List.range 5).map fun j => .u64 (leaL n j)), true, 0⟩), (101, ⟨.cells ((List.range 32).map fun j => .u8 0), true, 0⟩), (102, ⟨.rows 1 32 (fun j => [.u8 (bytS (leaL n) i j)]), true, 0⟩)], 1000, fun i => 255 - i, fun i => i ≤ 255, fun _ => []⟩
noncomputable def V3b : Ctx := V3.withSym [13, 14, 22, 23, 29]
end Go.Sym

namespace Go.Sym
open Go.Proofs Go.Spec
set_option linter.unusedVariables false
set_option maxRecDepth 100000 in
theorem vnum (x : F8) (z : N5) : bodyP Try.prog V3n gl0 [] [(4, lsNum x)] 3000 Try.f10 0 [aggB 32 x] [] (retQ Try.prog Try.f10 0 ⟨[], agD 5 z, [], []⟩) = (
(∃ (x_1 : Nat), x_1.le 255 ∧ 0 = 0 ∧ 0 = 0 ∧ 0 = 0 ∧ (↑x_1 : Int) = (0 : Int) ∧ allP (fun (i : Nat) => x i = x i) 0 32 ((0 : BitVec 64) = BitVec.ofNat 64 0 ∧ (0 : BitVec 64) = BitVec.ofNat 64 0 ∧ (0 : BitVec 64) = BitVec.ofNat 64 0 ∧ (0 : BitVec 64) = BitVec.ofNat 64 0 ∧ (0 : BitVec 64) = BitVec.ofNat 64 0 ∧ 5 = 5 ∧ (∀ (y : Nat), y < 5 → datas Bool.false [AV.u64 (numS x x_1 y)] = Bool.true ∧ cut 1 [AV.u64 (BitVec.ofNat 64 0), AV.u64 (BitVec.ofNat 64 0), AV.u64 (BitVec.ofNat 64 0), AV.u64 (BitVec.ofNat 64 0), AV.u64 (BitVec.ofNat 64 0)] y = [AV.u64 (numS x x_1 y)]) ∧ True)) ∧ ∀ (x_1 : Nat), x_1.le 255 → @Bool.rec (fun _ => Prop) (5 ≤ 5 ∧ z 0 = numS x x_1 0 ∧ z 1 = numS x x_1 1 ∧ z 2 = numS x x_1 2 ∧ z 3 = numS x x_1 3 ∧ z 4 = numS x x_1 4 ∧ True) ((0 : Int) ≤ IntKind.i64.wrap ((↑x_1 : Int).tdiv (8 : Int)) ∧ (IntKind.i64.wrap ((↑x_1 : Int).tdiv (8 : Int))).toNat < 32 ∧ (IntKind.i64.wrap ((↑x_1 : Int).tdiv (8 : Int))).toNat < (rg 32 x).length ∧ (0 : Int) ≤ (↑x_1 : Int).tmod (8 : Int) ∧ (0 : Int) ≤ IntKind.i64.wrap ((↑x_1 : Int).tdiv (51 : Int)) ∧ (IntKind.i64.wrap ((↑x_1 : Int).tdiv (51 : Int))).toNat < 5 ∧ (IntKind.i64.wrap ((↑x_1 : Int).tdiv (51 : Int))).toNat < 5 ∧ True ∧ (0 : Int) ≤ (↑x_1 : Int).tmod (51 : Int) ∧ (0 : Int) ≤ IntKind.i64.wrap ((↑x_1 : Int).tdiv (51 : Int)) ∧ (IntKind.i64.wrap ((↑x_1 : Int).tdiv (51 : Int))).toNat < 5 ∧ (IntKind.i64.wrap ((↑x_1 : Int).tdiv (51 : Int))).toNat < 5 ∧ [AV.u64 (numS x x_1 (IntKind.i64.wrap ((↑x_1 : Int).tdiv (51 : Int))).toNat)].length = 1 ∧ ∃ (y : Nat), 255 - y < 255 - x_1 ∧ y.le 255 ∧ 0 = 0 ∧ 0 = 0 ∧ 0 = 0 ∧ (↑y : Int) = IntKind.i64.wrap ((↑x_1 : Int) + (1 : Int)) ∧ allP (fun (i : Nat) => x i = x i) 0 32 ((0 : BitVec 64) = (0 : BitVec 64) ∧ (0 : BitVec 64) = (0 : BitVec 64) ∧ (0 : BitVec 64) = (0 : BitVec 64) ∧ (0 : BitVec 64) = (0 : BitVec 64) ∧ (0 : BitVec 64) = (0 : BitVec 64) ∧ 5 = 5 ∧ (∀ (y_1 : Nat), y_1 < 5 → datas Bool.false [AV.u64 (numS x y y_1)] = Bool.true ∧ (bif y_1 == (IntKind.i64.wrap ((↑x_1 : Int).tdiv (51 : Int))).toNat then [AV.u64 (numS x x_1 (IntKind.i64.wrap ((↑x_1 : Int).tdiv (51 : Int))).toNat ||| (BitVec.setWidth 64 ((rg 32 x).getD (IntKind.i64.wrap ((↑x_1 : Int).tdiv (8 : Int))).toNat (0 : BitVec 8) >>> ((↑x_1 : Int).tmod (8 : Int)).toNat) &&& BitVec.ofNat 64 1) <<< ((↑x_1 : Int).tmod (51 : Int)).toNat)] else [AV.u64 (numS x x_1 y_1)]) = [AV.u64 (numS x y y_1)]) ∧ True)) (decide ((↑x_1 : Int) < (255 : Int))) : Prop) := by kernel_rfl
set_option maxRecDepth 100000 in
theorem vbyt (x : N5) (z : F8) : bodyP Try.prog V3b gl0 [] [(5, lsByt x)] 3000 Try.f13 0 [agD 5 x] [] (retQ Try.prog Try.f13 0 ⟨[], aggB 32 z, [], []⟩) = (
let x1 := fun (i : Nat) => [x 0, x 1, x 2, x 3, x 4].getD i (0 : B64); (∃ (x_1 : Nat), x_1.le 255 ∧ 0 = 0 ∧ 0 = 0 ∧ 0 = 0 ∧ (↑x_1 : Int) = (0 : Int) ∧ leaL x 0 = leaL x1 0 ∧ leaL x 1 = leaL x1 1 ∧ leaL x 2 = leaL x1 2 ∧ leaL x 3 = leaL x1 3 ∧ leaL x 4 = leaL x1 4 ∧ allP (fun (i : Nat) => (0 : BitVec 8) = BitVec.ofNat 8 0) 0 32 (32 = 32 ∧ (∀ (y : Nat), y < 32 → datas Bool.false [AV.u8 (bytS (leaL x) x_1 y)] = Bool.true ∧ cut 1 (List.replicate 32 (AV.u8 (BitVec.ofNat 8 0))) y = [AV.u8 (bytS (leaL x) x_1 y)]) ∧ True)) ∧ ∀ (x_1 : Nat), x_1.le 255 → @Bool.rec (fun _ => Prop) (32 ≤ 32 ∧ allP (fun (i : Nat) => z i = bytS (leaL x) x_1 i) 0 32 True) ((0 : Int) ≤ IntKind.i64.wrap ((↑x_1 : Int).tdiv (51 : Int)) ∧ (IntKind.i64.wrap ((↑x_1 : Int).tdiv (51 : Int))).toNat < 5 ∧ (IntKind.i64.wrap ((↑x_1 : Int).tdiv (51 : Int))).toNat < [leaL x 0, leaL x 1, leaL x 2, leaL x 3, leaL x 4].length ∧ True ∧ (0 : Int) ≤ (↑x_1 : Int).tmod (51 : Int) ∧ (0 : Int) ≤ IntKind.i64.wrap ((↑x_1 : Int).tdiv (8 : Int)) ∧ (IntKind.i64.wrap ((↑x_1 : Int).tdiv (8 : Int))).toNat < 32 ∧ (IntKind.i64.wrap ((↑x_1 : Int).tdiv (8 : Int))).toNat < 32 ∧ (0 : Int) ≤ (↑x_1 : Int).tmod (8 : Int) ∧ (0 : Int) ≤ IntKind.i64.wrap ((↑x_1 : Int).tdiv (8 : Int)) ∧ (IntKind.i64.wrap ((↑x_1 : Int).tdiv (8 : Int))).toNat < 32 ∧ (IntKind.i64.wrap ((↑x_1 : Int).tdiv (8 : Int))).toNat < 32 ∧ [AV.u8 (bytS (leaL x) x_1 (IntKind.i64.wrap ((↑x_1 : Int).tdiv (8 : Int))).toNat)].length = 1 ∧ ∃ (y : Nat), 255 - y < 255 - x_1 ∧ y.le 255 ∧ 0 = 0 ∧ 0 = 0 ∧ 0 = 0 ∧ (↑y : Int) = IntKind.i64.wrap ((↑x_1 : Int) + (1 : Int)) ∧ leaL x 0 = leaL x 0 ∧ leaL x 1 = leaL x 1 ∧ leaL x 2 = leaL x 2 ∧ leaL x 3 = leaL x 3 ∧ leaL x 4 = leaL x 4 ∧ allP (fun (i : Nat) => (0 : BitVec 8) = (0 : BitVec 8)) 0 32 (32 = 32 ∧ (∀ (y_1 : Nat), y_1 < 32 → datas Bool.false [AV.u8 (bytS (leaL x) y y_1)] = Bool.true ∧ (bif y_1 == (IntKind.i64.wrap ((↑x_1 : Int).tdiv (8 : Int))).toNat then [AV.u8 (bytS (leaL x) x_1 (IntKind.i64.wrap ((↑x_1 : Int).tdiv (8 : Int))).toNat ||| (BitVec.setWidth 8 ([leaL x 0, leaL x 1, leaL x 2, leaL x 3, leaL x 4].getD (IntKind.i64.wrap ((↑x_1 : Int).tdiv (51 : Int))).toNat (0 : BitVec 64) >>> ((↑x_1 : Int).tmod (51 : Int)).toNat) &&& BitVec.ofNat 8 1) <<< ((↑x_1 : Int).tmod (8 : Int)).toNat)] else [AV.u8 (bytS (leaL x) x_1 y_1)]) = [AV.u8 (bytS (leaL x) y y_1)]) ∧ True)) (decide ((↑x_1 : Int) < (255 : Int))) : Prop) := by kernel_rfl
end Go.Sym

namespace Go.Sym
open Go.Proofs Go.Spec
set_option linter.unusedVariables false
theorem dvw (i d : Nat) (hi : i < 256) (hd : 0 < d) : (IntKind.i64.wrap ((i : Int).tdiv (d : Int))).toNat = i / d ∧ 0 ≤ IntKind.i64.wrap ((i : Int).tdiv (d : Int)) := by
  have e : (i : Int).tdiv (d : Int) = ((i / d : Nat) : Int) := rfl
  have h : i / d ≤ i := Nat.div_le_self _ _
  rw [e, wrap_nat _ rfl (by omega)]
  exact ⟨Int.toNat_natCast _, Int.natCast_nonneg _⟩
theorem rgG {α : Type} (F : Nat → α) (d : α) (i n : Nat) (h : i < n) : (rg n F).getD i d = F i := rg_getD n F i d h
set_option maxRecDepth 100000 in
theorem bnum (x : F8) : Must (bodyP Try.prog V3n gl0 [] [(4, lsNum x)] 3000 Try.f10 0 [aggB 32 x] [] (retQ Try.prog Try.f10 0 ⟨[], agD 5 (numS x 255), [], []⟩)) := by
  constructor
  rw [vnum]
  refine ⟨⟨0, Nat.zero_le _, rfl, rfl, rfl, rfl, allP_of _ _ (fun _ _ _ => rfl) ⟨rfl, rfl, rfl, rfl, rfl, rfl, fun y hy => ⟨rfl, ?_⟩, trivial⟩⟩, fun i hi => ?_⟩
  · rcases y with _ | _ | _ | _ | _ | y <;> first | rfl | omega
  · have hi : i ≤ 255 := hi
    refine brec (fun d => ?_) (fun d => ?_)
    · have d : (i : Int) < 255 := of_decide_eq_true d
      obtain ⟨a1, a2⟩ := dvw i 8 (by omega) (by omega)
      obtain ⟨b1, b2⟩ := dvw i 51 (by omega) (by omega)
      have a1 : (IntKind.i64.wrap ((i : Int).tdiv 8)).toNat = i / 8 := a1
      have b1 : (IntKind.i64.wrap ((i : Int).tdiv 51)).toNat = i / 51 := b1
      have m8 : (i : Int).tmod 8 = ((i % 8 : Nat) : Int) := rfl
      have m51 : (i : Int).tmod 51 = ((i % 51 : Nat) : Int) := rfl
      rw [a1, b1, m8, m51, Int.toNat_natCast, Int.toNat_natCast, rg_length]
      refine ⟨a2, by omega, by omega, Int.natCast_nonneg _, b2, by omega, by omega, trivial, Int.natCast_nonneg _, b2, by omega, by omega, rfl, i + 1, by omega, (by show i + 1 ≤ 255; omega), rfl, rfl, rfl, (wrap_nat (i + 1) (by omega) (by omega)).symm, allP_of _ _ (fun _ _ _ => rfl) ⟨rfl, rfl, rfl, rfl, rfl, rfl, fun y hy => ⟨rfl, ?_⟩, trivial⟩⟩
      rw [rgG x 0 (i / 8) 32 (by omega)]
      by_cases e : y = i / 51
      · subst e
        have : ((i / 51) == (i / 51)) = true := by simp
        rw [this]
        show [AV.u64 _] = [AV.u64 (if i / 51 = i / 51 then _ else _)]
        rw [if_pos rfl]
        rfl
      · have : (y == (i / 51)) = false := by simp [e]
        rw [this]
        show [AV.u64 _] = [AV.u64 (if y = i / 51 then _ else _)]
        rw [if_neg e]
    · have d : ¬ (i : Int) < 255 := of_decide_eq_false d
      obtain rfl : i = 255 := by omega
      exact ⟨Nat.le_refl _, rfl, rfl, rfl, rfl, rfl, trivial⟩
set_option maxRecDepth 100000 in
theorem bbyt (x : N5) : Must (bodyP Try.prog V3b gl0 [] [(5, lsByt x)] 3000 Try.f13 0 [agD 5 x] [] (retQ Try.prog Try.f13 0 ⟨[], aggB 32 (bytS (leaL x) 255), [], []⟩)) := by
  constructor
  rw [vbyt]
  intro x1
  refine ⟨⟨0, Nat.zero_le _, rfl, rfl, rfl, rfl, rfl, rfl, rfl, rfl, rfl, allP_of _ _ (fun _ _ _ => rfl) ⟨rfl, fun y hy => ⟨rfl, ?_⟩, trivial⟩⟩, fun i hi => ?_⟩
  · have : ∀ k, k < 32 → cut 1 (List.replicate 32 (AV.u8 (BitVec.ofNat 8 0))) k = [AV.u8 0] := by
      intro k hk
      unfold cut
      rw [Nat.mul_one, List.drop_replicate, List.take_replicate]
      have : min 1 (32 - k) = 1 := by omega
      rw [this]
      rfl
    exact this y hy
  · have hi : i ≤ 255 := hi
    refine brec (fun d => ?_) (fun d => ?_)
    · have d : (i : Int) < 255 := of_decide_eq_true d
      obtain ⟨a1, a2⟩ := dvw i 8 (by omega) (by omega)
      obtain ⟨b1, b2⟩ := dvw i 51 (by omega) (by omega)
      have a1 : (IntKind.i64.wrap ((i : Int).tdiv 8)).toNat = i / 8 := a1
      have b1 : (IntKind.i64.wrap ((i : Int).tdiv 51)).toNat = i / 51 := b1
      have m8 : (i : Int).tmod 8 = ((i % 8 : Nat) : Int) := rfl
      have m51 : (i : Int).tmod 51 = ((i % 51 : Nat) : Int) := rfl
      rw [a1, b1, m8, m51, Int.toNat_natCast, Int.toNat_natCast]
      refine ⟨b2, by omega, (by show i / 51 < 5; omega), trivial, Int.natCast_nonneg _, a2, by omega, by omega, Int.natCast_nonneg _, a2, by omega, by omega, rfl, i + 1, by omega, (by show i + 1 ≤ 255; omega), rfl, rfl, rfl, (wrap_nat (i + 1) (by omega) (by omega)).symm, rfl, rfl, rfl, rfl, rfl, allP_of _ _ (fun _ _ _ => rfl) ⟨rfl, fun y hy => ⟨rfl, ?_⟩, trivial⟩⟩
      have g : [leaL x 0, leaL x 1, leaL x 2, leaL x 3, leaL x 4].getD (i / 51) (0 : BitVec 64) = leaL x (i / 51) := by
        have : i / 51 < 5 := by omega
        generalize i / 51 = k at this
        rcases k with _ | _ | _ | _ | _ | k <;> first | rfl | omega
      rw [g]
      by_cases e : y = i / 8
      · subst e
        have : ((i / 8) == (i / 8)) = true := by simp
        rw [this]
        show [AV.u8 _] = [AV.u8 (if i / 8 = i / 8 then _ else _)]
        rw [if_pos rfl]
        rfl
      · have : (y == (i / 8)) = false := by simp [e]
        rw [this]
        show [AV.u8 _] = [AV.u8 (if y = i / 8 then _ else _)]
        rw [if_neg e]
    · have d : ¬ (i : Int) < 255 := of_decide_eq_false d
      obtain rfl : i = 255 := by omega
      exact ⟨Nat.le_refl _, allP_of _ _ (fun _ _ _ => rfl) trivial⟩
def gNum (xs : List AV) : TL := match xs with | [.agg cs] => asB 32 cs fun x => .ok (rt (ag5 (numS x 255))) | _ => .no
def gByt (xs : List AV) : TL := match xs with | [.agg cs] => asD5 cs fun x => .ok (rt (aggB 32 (bytS (leaL x) 255))) | _ => .no
theorem cnum : COK Try.prog gl0 10 (mkF (spK 1 gNum)) := by
  refine ctrE (fn := Try.f10) [] 3000 (by kernel_rfl) (by kernel_rfl) (okV3.withSym [11, 12, 20, 21, 27]) (by kernel_rfl) (fun args w => by kernel_rfl) fun xs bs r hs ho => ?_
  obtain ⟨rfl, hs0⟩ := spK_sel hs
  clear hs
  rename (TL.sel _ = _) => hs
  unfold gNum at hs
  split at hs
  · obtain ⟨x, e, hs⟩ := asB_sel hs
    simp only [TL.sel, Option.some.injEq] at hs
    subst hs
    rw [e]
    exact ⟨_, bnum x⟩
  · simp [TL.sel] at hs
theorem cbyt : COK Try.prog gl0 13 (mkF (spK 1 gByt)) := by
  refine ctrE (fn := Try.f13) [] 3000 (by kernel_rfl) (by kernel_rfl) (okV3.withSym [13, 14, 22, 23, 29]) (by kernel_rfl) (fun args w => by kernel_rfl) fun xs bs r hs ho => ?_
  obtain ⟨rfl, hs0⟩ := spK_sel hs
  clear hs
  rename (TL.sel _ = _) => hs
  unfold gByt at hs
  split at hs
  · obtain ⟨x, e, hs⟩ := asD5_sel hs
    simp only [TL.sel, Option.some.injEq] at hs
    subst hs
    rw [e]
    exact ⟨_, bbyt x⟩
  · simp [TL.sel] at hs
end Go.Sym

namespace Go.Spec
open Go.Sym
def oneN : N5 := fun i => if i = 0 then 1#64 else 0#64
def nulN : N5 := fun _ => 0#64
def invN (n : N5) : Nat → N5
  | 0 => oneN
  | k + 1 => if k = 252 ∨ k = 250 then timesL (re5 (invN n k)) (re5 (invN n k)) else timesL (re5 (timesL (re5 (invN n k)) (re5 (invN n k)))) (re5 n)
def re25 (f : N5) : N5 := mk25 (f 0) (f 1) (f 2) (f 3) (f 4) (f 5) (f 6) (f 7) (f 8) (f 9) (f 10) (f 11) (f 12) (f 13) (f 14) (f 15) (f 16) (f 17) (f 18) (f 19) (f 20) (f 21) (f 22) (f 23) (f 24)
/-- The ladder behind so many bits, from the highest on. -/
def ladN (s : F8) (u : N5) : Nat → N5
  | 0 => mkS u oneN nulN u oneN
  | k + 1 => swaL (re25 (steL (re25 (swaL (re25 (ladN s u k)) (bitB s (254 - k)))))) (bitB s (254 - k))
def outN (l : N5) : N5 := timesL (atL l 5) (re5 (invN (atL l 10) 255))
def shrB (s p : F8) : F8 := bytS (leaL (re5 (outN (ladN (claL s) (numS p 255) 255)))) 255
end Go.Spec
namespace Go.Sym
open Go.Proofs Go.Spec
set_option linter.unusedVariables false
def lsInv (n : N5) : LS := ⟨Nat, fun k => [(1, .ptr 100 0 0 0), (2, .ptr 101 0 0 0), (3, .ptr 102 0 0 0), (4, .int .i64 (254 - (k : Int)))],
  fun k => [(100, ⟨.cells ((List.range 5).map fun j => .u64 (n j)), true, 0⟩), (101, ⟨.cells ((List.range 5).map fun j => .u64 0), true, 0⟩), (102, ⟨.cells ((List.range 5).map fun j => .u64 (invN n k j)), true, 0⟩)], 1000, fun k => 255 - k, fun k => k ≤ 255, fun _ => []⟩
noncomputable def V5 : Ctx := (V4.add 10 (mkF (spK 1 gNum))).add 13 (mkF (spK 1 gByt))
theorem okV5 : COKs Try.prog gl0 V5 := (okV4.add cnum).add cbyt
end Go.Sym

namespace Go.Sym
open Go.Proofs Go.Spec
set_option linter.unusedVariables false
set_option maxRecDepth 100000 in
theorem vinv (x : N5) (z : N5) : bodyP Try.prog V5 gl0 [] [(4, lsInv x)] 3000 Try.f15 0 [agD 5 x] [] (retQ Try.prog Try.f15 0 ⟨[], agD 5 z, [], []⟩) = (
let x1 := fun (i : Nat) => [x 0, x 1, x 2, x 3, x 4].getD i (0 : B64); (∃ (x_1 : Nat), x_1.le 255 ∧ 0 = 0 ∧ 0 = 0 ∧ 0 = 0 ∧ (254 : Int) - (↑x_1 : Int) = (254 : Int) ∧ x 0 = x 0 ∧ x 1 = x 1 ∧ x 2 = x 2 ∧ x 3 = x 3 ∧ x 4 = x 4 ∧ (0 : BitVec 64) = BitVec.ofNat 64 0 ∧ (0 : BitVec 64) = BitVec.ofNat 64 0 ∧ (0 : BitVec 64) = BitVec.ofNat 64 0 ∧ (0 : BitVec 64) = BitVec.ofNat 64 0 ∧ (0 : BitVec 64) = BitVec.ofNat 64 0 ∧ invN x x_1 0 = BitVec.ofNat 64 1 ∧ invN x x_1 1 = BitVec.ofNat 64 0 ∧ invN x x_1 2 = BitVec.ofNat 64 0 ∧ invN x x_1 3 = BitVec.ofNat 64 0 ∧ invN x x_1 4 = BitVec.ofNat 64 0 ∧ True) ∧ ∀ (x_1 : Nat), let x1_1 := fun (i : Nat) => [invN x x_1 0, invN x x_1 1, invN x x_1 2, invN x x_1 3, invN x x_1 4].getD i (0 : B64); let x2 := ∃ (y : Nat), 255 - y < 255 - x_1 ∧ y.le 255 ∧ 0 = 0 ∧ 0 = 0 ∧ 0 = 0 ∧ (254 : Int) - (↑y : Int) = IntKind.i64.wrap ((254 : Int) - (↑x_1 : Int) - (1 : Int)) ∧ x 0 = x 0 ∧ x 1 = x 1 ∧ x 2 = x 2 ∧ x 3 = x 3 ∧ x 4 = x 4 ∧ (0 : BitVec 64) = (0 : BitVec 64) ∧ (0 : BitVec 64) = (0 : BitVec 64) ∧ (0 : BitVec 64) = (0 : BitVec 64) ∧ (0 : BitVec 64) = (0 : BitVec 64) ∧ (0 : BitVec 64) = (0 : BitVec 64) ∧ invN x y 0 = timesL x1_1 x1_1 0 ∧ invN x y 1 = timesL x1_1 x1_1 1 ∧ invN x y 2 = timesL x1_1 x1_1 2 ∧ invN x y 3 = timesL x1_1 x1_1 3 ∧ invN x y 4 = timesL x1_1 x1_1 4 ∧ True; let x3 := fun (i : Nat) => [timesL x1_1 x1_1 0, timesL x1_1 x1_1 1, timesL x1_1 x1_1 2, timesL x1_1 x1_1 3, timesL x1_1 x1_1 4].getD i (0 : B64); x_1.le 255 → @Bool.rec (fun _ => Prop) (z 0 = invN x x_1 0 ∧ z 1 = invN x x_1 1 ∧ z 2 = invN x x_1 2 ∧ z 3 = invN x x_1 3 ∧ z 4 = invN x x_1 4 ∧ True) (@Bool.rec (fun _ => Prop) x2 (@Bool.rec (fun _ => Prop) x2 (∃ (y : Nat), 255 - y < 255 - x_1 ∧ y.le 255 ∧ 0 = 0 ∧ 0 = 0 ∧ 0 = 0 ∧ (254 : Int) - (↑y : Int) = IntKind.i64.wrap ((254 : Int) - (↑x_1 : Int) - (1 : Int)) ∧ x 0 = x 0 ∧ x 1 = x 1 ∧ x 2 = x 2 ∧ x 3 = x 3 ∧ x 4 = x 4 ∧ (0 : BitVec 64) = (0 : BitVec 64) ∧ (0 : BitVec 64) = (0 : BitVec 64) ∧ (0 : BitVec 64) = (0 : BitVec 64) ∧ (0 : BitVec 64) = (0 : BitVec 64) ∧ (0 : BitVec 64) = (0 : BitVec 64) ∧ invN x y 0 = timesL x3 x1 0 ∧ invN x y 1 = timesL x3 x1 1 ∧ invN x y 2 = timesL x3 x1 2 ∧ invN x y 3 = timesL x3 x1 3 ∧ invN x y 4 = timesL x3 x1 4 ∧ True) !decide ((254 : Int) - (↑x_1 : Int) = (4 : Int))) !decide ((254 : Int) - (↑x_1 : Int) = (2 : Int))) (decide ((0 : Int) ≤ (254 : Int) - (↑x_1 : Int))) : Prop) := by kernel_rfl
end Go.Sym

namespace Go.Sym
open Go.Proofs Go.Spec
set_option linter.unusedVariables false
theorem invN_a (n : N5) (k : Nat) (h : k = 252 ∨ k = 250) : invN n (k + 1) = timesL (re5 (invN n k)) (re5 (invN n k)) := by rw [invN, if_pos h]
theorem invN_b (n : N5) (k : Nat) (h : ¬ (k = 252 ∨ k = 250)) : invN n (k + 1) = timesL (re5 (timesL (re5 (invN n k)) (re5 (invN n k)))) (re5 n) := by rw [invN, if_neg h]
set_option maxRecDepth 100000 in
theorem binv (x : N5) : Must (bodyP Try.prog V5 gl0 [] [(4, lsInv x)] 3000 Try.f15 0 [agD 5 x] [] (retQ Try.prog Try.f15 0 ⟨[], agD 5 (invN x 255), [], []⟩)) := by
  constructor
  rw [vinv]
  intro x1
  have hx1 : x1 = re5 x := rfl
  clear_value x1
  refine ⟨⟨0, Nat.zero_le _, rfl, rfl, rfl, rfl, rfl, rfl, rfl, rfl, rfl, rfl, rfl, rfl, rfl, rfl, rfl, rfl, rfl, rfl, rfl, trivial⟩, ?_⟩
  intro k y1 y2 y3 hk
  have hk : k ≤ 255 := hk
  have hy1 : y1 = re5 (invN x k) := rfl
  have hy3 : y3 = re5 (timesL y1 y1) := rfl
  have hs : (k = 252 ∨ k = 250) → y2 := by
    intro h
    have e : invN x (k + 1) = timesL y1 y1 := invN_a x k h
    have w : (254 : Int) - ((k + 1 : Nat) : Int) = IntKind.i64.wrap (254 - (k : Int) - 1) := by rw [wrap_i64 (by omega) (by omega)]; omega
    exact ⟨k + 1, by omega, (by show k + 1 ≤ 255; omega), rfl, rfl, rfl, w, rfl, rfl, rfl, rfl, rfl, rfl, rfl, rfl, rfl, rfl, congrFun e 0, congrFun e 1, congrFun e 2, congrFun e 3, congrFun e 4, trivial⟩
  clear_value y1 y2 y3
  refine brec (fun d => ?_) (fun d => ?_)
  · have d : (0 : Int) ≤ 254 - (k : Int) := of_decide_eq_true d
    refine brec (fun d1 => ?_) (fun d1 => hs ?_)
    · refine brec (fun d2 => ?_) (fun d2 => hs ?_)
      · have hn : ¬ (k = 252 ∨ k = 250) := by
          simp only [Bool.not_eq_true', decide_eq_false_iff_not] at d1 d2
          omega
        have e : invN x (k + 1) = timesL y3 x1 := by rw [hy3, hy1, hx1]; exact invN_b x k hn
        have w : (254 : Int) - ((k + 1 : Nat) : Int) = IntKind.i64.wrap (254 - (k : Int) - 1) := by rw [wrap_i64 (by omega) (by omega)]; omega
        exact ⟨k + 1, by omega, (by show k + 1 ≤ 255; omega), rfl, rfl, rfl, w, rfl, rfl, rfl, rfl, rfl, rfl, rfl, rfl, rfl, rfl, congrFun e 0, congrFun e 1, congrFun e 2, congrFun e 3, congrFun e 4, trivial⟩
      · simp only [Bool.not_eq_false', decide_eq_true_eq] at d2
        omega
    · simp only [Bool.not_eq_false', decide_eq_true_eq] at d1
      omega
  · have d : ¬ (0 : Int) ≤ 254 - (k : Int) := of_decide_eq_false d
    obtain rfl : k = 255 := by omega
    exact ⟨rfl, rfl, rfl, rfl, rfl, trivial⟩
def gInv (xs : List AV) : TL := match xs with | [.agg cs] => asD5 cs fun x => .ok (rt (ag5 (invN x 255))) | _ => .no
theorem cinv : COK Try.prog gl0 15 (mkF (spK 1 gInv)) := by
  refine ctrE (fn := Try.f15) [] 3000 (by kernel_rfl) (by kernel_rfl) okV5 (by kernel_rfl) (fun args w => by kernel_rfl) fun xs bs r hs ho => ?_
  obtain ⟨rfl, hs0⟩ := spK_sel hs
  clear hs
  rename (TL.sel _ = _) => hs
  unfold gInv at hs
  split at hs
  · obtain ⟨x, e, hs⟩ := asD5_sel hs
    simp only [TL.sel, Option.some.injEq] at hs
    subst hs
    rw [e]
    exact ⟨_, binv x⟩
  · simp [TL.sel] at hs
noncomputable def V6 : Ctx := V5.add 15 (mkF (spK 1 gInv))
theorem okV6 : COKs Try.prog gl0 V6 := okV5.add cinv
noncomputable def V7 : Ctx := V6.withSym [27, 28]
def lsShr (s p : F8) : LS := ⟨Nat, fun k => [(4, .ptr 100 0 0 0), (5, .bool false), (6, .ptr 101 0 0 0), (8, .ptr 102 0 0 0), (9, .int .i64 (254 - (k : Int)))],
  fun k => [(100, ⟨.cells ((List.range 32).map fun j => .u8 0), true, 0⟩), (101, ⟨.cells ((List.range 32).map fun j => .u8 (claL s j)), true, 0⟩), (102, ⟨.cells ((List.range 25).map fun j => .u64 (ladN (claL s) (numS p 255) k j)), true, 0⟩)], 1000, fun k => 255 - k, fun k => k ≤ 255, fun _ => []⟩
end Go.Sym
