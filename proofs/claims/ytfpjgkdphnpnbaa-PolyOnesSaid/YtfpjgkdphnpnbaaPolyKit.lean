/- What the small functions of package poly answer: each by a formula over its input. -/
import Derived.Test.YtfpjgkdphnpnbaaSymB
import Derived.Test.YtfpjgkdphnpnbaaProg
import Derived.KernelRfl
namespace Go.Sym
open Go.Proofs
set_option linter.unusedVariables false
set_option maxRecDepth 20000
def gl0 : Gl := fun _ => []
abbrev B64 := BitVec 64

def nth5 (a b c d e : B64) : Nat → B64 := fun i => [a, b, c, d, e].getD i 0
def car (x : Nat → B64) : Nat → B64 :=
  let c0 := x 0 + 0#64
  let c1 := x 1 + c0 >>> 26
  let c2 := x 2 + c1 >>> 26
  let c3 := x 3 + c2 >>> 26
  let c4 := x 4 + c3 >>> 26
  nth5 ((c0 &&& 67108863#64) + 5#64 * (c4 >>> 26)) (c1 &&& 67108863#64) (c2 &&& 67108863#64) (c3 &&& 67108863#64) (c4 &&& 67108863#64)
def G42 : List DA → Option AV
  | [.sc v] => (arr64 5 v).map fun x => mk64 5 (car x)
  | _ => none
theorem c42 : CtrOK Try.prog gl0 42 (.n true (pureF [1] G42)) := by
  refine nok_pure (Γ := Γ0) (fn := Try.f42) (by kernel_rfl) rfl (by decide) (by decide) (OKs.none _ _) (by kernel_rfl) (fun args w => by kernel_rfl) ?_
  intro ds v hl hg _
  unfold G42 at hg
  split at hg
  · rename_i u
    simp only [Option.map_eq_some_iff] at hg
    obtain ⟨x, hx, rfl⟩ := hg
    rw [arr64_eq hx]
    exact awp_of_evalFn (f := 100) rfl (by kernel_rfl)
  · simp at hg
def P1 : Ctx := Γ0.add 42 (.n true (pureF [1] G42))
theorem p1 : OKs Try.prog gl0 P1 := (OKs.none _ _).add c42

def numS (b : Nat → BitVec 8) : Nat → B64 :=
  let t := fun (i s : Nat) => (b i).setWidth 64 <<< s
  nth5 (0#64 + t 0 0 + t 1 8 + t 2 16 + t 3 24) (0#64 + t 4 6 + t 5 14 + t 6 22) (0#64 + t 7 4 + t 8 12 + t 9 20) (0#64 + t 10 2 + t 11 10 + t 12 18) (0#64 + t 13 0 + t 14 8 + t 15 16 + t 16 24)
def G33 : List DA → Option AV
  | [.sc v] => (arr8 17 v).map fun x => mk64 5 (car (numS x))
  | _ => none
theorem c33 : CtrOK Try.prog gl0 33 (.n true (pureF [1] G33)) := by
  refine nok_pure (Γ := P1) (fn := Try.f33) (by kernel_rfl) rfl (by decide) (by decide) p1 (by kernel_rfl) (fun args w => by kernel_rfl) ?_
  intro ds v hl hg _
  unfold G33 at hg
  split at hg
  · rename_i u
    simp only [Option.map_eq_some_iff] at hg
    obtain ⟨x, hx, rfl⟩ := hg
    rw [arr8_eq hx]
    exact awp_of_evalFn (f := 100) rfl (by kernel_rfl)
  · simp at hg
def P2 : Ctx := P1.add 33 (.n true (pureF [1] G33))
theorem p2 : OKs Try.prog gl0 P2 := p1.add c33

def clampS (k : Nat → BitVec 8) : Nat → BitVec 8 := fun i =>
  [k 0, k 1, k 2, k 3 &&& 15#8, k 4 &&& 252#8, k 5, k 6, k 7 &&& 15#8, k 8 &&& 252#8, k 9, k 10, k 11 &&& 15#8, k 12 &&& 252#8, k 13, k 14, k 15 &&& 15#8, 0#8].getD i 0
def G30 : List DA → Option AV
  | [.sc v] => (arr8 32 v).map fun x => mk64 5 (car (numS (clampS x)))
  | _ => none
theorem c30 : CtrOK Try.prog gl0 30 (.n true (pureF [1] G30)) := by
  refine nok_pure (Γ := P2) (fn := Try.f30) (by kernel_rfl) rfl (by decide) (by decide) p2 (by kernel_rfl) (fun args w => by kernel_rfl) ?_
  intro ds v hl hg _
  unfold G30 at hg
  split at hg
  · rename_i u
    simp only [Option.map_eq_some_iff] at hg
    obtain ⟨x, hx, rfl⟩ := hg
    rw [arr8_eq hx]
    exact awp_of_evalFn (f := 100) rfl (by kernel_rfl)
  · simp at hg
def P3 : Ctx := P2.add 30 (.n true (pureF [1] G30))
theorem p3 : OKs Try.prog gl0 P3 := p2.add c30

def plusS (x y : Nat → B64) : Nat → B64 := fun i => x i + y i
def G32 : List DA → Option AV
  | [.sc u, .sc v] => (arr64 5 u).bind fun x => (arr64 5 v).map fun y => mk64 5 (plusS x y)
  | _ => none
theorem c32 : CtrOK Try.prog gl0 32 (.n true (pureF [1, 1] G32)) := by
  refine nok_pure (Γ := P3) (fn := Try.f32) (by kernel_rfl) rfl (by decide) (by decide) p3 (by kernel_rfl) (fun args w => by kernel_rfl) ?_
  intro ds v hl hg _
  unfold G32 at hg
  split at hg
  · rename_i u v
    simp only [Option.bind_eq_some_iff, Option.map_eq_some_iff] at hg
    obtain ⟨x, hx, y, hy, rfl⟩ := hg
    rw [arr64_eq hx, arr64_eq hy]
    exact awp_of_evalFn (f := 100) rfl (by kernel_rfl)
  · simp at hg
def P4 : Ctx := P3.add 32 (.n true (pureF [1, 1] G32))
theorem p4 : OKs Try.prog gl0 P4 := p3.add c32

def mulS (x y : Nat → B64) : Nat → B64 :=
  let a := fun (i j : Nat) => x i * y j
  let b := fun (i j : Nat) => 5#64 * x i * y j
  nth5 (0#64 + a 0 0 + b 1 4 + b 2 3 + b 3 2 + b 4 1) (0#64 + a 0 1 + a 1 0 + b 2 4 + b 3 3 + b 4 2) (0#64 + a 0 2 + a 1 1 + a 2 0 + b 3 4 + b 4 3)
    (0#64 + a 0 3 + a 1 2 + a 2 1 + a 3 0 + b 4 4) (0#64 + a 0 4 + a 1 3 + a 2 2 + a 3 1 + a 4 0)
def G31 : List DA → Option AV
  | [.sc u, .sc v] => (arr64 5 u).bind fun x => (arr64 5 v).map fun y => mk64 5 (car (car (mulS x y)))
  | _ => none
theorem c31 : CtrOK Try.prog gl0 31 (.n true (pureF [1, 1] G31)) := by
  refine nok_pure (Γ := P4) (fn := Try.f31) (by kernel_rfl) rfl (by decide) (by decide) p4 (by kernel_rfl) (fun args w => by kernel_rfl) ?_
  intro ds v hl hg _
  unfold G31 at hg
  split at hg
  · rename_i u v
    simp only [Option.bind_eq_some_iff, Option.map_eq_some_iff] at hg
    obtain ⟨x, hx, y, hy, rfl⟩ := hg
    rw [arr64_eq hx, arr64_eq hy]
    exact awp_of_evalFn (f := 100) rfl (by kernel_rfl)
  · simp at hg
def P5 : Ctx := P4.add 31 (.n true (pureF [1, 1] G31))
theorem p5 : OKs Try.prog gl0 P5 := p4.add c31

/-- The number itself, or less 2 to the power of 130 less 5: what is left when 5 is added and carried. -/
def redC (x : Nat → B64) : Nat → B64 :=
  let c0 := x 0 + 5#64
  let c1 := x 1 + c0 >>> 26
  let c2 := x 2 + c1 >>> 26
  let c3 := x 3 + c2 >>> 26
  let c4 := x 4 + c3 >>> 26
  nth5 c0 c1 c2 c3 c4
def redS (x : Nat → B64) : Nat → B64 := nth5 (redC x 0 &&& 67108863#64) (redC x 1 &&& 67108863#64) (redC x 2 &&& 67108863#64) (redC x 3 &&& 67108863#64) (redC x 4 &&& 67108863#64)
def leastS (x : Nat → B64) : Nat → B64 := if (!decide (redC (car x) 4 >>> 26 = 0#64)) = true then redS (car x) else car x
theorem leastS_pos {x : Nat → B64} (h : (!decide (redC (car x) 4 >>> 26 = 0#64)) = true) : leastS x = redS (car x) := by unfold leastS; rw [if_pos h]
theorem leastS_neg {x : Nat → B64} (h : (!decide (redC (car x) 4 >>> 26 = 0#64)) = false) : leastS x = car x := by unfold leastS; rw [if_neg (by rw [h]; decide)]
def G35 : List DA → Option AV
  | [.sc v] => (arr64 5 v).map fun x => mk64 5 (leastS x)
  | _ => none
theorem c35 : CtrOK Try.prog gl0 35 (.n true (pureF [1] G35)) := by
  refine nok_pure (Γ := P5) (fn := Try.f35) (by kernel_rfl) rfl (by decide) (by decide) p5 (by kernel_rfl) (fun args w => by kernel_rfl) ?_
  intro ds v hl hg _
  unfold G35 at hg
  split at hg
  · rename_i u
    simp only [Option.map_eq_some_iff] at hg
    obtain ⟨x, hx, rfl⟩ := hg
    rw [arr64_eq hx]
    refine awp_split 100 100 7 (!decide (redC (car x) 4 >>> 26 = 0#64)) (by kernel_rfl) (by kernel_rfl) (by kernel_rfl) ?_ ?_
    · intro h
      have e := leastS_pos h
      rewrite [e]
      refine awp_end (P := Try.prog) (Γ := P5) (fn := Try.f35) 100 ?_
      kernel_rfl
    · intro h
      have e := leastS_neg h
      rewrite [e]
      refine awp_end (P := Try.prog) (Γ := P5) (fn := Try.f35) 100 ?_
      kernel_rfl
  · simp at hg
def P6 : Ctx := P5.add 35 (.n true (pureF [1] G35))
theorem p6 : OKs Try.prog gl0 P6 := p5.add c35

def byteS (n : Nat → B64) (i : Nat) : BitVec 8 :=
  if 8 * i / 26 + 1 < 5 then (n (8 * i / 26) >>> (8 * i % 26) ||| n (8 * i / 26 + 1) <<< (26 - 8 * i % 26)).setWidth 8 else (n (8 * i / 26) >>> (8 * i % 26)).setWidth 8
noncomputable def P6b : Ctx := P6.add 43 (.n true (pureF [1, 1] (autoG Try.prog gl0 P6 100 Try.f43)))
theorem p6b : OKs Try.prog gl0 P6b := p6.auto 100 (f := 43) (by kernel_rfl) rfl (by decide) (by decide) (by kernel_rfl) (fun args w => by kernel_rfl)
def i64w (x : Int) : Int := IntKind.i64.wrap x
def sumT (a b : Nat → BitVec 8) : Nat → Int
  | 0 => i64w (0 + i64w ((a 0).toNat + (b 16).toNat))
  | i + 1 => i64w ((sumT a b i).fdiv (2 ^ (min 8 64)) + i64w ((a (i + 1)).toNat + (b (16 + (i + 1))).toNat))
def sumS (a b : Nat → BitVec 8) : Nat → BitVec 8 := fun i => BitVec.ofInt 8 (sumT a b i)
def G34 : List DA → Option AV
  | [.sc u, .sc v] => (arr64 5 u).bind fun x => (arr8 32 v).map fun k => mk8 16 (sumS (byteS x) k)
  | _ => none
theorem c34 : CtrOK Try.prog gl0 34 (.n true (pureF [1, 1] G34)) := by
  refine nok_pure (Γ := P6b) (fn := Try.f34) (by kernel_rfl) rfl (by decide) (by decide) p6b (by kernel_rfl) (fun args w => by kernel_rfl) ?_
  intro ds v hl hg _
  unfold G34 at hg
  split at hg
  · rename_i u v
    simp only [Option.bind_eq_some_iff, Option.map_eq_some_iff] at hg
    obtain ⟨x, hx, y, hy, rfl⟩ := hg
    rw [arr64_eq hx, arr8_eq hy]
    exact awp_of_evalFn (f := 100) rfl (by kernel_rfl)
  · simp at hg
def P7 : Ctx := P6.add 34 (.n true (pureF [1, 1] G34))
theorem p7 : OKs Try.prog gl0 P7 := p6.add c34
end Go.Sym
