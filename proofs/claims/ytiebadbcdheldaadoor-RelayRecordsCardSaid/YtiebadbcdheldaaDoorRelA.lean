/- Gates; the keys of a secret, and the secret behind one. -/
import Derived.Test.YtiebadbcdheldaaDoorShaA
import Derived.Test.YtiebadbcdheldaaDoorSymC
import Derived.Test.YtiebadbcdheldaaDoorHkdf
import Derived.Test.YtiebadbcdheldaaDoorRecB
import Derived.Test.YtiebadbcdheldaaDoorProg
import Derived.KernelRfl
/- A gate: the calls of the program. -/
namespace Go.Sym
open Go.Proofs
set_option linter.unusedVariables false
noncomputable def G0 : Ctx := .none []
theorem okG0 : COKs Tryd.prog gl0 G0 := COKs.none
noncomputable def G1q : Ctx := G0.exe Tryd.prog gl0 [] 400 Tryd.f45.params.size 45 Tryd.f45
theorem okG1 : COKs Tryd.prog gl0 G1q := okG0.exe [] 400 _ (by kernel_rfl) (by kernel_rfl) (by kernel_rfl) (fun args w => by kernel_rfl)
noncomputable def G2q : Ctx := G1q.exe Tryd.prog gl0 [] 400 Tryd.f44.params.size 44 Tryd.f44
theorem okG2 : COKs Tryd.prog gl0 G2q := okG1.exe [] 400 _ (by kernel_rfl) (by kernel_rfl) (by kernel_rfl) (fun args w => by kernel_rfl)
noncomputable def G3q : Ctx := G2q.exe Tryd.prog gl0 [] 400 Tryd.f17.params.size 17 Tryd.f17
theorem okG3 : COKs Tryd.prog gl0 G3q := okG2.exe [] 400 _ (by kernel_rfl) (by kernel_rfl) (by kernel_rfl) (fun args w => by kernel_rfl)
noncomputable def G4q : Ctx := G3q.exe Tryd.prog gl0 [] 400 Tryd.f27.params.size 27 Tryd.f27
theorem okG4 : COKs Tryd.prog gl0 G4q := okG3.exe [] 400 _ (by kernel_rfl) (by kernel_rfl) (by kernel_rfl) (fun args w => by kernel_rfl)
noncomputable def G5q : Ctx := G4q.exe Tryd.prog gl0 [] 400 Tryd.f26.params.size 26 Tryd.f26
theorem okG5 : COKs Tryd.prog gl0 G5q := okG4.exe [] 400 _ (by kernel_rfl) (by kernel_rfl) (by kernel_rfl) (fun args w => by kernel_rfl)
noncomputable def G6q : Ctx := G5q.exe Tryd.prog gl0 [] 400 Tryd.f19.params.size 19 Tryd.f19
theorem okG6q : COKs Tryd.prog gl0 G6q := okG5.exe [] 400 _ (by kernel_rfl) (by kernel_rfl) (by kernel_rfl) (fun args w => by kernel_rfl)
noncomputable def G7 : Ctx := G6q.exe Tryd.prog gl0 [] 400 Tryd.f18.params.size 18 Tryd.f18
theorem okG7 : COKs Tryd.prog gl0 G7 := okG6q.exe [] 400 _ (by kernel_rfl) (by kernel_rfl) (by kernel_rfl) (fun args w => by kernel_rfl)
noncomputable def G8 : Ctx := G7.exe Tryd.prog gl0 [] 400 Tryd.f20.params.size 20 Tryd.f20
theorem okG8 : COKs Tryd.prog gl0 G8 := okG7.exe [] 400 _ (by kernel_rfl) (by kernel_rfl) (by kernel_rfl) (fun args w => by kernel_rfl)
/-- A gate that may be. -/
structure gR (e n u : Int) : Prop where
  e0 : 0 ≤ e
  n0 : 0 ≤ n
  nu : n ≤ u
  u6 : u ≤ 64
  u8 : u.tmod 8 = 0
def gA (e n u : Int) : AV := .agg [.int .i64 e, .int .i64 n, .int .i64 u]
end Go.Sym

namespace Go.Sym
open Go.Proofs
set_option linter.unusedVariables false
theorem dt' {p : Prop} [Decidable p] (h : decide p = true) : p := of_decide_eq_true h
theorem df' {p : Prop} [Decidable p] (h : decide p = false) : ¬ p := of_decide_eq_false h
def gG9 (xs : List AV) (bs : List ABlk) : TL := match xs, bs with
  | [.agg [.int .i64 e, .int .i64 n, .int .i64 u]], [] => .ok ⟨[gR e n u], .bool true, [], []⟩
  | _, _ => .no
def spG9 : Spec := ⟨[.a [.kp, .kp, .kp]], fun _ _ => [], fun _ _ => [], gG9⟩
set_option maxRecDepth 100000 in
theorem vg9 (e n u : Int) (q : Bool) : bodyP Tryd.prog G1q gl0 [] [] 3000 Tryd.f44 0 [gA e n u] [] (retQ Tryd.prog Tryd.f44 0 ⟨[], .bool q, [], []⟩) = (
@Bool.rec (fun _ => Prop) (q = false ∧ True) (@Bool.rec (fun _ => Prop) (q = false ∧ True) (@Bool.rec (fun _ => Prop) (q = false ∧ True) (@Bool.rec (fun _ => Prop) (q = false ∧ True) (@Bool.rec (fun _ => Prop) (q = false ∧ True) (q = decide (n ≤ u) ∧ True) (decide ((0 : Int) ≤ n))) (decide (u.tmod (8 : Int) = (0 : Int)))) (decide (u ≤ (64 : Int)))) (decide ((0 : Int) ≤ u))) (decide ((0 : Int) ≤ e)) : Prop) := by kernel_rfl
theorem bg9 {e n u : Int} (h : gR e n u) : Must (bodyP Tryd.prog G1q gl0 [] [] 3000 Tryd.f44 0 [gA e n u] [] (retQ Tryd.prog Tryd.f44 0 ⟨[], .bool true, [], []⟩)) := by
  constructor
  rw [vg9]
  have := h.n0
  have := h.nu
  rw [decide_eq_true h.e0, decide_eq_true (show 0 ≤ u by omega), decide_eq_true h.u6, decide_eq_true h.u8, decide_eq_true h.n0, decide_eq_true h.nu]
  exact ⟨rfl, trivial⟩
theorem cg9 : COK Tryd.prog gl0 44 (mkF spG9) := by
  refine ctrE (fn := Tryd.f44) [] 3000 (by kernel_rfl) (by kernel_rfl) okG1 (by kernel_rfl) (fun args w => by kernel_rfl) fun xs bs r hs ho => ?_
  replace hs : (gG9 xs bs).sel = some r := hs
  unfold gG9 at hs
  split at hs
  · simp only [TL.sel, Option.some.injEq] at hs
    subst hs
    exact ⟨[], bg9 (obsT_one.1 ho)⟩
  · simp [TL.sel] at hs
noncomputable def K1q : Ctx := G1q.add 44 (mkF spG9)
theorem okK1q : COKs Tryd.prog gl0 K1q := okG1.add cg9
noncomputable def K2q : Ctx := K1q.exe Tryd.prog gl0 [] 400 Tryd.f17.params.size 17 Tryd.f17
theorem okK2q : COKs Tryd.prog gl0 K2q := okK1q.exe [] 400 _ (by kernel_rfl) (by kernel_rfl) (by kernel_rfl) (fun args w => by kernel_rfl)
noncomputable def K3q : Ctx := K2q.exe Tryd.prog gl0 [] 400 Tryd.f26.params.size 26 Tryd.f26
theorem okK3q : COKs Tryd.prog gl0 K3q := okK2q.exe [] 400 _ (by kernel_rfl) (by kernel_rfl) (by kernel_rfl) (fun args w => by kernel_rfl)
end Go.Sym

namespace Go.Sym
open Go.Proofs
set_option linter.unusedVariables false
set_option maxRecDepth 100000 in
theorem vg5 (e n u e' n' u' : Int) : bodyP Tryd.prog K3q gl0 [] [] 3000 Tryd.f27 0 [gA e n u] [] (retQ Tryd.prog Tryd.f27 0 ⟨[], gA e' n' u', [], []⟩) = (
gR e n u ∧ e' = Max.max (IntKind.i64.wrap (e + (1 : Int))) (0 : Int) ∧ n' = (0 : Int) ∧ u' = (0 : Int) ∧ True : Prop) := by kernel_rfl
set_option maxRecDepth 100000 in
theorem vg6 (e n u k q : Int) : bodyP Tryd.prog K3q gl0 [] [] 3000 Tryd.f19 0 [gA e n u, .int .i64 k] [] (retQ Tryd.prog Tryd.f19 0 ⟨[], .int .i64 q, [], []⟩) = (
gR e n u ∧ gR e n u ∧ q = Max.max u (IntKind.i64.wrap (IntKind.i64.wrap ((IntKind.i64.wrap (IntKind.i64.wrap (IntKind.i64.wrap (n + Min.min (Max.max k (0 : Int)) (IntKind.i64.wrap ((64 : Int) - n))) + (8 : Int)) - (1 : Int))).tdiv (8 : Int)) * (8 : Int))) ∧ True : Prop) := by kernel_rfl
set_option maxRecDepth 100000 in
theorem vg7 (e n u k e' n' u' q : Int) : bodyP Tryd.prog K3q gl0 [] [] 3000 Tryd.f18 0 [gA e n u, .int .i64 k] [] (retQ Tryd.prog Tryd.f18 0 ⟨[], .tup [gA e' n' u', .int .i64 q], [], []⟩) = (
let x1 := e' = (0 : Int) ∧ n' = (0 : Int) ∧ u' = (0 : Int) ∧ q = (1 : Int) ∧ True; gR e n u ∧ @Bool.rec (fun _ => Prop) x1 (@Bool.rec (fun _ => Prop) x1 (@Bool.rec (fun _ => Prop) x1 (@Bool.rec (fun _ => Prop) (e' = e ∧ n' = n ∧ u' = k ∧ q = (0 : Int) ∧ True) x1 (decide (k < u))) !!decide (k.tmod (8 : Int) = (0 : Int))) (decide (k ≤ (64 : Int)))) (decide ((0 : Int) ≤ k)) : Prop) := by kernel_rfl
set_option maxRecDepth 100000 in
theorem vg8 (e n u e' n' u' k q : Int) : bodyP Tryd.prog K3q gl0 [] [] 3000 Tryd.f20 0 [gA e n u] [] (retQ Tryd.prog Tryd.f20 0 ⟨[], .tup [gA e' n' u', .int .i64 k, .int .i64 q], [], []⟩) = (
gR e n u ∧ @Bool.rec (fun _ => Prop) (@Bool.rec (fun _ => Prop) (e' = e ∧ n' = IntKind.i64.wrap (n + (1 : Int)) ∧ u' = u ∧ k = n ∧ q = (0 : Int) ∧ True) (e' = (0 : Int) ∧ n' = (0 : Int) ∧ u' = (0 : Int) ∧ k = (0 : Int) ∧ q = (7 : Int) ∧ True) (decide (n = u))) (e' = (0 : Int) ∧ n' = (0 : Int) ∧ u' = (0 : Int) ∧ k = (0 : Int) ∧ q = (8 : Int) ∧ True) (decide (n = (64 : Int))) : Prop) := by kernel_rfl
def gW (n u k : Int) : Int := max u ((n + min k (64 - n) + 7) / 8 * 8)
theorem gR.m {e n u : Int} (h : gR e n u) : u % 8 = 0 := by
  have := h.u8
  have h0 := h.n0
  have h1 := h.nu
  rwa [Int.tmod_eq_emod_of_nonneg (by omega)] at this
theorem gR.of {e n u : Int} (h0 : 0 ≤ e) (h1 : 0 ≤ n) (h2 : n ≤ u) (h3 : u ≤ 64) (h4 : u % 8 = 0) : gR e n u := ⟨h0, h1, h2, h3, by rwa [Int.tmod_eq_emod_of_nonneg (by omega)]⟩
theorem gW_ok {e n u k : Int} (h : gR e n u) (hk : 0 ≤ k) : u ≤ gW n u k ∧ gW n u k ≤ 64 ∧ gW n u k % 8 = 0 := by
  have := h.n0
  have := h.nu
  have := h.u6
  have := h.m
  unfold gW
  omega
theorem bg5 {e n u : Int} (h : gR e n u) (he : e < 1000000) : Must (bodyP Tryd.prog K3q gl0 [] [] 3000 Tryd.f27 0 [gA e n u] [] (retQ Tryd.prog Tryd.f27 0 ⟨[], gA (e + 1) 0 0, [], []⟩)) := by
  constructor
  rw [vg5]
  have := h.e0
  rw [wrap_i64 (by omega) (by omega)]
  exact ⟨h, by omega, rfl, rfl, trivial⟩
theorem bg6 {e n u k : Int} (h : gR e n u) (hk : 0 ≤ k ∧ k ≤ 64) : Must (bodyP Tryd.prog K3q gl0 [] [] 3000 Tryd.f19 0 [gA e n u, .int .i64 k] [] (retQ Tryd.prog Tryd.f19 0 ⟨[], .int .i64 (gW n u k), [], []⟩)) := by
  constructor
  rw [vg6]
  have := h.n0
  have := h.nu
  have := h.u6
  refine ⟨h, h, ?_, trivial⟩
  have e1 : IntKind.i64.wrap (64 - n) = 64 - n := wrap_i64 (by omega) (by omega)
  rw [e1]
  have e2 : IntKind.i64.wrap (n + min (max k 0) (64 - n)) = n + min k (64 - n) := by
    rw [wrap_i64 (by omega) (by omega)]; omega
  rw [e2]
  have e3 : IntKind.i64.wrap (IntKind.i64.wrap (n + min k (64 - n) + 8) - 1) = n + min k (64 - n) + 7 := by
    rw [wrap_i64 (x := n + min k (64 - n) + 8) (by omega) (by omega), wrap_i64 (by omega) (by omega)]; omega
  rw [e3, Int.tdiv_eq_ediv_of_nonneg (by omega)]
  rw [wrap_i64 (x := (n + min k (64 - n) + 7) / 8) (by omega) (by omega), wrap_i64 (by omega) (by omega)]
  rfl
theorem bg7 {e n u k : Int} (h : gR e n u) (hk : u ≤ k) (h4 : k ≤ 64) (h8 : k % 8 = 0) : Must (bodyP Tryd.prog K3q gl0 [] [] 3000 Tryd.f18 0 [gA e n u, .int .i64 k] [] (retQ Tryd.prog Tryd.f18 0 ⟨[], .tup [gA e n k, .int .i64 0], [], []⟩)) := by
  constructor
  rw [vg7]
  have := h.n0
  have := h.nu
  intro x1
  clear_value x1
  rw [Int.tmod_eq_emod_of_nonneg (by omega), decide_eq_true (show 0 ≤ k by omega), decide_eq_true h4, decide_eq_true h8, decide_eq_false (show ¬ k < u by omega)]
  exact ⟨h, rfl, rfl, rfl, rfl, trivial⟩
def gU (e n u : Int) : TL := .br (decide (n = 64)) (.ok ⟨[gR e n u], .tup [gA 0 0 0, .int .i64 0, .int .i64 8], [], []⟩) (.br (decide (n = u)) (.ok ⟨[gR e n u], .tup [gA 0 0 0, .int .i64 0, .int .i64 7], [], []⟩) (.ok ⟨[gR e n u], .tup [gA e (n + 1) u, .int .i64 n, .int .i64 0], [], []⟩))
theorem bg8 {e n u : Int} {r : RL} (hr : (gU e n u).sel = some r) (h : obsT r.ob) : Must (bodyP Tryd.prog K3q gl0 [] [] 3000 Tryd.f20 0 [gA e n u] [] (retQ Tryd.prog Tryd.f20 0 r)) := by
  constructor
  unfold gU at hr
  cases c1 : decide (n = 64) with
  | true =>
    rw [c1] at hr
    simp only [TL.sel, Option.some.injEq] at hr
    subst hr
    show bodyP Tryd.prog K3q gl0 [] [] 3000 Tryd.f20 0 [gA e n u] [] (retQ Tryd.prog Tryd.f20 0 ⟨[], .tup [gA 0 0 0, .int .i64 0, .int .i64 8], [], []⟩)
    rw [vg8, c1]
    exact ⟨obsT_one.1 h, rfl, rfl, rfl, rfl, rfl, trivial⟩
  | false =>
    rw [c1] at hr
    cases c2 : decide (n = u) with
    | true =>
      rw [c2] at hr
      simp only [TL.sel, Option.some.injEq] at hr
      subst hr
      show bodyP Tryd.prog K3q gl0 [] [] 3000 Tryd.f20 0 [gA e n u] [] (retQ Tryd.prog Tryd.f20 0 ⟨[], .tup [gA 0 0 0, .int .i64 0, .int .i64 7], [], []⟩)
      rw [vg8, c1, c2]
      exact ⟨obsT_one.1 h, rfl, rfl, rfl, rfl, rfl, trivial⟩
    | false =>
      rw [c2] at hr
      simp only [TL.sel, Option.some.injEq] at hr
      subst hr
      show bodyP Tryd.prog K3q gl0 [] [] 3000 Tryd.f20 0 [gA e n u] [] (retQ Tryd.prog Tryd.f20 0 ⟨[], .tup [gA e (n + 1) u, .int .i64 n, .int .i64 0], [], []⟩)
      rw [vg8, c1, c2]
      have h := obsT_one.1 h
      have := h.n0
      have := h.nu
      have := h.u6
      rw [wrap_i64 (by omega) (by omega)]
      exact ⟨h, rfl, rfl, rfl, rfl, rfl, trivial⟩
def gG5 (xs : List AV) (bs : List ABlk) : TL := match xs, bs with
  | [.agg [.int .i64 e, .int .i64 n, .int .i64 u]], [] => .ok ⟨[gR e n u, e < 1000000], gA (e + 1) 0 0, [], []⟩
  | _, _ => .no
def spG5 : Spec := ⟨[.a [.kp, .kp, .kp]], fun _ _ => [], fun _ _ => [], gG5⟩
theorem cg5 : COK Tryd.prog gl0 27 (mkF spG5) := by
  refine ctrE (fn := Tryd.f27) [] 3000 (by kernel_rfl) (by kernel_rfl) okK3q (by kernel_rfl) (fun args w => by kernel_rfl) fun xs bs r hs ho => ?_
  replace hs : (gG5 xs bs).sel = some r := hs
  unfold gG5 at hs
  split at hs
  · simp only [TL.sel, Option.some.injEq] at hs
    subst hs
    obtain ⟨h1, h2⟩ := obsT_cons.1 ho
    exact ⟨[], bg5 h1 (obsT_one.1 h2)⟩
  · simp [TL.sel] at hs
def gG6 (xs : List AV) (bs : List ABlk) : TL := match xs, bs with
  | [.agg [.int .i64 e, .int .i64 n, .int .i64 u], .int .i64 k], [] => .ok ⟨[gR e n u, 0 ≤ k ∧ k ≤ 64], .int .i64 (gW n u k), [], []⟩
  | _, _ => .no
def spG6 : Spec := ⟨[.a [.kp, .kp, .kp], .kp], fun _ _ => [], fun _ _ => [], gG6⟩
theorem cg6 : COK Tryd.prog gl0 19 (mkF spG6) := by
  refine ctrE (fn := Tryd.f19) [] 3000 (by kernel_rfl) (by kernel_rfl) okK3q (by kernel_rfl) (fun args w => by kernel_rfl) fun xs bs r hs ho => ?_
  replace hs : (gG6 xs bs).sel = some r := hs
  unfold gG6 at hs
  split at hs
  · simp only [TL.sel, Option.some.injEq] at hs
    subst hs
    obtain ⟨h1, h2⟩ := obsT_cons.1 ho
    exact ⟨[], bg6 h1 (obsT_one.1 h2)⟩
  · simp [TL.sel] at hs
def gG7 (xs : List AV) (bs : List ABlk) : TL := match xs, bs with
  | [.agg [.int .i64 e, .int .i64 n, .int .i64 u], .int .i64 k], [] => .ok ⟨[gR e n u, u ≤ k, k ≤ 64, k % 8 = 0], .tup [gA e n k, .int .i64 0], [], []⟩
  | _, _ => .no
def spG7 : Spec := ⟨[.a [.kp, .kp, .kp], .kp], fun _ _ => [], fun _ _ => [], gG7⟩
theorem cg7 : COK Tryd.prog gl0 18 (mkF spG7) := by
  refine ctrE (fn := Tryd.f18) [] 3000 (by kernel_rfl) (by kernel_rfl) okK3q (by kernel_rfl) (fun args w => by kernel_rfl) fun xs bs r hs ho => ?_
  replace hs : (gG7 xs bs).sel = some r := hs
  unfold gG7 at hs
  split at hs
  · simp only [TL.sel, Option.some.injEq] at hs
    subst hs
    obtain ⟨h1, h2⟩ := obsT_cons.1 ho
    obtain ⟨h3, h4⟩ := obsT_cons.1 h2
    obtain ⟨h5, h6⟩ := obsT_cons.1 h4
    exact ⟨[], bg7 h1 h3 h5 (obsT_one.1 h6)⟩
  · simp [TL.sel] at hs
def gG8 (xs : List AV) (bs : List ABlk) : TL := match xs, bs with
  | [.agg [.int .i64 e, .int .i64 n, .int .i64 u]], [] => gU e n u
  | _, _ => .no
def spG8 : Spec := ⟨[.a [.kp, .kp, .kp]], fun _ _ => [], fun _ _ => [], gG8⟩
theorem cg8 : COK Tryd.prog gl0 20 (mkF spG8) := by
  refine ctrE (fn := Tryd.f20) [] 3000 (by kernel_rfl) (by kernel_rfl) okK3q (by kernel_rfl) (fun args w => by kernel_rfl) fun xs bs r hs ho => ?_
  replace hs : (gG8 xs bs).sel = some r := hs
  unfold gG8 at hs
  split at hs
  · exact ⟨[], bg8 hs ho⟩
  · simp [TL.sel] at hs
noncomputable def K4q : Ctx := (((K2q.add 27 (mkF spG5)).add 19 (mkF spG6)).add 18 (mkF spG7)).add 20 (mkF spG8)
theorem okK4q : COKs Tryd.prog gl0 K4q := (((okK2q.add cg5).add cg6).add cg7).add cg8
end Go.Sym

namespace Go.Sym
open Go.Proofs Go.Spec
set_option linter.unusedVariables false
/-- A row of bytes, as cells. -/
def rw8 (n : Nat) (f : Nat → BitVec 8) : List AV := (List.range n).map fun i => .u8 (f i)
noncomputable def Dx1 : Ctx := N7.exe Tryd.prog gl0 [] 3000 Tryd.f43.params.size 43 Tryd.f43
theorem okDx1 : COKs Tryd.prog gl0 Dx1 := okN7.exe [] 3000 _ (by kernel_rfl) (by kernel_rfl) (by kernel_rfl) (fun args w => by kernel_rfl)
end Go.Sym

namespace Go.Sym
open Go.Proofs Go.Spec
set_option linter.unusedVariables false
set_option maxRecDepth 100000 in
theorem vde (key a b : (Nat → BitVec 8)) : bodyP Tryd.prog Dx1 gl0 [] [] 3000 Tryd.f16 0 [aggB 32 key] [] (retQ Tryd.prog Tryd.f16 0 ⟨[], .agg (rw8 32 a ++ rw8 12 b), [], []⟩) = (
let x1 := hkT (rg 32 key) (labInfo [BitVec.ofNat 8 107, BitVec.ofNat 8 101, BitVec.ofNat 8 121] [] (32 : Int)) 1; let x2 := hkT (rg 32 key) (labInfo [BitVec.ofNat 8 105, BitVec.ofNat 8 118] [] (12 : Int)) 1; 32 ≤ List.length x1 ∧ 12 ≤ List.length x2 ∧ allP (fun (i : Nat) => a i = if i < (List.take 32 x1).length then (List.take 32 x1).getD i (0 : BitVec 8) else BitVec.ofNat 8 0) 0 32 (allP (fun (i : Nat) => b i = if i < (List.take 12 x2).length then (List.take 12 x2).getD i (0 : BitVec 8) else BitVec.ofNat 8 0) 0 12 True) : Prop) := by kernel_rfl
set_option maxRecDepth 100000 in
theorem vnx (key a : (Nat → BitVec 8)) : bodyP Tryd.prog Dx1 gl0 [] [] 3000 Tryd.f28 0 [aggB 32 key] [] (retQ Tryd.prog Tryd.f28 0 ⟨[], aggB 32 a, [], []⟩) = (
let x1 := hkT (rg 32 key) (labInfo [BitVec.ofNat 8 116, BitVec.ofNat 8 114, BitVec.ofNat 8 97, BitVec.ofNat 8 102, BitVec.ofNat 8 102, BitVec.ofNat 8 105, BitVec.ofNat 8 99, BitVec.ofNat 8 32, BitVec.ofNat 8 117, BitVec.ofNat 8 112, BitVec.ofNat 8 100] [] (32 : Int)) 1; 32 ≤ List.length x1 ∧ allP (fun (i : Nat) => a i = if i < (List.take 32 x1).length then (List.take 32 x1).getD i (0 : BitVec 8) else BitVec.ofNat 8 0) 0 32 True : Prop) := by kernel_rfl
set_option maxRecDepth 100000 in
theorem vst (q : Bool) : bodyP Tryd.prog Dx1 gl0 [] [] 3000 Tryd.f24 0 [] [] (retQ Tryd.prog Tryd.f24 0 ⟨[], .bool q, [], []⟩) = (
0 < 3 ∧ 0 < 3 ∧ 3 = 3 ∧ 3 < 4611686018427387904 ∧ @Bool.rec (fun _ => Prop) (q = Bool.false ∧ True) (q = decide (shaB [BitVec.ofNat 8 97, BitVec.ofNat 8 98, BitVec.ofNat 8 99] 31 = BitVec.ofNat 8 173) ∧ True) (decide (shaB [BitVec.ofNat 8 97, BitVec.ofNat 8 98, BitVec.ofNat 8 99] 0 = BitVec.ofNat 8 186)) : Prop) := by kernel_rfl
end Go.Sym

namespace Go.Spec
/-- The key and what nonces begin with, of a secret; the secret behind it. -/
noncomputable def dkB (key : By) : Nat → BitVec 8 := fun i => (hkT key (labInfo [BitVec.ofNat 8 107, BitVec.ofNat 8 101, BitVec.ofNat 8 121] [] 32) 1).getD i 0
noncomputable def diB (key : By) : Nat → BitVec 8 := fun i => (hkT key (labInfo [BitVec.ofNat 8 105, BitVec.ofNat 8 118] [] 12) 1).getD i 0
noncomputable def nxB (key : By) : Nat → BitVec 8 := fun i => (hkT key (labInfo [BitVec.ofNat 8 116, BitVec.ofNat 8 114, BitVec.ofNat 8 97, BitVec.ofNat 8 102, BitVec.ofNat 8 102, BitVec.ofNat 8 105, BitVec.ofNat 8 99, BitVec.ofNat 8 32, BitVec.ofNat 8 117, BitVec.ofNat 8 112, BitVec.ofNat 8 100] [] 32) 1).getD i 0
theorem tk_get (l : By) (n i : Nat) (h1 : n ≤ l.length) (h2 : i < n) : (l.getD i 0) = if i < (List.take n l).length then (List.take n l).getD i 0 else BitVec.ofNat 8 0 := by
  rw [if_pos (by rw [List.length_take]; omega)]
  simp only [List.getD, List.getElem?_take, if_pos h2]
end Go.Spec
namespace Go.Sym
open Go.Proofs Go.Spec
set_option linter.unusedVariables false
theorem bde (key : Nat → BitVec 8) : Must (bodyP Tryd.prog Dx1 gl0 [] [] 3000 Tryd.f16 0 [aggB 32 key] [] (retQ Tryd.prog Tryd.f16 0 ⟨[], .agg (rw8 32 (dkB (rg 32 key)) ++ rw8 12 (diB (rg 32 key))), [], []⟩)) := by
  constructor
  rw [vde]
  intro x1 x2
  have h1 : x1.length = 32 := hkT_length _ _ _
  have h2 : x2.length = 32 := hkT_length _ _ _
  refine ⟨by omega, by omega, allP_of _ _ (fun j _ hj => ?_) (allP_of _ _ (fun j _ hj => ?_) trivial)⟩
  · exact tk_get x1 32 j (by omega) (by omega)
  · exact tk_get x2 12 j (by omega) (by omega)
theorem bnx (key : Nat → BitVec 8) : Must (bodyP Tryd.prog Dx1 gl0 [] [] 3000 Tryd.f28 0 [aggB 32 key] [] (retQ Tryd.prog Tryd.f28 0 ⟨[], aggB 32 (nxB (rg 32 key)), [], []⟩)) := by
  constructor
  rw [vnx]
  intro x1
  have h1 : x1.length = 32 := hkT_length _ _ _
  refine ⟨by omega, allP_of _ _ (fun j _ hj => ?_) trivial⟩
  exact tk_get x1 32 j (by omega) (by omega)
theorem bst : Must (bodyP Tryd.prog Dx1 gl0 [] [] 3000 Tryd.f24 0 [] [] (retQ Tryd.prog Tryd.f24 0 ⟨[], .bool true, [], []⟩)) := by
  constructor
  rw [vst]
  have e0 : decide (shaB [BitVec.ofNat 8 97, BitVec.ofNat 8 98, BitVec.ofNat 8 99] 0 = BitVec.ofNat 8 186) = true := decide_eq_true abc0
  have e1 : decide (shaB [BitVec.ofNat 8 97, BitVec.ofNat 8 98, BitVec.ofNat 8 99] 31 = BitVec.ofNat 8 173) = true := decide_eq_true abc31
  rw [e0, e1]
  exact ⟨by omega, by omega, rfl, by omega, rfl, trivial⟩
noncomputable def gDe (xs : List AV) (bs : List ABlk) : TL := match xs, bs with
  | [.agg cs], [] => (match rdU8 cs with
    | some key => (match key.length == 32 with
      | true => .ok ⟨[], .agg (rw8 32 (dkB key) ++ rw8 12 (diB key)), [], []⟩
      | false => .no)
    | none => .no)
  | _, _ => .no
noncomputable def spDe : Spec := ⟨[.kp], fun _ _ => [], fun _ _ => [], gDe⟩
noncomputable def gNx (xs : List AV) (bs : List ABlk) : TL := match xs, bs with
  | [.agg cs], [] => (match rdU8 cs with
    | some key => (match key.length == 32 with
      | true => .ok ⟨[], aggB 32 (nxB key), [], []⟩
      | false => .no)
    | none => .no)
  | _, _ => .no
noncomputable def spNx : Spec := ⟨[.kp], fun _ _ => [], fun _ _ => [], gNx⟩
theorem rg_self {l : By} (h : l.length = 32) : rg 32 (fun i => l.getD i 0) = l := by
  rw [rg_eq]
  apply List.ext_getElem
  · simp [h]
  · intro i h1 h2
    simp [List.getD, h2]
theorem cde : COK Tryd.prog gl0 16 (mkF spDe) := by
  refine ctrE (fn := Tryd.f16) [] 3000 (by kernel_rfl) (by kernel_rfl) okDx1 (by kernel_rfl) (fun args w => by kernel_rfl) fun xs bs r hs ho => ?_
  replace hs : (gDe xs bs).sel = some r := hs
  unfold gDe at hs
  split at hs
  · split at hs
    · rename_i cs key hk
      split at hs
      · rename_i hl
        simp only [TL.sel, Option.some.injEq] at hs
        subst hs
        have hl : key.length = 32 := by simpa using hl
        have b := bde (fun i => key.getD i 0)
        rw [rg_self hl] at b
        rw [agg_u8 hk hl]
        exact ⟨_, b⟩
      · simp [TL.sel] at hs
    · simp [TL.sel] at hs
  · simp [TL.sel] at hs
theorem cnx : COK Tryd.prog gl0 28 (mkF spNx) := by
  refine ctrE (fn := Tryd.f28) [] 3000 (by kernel_rfl) (by kernel_rfl) okDx1 (by kernel_rfl) (fun args w => by kernel_rfl) fun xs bs r hs ho => ?_
  replace hs : (gNx xs bs).sel = some r := hs
  unfold gNx at hs
  split at hs
  · split at hs
    · rename_i cs key hk
      split at hs
      · rename_i hl
        simp only [TL.sel, Option.some.injEq] at hs
        subst hs
        have hl : key.length = 32 := by simpa using hl
        have b := bnx (fun i => key.getD i 0)
        rw [rg_self hl] at b
        rw [agg_u8 hk hl]
        exact ⟨_, b⟩
      · simp [TL.sel] at hs
    · simp [TL.sel] at hs
  · simp [TL.sel] at hs
theorem cst : COK Tryd.prog gl0 24 (mkF spTr) := by
  refine ctrE (fn := Tryd.f24) [] 3000 (by kernel_rfl) (by kernel_rfl) okDx1 (by kernel_rfl) (fun args w => by kernel_rfl) fun xs bs r hs ho => ?_
  replace hs : (gTr xs bs).sel = some r := hs
  unfold gTr at hs
  split at hs
  · simp only [TL.sel, Option.some.injEq] at hs
    subst hs
    exact ⟨_, bst⟩
  · simp [TL.sel] at hs
end Go.Sym

namespace Go.Spec
open Go.Sym
/-- The secret of an epoch, of a first one. -/
noncomputable def trS (key : F8) : Nat → F8
  | 0 => key
  | e + 1 => nxB ((List.range 32).map (trS key e))
def c8u (k : Nat) : Nat := (k + 7) / 8 * 8
/-- How far the turns are: how many; the epoch; how many numbers of it are used. -/
structure TuS where
  i : Nat
  e : Nat
  k : Nat
structure tuI (m : Nat) (x : TuS) : Prop where
  im : x.i ≤ m
  ik : x.i = 64 * x.e + x.k
  k1 : x.k ≤ 64
  k0 : 0 < x.k ∨ x.i = 0
end Go.Spec
namespace Go.Sym
open Go.Proofs Go.Spec
set_option linter.unusedVariables false
noncomputable def lsTu (key : F8) (n : Int) (m : Nat) : LS := ⟨TuS, fun x => [(1, .int .i64 n), (5, .ptr 100 0 0 0), (6, .ptr 101 0 0 0), (7, .ptr 102 0 0 0), (8, .int .i64 x.k), (9, .int .i64 x.i)],
  fun x => [(100, ⟨.cells ((List.range 32).map fun i => .u8 (trS key x.e i)), true, 0⟩), (101, ⟨.cells ((List.range 32).map fun i => .u8 (trS key x.e i)), true, 0⟩), (102, ⟨.cells [.int .i64 x.e, .int .i64 x.k, .int .i64 (c8u x.k)], true, 0⟩)], 1000, fun x => m - x.i, fun x => tuI m x, fun _ => []⟩
noncomputable def V1 : Ctx := ((J21.add 16 (mkF spDe)).add 28 (mkF spNx)).add 24 (mkF spTr)
theorem okV1 : COKs Tryd.prog gl0 V1 := ((okJ21.add cde).add cnx).add cst
noncomputable def V2 : Ctx := V1.add 44 (mkF spG9)
theorem okV2 : COKs Tryd.prog gl0 V2 := okV1.add cg9
noncomputable def V3 : Ctx := V2.exe Tryd.prog gl0 [] 400 Tryd.f17.params.size 17 Tryd.f17
theorem okV3 : COKs Tryd.prog gl0 V3 := okV2.exe [] 400 _ (by kernel_rfl) (by kernel_rfl) (by kernel_rfl) (fun args w => by kernel_rfl)
noncomputable def V4 : Ctx := V3.exe Tryd.prog gl0 [] 400 Tryd.f26.params.size 26 Tryd.f26
theorem okV4 : COKs Tryd.prog gl0 V4 := okV3.exe [] 400 _ (by kernel_rfl) (by kernel_rfl) (by kernel_rfl) (fun args w => by kernel_rfl)
noncomputable def V5 : Ctx := (((V4.add 27 (mkF spG5)).add 19 (mkF spG6)).add 18 (mkF spG7)).add 20 (mkF spG8)
theorem okV5 : COKs Tryd.prog gl0 V5 := (((okV4.add cg5).add cg6).add cg7).add cg8
end Go.Sym
