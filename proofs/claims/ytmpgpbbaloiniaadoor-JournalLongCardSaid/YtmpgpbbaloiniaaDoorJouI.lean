/- The states that the law goes through. -/
import Derived.Test.YtmpgpbbaloiniaaDoorJouH
import Derived.Test.YtmpgpbbaloiniaaDoorJouG
namespace Go.Sym
open Go.Proofs Go.Spec
def lsEq (n : Nat) (F K : Nat → By) : LS := ⟨Nat, fun i => [(0, .ros false 1 n (fun j => [.rb true (F j) .unk]) .unk), (1, .ros false 1 n (fun j => [.rb true (K j) .unk]) .unk), (5, .int .i64 i)], fun _ => [], 1000, fun i => n - i, fun i => i ≤ n, fun _ => []⟩
end Go.Sym

namespace Go.Sym
open Go.Proofs Go.Spec
set_option linter.unusedVariables false
set_option maxRecDepth 100000 in
theorem vjSm (n : Nat) (F K : Nat → By) : bodyP Tryd.prog (Ctx.none []) gl0 [] [(5, lsEq n F K)] 3000 Tryd.f31 0 [.ros false 1 n (fun j => [.rb true (F j) .unk]) .unk, .ros false 1 n (fun j => [.rb true (K j) .unk]) .unk] [] (retQ Tryd.prog Tryd.f31 0 ⟨[], .bool true, [], []⟩) = (
@Bool.rec (fun _ => Prop) ((∃ (x : Nat), x.le n ∧ n = n ∧ (∀ (y : Nat), y < n → datas Bool.false [AV.rb Bool.true (F y) NL.unk] = Bool.true ∧ F y = F y ∧ True) ∧ n = n ∧ (∀ (y : Nat), y < n → datas Bool.false [AV.rb Bool.true (K y) NL.unk] = Bool.true ∧ K y = K y ∧ True) ∧ (↑x : Int) = (0 : Int) ∧ True) ∧ ∀ (x : Nat), x.le n → @Bool.rec (fun _ => Prop) (Bool.true = Bool.true ∧ True) ((0 : Int) ≤ (↑x : Int) ∧ (↑x : Int).toNat < n ∧ (0 : Int) ≤ (↑x : Int) ∧ (↑x : Int).toNat < n ∧ @Bool.rec (fun _ => Prop) (∃ (y : Nat), n - y < n - x ∧ y.le n ∧ n = n ∧ (∀ (y : Nat), y < n → datas Bool.false [AV.rb Bool.true (F y) NL.unk] = Bool.true ∧ F y = F y ∧ True) ∧ n = n ∧ (∀ (y : Nat), y < n → datas Bool.false [AV.rb Bool.true (K y) NL.unk] = Bool.true ∧ K y = K y ∧ True) ∧ (↑y : Int) = IntKind.i64.wrap ((↑x : Int) + (1 : Int)) ∧ True) (Bool.true = Bool.false ∧ True) !decide (F (↑x : Int).toNat = K (↑x : Int).toNat)) (decide ((↑x : Int) < (↑n : Int)))) (Bool.true = Bool.false ∧ True) !decide ((↑n : Int) = (↑n : Int)) : Prop) := by kernel_rfl
end Go.Sym

set_option linter.unusedSimpArgs false
namespace Go.Sym
open Go.Proofs Go.Spec
set_option linter.unusedVariables false
theorem bjSm (n : Nat) (F K : Nat → By) (hn : n < 1099511627776) (h : ∀ i, i < n → F i = K i) : Must (bodyP Tryd.prog (Ctx.none []) gl0 [] [(5, lsEq n F K)] 3000 Tryd.f31 0 [.ros false 1 n (fun j => [.rb true (F j) .unk]) .unk, .ros false 1 n (fun j => [.rb true (K j) .unk]) .unk] [] (retQ Tryd.prog Tryd.f31 0 ⟨[], .bool true, [], []⟩)) := by
  constructor
  rw [vjSm]
  refine brec (fun c => absurd rfl (ntr c)) (fun _ => ⟨⟨0, Nat.zero_le _, rfl, fun y _ => ⟨rfl, rfl, trivial⟩, rfl, fun y _ => ⟨rfl, rfl, trivial⟩, rfl, trivial⟩, fun x hx => ?_⟩)
  have hx : x ≤ n := hx
  refine brec (fun c => ?_) (fun _ => ⟨rfl, trivial⟩)
  have c := dtr c
  rw [Int.toNat_natCast, h x (by omega)]
  exact ⟨by omega, by omega, by omega, by omega, brec (fun c => absurd rfl (ntr c)) (fun _ => ⟨x + 1, by omega, show x + 1 ≤ n by omega, rfl, fun y _ => ⟨rfl, rfl, trivial⟩, rfl, fun y _ => ⟨rfl, rfl, trivial⟩, (wrap_i64 (by omega) (by omega)).symm, trivial⟩)⟩
noncomputable def gjSm (xs : List AV) (bs : List ABlk) : TL := match xs, bs with
  | [.ros false 1 n G .unk, .ros false 1 m H .unk], [] => .ok ⟨[n = m, n < 1099511627776, G = fun i => [.rb true (rowF G i) .unk], H = fun i => [.rb true (rowF H i) .unk], ∀ i, i < n → rowF G i = rowF H i], .bool true, [], []⟩
  | _, _ => .no
noncomputable def spjSm : Spec := ⟨[.r 1, .r 1], fun _ _ => [], fun _ _ => [], gjSm⟩
theorem cjSm : COK Tryd.prog gl0 31 (mkF spjSm) := by
  refine ctrE (fn := Tryd.f31) [] 3000 (by kernel_rfl) (by kernel_rfl) (COKs.none (keep := [])) (by kernel_rfl) (fun args w => by kernel_rfl) fun xs bs r hs ho => ?_
  replace hs : (gjSm xs bs).sel = some r := hs
  unfold gjSm at hs
  split at hs
  · rename_i n G m H
    simp only [TL.sel, Option.some.injEq] at hs
    subst hs
    obtain ⟨h1, ho⟩ := obsT_cons.1 ho
    obtain ⟨h2, ho⟩ := obsT_cons.1 ho
    obtain ⟨h3, ho⟩ := obsT_cons.1 ho
    obtain ⟨h4, ho⟩ := obsT_cons.1 ho
    have h5 := obsT_one.1 ho
    generalize rowF G = F at *
    generalize rowF H = K at *
    subst h1 h3 h4
    exact ⟨_, bjSm n F K h2 h5⟩
  · simp [TL.sel] at hs
/-- Contexts of the law. -/
noncomputable def Z1 : Ctx := ((((((X6.add 27 (mkF spjF)).add 28 (mkF spjA1)).add 29 (mkF spjCo)).add 24 (mkF spjN)).add 23 (mkF spTrue)).add 31 (mkF spjSm)).withFrz [(52, [.by8])]
theorem okZ1 : COKs Tryd.prog gl0 Z1 := ((((((okX6.add cjF).add cjA1).add cjCo).add cjN).add cjY).add cjSm).withFrz _
/-- A state of the law: so many rounds are done; what the disk holds; which entries there should be. -/
structure LJ where
  i : Nat
  g : BitVec 64
  a : Int
  n : Nat
  F : Nat → By
  L : By
  w : Int
def LJ.ok (s : LJ) (sz : Nat) : Prop := Inv sz (arZ sz) s.a s.g s.n s.F s.L ∧ 0 ≤ s.w ∧ s.w ≤ 2 + 100 * s.i ∧ s.g.toNat ≤ s.i + 1 ∧ s.i ≤ 120
def jnK (g : BitVec 64) (a s z : Int) (n : Nat) : ABlk := ⟨.cells [.ptr 101 0 0 0, .u64 g, .int .i64 a, .int .i64 s, .int .i64 z, .slice 103 0 1 n .ow .unk, .bool false], true, 0⟩
def dkK (sz : Nat) (w : Int) : ABlk := ⟨.cells [.slice 102 0 64 sz .ow (.is false), .bool true, .int .i64 w, .int .i64 (-1), .int .i64 0], true, 0⟩
/-- The same behind what a round appends. -/
def LJ.ok2 (s : LJ) (sz N i0 : Nat) : Prop := Inv sz (arZ sz) s.a s.g s.n s.F s.L ∧ 0 ≤ s.w ∧ s.w ≤ 2 + 100 * (i0 + 1 : Nat) ∧ s.g.toNat ≤ i0 + 2 ∧ i0 < 120 ∧ i0 < N ∧ s.i = i0
def lsLK (sz N i0 : Nat) (nn : Int) : LS := ⟨LJ, fun s => [(1, .int .i64 nn), (5, .ptr 101 0 0 0), (7, .ptr 100 0 0 0), (9, .slice 104 0 1 s.n .ow .unk), (10, .int .i64 i0)],
  fun s => [(100, jnK s.g s.a ((s.g.toNat % 2 : Nat) : Int) (arZ sz) s.n), (101, dkK sz s.w), (102, dkL s.L), (103, enR s.n s.F), (104, enR s.n s.F)], 1000, fun _ => 0, fun s => LJ.ok2 s sz N i0, fun _ => []⟩
/-- What a round appends. -/
def bI (i : Nat) : By := [BitVec.ofInt 8 (i : Int), BitVec.ofInt 8 ((i : Int).fdiv (Int.ofNat 256)), BitVec.ofNat 8 1]
def lsLB (sz : Nat) (nn : Int) (s : LJ) : LS := ⟨Unit, fun _ => [(1, .int .i64 nn), (5, .ptr 101 0 0 0), (7, .ptr 100 0 0 0), (9, .slice 104 0 1 s.n .ow .unk), (10, .int .i64 s.i), (11, .rb true (bI s.i) .unk)],
  fun _ => [(100, jnK s.g s.a ((s.g.toNat % 2 : Nat) : Int) (arZ sz) s.n), (101, dkK sz s.w), (102, dkL s.L), (103, enR s.n s.F), (104, enR s.n s.F)], 1000, fun _ => 0, fun _ => True, fun _ => []⟩
def lsLJ (sz N : Nat) (nn : Int) : LS := ⟨LJ, fun s => [(1, .int .i64 nn), (5, .ptr 101 0 0 0), (7, .ptr 100 0 0 0), (9, .slice 104 0 1 s.n .ow .unk), (10, .int .i64 s.i)],
  fun s => [(100, jnK s.g s.a ((s.g.toNat % 2 : Nat) : Int) (arZ sz) s.n), (101, dkK sz s.w), (102, dkL s.L), (103, enR s.n s.F), (104, enR s.n s.F)], 1000, fun s => N - s.i, fun s => LJ.ok s sz ∧ s.i ≤ N, fun s => [(20019, lsLK sz N s.i nn), (20010, lsLB sz nn s)]⟩
end Go.Sym
