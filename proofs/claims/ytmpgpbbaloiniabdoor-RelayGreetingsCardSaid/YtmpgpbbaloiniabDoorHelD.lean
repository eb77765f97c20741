/- A greeting whose last byte lacks is not read. -/
import Derived.Test.YtmpgpbbaloiniabDoorHelC
import Derived.Test.YtmpgpbbaloiniabDoorSymC
set_option linter.unusedSimpArgs false
namespace Go.Spec
open Go.Sym
theorem ve_short {L : By} {x : Nat} {w a z : Int} (h1 : 1 ≤ w) (h4 : w ≤ 4) (h : x + w.toNat ≤ L.length) (hl : L.length < x + w.toNat + beN (cutB L x w.toNat)) :
    veE L x 0 w a z = 2 ∧ veX L x 0 w = x + w.toNat ∧ veB L x 0 w a z = [] := by
  obtain ⟨k1, k2, k3⟩ := ui_ok h1 h4 h
  rw [cutB_eq h] at k3
  obtain ⟨j1, j2, j3⟩ := rd_short (L := L) (x := x + w.toNat) (m := ((beN (cutB L x w.toNat) : Nat) : Int)) (by omega) h (by simpa using hl)
  have hE : veE L x 0 w a z = 2 := by
    unfold veE
    rw [k1, k2, k3, j1, if_pos (by decide)]
  refine ⟨hE, ?_, ?_⟩
  · unfold veX
    rw [k1, k2, k3, j2]
  · unfold veB
    rw [if_neg (by rw [hE]; decide)]
/-- Where the parts of a greeting stand whose extensions are cut. -/
structure hdZ (c : Cli) (L : By) : Prop where
  l : L.length < 1099511627776
  a : beN (cutB L 0 2) = 771
  r : cutB L 2 32 = rg 32 c.R
  s0 : beN (cutB L 34 1) = c.s.length
  s1 : cutB L 35 c.s.length = c.s
  s2 : c.s.length ≤ 32
  v1 : vAt L (35 + c.s.length) (L.length - (35 + c.s.length)) 2 (chN c.L1 c.n1)
  z0 : beN (cutB L (37 + c.s.length + 2 * c.n1) 1) = 1
  z1 : cutB L (38 + c.s.length + 2 * c.n1) 1 = [0#8]
  e : 39 + c.s.length + 2 * c.n1 + 2 ≤ L.length
  x : L.length < 39 + c.s.length + 2 * c.n1 + 2 + beN (cutB L (39 + c.s.length + 2 * c.n1) 2)
end Go.Spec
namespace Go.Sym
open Go.Proofs Go.Spec
set_option linter.unusedVariables false
/-- A vector of which not all is there. -/
def gz20 (xs : List AV) (bs : List ABlk) : TL := match xs, bs with
  | [.ptr 0 0 0 0, .int .i64 w, .int .i64 a, .int .i64 z], [⟨.cells [.slice 1 x 1 n .ox .unk, .int .i64 0], true, 0⟩, ⟨.bytes L, true, 1⟩] =>
    .ok ⟨[x + n = L.length, L.length < 1099511627776, 1 ≤ w ∧ w ≤ 4, x + w.toNat ≤ L.length ∧ L.length < x + w.toNat + beN (cutB L x w.toNat)], .slice 2 0 1 0 .ow .unk, [some (some (rdC (x + w.toNat) (L.length - (x + w.toNat)) 2)), some (some (rdL L))], [⟨.bytes [], true, 1⟩]⟩
  | _, _ => .no
theorem cz20 : COK Tryd.prog gl0 26 (mkF (reSp 4 gz20)) := by
  refine ctrE (fn := Tryd.f26) [] 3000 (by kernel_rfl) (by kernel_rfl) okQz7 (by kernel_rfl) (fun args w => by kernel_rfl) fun xs bs r hs ho => ?_
  replace hs : (gz20 xs bs).sel = some r := hs
  unfold gz20 at hs
  split at hs
  · rename_i w a z x n L
    simp only [TL.sel, Option.some.injEq] at hs
    subst hs
    obtain ⟨h1, h2, h3, h4, h5⟩ := obs4 ho
    obtain ⟨k1, k2, k3⟩ := ve_short (L := L) (x := x) (w := w) (a := a) (z := z) h3.1 h3.2 h4 h5
    have h := bq20 L x n 0 w a z h1 h2
    rw [k1, k2, k3] at h
    exact ⟨_, h⟩
  · simp [TL.sel] at hs
noncomputable def Gz1 : Ctx := (((Qz11.add 48 (mkF (reSp 2 gt18))).add 47 (mkF (reSp 2 gt19))).add 26 (mkF (reSp 4 gz20))).add 29 (mkF (reSp 1 gq22))
theorem okGz1 : COKs Tryd.prog gl0 Gz1 := (((okQz11.add ct18).add ct19).add cz20).add cq22
end Go.Sym

namespace Go.Sym
open Go.Proofs Go.Spec
set_option linter.unusedVariables false
set_option maxRecDepth 100000 in
theorem vz95 (L : By) (x n y m : Nat) (e : Int) (c : Cli) : bodyP Tryd.prog Gz1 gl0 [] [] 3000 Tryd.f88 3 [.ptr 0 0 0 0, .fn 89 [] [.ptr 2 0 0 0]] [rdC x n 0, rdL L, bxG c] (retQ Tryd.prog Tryd.f88 3 ⟨[], .tup [], [some (some (rdC y m e)), some (some (rdL L)), some (some (bxG c))], []⟩) = (
x + n = List.length L ∧ List.length L < 1099511627776 ∧ ((1 : Int) ≤ (2 : Int) ∧ (2 : Int) ≤ (4 : Int)) ∧ (x + 2 ≤ List.length L ∧ List.length L < x + 2 + beN (cutB L x 2)) ∧ 0 = 0 ∧ 0 < 1099511627776 ∧ y = x + 2 ∧ 0 = 0 ∧ y = x + 2 ∧ m = List.length L - (x + 2) ∧ e = (2 : Int) ∧ L = L ∧ allP (fun (i : Nat) => c.R i = c.R i) 0 32 (c.s = c.s ∧ c.n1 = c.n1 ∧ (∀ (y : Nat), y < c.n1 → datas Bool.true [AV.int IntKind.i64 (c.L1 y)] = Bool.true ∧ c.L1 y = c.L1 y ∧ True) ∧ c.n2 = c.n2 ∧ (∀ (y : Nat), y < c.n2 → datas Bool.true [AV.int IntKind.i64 (c.L2 y)] = Bool.true ∧ c.L2 y = c.L2 y ∧ True) ∧ c.n3 = c.n3 ∧ (∀ (y : Nat), y < c.n3 → datas Bool.true [AV.int IntKind.i64 (c.L3 y)] = Bool.true ∧ c.L3 y = c.L3 y ∧ True) ∧ c.n4 = c.n4 ∧ (∀ (y : Nat), y < c.n4 → datas Bool.true [AV.int IntKind.i64 (c.L4 y)] = Bool.true ∧ c.L4 y = c.L4 y ∧ True) ∧ c.n5 = c.n5 ∧ (∀ (y : Nat), y < c.n5 → datas Bool.true [AV.int IntKind.i64 (c.G y), AV.rb Bool.true (c.K y) NL.unk] = Bool.true ∧ c.G y = c.G y ∧ c.K y = c.K y ∧ True) ∧ c.co = c.co ∧ c.mo = c.mo ∧ c.n6 = c.n6 ∧ (∀ (y : Nat), y < c.n6 → datas Bool.true [AV.rb Bool.true (c.T y) NL.unk, AV.int IntKind.i64 (c.A y)] = Bool.true ∧ c.T y = c.T y ∧ c.A y = c.A y ∧ True) ∧ c.n7 = c.n7 ∧ (∀ (y : Nat), y < c.n7 → datas Bool.true [AV.rb Bool.true (c.D y) NL.unk] = Bool.true ∧ c.D y = c.D y ∧ True) ∧ True) : Prop) := by kernel_rfl
end Go.Sym

set_option linter.unusedSimpArgs false
namespace Go.Sym
open Go.Proofs Go.Spec
set_option linter.unusedVariables false
theorem bz95 (L : By) (x n : Nat) (c : Cli) (h1 : x + n = L.length) (h2 : L.length < 1099511627776) (h3 : x + 2 ≤ L.length) (h4 : L.length < x + 2 + beN (cutB L x 2)) : Must (bodyP Tryd.prog Gz1 gl0 [] [] 3000 Tryd.f88 3 [.ptr 0 0 0 0, .fn 89 [] [.ptr 2 0 0 0]] [rdC x n 0, rdL L, bxG c] (retQ Tryd.prog Tryd.f88 3 ⟨[], .tup [], [some (some (rdC (x + 2) (L.length - (x + 2)) 2)), some (some (rdL L)), some (some (bxG c))], []⟩)) := by
  constructor
  rw [vz95]
  exact ⟨h1, h2, by decide, ⟨h3, h4⟩, rfl, by decide, rfl, rfl, rfl, rfl, rfl, rfl, sameC_of rfl trivial⟩
def gz95 (c : Cli) (xs : List AV) (bs : List ABlk) : TL := match xs, bs with
  | [.ptr 0 0 0 0, .fn 89 [] [.ptr 2 0 0 0]], [⟨.cells [.slice 1 x 1 n .ox .unk, .int .i64 0], true, 0⟩, ⟨.bytes L, true, 1⟩, ⟨.cells cs, true, 0⟩] =>
    .ok ⟨[x + n = L.length, L.length < 1099511627776, x + 2 ≤ L.length ∧ L.length < x + 2 + beN (cutB L x 2), cs = cliG c], .tup [], [some (some (rdC (x + 2) (L.length - (x + 2)) 2)), some (some (rdL L)), some (some (bxG c))], []⟩
  | _, _ => .no
theorem cz95 (c : Cli) : COK Tryd.prog gl0 88 (mkF (reSp 2 (gz95 c))) := by
  refine ctrE (fn := Tryd.f88) [] 3000 (by kernel_rfl) (by kernel_rfl) okGz1 (by kernel_rfl) (fun args w => by kernel_rfl) fun xs bs r hs ho => ?_
  replace hs : (gz95 c xs bs).sel = some r := hs
  unfold gz95 at hs
  split at hs
  · simp only [TL.sel, Option.some.injEq] at hs
    subst hs
    obtain ⟨h1, h2, h3, h4⟩ := obs4 ho
    subst h4
    exact ⟨_, bz95 _ _ _ c h1 h2 h3.1 h3.2⟩
  · simp [TL.sel] at hs
theorem bz89 (c : Cli) (L : By) (n : Nat) (h : hdZ c L) (hn : n = L.length) : Must (bodyP Tryd.prog Ga5 gl0 [] [] 3000 Tryd.f83 2 [.ptr 0 0 0 0] [rdC 0 n 0, rdL L] (retQ Tryd.prog Tryd.f83 2 (rHd c L))) := by
  constructor
  unfold rHd
  rw [vh89, h.a, h.r, h.s0, h.s1]
  have hl := h.l
  have hs := h.s2
  have hv := h.v1.b
  have e2 : (2 : Int).toNat = 2 := rfl
  have lR := rg_length 32 c.R
  refine ⟨by omega, hl, by decide, by omega, ?_⟩
  refine ⟨by omega, hl, by decide, by omega, lR.symm, by omega, hl, by decide, ⟨by omega, by omega, by omega⟩, allP_of 32 0 (fun i h1 h2 => ?_) ⟨rfl, rfl, rfl, rfl, rfl, rfl, rfl, rfl, rfl, rfl, rfl, trivial⟩⟩
  rw [if_pos (by omega), rg_getD 32 c.R i _ (by omega)]
def gz89 (c : Cli) (xs : List AV) (bs : List ABlk) : TL := match xs, bs with
  | [.ptr 0 0 0 0], [⟨.cells [.slice 1 0 1 n .ox .unk, .int .i64 0], true, 0⟩, ⟨.bytes L, true, 1⟩] => .ok { rHd c L with ob := [hdZ c L, n = L.length] }
  | _, _ => .no
theorem cz89 (c : Cli) : COK Tryd.prog gl0 83 (mkF (reSp 1 (gz89 c))) := by
  refine ctrE (fn := Tryd.f83) [] 3000 (by kernel_rfl) (by kernel_rfl) okGa5 (by kernel_rfl) (fun args w => by kernel_rfl) fun xs bs r hs ho => ?_
  replace hs : (gz89 c xs bs).sel = some r := hs
  unfold gz89 at hs
  split at hs
  · simp only [TL.sel, Option.some.injEq] at hs
    subst hs
    obtain ⟨h, h2⟩ := obsT_cons.1 ho
    exact ⟨_, bz89 c _ _ h (obsT_one.1 h2)⟩
  · simp [TL.sel] at hs
noncomputable def Gz2 (c : Cli) : Ctx := (((Ga6 c).add 83 (mkF (reSp 1 (gz89 c)))).add 88 (mkF (reSp 2 (gz95 (c.at 0))))).add 29 (mkF (reSp 1 gq22))
theorem okGz2 (c : Cli) : COKs Tryd.prog gl0 (Gz2 c) := (((okGa6 c).add (cz89 c)).add (cz95 (c.at 0))).add cq22
noncomputable def Gz3 (c : Cli) : Ctx := (Gz2 c).exe Tryd.prog gl0 [] 300 Tryd.f86.params.size 86 Tryd.f86
theorem okGz3 (c : Cli) : COKs Tryd.prog gl0 (Gz3 c) := (okGz2 c).exe [] 300 _ (by kernel_rfl) (by kernel_rfl) (by kernel_rfl) (fun args w => by kernel_rfl)
noncomputable def Gz4 (c : Cli) : Ctx := (Gz3 c).withFrz [(10, [.kp, .by8]), (16, [.r 1])]
theorem okGz4 (c : Cli) : COKs Tryd.prog gl0 (Gz4 c) := (okGz3 c).withFrz _
def lsZ47 (c : Cli) (L : By) : LS := ⟨Unit, fun _ => [(2, .ptr 103 0 0 0), (3, .int .i64 0), (4, .ptr 100 0 0 0), (5, .ptr 102 0 0 0)],
  fun _ => [(100, rdCn 101 (39 + c.s.length + 2 * c.n1) (L.length - (39 + c.s.length + 2 * c.n1))), (101, rdL L), (102, bxG (c.at 0)), (103, bxZ)], 1000, fun _ => 0, fun _ => c.ok, fun _ => []⟩
def rGz (c : Cli) : RL := ⟨[], .tup [.agg (cliG (c.at 0)), .int .i64 2], [], []⟩
def zCli : AV := .agg (cliC (fun _ => 0) [.nils, .nils, .nils, .nils, .nils, .nils, .nils, .nils, .nils, .nils])
end Go.Sym

namespace Go.Sym
open Go.Proofs Go.Spec
set_option linter.unusedVariables false
set_option maxRecDepth 100000 in
theorem vz47 (c : Cli) (L : By) : bodyP Tryd.prog (Gz4 c) gl0 [] [(10007, lsZ47 c L)] 3000 Tryd.f53 0 [.rb false L .unk] [] (retQ Tryd.prog Tryd.f53 0 (rGz c)) = (
let x1 := 35 + List.length c.s + 2 + List.length (vecB L (35 + List.length c.s) (2 : Int)); let x2 := L = L ∧ allP (fun (i : Nat) => (c.at 0).R i = c.R i) 0 32 ((c.at 0).s = c.s ∧ (c.at 0).n1 = List.length (vecB L (35 + List.length c.s) (2 : Int)) / 2 ∧ (∀ (y : Nat), y < (c.at 0).n1 → datas Bool.true [AV.int IntKind.i64 ((c.at 0).L1 y)] = Bool.true ∧ (c.at 0).L1 y = dN (vecB L (35 + List.length c.s) (2 : Int)) y ∧ True) ∧ (c.at 0).n2 = 0 ∧ (c.at 0).n3 = 0 ∧ (c.at 0).n4 = 0 ∧ (c.at 0).n5 = 0 ∧ (c.at 0).co = [] ∧ (c.at 0).mo = [] ∧ (c.at 0).n6 = 0 ∧ (c.at 0).n7 = 0 ∧ allP (fun (i : Nat) => (0 : BitVec 8) = BitVec.ofNat 8 0) 0 32 True); let x3 := 39 + List.length c.s + 2 * c.n1; let x4 := vecB L (35 + List.length c.s) (2 : Int); let x5 := x1 + 1 + beN (cutB L x1 1); List.length L < 1099511627776 ∧ hdZ c L ∧ List.length L = List.length L ∧ List.length c.s = List.length c.s ∧ vAt L (35 + List.length c.s) (List.length L - (35 + List.length c.s)) (2 : Int) x4 ∧ List.length x4 = 2 * (List.length x4 / 2) ∧ (↑(List.length x4 / 2) : Int) ≤ (8 : Int) ∧ 0 + List.length x4 / 2 ≤ List.length x4 / 2 ∧ (∀ (y : Nat), y < List.length x4 / 2 → datas Bool.true [AV.int IntKind.i64 (dN x4 y)] = Bool.true ∧ [AV.int IntKind.i64 (dN x4 y)].length ≤ 1) ∧ x1 + (List.length L - x1) = List.length L ∧ List.length L < 1099511627776 ∧ ((1 : Int) ≤ (1 : Int) ∧ (1 : Int) ≤ (4 : Int)) ∧ (x5 ≤ List.length L ∧ (1 : Int) ≤ (↑(beN (cutB L x1 1)) : Int) ∧ (↑(beN (cutB L x1 1)) : Int) ≤ (1 : Int)) ∧ beN (cutB L x1 1) = List.length (cutB L (x1 + 1) (beN (cutB L x1 1))) ∧ 1 = 1 ∧ @Bool.rec (fun _ => Prop) (∃ (y : Unit), c.ok ∧ 0 = 0 ∧ (0 : Int) = (0 : Int) ∧ 0 = 0 ∧ 0 = 0 ∧ x3 = x5 ∧ 0 = 0 ∧ x3 = x5 ∧ List.length L - x3 = List.length L - x5 ∧ (0 : Int) = (0 : Int) ∧ x2) (∃ (y : Unit), c.ok ∧ 0 = 0 ∧ (0 : Int) = (0 : Int) ∧ 0 = 0 ∧ 0 = 0 ∧ x3 = x5 ∧ 0 = 0 ∧ x3 = x5 ∧ List.length L - x3 = List.length L - x5 ∧ (0 : Int) = Int.ofNat 3 ∧ x2) !decide (cutB L (x1 + 1) (beN (cutB L x1 1)) = [BitVec.ofNat 8 0]) ∧ ∀ (x : Unit), c.ok → x3 + (List.length L - x3) = List.length L ∧ List.length L < 1099511627776 ∧ (x3 + 2 ≤ List.length L ∧ List.length L < x3 + 2 + beN (cutB L x3 2)) ∧ rgA (fun (i : Nat) => AV.u8 ((c.at 0).R i)) 0 32 [AV.rb Bool.true (c.at 0).s NL.unk, AV.ros Bool.true 1 (c.at 0).n1 (fun (j : Nat) => [AV.int IntKind.i64 ((c.at 0).L1 j)]) NL.unk, AV.ros Bool.true 1 (c.at 0).n2 (fun (j : Nat) => [AV.int IntKind.i64 ((c.at 0).L2 j)]) NL.unk, AV.ros Bool.true 1 (c.at 0).n3 (fun (j : Nat) => [AV.int IntKind.i64 ((c.at 0).L3 j)]) NL.unk, AV.ros Bool.true 1 (c.at 0).n4 (fun (j : Nat) => [AV.int IntKind.i64 ((c.at 0).L4 j)]) NL.unk, AV.ros Bool.true 2 (c.at 0).n5 (fun (j : Nat) => [AV.int IntKind.i64 ((c.at 0).G j), AV.rb Bool.true ((c.at 0).K j) NL.unk]) NL.unk, AV.rb Bool.true (c.at 0).co NL.unk, AV.rb Bool.true (c.at 0).mo NL.unk, AV.ros Bool.true 2 (c.at 0).n6 (fun (j : Nat) => [AV.rb Bool.true ((c.at 0).T j) NL.unk, AV.int IntKind.i64 ((c.at 0).A j)]) NL.unk, AV.ros Bool.true 1 (c.at 0).n7 (fun (j : Nat) => [AV.rb Bool.true ((c.at 0).D j) NL.unk]) NL.unk] = cliG (c.at 0) ∧ allP (fun (i : Nat) => (c.at 0).R i = (c.at 0).R i) 0 32 ((c.at 0).s = (c.at 0).s ∧ (c.at 0).n1 = (c.at 0).n1 ∧ (∀ (y : Nat), y < (c.at 0).n1 → datas Bool.true [AV.int IntKind.i64 ((c.at 0).L1 y)] = Bool.true ∧ (c.at 0).L1 y = (c.at 0).L1 y ∧ True) ∧ (c.at 0).n2 = (c.at 0).n2 ∧ (∀ (y : Nat), y < (c.at 0).n2 → datas Bool.true [AV.int IntKind.i64 ((c.at 0).L2 y)] = Bool.true ∧ (c.at 0).L2 y = (c.at 0).L2 y ∧ True) ∧ (c.at 0).n3 = (c.at 0).n3 ∧ (∀ (y : Nat), y < (c.at 0).n3 → datas Bool.true [AV.int IntKind.i64 ((c.at 0).L3 y)] = Bool.true ∧ (c.at 0).L3 y = (c.at 0).L3 y ∧ True) ∧ (c.at 0).n4 = (c.at 0).n4 ∧ (∀ (y : Nat), y < (c.at 0).n4 → datas Bool.true [AV.int IntKind.i64 ((c.at 0).L4 y)] = Bool.true ∧ (c.at 0).L4 y = (c.at 0).L4 y ∧ True) ∧ (c.at 0).n5 = (c.at 0).n5 ∧ (∀ (y : Nat), y < (c.at 0).n5 → datas Bool.true [AV.int IntKind.i64 ((c.at 0).G y), AV.rb Bool.true ((c.at 0).K y) NL.unk] = Bool.true ∧ (c.at 0).G y = (c.at 0).G y ∧ (c.at 0).K y = (c.at 0).K y ∧ True) ∧ (c.at 0).co = (c.at 0).co ∧ (c.at 0).mo = (c.at 0).mo ∧ (c.at 0).n6 = (c.at 0).n6 ∧ (∀ (y : Nat), y < (c.at 0).n6 → datas Bool.true [AV.rb Bool.true ((c.at 0).T y) NL.unk, AV.int IntKind.i64 ((c.at 0).A y)] = Bool.true ∧ (c.at 0).T y = (c.at 0).T y ∧ (c.at 0).A y = (c.at 0).A y ∧ True) ∧ (c.at 0).n7 = (c.at 0).n7 ∧ (∀ (y : Nat), y < (c.at 0).n7 → datas Bool.true [AV.rb Bool.true ((c.at 0).D y) NL.unk] = Bool.true ∧ (c.at 0).D y = (c.at 0).D y ∧ True) ∧ (2 : Int) = dnV (List.length L - (x3 + 2)) (2 : Int) ∧ True) : Prop) := by kernel_rfl
end Go.Sym

set_option linter.unusedSimpArgs false
namespace Go.Sym
open Go.Proofs Go.Spec
set_option linter.unusedVariables false
theorem bz47 (c : Cli) (L : By) (h : c.ok) (hb : hdZ c L) : Must (bodyP Tryd.prog (Gz4 c) gl0 [] [(10007, lsZ47 c L)] 3000 Tryd.f53 0 [.rb false L .unk] [] (retQ Tryd.prog Tryd.f53 0 (rGz c))) := by
  constructor
  rw [vz47]
  have hl := hb.l
  have hv := hb.v1
  have hvec := hv.vec
  have lN : (chN c.L1 c.n1).length = 2 * c.n1 := chN_len ..
  have h8 := h.h1
  have hvb := hv.b
  have e2 : (2 : Int).toNat = 2 := rfl
  intro x1 x2 x3 x4 x5
  have q3 : x4 = chN c.L1 c.n1 := hvec
  have q1 : x1 = 37 + c.s.length + 2 * c.n1 := by
    show 35 + c.s.length + 2 + (vecB L (35 + c.s.length) 2).length = _
    rw [hvec, lN]; omega
  have q5 : x5 = x3 := by
    show x1 + 1 + beN (cutB L x1 1) = 39 + c.s.length + 2 * c.n1
    rw [q1, hb.z0]; omega
  have hxe := hb.e
  have hxx := hb.x
  have q2 : x2 := by
    refine ⟨rfl, allP_of 32 0 (fun _ _ _ => rfl) ⟨rfl, ?_, fun y hy => ⟨rfl, ?_, trivial⟩, rfl, rfl, rfl, rfl, rfl, rfl, rfl, rfl, allP_of 32 0 (fun _ _ _ => rfl) trivial⟩⟩
    · show c.n1 = (vecB L (35 + c.s.length) 2).length / 2
      rw [hvec, lN]; omega
    · show c.L1 y = dN (vecB L (35 + c.s.length) 2) y
      rw [hvec]
      exact (dN_chN h.i1 hy).symm
  have z0 : beN (cutB L x1 1) = 1 := by rw [q1]; exact hb.z0
  have z1 : cutB L (x1 + 1) 1 = [0#8] := by
    have e : x1 + 1 = 38 + c.s.length + 2 * c.n1 := by omega
    rw [e]; exact hb.z1
  have q4 : x3 = 39 + c.s.length + 2 * c.n1 := rfl
  clear_value x1 x2 x3 x4 x5
  subst q3
  rw [z0, z1, lN]
  rw [lN] at hvb
  rw [← q4] at hxe hxx
  refine ⟨hl, hb, rfl, rfl, hv, by omega, by omega, by omega, fun _ _ => ⟨rfl, Nat.le_refl _⟩, by omega, hl, by decide, ⟨by omega, by omega, by omega⟩, rfl, rfl, ?_, fun _ _ => ⟨by omega, hl, ⟨hxe, hxx⟩, rfl, sameC_of rfl ⟨rfl, trivial⟩⟩⟩
  exact ⟨(), h, rfl, rfl, rfl, rfl, q5.symm, rfl, q5.symm, by rw [q5], rfl, q2⟩
/-- All of a greeting's bytes are read, or the last one lacks. -/
def gz18 (c : Cli) (xs : List AV) (bs : List ABlk) : TL := match xs, bs with
  | [.rb false L .unk], [] => .br (decide (L.length < c.by.length)) (.ok ⟨[c.ok, hdZ c L], .tup [zCli, .int .i64 2], [], []⟩) (.ok { rGc c with ob := [c.ok, L = c.by] })
  | _, _ => .no
def gz47 (c : Cli) (xs : List AV) (bs : List ABlk) : TL := match xs, bs with
  | [.rb false L .unk], [] => .ok { rGz c with ob := [c.ok, hdZ c L] }
  | _, _ => .no
theorem cz47 (c : Cli) : COK Tryd.prog gl0 53 (mkF ⟨[.by0], fun _ _ => [], fun _ _ => [], gz47 c⟩) := by
  refine ctrE (fn := Tryd.f53) [] 3000 (by kernel_rfl) (by kernel_rfl) (okGz4 c) (by kernel_rfl) (fun args w => by kernel_rfl) fun xs bs r hs ho => ?_
  replace hs : (gz47 c xs bs).sel = some r := hs
  unfold gz47 at hs
  split at hs
  · simp only [TL.sel, Option.some.injEq] at hs
    subst hs
    obtain ⟨h, h2⟩ := obsT_cons.1 ho
    exact ⟨_, bz47 c _ h (obsT_one.1 h2)⟩
  · simp [TL.sel] at hs
noncomputable def Gz5 (c : Cli) : Ctx := (Gz3 c).add 53 (mkF ⟨[.by0], fun _ _ => [], fun _ _ => [], gz47 c⟩)
theorem okGz5 (c : Cli) : COKs Tryd.prog gl0 (Gz5 c) := (okGz3 c).add (cz47 c)
set_option maxRecDepth 100000 in
theorem vz18 (c : Cli) (L : By) : bodyP Tryd.prog (Gz5 c) gl0 [] [] 3000 Tryd.f30 0 [.rb false L .unk] [] (retQ Tryd.prog Tryd.f30 0 ⟨[], .tup [zCli, .int .i64 2], [], []⟩) = (c.ok ∧ hdZ c L ∧ allP (fun (i : Nat) => (0 : BitVec 8) = BitVec.ofNat 8 0) 0 32 ((2 : Int) = 2 ∧ True)) := by kernel_rfl
theorem bz18 (c : Cli) (L : By) (h : c.ok) (hb : hdZ c L) : Must (bodyP Tryd.prog (Gz5 c) gl0 [] [] 3000 Tryd.f30 0 [.rb false L .unk] [] (retQ Tryd.prog Tryd.f30 0 ⟨[], .tup [zCli, .int .i64 2], [], []⟩)) := by
  constructor
  rw [vz18]
  exact ⟨h, hb, allP_of 32 0 (fun _ _ _ => rfl) ⟨rfl, trivial⟩⟩
def spz18 (c : Cli) : Spec := ⟨[.by0], fun _ _ => [], fun _ _ => [], gz18 c⟩
end Go.Sym

namespace Go.Sym
/-- A body keeps its contract; what it calls may depend on what it is called with. -/
theorem ctr_ok2 {P : Program} {gl : Gl} {f : FuncId} {fn : Func} {c : Code} {sp : Spec} (gs : List Nat) (fuel : Nat) (hf : P.funcs[f]? = some fn) (hb : fn.body = some c) (hok : fnOK fn sp gs c = true) (hmix : P.follows .mixedOrders = true)
    (hcall : ∀ args w, (callFunc f args).run P w = .ok (.enter f args) w)
    (h : ∀ zs bs r, (sp.G zs bs).sel = some r → obsT r.ob → ∃ Γ, COKs P gl Γ ∧ ∃ Q, Ends P gl fn bs.length r Q ∧ awp P Γ fn.ntmps bs.length fuel c [] Q (entS gl gs zs bs)) :
    COK P gl f (mkF sp) := by
  refine .inl ⟨hcall, ?_⟩
  intro M w κ hs hh zs vals fr r hG hMG hr hle hup hfr hgrho hfrG hvs hsel hobr
  unfold mkF at hsel
  rw [forceLN_eq] at hsel
  split at hsel
  · rename_i hc
    obtain ⟨hc1, hc2, hc3⟩ := hc
    split at hsel
    · rename_i o1 as2 hi1
      split at hsel
      · rename_i o2 bs2 hi2
        obtain ⟨q, hq1, hq2⟩ := TL.toT_sel hsel
        unfold rlT at hq2
        split at hq2
        · rename_i hl
          simp only [T.sel, Option.some.injEq] at hq2
          subst hq2
          obtain ⟨hoo, hoq⟩ := obsT_append.1 hobr
          obtain ⟨ho1, ho2⟩ := obsT_append.1 hoo
          have hSG : STR ≤ GB := by unfold STR GB; omega
          obtain ⟨hl1, hl2⟩ : bs2.length = (sp.io zs hs).length ∧ (sp.io zs hs).length = (sp.bk hs (sp.io zs hs)).length := by
            obtain ⟨κ2, vr, _⟩ := view_ker (hr.le hle) (callV (sp.io zs hs))
            obtain ⟨k1, k2, _⟩ := impBs_cls (hr.le hle) vr (by omega) _ _ bs2 o2 hi2 ho2
            exact ⟨k1, k2⟩
          obtain ⟨Γ, hΓ, Q, hE, hw⟩ := h as2 bs2 q hq1 hoq
          rw [hl1] at hw hE
          exact call_core hf hb hok hΓ hmix hG hMG hr hle hup hfr hgrho hfrG hvs hc1 hc2 hc3 hi1 hi2 ho1 ho2 hl.1 hl.2.1 hl.2.2 hE hw
        · simp [T.sel] at hq2
      · simp [T.sel] at hsel
    · simp [T.sel] at hsel
  · simp [T.sel] at hsel
theorem ctrE2 {P : Program} {gl : Gl} {f : FuncId} {fn : Func} {sp : Spec} (gs : List Nat) (fuel : Nat) (hf : P.funcs[f]? = some fn) (hok : (match fn.body with | some c => fnOK fn sp gs c | none => false) = true) (hmix : P.follows .mixedOrders = true)
    (hcall : ∀ args w, (callFunc f args).run P w = .ok (.enter f args) w)
    (h : ∀ zs bs r, (sp.G zs bs).sel = some r → obsT r.ob → ∃ Γ, COKs P gl Γ ∧ ∃ ls, Must (bodyP P Γ gl gs ls fuel fn bs.length zs bs (retQ P fn bs.length r))) :
    COK P gl f (mkF sp) := by
  cases hb : fn.body with
  | none => rw [hb] at hok; cases hok
  | some c =>
    rw [hb] at hok
    refine ctr_ok2 gs fuel hf hb hok hmix hcall fun zs bs r hs ho => ?_
    obtain ⟨Γ, hΓ, ls, hm⟩ := h zs bs r hs ho
    exact ⟨Γ, hΓ, _, ends_ret, bodyP_awp hb hm.out⟩
end Go.Sym

set_option linter.unusedSimpArgs false
namespace Go.Sym
open Go.Proofs Go.Spec
set_option linter.unusedVariables false
theorem cz18 (c : Cli) : COK Tryd.prog gl0 30 (mkF (spz18 c)) := by
  refine ctrE2 (fn := Tryd.f30) [] 3000 (by kernel_rfl) (by kernel_rfl) (by kernel_rfl) (fun args w => by kernel_rfl) fun xs bs r hs ho => ?_
  replace hs : (gz18 c xs bs).sel = some r := hs
  unfold gz18 at hs
  split at hs
  · rename_i L
    cases hb : decide (L.length < c.by.length) <;> rw [hb] at hs
    · simp only [TL.sel, Option.some.injEq] at hs
      subst hs
      obtain ⟨h, h2⟩ := obsT_cons.1 ho
      have h2 := obsT_one.1 h2
      subst h2
      exact ⟨_, okGb4 c, _, bx18 c h⟩
    · simp only [TL.sel, Option.some.injEq] at hs
      subst hs
      obtain ⟨h, h2⟩ := obsT_cons.1 ho
      exact ⟨_, okGz5 c, _, bz18 c L h (obsT_one.1 h2)⟩
  · simp [TL.sel] at hs
end Go.Sym

set_option linter.unusedSimpArgs false
namespace Go.Sym
open Go.Proofs Go.Spec
set_option linter.unusedVariables false
/-- A contract, asked with less that is known of the arguments. -/
theorem COKn.weak {P : Program} {gl : Gl} {f : FuncId} {F : Ctr} (t : List AV → List AV) (ht : ∀ κ zs vs, VRels κ zs vs → VRels κ (t zs) vs) (h : COKn P gl f F) : COKn P gl f (fun hs zs fr => F hs (t zs) fr) :=
  ⟨h.1, fun M w κ hs h' zs vals fr r a1 a2 a3 a4 a5 a6 a7 a8 hv hsel ho => h.2 M w κ hs h' (t zs) vals fr r a1 a2 a3 a4 a5 a6 a7 a8 (ht κ zs _ hv) hsel ho⟩
theorem COK.weak {P : Program} {gl : Gl} {f : FuncId} {F : Ctr} (t : List AV → List AV) (ht : ∀ κ zs vs, VRels κ zs vs → VRels κ (t zs) vs) (h : COK P gl f F) : COK P gl f (fun hs zs fr => F hs (t zs) fr) := by
  rcases h with h | h
  · exact .inl (h.weak t ht)
  · exact .inr fun M w κ hs h' zs vals fr r a1 a2 hv hsel ho => h M w κ hs h' (t zs) vals fr r a1 a2 (ht κ zs _ hv) hsel ho
/-- No rows are rows without anything. -/
def nlX (i : Nat) : AV → AV
  | .nils => (match i with
    | 34 => .ros true 1 0 (fun _ => [.int .i64 0]) (.is true)
    | 35 => .ros true 1 0 (fun _ => [.int .i64 0]) (.is true)
    | 36 => .ros true 1 0 (fun _ => [.int .i64 0]) (.is true)
    | 37 => .ros false 2 0 (fun _ => [.int .i64 0, .rb true [] (.is false)]) (.is true)
    | 40 => .ros false 2 0 (fun _ => [.rb true [] (.is false), .int .i64 0]) (.is true)
    | 41 => .ros true 1 0 (fun _ => [.rb true [] (.is false)]) (.is true)
    | _ => .nils)
  | a => a
theorem nlX_rel {κ : Ker} {a : AV} {v : Value} (i : Nat) (h : VRel κ a v) : VRel κ (nlX i a) v := by
  cases a <;> first | exact h | skip
  case nils =>
    have h : v = .slice none 0 0 := h
    subst h
    unfold nlX
    simp only
    split <;> first | exact rfl | exact ⟨none, 0, rfl, Nat.le_refl _, rfl, .inl rfl⟩
def nlC : Nat → List AV → List AV
  | _, [] => []
  | i, a :: l => nlX i a :: nlC (i + 1) l
theorem nlC_rel {κ : Ker} : ∀ (cs : List AV) (i : Nat) (vs : List Value), VRels κ cs vs → VRels κ (nlC i cs) vs
  | [], _, vs, h => h
  | a :: l, i, vs, h => by
    simp only [VRels] at h
    obtain ⟨v, vs', e, h1, h2⟩ := h
    simp only [nlC, VRels]
    exact ⟨v, vs', e, nlX_rel i h1, nlC_rel l _ vs' h2⟩
def nlA : List AV → List AV
  | [.agg cs] => [.agg (nlC 0 cs)]
  | zs => zs
theorem nlA_rel (κ : Ker) (zs : List AV) (vs : List Value) (h : VRels κ zs vs) : VRels κ (nlA zs) vs := by
  unfold nlA
  split
  · rename_i cs
    simp only [VRels] at h ⊢
    obtain ⟨v, vs', e, h1, h2⟩ := h
    refine ⟨v, vs', e, ?_, h2⟩
    obtain ⟨xs, e1, h3⟩ := h1
    exact ⟨xs, e1, nlC_rel cs 0 _ h3⟩
  · exact h
end Go.Sym
