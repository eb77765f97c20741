/- One entry more, behind others; the whole of an area. -/
import Derived.Test.YtmpgpbbaloiniaaDoorJouE
namespace Go.Sym
open Go.Proofs Go.Spec
set_option linter.unusedVariables false
set_option maxRecDepth 100000 in
theorem vjA1 (sz n M : Nat) (w w2 a s z e : Int) (g : BitVec 64) (L L2 b : By) (F F2 : Nat → By) : bodyP Tryd.prog (W6.withFrz [(61, [.by8]), (74, [.by8])]) gl0 [] [] 3000 Tryd.f28 4 [.ptr 0 0 0 0, .rb false b .unk] [jnA g a s z n, dkB sz w, dkL L, enR n F] (retQ Tryd.prog Tryd.f28 4 ⟨[], .int .i64 e, [some (some ⟨.cells [.ptr 1 0 0 0, .u64 g, .int .i64 a, .int .i64 s, .int .i64 z, .slice 4 0 1 M .ow .unk, .bool false], true, 0⟩), some (some (dkB sz w2)), some (some (dkL L2)), some none], [enR M F2]⟩) = (
let x1 := 0 = 0 ∧ g = g ∧ a = a ∧ s = s ∧ z = z ∧ 0 = 0 ∧ 0 = 0 ∧ 0 = 0 ∧ M = n ∧ Bool.false = Bool.false ∧ Bool.false = Bool.false ∧ 0 = 0 ∧ 0 = 0 ∧ 0 = 0 ∧ sz = sz ∧ Bool.true = Bool.true ∧ w2 = w ∧ Int.negSucc 0 = Int.negSucc 0 ∧ (0 : Int) = (0 : Int) ∧ L2 = L ∧ M = n ∧ (∀ (y : Nat), y < M → datas Bool.false [AV.rb Bool.true (F2 y) NL.unk] = Bool.true ∧ [AV.rb Bool.true (F y) NL.unk] = [AV.rb Bool.true (F2 y) NL.unk]) ∧ True; let x2 := fun (y : Nat) => [AV.rb Bool.true (F y) NL.unk]; let x3 := ∀ (y : Nat), y < n → datas Bool.false [AV.rb Bool.true (F y) NL.unk] = Bool.true; let x4 := IntKind.i64.wrap ((↑n : Int) + (↑(needN (↑(List.length b) : Int).toNat) : Int)); let x5 := ∀ (y : Nat), y < n → outs Bool.true [AV.rb Bool.true (F y) NL.unk] = Bool.true; let x6 := ∀ (y : Nat), y < M → outs Bool.true [AV.rb Bool.true (F2 y) NL.unk] = Bool.true; x3 ∧ x5 ∧ @Bool.rec (fun _ => Prop) (x6 ∧ e = (1 : Int) ∧ x1) (@Bool.rec (fun _ => Prop) ((0 : Int) ≤ (↑(List.length b) : Int) ∧ (↑(List.length b) : Int) < (1099511627776 : Int) ∧ x3 ∧ x3 ∧ x5 ∧ 0 + n ≤ n ∧ (∀ (y : Nat), y < n → datas Bool.false [AV.rb Bool.true (F y) NL.unk] = Bool.true ∧ [AV.rb Bool.true (F y) NL.unk].length ≤ 1) ∧ n < 1099511627776 ∧ (∀ (i : Nat), i < n → List.length (F i) ≤ 46) ∧ x2 = x2 ∧ x5 ∧ @Bool.rec (fun _ => Prop) (0 + n ≤ n ∧ (∀ (y : Nat), y < n → datas Bool.false [AV.rb Bool.true (F y) NL.unk] = Bool.true ∧ [AV.rb Bool.true (F y) NL.unk].length ≤ 1) ∧ n < 1099511627776 ∧ (∀ (i : Nat), i < n → List.length (F i) ≤ 46) ∧ x2 = x2 ∧ (0 : Int) ≤ (↑(List.length b) : Int) ∧ (↑(List.length b) : Int) < (1099511627776 : Int) ∧ x3 ∧ x3 ∧ List.length L = sz * 64 ∧ (x4 < z → (0 : Int) ≤ plJ a z x4 ∧ plJ a z x4 < (↑sz : Int) ∧ nqS (jSec a z x4 L) ≤ (46 : Int)) ∧ rdN g z x4 (IntKind.i64.wrap ((↑n : Int) + (1 : Int))) (jSec a z x4 L) = Bool.true ∧ (n = n ∧ x2 = x2) ∧ x5 ∧ List.length b < 1099511627776 ∧ needN (List.length b) * 64 = List.length (enB g (↑n : Int) b) ∧ List.length L = sz * 64 ∧ (0 : Int) ≤ plJ a z (↑n : Int) ∧ List.length (enB g (↑n : Int) b) % 64 = 0 ∧ plJ a z (↑n : Int) * (64 : Int) + (↑(List.length (enB g (↑n : Int) b)) : Int) ≤ (↑sz : Int) * (64 : Int) ∧ List.length (enB g (↑n : Int) b) < 1099511627776 ∧ (0 : Int) ≤ w ∧ w < (2305843009213693952 : Int) ∧ sz < 1099511627776 ∧ List.length b < 1099511627776 ∧ List.length b = List.length b ∧ n = n ∧ roomFor n 1 24 ∧ x6 ∧ e = (0 : Int) ∧ 0 = 0 ∧ g = g ∧ a = a ∧ s = s ∧ z = z ∧ 0 = 0 ∧ 0 = 0 ∧ 0 = 0 ∧ M = n + 1 ∧ Bool.false = Bool.false ∧ Bool.false = Bool.false ∧ 0 = 0 ∧ 0 = 0 ∧ 0 = 0 ∧ sz = sz ∧ Bool.true = Bool.true ∧ w2 = w + (↑(List.length (enB g (↑n : Int) b) / 64) : Int) ∧ Int.negSucc 0 = Int.negSucc 0 ∧ (0 : Int) = (0 : Int) ∧ L2 = dPut L (plJ a z (↑n : Int)).toNat (enB g (↑n : Int) b) ∧ M = n + 1 ∧ (∀ (y : Nat), y < M → datas Bool.false [AV.rb Bool.true (F2 y) NL.unk] = Bool.true ∧ glue x2 n (cut 1 (List.take 1 (List.drop 0 [AV.rb Bool.true b NL.unk]))) y = [AV.rb Bool.true (F2 y) NL.unk]) ∧ True) (x6 ∧ e = (5 : Int) ∧ x1) (decide (IntKind.i64.wrap (z - (↑n : Int)) < (↑(needN (↑(List.length b) : Int).toNat) : Int)))) (x6 ∧ e = (1 : Int) ∧ x1) !decide ((↑(List.length b) : Int) ≤ (4096 : Int))) (decide ((1 : Int) ≤ (↑(List.length b) : Int))) : Prop) := by kernel_rfl
end Go.Sym

set_option linter.unusedSimpArgs false
namespace Go.Spec
/-- One more behind n. -/
def oneM (n : Nat) (F : Nat → By) (b : By) (i : Nat) : By := if i < n then F i else b
end Go.Spec
namespace Go.Sym
open Go.Proofs Go.Spec
set_option linter.unusedVariables false
def jnM (g : BitVec 64) (a s z : Int) (n : Nat) : ABlk := ⟨.cells [.ptr 1 0 0 0, .u64 g, .int .i64 a, .int .i64 s, .int .i64 z, .slice 4 0 1 n .ow .unk, .bool false], true, 0⟩
theorem glue_1 {E : Nat → By} (n y : Nat) (B : By) (hy : y < n + 1) : glue (fun j => [AV.rb true (E j) NL.unk]) n (cut 1 (List.take 1 (List.drop 0 [AV.rb true B NL.unk]))) y = [AV.rb true (oneM n E B y) NL.unk] := by
  unfold glue oneM
  by_cases c : y < n
  · simp only [if_pos c]
  · simp only [if_neg c]
    have : y = n := by omega
    subst this
    rw [Nat.sub_self]
    rfl
theorem bjA1 (sz n : Nat) (w a s z : Int) (g : BitVec 64) (L b : By) (F : Nat → By) (hb1 : 1 ≤ b.length) (hb2 : b.length ≤ 46) (hF : ∀ i, i < n → (F i).length ≤ 46) (hL : L.length = sz * 64) (hz : (n : Int) < z) (hz2 : z < 1099511627776) (h1 : (n : Int) + 1 < z → 0 ≤ plJ a z (n + 1) ∧ plJ a z (n + 1) < sz ∧ nqS (jSec a z (n + 1) L) ≤ 46) (hr : rdN g z (n + 1) (n + 1) (jSec a z (n + 1) L) = true) (hp : 0 ≤ plJ a z n) (hp2 : plJ a z n < sz) (hw : 0 ≤ w) (hw2 : w < 1152921504606846976) (hs : sz < 1099511627776) :
    Must (bodyP Tryd.prog (W6.withFrz [(61, [.by8]), (74, [.by8])]) gl0 [] [] 3000 Tryd.f28 4 [.ptr 0 0 0 0, .rb false b .unk] [jnA g a s z n, dkB sz w, dkL L, enR n F] (retQ Tryd.prog Tryd.f28 4 ⟨[], .int .i64 0, [some (some (jnM g a s z (n + 1))), some (some (dkB sz (w + 1))), some (some (dkL (dPut L (plJ a z n).toNat (enB g n b)))), some none], [enR (n + 1) (oneM n F b)]⟩)) := by
  constructor
  unfold jnM
  rw [vjA1]
  have hn : needN b.length = 1 := need_1 hb2
  have hE := enB_len g n b
  rw [hn] at hE
  have ez : IntKind.i64.wrap (z - (n : Int)) = z - n := wrap_i64 (by omega) (by omega)
  have e1 : IntKind.i64.wrap ((n : Int) + 1) = (n : Int) + 1 := wrap_i64 (by omega) (by omega)
  have e2 : IntKind.i64.wrap ((n : Int) + (needN (b.length : Int).toNat : Int)) = (n : Int) + 1 := by
    rw [Int.toNat_natCast, hn]; exact e1
  rw [e2, e1, hn, hE, ez, Int.toNat_natCast, hn]
  have hrow : ∀ y, y < n → datas false [AV.rb true (F y) NL.unk] = true ∧ [AV.rb true (F y) NL.unk].length ≤ 1 := fun y hy => ⟨rfl, Nat.le_refl _⟩
  intro x1 x2 x3 x4 x5 x6
  have h3 : x3 := fun y _ => rfl
  have h5 : x5 := fun y _ => rfl
  have h6 : x6 := fun y _ => rfl
  have q4 : x4 = (n : Int) + 1 := rfl
  clear_value x1 x3 x4 x5 x6
  subst q4
  refine ⟨h3, h5, brec (fun c => brec (fun c => absurd hb2 (by have := ntr c; omega)) (fun c => ?_)) (fun c => absurd hb1 (by have := dfl c; omega))⟩
  refine ⟨by omega, by omega, h3, h3, h5, by omega, hrow, by omega, hF, rfl, h5, brec (fun c => absurd hz (by have := dtr c; omega)) (fun c => ?_)⟩
  exact ⟨by omega, hrow, by omega, hF, rfl, by omega, by omega, h3, h3, hL, h1, hr, ⟨rfl, rfl⟩, h5, by omega, rfl, hL, hp, rfl, by omega, by omega, hw, by omega, hs, by omega, rfl, rfl, by unfold roomFor; omega, h6, rfl, rfl, rfl, rfl, rfl, rfl, rfl, rfl, rfl, rfl, rfl, rfl, rfl, rfl, rfl, rfl, rfl, by omega, rfl, rfl, rfl, rfl, fun y hy => ⟨rfl, glue_1 n y b hy⟩, trivial⟩
theorem bjA2 (sz n : Nat) (w a s z : Int) (g : BitVec 64) (L b : By) (F : Nat → By) (hb1 : 1 ≤ b.length) (hb2 : b.length ≤ 46) (hF : ∀ i, i < n → (F i).length ≤ 46) (hz : (n : Int) = z) (hz2 : z < 1099511627776) :
    Must (bodyP Tryd.prog (W6.withFrz [(61, [.by8]), (74, [.by8])]) gl0 [] [] 3000 Tryd.f28 4 [.ptr 0 0 0 0, .rb false b .unk] [jnA g a s z n, dkB sz w, dkL L, enR n F] (retQ Tryd.prog Tryd.f28 4 ⟨[], .int .i64 5, [some (some (jnM g a s z n)), some (some (dkB sz w)), some (some (dkL L)), some none], [enR n F]⟩)) := by
  constructor
  unfold jnM
  rw [vjA1]
  have hn : needN b.length = 1 := need_1 hb2
  have ez : IntKind.i64.wrap (z - (n : Int)) = z - n := wrap_i64 (by omega) (by omega)
  rw [ez, Int.toNat_natCast, hn]
  have hrow : ∀ y, y < n → datas false [AV.rb true (F y) NL.unk] = true ∧ [AV.rb true (F y) NL.unk].length ≤ 1 := fun y hy => ⟨rfl, Nat.le_refl _⟩
  intro x1 x2 x3 x4 x5 x6
  have h3 : x3 := fun y _ => rfl
  have h5 : x5 := fun y _ => rfl
  have h6 : x6 := fun y _ => rfl
  have h1 : x1 := ⟨rfl, rfl, rfl, rfl, rfl, rfl, rfl, rfl, rfl, rfl, rfl, rfl, rfl, rfl, rfl, rfl, rfl, rfl, rfl, rfl, rfl, fun y _ => ⟨rfl, rfl⟩, trivial⟩
  clear_value x1 x3 x4 x5 x6
  refine ⟨h3, h5, brec (fun c => brec (fun c => absurd hb2 (by have := ntr c; omega)) (fun c => ?_)) (fun c => absurd hb1 (by have := dfl c; omega))⟩
  exact ⟨by omega, by omega, h3, h3, h5, by omega, hrow, by omega, hF, rfl, h5, brec (fun c => ⟨h6, rfl, h1⟩) (fun c => absurd hz (by have := dfl c; omega))⟩
end Go.Sym

set_option linter.unusedSimpArgs false
namespace Go.Sym
open Go.Proofs Go.Spec
set_option linter.unusedVariables false
/-- Where an entry is put behind n others, and nothing stands behind it. -/
structure apOk (sz n : Nat) (w a z : Int) (g : BitVec 64) (L : By) : Prop where
  hL : L.length = sz * 64
  h1 : (n : Int) + 1 < z → 0 ≤ plJ a z (n + 1) ∧ plJ a z (n + 1) < sz ∧ nqS (jSec a z (n + 1) L) ≤ 46
  hr : rdN g z (n + 1) (n + 1) (jSec a z (n + 1) L) = true
  hp : 0 ≤ plJ a z n
  hp2 : plJ a z n < sz
  hw : 0 ≤ w
  hw2 : w < 1152921504606846976
  hs : sz < 1099511627776
structure apB (n : Nat) (z : Int) (b : By) (F : Nat → By) : Prop where
  b1 : 1 ≤ b.length
  b2 : b.length ≤ 46
  hF : ∀ i, i < n → (F i).length ≤ 46
  hz : (n : Int) ≤ z
  hz2 : z < 1099511627776
def rApp (sz n : Nat) (w a s z e : Int) (g : BitVec 64) (L : By) (F : Nat → By) : RL := ⟨[], .int .i64 e, [some (some (jnM g a s z n)), some (some (dkB sz w)), some (some (dkL L)), some none], [enR n F]⟩
noncomputable def gjA1 (xs : List AV) (bs : List ABlk) : TL := match xs, bs with
  | [.ptr 0 0 0 0, .rb false b .unk], [⟨.cells [.ptr 1 0 0 0, .u64 g, .int .i64 a, .int .i64 s, .int .i64 z, .slice 3 0 1 n .ow .unk, .bool false], true, 0⟩, ⟨.cells [.slice 2 0 64 sz .ow (.is false), .bool true, .int .i64 w, .int .i64 (-1), .int .i64 0], true, 0⟩, ⟨.bytes L, true, 64⟩, ⟨.rows 1 m G, true, 1⟩] =>
    .br (decide ((n : Int) < z)) (.ok { rApp sz (n + 1) (w + 1) a s z 0 g (dPut L (plJ a z n).toNat (enB g n b)) (oneM n (rowF G) b) with ob := [m = n, G = fun i => [.rb true (rowF G i) .unk], apB n z b (rowF G), apOk sz n w a z g L] })
      (.ok { rApp sz n w a s z 5 g L (rowF G) with ob := [m = n, G = fun i => [.rb true (rowF G i) .unk], apB n z b (rowF G)] })
  | _, _ => .no
noncomputable def spjA1 : Spec := ⟨[.kp, .by0], fun xs h => reachX h 200 (namesL (xs.take 1)) [], kinds, gjA1⟩
theorem cjA1 : COK Tryd.prog gl0 28 (mkF spjA1) := by
  refine ctrE (fn := Tryd.f28) [] 3000 (by kernel_rfl) (by kernel_rfl) (okW6.withFrz [(61, [.by8]), (74, [.by8])]) (by kernel_rfl) (fun args w => by kernel_rfl) fun xs bs r hs ho => ?_
  replace hs : (gjA1 xs bs).sel = some r := hs
  unfold gjA1 at hs
  split at hs
  · rename_i b g a s z n sz w L m G
    cases hb : decide ((n : Int) < z) <;> rw [hb] at hs
    · have hb := of_decide_eq_false hb
      simp only [TL.sel, Option.some.injEq] at hs
      subst hs
      obtain ⟨h1, ho⟩ := obsT_cons.1 ho
      obtain ⟨h2, ho⟩ := obsT_cons.1 ho
      have h3 := obsT_one.1 ho
      subst h1
      generalize rowF G = F at *
      subst h2
      exact ⟨_, bjA2 sz m w a s z g L b F h3.b1 h3.b2 h3.hF (by have := h3.hz; omega) h3.hz2⟩
    · have hb := of_decide_eq_true hb
      simp only [TL.sel, Option.some.injEq] at hs
      subst hs
      obtain ⟨h1, ho⟩ := obsT_cons.1 ho
      obtain ⟨h2, ho⟩ := obsT_cons.1 ho
      obtain ⟨h3, ho⟩ := obsT_cons.1 ho
      have h4 := obsT_one.1 ho
      subst h1
      generalize rowF G = F at *
      subst h2
      exact ⟨_, bjA1 sz m w a s z g L b F h3.b1 h3.b2 h3.hF h4.hL hb h3.hz2 h4.h1 h4.hr h4.hp h4.hp2 h4.hw h4.hw2 h4.hs⟩
  · simp [TL.sel] at hs
end Go.Sym

namespace Go.Spec
open Go.Sym
/-- The entries of an area, side by side. -/
noncomputable def imB (g : BitVec 64) (F : Nat → By) : Nat → By
  | 0 => []
  | i + 1 => imB g F i ++ enB g i (F i)
theorem imB_len (g : BitVec 64) (F : Nat → By) : ∀ n, (∀ i, i < n → (F i).length ≤ 46) → (imB g F n).length = n * 64
  | 0, _ => rfl
  | n + 1, h => by
    rw [imB, List.length_append, imB_len g F n (fun i hi => h i (by omega)), enB_len, need_1 (h n (by omega))]
    omega
end Go.Spec
namespace Go.Sym
open Go.Proofs Go.Spec
set_option linter.unusedVariables false
noncomputable def lsIm (n : Nat) (g : BitVec 64) (a z : Int) (F : Nat → By) : LS := ⟨Nat, fun i => [(2, .int .i64 z), (3, .ptr 100 0 0 0), (7, .slice 101 0 1 (imB g F i).length .ow .unk), (10, .ros false 1 n (fun j => [.rb true (F j) .unk]) .unk), (11, .int .i64 n), (12, .int .i64 i)],
  fun i => [(100, ⟨.cells [.u64 g, .int .i64 a], true, 0⟩), (101, ⟨.bytes (imB g F i), true, 1⟩)], 1000, fun i => n - i, fun i => i ≤ n, fun _ => []⟩
end Go.Sym

namespace Go.Sym
open Go.Proofs Go.Spec
set_option linter.unusedVariables false
set_option maxRecDepth 100000 in
theorem vjI (n k : Nat) (g : BitVec 64) (a z : Int) (F : Nat → By) (B : By) : bodyP Tryd.prog W6 gl0 [] [(4, lsIm n g a z F)] 3000 Tryd.f64 0 [.agg [.u64 g, .int .i64 a], .ros false 1 n (fun j => [.rb true (F j) .unk]) .unk, .int .i64 z] [] (retQ Tryd.prog Tryd.f64 0 ⟨[], .slice 0 0 1 k .ow .unk, [], [⟨.bytes B, true, 1⟩]⟩) = (
(∃ (x : Nat), x.le n ∧ z = z ∧ 0 = 0 ∧ List.length (imB g F x) = 0 ∧ n = n ∧ (∀ (y : Nat), y < n → datas Bool.false [AV.rb Bool.true (F y) NL.unk] = Bool.true ∧ F y = F y ∧ True) ∧ (↑n : Int) = (↑n : Int) ∧ (↑x : Int) = (0 : Int) ∧ g = g ∧ a = a ∧ imB g F x = [] ∧ True) ∧ ∀ (x : Nat), let x1 := IntKind.i64.wrap (IntKind.i64.wrap (z * (64 : Int)) - (↑(List.length (imB g F x)) : Int)); x.le n → @Bool.rec (fun _ => Prop) ((0 : Int) ≤ x1 ∧ x1 < (9223372036854775808 : Int) ∧ List.length (imB g F x) = List.length (imB g F x) ∧ roomFor (List.length (imB g F x)) (List.replicate x1.toNat (0 : BitVec 8)).length 1 ∧ 0 = 0 ∧ 0 = 0 ∧ 0 = 0 ∧ k = List.length (imB g F x) + (List.replicate x1.toNat (0 : BitVec 8)).length ∧ B = imB g F x ++ List.replicate x1.toNat (0 : BitVec 8) ∧ True) ((0 : Int) ≤ (↑x : Int) ∧ (↑x : Int).toNat < n ∧ List.length (F (↑x : Int).toNat) < 1099511627776 ∧ needN (List.length (F (↑x : Int).toNat)) * 64 = List.length (enB g (↑x : Int) (F (↑x : Int).toNat)) ∧ List.length (imB g F x) = List.length (imB g F x) ∧ roomFor (List.length (imB g F x)) (List.length (enB g (↑x : Int) (F (↑x : Int).toNat))) 1 ∧ ∃ (y : Nat), n - y < n - x ∧ y.le n ∧ z = z ∧ 0 = 0 ∧ 0 = 0 ∧ 0 = 0 ∧ 0 = 0 ∧ List.length (imB g F y) = List.length (imB g F x) + List.length (enB g (↑x : Int) (F (↑x : Int).toNat)) ∧ n = n ∧ (∀ (y : Nat), y < n → datas Bool.false [AV.rb Bool.true (F y) NL.unk] = Bool.true ∧ F y = F y ∧ True) ∧ (↑n : Int) = (↑n : Int) ∧ (↑y : Int) = IntKind.i64.wrap ((↑x : Int) + (1 : Int)) ∧ g = g ∧ a = a ∧ imB g F y = imB g F x ++ enB g (↑x : Int) (F (↑x : Int).toNat) ∧ True) (decide ((↑x : Int) < (↑n : Int))) : Prop) := by kernel_rfl
end Go.Sym

set_option linter.unusedSimpArgs false
namespace Go.Spec
open Go.Sym
/-- The whole of an area. -/
noncomputable def imA (g : BitVec 64) (F : Nat → By) (n : Nat) (z : Int) : By := imB g F n ++ List.replicate (z * 64 - (n * 64 : Nat)).toNat 0
theorem imA_len {g : BitVec 64} {F : Nat → By} {n : Nat} {z : Int} (h : ∀ i, i < n → (F i).length ≤ 46) (hz : (n : Int) ≤ z) : (imA g F n z).length = (z * 64).toNat := by
  rw [imA, List.length_append, imB_len g F n h, List.length_replicate]
  omega
end Go.Spec
namespace Go.Sym
open Go.Proofs Go.Spec
set_option linter.unusedVariables false
theorem bjI (n : Nat) (g : BitVec 64) (a z : Int) (F : Nat → By) (hF : ∀ i, i < n → (F i).length ≤ 46) (hz : (n : Int) ≤ z) (hz2 : z < 1099511627776) : Must (bodyP Tryd.prog W6 gl0 [] [(4, lsIm n g a z F)] 3000 Tryd.f64 0 [.agg [.u64 g, .int .i64 a], .ros false 1 n (fun j => [.rb true (F j) .unk]) .unk, .int .i64 z] [] (retQ Tryd.prog Tryd.f64 0 ⟨[], .slice 0 0 1 (imA g F n z).length .ow .unk, [], [⟨.bytes (imA g F n z), true, 1⟩]⟩)) := by
  constructor
  rw [vjI]
  refine ⟨⟨0, Nat.zero_le _, rfl, rfl, rfl, rfl, fun y _ => ⟨rfl, rfl, trivial⟩, rfl, rfl, rfl, rfl, rfl, trivial⟩, fun x => ?_⟩
  intro x1 hx
  have hx : x ≤ n := hx
  have hi := imB_len g F x (fun i h => hF i (by omega))
  have q1 : x1 = z * 64 - (x * 64 : Nat) := by
    show IntKind.i64.wrap (IntKind.i64.wrap (z * 64) - ((imB g F x).length : Int)) = _
    rw [hi, wrap_i64 (x := z * 64) (by omega) (by omega), wrap_i64 (by omega) (by omega)]
  clear_value x1
  refine brec (fun c => ?_) (fun c => ?_)
  · have c := dtr c
    have hF' := hF x (by omega)
    have hE := enB_len g x (F x)
    rw [need_1 hF'] at hE
    rw [Int.toNat_natCast]
    exact ⟨by omega, by omega, by omega, by rw [need_1 hF', hE], rfl, by unfold roomFor; omega, x + 1, by omega, show x + 1 ≤ n by omega, rfl, rfl, rfl, rfl, rfl, by rw [imB, List.length_append], rfl, fun y _ => ⟨rfl, rfl, trivial⟩, rfl, (wrap_i64 (by omega) (by omega)).symm, rfl, rfl, rfl, trivial⟩
  · have c := dfl c
    obtain rfl : x = n := by omega
    subst q1
    exact ⟨by omega, by omega, rfl, by unfold roomFor; rw [List.length_replicate]; omega, rfl, rfl, rfl, by rw [imA, List.length_append], rfl, trivial⟩
noncomputable def gjI (xs : List AV) (bs : List ABlk) : TL := match xs, bs with
  | [.agg [.u64 g, .int .i64 a], .ros false 1 n G .unk, .int .i64 z], [] => .ok ⟨[∀ i, i < n → (rowF G i).length ≤ 46, (n : Int) ≤ z, z < 1099511627776, G = fun i => [.rb true (rowF G i) .unk]], .slice 0 0 1 (imA g (rowF G) n z).length .ow .unk, [], [⟨.bytes (imA g (rowF G) n z), true, 1⟩]⟩
  | _, _ => .no
noncomputable def spjI : Spec := ⟨[.kp, .r 1, .kp], fun _ _ => [], fun _ _ => [], gjI⟩
theorem cjI : COK Tryd.prog gl0 64 (mkF spjI) := by
  refine ctrE (fn := Tryd.f64) [] 3000 (by kernel_rfl) (by kernel_rfl) okW6 (by kernel_rfl) (fun args w => by kernel_rfl) fun xs bs r hs ho => ?_
  replace hs : (gjI xs bs).sel = some r := hs
  unfold gjI at hs
  split at hs
  · rename_i g a n G z
    simp only [TL.sel, Option.some.injEq] at hs
    subst hs
    obtain ⟨h1, ho⟩ := obsT_cons.1 ho
    obtain ⟨h2, ho⟩ := obsT_cons.1 ho
    obtain ⟨h3, ho⟩ := obsT_cons.1 ho
    have h4 := obsT_one.1 ho
    generalize rowF G = F at *
    subst h4
    exact ⟨_, bjI n g a z F h1 h2 h3⟩
  · simp [TL.sel] at hs
end Go.Sym
