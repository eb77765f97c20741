/- Entries read, entries copied. -/
import Derived.Test.YtmpgpbbaloiniaaDoorJouC
import Derived.Test.YtmpgpbbaloiniaaDoorShaB
import Derived.Test.YtmpgpbbaloiniaaDoorSymC
import Derived.Test.YtmpgpbbaloiniaaDoorShaA
namespace Go.Spec
/-- How many entries are read, from the k-th on. -/
noncomputable def cntJ (g : BitVec 64) (a z : Int) (L : By) : Nat → Nat → Nat
  | 0, k => k
  | f + 1, k => if rdN g z k k (jSec a z k L) then k else cntJ g a z L f (k + 1)
noncomputable def lenJ (g : BitVec 64) (a z : Int) (L : By) : Nat := cntJ g a z L z.toNat 0
/-- An entry. -/
def entJ (a z : Int) (L : By) (k : Nat) : By := rdB (jSec a z k L)
end Go.Spec
namespace Go.Sym
open Go.Proofs Go.Spec
set_option linter.unusedVariables false
noncomputable def U1 : Ctx := (((Ctx.none []).add 58 (mkF spjS)).add 104 (mkF spjr1)).withFrz [(29, [.by8])]
theorem okU1 : COKs Tryd.prog gl0 U1 := ((COKs.none.add cjS).add cjr1).withFrz _
def lsLd (g : BitVec 64) (a s z : Int) (N sz : Nat) (w : Int) (L : By) : LS := ⟨Nat, fun k => [(0, .ptr 0 0 0 0)],
  fun k => [(0, ⟨.cells [.ptr 1 0 0 0, .u64 g, .int .i64 a, .int .i64 s, .int .i64 z, .slice 100 0 1 k .ow .unk, .bool false], true, 0⟩), (1, dkB sz w), (2, dkL L), (100, enR k (entJ a z L))], 1000, fun k => N - k, fun k => k ≤ N, fun _ => []⟩
end Go.Sym

namespace Go.Sym
open Go.Proofs Go.Spec
set_option linter.unusedVariables false
set_option maxRecDepth 100000 in
theorem vjD (g : BitVec 64) (a s z w : Int) (N M sz : Nat) (L : By) (F : Nat → By) : bodyP Tryd.prog U1 gl0 [] [(2, lsLd g a s z N sz w L)] 3000 Tryd.f67 3 [.ptr 0 0 0 0] [jnN g a s z, dkB sz w, dkL L] (retQ Tryd.prog Tryd.f67 3 ⟨[], .int .i64 0, [some (some (jnA g a s z M)), some (some (dkB sz w)), some (some (dkL L))], [enR M F]⟩) = (
let x1 := fun (y : Nat) => [AV.rb Bool.true (entJ a z L y) NL.unk]; let x2 := (∀ (y : Nat), y < M → datas Bool.false [AV.rb Bool.true (F y) NL.unk] = Bool.true ∧ [AV.rb Bool.true (entJ a z L y) NL.unk] = [AV.rb Bool.true (F y) NL.unk]) ∧ True; (∃ (x : Nat), x.le N ∧ 0 = 0 ∧ 0 = 0 ∧ g = g ∧ a = a ∧ s = s ∧ z = z ∧ x = 0 ∧ Bool.false = Bool.false ∧ Bool.false = Bool.false ∧ 0 = 0 ∧ 0 = 0 ∧ 0 = 0 ∧ sz = sz ∧ Bool.true = Bool.true ∧ w = w ∧ Int.negSucc 0 = Int.negSucc 0 ∧ (0 : Int) = (0 : Int) ∧ L = L ∧ x = 0 ∧ True) ∧ ∀ (x : Nat), let x1_1 := (∀ (y : Nat), y < M → outs Bool.true [AV.rb Bool.true (F y) NL.unk] = Bool.true) ∧ (0 : Int) = (0 : Int) ∧ 0 = 0 ∧ g = g ∧ a = a ∧ s = s ∧ z = z ∧ 0 = 0 ∧ 0 = 0 ∧ 0 = 0 ∧ M = x ∧ Bool.false = Bool.false ∧ Bool.false = Bool.false ∧ 0 = 0 ∧ 0 = 0 ∧ 0 = 0 ∧ sz = sz ∧ Bool.true = Bool.true ∧ w = w ∧ Int.negSucc 0 = Int.negSucc 0 ∧ (0 : Int) = (0 : Int) ∧ L = L ∧ M = x ∧ x2; let x2 := (↑x : Int) < z → (0 : Int) ≤ plJ a z (↑x : Int) ∧ plJ a z (↑x : Int) < (↑sz : Int) ∧ nqS (jSec a z (↑x : Int) L) ≤ (46 : Int); x.le N → 0 + x ≤ x ∧ (∀ (y : Nat), y < x → datas Bool.false [AV.rb Bool.true (entJ a z L y) NL.unk] = Bool.true ∧ [AV.rb Bool.true (entJ a z L y) NL.unk].length ≤ 1) ∧ x < 1099511627776 ∧ (∀ (i : Nat), i < x → List.length (entJ a z L i) ≤ 46) ∧ x1 = x1 ∧ @Bool.rec (fun _ => Prop) ((∀ (y : Nat), y < x → datas Bool.false [AV.rb Bool.true (entJ a z L y) NL.unk] = Bool.true) ∧ List.length L = sz * 64 ∧ x2 ∧ (x = x ∧ x1 = x1) ∧ @Bool.rec (fun _ => Prop) (18 + (nqS (jSec a z (↑x : Int) L)).toNat ≤ List.length (jSec a z (↑x : Int) L) ∧ x = x ∧ roomFor x 1 24 ∧ ∃ (y : Nat), N - y < N - x ∧ y.le N ∧ 0 = 0 ∧ 0 = 0 ∧ g = g ∧ a = a ∧ s = s ∧ z = z ∧ 0 = 0 ∧ 0 = 0 ∧ 0 = 0 ∧ y = x + 1 ∧ Bool.false = Bool.false ∧ Bool.false = Bool.false ∧ 0 = 0 ∧ 0 = 0 ∧ 0 = 0 ∧ sz = sz ∧ Bool.true = Bool.true ∧ w = w ∧ Int.negSucc 0 = Int.negSucc 0 ∧ (0 : Int) = (0 : Int) ∧ L = L ∧ y = x + 1 ∧ (∀ (y_1 : Nat), y_1 < y → datas Bool.false [AV.rb Bool.true (entJ a z L y_1) NL.unk] = Bool.true ∧ glue x1 x (cut 1 (List.take 1 (List.drop 0 [AV.rb Bool.true (List.take (nqS (jSec a z (↑x : Int) L)).toNat (List.drop 18 (jSec a z (↑x : Int) L))) NL.unk]))) y_1 = [AV.rb Bool.true (entJ a z L y_1) NL.unk]) ∧ True) x1_1 (decide ((↑(nqS (jSec a z (↑x : Int) L)).toNat : Int) = (0 : Int)))) ((∀ (y : Nat), y < x → datas Bool.false [AV.rb Bool.true (entJ a z L y) NL.unk] = Bool.true) ∧ List.length L = sz * 64 ∧ x2 ∧ (x = x ∧ x1 = x1) ∧ x1_1) (rdN g z (↑x : Int) (↑x : Int) (jSec a z (↑x : Int) L)) : Prop) := by kernel_rfl
end Go.Sym

set_option linter.unusedSimpArgs false
namespace Go.Spec
variable {g : BitVec 64} {a z : Int} {L : By}
theorem cnt_ge : ∀ f k, k ≤ cntJ g a z L f k
  | 0, k => Nat.le_refl _
  | f + 1, k => by
    unfold cntJ
    split
    · exact Nat.le_refl _
    · exact Nat.le_trans (Nat.le_succ k) (cnt_ge f (k + 1))
theorem cnt_le : ∀ f k, cntJ g a z L f k ≤ k + f
  | 0, k => Nat.le_refl _
  | f + 1, k => by
    unfold cntJ
    split
    · omega
    · have := cnt_le f (k + 1); omega
theorem cnt_lt : ∀ f k j, k ≤ j → j < cntJ g a z L f k → rdN g z j j (jSec a z j L) = false
  | 0, k, j, h1, h2 => by simp only [cntJ] at h2; omega
  | f + 1, k, j, h1, h2 => by
    unfold cntJ at h2
    split at h2
    · omega
    · rename_i c
      rcases Nat.eq_or_lt_of_le h1 with e | e
      · subst e; simpa using c
      · exact cnt_lt f (k + 1) j e h2
theorem cnt_at : ∀ (f k : Nat), z ≤ (k : Int) + (f : Int) → rdN g z (cntJ g a z L f k) (cntJ g a z L f k) (jSec a z (cntJ g a z L f k) L) = true
  | 0, k, h => by
    simp only [cntJ]
    unfold rdN
    exact decide_eq_true (.inl (by omega))
  | f + 1, k, h => by
    unfold cntJ
    split
    · assumption
    · exact cnt_at f (k + 1) (by omega)
theorem len_lt {j : Nat} (h : j < lenJ g a z L) : rdN g z j j (jSec a z j L) = false := cnt_lt _ 0 j (Nat.zero_le _) h
theorem len_at : rdN g z (lenJ g a z L) (lenJ g a z L) (jSec a z (lenJ g a z L) L) = true := cnt_at _ 0 (by omega)
theorem len_le : lenJ g a z L ≤ z.toNat := by have := cnt_le (g := g) (a := a) (z := z) (L := L) z.toNat 0; unfold lenJ; omega
theorem rdN_f {num at' : Int} {q : By} (h : rdN g z at' num q = false) : at' < z ∧ 1 ≤ nqS q ∧ nqS q ≤ 4096 ∧ q = enB g num (rdB q) := by
  unfold rdN at h
  have h := of_decide_eq_false h
  simp only [not_or] at h
  obtain ⟨a1, a2, a3, a4, a5⟩ := h
  exact ⟨by omega, by omega, by omega, Classical.not_not.1 a5⟩
end Go.Spec
namespace Go.Sym
open Go.Proofs Go.Spec
set_option linter.unusedVariables false
theorem glue_e {E : Nat → By} (x y : Nat) (hy : y < x + 1) {B : By} (hB : E x = B) : glue (fun j => [AV.rb true (E j) NL.unk]) x (cut 1 (List.take 1 (List.drop 0 [AV.rb true B NL.unk]))) y = [AV.rb true (E y) NL.unk] := by
  unfold glue
  by_cases c : y < x
  · simp only [if_pos c]
  · simp only [if_neg c]
    have : y = x := by omega
    subst this
    rw [Nat.sub_self, hB]
    rfl
theorem bjD (g : BitVec 64) (a s z w : Int) (sz : Nat) (L : By) (hL : L.length = sz * 64) (hz : z < 1099511627776) (hk : ∀ k : Nat, (k : Int) < z → 0 ≤ plJ a z k ∧ plJ a z k < sz ∧ nqS (jSec a z k L) ≤ 46) :
    Must (bodyP Tryd.prog U1 gl0 [] [(2, lsLd g a s z (lenJ g a z L) sz w L)] 3000 Tryd.f67 3 [.ptr 0 0 0 0] [jnN g a s z, dkB sz w, dkL L] (retQ Tryd.prog Tryd.f67 3 ⟨[], .int .i64 0, [some (some (jnA g a s z (lenJ g a z L))), some (some (dkB sz w)), some (some (dkL L))], [enR (lenJ g a z L) (entJ a z L)]⟩)) := by
  constructor
  rw [vjD]
  have hle := len_le (g := g) (a := a) (z := z) (L := L)
  have hat := len_at (g := g) (a := a) (z := z) (L := L)
  have hlt := fun j (h : j < lenJ g a z L) => len_lt (g := g) (a := a) (z := z) (L := L) h
  generalize lenJ g a z L = N at *
  intro x1 x2
  have hx2 : x2 := ⟨fun y hy => ⟨rfl, rfl⟩, trivial⟩
  clear_value x2
  refine ⟨⟨0, Nat.zero_le _, rfl, rfl, rfl, rfl, rfl, rfl, rfl, rfl, rfl, rfl, rfl, rfl, rfl, rfl, rfl, rfl, rfl, rfl, rfl, trivial⟩, fun x => ?_⟩
  intro y1 y2 hx
  have hx : x ≤ N := hx
  have h2 : y2 := fun h => hk x h
  have h1 : x = N → y1 := by
    rintro rfl
    exact ⟨fun y hy => rfl, rfl, rfl, rfl, rfl, rfl, rfl, rfl, rfl, rfl, rfl, rfl, rfl, rfl, rfl, rfl, rfl, rfl, rfl, rfl, rfl, rfl, rfl, hx2⟩
  clear_value y1 y2
  have hlen : ∀ i, i < x → (entJ a z L i).length ≤ 46 := fun i hi => by
    obtain ⟨b1, b2, b3, b4⟩ := rdN_f (hlt i (by omega))
    have := (hk i b1).2.2
    unfold entJ rdB
    rw [List.length_take]
    omega
  refine ⟨by omega, fun y hy => ⟨rfl, Nat.le_refl _⟩, by omega, hlen, rfl, brec (fun c => ?_) (fun c => ?_)⟩
  · refine ⟨fun y hy => rfl, hL, h2, ⟨rfl, rfl⟩, h1 ?_⟩
    rcases Nat.lt_or_ge x N with e | e
    · rw [hlt x e] at c; cases c
    · omega
  · obtain ⟨b1, b2, b3, b4⟩ := rdN_f c
    obtain ⟨p1, p2, p3⟩ := hk x b1
    have hxN : x < N := by
      rcases Nat.lt_or_ge x N with e | e
      · exact e
      · have : x = N := by omega
        subst this
        rw [hat] at c; cases c
    have hs : (jSec a z x L).length = 64 := dGet_len (by omega)
    refine ⟨fun y hy => rfl, hL, h2, ⟨rfl, rfl⟩, brec (fun d => ?_) (fun d => ?_)⟩
    · have d := dtr d
      omega
    · refine ⟨by omega, rfl, by unfold roomFor; omega, x + 1, by omega, ?_, rfl, rfl, rfl, rfl, rfl, rfl, rfl, rfl, rfl, rfl, rfl, rfl, rfl, rfl, rfl, rfl, rfl, rfl, rfl, rfl, rfl, rfl, fun y hy => ⟨rfl, glue_e x y hy rfl⟩, trivial⟩
      show x + 1 ≤ N
      omega
end Go.Sym

namespace Go.Sym
open Go.Proofs Go.Spec
set_option linter.unusedVariables false
/-- What clones bytes. -/
def clA (l : By) : RL := ⟨[l.length < 1099511627776], .slice 0 0 1 l.length .ow .unk, [], [⟨.bytes l, true, 1⟩]⟩
noncomputable def Yz0 : Ctx := .none []
theorem okYz0 : COKs Tryd.prog gl0 Yz0 := COKs.none
end Go.Sym

namespace Go.Sym
open Go.Proofs Go.Spec
set_option linter.unusedVariables false
set_option maxRecDepth 100000 in
theorem vq72 (p b : Bool) (l M : By) (L : Nat) : bodyP Tryd.prog Yz0 gl0 [] [] 3000 Tryd.f62 0 [.rb p l (.is b)] [] (retQ Tryd.prog Tryd.f62 0 ⟨[], .slice 0 0 1 L .ow .unk, [], [⟨.bytes M, true, 1⟩]⟩) = (
@Bool.rec (fun _ => Prop) (0 = 0 ∧ roomFor 0 (List.length l) 1 ∧ 0 = 0 ∧ 0 = 0 ∧ 0 = 0 ∧ L = 0 + List.length l ∧ M = [] ++ l ∧ True) (L = 0 ∧ M = [] ∧ True) b : Prop) := by kernel_rfl
end Go.Sym

set_option linter.unusedSimpArgs false
namespace Go.Sym
open Go.Proofs Go.Spec
set_option linter.unusedVariables false
theorem bq72 (p b : Bool) (l : By) (hb : b = true → l = []) (hl : l.length < 1099511627776) : Must (bodyP Tryd.prog Yz0 gl0 [] [] 3000 Tryd.f62 0 [.rb p l (.is b)] [] (retQ Tryd.prog Tryd.f62 0 ⟨[], .slice 0 0 1 l.length .ow .unk, [], [⟨.bytes l, true, 1⟩]⟩)) := by
  constructor
  rw [vq72]
  refine brec (fun h => ?_) (fun h => ?_)
  · rw [hb h]; exact ⟨rfl, rfl, trivial⟩
  · exact ⟨rfl, by unfold roomFor; omega, rfl, rfl, rfl, by omega, rfl, trivial⟩
theorem cq72 : COK Tryd.prog gl0 62 (mkF (unkSp clA)) := by
  refine COK.unk ?_
  refine ctrE (fn := Tryd.f62) [] 3000 (by kernel_rfl) (by kernel_rfl) okYz0 (by kernel_rfl) (fun args w => by kernel_rfl) fun xs bs r hs ho => ?_
  replace hs : (nilG clA xs bs).sel = some r := hs
  unfold nilG at hs
  split at hs
  · simp only [TL.sel, Option.some.injEq] at hs
    subst hs
    obtain ⟨h1, h2⟩ := obsT_cons.1 ho
    exact ⟨_, bq72 _ _ _ h1 (obsT_one.1 h2)⟩
  · simp [TL.sel] at hs
end Go.Sym

namespace Go.Sym
open Go.Proofs Go.Spec
set_option linter.unusedVariables false
noncomputable def gjD (xs : List AV) (bs : List ABlk) : TL := match xs, bs with
  | [.ptr 0 0 0 0], [⟨.cells [.ptr 1 0 0 0, .u64 g, .int .i64 a, .int .i64 s, .int .i64 z, .nils, .bool false], true, 0⟩, ⟨.cells [.slice 2 0 64 sz .ow (.is false), .bool true, .int .i64 w, .int .i64 (-1), .int .i64 0], true, 0⟩, ⟨.bytes L, true, 64⟩] =>
    .ok ⟨[L.length = sz * 64, z < 1099511627776, ∀ k : Nat, (k : Int) < z → 0 ≤ plJ a z k ∧ plJ a z k < sz ∧ nqS (jSec a z k L) ≤ 46], .int .i64 0, [some (some (jnA g a s z (lenJ g a z L))), some (some (dkB sz w)), some (some (dkL L))], [enR (lenJ g a z L) (entJ a z L)]⟩
  | _, _ => .no
noncomputable def spjD : Spec := ⟨[.kp], fun xs h => reachX h 200 (namesL (xs.take 1)) [], kinds, gjD⟩
theorem cjD : COK Tryd.prog gl0 67 (mkF spjD) := by
  refine ctrE (fn := Tryd.f67) [] 3000 (by kernel_rfl) (by kernel_rfl) okU1 (by kernel_rfl) (fun args w => by kernel_rfl) fun xs bs r hs ho => ?_
  replace hs : (gjD xs bs).sel = some r := hs
  unfold gjD at hs
  split at hs
  · simp only [TL.sel, Option.some.injEq] at hs
    subst hs
    obtain ⟨h1, ho⟩ := obsT_cons.1 ho
    obtain ⟨h2, ho⟩ := obsT_cons.1 ho
    exact ⟨_, bjD _ _ _ _ _ _ _ h1 h2 (obsT_one.1 ho)⟩
  · simp [TL.sel] at hs
-- copied
noncomputable def V0 : Ctx := ((Ctx.none []).add 62 (mkF (unkSp clA))).withFrz [(14, [.by8])]
theorem okV0 : COKs Tryd.prog gl0 V0 := (COKs.none.add cq72).withFrz _
def lsCp (n : Nat) (F : Nat → By) : LS := ⟨Nat, fun k => [(3, .slice 100 0 1 k .ow .unk), (6, .ros false 1 n (fun i => [.rb true (F i) .unk]) .unk), (7, .int .i64 n), (8, .int .i64 k)], fun k => [(100, enR k F)], 1000, fun k => n - k, fun k => k ≤ n, fun _ => []⟩
end Go.Sym

namespace Go.Sym
open Go.Proofs Go.Spec
set_option linter.unusedVariables false
set_option maxRecDepth 100000 in
theorem vjC (n : Nat) (M : Nat) (F F2 : Nat → By) : bodyP Tryd.prog V0 gl0 [] [(4, lsCp n F)] 3000 Tryd.f66 0 [.ros false 1 n (fun i => [.rb true (F i) .unk]) .unk] [] (retQ Tryd.prog Tryd.f66 0 ⟨[], .slice 0 0 1 M .ow .unk, [], [enR M F2]⟩) = (
(∃ (x : Nat), x.le n ∧ x = 0 ∧ n = n ∧ (∀ (y : Nat), y < n → datas Bool.false [AV.rb Bool.true (F y) NL.unk] = Bool.true ∧ F y = F y ∧ True) ∧ (↑n : Int) = (↑n : Int) ∧ (↑x : Int) = (0 : Int) ∧ x = 0 ∧ True) ∧ ∀ (x : Nat), x.le n → @Bool.rec (fun _ => Prop) ((∀ (y : Nat), y < M → outs Bool.true [AV.rb Bool.true (F2 y) NL.unk] = Bool.true) ∧ 0 = 0 ∧ 0 = 0 ∧ 0 = 0 ∧ M = x ∧ M = x ∧ (∀ (y : Nat), y < M → datas Bool.false [AV.rb Bool.true (F2 y) NL.unk] = Bool.true ∧ [AV.rb Bool.true (F y) NL.unk] = [AV.rb Bool.true (F2 y) NL.unk]) ∧ True) ((0 : Int) ≤ (↑x : Int) ∧ (↑x : Int).toNat < n ∧ List.length (F (↑x : Int).toNat) < 1099511627776 ∧ List.length (F (↑x : Int).toNat) = List.length (F (↑x : Int).toNat) ∧ x = x ∧ roomFor x 1 24 ∧ ∃ (y : Nat), n - y < n - x ∧ y.le n ∧ 0 = 0 ∧ 0 = 0 ∧ 0 = 0 ∧ y = x + 1 ∧ n = n ∧ (∀ (y : Nat), y < n → datas Bool.false [AV.rb Bool.true (F y) NL.unk] = Bool.true ∧ F y = F y ∧ True) ∧ (↑n : Int) = (↑n : Int) ∧ (↑y : Int) = IntKind.i64.wrap ((↑x : Int) + (1 : Int)) ∧ y = x + 1 ∧ (∀ (y_1 : Nat), y_1 < y → datas Bool.false [AV.rb Bool.true (F y_1) NL.unk] = Bool.true ∧ glue (fun (i : Nat) => [AV.rb Bool.true (F i) NL.unk]) x (cut 1 (List.take 1 (List.drop 0 [AV.rb Bool.true (F (↑x : Int).toNat) NL.unk]))) y_1 = [AV.rb Bool.true (F y_1) NL.unk]) ∧ True) (decide ((↑x : Int) < (↑n : Int))) : Prop) := by kernel_rfl
end Go.Sym

namespace Go.Sym
open Go.Proofs Go.Spec
set_option linter.unusedVariables false
theorem bjC (n : Nat) (F : Nat → By) (hn : n < 1099511627776) (hF : ∀ i, i < n → (F i).length < 1099511627776) : Must (bodyP Tryd.prog V0 gl0 [] [(4, lsCp n F)] 3000 Tryd.f66 0 [.ros false 1 n (fun i => [.rb true (F i) .unk]) .unk] [] (retQ Tryd.prog Tryd.f66 0 ⟨[], .slice 0 0 1 n .ow .unk, [], [enR n F]⟩)) := by
  constructor
  rw [vjC]
  refine ⟨⟨0, Nat.zero_le _, rfl, rfl, fun y hy => ⟨rfl, rfl, trivial⟩, rfl, rfl, rfl, trivial⟩, fun x hx => ?_⟩
  have hx : x ≤ n := hx
  refine brec (fun c => ?_) (fun c => ?_)
  · have c := dtr c
    have hF := hF x (by omega)
    rw [Int.toNat_natCast]
    refine ⟨by omega, by omega, hF, rfl, rfl, by unfold roomFor; omega, x + 1, by omega, ?_, rfl, rfl, rfl, rfl, rfl, fun y hy => ⟨rfl, rfl, trivial⟩, rfl, (wrap_nat (x + 1) (by omega) (by omega)).symm, rfl, fun y hy => ⟨rfl, glue_e x y hy rfl⟩, trivial⟩
    show x + 1 ≤ n
    omega
  · have c := dfl c
    have e : n = x := by omega
    exact ⟨fun y hy => rfl, rfl, rfl, rfl, e, e, fun y hy => ⟨rfl, rfl⟩, trivial⟩
noncomputable def gjC (xs : List AV) (bs : List ABlk) : TL := match xs, bs with
  | [.ros false 1 n G .unk], [] => .ok ⟨[n < 1099511627776, ∀ i, i < n → (rowF G i).length < 1099511627776, G = fun i => [.rb true (rowF G i) .unk]], .slice 0 0 1 n .ow .unk, [], [enR n (rowF G)]⟩
  | _, _ => .no
noncomputable def spjC : Spec := ⟨[.r 1], fun _ _ => [], fun _ _ => [], gjC⟩
theorem cjC : COK Tryd.prog gl0 66 (mkF spjC) := by
  refine ctrE (fn := Tryd.f66) [] 3000 (by kernel_rfl) (by kernel_rfl) okV0 (by kernel_rfl) (fun args w => by kernel_rfl) fun xs bs r hs ho => ?_
  replace hs : (gjC xs bs).sel = some r := hs
  unfold gjC at hs
  split at hs
  · rename_i n G
    simp only [TL.sel, Option.some.injEq] at hs
    subst hs
    obtain ⟨h1, ho⟩ := obsT_cons.1 ho
    obtain ⟨h2, ho⟩ := obsT_cons.1 ho
    have h4 := obsT_one.1 ho
    generalize rowF G = F at h2 h4 ⊢
    subst h4
    exact ⟨_, bjC n F h1 h2⟩
  · simp [TL.sel] at hs
-- what the laws call
noncomputable def W0 : Ctx := (Ctx.none []).exe Tryd.prog gl0 [] 3000 Tryd.f53.params.size 53 Tryd.f53
theorem okW0 : COKs Tryd.prog gl0 W0 := COKs.none.exe [] 3000 _ (by kernel_rfl) (by kernel_rfl) (by kernel_rfl) (fun args w => by kernel_rfl)
noncomputable def W1 : Ctx := W0.exe Tryd.prog gl0 [] 3000 Tryd.f52.params.size 52 Tryd.f52
theorem okW1 : COKs Tryd.prog gl0 W1 := okW0.exe [] 3000 _ (by kernel_rfl) (by kernel_rfl) (by kernel_rfl) (fun args w => by kernel_rfl)
noncomputable def W2 : Ctx := W1.exe Tryd.prog gl0 [] 3000 Tryd.f56.params.size 56 Tryd.f56
theorem okW2 : COKs Tryd.prog gl0 W2 := okW1.exe [] 3000 _ (by kernel_rfl) (by kernel_rfl) (by kernel_rfl) (fun args w => by kernel_rfl)
noncomputable def W3 : Ctx := W2.exe Tryd.prog gl0 [] 3000 Tryd.f57.params.size 57 Tryd.f57
theorem okW3 : COKs Tryd.prog gl0 W3 := okW2.exe [] 3000 _ (by kernel_rfl) (by kernel_rfl) (by kernel_rfl) (fun args w => by kernel_rfl)
noncomputable def W4 : Ctx := ((((((((W3.add 104 (mkF spjr0)).add 51 (mkF spjP)).add 60 (mkF spjL)).add 55 (mkF spjB)).add 61 (mkF spjE)).add 62 (mkF (unkSp clA))).add 24 (mkF spjN)).add 50 (mkF spjK)).add 58 (mkF spjS)
theorem okW4 : COKs Tryd.prog gl0 W4 := ((((((((okW3.add cjr0).add cjP).add cjL).add cjB).add cjE).add cq72).add cjN).add cjK).add cjS
noncomputable def W5 : Ctx := W4.exe Tryd.prog gl0 [] 3000 Tryd.f54.params.size 54 Tryd.f54
theorem okW5 : COKs Tryd.prog gl0 W5 := okW4.exe [] 3000 _ (by kernel_rfl) (by kernel_rfl) (by kernel_rfl) (fun args w => by kernel_rfl)
noncomputable def W6 : Ctx := W5.exe Tryd.prog gl0 [] 3000 Tryd.f49.params.size 49 Tryd.f49
theorem okW6 : COKs Tryd.prog gl0 W6 := okW5.exe [] 3000 _ (by kernel_rfl) (by kernel_rfl) (by kernel_rfl) (fun args w => by kernel_rfl)
end Go.Sym
