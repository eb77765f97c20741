/- The same: shown. -/
import Derived.Test.YtgniepaehjdjaaaSnaA
set_option linter.unusedSimpArgs false
namespace Go.Spec
open Go.Sym
/-- What stands in a snapshot's bytes, and where. -/
def gN1 (L : By) : Nat := beN (cutB L 2 2)
def gY (L : By) : Nat := 4 + gN1 L + 32 + 32 + 32 + 32 + 32 + 32 + 32
def gS (L : By) : G8 := fun k => L.getD (4 + gN1 L + k) 0
def gQ (L : By) : Nat := gY L + 1 + 1 + 2 + 2
def gSl (L : By) : Nat := beN (cutB L (gQ L) 1)
def gN2 (L : By) : Nat := beN (cutB L (gQ L + 1) 2)
def gZ (L : By) : Nat := gQ L + 1 + 2 + gN2 L
def gN3 (v : Nat) (L : By) : Nat := match v with | 2 | 3 => beN (cutB L (gZ L) 1) | _ => 0
def gUs (v : Nat) (L : By) : By := match v with | 2 | 3 => cutB L (gZ L + 1) (gN3 v L) | _ => []
def gAl (v : Nat) (L : By) : Int := match v with | 3 => IntKind.i64.wrap ((beN (cutB L (gZ L + 1 + gN3 v L) 2) : Int) + Int.negSucc 0) | _ => -1
def gE (v : Nat) (L : By) : Nat := match v with | 3 => gZ L + 1 + gN3 v L + 2 | 2 => gZ L + 1 + gN3 v L | _ => gZ L
/-- May it be read? -/
def gG (v : Nat) (L : By) : Prop := L.length < 1099511627776 ∧ gE v L = L.length ∧ gN1 L ≤ 20000 ∧ gN2 L ≤ 4096 ∧ gN3 v L ≤ 255 ∧ gSl L ≤ 1 ∧
  snOk (beN (cutB L 1 1)) (gN1 L) (beN (cutB L (gY L) 1)) (beN (cutB L (gY L + 1) 1)) (beN (cutB L (gY L + 1 + 1) 2)) (beN (cutB L (gY L + 1 + 1 + 2) 2)) (gN2 L) (gN3 v L) (gAl v L) = true
theorem cut_ite {L : By} {N x k j : Nat} (h : x + j = 4 + N + k) (hj : j < 32) : L.getD (4 + N + k) 0 = if j < 32 then (cutB L x 32).getD j 0 else BitVec.ofNat 8 0 := by
  rw [if_pos hj, ← h]
  unfold cutB
  rw [rg_getD _ _ _ _ hj]
theorem fl_ok {n : Nat} (h : n ≤ 1) : (n : Int) = ((snFl (decide ((n : Int) = Int.ofNat 1))).toNat : Int) := by
  have : n = 0 ∨ n = 1 := by omega
  cases this with
  | inl h => subst h; rfl
  | inr h => subst h; rfl
end Go.Spec
namespace Go.Sym
open Go.Proofs Go.Spec
set_option linter.unusedVariables false
def snG (v : Nat) (L : By) : RL := snR (beN (cutB L 1 1)) (gN1 L) (gN2 L) (gN3 v L) (cutB L 4 (gN1 L)) (cutB L (gQ L + 1 + 2) (gN2 L)) (gUs v L) (gS L) (beN (cutB L (gY L) 1)) (beN (cutB L (gY L + 1) 1)) (beN (cutB L (gY L + 1 + 1) 2)) (beN (cutB L (gY L + 1 + 1 + 2) 2)) (gAl v L) (decide ((gSl L : Int) = Int.ofNat 1)) v 0
set_option maxRecDepth 100000 in
set_option maxHeartbeats 4000000 in
theorem bs59a (b : By) (h : gG 1 (1#8 :: b)) : Must (bodyP Try.prog G6 gl0 [] [] 3000 Try.f59 0 [.rb false (1#8 :: b) .unk] [] (retQ Try.prog Try.f59 0 (snG 1 (1#8 :: b)))) := by
  constructor
  unfold snG
  rw [vs59a]
  simp only [cutB_len]
  have hv : ((1 : Nat) : Int) = (beN (cutB (1#8 :: b) 0 1) : Int) := rfl
  generalize (1#8 :: b) = L at *
  obtain ⟨h1, h2, h3, h4, h5, h6, h7⟩ := h
  replace h2 : 4 + beN (cutB L 2 2) + 32 + 32 + 32 + 32 + 32 + 32 + 32 + 1 + 1 + 2 + 2 + 1 + 2 + beN (cutB L (4 + beN (cutB L 2 2) + 32 + 32 + 32 + 32 + 32 + 32 + 32 + 1 + 1 + 2 + 2 + 1) 2) = L.length := h2
  replace h3 : beN (cutB L 2 2) ≤ 20000 := h3
  replace h4 : beN (cutB L (4 + beN (cutB L 2 2) + 32 + 32 + 32 + 32 + 32 + 32 + 32 + 1 + 1 + 2 + 2 + 1) 2) ≤ 4096 := h4
  and_intros
  all_goals try (first | omega | trivial | exact Int.natCast_nonneg _ | exact h7)
  have hf := fl_ok h6
  rw [decide_eq_true (show (beN (cutB L (4 + beN (cutB L 2 2) + 32 + 32 + 32 + 32 + 32 + 32 + 32 + 1 + 1 + 2 + 2) 1) : Int) = ((snFl (decide ((beN (cutB L (4 + beN (cutB L 2 2) + 32 + 32 + 32 + 32 + 32 + 32 + 32 + 1 + 1 + 2 + 2) 1) : Int) = Int.ofNat 1))).toNat : Int) from hf)]
  refine ⟨by first | rfl | trivial, by first | rfl | trivial, by first | rfl | trivial, by first | rfl | trivial, by first | rfl | trivial, allP_of _ _ (fun j _ h => cut_ite (N := beN (cutB L 2 2)) (k := j) (by omega) (by omega)) ?_⟩
  and_intros
  all_goals first | exact cut_ite (N := beN (cutB L 2 2)) (by omega) (by omega) | exact hv | rfl | trivial
set_option maxRecDepth 100000 in
set_option maxHeartbeats 4000000 in
theorem bs59b (b : By) (h : gG 2 (2#8 :: b)) : Must (bodyP Try.prog G6 gl0 [] [] 3000 Try.f59 0 [.rb false (2#8 :: b) .unk] [] (retQ Try.prog Try.f59 0 (snG 2 (2#8 :: b)))) := by
  constructor
  unfold snG
  rw [vs59b]
  simp only [cutB_len]
  have hv : ((2 : Nat) : Int) = (beN (cutB (2#8 :: b) 0 1) : Int) := rfl
  generalize (2#8 :: b) = L at *
  obtain ⟨h1, h2, h3, h4, h5, h6, h7⟩ := h
  replace h2 : 4 + beN (cutB L 2 2) + 32 + 32 + 32 + 32 + 32 + 32 + 32 + 1 + 1 + 2 + 2 + 1 + 2 + beN (cutB L (4 + beN (cutB L 2 2) + 32 + 32 + 32 + 32 + 32 + 32 + 32 + 1 + 1 + 2 + 2 + 1) 2) + 1 + beN (cutB L (4 + beN (cutB L 2 2) + 32 + 32 + 32 + 32 + 32 + 32 + 32 + 1 + 1 + 2 + 2 + 1 + 2 + beN (cutB L (4 + beN (cutB L 2 2) + 32 + 32 + 32 + 32 + 32 + 32 + 32 + 1 + 1 + 2 + 2 + 1) 2)) 1) = L.length := h2
  replace h3 : beN (cutB L 2 2) ≤ 20000 := h3
  replace h4 : beN (cutB L (4 + beN (cutB L 2 2) + 32 + 32 + 32 + 32 + 32 + 32 + 32 + 1 + 1 + 2 + 2 + 1) 2) ≤ 4096 := h4
  replace h5 : beN (cutB L (4 + beN (cutB L 2 2) + 32 + 32 + 32 + 32 + 32 + 32 + 32 + 1 + 1 + 2 + 2 + 1 + 2 + beN (cutB L (4 + beN (cutB L 2 2) + 32 + 32 + 32 + 32 + 32 + 32 + 32 + 1 + 1 + 2 + 2 + 1) 2)) 1) ≤ 255 := h5
  and_intros
  all_goals try (first | omega | trivial | exact Int.natCast_nonneg _ | exact h7)
  have hf := fl_ok h6
  rw [decide_eq_true (show (beN (cutB L (4 + beN (cutB L 2 2) + 32 + 32 + 32 + 32 + 32 + 32 + 32 + 1 + 1 + 2 + 2) 1) : Int) = ((snFl (decide ((beN (cutB L (4 + beN (cutB L 2 2) + 32 + 32 + 32 + 32 + 32 + 32 + 32 + 1 + 1 + 2 + 2) 1) : Int) = Int.ofNat 1))).toNat : Int) from hf)]
  refine ⟨by first | rfl | trivial, by first | rfl | trivial, by first | rfl | trivial, by first | rfl | trivial, by first | rfl | trivial, allP_of _ _ (fun j _ h => cut_ite (N := beN (cutB L 2 2)) (k := j) (by omega) (by omega)) ?_⟩
  and_intros
  all_goals first | exact cut_ite (N := beN (cutB L 2 2)) (by omega) (by omega) | exact hv | rfl | trivial
set_option maxRecDepth 100000 in
set_option maxHeartbeats 4000000 in
theorem bs59c (b : By) (h : gG 3 (3#8 :: b)) : Must (bodyP Try.prog G6 gl0 [] [] 3000 Try.f59 0 [.rb false (3#8 :: b) .unk] [] (retQ Try.prog Try.f59 0 (snG 3 (3#8 :: b)))) := by
  constructor
  unfold snG
  rw [vs59c]
  simp only [cutB_len]
  have hv : ((3 : Nat) : Int) = (beN (cutB (3#8 :: b) 0 1) : Int) := rfl
  generalize (3#8 :: b) = L at *
  obtain ⟨h1, h2, h3, h4, h5, h6, h7⟩ := h
  replace h2 : 4 + beN (cutB L 2 2) + 32 + 32 + 32 + 32 + 32 + 32 + 32 + 1 + 1 + 2 + 2 + 1 + 2 + beN (cutB L (4 + beN (cutB L 2 2) + 32 + 32 + 32 + 32 + 32 + 32 + 32 + 1 + 1 + 2 + 2 + 1) 2) + 1 + beN (cutB L (4 + beN (cutB L 2 2) + 32 + 32 + 32 + 32 + 32 + 32 + 32 + 1 + 1 + 2 + 2 + 1 + 2 + beN (cutB L (4 + beN (cutB L 2 2) + 32 + 32 + 32 + 32 + 32 + 32 + 32 + 1 + 1 + 2 + 2 + 1) 2)) 1) + 2 = L.length := h2
  replace h3 : beN (cutB L 2 2) ≤ 20000 := h3
  replace h4 : beN (cutB L (4 + beN (cutB L 2 2) + 32 + 32 + 32 + 32 + 32 + 32 + 32 + 1 + 1 + 2 + 2 + 1) 2) ≤ 4096 := h4
  replace h5 : beN (cutB L (4 + beN (cutB L 2 2) + 32 + 32 + 32 + 32 + 32 + 32 + 32 + 1 + 1 + 2 + 2 + 1 + 2 + beN (cutB L (4 + beN (cutB L 2 2) + 32 + 32 + 32 + 32 + 32 + 32 + 32 + 1 + 1 + 2 + 2 + 1) 2)) 1) ≤ 255 := h5
  and_intros
  all_goals try (first | omega | trivial | exact Int.natCast_nonneg _ | exact h7)
  have hf := fl_ok h6
  rw [decide_eq_true (show (beN (cutB L (4 + beN (cutB L 2 2) + 32 + 32 + 32 + 32 + 32 + 32 + 32 + 1 + 1 + 2 + 2) 1) : Int) = ((snFl (decide ((beN (cutB L (4 + beN (cutB L 2 2) + 32 + 32 + 32 + 32 + 32 + 32 + 32 + 1 + 1 + 2 + 2) 1) : Int) = Int.ofNat 1))).toNat : Int) from hf)]
  refine ⟨by first | rfl | trivial, by first | rfl | trivial, by first | rfl | trivial, by first | rfl | trivial, by first | rfl | trivial, allP_of _ _ (fun j _ h => cut_ite (N := beN (cutB L 2 2)) (k := j) (by omega) (by omega)) ?_⟩
  and_intros
  all_goals first | exact cut_ite (N := beN (cutB L 2 2)) (by omega) (by omega) | exact hv | rfl | trivial
end Go.Sym

set_option linter.unusedSimpArgs false
namespace Go.Sym
open Go.Proofs Go.Spec
set_option linter.unusedVariables false
def gs59 (xs : List AV) (bs : List ABlk) : TL := match xs, bs with
  | [.rb false L .unk], [] => .ok ⟨[1 ≤ (L.getD 0 0).toNat ∧ (L.getD 0 0).toNat ≤ 3, gG (L.getD 0 0).toNat L], (snG (L.getD 0 0).toNat L).v, [], (snG (L.getD 0 0).toNat L).nw⟩
  | _, _ => .no
def sps59 : Spec := ⟨[.by0], fun _ _ => [], fun _ _ => [], gs59⟩
theorem by123 {w : BitVec 8} (h : 1 ≤ w.toNat ∧ w.toNat ≤ 3) : w = 1#8 ∨ w = 2#8 ∨ w = 3#8 := by
  have h1 : w.toNat = 1 ∨ w.toNat = 2 ∨ w.toNat = 3 := by omega
  rcases h1 with h | h | h
  · left; exact BitVec.eq_of_toNat_eq h
  · right; left; exact BitVec.eq_of_toNat_eq h
  · right; right; exact BitVec.eq_of_toNat_eq h
theorem cs59 : COK Try.prog gl0 59 (mkF sps59) := by
  refine ctrE (fn := Try.f59) [] 3000 (by kernel_rfl) (by kernel_rfl) okG6 (by kernel_rfl) (fun args w => by kernel_rfl) fun xs bs r hs ho => ?_
  replace hs : (gs59 xs bs).sel = some r := hs
  unfold gs59 at hs
  split at hs
  · rename_i L
    simp only [TL.sel, Option.some.injEq] at hs
    subst hs
    obtain ⟨h1, h2⟩ := obsT_cons.1 ho
    replace h2 := obsT_one.1 h2
    cases L with
    | nil => exact absurd h1 (by decide)
    | cons w b =>
      replace h1 : 1 ≤ w.toNat ∧ w.toNat ≤ 3 := h1
      replace h2 : gG w.toNat (w :: b) := h2
      rcases by123 h1 with e | e | e
      · subst e; exact ⟨_, bs59a b h2⟩
      · subst e; exact ⟨_, bs59b b h2⟩
      · subst e; exact ⟨_, bs59c b h2⟩
  · simp [TL.sel] at hs
end Go.Sym

namespace Go.Sym
open Go.Proofs Go.Spec
noncomputable def Z13 : Ctx := Z12.add 57 (mkF spt57)
theorem okZ13 : COKs Try.prog gl0 Z13 := okZ12.add ct57
def rPu (L : Nat) (B : By) (e : Int) : RL := ⟨[], .tup [.slice 0 0 1 L .ow .unk, .int .i64 e], [], [⟨.bytes B, true, 1⟩]⟩
def rPv (lg pt us : By) (L : Nat) (B : By) (e : Int) : RL := ⟨[], .tup [.slice 3 0 1 L .ow .unk, .int .i64 e], [some (some ⟨.bytes lg, true, 1⟩), some (some ⟨.bytes pt, true, 1⟩), some (some ⟨.bytes us, true, 1⟩)], [⟨.bytes B, true, 1⟩]⟩
end Go.Sym

namespace Go.Sym
open Go.Proofs Go.Spec
set_option linter.unusedVariables false
set_option maxRecDepth 100000 in
theorem vs53r (v p i o ie oe al e : Int) (lg pt us B : By) (n1 n2 n3 : NL) (S : G8) (sl : Bool) (L : Nat) : bodyP Try.prog Z12 gl0 [] [] 3000 Try.f53 0 [snS p (.rb true lg n1) S i o ie oe sl (.rb true pt n2) (.rb true us n3) al, .int .i64 v] [] (retQ Try.prog Try.f53 0 (rPu L B e)) = (
let x1 := pvB [BitVec.ofInt 8 v, BitVec.ofInt 8 p] lg (2 : Int) ++ rg 32 S ++ rgA S 32 32 [] ++ rgA S 64 32 [] ++ rgA S 96 32 [] ++ rgA S 128 32 [] ++ rgA S 160 32 [] ++ rgA S 192 32 [] ++ [BitVec.ofInt 8 i, BitVec.ofInt 8 o]; let x2 := [BitVec.ofInt 8 v, BitVec.ofInt 8 p].length + 2 + List.length lg + (rg 32 S).length + (rgA S 32 32 []).length + (rgA S 64 32 []).length; let x3 := puB (puB x1 ie (2 : Int)) oe (2 : Int) ++ [snFl sl]; let x4 := [BitVec.ofInt 8 v, BitVec.ofInt 8 p]; let x5 := x2 + (rgA S 96 32 []).length + (rgA S 128 32 []).length; let x6 := pvB x4 lg (2 : Int) ++ rg 32 S ++ rgA S 32 32 [] ++ rgA S 64 32 []; @Bool.rec (fun _ => Prop) (L = 0 ∧ e = (1 : Int) ∧ B = [] ∧ True) (@Bool.rec (fun _ => Prop) (L = 0 ∧ e = (1 : Int) ∧ B = [] ∧ True) (@Bool.rec (fun _ => Prop) (2 = x4.length ∧ x4.length + List.length lg < 549755813888 ∧ puBad (↑(List.length lg) : Int) (2 : Int) = Bool.false ∧ (0 : Int) ≤ (0 : Int) ∧ 0 < 7 ∧ x4.length + 2 + List.length lg = List.length (pvB x4 lg (2 : Int)) ∧ roomFor (x4.length + 2 + List.length lg) (rg 32 S).length 1 ∧ (0 : Int) ≤ Int.ofNat 1 ∧ 1 < 7 ∧ x4.length + 2 + List.length lg + (rg 32 S).length = (pvB x4 lg (2 : Int) ++ rg 32 S).length ∧ roomFor (x4.length + 2 + List.length lg + (rg 32 S).length) (rgA S 32 32 []).length 1 ∧ (0 : Int) ≤ Int.ofNat 2 ∧ 2 < 7 ∧ x4.length + 2 + List.length lg + (rg 32 S).length + (rgA S 32 32 []).length = (pvB x4 lg (2 : Int) ++ rg 32 S ++ rgA S 32 32 []).length ∧ roomFor (x4.length + 2 + List.length lg + (rg 32 S).length + (rgA S 32 32 []).length) (rgA S 64 32 []).length 1 ∧ (0 : Int) ≤ Int.ofNat 3 ∧ 3 < 7 ∧ x2 = x6.length ∧ roomFor x2 (rgA S 96 32 []).length 1 ∧ (0 : Int) ≤ Int.ofNat 4 ∧ 4 < 7 ∧ x2 + (rgA S 96 32 []).length = (x6 ++ rgA S 96 32 []).length ∧ roomFor (x2 + (rgA S 96 32 []).length) (rgA S 128 32 []).length 1 ∧ (0 : Int) ≤ Int.ofNat 5 ∧ 5 < 7 ∧ x5 = (x6 ++ rgA S 96 32 [] ++ rgA S 128 32 []).length ∧ roomFor x5 (rgA S 160 32 []).length 1 ∧ (0 : Int) ≤ Int.ofNat 6 ∧ 6 < 7 ∧ x5 + (rgA S 160 32 []).length = (x6 ++ rgA S 96 32 [] ++ rgA S 128 32 [] ++ rgA S 160 32 []).length ∧ roomFor (x5 + (rgA S 160 32 []).length) (rgA S 192 32 []).length 1 ∧ 2 = [BitVec.ofInt 8 i, BitVec.ofInt 8 o].length ∧ x5 + (rgA S 160 32 []).length + (rgA S 192 32 []).length = (x6 ++ rgA S 96 32 [] ++ rgA S 128 32 [] ++ rgA S 160 32 [] ++ rgA S 192 32 []).length ∧ roomFor (x5 + (rgA S 160 32 []).length + (rgA S 192 32 []).length) [BitVec.ofInt 8 i, BitVec.ofInt 8 o].length 1 ∧ x5 + (rgA S 160 32 []).length + (rgA S 192 32 []).length + [BitVec.ofInt 8 i, BitVec.ofInt 8 o].length = x1.length ∧ x1.length < 1099511627776 ∧ puBad ie (2 : Int) = Bool.false ∧ x1.length + 2 = List.length (puB x1 ie (2 : Int)) ∧ List.length (puB x1 ie (2 : Int)) < 1099511627776 ∧ puBad oe (2 : Int) = Bool.false ∧ 1 = [snFl sl].length ∧ List.length (puB x1 ie (2 : Int)) + 2 = List.length (puB (puB x1 ie (2 : Int)) oe (2 : Int)) ∧ roomFor (List.length (puB x1 ie (2 : Int)) + 2) [snFl sl].length 1 ∧ List.length (puB x1 ie (2 : Int)) + 2 + [snFl sl].length = x3.length ∧ x3.length + List.length pt < 549755813888 ∧ puBad (↑(List.length pt) : Int) (2 : Int) = Bool.false ∧ @Bool.rec (fun _ => Prop) (@Bool.rec (fun _ => Prop) (0 = 0 ∧ 0 = 0 ∧ 0 = 0 ∧ L = x3.length + 2 + List.length pt ∧ e = (0 : Int) ∧ B = pvB x3 pt (2 : Int) ∧ True) (x3.length + 2 + List.length pt = List.length (pvB x3 pt (2 : Int)) ∧ List.length (pvB x3 pt (2 : Int)) < 1099511627776 ∧ puBad (IntKind.i64.wrap (al - Int.negSucc 0)) (2 : Int) = Bool.false ∧ 0 = 0 ∧ 0 = 0 ∧ 0 = 0 ∧ L = List.length (pvB x3 pt (2 : Int)) + 2 ∧ e = (0 : Int) ∧ B = puB (pvB x3 pt (2 : Int)) (IntKind.i64.wrap (al - Int.negSucc 0)) (2 : Int) ∧ True) (decide ((3 : Int) ≤ v))) (x3.length + 2 + List.length pt = List.length (pvB x3 pt (2 : Int)) ∧ List.length (pvB x3 pt (2 : Int)) + List.length us < 549755813888 ∧ puBad (↑(List.length us) : Int) (1 : Int) = Bool.false ∧ @Bool.rec (fun _ => Prop) (0 = 0 ∧ 0 = 0 ∧ 0 = 0 ∧ L = List.length (pvB x3 pt (2 : Int)) + 1 + List.length us ∧ e = (0 : Int) ∧ B = pvB (pvB x3 pt (2 : Int)) us (1 : Int) ∧ True) (List.length (pvB x3 pt (2 : Int)) + 1 + List.length us = List.length (pvB (pvB x3 pt (2 : Int)) us (1 : Int)) ∧ List.length (pvB (pvB x3 pt (2 : Int)) us (1 : Int)) < 1099511627776 ∧ puBad (IntKind.i64.wrap (al - Int.negSucc 0)) (2 : Int) = Bool.false ∧ 0 = 0 ∧ 0 = 0 ∧ 0 = 0 ∧ L = List.length (pvB (pvB x3 pt (2 : Int)) us (1 : Int)) + 2 ∧ e = (0 : Int) ∧ B = puB (pvB (pvB x3 pt (2 : Int)) us (1 : Int)) (IntKind.i64.wrap (al - Int.negSucc 0)) (2 : Int) ∧ True) (decide ((3 : Int) ≤ v))) (decide ((2 : Int) ≤ v))) (L = 0 ∧ e = (1 : Int) ∧ B = [] ∧ True) !decide (v ≤ (3 : Int))) (decide ((1 : Int) ≤ v))) !!snOk p (List.length lg) i o ie oe (List.length pt) (List.length us) al : Prop) := by kernel_rfl
set_option maxRecDepth 100000 in
theorem vs53o (p i o ie oe al e : Int) (lg pt us B : By) (n1 n2 n3 : Nat) (S : G8) (sl : Bool) (L : Nat) : bodyP Try.prog Z13 gl0 [] [] 3000 Try.f53 3 [snS p (.slice 0 0 1 n1 .ow .unk) S i o ie oe sl (.slice 1 0 1 n2 .ow .unk) (.slice 2 0 1 n3 .ow .unk) al, .int .i64 3] [⟨.bytes lg, true, 1⟩, ⟨.bytes pt, true, 1⟩, ⟨.bytes us, true, 1⟩] (retQ Try.prog Try.f53 3 (rPv lg pt us L B e)) = (
let x1 := pvB [BitVec.ofNat 8 3, BitVec.ofInt 8 p] lg (2 : Int) ++ rg 32 S ++ rgA S 32 32 [] ++ rgA S 64 32 [] ++ rgA S 96 32 [] ++ rgA S 128 32 [] ++ rgA S 160 32 [] ++ rgA S 192 32 [] ++ [BitVec.ofInt 8 i, BitVec.ofInt 8 o]; let x2 := [BitVec.ofNat 8 3, BitVec.ofInt 8 p].length + 2 + List.length lg + (rg 32 S).length + (rgA S 32 32 []).length + (rgA S 64 32 []).length; let x3 := [BitVec.ofNat 8 3, BitVec.ofInt 8 p]; let x4 := puB (puB x1 ie (2 : Int)) oe (2 : Int) ++ [snFl sl]; let x5 := x2 + (rgA S 96 32 []).length + (rgA S 128 32 []).length; let x6 := pvB x3 lg (2 : Int) ++ rg 32 S ++ rgA S 32 32 [] ++ rgA S 64 32 []; n1 = List.length lg ∧ n2 = List.length pt ∧ n3 = List.length us ∧ snOk p (List.length lg) i o ie oe (List.length pt) (List.length us) al = Bool.true ∧ 2 = x3.length ∧ n1 = List.length lg ∧ x3.length + List.length lg < 549755813888 ∧ puBad (↑(List.length lg) : Int) (2 : Int) = Bool.false ∧ (0 : Int) ≤ (0 : Int) ∧ 0 < 7 ∧ x3.length + 2 + List.length lg = List.length (pvB x3 lg (2 : Int)) ∧ roomFor (x3.length + 2 + List.length lg) (rg 32 S).length 1 ∧ (0 : Int) ≤ Int.ofNat 1 ∧ 1 < 7 ∧ x3.length + 2 + List.length lg + (rg 32 S).length = (pvB x3 lg (2 : Int) ++ rg 32 S).length ∧ roomFor (x3.length + 2 + List.length lg + (rg 32 S).length) (rgA S 32 32 []).length 1 ∧ (0 : Int) ≤ Int.ofNat 2 ∧ 2 < 7 ∧ x3.length + 2 + List.length lg + (rg 32 S).length + (rgA S 32 32 []).length = (pvB x3 lg (2 : Int) ++ rg 32 S ++ rgA S 32 32 []).length ∧ roomFor (x3.length + 2 + List.length lg + (rg 32 S).length + (rgA S 32 32 []).length) (rgA S 64 32 []).length 1 ∧ (0 : Int) ≤ Int.ofNat 3 ∧ 3 < 7 ∧ x2 = x6.length ∧ roomFor x2 (rgA S 96 32 []).length 1 ∧ (0 : Int) ≤ Int.ofNat 4 ∧ 4 < 7 ∧ x2 + (rgA S 96 32 []).length = (x6 ++ rgA S 96 32 []).length ∧ roomFor (x2 + (rgA S 96 32 []).length) (rgA S 128 32 []).length 1 ∧ (0 : Int) ≤ Int.ofNat 5 ∧ 5 < 7 ∧ x5 = (x6 ++ rgA S 96 32 [] ++ rgA S 128 32 []).length ∧ roomFor x5 (rgA S 160 32 []).length 1 ∧ (0 : Int) ≤ Int.ofNat 6 ∧ 6 < 7 ∧ x5 + (rgA S 160 32 []).length = (x6 ++ rgA S 96 32 [] ++ rgA S 128 32 [] ++ rgA S 160 32 []).length ∧ roomFor (x5 + (rgA S 160 32 []).length) (rgA S 192 32 []).length 1 ∧ 2 = [BitVec.ofInt 8 i, BitVec.ofInt 8 o].length ∧ x5 + (rgA S 160 32 []).length + (rgA S 192 32 []).length = (x6 ++ rgA S 96 32 [] ++ rgA S 128 32 [] ++ rgA S 160 32 [] ++ rgA S 192 32 []).length ∧ roomFor (x5 + (rgA S 160 32 []).length + (rgA S 192 32 []).length) [BitVec.ofInt 8 i, BitVec.ofInt 8 o].length 1 ∧ x5 + (rgA S 160 32 []).length + (rgA S 192 32 []).length + [BitVec.ofInt 8 i, BitVec.ofInt 8 o].length = x1.length ∧ x1.length < 1099511627776 ∧ puBad ie (2 : Int) = Bool.false ∧ x1.length + 2 = List.length (puB x1 ie (2 : Int)) ∧ List.length (puB x1 ie (2 : Int)) < 1099511627776 ∧ puBad oe (2 : Int) = Bool.false ∧ 1 = [snFl sl].length ∧ List.length (puB x1 ie (2 : Int)) + 2 = List.length (puB (puB x1 ie (2 : Int)) oe (2 : Int)) ∧ roomFor (List.length (puB x1 ie (2 : Int)) + 2) [snFl sl].length 1 ∧ List.length (puB x1 ie (2 : Int)) + 2 + [snFl sl].length = x4.length ∧ n2 = List.length pt ∧ x4.length + List.length pt < 549755813888 ∧ puBad (↑(List.length pt) : Int) (2 : Int) = Bool.false ∧ x4.length + 2 + List.length pt = List.length (pvB x4 pt (2 : Int)) ∧ n3 = List.length us ∧ List.length (pvB x4 pt (2 : Int)) + List.length us < 549755813888 ∧ puBad (↑(List.length us) : Int) (1 : Int) = Bool.false ∧ List.length (pvB x4 pt (2 : Int)) + 1 + List.length us = List.length (pvB (pvB x4 pt (2 : Int)) us (1 : Int)) ∧ List.length (pvB (pvB x4 pt (2 : Int)) us (1 : Int)) < 1099511627776 ∧ puBad (IntKind.i64.wrap (al - Int.negSucc 0)) (2 : Int) = Bool.false ∧ 0 = 0 ∧ 0 = 0 ∧ 0 = 0 ∧ L = List.length (pvB (pvB x4 pt (2 : Int)) us (1 : Int)) + 2 ∧ e = (0 : Int) ∧ lg = lg ∧ pt = pt ∧ us = us ∧ B = puB (pvB (pvB x4 pt (2 : Int)) us (1 : Int)) (IntKind.i64.wrap (al - Int.negSucc 0)) (2 : Int) ∧ True : Prop) := by kernel_rfl
set_option maxRecDepth 100000 in
theorem vs53n (p i o ie oe al e : Int) (B : By) (S : G8) (sl : Bool) (L : Nat) : bodyP Try.prog Z13 gl0 [] [] 3000 Try.f53 0 [snS p .nils S i o ie oe sl .nils .nils al, .int .i64 1] [] (retQ Try.prog Try.f53 0 (rPu L B e)) = (
let x1 := pvB [BitVec.ofNat 8 1, BitVec.ofInt 8 p] [] (2 : Int) ++ rg 32 S ++ rgA S 32 32 [] ++ rgA S 64 32 [] ++ rgA S 96 32 [] ++ rgA S 128 32 [] ++ rgA S 160 32 [] ++ rgA S 192 32 [] ++ [BitVec.ofInt 8 i, BitVec.ofInt 8 o]; let x2 := [BitVec.ofNat 8 1, BitVec.ofInt 8 p].length + 2 + 0 + (rg 32 S).length + (rgA S 32 32 []).length + (rgA S 64 32 []).length; let x3 := [BitVec.ofNat 8 1, BitVec.ofInt 8 p]; let x4 := x2 + (rgA S 96 32 []).length + (rgA S 128 32 []).length; let x5 := pvB x3 [] (2 : Int) ++ rg 32 S ++ rgA S 32 32 [] ++ rgA S 64 32 []; let x6 := puB (puB x1 ie (2 : Int)) oe (2 : Int) ++ [snFl sl]; snOk p 0 i o ie oe 0 0 al = Bool.true ∧ 2 = x3.length ∧ x3.length + 0 < 549755813888 ∧ Bool.false = Bool.false ∧ (0 : Int) ≤ (0 : Int) ∧ 0 < 7 ∧ x3.length + 2 + 0 = List.length (pvB x3 [] (2 : Int)) ∧ roomFor (x3.length + 2 + 0) (rg 32 S).length 1 ∧ (0 : Int) ≤ Int.ofNat 1 ∧ 1 < 7 ∧ x3.length + 2 + 0 + (rg 32 S).length = (pvB x3 [] (2 : Int) ++ rg 32 S).length ∧ roomFor (x3.length + 2 + 0 + (rg 32 S).length) (rgA S 32 32 []).length 1 ∧ (0 : Int) ≤ Int.ofNat 2 ∧ 2 < 7 ∧ x3.length + 2 + 0 + (rg 32 S).length + (rgA S 32 32 []).length = (pvB x3 [] (2 : Int) ++ rg 32 S ++ rgA S 32 32 []).length ∧ roomFor (x3.length + 2 + 0 + (rg 32 S).length + (rgA S 32 32 []).length) (rgA S 64 32 []).length 1 ∧ (0 : Int) ≤ Int.ofNat 3 ∧ 3 < 7 ∧ x2 = x5.length ∧ roomFor x2 (rgA S 96 32 []).length 1 ∧ (0 : Int) ≤ Int.ofNat 4 ∧ 4 < 7 ∧ x2 + (rgA S 96 32 []).length = (x5 ++ rgA S 96 32 []).length ∧ roomFor (x2 + (rgA S 96 32 []).length) (rgA S 128 32 []).length 1 ∧ (0 : Int) ≤ Int.ofNat 5 ∧ 5 < 7 ∧ x4 = (x5 ++ rgA S 96 32 [] ++ rgA S 128 32 []).length ∧ roomFor x4 (rgA S 160 32 []).length 1 ∧ (0 : Int) ≤ Int.ofNat 6 ∧ 6 < 7 ∧ x4 + (rgA S 160 32 []).length = (x5 ++ rgA S 96 32 [] ++ rgA S 128 32 [] ++ rgA S 160 32 []).length ∧ roomFor (x4 + (rgA S 160 32 []).length) (rgA S 192 32 []).length 1 ∧ 2 = [BitVec.ofInt 8 i, BitVec.ofInt 8 o].length ∧ x4 + (rgA S 160 32 []).length + (rgA S 192 32 []).length = (x5 ++ rgA S 96 32 [] ++ rgA S 128 32 [] ++ rgA S 160 32 [] ++ rgA S 192 32 []).length ∧ roomFor (x4 + (rgA S 160 32 []).length + (rgA S 192 32 []).length) [BitVec.ofInt 8 i, BitVec.ofInt 8 o].length 1 ∧ x4 + (rgA S 160 32 []).length + (rgA S 192 32 []).length + [BitVec.ofInt 8 i, BitVec.ofInt 8 o].length = x1.length ∧ x1.length < 1099511627776 ∧ puBad ie (2 : Int) = Bool.false ∧ x1.length + 2 = List.length (puB x1 ie (2 : Int)) ∧ List.length (puB x1 ie (2 : Int)) < 1099511627776 ∧ puBad oe (2 : Int) = Bool.false ∧ 1 = [snFl sl].length ∧ List.length (puB x1 ie (2 : Int)) + 2 = List.length (puB (puB x1 ie (2 : Int)) oe (2 : Int)) ∧ roomFor (List.length (puB x1 ie (2 : Int)) + 2) [snFl sl].length 1 ∧ List.length (puB x1 ie (2 : Int)) + 2 + [snFl sl].length = x6.length ∧ x6.length + 0 < 549755813888 ∧ Bool.false = Bool.false ∧ 0 = 0 ∧ 0 = 0 ∧ 0 = 0 ∧ L = x6.length + 2 + 0 ∧ e = (0 : Int) ∧ B = pvB x6 [] (2 : Int) ∧ True : Prop) := by kernel_rfl
end Go.Sym

set_option linter.unusedSimpArgs false
namespace Go.Spec
open Go.Sym
theorem rgA_len {α : Type} (F : Nat → α) (s n : Nat) (r : List α) : (rgA F s n r).length = n + r.length := by
  rw [rgA_eq]; simp
set_option maxRecDepth 100000 in
theorem sums_r (S : G8) (R : By) : rg 32 S ++ (rgA S 32 32 [] ++ (rgA S 64 32 [] ++ (rgA S 96 32 [] ++ (rgA S 128 32 [] ++ (rgA S 160 32 [] ++ (rgA S 192 32 [] ++ R)))))) = (List.range 224).map S ++ R := by kernel_rfl
theorem snOk_iff {p : Int} {lg : Nat} {i o ie oe : Int} {pt us : Nat} {al : Int} : snOk p lg i o ie oe pt us al = true ↔
    (0 ≤ p ∧ p ≤ 4) ∧ (0 ≤ i ∧ i ≤ 64) ∧ (0 ≤ o ∧ o ≤ 64) ∧ (0 ≤ ie ∧ ie ≤ 65535) ∧ (0 ≤ oe ∧ oe ≤ 65535) ∧ (-1 ≤ al ∧ al ≤ 255) ∧ lg ≤ 20000 ∧ pt ≤ 4096 ∧ us ≤ 255 := by
  simp only [snOk, Bool.and_eq_true, decide_eq_true_eq]
  omega
theorem puBad2 {n : Int} (h0 : 0 ≤ n) (hn : n ≤ 65535) : puBad n 2 = false := puBad_ok (by omega) (by omega) h0 (show n < (65536 : Int) by omega)
theorem puBad1 {n : Int} (h0 : 0 ≤ n) (hn : n ≤ 255) : puBad n 1 = false := puBad_ok (by omega) (by omega) h0 (show n < (256 : Int) by omega)
theorem al_one {al : Int} (h : -1 ≤ al) (h2 : al ≤ 255) : IntKind.i64.wrap (al - Int.negSucc 0) = al + 1 := by
  have e : al - Int.negSucc 0 = al + 1 := by have : Int.negSucc 0 = -1 := rfl; omega
  rw [e]; exact wrap_i64 (by omega) (by omega)
theorem snB_1 (p i o ie oe al : Int) (lg pt us : By) (S : G8) (sl : Bool) : snB 1 p lg S i o ie oe sl pt us al = [1#8, BitVec.ofInt 8 p] ++ (puL lg.length 2 ++ (lg ++ ((List.range 224).map S ++ ([BitVec.ofInt 8 i, BitVec.ofInt 8 o] ++ (puL ie.toNat 2 ++ (puL oe.toNat 2 ++ ([snFl sl] ++ (puL pt.length 2 ++ pt)))))))) := by
  unfold snB snB1
  rw [if_neg (by omega), if_neg (by omega), List.append_nil, List.append_nil]
  rfl
theorem snB_2 (p i o ie oe al : Int) (lg pt us : By) (S : G8) (sl : Bool) : snB 2 p lg S i o ie oe sl pt us al = [2#8, BitVec.ofInt 8 p] ++ (puL lg.length 2 ++ (lg ++ ((List.range 224).map S ++ ([BitVec.ofInt 8 i, BitVec.ofInt 8 o] ++ (puL ie.toNat 2 ++ (puL oe.toNat 2 ++ ([snFl sl] ++ (puL pt.length 2 ++ (pt ++ (puL us.length 1 ++ us)))))))))) := by
  unfold snB snB1
  rw [if_pos (by omega), if_neg (by omega), List.append_nil]
  simp only [List.append_assoc]
  rfl
theorem snB_3 (p i o ie oe al : Int) (lg pt us : By) (S : G8) (sl : Bool) : snB 3 p lg S i o ie oe sl pt us al = [3#8, BitVec.ofInt 8 p] ++ (puL lg.length 2 ++ (lg ++ ((List.range 224).map S ++ ([BitVec.ofInt 8 i, BitVec.ofInt 8 o] ++ (puL ie.toNat 2 ++ (puL oe.toNat 2 ++ ([snFl sl] ++ (puL pt.length 2 ++ (pt ++ (puL us.length 1 ++ (us ++ puL (al + 1).toNat 2))))))))))) := by
  unfold snB snB1
  rw [if_pos (by omega), if_pos (by omega)]
  simp only [List.append_assoc]
  rfl
theorem snB_l1 (p i o ie oe al : Int) (lg pt us : By) (S : G8) (sl : Bool) : (snB 1 p lg S i o ie oe sl pt us al).length = 237 + lg.length + pt.length := by
  rw [snB_1]; simp only [List.length_append, List.length_cons, List.length_nil, puL_len, List.length_map, List.length_range]; omega
theorem snB_l2 (p i o ie oe al : Int) (lg pt us : By) (S : G8) (sl : Bool) : (snB 2 p lg S i o ie oe sl pt us al).length = 238 + lg.length + pt.length + us.length := by
  rw [snB_2]; simp only [List.length_append, List.length_cons, List.length_nil, puL_len, List.length_map, List.length_range]; omega
theorem snB_l3 (p i o ie oe al : Int) (lg pt us : By) (S : G8) (sl : Bool) : (snB 3 p lg S i o ie oe sl pt us al).length = 240 + lg.length + pt.length + us.length := by
  rw [snB_3]; simp only [List.length_append, List.length_cons, List.length_nil, puL_len, List.length_map, List.length_range]; omega
def snKK (v p : Int) (lg : Nat) (i o ie oe : Int) (pt us : Nat) (al : Int) : Bool := snOk p lg i o ie oe pt us al && (decide (1 ≤ v) && decide (v ≤ 3))
def snPM (v p : Int) (lg : By) (S : G8) (i o ie oe : Int) (sl : Bool) (pt us : By) (al : Int) : By := if snKK v p lg.length i o ie oe pt.length us.length al then snB v p lg S i o ie oe sl pt us al else []
def snPE (v p : Int) (lg : Nat) (i o ie oe : Int) (pt us : Nat) (al : Int) : Int := if snKK v p lg i o ie oe pt us al then 0 else 1
theorem two_n : (2 : Int).toNat = 2 := rfl
theorem one_n : (1 : Int).toNat = 1 := rfl
end Go.Spec
namespace Go.Sym
open Go.Proofs Go.Spec
set_option linter.unusedVariables false
set_option maxHeartbeats 2000000 in
theorem bs53o (p i o ie oe al : Int) (lg pt us : By) (S : G8) (sl : Bool) (h : snOk p lg.length i o ie oe pt.length us.length al = true) : Must (bodyP Try.prog Z13 gl0 [] [] 3000 Try.f53 3 [snS p (.slice 0 0 1 lg.length .ow .unk) S i o ie oe sl (.slice 1 0 1 pt.length .ow .unk) (.slice 2 0 1 us.length .ow .unk) al, .int .i64 3] [⟨.bytes lg, true, 1⟩, ⟨.bytes pt, true, 1⟩, ⟨.bytes us, true, 1⟩] (retQ Try.prog Try.f53 3 (rPv lg pt us (snB 3 p lg S i o ie oe sl pt us al).length (snB 3 p lg S i o ie oe sl pt us al) 0))) := by
  constructor
  rw [vs53o]
  obtain ⟨⟨a1, a2⟩, ⟨a3, a4⟩, ⟨a5, a6⟩, ⟨a7, a8⟩, ⟨a9, b1⟩, ⟨b2, b3⟩, b4, b5, b6⟩ := snOk_iff.1 h
  have q1 : puBad (lg.length : Int) 2 = false := puBad2 (by omega) (by omega)
  have q2 := puBad2 a7 a8
  have q3 := puBad2 a9 b1
  have q4 : puBad (pt.length : Int) 2 = false := puBad2 (by omega) (by omega)
  have q5 : puBad (us.length : Int) 1 = false := puBad1 (by omega) (by omega)
  have q6 : puBad (al + 1) 2 = false := puBad2 (by omega) (by omega)
  rw [al_one b2 b3, snB_l3]
  simp only [pvB, puB, List.length_append, List.length_cons, List.length_nil, puL_len, rg_length, rgA_len, q1, q2, q3, q4, q5, q6, h, roomFor, two_n, one_n, Int.toNat_natCast, List.append_assoc, sums_r, List.length_map, List.length_range]
  and_intros
  all_goals first | exact True.intro | omega | exact Int.natCast_nonneg _ | exact snB_3 ..
set_option maxHeartbeats 2000000 in
theorem bs53n (p i o ie oe al : Int) (S : G8) (sl : Bool) (h : snOk p 0 i o ie oe 0 0 al = true) : Must (bodyP Try.prog Z13 gl0 [] [] 3000 Try.f53 0 [snS p .nils S i o ie oe sl .nils .nils al, .int .i64 1] [] (retQ Try.prog Try.f53 0 (rPu (snB 1 p [] S i o ie oe sl [] [] al).length (snB 1 p [] S i o ie oe sl [] [] al) 0))) := by
  constructor
  rw [vs53n]
  obtain ⟨⟨a1, a2⟩, ⟨a3, a4⟩, ⟨a5, a6⟩, ⟨a7, a8⟩, ⟨a9, b1⟩, ⟨b2, b3⟩, b4, b5, b6⟩ := snOk_iff.1 h
  have q1 : puBad (0 : Int) 2 = false := puBad2 (by omega) (by omega)
  have q2 := puBad2 a7 a8
  have q3 := puBad2 a9 b1
  have q4 := q1
  have q5 := q1
  have q6 := q1
  have hB := snB_1 p i o ie oe al [] [] [] S sl
  rw [snB_l1]
  simp only [pvB, puB, List.length_append, List.length_cons, List.length_nil, puL_len, rg_length, rgA_len, q1, q2, q3, q4, q5, q6, h, roomFor, two_n, one_n, Int.toNat_natCast, List.append_assoc, sums_r, List.length_map, List.length_range] at hB ⊢
  and_intros
  all_goals first | exact True.intro | omega | exact Int.natCast_nonneg _ | exact q1 | exact hB
set_option maxHeartbeats 2000000 in
theorem bs53r1 (p i o ie oe al : Int) (lg pt us : By) (n1 n2 n3 : NL) (S : G8) (sl : Bool) (h : snOk p lg.length i o ie oe pt.length us.length al = true) : Must (bodyP Try.prog Z12 gl0 [] [] 3000 Try.f53 0 [snS p (.rb true lg n1) S i o ie oe sl (.rb true pt n2) (.rb true us n3) al, .int .i64 1] [] (retQ Try.prog Try.f53 0 (rPu (snB 1 p lg S i o ie oe sl pt us al).length (snB 1 p lg S i o ie oe sl pt us al) 0))) := by
  constructor
  rw [vs53r]
  obtain ⟨⟨a1, a2⟩, ⟨a3, a4⟩, ⟨a5, a6⟩, ⟨a7, a8⟩, ⟨a9, b1⟩, ⟨b2, b3⟩, b4, b5, b6⟩ := snOk_iff.1 h
  have q1 : puBad (lg.length : Int) 2 = false := puBad2 (by omega) (by omega)
  have q2 := puBad2 a7 a8
  have q3 := puBad2 a9 b1
  have q4 : puBad (pt.length : Int) 2 = false := puBad2 (by omega) (by omega)
  have q5 : puBad (us.length : Int) 1 = false := puBad1 (by omega) (by omega)
  have q6 : puBad (al + 1) 2 = false := puBad2 (by omega) (by omega)
  have hB := snB_1 p i o ie oe al lg pt us S sl
  have d1 : decide ((1 : Int) ≤ 1) = true := rfl
  have d2 : decide ((1 : Int) ≤ 3) = true := rfl
  have d3 : decide ((2 : Int) ≤ 1) = false := rfl
  have d4 : decide ((3 : Int) ≤ 1) = false := rfl
  rw [al_one b2 b3, snB_l1]
  simp only [pvB, puB, List.length_append, List.length_cons, List.length_nil, puL_len, rg_length, rgA_len, q1, q2, q3, q4, q5, q6, h, roomFor, two_n, one_n, Int.toNat_natCast, List.append_assoc, sums_r, List.length_map, List.length_range, d1, d2, d3, d4, Bool.not_true, Bool.not_false]
  and_intros
  all_goals first | exact True.intro | omega | exact Int.natCast_nonneg _ | exact hB
set_option maxHeartbeats 2000000 in
theorem bs53r2 (p i o ie oe al : Int) (lg pt us : By) (n1 n2 n3 : NL) (S : G8) (sl : Bool) (h : snOk p lg.length i o ie oe pt.length us.length al = true) : Must (bodyP Try.prog Z12 gl0 [] [] 3000 Try.f53 0 [snS p (.rb true lg n1) S i o ie oe sl (.rb true pt n2) (.rb true us n3) al, .int .i64 2] [] (retQ Try.prog Try.f53 0 (rPu (snB 2 p lg S i o ie oe sl pt us al).length (snB 2 p lg S i o ie oe sl pt us al) 0))) := by
  constructor
  rw [vs53r]
  obtain ⟨⟨a1, a2⟩, ⟨a3, a4⟩, ⟨a5, a6⟩, ⟨a7, a8⟩, ⟨a9, b1⟩, ⟨b2, b3⟩, b4, b5, b6⟩ := snOk_iff.1 h
  have q1 : puBad (lg.length : Int) 2 = false := puBad2 (by omega) (by omega)
  have q2 := puBad2 a7 a8
  have q3 := puBad2 a9 b1
  have q4 : puBad (pt.length : Int) 2 = false := puBad2 (by omega) (by omega)
  have q5 : puBad (us.length : Int) 1 = false := puBad1 (by omega) (by omega)
  have q6 : puBad (al + 1) 2 = false := puBad2 (by omega) (by omega)
  have hB := snB_2 p i o ie oe al lg pt us S sl
  have d1 : decide ((1 : Int) ≤ 2) = true := rfl
  have d2 : decide ((2 : Int) ≤ 3) = true := rfl
  have d3 : decide ((2 : Int) ≤ 2) = true := rfl
  have d4 : decide ((3 : Int) ≤ 2) = false := rfl
  rw [al_one b2 b3, snB_l2]
  simp only [pvB, puB, List.length_append, List.length_cons, List.length_nil, puL_len, rg_length, rgA_len, q1, q2, q3, q4, q5, q6, h, roomFor, two_n, one_n, Int.toNat_natCast, List.append_assoc, sums_r, List.length_map, List.length_range, d1, d2, d3, d4, Bool.not_true, Bool.not_false]
  and_intros
  all_goals first | exact True.intro | omega | exact Int.natCast_nonneg _ | exact hB
set_option maxHeartbeats 2000000 in
theorem bs53r3 (p i o ie oe al : Int) (lg pt us : By) (n1 n2 n3 : NL) (S : G8) (sl : Bool) (h : snOk p lg.length i o ie oe pt.length us.length al = true) : Must (bodyP Try.prog Z12 gl0 [] [] 3000 Try.f53 0 [snS p (.rb true lg n1) S i o ie oe sl (.rb true pt n2) (.rb true us n3) al, .int .i64 3] [] (retQ Try.prog Try.f53 0 (rPu (snB 3 p lg S i o ie oe sl pt us al).length (snB 3 p lg S i o ie oe sl pt us al) 0))) := by
  constructor
  rw [vs53r]
  obtain ⟨⟨a1, a2⟩, ⟨a3, a4⟩, ⟨a5, a6⟩, ⟨a7, a8⟩, ⟨a9, b1⟩, ⟨b2, b3⟩, b4, b5, b6⟩ := snOk_iff.1 h
  have q1 : puBad (lg.length : Int) 2 = false := puBad2 (by omega) (by omega)
  have q2 := puBad2 a7 a8
  have q3 := puBad2 a9 b1
  have q4 : puBad (pt.length : Int) 2 = false := puBad2 (by omega) (by omega)
  have q5 : puBad (us.length : Int) 1 = false := puBad1 (by omega) (by omega)
  have q6 : puBad (al + 1) 2 = false := puBad2 (by omega) (by omega)
  have hB := snB_3 p i o ie oe al lg pt us S sl
  have d1 : decide ((1 : Int) ≤ 3) = true := rfl
  have d2 : decide ((3 : Int) ≤ 3) = true := rfl
  have d3 : decide ((2 : Int) ≤ 3) = true := rfl
  have d4 : decide ((3 : Int) ≤ 3) = true := rfl
  rw [al_one b2 b3, snB_l3]
  simp only [pvB, puB, List.length_append, List.length_cons, List.length_nil, puL_len, rg_length, rgA_len, q1, q2, q3, q4, q5, q6, h, roomFor, two_n, one_n, Int.toNat_natCast, List.append_assoc, sums_r, List.length_map, List.length_range, d1, d2, d3, d4, Bool.not_true, Bool.not_false]
  and_intros
  all_goals first | exact True.intro | omega | exact Int.natCast_nonneg _ | exact hB
theorem bs53z (v p i o ie oe al : Int) (lg pt us : By) (n1 n2 n3 : NL) (S : G8) (sl : Bool) (h : snKK v p lg.length i o ie oe pt.length us.length al = false) : Must (bodyP Try.prog Z12 gl0 [] [] 3000 Try.f53 0 [snS p (.rb true lg n1) S i o ie oe sl (.rb true pt n2) (.rb true us n3) al, .int .i64 v] [] (retQ Try.prog Try.f53 0 (rPu 0 [] 1))) := by
  constructor
  rw [vs53r]
  unfold snKK at h
  have h7 : (0 : Nat) = 0 ∧ (1 : Int) = 1 ∧ ([] : By) = [] ∧ True := ⟨rfl, rfl, rfl, trivial⟩
  intro x1 x2 x3 x4 x5 x6
  cases hs : snOk p lg.length i o ie oe pt.length us.length al
  · exact h7
  rw [hs, Bool.true_and] at h
  by_cases c1 : 1 ≤ v
  · by_cases c2 : v ≤ 3
    · rw [decide_eq_true c1, decide_eq_true c2] at h; exact absurd h (by decide)
    · rw [decide_eq_true c1, decide_eq_false c2]; exact h7
  · rw [decide_eq_false c1]; exact h7
theorem bs53r (v p i o ie oe al : Int) (lg pt us : By) (n1 n2 n3 : NL) (S : G8) (sl : Bool) : Must (bodyP Try.prog Z12 gl0 [] [] 3000 Try.f53 0 [snS p (.rb true lg n1) S i o ie oe sl (.rb true pt n2) (.rb true us n3) al, .int .i64 v] [] (retQ Try.prog Try.f53 0 (rPu (snPM v p lg S i o ie oe sl pt us al).length (snPM v p lg S i o ie oe sl pt us al) (snPE v p lg.length i o ie oe pt.length us.length al)))) := by
  unfold snPM snPE
  cases h : snKK v p lg.length i o ie oe pt.length us.length al
  · exact bs53z v p i o ie oe al lg pt us n1 n2 n3 S sl h
  · have h0 := h
    unfold snKK at h0
    rw [Bool.and_eq_true, Bool.and_eq_true, decide_eq_true_eq, decide_eq_true_eq] at h0
    obtain ⟨h1, h2, h3⟩ := h0
    have hv : v = 1 ∨ v = 2 ∨ v = 3 := by omega
    rcases hv with e | e | e
    · subst e; exact bs53r1 p i o ie oe al lg pt us n1 n2 n3 S sl h1
    · subst e; exact bs53r2 p i o ie oe al lg pt us n1 n2 n3 S sl h1
    · subst e; exact bs53r3 p i o ie oe al lg pt us n1 n2 n3 S sl h1
end Go.Sym

set_option linter.unusedSimpArgs false
namespace Go.Sym
open Go.Proofs Go.Spec
set_option linter.unusedVariables false
/-- The state behind its three slices. -/
def asSr (cs : List AV) (g : Int → AV → G8 → Int → Int → Int → Int → Bool → AV → AV → Int → TL) : TL :=
  match cs with
  | .int .i64 p :: lg :: r =>
    match r.drop 224, rdU8 (r.take 224) with
    | [.int .i64 i, .int .i64 o, .int .i64 ie, .int .i64 oe, .bool sl, pt, us, .int .i64 al], some l =>
      (match l.length == 224 with | true => g p lg (fun j => l.getD j 0) i o ie oe sl pt us al | false => .no)
    | _, _ => .no
  | _ => .no
theorem asSr_sel {cs : List AV} {g : Int → AV → G8 → Int → Int → Int → Int → Bool → AV → AV → Int → TL} {r : RL} (h : (asSr cs g).sel = some r) :
    ∃ p lg S i o ie oe sl pt us al, AV.agg cs = snS p lg S i o ie oe sl pt us al ∧ (g p lg S i o ie oe sl pt us al).sel = some r := by
  unfold asSr at h
  split at h
  · rename_i p lg rr
    split at h
    · rename_i i o ie oe sl pt us al l hd hl
      split at h
      · rename_i hn
        have hn : l.length = 224 := by simpa using hn
        refine ⟨p, lg, _, i, o, ie, oe, sl, pt, us, al, ?_, h⟩
        unfold snS snC
        have e := List.take_append_drop 224 rr
        rw [hd, rdU8_eq hl] at e
        rw [← e]
        congr 4
        unfold sn8
        apply List.ext_getElem
        · simp [hn]
        · intro j h1 h2
          have hj : j < l.length := by simpa using h1
          simp [List.getD, hj]
      · simp [TL.sel] at h
    · simp [TL.sel] at h
  · simp [TL.sel] at h
def gs53r (xs : List AV) (bs : List ABlk) : TL := match xs with
  | [.agg cs, .int .i64 v] => asSr cs fun p lg S i o ie oe sl pt us al =>
    match lg, pt, us, bs with
    | .rb true lg n1, .rb true pt n2, .rb true us n3, [] => .ok ⟨[], .tup [.slice 0 0 1 (snPM v p lg S i o ie oe sl pt us al).length .ow .unk, .int .i64 (snPE v p lg.length i o ie oe pt.length us.length al)], [], [⟨.bytes (snPM v p lg S i o ie oe sl pt us al), true, 1⟩]⟩
    | _, _, _, _ => .no
  | _ => .no
theorem cs53r : COK Try.prog gl0 53 (mkF (reSp 2 gs53r)) := by
  refine ctrE (fn := Try.f53) [] 3000 (by kernel_rfl) (by kernel_rfl) okZ12 (by kernel_rfl) (fun args w => by kernel_rfl) fun xs bs r hs ho => ?_
  replace hs : (gs53r xs bs).sel = some r := hs
  unfold gs53r at hs
  split at hs
  · obtain ⟨p, lg, S, i, o, ie, oe, sl, pt, us, al, e, hs⟩ := asSr_sel hs
    split at hs
    · simp only [TL.sel, Option.some.injEq] at hs
      subst hs
      rw [e]
      exact ⟨_, bs53r ..⟩
    · simp [TL.sel] at hs
  · simp [TL.sel] at hs
def gs53o (xs : List AV) (bs : List ABlk) : TL := match xs with
  | [.agg cs, .int .i64 3] => asSr cs fun p lg S i o ie oe sl pt us al =>
    match lg, pt, us, bs with
    | .slice 0 0 1 n1 .ow .unk, .slice 1 0 1 n2 .ow .unk, .slice 2 0 1 n3 .ow .unk, [⟨.bytes lg, true, 1⟩, ⟨.bytes pt, true, 1⟩, ⟨.bytes us, true, 1⟩] => .ok ⟨[n1 = lg.length ∧ n2 = pt.length ∧ n3 = us.length, snOk p lg.length i o ie oe pt.length us.length al = true], .tup [.slice 3 0 1 (snB 3 p lg S i o ie oe sl pt us al).length .ow .unk, .int .i64 0], [some (some ⟨.bytes lg, true, 1⟩), some (some ⟨.bytes pt, true, 1⟩), some (some ⟨.bytes us, true, 1⟩)], [⟨.bytes (snB 3 p lg S i o ie oe sl pt us al), true, 1⟩]⟩
    | _, _, _, _ => .no
  | _ => .no
theorem cs53o : COK Try.prog gl0 53 (mkF (reSp 2 gs53o)) := by
  refine ctrE (fn := Try.f53) [] 3000 (by kernel_rfl) (by kernel_rfl) okZ13 (by kernel_rfl) (fun args w => by kernel_rfl) fun xs bs r hs ho => ?_
  replace hs : (gs53o xs bs).sel = some r := hs
  unfold gs53o at hs
  split at hs
  · obtain ⟨p, lg, S, i, o, ie, oe, sl, pt, us, al, e, hs⟩ := asSr_sel hs
    split at hs
    · simp only [TL.sel, Option.some.injEq] at hs
      subst hs
      obtain ⟨⟨h1, h2, h3⟩, h4⟩ := obsT_cons.1 ho
      replace h4 := obsT_one.1 ho.2
      rw [e]
      subst h1 h2 h3
      exact ⟨_, bs53o _ _ _ _ _ _ _ _ _ _ _ h4⟩
    · simp [TL.sel] at hs
  · simp [TL.sel] at hs
def gs53n (xs : List AV) (bs : List ABlk) : TL := match xs with
  | [.agg cs, .int .i64 1] => asSr cs fun p lg S i o ie oe sl pt us al =>
    match lg, pt, us, bs with
    | .nils, .nils, .nils, [] => .ok ⟨[snOk p 0 i o ie oe 0 0 al = true], .tup [.slice 0 0 1 (snB 1 p [] S i o ie oe sl [] [] al).length .ow .unk, .int .i64 0], [], [⟨.bytes (snB 1 p [] S i o ie oe sl [] [] al), true, 1⟩]⟩
    | _, _, _, _ => .no
  | _ => .no
theorem cs53n : COK Try.prog gl0 53 (mkF (reSp 2 gs53n)) := by
  refine ctrE (fn := Try.f53) [] 3000 (by kernel_rfl) (by kernel_rfl) okZ13 (by kernel_rfl) (fun args w => by kernel_rfl) fun xs bs r hs ho => ?_
  replace hs : (gs53n xs bs).sel = some r := hs
  unfold gs53n at hs
  split at hs
  · obtain ⟨p, lg, S, i, o, ie, oe, sl, pt, us, al, e, hs⟩ := asSr_sel hs
    split at hs
    · simp only [TL.sel, Option.some.injEq] at hs
      subst hs
      rw [e]
      exact ⟨_, bs53n _ _ _ _ _ _ _ _ (obsT_one.1 ho)⟩
    · simp [TL.sel] at hs
  · simp [TL.sel] at hs
end Go.Sym

namespace Go.Sym
open Go.Proofs Go.Spec
noncomputable def Z14 : Ctx := (Z13.add 59 (mkF sps59)).add 53 (mkF (reSp 2 gs53o))
theorem okZ14 : COKs Try.prog gl0 Z14 := (okZ13.add cs59).add cs53o
noncomputable def Z15 : Ctx := (Z13.add 59 (mkF sps59)).add 53 (mkF (reSp 2 gs53n))
theorem okZ15 : COKs Try.prog gl0 Z15 := (okZ13.add cs59).add cs53n
end Go.Sym

namespace Go.Sym
open Go.Proofs Go.Spec
set_option linter.unusedVariables false
set_option maxRecDepth 100000 in
theorem vs60 (L : By) (B : By) (n : Nat) (e : Int) : bodyP Try.prog Z14 gl0 [] [] 3000 Try.f60 0 [.rb false L .unk] [] (retQ Try.prog Try.f60 0 (rPu n B e)) = (
let x1 := snB (3 : Int) (↑(beN (cutB L 1 1)) : Int) (cutB L 4 (gN1 L)) (fun (j : Nat) => (rg 224 (gS L)).getD j (0 : BitVec 8)) (↑(beN (cutB L (gY L) 1)) : Int) (↑(beN (cutB L (gY L + 1) 1)) : Int) (↑(beN (cutB L (gY L + 1 + 1) 2)) : Int) (↑(beN (cutB L (gY L + 1 + 1 + 2) 2)) : Int) (decide ((↑(gSl L) : Int) = Int.ofNat 1)) (cutB L (gQ L + 1 + 2) (gN2 L)) (gUs (List.getD L 0 (0 : BitVec 8)).toNat L) (gAl (List.getD L 0 (0 : BitVec 8)).toNat L); (1 ≤ (List.getD L 0 (0 : BitVec 8)).toNat ∧ (List.getD L 0 (0 : BitVec 8)).toNat ≤ 3) ∧ (List.length L < 1099511627776 ∧ gE (List.getD L 0 (0 : BitVec 8)).toNat L = List.length L ∧ gN1 L ≤ 20000 ∧ gN2 L ≤ 4096 ∧ gN3 (List.getD L 0 (0 : BitVec 8)).toNat L ≤ 255 ∧ gSl L ≤ 1 ∧ snOk (↑(beN (cutB L 1 1)) : Int) (gN1 L) (↑(beN (cutB L (gY L) 1)) : Int) (↑(beN (cutB L (gY L + 1) 1)) : Int) (↑(beN (cutB L (gY L + 1 + 1) 2)) : Int) (↑(beN (cutB L (gY L + 1 + 1 + 2) 2)) : Int) (gN2 L) (gN3 (List.getD L 0 (0 : BitVec 8)).toNat L) (gAl (List.getD L 0 (0 : BitVec 8)).toNat L) = Bool.true) ∧ (gN1 L = List.length (cutB L 4 (gN1 L)) ∧ gN2 L = List.length (cutB L (gQ L + 1 + 2) (gN2 L)) ∧ gN3 (List.getD L 0 (0 : BitVec 8)).toNat L = List.length (gUs (List.getD L 0 (0 : BitVec 8)).toNat L)) ∧ snOk (↑(beN (cutB L 1 1)) : Int) (List.length (cutB L 4 (gN1 L))) (↑(beN (cutB L (gY L) 1)) : Int) (↑(beN (cutB L (gY L + 1) 1)) : Int) (↑(beN (cutB L (gY L + 1 + 1) 2)) : Int) (↑(beN (cutB L (gY L + 1 + 1 + 2) 2)) : Int) (List.length (cutB L (gQ L + 1 + 2) (gN2 L))) (List.length (gUs (List.getD L 0 (0 : BitVec 8)).toNat L)) (gAl (List.getD L 0 (0 : BitVec 8)).toNat L) = Bool.true ∧ 0 = 0 ∧ 0 = 0 ∧ 0 = 0 ∧ n = List.length x1 ∧ e = (0 : Int) ∧ B = x1 ∧ True : Prop) := by kernel_rfl
set_option maxRecDepth 100000 in
theorem vs56  : bodyP Try.prog Z15 gl0 [] [] 3000 Try.f56 0 [] [] (retQ Try.prog Try.f56 0 ⟨[], .bool true, [], []⟩) = (
Bool.true = Bool.true ∧ 237 = 237 ∧ (1 ≤ 1 ∧ 1 ≤ 3) ∧ (237 < 1099511627776 ∧ 237 = 237 ∧ 0 ≤ 20000 ∧ 0 ≤ 4096 ∧ 0 ≤ 255 ∧ 0 ≤ 1 ∧ Bool.true = Bool.true) ∧ Bool.true = Bool.true ∧ True : Prop) := by kernel_rfl
end Go.Sym

set_option linter.unusedSimpArgs false
namespace Go.Spec
open Go.Sym
theorem snB_cg {v p i o ie oe al : Int} {lg pt us : By} {S T : G8} {sl : Bool} (h : ∀ j, j < 224 → S j = T j) : snB v p lg S i o ie oe sl pt us al = snB v p lg T i o ie oe sl pt us al := by
  have e : (List.range 224).map S = (List.range 224).map T := List.map_congr_left (fun j hj => h j (by simpa using hj))
  unfold snB snB1
  rw [e]
/-- The newest bytes of what stands in bytes. -/
def gUp (L : By) : By := snB 3 (beN (cutB L 1 1)) (cutB L 4 (gN1 L)) (gS L) (beN (cutB L (gY L) 1)) (beN (cutB L (gY L + 1) 1)) (beN (cutB L (gY L + 1 + 1) 2)) (beN (cutB L (gY L + 1 + 1 + 2) 2)) (decide ((gSl L : Int) = Int.ofNat 1)) (cutB L (gQ L + 1 + 2) (gN2 L)) (gUs (L.getD 0 0).toNat L) (gAl (L.getD 0 0).toNat L)
theorem gUs_len {v : Nat} {L : By} : (gUs v L).length = gN3 v L := by
  unfold gUs
  split
  · rw [cutB_len]
  · rw [cutB_len]
  · unfold gN3
    split
    · simp_all
    · simp_all
    · rfl
end Go.Spec
namespace Go.Sym
open Go.Proofs Go.Spec
set_option linter.unusedVariables false
theorem bs60 (L : By) (h1 : 1 ≤ (L.getD 0 0).toNat ∧ (L.getD 0 0).toNat ≤ 3) (h2 : gG (L.getD 0 0).toNat L) : Must (bodyP Try.prog Z14 gl0 [] [] 3000 Try.f60 0 [.rb false L .unk] [] (retQ Try.prog Try.f60 0 (rPu (gUp L).length (gUp L) 0))) := by
  constructor
  rw [vs60]
  intro x1
  have e : x1 = gUp L := snB_cg (fun j hj => rg_getD _ _ _ _ hj)
  rw [e]
  refine ⟨h1, h2, ⟨(cutB_len ..).symm, (cutB_len ..).symm, gUs_len.symm⟩, ?_, rfl, rfl, rfl, rfl, rfl, rfl, trivial⟩
  rw [cutB_len, cutB_len, gUs_len]
  exact h2.2.2.2.2.2.2
def gs60 (xs : List AV) (bs : List ABlk) : TL := match xs, bs with
  | [.rb false L .unk], [] => .ok ⟨[1 ≤ (L.getD 0 0).toNat ∧ (L.getD 0 0).toNat ≤ 3, gG (L.getD 0 0).toNat L], .tup [.slice 0 0 1 (gUp L).length .ow .unk, .int .i64 0], [], [⟨.bytes (gUp L), true, 1⟩]⟩
  | _, _ => .no
def sps60 : Spec := ⟨[.by0], fun _ _ => [], fun _ _ => [], gs60⟩
theorem cs60 : COK Try.prog gl0 60 (mkF sps60) := by
  refine ctrE (fn := Try.f60) [] 3000 (by kernel_rfl) (by kernel_rfl) okZ14 (by kernel_rfl) (fun args w => by kernel_rfl) fun xs bs r hs ho => ?_
  replace hs : (gs60 xs bs).sel = some r := hs
  unfold gs60 at hs
  split at hs
  · simp only [TL.sel, Option.some.injEq] at hs
    subst hs
    obtain ⟨h1, h2⟩ := obsT_cons.1 ho
    exact ⟨_, bs60 _ h1 (obsT_one.1 h2)⟩
  · simp [TL.sel] at hs
theorem bs56 : Must (bodyP Try.prog Z15 gl0 [] [] 3000 Try.f56 0 [] [] (retQ Try.prog Try.f56 0 ⟨[], .bool true, [], []⟩)) := by
  constructor
  rw [vs56]
  exact ⟨rfl, rfl, by omega, ⟨by omega, rfl, by omega, by omega, by omega, by omega, rfl⟩, rfl, trivial⟩
def gs56 (xs : List AV) (bs : List ABlk) : TL := match xs, bs with
  | [], [] => .ok ⟨[], .bool true, [], []⟩
  | _, _ => .no
theorem cs56 : COK Try.prog gl0 56 (mkF (reSp 0 gs56)) := by
  refine ctrE (fn := Try.f56) [] 3000 (by kernel_rfl) (by kernel_rfl) okZ15 (by kernel_rfl) (fun args w => by kernel_rfl) fun xs bs r hs ho => ?_
  replace hs : (gs56 xs bs).sel = some r := hs
  unfold gs56 at hs
  split at hs
  · simp only [TL.sel, Option.some.injEq] at hs
    subst hs
    exact ⟨_, bs56⟩
  · simp [TL.sel] at hs
def rPb (L : Nat) (B : By) (d : Bool) : RL := ⟨[], .tup [.slice 0 0 1 L .ow .unk, .bool d], [], [⟨.bytes B, true, 1⟩]⟩
end Go.Sym

namespace Go.Sym
open Go.Proofs Go.Spec
set_option linter.unusedVariables false
set_option maxRecDepth 100000 in
theorem vs55 (v p i o ie oe al : Int) (lg pt us B : By) (S : G8) (sl d : Bool) (L : Nat) : bodyP Try.prog Z12 gl0 [] [] 3000 Try.f55 0 [snS p (.rb false lg .unk) S i o ie oe sl (.rb false pt .unk) (.rb false us .unk) al, .int .i64 v] [] (retQ Try.prog Try.f55 0 (rPb L B d)) = (
let x1 := pvB [BitVec.ofInt 8 v, BitVec.ofInt 8 p] lg (2 : Int) ++ rg 32 S ++ rgA S 32 32 [] ++ rgA S 64 32 [] ++ rgA S 96 32 [] ++ rgA S 128 32 [] ++ rgA S 160 32 [] ++ rgA S 192 32 []; let x2 := [BitVec.ofInt 8 i, BitVec.ofInt 8 o, BitVec.ofInt 8 (ie.fdiv (Int.ofNat 256)), BitVec.ofInt 8 ie, BitVec.ofInt 8 (oe.fdiv (Int.ofNat 256)), BitVec.ofInt 8 oe, BitVec.ofNat 8 0]; let x3 := [BitVec.ofInt 8 i, BitVec.ofInt 8 o, BitVec.ofInt 8 (ie.fdiv (Int.ofNat 256)), BitVec.ofInt 8 ie, BitVec.ofInt 8 (oe.fdiv (Int.ofNat 256)), BitVec.ofInt 8 oe, BitVec.ofNat 8 1]; let x4 := [BitVec.ofInt 8 v, BitVec.ofInt 8 p].length + 2 + List.length lg + (rg 32 S).length + (rgA S 32 32 []).length + (rgA S 64 32 []).length + (rgA S 96 32 []).length; let x5 := [BitVec.ofInt 8 v, BitVec.ofInt 8 p]; let x6 := x4 + (rgA S 128 32 []).length + (rgA S 160 32 []).length + (rgA S 192 32 []).length; let x7 := x5.length + 2 + List.length lg + (rg 32 S).length; let x8 := pvB x5 lg (2 : Int) ++ rg 32 S ++ rgA S 32 32 [] ++ rgA S 64 32 []; let x9 := pvB (pvB (x1 ++ x3) pt (2 : Int)) us (1 : Int); let x10 := pvB (pvB (x1 ++ x2) pt (2 : Int)) us (1 : Int); @Bool.rec (fun _ => Prop) (L = 0 ∧ d = Bool.false ∧ B = [] ∧ True) (@Bool.rec (fun _ => Prop) (L = 0 ∧ d = Bool.false ∧ B = [] ∧ True) (@Bool.rec (fun _ => Prop) (2 = x5.length ∧ x5.length + List.length lg < 549755813888 ∧ puBad (↑(List.length lg) : Int) (2 : Int) = Bool.false ∧ (0 : Int) ≤ (0 : Int) ∧ x5.length + 2 + List.length lg = List.length (pvB x5 lg (2 : Int)) ∧ roomFor (x5.length + 2 + List.length lg) (rg 32 S).length 1 ∧ (0 : Int) ≤ Int.ofNat 1 ∧ x7 = (pvB x5 lg (2 : Int) ++ rg 32 S).length ∧ roomFor x7 (rgA S 32 32 []).length 1 ∧ (0 : Int) ≤ Int.ofNat 2 ∧ x7 + (rgA S 32 32 []).length = (pvB x5 lg (2 : Int) ++ rg 32 S ++ rgA S 32 32 []).length ∧ roomFor (x7 + (rgA S 32 32 []).length) (rgA S 64 32 []).length 1 ∧ (0 : Int) ≤ Int.ofNat 3 ∧ x7 + (rgA S 32 32 []).length + (rgA S 64 32 []).length = x8.length ∧ roomFor (x7 + (rgA S 32 32 []).length + (rgA S 64 32 []).length) (rgA S 96 32 []).length 1 ∧ (0 : Int) ≤ Int.ofNat 4 ∧ x4 = (x8 ++ rgA S 96 32 []).length ∧ roomFor x4 (rgA S 128 32 []).length 1 ∧ (0 : Int) ≤ Int.ofNat 5 ∧ x4 + (rgA S 128 32 []).length = (x8 ++ rgA S 96 32 [] ++ rgA S 128 32 []).length ∧ roomFor (x4 + (rgA S 128 32 []).length) (rgA S 160 32 []).length 1 ∧ (0 : Int) ≤ Int.ofNat 6 ∧ x4 + (rgA S 128 32 []).length + (rgA S 160 32 []).length = (x8 ++ rgA S 96 32 [] ++ rgA S 128 32 [] ++ rgA S 160 32 []).length ∧ roomFor (x4 + (rgA S 128 32 []).length + (rgA S 160 32 []).length) (rgA S 192 32 []).length 1 ∧ @Bool.rec (fun _ => Prop) (7 = x2.length ∧ x6 = x1.length ∧ roomFor x6 x2.length 1 ∧ x6 + x2.length = (x1 ++ x2).length ∧ (x1 ++ x2).length + List.length pt < 549755813888 ∧ puBad (↑(List.length pt) : Int) (2 : Int) = Bool.false ∧ @Bool.rec (fun _ => Prop) (@Bool.rec (fun _ => Prop) (0 = 0 ∧ 0 = 0 ∧ 0 = 0 ∧ L = (x1 ++ x2).length + 2 + List.length pt ∧ d = Bool.true ∧ B = pvB (x1 ++ x2) pt (2 : Int) ∧ True) ((x1 ++ x2).length + 2 + List.length pt = List.length (pvB (x1 ++ x2) pt (2 : Int)) ∧ List.length (pvB (x1 ++ x2) pt (2 : Int)) < 1099511627776 ∧ puBad (IntKind.i64.wrap (al + (1 : Int))) (2 : Int) = Bool.false ∧ 0 = 0 ∧ 0 = 0 ∧ 0 = 0 ∧ L = List.length (pvB (x1 ++ x2) pt (2 : Int)) + 2 ∧ d = Bool.true ∧ B = puB (pvB (x1 ++ x2) pt (2 : Int)) (IntKind.i64.wrap (al + (1 : Int))) (2 : Int) ∧ True) (decide ((2 : Int) < v))) ((x1 ++ x2).length + 2 + List.length pt = List.length (pvB (x1 ++ x2) pt (2 : Int)) ∧ List.length (pvB (x1 ++ x2) pt (2 : Int)) + List.length us < 549755813888 ∧ puBad (↑(List.length us) : Int) (1 : Int) = Bool.false ∧ @Bool.rec (fun _ => Prop) (0 = 0 ∧ 0 = 0 ∧ 0 = 0 ∧ L = List.length (pvB (x1 ++ x2) pt (2 : Int)) + 1 + List.length us ∧ d = Bool.true ∧ B = x10 ∧ True) (List.length (pvB (x1 ++ x2) pt (2 : Int)) + 1 + List.length us = List.length x10 ∧ List.length x10 < 1099511627776 ∧ puBad (IntKind.i64.wrap (al + (1 : Int))) (2 : Int) = Bool.false ∧ 0 = 0 ∧ 0 = 0 ∧ 0 = 0 ∧ L = List.length x10 + 2 ∧ d = Bool.true ∧ B = puB x10 (IntKind.i64.wrap (al + (1 : Int))) (2 : Int) ∧ True) (decide ((2 : Int) < v))) (decide ((1 : Int) < v))) (7 = x3.length ∧ x6 = x1.length ∧ roomFor x6 x3.length 1 ∧ x6 + x3.length = (x1 ++ x3).length ∧ (x1 ++ x3).length + List.length pt < 549755813888 ∧ puBad (↑(List.length pt) : Int) (2 : Int) = Bool.false ∧ @Bool.rec (fun _ => Prop) (@Bool.rec (fun _ => Prop) (0 = 0 ∧ 0 = 0 ∧ 0 = 0 ∧ L = (x1 ++ x3).length + 2 + List.length pt ∧ d = Bool.true ∧ B = pvB (x1 ++ x3) pt (2 : Int) ∧ True) ((x1 ++ x3).length + 2 + List.length pt = List.length (pvB (x1 ++ x3) pt (2 : Int)) ∧ List.length (pvB (x1 ++ x3) pt (2 : Int)) < 1099511627776 ∧ puBad (IntKind.i64.wrap (al + (1 : Int))) (2 : Int) = Bool.false ∧ 0 = 0 ∧ 0 = 0 ∧ 0 = 0 ∧ L = List.length (pvB (x1 ++ x3) pt (2 : Int)) + 2 ∧ d = Bool.true ∧ B = puB (pvB (x1 ++ x3) pt (2 : Int)) (IntKind.i64.wrap (al + (1 : Int))) (2 : Int) ∧ True) (decide ((2 : Int) < v))) ((x1 ++ x3).length + 2 + List.length pt = List.length (pvB (x1 ++ x3) pt (2 : Int)) ∧ List.length (pvB (x1 ++ x3) pt (2 : Int)) + List.length us < 549755813888 ∧ puBad (↑(List.length us) : Int) (1 : Int) = Bool.false ∧ @Bool.rec (fun _ => Prop) (0 = 0 ∧ 0 = 0 ∧ 0 = 0 ∧ L = List.length (pvB (x1 ++ x3) pt (2 : Int)) + 1 + List.length us ∧ d = Bool.true ∧ B = x9 ∧ True) (List.length (pvB (x1 ++ x3) pt (2 : Int)) + 1 + List.length us = List.length x9 ∧ List.length x9 < 1099511627776 ∧ puBad (IntKind.i64.wrap (al + (1 : Int))) (2 : Int) = Bool.false ∧ 0 = 0 ∧ 0 = 0 ∧ 0 = 0 ∧ L = List.length x9 + 2 ∧ d = Bool.true ∧ B = puB x9 (IntKind.i64.wrap (al + (1 : Int))) (2 : Int) ∧ True) (decide ((2 : Int) < v))) (decide ((1 : Int) < v))) sl) (L = 0 ∧ d = Bool.false ∧ B = [] ∧ True) (decide ((3 : Int) < v))) !decide (v < (1 : Int))) !!snOk p (List.length lg) i o ie oe (List.length pt) (List.length us) al : Prop) := by kernel_rfl
set_option maxRecDepth 100000 in
theorem vs61 (p i o ie oe al : Int) (lg pt us : By) (S : G8) (sl d : Bool) : bodyP Try.prog Z12 gl0 [] [] 3000 Try.f61 0 [snS p (.rb false lg .unk) S i o ie oe sl (.rb false pt .unk) (.rb false us .unk) al, snS p (.rb false lg .unk) S i o ie oe sl (.rb false pt .unk) (.rb false us .unk) al] [] (retQ Try.prog Try.f61 0 ⟨[], .bool d, [], []⟩) = (
let x1 := fun (i : Nat) => decide (S i = S i); @Bool.rec (fun _ => Prop) (d = Bool.false ∧ True) (@Bool.rec (fun _ => Prop) (d = Bool.false ∧ True) (@Bool.rec (fun _ => Prop) (d = Bool.false ∧ True) (@Bool.rec (fun _ => Prop) (d = Bool.false ∧ True) (@Bool.rec (fun _ => Prop) (d = Bool.false ∧ True) (@Bool.rec (fun _ => Prop) (d = Bool.false ∧ True) (@Bool.rec (fun _ => Prop) (d = Bool.false ∧ True) (@Bool.rec (fun _ => Prop) (d = Bool.false ∧ True) (@Bool.rec (fun _ => Prop) (d = Bool.false ∧ True) (@Bool.rec (fun _ => Prop) (d = Bool.false ∧ True) (d = decide (al = al) ∧ True) (decide (us = us))) (decide (pt = pt))) (decide (sl = sl))) (decide (oe = oe))) (decide (ie = ie))) (decide (o = o))) (decide (i = i))) (andP x1 0 32 Bool.true && (andP x1 32 32 Bool.true && (andP x1 64 32 Bool.true && (andP x1 96 32 Bool.true && (andP x1 128 32 Bool.true && (andP x1 160 32 Bool.true && (andP x1 192 32 Bool.true && Bool.true)))))))) (decide (lg = lg))) (decide (p = p)) : Prop) := by kernel_rfl
end Go.Sym

set_option linter.unusedSimpArgs false
namespace Go.Spec
theorem bsDiv {c : Int} (h : 0 ≤ c) (m : Nat) : BitVec.ofInt 8 (c.fdiv (Int.ofNat m)) = BitVec.ofNat 8 (c.toNat / m) := by
  obtain ⟨n, rfl⟩ := Int.eq_ofNat_of_zero_le h
  have e : (n : Int).fdiv (Int.ofNat m) = ((n / m : Nat) : Int) := by
    rw [Int.ofNat_eq_natCast]; exact (Int.ofNat_fdiv n m).symm
  rw [e, BitVec.ofInt_natCast, Int.toNat_natCast]
theorem bsOne {c : Int} (h : 0 ≤ c) : BitVec.ofInt 8 c = BitVec.ofNat 8 c.toNat := by
  obtain ⟨n, rfl⟩ := Int.eq_ofNat_of_zero_le h
  rw [BitVec.ofInt_natCast, Int.toNat_natCast]
theorem bsL2 {c : Int} (h : 0 ≤ c) : puL c.toNat 2 = [BitVec.ofInt 8 (c.fdiv (Int.ofNat 256)), BitVec.ofInt 8 c] := by
  rw [bsDiv h, bsOne h]
  show [BitVec.ofNat 8 (c.toNat / 256 ^ 1), BitVec.ofNat 8 (c.toNat / 256 ^ 0)] = _
  simp only [Nat.pow_zero, Nat.div_one]
end Go.Spec
namespace Go.Sym
open Go.Proofs Go.Spec
set_option linter.unusedVariables false
set_option maxHeartbeats 4000000 in
theorem bs55r1 (p i o ie oe al : Int) (lg pt us : By) (S : G8) (sl : Bool) (h : snOk p lg.length i o ie oe pt.length us.length al = true) : Must (bodyP Try.prog Z12 gl0 [] [] 3000 Try.f55 0 [snS p (.rb false lg .unk) S i o ie oe sl (.rb false pt .unk) (.rb false us .unk) al, .int .i64 1] [] (retQ Try.prog Try.f55 0 (rPb (snB 1 p lg S i o ie oe sl pt us al).length (snB 1 p lg S i o ie oe sl pt us al) true))) := by
  constructor
  rw [vs55]
  obtain ⟨⟨a1, a2⟩, ⟨a3, a4⟩, ⟨a5, a6⟩, ⟨a7, a8⟩, ⟨a9, b1⟩, ⟨b2, b3⟩, b4, b5, b6⟩ := snOk_iff.1 h
  have q1 : puBad (lg.length : Int) 2 = false := puBad2 (by omega) (by omega)
  have q2 := puBad2 a7 a8
  have q3 := puBad2 a9 b1
  have q4 : puBad (pt.length : Int) 2 = false := puBad2 (by omega) (by omega)
  have q5 : puBad (us.length : Int) 1 = false := puBad1 (by omega) (by omega)
  have q6 : puBad (al + 1) 2 = false := puBad2 (by omega) (by omega)
  have hB := snB_1 p i o ie oe al lg pt us S sl
  rw [bsL2 a7, bsL2 a9] at hB
  have d1 : decide ((1 : Int) < 1) = false := rfl
  have d2 : decide ((3 : Int) < 1) = false := rfl
  have d3 : decide ((1 : Int) < 1) = false := rfl
  have d4 : decide ((2 : Int) < 1) = false := rfl
  have e1 : IntKind.i64.wrap (al + 1) = al + 1 := wrap_i64 (by omega) (by omega)
  rw [e1, snB_l1]
  cases sl
  all_goals
    simp only [List.cons_append, List.nil_append, List.append_assoc] at hB
    simp only [pvB, puB, List.length_append, List.length_cons, List.length_nil, puL_len, rg_length, rgA_len, q1, q2, q3, q4, q5, q6, h, roomFor, two_n, one_n, Int.toNat_natCast, List.append_assoc, sums_r, List.length_map, List.length_range, List.cons_append, List.nil_append, d1, d2, d3, d4, Bool.not_true, Bool.not_false]
    and_intros
    all_goals first | exact True.intro | omega | exact Int.natCast_nonneg _ | exact hB
set_option maxHeartbeats 4000000 in
theorem bs55r2 (p i o ie oe al : Int) (lg pt us : By) (S : G8) (sl : Bool) (h : snOk p lg.length i o ie oe pt.length us.length al = true) : Must (bodyP Try.prog Z12 gl0 [] [] 3000 Try.f55 0 [snS p (.rb false lg .unk) S i o ie oe sl (.rb false pt .unk) (.rb false us .unk) al, .int .i64 2] [] (retQ Try.prog Try.f55 0 (rPb (snB 2 p lg S i o ie oe sl pt us al).length (snB 2 p lg S i o ie oe sl pt us al) true))) := by
  constructor
  rw [vs55]
  obtain ⟨⟨a1, a2⟩, ⟨a3, a4⟩, ⟨a5, a6⟩, ⟨a7, a8⟩, ⟨a9, b1⟩, ⟨b2, b3⟩, b4, b5, b6⟩ := snOk_iff.1 h
  have q1 : puBad (lg.length : Int) 2 = false := puBad2 (by omega) (by omega)
  have q2 := puBad2 a7 a8
  have q3 := puBad2 a9 b1
  have q4 : puBad (pt.length : Int) 2 = false := puBad2 (by omega) (by omega)
  have q5 : puBad (us.length : Int) 1 = false := puBad1 (by omega) (by omega)
  have q6 : puBad (al + 1) 2 = false := puBad2 (by omega) (by omega)
  have hB := snB_2 p i o ie oe al lg pt us S sl
  rw [bsL2 a7, bsL2 a9] at hB
  have d1 : decide ((2 : Int) < 1) = false := rfl
  have d2 : decide ((3 : Int) < 2) = false := rfl
  have d3 : decide ((1 : Int) < 2) = true := rfl
  have d4 : decide ((2 : Int) < 2) = false := rfl
  have e1 : IntKind.i64.wrap (al + 1) = al + 1 := wrap_i64 (by omega) (by omega)
  rw [e1, snB_l2]
  cases sl
  all_goals
    simp only [List.cons_append, List.nil_append, List.append_assoc] at hB
    simp only [pvB, puB, List.length_append, List.length_cons, List.length_nil, puL_len, rg_length, rgA_len, q1, q2, q3, q4, q5, q6, h, roomFor, two_n, one_n, Int.toNat_natCast, List.append_assoc, sums_r, List.length_map, List.length_range, List.cons_append, List.nil_append, d1, d2, d3, d4, Bool.not_true, Bool.not_false]
    and_intros
    all_goals first | exact True.intro | omega | exact Int.natCast_nonneg _ | exact hB
set_option maxHeartbeats 4000000 in
theorem bs55r3 (p i o ie oe al : Int) (lg pt us : By) (S : G8) (sl : Bool) (h : snOk p lg.length i o ie oe pt.length us.length al = true) : Must (bodyP Try.prog Z12 gl0 [] [] 3000 Try.f55 0 [snS p (.rb false lg .unk) S i o ie oe sl (.rb false pt .unk) (.rb false us .unk) al, .int .i64 3] [] (retQ Try.prog Try.f55 0 (rPb (snB 3 p lg S i o ie oe sl pt us al).length (snB 3 p lg S i o ie oe sl pt us al) true))) := by
  constructor
  rw [vs55]
  obtain ⟨⟨a1, a2⟩, ⟨a3, a4⟩, ⟨a5, a6⟩, ⟨a7, a8⟩, ⟨a9, b1⟩, ⟨b2, b3⟩, b4, b5, b6⟩ := snOk_iff.1 h
  have q1 : puBad (lg.length : Int) 2 = false := puBad2 (by omega) (by omega)
  have q2 := puBad2 a7 a8
  have q3 := puBad2 a9 b1
  have q4 : puBad (pt.length : Int) 2 = false := puBad2 (by omega) (by omega)
  have q5 : puBad (us.length : Int) 1 = false := puBad1 (by omega) (by omega)
  have q6 : puBad (al + 1) 2 = false := puBad2 (by omega) (by omega)
  have hB := snB_3 p i o ie oe al lg pt us S sl
  rw [bsL2 a7, bsL2 a9] at hB
  have d1 : decide ((3 : Int) < 1) = false := rfl
  have d2 : decide ((3 : Int) < 3) = false := rfl
  have d3 : decide ((1 : Int) < 3) = true := rfl
  have d4 : decide ((2 : Int) < 3) = true := rfl
  have e1 : IntKind.i64.wrap (al + 1) = al + 1 := wrap_i64 (by omega) (by omega)
  rw [e1, snB_l3]
  cases sl
  all_goals
    simp only [List.cons_append, List.nil_append, List.append_assoc] at hB
    simp only [pvB, puB, List.length_append, List.length_cons, List.length_nil, puL_len, rg_length, rgA_len, q1, q2, q3, q4, q5, q6, h, roomFor, two_n, one_n, Int.toNat_natCast, List.append_assoc, sums_r, List.length_map, List.length_range, List.cons_append, List.nil_append, d1, d2, d3, d4, Bool.not_true, Bool.not_false]
    and_intros
    all_goals first | exact True.intro | omega | exact Int.natCast_nonneg _ | exact hB
theorem bs55z (v p i o ie oe al : Int) (lg pt us : By) (S : G8) (sl : Bool) (h : snKK v p lg.length i o ie oe pt.length us.length al = false) : Must (bodyP Try.prog Z12 gl0 [] [] 3000 Try.f55 0 [snS p (.rb false lg .unk) S i o ie oe sl (.rb false pt .unk) (.rb false us .unk) al, .int .i64 v] [] (retQ Try.prog Try.f55 0 (rPb 0 [] false))) := by
  constructor
  rw [vs55]
  unfold snKK at h
  have h7 : (0 : Nat) = 0 ∧ false = false ∧ ([] : By) = [] ∧ True := ⟨rfl, rfl, rfl, trivial⟩
  intro x1 x2 x3 x4 x5 x6 x7 x8 x9 x10
  cases hs : snOk p lg.length i o ie oe pt.length us.length al
  · exact h7
  rw [hs, Bool.true_and] at h
  by_cases c1 : v < 1
  · rw [decide_eq_true c1]; exact h7
  · by_cases c2 : 3 < v
    · rw [decide_eq_false c1, decide_eq_true c2]; exact h7
    · rw [decide_eq_true (show 1 ≤ v by omega), decide_eq_true (show v ≤ 3 by omega)] at h; exact absurd h (by decide)
theorem bs55 (v p i o ie oe al : Int) (lg pt us : By) (S : G8) (sl : Bool) : Must (bodyP Try.prog Z12 gl0 [] [] 3000 Try.f55 0 [snS p (.rb false lg .unk) S i o ie oe sl (.rb false pt .unk) (.rb false us .unk) al, .int .i64 v] [] (retQ Try.prog Try.f55 0 (rPb (snPM v p lg S i o ie oe sl pt us al).length (snPM v p lg S i o ie oe sl pt us al) (snKK v p lg.length i o ie oe pt.length us.length al)))) := by
  unfold snPM
  cases h : snKK v p lg.length i o ie oe pt.length us.length al
  · exact bs55z v p i o ie oe al lg pt us S sl h
  · have h0 := h
    unfold snKK at h0
    rw [Bool.and_eq_true, Bool.and_eq_true, decide_eq_true_eq, decide_eq_true_eq] at h0
    obtain ⟨h1, h2, h3⟩ := h0
    have hv : v = 1 ∨ v = 2 ∨ v = 3 := by omega
    rcases hv with e | e | e
    · subst e; exact bs55r1 p i o ie oe al lg pt us S sl h1
    · subst e; exact bs55r2 p i o ie oe al lg pt us S sl h1
    · subst e; exact bs55r3 p i o ie oe al lg pt us S sl h1
def gs55 (xs : List AV) (bs : List ABlk) : TL := match xs, bs with
  | [.agg cs, .int .i64 v], [] => asSn cs fun p lg S i o ie oe sl pt us al => .ok ⟨[], .tup [.slice 0 0 1 (snPM v p lg S i o ie oe sl pt us al).length .ow .unk, .bool (snKK v p lg.length i o ie oe pt.length us.length al)], [], [⟨.bytes (snPM v p lg S i o ie oe sl pt us al), true, 1⟩]⟩
  | _, _ => .no
def sps55 : Spec := ⟨[snK, .kp], fun _ _ => [], fun _ _ => [], gs55⟩
theorem cs55 : COK Try.prog gl0 55 (mkF sps55) := by
  refine ctrE (fn := Try.f55) [] 3000 (by kernel_rfl) (by kernel_rfl) okZ12 (by kernel_rfl) (fun args w => by kernel_rfl) fun xs bs r hs ho => ?_
  replace hs : (gs55 xs bs).sel = some r := hs
  unfold gs55 at hs
  split at hs
  · obtain ⟨p, lg, S, i, o, ie, oe, sl, pt, us, al, e, hs⟩ := asSn_sel hs
    simp only [TL.sel, Option.some.injEq] at hs
    subst hs
    rw [e]
    exact ⟨_, bs55 ..⟩
  · simp [TL.sel] at hs
theorem andP_tt {S : G8} {s n : Nat} : andP (fun i => decide (S i = S i)) s n true = true := by
  induction n generalizing s with
  | zero => rfl
  | succ n ih => unfold andP; rw [decide_eq_true rfl, ih]; rfl
theorem bs61 (p i o ie oe al : Int) (lg pt us : By) (S : G8) (sl : Bool) : Must (bodyP Try.prog Z12 gl0 [] [] 3000 Try.f61 0 [snS p (.rb false lg .unk) S i o ie oe sl (.rb false pt .unk) (.rb false us .unk) al, snS p (.rb false lg .unk) S i o ie oe sl (.rb false pt .unk) (.rb false us .unk) al] [] (retQ Try.prog Try.f61 0 ⟨[], .bool true, [], []⟩)) := by
  constructor
  rw [vs61]
  intro x1
  rw [decide_eq_true (rfl : p = p), decide_eq_true (rfl : lg = lg), decide_eq_true (rfl : i = i), decide_eq_true (rfl : o = o), decide_eq_true (rfl : ie = ie), decide_eq_true (rfl : oe = oe), decide_eq_true (rfl : sl = sl), decide_eq_true (rfl : pt = pt), decide_eq_true (rfl : us = us), decide_eq_true (rfl : al = al)]
  have e : ∀ s, andP x1 s 32 true = true := fun s => andP_tt
  rw [e, e, e, e, e, e, e]
  exact ⟨rfl, trivial⟩
theorem snS_cg {p i o ie oe al : Int} {lg pt us : AV} {S T : G8} {sl : Bool} (h : ∀ j, j < 224 → S j = T j) : snS p lg S i o ie oe sl pt us al = snS p lg T i o ie oe sl pt us al := by
  have e : sn8 224 S = sn8 224 T := List.map_congr_left (fun j hj => congrArg AV.u8 (h j (by simpa using hj)))
  unfold snS snC
  rw [e]
def gs61 (xs : List AV) (bs : List ABlk) : TL := match xs, bs with
  | [.agg cs, .agg ds], [] => asSn cs fun p lg S i o ie oe sl pt us al => asSn ds fun p' lg' S' i' o' ie' oe' sl' pt' us' al' => .ok ⟨[(p = p' ∧ lg = lg' ∧ i = i' ∧ o = o' ∧ ie = ie' ∧ oe = oe' ∧ sl = sl' ∧ pt = pt' ∧ us = us' ∧ al = al') ∧ ∀ j, j < 224 → S j = S' j], .bool true, [], []⟩
  | _, _ => .no
def sps61 : Spec := ⟨[snK, snK], fun _ _ => [], fun _ _ => [], gs61⟩
theorem cs61 : COK Try.prog gl0 61 (mkF sps61) := by
  refine ctrE (fn := Try.f61) [] 3000 (by kernel_rfl) (by kernel_rfl) okZ12 (by kernel_rfl) (fun args w => by kernel_rfl) fun xs bs r hs ho => ?_
  replace hs : (gs61 xs bs).sel = some r := hs
  unfold gs61 at hs
  split at hs
  · obtain ⟨p, lg, S, i, o, ie, oe, sl, pt, us, al, e, hs⟩ := asSn_sel hs
    obtain ⟨p', lg', S', i', o', ie', oe', sl', pt', us', al', e2, hs⟩ := asSn_sel hs
    simp only [TL.sel, Option.some.injEq] at hs
    subst hs
    obtain ⟨⟨h1, h2, h3, h4, h5, h6, h7, h8, h9, h10⟩, h11⟩ := obsT_one.1 ho
    subst h1 h2 h3 h4 h5 h6 h7 h8 h9 h10
    rw [e, e2, snS_cg h11]
    exact ⟨_, bs61 ..⟩
  · simp [TL.sel] at hs
noncomputable def Z16 : Ctx := Z12.exe Try.prog gl0 [] 300 Try.f54.params.size 54 Try.f54
noncomputable def Z17 : Ctx := Z16.exe Try.prog gl0 [] 300 Try.f62.params.size 62 Try.f62
theorem okZ17 : COKs Try.prog gl0 Z17 := (okZ12.exe [] 300 _ (by kernel_rfl) (by kernel_rfl) (by kernel_rfl) (fun args w => by kernel_rfl)).exe [] 300 _ (by kernel_rfl) (by kernel_rfl) (by kernel_rfl) (fun args w => by kernel_rfl)
noncomputable def Z18 : Ctx := (((((Z17.add 53 (mkF (reSp 2 gs53r))).add 55 (mkF sps55)).add 56 (mkF (reSp 0 gs56))).add 59 (mkF sps59)).add 60 (mkF sps60)).add 61 (mkF sps61)
theorem okZ18 : COKs Try.prog gl0 Z18 := (((((okZ17.add cs53r).add cs55).add cs56).add cs59).add cs60).add cs61
end Go.Sym
