/- The same: shown; where a reader of cut bytes stands. -/
import Derived.Test.YtgniepaehjdjaaaSnaD
import Derived.Test.YtgniepaehjdjaaaSnaC
set_option linter.unusedSimpArgs false
namespace Go.Spec
open Go.Sym
theorem veX_le {L : By} {x : Nat} {e w : Int} (h : x ≤ L.length) : veX L x e w ≤ L.length := by
  unfold veX; exact rdX_le _ _ _ _ (uiX_le _ _ _ _ h)
abbrev RS := Nat × Int
def sU (L : By) (w : Int) (s : RS) : RS := (uiX L s.1 s.2 w, uiE L s.1 s.2 w)
def sB (L : By) (m : Int) (s : RS) : RS := (rdX L s.1 s.2 m, rdE L s.1 s.2 m)
def sV (L : By) (w a z : Int) (s : RS) : RS := (veX L s.1 s.2 w, veE L s.1 s.2 w a z)
/-- Where a reader stands behind what all versions have. -/
def chA (L : By) (s : RS) : RS := sV L 2 0 4096 (sU L 1 (sU L 2 (sU L 2 (sU L 1 (sU L 1 (sB L 32 (sB L 32 (sB L 32 (sB L 32 (sB L 32 (sB L 32 (sB L 32 (sV L 2 0 20000 (sU L 1 s))))))))))))))
def chF (s : RS) : RS := (s.1, faE s.2)
def chE (v : Nat) (L : By) : RS := match v with
  | 1 => chA L (sU L 1 (0, 0))
  | 2 => sV L 1 0 255 (chA L (sU L 1 (0, 0)))
  | 3 => sU L 2 (sV L 1 0 255 (chA L (sU L 1 (0, 0))))
  | 4 => sU L 2 (sV L 1 0 255 (chA L (chF (sU L 1 (0, 0)))))
  | _ => chA L (chF (sU L 1 (0, 0)))
/-- What reading tells in the end. -/
def gEr (v : Nat) (L : By) : Int := dnV (L.length - (chE v L).1) (chE v L).2
/-- Stands a reader of the first k bytes where one of all of them stands, or has it failed? -/
def At (k : Nat) (s : RS) (X : Nat) : Prop := (s.2 = 0 ∧ s.1 = X ∧ X ≤ k) ∨ (s.2 = 2 ∧ k < X)
variable {L : By} {k : Nat}
theorem cutB_take {x m : Nat} (h : x + m ≤ k) (hk : k ≤ L.length) : cutB (L.take k) x m = cutB L x m := by
  rw [← cutB_eq (by rw [List.length_take]; omega), ← cutB_eq (by omega), List.drop_take, List.take_take, Nat.min_eq_left (by omega)]
theorem at_U {s : RS} {X : Nat} (hk : k ≤ L.length) (W : Nat) (h1 : 1 ≤ W) (h4 : W ≤ 4) (h : At k s X) : At k (sU (L.take k) (W : Int) s) (X + W) := by
  obtain ⟨x, e⟩ := s
  have hl : (L.take k).length = k := by rw [List.length_take]; omega
  cases h with
  | inl h =>
    obtain ⟨h2, h3, h5⟩ := h
    replace h2 : e = 0 := h2
    replace h3 : x = X := h3
    subst h2 h3
    by_cases hw : x + W ≤ k
    · obtain ⟨a, b, _⟩ := ui_ok (L := L.take k) (x := x) (w := (W : Int)) (by omega) (by omega) (by rw [hl]; simpa using hw)
      exact .inl ⟨a, by show uiX (L.take k) x 0 (W : Int) = x + W; rw [b]; simp, hw⟩
    · exact .inr ⟨show uiE (L.take k) x 0 (W : Int) = 2 from (ui_short (by omega) (by omega) (by omega) (by rw [hl]; simp; omega)).1, by omega⟩
  | inr h =>
    obtain ⟨h, hX⟩ := h
    replace h : e = 2 := h
    subst h
    exact .inr ⟨show uiE (L.take k) x 2 (W : Int) = 2 from (ui_err (by omega)).1, by omega⟩
theorem at_B {s : RS} {X : Nat} (hk : k ≤ L.length) (m : Nat) (h : At k s X) : At k (sB (L.take k) (m : Int) s) (X + m) := by
  obtain ⟨x, e⟩ := s
  have hl : (L.take k).length = k := by rw [List.length_take]; omega
  cases h with
  | inl h =>
    obtain ⟨h2, h3, h5⟩ := h
    replace h2 : e = 0 := h2
    replace h3 : x = X := h3
    subst h2 h3
    by_cases hw : x + m ≤ k
    · obtain ⟨a, b, _⟩ := rd_ok (L := L.take k) (x := x) (m := (m : Int)) (by omega) (by rw [hl]; simpa using hw)
      exact .inl ⟨a, by show rdX (L.take k) x 0 (m : Int) = x + m; rw [b]; simp, hw⟩
    · exact .inr ⟨show rdE (L.take k) x 0 (m : Int) = 2 from (rd_short (by omega) (by omega) (by rw [hl]; simp; omega)).1, by omega⟩
  | inr h =>
    obtain ⟨h, hX⟩ := h
    replace h : e = 2 := h
    subst h
    exact .inr ⟨by show rdE (L.take k) x 2 (m : Int) = 2; unfold rdE; rw [if_pos (by omega)], by omega⟩
theorem at_V {s : RS} {X : Nat} (hk : k ≤ L.length) (W n : Nat) (a z : Int) (h1 : 1 ≤ W) (h4 : W ≤ 4) (hn : beN (cutB L X W) = n) (ha : a ≤ (n : Int)) (hz : (n : Int) ≤ z) (h : At k s X) : At k (sV (L.take k) (W : Int) a z s) (X + W + n) := by
  obtain ⟨x, e⟩ := s
  have hl : (L.take k).length = k := by rw [List.length_take]; omega
  cases h with
  | inl h =>
    obtain ⟨h2, h3, h5⟩ := h
    replace h2 : e = 0 := h2
    replace h3 : x = X := h3
    subst h2 h3
    by_cases hw : x + W ≤ k
    · have hn2 : n = beN (cutB (L.take k) x (W : Int).toNat) := by rw [Int.toNat_natCast, cutB_take hw hk, hn]
      by_cases hm : x + W + n ≤ k
      · obtain ⟨c, b, _⟩ := ve_ok (L := L.take k) (x := x) (w := (W : Int)) (a := a) (z := z) (by omega) (by omega) (by rw [hl]; simpa using hw) n hn2 ha hz (by rw [hl]; simpa using hm)
        exact .inl ⟨c, by show veX (L.take k) x 0 (W : Int) = x + W + n; rw [b]; simp, hm⟩
      · refine .inr ⟨?_, by omega⟩
        show veE (L.take k) x 0 (W : Int) a z = 2
        obtain ⟨c1, c2, c3⟩ := ui_ok (L := L.take k) (x := x) (w := (W : Int)) (by omega) (by omega) (by rw [hl]; simpa using hw)
        rw [cutB_eq (by rw [hl]; simpa using hw), ← hn2] at c3
        obtain ⟨j1, _⟩ := rd_short (L := L.take k) (x := x + (W : Int).toNat) (m := (n : Int)) (by omega) (by rw [hl]; simpa using hw) (by rw [hl]; simp; omega)
        unfold veE
        rw [c1, c2, c3, j1, if_pos (by omega)]
    · refine .inr ⟨?_, by omega⟩
      show veE (L.take k) x 0 (W : Int) a z = 2
      obtain ⟨c1, c2, c3⟩ := ui_short (L := L.take k) (x := x) (w := (W : Int)) (by omega) (by omega) (by omega) (by rw [hl]; simp; omega)
      unfold veE
      have j : rdE (L.take k) x 2 ((0 : Nat) : Int) = 2 := by unfold rdE; rw [if_pos (by omega)]
      rw [c1, c2, c3, j, if_pos (by omega)]
  | inr h =>
    obtain ⟨h, hX⟩ := h
    replace h : e = 2 := h
    subst h
    refine .inr ⟨?_, by omega⟩
    show veE (L.take k) x 2 (W : Int) a z = 2
    obtain ⟨c1, c2, c3⟩ := ui_err (L := L.take k) (x := x) (e := 2) (w := (W : Int)) (by omega)
    unfold veE
    have j : rdE (L.take k) x 2 ((0 : Nat) : Int) = 2 := by unfold rdE; rw [if_pos (by omega)]
    rw [c1, c2, c3, j, if_pos (by omega)]
theorem at_chA {s : RS} (hk : k ≤ L.length) (h1 : gN1 L ≤ 20000) (h2 : gN2 L ≤ 4096) (h : At k s 1) : At k (chA (L.take k) s) (gZ L) := by
  have a1 := at_U hk 1 (by omega) (by omega) h
  have a2 := at_V hk 2 (gN1 L) 0 20000 (by omega) (by omega) rfl (by omega) (by omega) a1
  have a3 := at_B hk 32 (at_B hk 32 (at_B hk 32 (at_B hk 32 (at_B hk 32 (at_B hk 32 (at_B hk 32 a2))))))
  have a4 := at_U hk 1 (by omega) (by omega) (at_U hk 2 (by omega) (by omega) (at_U hk 2 (by omega) (by omega) (at_U hk 1 (by omega) (by omega) (at_U hk 1 (by omega) (by omega) a3))))
  exact at_V hk 2 (gN2 L) 0 4096 (by omega) (by omega) rfl (by omega) (by omega) a4
theorem at_0 : At k (0, 0) 0 := .inl ⟨rfl, rfl, Nat.zero_le _⟩
theorem at_E {v : Nat} (hk : k ≤ L.length) (hv : v = 1 ∨ v = 2 ∨ v = 3) (h1 : gN1 L ≤ 20000) (h2 : gN2 L ≤ 4096) (h3 : gN3 v L ≤ 255) : At k (chE v (L.take k)) (gE v L) := by
  have hk2 : k ≤ L.length := by omega
  have a := at_chA hk2 h1 h2 (at_U hk2 1 (by omega) (by omega) at_0)
  rcases hv with e | e | e
  · subst e; exact a
  · subst e; exact at_V hk2 1 (gN3 2 L) 0 255 (by omega) (by omega) rfl (by omega) (by omega) a
  · subst e; exact at_U hk2 2 (by omega) (by omega) (at_V hk2 1 (gN3 3 L) 0 255 (by omega) (by omega) rfl (by omega) (by omega) a)
theorem cut_err {v : Nat} (hk : k < L.length) (hv : v = 1 ∨ v = 2 ∨ v = 3) (h1 : gN1 L ≤ 20000) (h2 : gN2 L ≤ 4096) (h3 : gN3 v L ≤ 255) (hE : gE v L = L.length) : gEr v (L.take k) = 2 := by
  unfold gEr
  have a := at_E (Nat.le_of_lt hk) hv h1 h2 h3
  cases a with
  | inl a => omega
  | inr a => rw [a.1]; rfl
theorem over_err {v : Nat} (hv : v = 1 ∨ v = 2 ∨ v = 3) (h1 : gN1 L ≤ 20000) (h2 : gN2 L ≤ 4096) (h3 : gN3 v L ≤ 255) : gEr v L = if gE v L < L.length then 3 else if gE v L = L.length then 0 else 2 := by
  have a := at_E (k := L.length) (L := L) (Nat.le_refl _) hv h1 h2 h3
  rw [List.take_of_length_le (Nat.le_refl _)] at a
  unfold gEr
  cases a with
  | inl a =>
    obtain ⟨a1, a2, a3⟩ := a
    rw [a1, a2]
    unfold dnV
    rw [if_pos rfl]
    by_cases h : gE v L < L.length
    · rw [if_pos h, if_pos (by omega)]
    · rw [if_neg h, if_neg (by omega), if_pos (by omega)]
  | inr a =>
    rw [a.1, if_neg (by omega), if_neg (by omega)]
    rfl
theorem st_U {w : Int} {s : RS} (h : s.2 = 3) : (sU L w s).2 = 3 := by
  show uiE L s.1 s.2 w = 3
  rw [h]; exact (ui_err (by omega)).1
theorem st_B {m : Int} {s : RS} (h : s.2 = 3) : (sB L m s).2 = 3 := by
  show rdE L s.1 s.2 m = 3
  rw [h]; unfold rdE; rw [if_pos (by omega)]
theorem st_V {w a z : Int} {s : RS} (h : s.2 = 3) : (sV L w a z s).2 = 3 := by
  show veE L s.1 s.2 w a z = 3
  obtain ⟨c1, c2, c3⟩ := ui_err (L := L) (x := s.1) (e := 3) (w := w) (by omega)
  have j : ∀ x (m : Int), rdE L x 3 m = 3 := fun x m => by unfold rdE; rw [if_pos (by omega)]
  unfold veE
  rw [h, c1, c2, c3, j, if_pos (by omega)]
theorem err_four (h : 1 ≤ L.length) : gEr 4 L = 3 := by
  have h1 : (chF (sU L 1 (0, 0))).2 = 3 := by
    show faE (uiE L 0 0 1) = 3
    rw [(ui_ok (L := L) (x := 0) (w := 1) (by omega) (by omega) (by show 0 + 1 ≤ L.length; omega)).1]
    rfl
  have h2 : (chE 4 L).2 = 3 := st_U (st_V (st_V (st_U (st_U (st_U (st_U (st_U (st_B (st_B (st_B (st_B (st_B (st_B (st_B (st_V (st_U h1))))))))))))))))
  unfold gEr
  rw [h2]
  rfl
theorem err_nil : gEr 0 [] = 2 := by decide
end Go.Spec

namespace Go.Sym
open Go.Proofs Go.Spec
def gs59b (xs : List AV) (bs : List ABlk) : TL := match xs, bs with
  | [.rb false L .unk], [] => .ok ⟨[L.length < 1099511627776, L = [] ∨ (1 ≤ (L.getD 0 0).toNat ∧ (L.getD 0 0).toNat ≤ 4), gEr (L.getD 0 0).toNat L ≠ 0], .tup [snZ, .int .i64 0, .int .i64 (gEr (L.getD 0 0).toNat L)], [], []⟩
  | _, _ => .no
def sps59b : Spec := ⟨[.by0], fun _ _ => [], fun _ _ => [], gs59b⟩
noncomputable def H3 : Ctx := H2.add 59 (mkF sps59b)
end Go.Sym

set_option linter.unusedSimpArgs false
namespace Go.Sym
open Go.Proofs Go.Spec
set_option linter.unusedVariables false
attribute [local irreducible] uiX rdX veX uiE rdE veE veB rdB uiV dnV
theorem bs59z' : Must (bodyP Try.prog H2 gl0 [] [] 3000 Try.f59 0 [.rb false [] .unk] [] (retQ Try.prog Try.f59 0 ⟨[], .tup [snZ, .int .i64 0, .int .i64 2], [], []⟩)) := by
  constructor
  rw [vs59z]
  all_goals first | exact 0 | exact [] | skip
  and_intros
  all_goals first | omega | exact Int.natCast_nonneg _ | exact allP_rfl ⟨rfl, rfl, rfl, rfl, rfl, rfl, rfl, rfl, trivial⟩ | trivial
set_option maxHeartbeats 4000000 in
theorem bs59d (b : By) (hl : (1#8 :: b).length < 1099511627776) (h : gEr 1 (1#8 :: b) ≠ 0) : Must (bodyP Try.prog H2 gl0 [] [] 3000 Try.f59 0 [.rb false (1#8 :: b) .unk] [] (retQ Try.prog Try.f59 0 ⟨[], .tup [snZ, .int .i64 0, .int .i64 (gEr 1 (1#8 :: b))], [], []⟩)) := by
  constructor
  rw [vs59d]
  intros
  and_intros
  all_goals try (first | exact hl | (apply Nat.add_sub_cancel'; repeat (first | refine uiX_le _ _ _ _ ?_ | refine rdX_le _ _ _ _ ?_ | refine veX_le ?_ | exact Nat.zero_le _)) | exact Int.natCast_nonneg _ | omega | rfl)
  show @Bool.rec (fun _ => Prop) _ _ (!decide (gEr 1 (1#8 :: b) = 0))
  rw [decide_eq_false h]
  exact ⟨rfl, allP_rfl ⟨rfl, rfl, rfl, rfl, rfl, rfl, rfl, rfl, trivial⟩⟩
set_option maxHeartbeats 4000000 in
theorem bs59e (b : By) (hl : (2#8 :: b).length < 1099511627776) (h : gEr 2 (2#8 :: b) ≠ 0) : Must (bodyP Try.prog H2 gl0 [] [] 3000 Try.f59 0 [.rb false (2#8 :: b) .unk] [] (retQ Try.prog Try.f59 0 ⟨[], .tup [snZ, .int .i64 0, .int .i64 (gEr 2 (2#8 :: b))], [], []⟩)) := by
  constructor
  rw [vs59e]
  intros
  and_intros
  all_goals try (first | exact hl | (apply Nat.add_sub_cancel'; repeat (first | refine uiX_le _ _ _ _ ?_ | refine rdX_le _ _ _ _ ?_ | refine veX_le ?_ | exact Nat.zero_le _)) | exact Int.natCast_nonneg _ | omega | rfl)
  show @Bool.rec (fun _ => Prop) _ _ (!decide (gEr 2 (2#8 :: b) = 0))
  rw [decide_eq_false h]
  exact ⟨rfl, allP_rfl ⟨rfl, rfl, rfl, rfl, rfl, rfl, rfl, rfl, trivial⟩⟩
set_option maxHeartbeats 4000000 in
theorem bs59f (b : By) (hl : (3#8 :: b).length < 1099511627776) (h : gEr 3 (3#8 :: b) ≠ 0) : Must (bodyP Try.prog H2 gl0 [] [] 3000 Try.f59 0 [.rb false (3#8 :: b) .unk] [] (retQ Try.prog Try.f59 0 ⟨[], .tup [snZ, .int .i64 0, .int .i64 (gEr 3 (3#8 :: b))], [], []⟩)) := by
  constructor
  rw [vs59f]
  intros
  and_intros
  all_goals try (first | exact hl | (apply Nat.add_sub_cancel'; repeat (first | refine uiX_le _ _ _ _ ?_ | refine rdX_le _ _ _ _ ?_ | refine veX_le ?_ | exact Nat.zero_le _)) | exact Int.natCast_nonneg _ | omega | rfl)
  show @Bool.rec (fun _ => Prop) _ _ (!decide (gEr 3 (3#8 :: b) = 0))
  rw [decide_eq_false h]
  exact ⟨rfl, allP_rfl ⟨rfl, rfl, rfl, rfl, rfl, rfl, rfl, rfl, trivial⟩⟩
set_option maxHeartbeats 4000000 in
theorem bs59g (b : By) (hl : (4#8 :: b).length < 1099511627776) (h : gEr 4 (4#8 :: b) ≠ 0) : Must (bodyP Try.prog H2 gl0 [] [] 3000 Try.f59 0 [.rb false (4#8 :: b) .unk] [] (retQ Try.prog Try.f59 0 ⟨[], .tup [snZ, .int .i64 0, .int .i64 (gEr 4 (4#8 :: b))], [], []⟩)) := by
  constructor
  rw [vs59g]
  intros
  and_intros
  all_goals first | exact True.intro | exact hl | (apply Nat.add_sub_cancel'; repeat (first | refine uiX_le _ _ _ _ ?_ | refine rdX_le _ _ _ _ ?_ | refine veX_le ?_ | exact Nat.zero_le _)) | exact Int.natCast_nonneg _ | omega | rfl
theorem by1234 {w : BitVec 8} (h : 1 ≤ w.toNat ∧ w.toNat ≤ 4) : w = 1#8 ∨ w = 2#8 ∨ w = 3#8 ∨ w = 4#8 := by
  have h1 : w.toNat = 1 ∨ w.toNat = 2 ∨ w.toNat = 3 ∨ w.toNat = 4 := by omega
  rcases h1 with h | h | h | h
  · left; exact BitVec.eq_of_toNat_eq h
  · right; left; exact BitVec.eq_of_toNat_eq h
  · right; right; left; exact BitVec.eq_of_toNat_eq h
  · right; right; right; exact BitVec.eq_of_toNat_eq h
theorem cs59b : COK Try.prog gl0 59 (mkF sps59b) := by
  refine ctrE (fn := Try.f59) [] 3000 (by kernel_rfl) (by kernel_rfl) okH2 (by kernel_rfl) (fun args w => by kernel_rfl) fun xs bs r hs ho => ?_
  replace hs : (gs59b xs bs).sel = some r := hs
  unfold gs59b at hs
  split at hs
  · rename_i L
    simp only [TL.sel, Option.some.injEq] at hs
    subst hs
    obtain ⟨h1, h2⟩ := obsT_cons.1 ho
    obtain ⟨h2, h3⟩ := obsT_cons.1 h2
    replace h3 := obsT_one.1 h3
    cases L with
    | nil =>
      refine ⟨[], ?_⟩
      have e : gEr (([] : By).getD 0 0).toNat [] = 2 := err_nil
      rw [e]
      exact bs59z'
    | cons w b =>
      replace h2 : 1 ≤ w.toNat ∧ w.toNat ≤ 4 := by
        cases h2 with
        | inl h => cases h
        | inr h => exact h
      rcases by1234 h2 with e | e | e | e
      · subst e; exact ⟨_, bs59d b h1 h3⟩
      · subst e; exact ⟨_, bs59e b h1 h3⟩
      · subst e; exact ⟨_, bs59f b h1 h3⟩
      · subst e; exact ⟨_, bs59g b h1 h3⟩
  · simp [TL.sel] at hs
end Go.Sym

namespace Go.Sym
open Go.Proofs Go.Spec
set_option linter.unusedVariables false
set_option maxRecDepth 100000 in
theorem vs60b (L : By) (e : Int) : bodyP Try.prog H3 gl0 [] [] 3000 Try.f60 0 [.rb false L .unk] [] (retQ Try.prog Try.f60 0 ⟨[], .tup [.nils, .int .i64 e], [], []⟩) = (
List.length L < 1099511627776 ∧ (L = [] ∨ 1 ≤ (List.getD L 0 (0 : BitVec 8)).toNat ∧ (List.getD L 0 (0 : BitVec 8)).toNat ≤ 4) ∧ gEr (List.getD L 0 (0 : BitVec 8)).toNat L ≠ (0 : Int) ∧ @Bool.rec (fun _ => Prop) False (e = gEr (List.getD L 0 (0 : BitVec 8)).toNat L ∧ True) !decide (gEr (List.getD L 0 (0 : BitVec 8)).toNat L = (0 : Int)) : Prop) := by kernel_rfl
end Go.Sym

namespace Go.Sym
open Go.Proofs Go.Spec
set_option linter.unusedVariables false
theorem bs60b (L : By) (h1 : L.length < 1099511627776) (h2 : L = [] ∨ (1 ≤ (L.getD 0 0).toNat ∧ (L.getD 0 0).toNat ≤ 4)) (h3 : gEr (L.getD 0 0).toNat L ≠ 0) : Must (bodyP Try.prog H3 gl0 [] [] 3000 Try.f60 0 [.rb false L .unk] [] (retQ Try.prog Try.f60 0 ⟨[], .tup [.nils, .int .i64 (gEr (L.getD 0 0).toNat L)], [], []⟩)) := by
  constructor
  rw [vs60b]
  refine ⟨h1, h2, h3, ?_⟩
  rw [decide_eq_false h3]
  exact ⟨rfl, trivial⟩
def gs60b (xs : List AV) (bs : List ABlk) : TL := match xs, bs with
  | [.rb false L .unk], [] => .ok ⟨[L.length < 1099511627776, L = [] ∨ (1 ≤ (L.getD 0 0).toNat ∧ (L.getD 0 0).toNat ≤ 4), gEr (L.getD 0 0).toNat L ≠ 0], .tup [.nils, .int .i64 (gEr (L.getD 0 0).toNat L)], [], []⟩
  | _, _ => .no
def sps60b : Spec := ⟨[.by0], fun _ _ => [], fun _ _ => [], gs60b⟩
noncomputable def Z19 : Ctx := ((((((Z17.add 53 (mkF (reSp 2 gs53r))).add 55 (mkF sps55)).add 56 (mkF (reSp 0 gs56))).add 59 (mkF sps59b)).add 60 (mkF sps60b)).add 61 (mkF sps61))
end Go.Sym

namespace Go.Sym
open Go.Proofs Go.Spec
theorem okH3 : COKs Try.prog gl0 H3 := okH2.add cs59b
theorem cs60b : COK Try.prog gl0 60 (mkF sps60b) := by
  refine ctrE (fn := Try.f60) [] 3000 (by kernel_rfl) (by kernel_rfl) okH3 (by kernel_rfl) (fun args w => by kernel_rfl) fun xs bs r hs ho => ?_
  replace hs : (gs60b xs bs).sel = some r := hs
  unfold gs60b at hs
  split at hs
  · simp only [TL.sel, Option.some.injEq] at hs
    subst hs
    obtain ⟨h1, h2⟩ := obsT_cons.1 ho
    obtain ⟨h2, h3⟩ := obsT_cons.1 h2
    exact ⟨_, bs60b _ h1 h2 (obsT_one.1 h3)⟩
  · simp [TL.sel] at hs
theorem okZ19 : COKs Try.prog gl0 Z19 := (((((okZ17.add cs53r).add cs55).add cs56).add cs59b).add cs60b).add cs61
end Go.Sym
