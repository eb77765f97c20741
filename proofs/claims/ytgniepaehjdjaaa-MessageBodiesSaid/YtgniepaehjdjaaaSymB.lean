/- The same machine: operations on memory, and regions in any order. -/
import Derived.Test.YtgniepaehjdjaaaSymA
namespace Go.Sym
set_option linter.unusedVariables false
set_option linter.unusedSimpArgs false
section
variable {P : Program} {κ : Ker} {w : World} {M : Nat → Prop} {h : H}

theorem div_sub_mul {o n sz : Nat} (hpos : 0 < sz) (h : n * sz ≤ o) : (o - n * sz) / sz = o / sz - n ∧ (o - n * sz) % sz = o % sz := by
  obtain ⟨d, rfl⟩ := Nat.exists_eq_add_of_le h
  rw [Nat.add_sub_cancel_left]
  constructor
  · have := Nat.mul_add_div hpos n d
    rw [Nat.mul_comm n sz, this, Nat.add_sub_cancel_left]
  · rw [Nat.mul_comm n sz, Nat.mul_add_mod]

theorem glue_at {sz n m : Nat} {g g2 : Nat → List AV} {o : Nat} (hpos : 0 < sz) : (Con.rows sz (n + m) (glue g n g2)).at o = if o < n * sz then (Con.rows sz n g).at o else (Con.rows sz m g2).at (o - n * sz) := by
  simp only [Con.at, glue]
  by_cases h1 : o < n * sz
  · have hd : o / sz < n := (Nat.div_lt_iff_lt_mul hpos).2 h1
    have h2 : o < (n + m) * sz := by rw [Nat.add_mul]; omega
    rw [if_pos h1, if_pos h1, if_pos h2, if_pos hd]
  · have hge : n * sz ≤ o := by omega
    obtain ⟨hd, hm⟩ := div_sub_mul hpos hge
    have hd2 : ¬ o / sz < n := by
      intro hh
      exact h1 ((Nat.div_lt_iff_lt_mul hpos).1 hh)
    rw [if_neg h1, if_neg hd2, hd, hm]
    by_cases h2 : o < (n + m) * sz
    · have h3 : o - n * sz < m * sz := by rw [Nat.add_mul] at h2; omega
      rw [if_pos h2, if_pos h3]
    · have h3 : ¬ o - n * sz < m * sz := by rw [Nat.add_mul] at h2; omega
      rw [if_neg h2, if_neg h3]

theorem cut_at {sz m : Nat} {q : List AV} {o : Nat} (hpos : 0 < sz) (hl : q.length = m * sz) : (Con.rows sz m (cut sz q)).at o = q[o]? := by
  simp only [Con.at, cut]
  split
  · rename_i h
    rw [List.getElem?_take, if_pos (Nat.mod_lt _ hpos), List.getElem?_drop, Nat.div_add_mod']
  · rw [List.getElem?_eq_none (by omega)]

/-- What is known of a row with something appended. -/
theorem app_at {b c : Con} {sz n : Nat} {s : Src} {vs : List Value} {ob : List Prop} (hpos : 0 < sz) (hs : SrcR κ sz s vs) (hsz : ∀ l, s = .bytes l → sz = 1) (ha : b.app sz n s = some (ob, c)) (ho : obsT ob) :
    c.len = (n + s.cnt) * sz ∧ b.len = n * sz ∧ ∀ o, c.at o = if o < n * sz then b.at o else (s.con sz).at (o - n * sz) := by
  have hlen := hs.clen
  cases b with
  | bytes l =>
    cases s with
    | bytes t =>
      simp only [Con.app, Option.some.injEq, Prod.mk.injEq] at ha
      obtain ⟨rfl, rfl⟩ := ha
      obtain rfl := obsT_one.1 ho
      obtain rfl := hsz t rfl
      refine ⟨by simp [Con.len, Src.cnt], by simp [Con.len], fun o => ?_⟩
      simp only [Con.at, Src.con, Nat.mul_one, List.getElem?_append]
      split <;> rfl
    | rows m g => simp [Con.app] at ha
    | cells m q => simp [Con.app] at ha
    | raw m q => simp [Con.app] at ha
  | cells l =>
    cases s with
    | bytes t => simp [Con.app] at ha
    | rows m g => simp [Con.app] at ha
    | raw m q =>
      cases l with
      | cons a0 l0 => simp [Con.app] at ha
      | nil =>
        simp only [Con.app, Option.some.injEq, Prod.mk.injEq] at ha
        obtain ⟨rfl, rfl⟩ := ha
        obtain rfl := obsT_one.1 ho
        simp only [Src.con, Con.len, Src.cnt] at hlen
        refine ⟨by simp [Con.len, Src.cnt, hlen], by simp [Con.len], fun o => ?_⟩
        simp [Con.at, Src.con]
    | cells m q =>
      simp only [Con.app] at ha
      split at ha
      · rename_i hl
        simp only [Option.some.injEq, Prod.mk.injEq] at ha
        obtain ⟨rfl, rfl⟩ := ha
        simp only [Src.con, Con.len, Src.cnt] at hlen
        refine ⟨by simp [Con.len, Src.cnt, hl, hlen, Nat.add_mul], hl, fun o => ?_⟩
        simp only [Con.at, Src.con, List.getElem?_append, hl]
      · cases ha
  | rows sz' n' g =>
    cases s with
    | bytes t => simp [Con.app] at ha
    | raw m q => simp [Con.app] at ha
    | rows m g2 =>
      simp only [Con.app] at ha
      split at ha
      · rename_i hszz
        subst hszz
        simp only [Option.some.injEq, Prod.mk.injEq] at ha
        obtain ⟨rfl, rfl⟩ := ha
        obtain rfl := obsT_one.1 ho
        exact ⟨by simp [Con.len, Src.cnt], rfl, fun o => glue_at hpos⟩
      · cases ha
    | cells m q =>
      simp only [Con.app] at ha
      split at ha
      · rename_i hszz
        subst hszz
        simp only [Option.some.injEq, Prod.mk.injEq] at ha
        obtain ⟨rfl, rfl⟩ := ha
        obtain rfl := obsT_one.1 ho
        simp only [Src.con, Con.len, Src.cnt] at hlen
        refine ⟨by simp [Con.len, Src.cnt], rfl, fun o => ?_⟩
        rw [glue_at hpos]
        simp only [Src.cnt, Src.con]
        rw [cut_at hpos hlen]
        rfl
      · cases ha

/-- Less is said of a block; it isn't one's own any more. -/
theorem HRel.wk {i : Nat} {b b' : ABlk} (r : HRel M w κ h) (hi : h i = some b) (hc : ∀ o a, b'.con.at o = some a → b.con.at o = some a) (hw : b'.wr = false) (ho : b'.own = 0) : HRel M w κ (upd h i (some b')) := by
  have live : LiveB κ i b' → LiveB κ i b := by
    rintro (⟨o, a, h1⟩ | ⟨h1, _⟩)
    · exact .inl ⟨o, a, hc o a h1⟩
    · omega
  have tr : ∀ k c, upd h i (some b') k = some c → LiveB κ k c → ∃ c0, h k = some c0 ∧ LiveB κ k c0 ∧ (c.wr = true → c0.wr = true) := by
    intro k c hk hl
    unfold upd at hk
    split at hk
    · rename_i he
      subst he
      simp only [Option.some.injEq] at hk
      subst hk
      exact ⟨b, hi, live hl, fun h => by rw [hw] at h; cases h⟩
    · exact ⟨c, hk, hl, fun h => h⟩
  refine ⟨?_, ?_, ?_, r.mem⟩
  · intro k c hk
    unfold upd at hk
    split at hk
    · rename_i he
      subst he
      simp only [Option.some.injEq] at hk
      subst hk
      obtain ⟨B, O, h1, h2, h3⟩ := r.blk k b hi
      exact ⟨B, O, h1, fun h => absurd h (by rw [hw]; decide), fun off a ha => ⟨(h3 off a (hc off a ha)).1, fun h => absurd h (by rw [hw]; decide)⟩⟩
    · exact r.blk k c hk
  · intro j k c c' C D C' D' hj hk hne hcw hcc hcc' e1 e2
    obtain ⟨c0, k1, k2, k3⟩ := tr j c hj hcc
    obtain ⟨c1, k4, k5, _⟩ := tr k c' hk hcc'
    exact r.sep j k c0 c1 C D C' D' k1 k4 hne (k3 hcw) k2 k5 e1 e2
  · intro k c C D hk hown e1
    unfold upd at hk
    split at hk
    · simp only [Option.some.injEq] at hk
      subst hk
      omega
    · exact r.own k c C D hk hown e1

/-- A second name of a block that nobody writes. -/
theorem HRel.alias {i f R : Nat} {b : ABlk} {B O : Nat} {c : Con} (r : HRel M w κ h) (hi : h i = some b) (hw : b.wr = false) (hρ : κ.ρ i = some (B, O)) (hf : κ.ρ f = none) (hc : ∀ o a, c.at o = some a → b.con.at o = some a) :
    HRel M w (κ.put f (B, O) R) (upd h f (some ⟨c, false, 0⟩)) := by
  have hle : κ.le (κ.put f (B, O) R) := Ker.le_put hf
  have r1 : HRel M w (κ.put f (B, O) R) h := r.ker hle r.mem (fun i b B O hi hw hl h1 a x hx => by
    obtain ⟨B1, O1, e1, e2, _⟩ := r.blk i b hi
    rw [h1] at e1
    simp only [Option.some.injEq, Prod.mk.injEq] at e1
    obtain ⟨rfl, rfl⟩ := e1
    exact (e2 hw hl).2.2.2 a x hx)
  have hfi : ∀ {k c0}, h k = some c0 → k ≠ f := by
    intro k c0 hk he
    subst he
    obtain ⟨p, hp⟩ := r.named hk
    rw [hf] at hp; cases hp
  have hif := hfi hi
  refine ⟨?_, ?_, ?_, r1.mem⟩
  · intro k c0 hk
    unfold upd at hk
    split at hk
    · rename_i he
      subst he
      simp only [Option.some.injEq] at hk
      subst hk
      refine ⟨B, O, Ker.put_self _ _ _ _, nofun, fun off a ha => ?_⟩
      obtain ⟨⟨x, hx, hv⟩, _⟩ := r.cells hi hρ (hc off a ha)
      exact ⟨⟨x, hx, hv.mono hle⟩, nofun⟩
    · exact r1.blk k c0 hk
  · intro j k c0 c1 C D C' D' hj hk hne hcw hcc hcc' e1 e2
    unfold upd at hj hk
    split at hj
    · simp only [Option.some.injEq] at hj
      subst hj
      cases hcw
    · split at hk
      · rename_i hjf he
        subst he
        simp only [Option.some.injEq] at hk
        subst hk
        rw [Ker.put_self] at e2
        simp only [Option.some.injEq, Prod.mk.injEq] at e2
        obtain ⟨rfl, rfl⟩ := e2
        have hji : j ≠ i := by
          intro he
          subst he
          rw [hi] at hj
          simp only [Option.some.injEq] at hj
          subst hj
          rw [hw] at hcw; cases hcw
        rcases hcc' with ⟨o, a, ha⟩ | ⟨h0, _⟩
        · rw [Ker.put_other κ _ _ hjf] at e1
          exact r.sep j i c0 b C D B O hj hi hji hcw (r.live_back hle hj hcc) (.inl ⟨o, a, hc o a ha⟩) e1 hρ
        · simp at h0
      · exact r1.sep j k c0 c1 C D C' D' hj hk hne hcw hcc hcc' e1 e2
  · intro k c0 C D hk hown e1
    unfold upd at hk
    split at hk
    · simp only [Option.some.injEq] at hk
      subst hk
      simp at hown
    · exact r1.own k c0 C D hk hown e1

/-- An own row under a new name. -/
theorem HRel.rename {i f : Nat} {b : ABlk} {B O : Nat} (r : HRel M w κ h) (hi : h i = some b) (hρ : κ.ρ i = some (B, O)) (hf : κ.ρ f = none) :
    HRel M w (κ.put f (B, O) (κ.cap i)) (upd (upd h i none) f (some b)) := by
  have hle : κ.le (κ.put f (B, O) (κ.cap i)) := Ker.le_put hf
  have r1 : HRel M w (κ.put f (B, O) (κ.cap i)) h := r.ker hle r.mem (fun i b B O hi hw hl h1 a x hx => by
    obtain ⟨B1, O1, e1, e2, _⟩ := r.blk i b hi
    rw [h1] at e1
    simp only [Option.some.injEq, Prod.mk.injEq] at e1
    obtain ⟨rfl, rfl⟩ := e1
    exact (e2 hw hl).2.2.2 a x hx)
  have hfi : ∀ {k c0}, h k = some c0 → k ≠ f := by
    intro k c0 hk he
    subst he
    obtain ⟨p, hp⟩ := r.named hk
    rw [hf] at hp; cases hp
  have hif := hfi hi
  have hlv : LiveB (κ.put f (B, O) (κ.cap i)) f b → LiveB κ i b := by
    rintro (h1 | ⟨h1, h2⟩)
    · exact .inl h1
    · rw [Ker.put_cap] at h2; exact .inr ⟨h1, h2⟩
  have look : ∀ {k c0}, upd (upd h i none) f (some b) k = some c0 → (k = f ∧ c0 = b) ∨ (k ≠ f ∧ k ≠ i ∧ h k = some c0) := by
    intro k c0 hk
    unfold upd at hk
    split at hk
    · simp only [Option.some.injEq] at hk
      exact .inl ⟨by assumption, hk.symm⟩
    · split at hk
      · cases hk
      · exact .inr ⟨by assumption, by assumption, hk⟩
  refine ⟨?_, ?_, ?_, r1.mem⟩
  · intro k c0 hk
    rcases look hk with ⟨rfl, rfl⟩ | ⟨_, _, hk⟩
    · obtain ⟨B1, O1, e1, e2, e3⟩ := r.blk i c0 hi
      rw [hρ] at e1
      simp only [Option.some.injEq, Prod.mk.injEq] at e1
      obtain ⟨rfl, rfl⟩ := e1
      refine ⟨B, O, Ker.put_self _ _ _ _, fun hw hl => e2 hw (hlv hl), fun off a ha => ?_⟩
      obtain ⟨⟨x, hx, hv⟩, hfz⟩ := e3 off a ha
      exact ⟨⟨x, hx, hv.mono hle⟩, hfz⟩
    · exact r1.blk k c0 hk
  · intro j k c0 c1 C D C' D' hj hk hne hcw hcc hcc' e1 e2
    rcases look hj with ⟨rfl, rfl⟩ | ⟨hjf, hji, hj⟩
    · rcases look hk with ⟨rfl, rfl⟩ | ⟨hkf, hki, hk⟩
      · exact absurd rfl hne
      · rw [Ker.put_self] at e1
        simp only [Option.some.injEq, Prod.mk.injEq] at e1
        obtain ⟨rfl, rfl⟩ := e1
        rw [Ker.put_other κ _ _ hkf] at e2
        exact r.sep i k c0 c1 B O C' D' hi hk (Ne.symm hki) hcw (hlv hcc) (r.live_back hle hk hcc') hρ e2
    · have hj2 := hj
      rcases look hk with ⟨rfl, rfl⟩ | ⟨hkf, hki, hk⟩
      · rw [Ker.put_self] at e2
        simp only [Option.some.injEq, Prod.mk.injEq] at e2
        obtain ⟨rfl, rfl⟩ := e2
        rw [Ker.put_other κ _ _ hjf] at e1
        exact r.sep j i c0 c1 C D B O hj2 hi hji hcw (r.live_back hle hj2 hcc) (hlv hcc') e1 hρ
      · exact r1.sep j k c0 c1 C D C' D' hj hk hne hcw hcc hcc' e1 e2
  · intro k c0 C D hk hown e1
    rcases look hk with ⟨rfl, rfl⟩ | ⟨_, _, hk⟩
    · rw [Ker.put_self] at e1
      simp only [Option.some.injEq, Prod.mk.injEq] at e1
      obtain ⟨rfl, rfl⟩ := e1
      rw [Ker.put_cap]
      exact r.own i c0 B O hi hown hρ
    · exact r1.own k c0 C D hk hown e1

/-- A part of an own row, from a place on, by another name. -/
theorem HRel.shift {i f : Nat} {b : ABlk} {B O x : Nat} {c : Con} (r : HRel M w κ h) (hi : h i = some b) (hρ : κ.ρ i = some (B, O)) (hf : κ.ρ f = none) (hown : 0 < b.own)
    (hc : ∀ o a, c.at o = some a → b.con.at (x * b.own + o) = some a) (hcl : c.len ≤ b.con.len - x * b.own) :
    HRel M w (κ.put f (B, O + x * b.own) (κ.cap i - x)) (upd (upd h i none) f (some ⟨c, b.wr, b.own⟩)) := by
  have hle : κ.le (κ.put f (B, O + x * b.own) (κ.cap i - x)) := Ker.le_put hf
  have r1 : HRel M w (κ.put f (B, O + x * b.own) (κ.cap i - x)) h := r.ker hle r.mem (fun i b B O hi hw hl h1 a x hx => by
    obtain ⟨B1, O1, e1, e2, _⟩ := r.blk i b hi
    rw [h1] at e1
    simp only [Option.some.injEq, Prod.mk.injEq] at e1
    obtain ⟨rfl, rfl⟩ := e1
    exact (e2 hw hl).2.2.2 a x hx)
  have hfi : ∀ {k c0}, h k = some c0 → k ≠ f := by
    intro k c0 hk he
    subst he
    obtain ⟨p, hp⟩ := r.named hk
    rw [hf] at hp; cases hp
  have hif := hfi hi
  have hlv : LiveB (κ.put f (B, O + x * b.own) (κ.cap i - x)) f ⟨c, b.wr, b.own⟩ → LiveB κ i b := by
    rintro (⟨o, a, h1⟩ | ⟨h1, h2⟩)
    · exact .inl ⟨_, _, hc o a h1⟩
    · rw [Ker.put_cap] at h2; exact .inr ⟨h1, by omega⟩
  have look : ∀ {k c0}, upd (upd h i none) f (some ⟨c, b.wr, b.own⟩) k = some c0 → (k = f ∧ c0 = ⟨c, b.wr, b.own⟩) ∨ (k ≠ f ∧ k ≠ i ∧ h k = some c0) := by
    intro k c0 hk
    unfold upd at hk
    split at hk
    · simp only [Option.some.injEq] at hk
      exact .inl ⟨by assumption, hk.symm⟩
    · split at hk
      · cases hk
      · exact .inr ⟨by assumption, by assumption, hk⟩
  refine ⟨?_, ?_, ?_, r1.mem⟩
  · intro k c0 hk
    rcases look hk with ⟨rfl, rfl⟩ | ⟨_, _, hk⟩
    · obtain ⟨B1, O1, e1, e2, e3⟩ := r.blk i b hi
      rw [hρ] at e1
      simp only [Option.some.injEq, Prod.mk.injEq] at e1
      obtain ⟨rfl, rfl⟩ := e1
      refine ⟨B, _, Ker.put_self _ _ _ _, fun hw hl => e2 hw (hlv hl), fun off a ha => ?_⟩
      obtain ⟨⟨y, hy, hv⟩, hfz⟩ := e3 _ a (hc off a ha)
      rw [← Nat.add_assoc] at hy hfz
      exact ⟨⟨y, hy, hv.mono hle⟩, hfz⟩
    · exact r1.blk k c0 hk
  · intro j k c0 c1 C D C' D' hj hk hne hcw hcc hcc' e1 e2
    rcases look hj with ⟨rfl, rfl⟩ | ⟨hjf, hji, hj⟩
    · rcases look hk with ⟨rfl, rfl⟩ | ⟨hkf, hki, hk⟩
      · exact absurd rfl hne
      · rw [Ker.put_self] at e1
        simp only [Option.some.injEq, Prod.mk.injEq] at e1
        obtain ⟨rfl, rfl⟩ := e1
        rw [Ker.put_other κ _ _ hkf] at e2
        exact r.sep i k b c1 B O C' D' hi hk (Ne.symm hki) hcw (hlv hcc) (r.live_back hle hk hcc') hρ e2
    · have hj2 := hj
      rcases look hk with ⟨rfl, rfl⟩ | ⟨hkf, hki, hk⟩
      · rw [Ker.put_self] at e2
        simp only [Option.some.injEq, Prod.mk.injEq] at e2
        obtain ⟨rfl, rfl⟩ := e2
        rw [Ker.put_other κ _ _ hjf] at e1
        exact r.sep j i c0 b C D B O hj2 hi hji hcw (r.live_back hle hj2 hcc) (hlv hcc') e1 hρ
      · exact r1.sep j k c0 c1 C D C' D' hj hk hne hcw hcc hcc' e1 e2
  · intro k c0 C D hk hown2 e1
    rcases look hk with ⟨rfl, rfl⟩ | ⟨_, _, hk⟩
    · rw [Ker.put_self] at e1
      simp only [Option.some.injEq, Prod.mk.injEq] at e1
      obtain ⟨rfl, rfl⟩ := e1
      rw [Ker.put_cap]
      obtain ⟨k1, k2, k3⟩ := r.own i b B O hi hown hρ
      have hm : (κ.cap i - x) * b.own = κ.cap i * b.own - x * b.own := Nat.sub_mul _ _ _
      refine ⟨k1, by rw [hm]; simp only; omega, fun off ho => ?_⟩
      simp only at ho
      rw [hm] at ho
      have := k3 (x * b.own + off) (by omega)
      rwa [← Nat.add_assoc] at this
    · exact r1.own k c0 C D hk hown2 e1

theorem upd_upd (h : H) (i : Nat) (a b : Option ABlk) : upd (upd h i a) i b = upd h i b := by
  funext j
  unfold upd
  split <;> rfl
theorem upd_comm (h : H) {i j : Nat} (a b : Option ABlk) (hne : i ≠ j) : upd (upd h i a) j b = upd (upd h j b) i a := by
  funext k
  unfold upd
  split <;> split <;> first | rfl | (subst_vars; exact absurd rfl hne)
end
end Go.Sym

namespace Go.Sym
set_option linter.unusedVariables false
set_option linter.unusedSimpArgs false
section
variable {P : Program} {κ : Ker} {w : World} {M : Nat → Prop} {h : H}

/-- Less is said of a block. -/
theorem HRel.less {i : Nat} {b : ABlk} {c : Con} (r : HRel M w κ h) (hi : h i = some b) (hc : ∀ o a, c.at o = some a → b.con.at o = some a) (hl : 0 < b.own → c.len ≤ κ.cap i * b.own) : HRel M w κ (upd h i (some ⟨c, b.wr, b.own⟩)) := by
  have live : LiveB κ i ⟨c, b.wr, b.own⟩ → LiveB κ i b := by
    rintro (⟨o, a, h1⟩ | h1)
    · exact .inl ⟨o, a, hc o a h1⟩
    · exact .inr h1
  have tr : ∀ k c1, upd h i (some ⟨c, b.wr, b.own⟩) k = some c1 → LiveB κ k c1 → ∃ c0, h k = some c0 ∧ LiveB κ k c0 ∧ (c1.wr = true → c0.wr = true) := by
    intro k c1 hk hl
    unfold upd at hk
    split at hk
    · rename_i he
      subst he
      simp only [Option.some.injEq] at hk
      subst hk
      exact ⟨b, hi, live hl, fun h => h⟩
    · exact ⟨c1, hk, hl, fun h => h⟩
  refine ⟨?_, ?_, ?_, r.mem⟩
  · intro k c1 hk
    unfold upd at hk
    split at hk
    · rename_i he
      subst he
      simp only [Option.some.injEq] at hk
      subst hk
      obtain ⟨B, O, h1, h2, h3⟩ := r.blk k b hi
      exact ⟨B, O, h1, fun hw hl => h2 hw (live hl), fun off a ha => h3 off a (hc off a ha)⟩
    · exact r.blk k c1 hk
  · intro j k c1 c' C D C' D' hj hk hne hcw hcc hcc' e1 e2
    obtain ⟨c0, k1, k2, k3⟩ := tr j c1 hj hcc
    obtain ⟨c2, k4, k5, _⟩ := tr k c' hk hcc'
    exact r.sep j k c0 c2 C D C' D' k1 k4 hne (k3 hcw) k2 k5 e1 e2
  · intro k c1 C D hk hown e1
    unfold upd at hk
    split at hk
    · rename_i he
      subst he
      simp only [Option.some.injEq] at hk
      subst hk
      obtain ⟨h1, _, h3⟩ := r.own k b C D hi hown e1
      exact ⟨h1, hl hown, h3⟩
    · exact r.own k c1 C D hk hown e1

/-- A block of no cell. -/
theorem HRel.empty {f ow : Nat} {c : Con} (r : HRel M w κ h) (hf : κ.ρ f = none) (hc : ∀ o, c.at o = none) (hl : c.len = 0) : HRel M w (κ.put f (0, 0) 0) (upd h f (some ⟨c, true, ow⟩)) := by
  have hle : κ.le (κ.put f (0, 0) 0) := Ker.le_put hf
  have r1 : HRel M w (κ.put f (0, 0) 0) h := r.ker hle r.mem (fun i b B O hi hw hl h1 a x hx => by
    obtain ⟨B1, O1, e1, e2, _⟩ := r.blk i b hi
    rw [h1] at e1
    simp only [Option.some.injEq, Prod.mk.injEq] at e1
    obtain ⟨rfl, rfl⟩ := e1
    exact (e2 hw hl).2.2.2 a x hx)
  have dead : ¬ LiveB (κ.put f (0, 0) 0) f ⟨c, true, ow⟩ := by
    rintro (⟨o, a, h1⟩ | ⟨_, h2⟩)
    · simp only at h1; rw [hc] at h1; cases h1
    · rw [Ker.put_cap] at h2; omega
  refine ⟨?_, ?_, ?_, r1.mem⟩
  · intro k c0 hk
    unfold upd at hk
    split at hk
    · rename_i he
      subst he
      simp only [Option.some.injEq] at hk
      subst hk
      exact ⟨0, 0, Ker.put_self _ _ _ _, fun _ hl => absurd hl dead, fun off a ha => by simp only at ha; rw [hc] at ha; cases ha⟩
    · exact r1.blk k c0 hk
  · intro j k c0 c1 C D C' D' hj hk hne hcw hcc hcc' e1 e2
    unfold upd at hj hk
    split at hj
    · rename_i he
      subst he
      simp only [Option.some.injEq] at hj
      subst hj
      exact absurd hcc dead
    · split at hk
      · rename_i he
        subst he
        simp only [Option.some.injEq] at hk
        subst hk
        exact absurd hcc' dead
      · exact r1.sep j k c0 c1 C D C' D' hj hk hne hcw hcc hcc' e1 e2
  · intro k c0 C D hk hown e1
    unfold upd at hk
    split at hk
    · rename_i he
      subst he
      simp only [Option.some.injEq] at hk
      subst hk
      rw [Ker.put_cap]
      exact ⟨rfl, by simp only [hl]; omega, fun off hoff => by simp at hoff⟩
    · exact r1.own k c0 C D hk hown e1

theorem run_newRow (e : TypeId) (cs : Array Value) : (newRow e cs).run P w = .ok ⟨w.heap.size, 0, none⟩ (w.alloc (.cells cs e)) := rfl
theorem size_of_appCap (need old : Nat) (e : TypeId) : (Question.appendCap need old e).forced = false := rfl

theorem run_inplace {tys : Array TypeId} {t t2 el ty : TypeId} {ie : TypeInfo} {zv : Value} {ad : Option Addr} {n k m : Nat} {y : Value} {vs : List Value} {w' : World} (ht1 : tys[0]? = some t) (ht : P.underlying t = some (.slice el)) (hi : P.info? el = some ie) (hzv : ie.zero = some zv) (ht2 : tys[1]? = some t2)
    (ha : AppArg P w ie zv t2 y m vs) (hb : m * ie.bytes ≤ 281474976710656) (hroom : n + m ≤ k) (hst : (match ad with | some a => (storeCells (a.add (n * ie.size)) vs).run P w | none => .ok () w) = .ok () w') :
    (Builtin.append_ tys ty #[.slice ad n k, y]).run P w = .ok (.slice ad (n + m) k) w' := by
  rcases ha with ⟨d, hd, hdd, hlen, hfirst, _⟩ | ⟨k0, hd, rfl, hlt, rfl, h0⟩
  · cases ad with
    | none =>
      simp only [Result.ok.injEq, true_and] at hst
      subst hst
      rcases hdd with ⟨e2, rfl⟩ | rfl <;>
        simp [Builtin.append_, ht1, ht2, run_underlying ht, run_underlying hd, run_sizeOf hi, hlen, hroom, hfirst]
    | some a =>
      simp only at hst
      rcases hdd with ⟨e2, rfl⟩ | rfl <;>
        simp [Builtin.append_, ht1, ht2, run_underlying ht, run_underlying hd, run_sizeOf hi, hlen, hroom, hfirst, hst]
  · have hwr : IntKind.i64.wrap (m : Int) = m := by
      simp only [IntKind.wrap, IntKind.bits, IntKind.signed]
      have : (m : Int) % 2 ^ 64 = m := Int.emod_eq_of_lt (by omega) (by omega)
      simp only [this]
      split
      · simp_all; omega
      · rfl
    have hneg : ¬ ((m : Int) < 0) := by omega
    have hbig : ¬ ((m : Int) * (ie.bytes : Int) > 2 ^ 48) := by
      have : ((m * ie.bytes : Nat) : Int) ≤ 281474976710656 := by omega
      rw [Int.natCast_mul] at this
      omega
    have happ : (if m * ie.size = 0 then pure #[] else do pure (Builtin.zeroCells (← zeroValue el).cells m) : Sem (Array Value)).run P w = .ok (Builtin.zeroCells zv.cells m) w := by
      split
      · rename_i hz
        have : Builtin.zeroCells zv.cells m = #[] := by apply Array.toList_inj.1; simpa using h0 hz
        rw [this]; rfl
      · simp [zeroValue, typeInfo, hi, hzv]
    have hasInt : (asInt (.int .i64 (m : Int))).run P w = .ok (m : Int) w := rfl
    have hinfo : (typeInfo el).run P w = .ok ie w := by simp [typeInfo, hi]
    cases ad with
    | none =>
      simp only [Result.ok.injEq, true_and] at hst
      subst hst
      simp only [Builtin.append_, ht1, ht2, List.getElem?_toArray, List.getElem?_cons_zero, List.getElem?_cons_succ, Sem.run_bind, run_underlying ht, run_underlying hd, Result.andThen_ok, run_sizeOf hi, Sem.run_pure, if_true, hasInt, hwr, hneg, if_false, hinfo, hbig, Int.toNat_natCast, hroom, Bool.not_true, Bool.false_eq_true, happ]
    | some a =>
      simp only at hst
      simp only [Builtin.append_, ht1, ht2, List.getElem?_toArray, List.getElem?_cons_zero, List.getElem?_cons_succ, Sem.run_bind, run_underlying ht, run_underlying hd, Result.andThen_ok, run_sizeOf hi, Sem.run_pure, if_true, hasInt, hwr, hneg, if_false, hinfo, hbig, Int.toNat_natCast, hroom, Bool.not_true, Bool.false_eq_true, happ, hst]

theorem run_grow {tys : Array TypeId} {t t2 el ty : TypeId} {ie : TypeInfo} {zv : Value} {ad : Option Addr} {n k m : Nat} {y : Value} {vs old : List Value} (ht1 : tys[0]? = some t) (ht : P.underlying t = some (.slice el)) (hi : P.info? el = some ie) (hzv : ie.zero = some zv) (ht2 : tys[1]? = some t2)
    (ha : AppArg P w ie zv t2 y m vs) (hb : (n + m) * (2 * ie.bytes) ≤ 281474976710656) (hb0 : 0 < ie.bytes) (hroom : ¬ n + m ≤ k) (hold : (Builtin.firstCells ie.size n (.slice ad n k)).run P w.drew = .ok old.toArray w.drew) :
    ∃ c0, (Builtin.append_ tys ty #[.slice ad n k, y]).run P w = .ok (.slice (some ⟨w.heap.size, 0, none⟩) (n + m) (n + m + c0)) (w.drew.alloc (.cells (old.toArray ++ vs.toArray ++ Builtin.zeroCells zv.cells c0) el)) := by
  refine ⟨(w.tape w.drawn (.appendCap (n + m) k el)) % (2 ^ 63 - (n + m)), ?_⟩
  generalize hc0 : (w.tape w.drawn (.appendCap (n + m) k el)) % (2 ^ 63 - (n + m)) = c0
  have hbnd : n + m ≤ 140737488355328 := by
    have : (n + m) * 2 ≤ (n + m) * (2 * ie.bytes) := Nat.mul_le_mul_left _ (by omega)
    omega
  have hnext : ¬ (Builtin.nextslicecap (n + m) k * ie.bytes > 2 ^ 48) := by
    have h1 := nextslicecap_le (need := n + m) (old := k) (by omega)
    have h2 : Builtin.nextslicecap (n + m) k * ie.bytes ≤ 2 * (n + m) * ie.bytes := Nat.mul_le_mul_right _ h1
    have h3 : 2 * (n + m) * ie.bytes = (n + m) * (2 * ie.bytes) := by rw [Nat.mul_comm 2 (n + m), Nat.mul_assoc]
    have : (2 : Nat) ^ 48 = 281474976710656 := by decide
    omega
  have hforced : (Question.appendCap (n + m) k el).forced = false := rfl
  have hcutv : (Question.appendCap (n + m) k el).cut (w.tape w.drawn (.appendCap (n + m) k el)) = n + m + c0 := by rw [← hc0]; rfl
  rcases ha with ⟨d, hd, hdd, hlen, _, hfirst⟩ | ⟨k0, hd, rfl, hlt, rfl, h0⟩
  · have hmax : ¬ (9223372036854775807 < (n : Int) + (m : Int) ∧ ie.bytes = 0) := by intro hc; omega
    rcases hdd with ⟨e2, rfl⟩ | rfl <;>
      simp [Builtin.append_, ht1, ht2, run_underlying ht, run_underlying hd, run_sizeOf hi, hlen, hroom, typeInfo, hi, zeroValue, hzv, hmax, hnext, hforced, hcutv, hold, hfirst, run_newRow, Nat.add_sub_cancel_left] <;>
      (congr 2; apply Array.ext'; simp)
  · have hwr : IntKind.i64.wrap (m : Int) = m := by
      simp only [IntKind.wrap, IntKind.bits, IntKind.signed]
      have : (m : Int) % 2 ^ 64 = m := Int.emod_eq_of_lt (by omega) (by omega)
      simp only [this]
      split
      · simp_all; omega
      · rfl
    have hneg : ¬ ((m : Int) < 0) := by omega
    have hbig : ¬ ((m : Int) * (ie.bytes : Int) > 2 ^ 48) := by
      have h1 : m * ie.bytes ≤ (n + m) * (2 * ie.bytes) := Nat.mul_le_mul (by omega) (by omega)
      have : ((m * ie.bytes : Nat) : Int) ≤ 281474976710656 := by omega
      rw [Int.natCast_mul] at this
      omega
    have happ : (if m * ie.size = 0 then pure #[] else do pure (Builtin.zeroCells (← zeroValue el).cells m) : Sem (Array Value)).run P w.drew = .ok (Builtin.zeroCells zv.cells m) w.drew := by
      split
      · rename_i hz
        have : Builtin.zeroCells zv.cells m = #[] := by apply Array.toList_inj.1; simpa using h0 hz
        rw [this]; rfl
      · simp [zeroValue, typeInfo, hi, hzv]
    have hmax : ¬ (((n + m : Nat) : Int) > IntKind.i64.max ∧ (True ∨ ie.bytes = 0)) := by
      intro hc
      have := hc.1
      simp only [IntKind.max_i64] at this
      omega
    have hasInt : (asInt (.int .i64 (m : Int))).run P w = .ok (m : Int) w := rfl
    have hinfo : ∀ w : World, (typeInfo el).run P w = .ok ie w := fun w => by simp [typeInfo, hi]
    have hzero : ∀ w : World, (zeroValue el).run P w = .ok zv w := fun w => by simp [zeroValue, typeInfo, hi, hzv]
    have hch : (choose (.appendCap (n + m) k el)).run P w = .ok (n + m + c0) w.drew := by rw [← hcutv]; rfl
    have hask : ∀ (q : Nat) (w : World), (askRoom q).run P w = .ok () w := fun q w => by simp [askRoom]
    simp only [Builtin.append_, ht1, ht2, List.getElem?_toArray, List.getElem?_cons_zero, List.getElem?_cons_succ, Sem.run_bind, run_underlying ht, run_underlying hd, Result.andThen_ok, run_sizeOf hi, Sem.run_pure, if_true, hasInt, hwr, hneg, if_false, hinfo, hbig, Int.toNat_natCast, hroom, Bool.not_true, Bool.false_eq_true, hnext, hch, hask, hold, happ, hzero, run_newRow, Nat.add_sub_cancel_left]
    have hnext' : ¬ (281474976710656 < Builtin.nextslicecap (n + m) k * ie.bytes) := hnext
    have hnm : ¬ ((9223372036854775807 : Int) < (n : Int) + (m : Int)) := by omega
    by_cases hz : m * ie.size = 0
    · have e : Builtin.zeroCells zv.cells m = #[] := by apply Array.toList_inj.1; simpa using h0 hz
      simp [hnm, hz, e, hforced, hcutv, hold, hinfo, hzero, hnext', run_newRow]
    · simp [hnm, hz, hforced, hcutv, hold, hinfo, hzero, hnext', run_newRow]
end
end Go.Sym

namespace Go.Sym
set_option linter.unusedVariables false
set_option linter.unusedSimpArgs false
section
variable {P : Program} {κ : Ker} {w : World} {M : Nat → Prop} {h : H}

theorem H.le_drop {hs h : H} (hle : hs.le h) {i : Nat} {b : ABlk} (hi : hs i = some b) : h i = some b := hle i b hi

theorem good_alloc0 {fr : Nat} {c : Con} {e : TypeId} {cs : Array Value} {R ow : Nat} {v : AV} {x : Value} {fz : Nat × Nat} (r : HRel M w κ h) (hfr : κ.ρ fr = none) (hM : ∀ B, w.heap.size ≤ B → M B)
    (hlen : 0 < ow → c.len ≤ R * ow ∧ R * ow ≤ cs.size) (hv : ∀ (off : Nat) a, c.at off = some a → ∃ x, cs[off]? = some x ∧ VRel κ a x) (hz : fz.1 = fz.2 ∨ cs.size ≤ fz.1)
    (hx : VRel (κ.put fr (w.heap.size, 0) R) v x) : Good M w κ fr v (upd h fr (some ⟨c, true, ow⟩)) x (w.alloc (.cells cs e fz)) := by
  exact ⟨_, Ker.le_put hfr, fun i hi => Ker.put_other κ _ _ (by unfold STR at hi; omega), hx, r.alloc hfr (hM _ (Nat.le_refl _)) e cs c R ow hlen hv fz hz, Only.alloc M w _, fun _ _ h => .inl h⟩

theorem good_alloc {fr : Nat} {c : Con} {e : TypeId} {cs : Array Value} {R ow : Nat} {v : AV} {x : Value} {fz : Nat × Nat} (r : HRel M w κ h) (hf : ∀ i, fr ≤ i → i < fr + STR → κ.ρ i = none) (hM : ∀ B, w.heap.size ≤ B → M B)
    (hlen : 0 < ow → c.len ≤ R * ow ∧ R * ow ≤ cs.size) (hv : ∀ (off : Nat) a, c.at off = some a → ∃ x, cs[off]? = some x ∧ VRel κ a x) (hz : fz.1 = fz.2 ∨ cs.size ≤ fz.1)
    (hx : VRel (κ.put fr (w.heap.size, 0) R) v x) : Good M w κ fr v (upd h fr (some ⟨c, true, ow⟩)) x (w.alloc (.cells cs e fz)) :=
  good_alloc0 r (hf fr (Nat.le_refl _) (by unfold STR; omega)) hM hlen hv hz hx

theorem HRel.drawn (r : HRel M w κ h) : HRel M w.drew κ h := r.keep (Nat.le_refl _) (fun _ _ => rfl)

theorem nlApp_some {nl : NL} {m : Nat} {ad : Option Addr} {a : Addr} (h : NLR nl ad) (hm : m ≠ 0) : NLR (nlApp nl m) (some a) := by
  cases nl with
  | unk => trivial
  | is b => simp [nlApp, NLR, hm]
theorem nlApp_zero {nl : NL} {ad : Option Addr} (h : NLR nl ad) : NLR (nlApp nl 0) ad := by
  cases nl with
  | unk => trivial
  | is b => simpa [nlApp, NLR] using h
theorem nlApp_same {nl : NL} {m : Nat} {a : Addr} (h : NLR nl (some a)) : NLR (nlApp nl m) (some a) := by
  cases nl with
  | unk => trivial
  | is b => simp only [NLR] at h; subst h; simp [nlApp, NLR]

/-- Appending. -/
theorem append_sound {o : Oper} {ev : Operand → Value} {as0 : Array Operand} {tys : Array TypeId} {d x : AV} {fr t t2 el : Nat} {dd : TypeDesc} {keep isInt : Bool} {hs : H} {r : R}
    (hop : o.op = .call { callee := .builtin .append, args := as0, argTypes := tys }) (ha : VRels κ [d, x] (as0.toList.map ev))
    (ht1 : tys[0]? = some t) (ht : P.underlying t = some (.slice el)) (ht2 : tys[1]? = some t2) (hd : P.underlying t2 = some dd)
    (hdd : (isInt = false ∧ ((∃ e2, dd = .slice e2) ∨ dd = .string)) ∨ (isInt = true ∧ ∃ k0, dd = .int k0))
    (hr : HRel M w κ h) (hle : hs.le h) (hM : ∀ B, w.heap.size ≤ B → M B) (hfr0 : κ.ρ fr = none)
    (h0 : aappend P keep el isInt d x fr hs = some r) (hob : obsT r.ob) :
    OpPost P w (fun z w' => Good M w κ fr r.v (h.ups r.up) z w') ((execOp ev o).run P w) := by
  obtain ⟨sv, y, hsy, h1, h2⟩ := ha.two
  have has : as0.map ev = #[sv, y] := by apply Array.toList_inj.1; simpa using hsy
  have hrunA : (execOp ev o).run P w = ((Builtin.append_ tys o.type #[sv, y]).run P w).andThen fun v w' => .ok (.value v) w' := by
    simp only [execOp, hop, resolve, Sem.run_bind, Sem.run_pure, Result.andThen_ok, invoke, builtin, has]
  have hother : ∀ (p : Nat × Nat) (R : Nat), ∀ i, (i < fr ∨ fr + STR ≤ i) → (κ.put fr p R).ρ i = κ.ρ i := fun p R i hi => Ker.put_other κ _ _ (by unfold STR at hi; omega)
  suffices hz : ∃ z w', (Builtin.append_ tys o.type #[sv, y]).run P w = .ok z w' ∧ Good M w κ fr r.v (h.ups r.up) z w' by
    obtain ⟨z, w', hz1, hz2⟩ := hz
    rw [hrunA, hz1]
    exact hz2
  simp only [aappend, Option.bind_eq_some_iff] at h0
  obtain ⟨ie, hi, z, hz, ⟨sob, s⟩, hsrc, h0⟩ := h0
  split at h0
  · rename_i hc
    obtain ⟨hsz0, hby0, hzl, hsok⟩ := hc
    have hr' : HRel M w κ hs := hr.le hle
    obtain ⟨ie', zv, hi', hzv, hzrel⟩ := zeroCells_rel (κ := κ) hz
    rw [hi] at hi'
    simp only [Option.some.injEq] at hi'
    subst hi'
    have hzsz : ∀ c0, (Builtin.zeroCells zv.cells c0).size = c0 * ie.size := by
      intro c0
      have h5 := (zeroCells_fill (κ := κ) hzrel c0).length
      simp only [zeroFill, List.length_map, List.length_range, Array.length_toList] at h5
      rw [← h5, hzl]
    have hbytes : ∀ l, s = .bytes l → ie.size = 1 := by
      rintro l rfl
      simp only [Src.ok, Bool.and_eq_true, beq_iff_eq] at hsok
      exact hsok.2
    have nilcase : ∀ {i x0 sz0 n : Nat} {nl : NL} {vs : List Value}, VRel κ (.slice i x0 sz0 n (.kn 0) nl) sv → n = 0 → roomFor 0 s.cnt ie.bytes → AppArg P w ie zv t2 y s.cnt vs → SrcR κ ie.size s vs →
        ∃ z w', (Builtin.append_ tys o.type #[sv, y]).run P w = .ok z w' ∧ Good M w κ fr (.slice fr 0 ie.size s.cnt .ow (nlApp nl s.cnt)) (h.ups [(fr, some ⟨s.con ie.size, true, ie.size⟩)]) z w' := by
      intro i x0 sz0 n nl vs h1 hn0 hroom harg hsr
      subst hn0
      obtain ⟨ad, k, rfl, hnk, hnl, hcap, hloc⟩ := h1
      have hk : k = 0 := hcap
      subst hk
      by_cases hm : s.cnt = 0
      · have hvs : vs = [] := List.eq_nil_of_length_eq_zero (by rw [hsr.len, hm, Nat.zero_mul])
        have hrun := run_inplace (P := P) (w := w) (ty := o.type) (ad := ad) (n := 0) (k := 0) (w' := w) ht1 ht hi hzv ht2 harg (by rw [hm]; omega) (by omega) (by
          subst hvs
          cases ad with
          | none => rfl
          | some a => rfl)
        refine ⟨_, w, hrun, κ.put fr (0, 0) 0, Ker.le_put hfr0, hother _ _, ?_, ?_, Only.refl _ _, fun _ _ h => .inl h⟩
        · refine ⟨ad, 0, by rw [hm], by omega, ?_, ⟨rfl, (Ker.put_cap _ _ _ _).symm, by rw [Ker.put_self]; rfl⟩, .inr ⟨hm, rfl⟩⟩
          rw [hm]; exact nlApp_zero hnl
        · simp only [H.ups]
          refine hr.empty hfr0 (fun o => ?_) (by rw [hsr.clen, hm]; omega)
          cases hc : (s.con ie.size).at o with
          | none => rfl
          | some a =>
            have := Con.at_lt hc
            rw [hsr.clen, hm] at this
            omega
      · have hold : (Builtin.firstCells ie.size 0 (.slice ad 0 0)).run P w.drew = .ok (([] : List Value)).toArray w.drew := by
          cases ad with
          | none => simp [Builtin.firstCells]
          | some a => simp [Builtin.firstCells, loadCells, loadCellsFrom]
        obtain ⟨c0, hrun⟩ := run_grow (P := P) (w := w) (ty := o.type) ht1 ht hi hzv ht2 harg hroom hby0 (by omega) hold
        refine ⟨_, _, hrun, ?_⟩
        simp only [H.ups]
        have hg := good_alloc0 (M := M) (w := w.drew) (e := el) (cs := (([] : List Value)).toArray ++ vs.toArray ++ Builtin.zeroCells zv.cells c0) (R := 0 + s.cnt + c0) (ow := ie.size) (fz := (0, 0)) (c := s.con ie.size)
          (v := .slice fr 0 ie.size s.cnt .ow (nlApp nl s.cnt)) (x := .slice (some ⟨w.heap.size, 0, none⟩) (0 + s.cnt) (0 + s.cnt + c0)) hr.drawn hfr0 hM
          (fun _ => ⟨by rw [hsr.clen]; exact Nat.mul_le_mul_right _ (by omega), by
            simp only [Array.size_append, List.size_toArray, hzsz, hsr.len, List.length_nil, Nat.zero_add, Nat.add_mul]; exact Nat.le_refl _⟩)
          (by
            intro off a hat
            obtain ⟨q, hq, hv⟩ := hsr.rel off a hat
            refine ⟨q, ?_, hv⟩
            have hlt := (List.getElem?_eq_some_iff.1 hq).1
            rw [Array.getElem?_append_left (by simpa using hlt)]
            simpa using hq)
          (.inl rfl)
          ⟨_, _, by rw [Nat.zero_add], by omega, nlApp_some hnl hm, ⟨rfl, by rw [Ker.put_cap]; omega, by rw [Ker.put_self]; rfl⟩, .inl ⟨w.heap.size, 0, Ker.put_self _ _ _ _, by simp⟩⟩
        obtain ⟨g1, g2, g3, g4, g5, g6, g7⟩ := hg
        exact ⟨g1, g2, g3, g4, g5, (Only.drew M w).trans g6, g7⟩
    split at h0
    · -- nil
      simp only [Option.some.injEq] at h0
      subst h0
      simp only at hob
      obtain ⟨ho1, ho3⟩ := obsT_append.1 hob
      have hroom := obsT_one.1 ho3
      obtain ⟨vs, harg, hsr⟩ := asSrc_rel hr' hi hd hdd h2 hz hzv hzl hsrc ho1 hsok
      simp only [VRel] at h1
      exact nilcase (i := 0) (x0 := 0) (sz0 := 0) (n := 0) (nl := .is true) ⟨none, 0, h1, Nat.le_refl _, rfl, rfl, .inr ⟨rfl, rfl⟩⟩ rfl hroom harg hsr
    · -- nothing is there
      rename_i i x0 sz0 n nl
      simp only [Option.some.injEq] at h0
      subst h0
      simp only at hob
      obtain ⟨ho1, ho2⟩ := obsT_append.1 hob
      obtain ⟨hn0, ho3⟩ := obsT_cons.1 ho2
      have hroom := obsT_one.1 ho3
      obtain ⟨vs, harg, hsr⟩ := asSrc_rel hr' hi hd hdd h2 hz hzv hzl hsrc ho1 hsok
      exact nilcase h1 hn0 hroom harg hsr
    · -- an own row
      rename_i i sz n nl
      simp only [Option.bind_eq_some_iff] at h0
      obtain ⟨b, hb, h0⟩ := h0
      split at h0
      · rename_i hown
        obtain ⟨hown, hszz⟩ := hown
        subst hszz
        simp only [Option.map_eq_some_iff] at h0
        obtain ⟨⟨cob, c⟩, happ, rfl⟩ := h0
        simp only at hob
        obtain ⟨ho12, ho3⟩ := obsT_append.1 hob
        obtain ⟨ho1, ho2⟩ := obsT_append.1 ho12
        have hroom := obsT_one.1 ho3
        obtain ⟨vs, harg, hsr⟩ := asSrc_rel hr' hi hd hdd h2 hz hzv hzl hsrc ho1 hsok
        obtain ⟨hclen, hblen, hcat⟩ := app_at hsz0 hsr hbytes happ ho2
        obtain ⟨ad, k, rfl, hnk, hnl, ⟨_, hk, hsome⟩, hloc⟩ := h1
        have hb' : h i = some b := hle i b hb
        obtain ⟨⟨B, O⟩, hρ⟩ := hr.named hb'
        obtain ⟨hw, hlb, hcell⟩ := hr.own i b B O hb' (by omega) hρ
        rw [← hk, hown] at hcell hlb
        have hsub : ∀ o a, b.con.at o = some a → c.at o = some a := by
          intro o a hoa
          have := Con.at_lt hoa
          rw [hblen] at this
          rw [hcat, if_pos this]
          exact hoa
        have hif : i ≠ fr := by
          intro he
          rw [he, hfr0] at hρ
          cases hρ
        have hsum : (n + s.cnt) * ie.size = n * ie.size + s.cnt * ie.size := Nat.add_mul _ _ _
        by_cases hfit : n + s.cnt ≤ k
        · have hmul : (n + s.cnt) * ie.size ≤ k * ie.size := Nat.mul_le_mul_right _ hfit
          -- the block with more in it
          have key : ∃ w', (match ad with | some a => (storeCells (a.add (n * ie.size)) vs).run P w | none => .ok () w) = .ok () w' ∧ HRel M w' κ (upd h i (some ⟨c, true, b.own⟩)) ∧ Only M w w' := by
            by_cases hm : s.cnt = 0
            · have hvs : vs = [] := List.eq_nil_of_length_eq_zero (by rw [hsr.len, hm, Nat.zero_mul])
              subst hvs
              refine ⟨w, by cases ad <;> rfl, ?_, Only.refl _ _⟩
              have := hr.less hb' (c := c) (fun o a hoa => by
                rw [hcat] at hoa
                split at hoa
                · exact hoa
                · have := Con.at_lt hoa
                  rw [hsr.clen, hm] at this
                  omega) (fun _ => by rw [hclen, hown, ← hk]; exact hmul)
              rwa [hw] at this
            · have hkpos : 0 < k := by omega
              rcases hloc with ⟨B1, O1, e1, rfl⟩ | ⟨h0n, h0k⟩
              · rw [hρ] at e1
                simp only [Option.some.injEq, Prod.mk.injEq] at e1
                obtain ⟨rfl, rfl⟩ := e1
                have hst := hr.sets (c := c) (vs := vs) (p := n * ie.size) hb' hw hρ (.inr ⟨by omega, by omega⟩) (fun _ => by rw [hclen, hown, ← hk]; exact hmul)
                  (fun j hj => by
                    rw [hsr.len] at hj
                    have := hcell (n * ie.size + j) (by omega)
                    rwa [← Nat.add_assoc] at this)
                  (fun j a hj hat => by
                    rw [hcat, if_neg (by omega), Nat.add_sub_cancel_left] at hat
                    exact hsr.rel j a hat)
                  (fun q a hq hat => by
                    rw [hcat] at hat
                    split at hat
                    · exact hat
                    · have := Con.at_lt hat
                      rw [hsr.clen] at this
                      rw [hsr.len] at hq
                      omega)
                refine ⟨_, ?_, hst⟩
                have := run_sets (P := P) B vs w (O + n * ie.size) 0 (fun j hj => by
                  rw [hsr.len] at hj
                  have := hcell (n * ie.size + j) (by omega)
                  rwa [← Nat.add_assoc] at this) hsr.one
                simp only [Nat.zero_mul, Nat.add_zero, Addr.add_at]
                exact this
              · omega
          obtain ⟨w', hst, hrel, ho⟩ := key
          have hrun := run_inplace (P := P) (w := w) (ty := o.type) (ad := ad) (n := n) (k := k) (w' := w') ht1 ht hi hzv ht2 harg (by
            have h1 : s.cnt * ie.bytes ≤ (n + s.cnt) * (2 * ie.bytes) := Nat.mul_le_mul (by omega) (by omega)
            exact Nat.le_trans h1 hroom) hfit hst
          have hnl' : NLR (nlApp nl s.cnt) ad := by
            by_cases hm : s.cnt = 0
            · rw [hm]; exact nlApp_zero hnl
            · rcases hloc with ⟨B1, O1, e1, rfl⟩ | ⟨_, hk0⟩
              · exact nlApp_same hnl
              · omega
          refine ⟨_, w', hrun, κ.put fr (B, O) (κ.cap i), Ker.le_put hfr0, hother _ _, ?_, ?_, ho, fun _ _ h => .inl h⟩
          · refine ⟨ad, k, rfl, hfit, hnl', ?_, ?_⟩
            · cases keep
              · exact ⟨rfl, by rw [Ker.put_cap]; exact hk, by rw [Ker.put_self]; rfl⟩
              · trivial
            · rcases hloc with ⟨B1, O1, e1, rfl⟩ | ⟨h0n, h0k⟩
              · rw [hρ] at e1
                simp only [Option.some.injEq, Prod.mk.injEq] at e1
                obtain ⟨rfl, rfl⟩ := e1
                exact .inl ⟨B, O, Ker.put_self _ _ _ _, rfl⟩
              · exact .inr ⟨by omega, h0k⟩
          · cases keep
            · simp only [Bool.false_eq_true, if_false, H.ups]
              have := hrel.rename (f := fr) (b := ⟨c, true, b.own⟩) (by simp [upd]) hρ hfr0
              rw [upd_upd, hown] at this
              exact this
            · simp only [if_true, H.ups]
              have hu : upd h i (some ⟨c, true, b.own⟩) i = some ⟨c, true, b.own⟩ := by simp [upd]
              have g1 := hrel.wk hu (b' := ⟨c, false, 0⟩) (fun o a h => h) rfl rfl
              rw [upd_upd] at g1
              have g2 := g1.alias (f := fr) (R := κ.cap i) (c := c) (by simp [upd]; rfl) rfl hρ hfr0 (fun o a h => h)
              have g3 := g2.wk (i := i) (b := ⟨c, false, 0⟩) (b' := ⟨b.con, false, 0⟩) (by simp [upd, hif]) hsub rfl rfl
              have e : upd (upd (upd h i (some ⟨c, false, 0⟩)) fr (some ⟨c, false, 0⟩)) i (some ⟨b.con, false, 0⟩) = upd (upd h i (some ⟨b.con, false, 0⟩)) fr (some ⟨c, false, 0⟩) := by
                rw [upd_comm _ _ _ (Ne.symm hif), upd_upd]
              rw [e] at g3
              exact g3
        · -- a new block
          have hold : ∃ old : List Value, (Builtin.firstCells ie.size n (.slice ad n k)).run P w.drew = .ok old.toArray w.drew ∧ old.length = n * ie.size ∧ (∀ off a, off < n * ie.size → b.con.at off = some a → ∃ x, old[off]? = some x ∧ VRel κ a x) := by
            rcases hloc with ⟨B1, O1, e1, rfl⟩ | ⟨h0n, h0k⟩
            · rw [hρ] at e1
              simp only [Option.some.injEq, Prod.mk.injEq] at e1
              obtain ⟨rfl, rfl⟩ := e1
              have hmul : n * ie.size ≤ k * ie.size := Nat.mul_le_mul_right _ hnk
              obtain ⟨xs, k1, k2⟩ := rel_list (κ := κ) (w := w) (B := B) (p := O + 0 * ie.size) (List.replicate (n * ie.size) .any) 0 (fun j a hj => by
                have hlt : j < n * ie.size := by have := (List.getElem?_eq_some_iff.1 hj).1; simpa using this
                obtain ⟨⟨x, hx⟩, _⟩ := hcell j (by omega)
                rw [List.getElem?_replicate, if_pos hlt] at hj
                simp only [Option.some.injEq] at hj
                subst hj
                exact ⟨x, by rwa [Nat.zero_mul, Nat.add_zero, Nat.zero_add], trivial⟩)
              have hl : xs.length = n * ie.size := by rw [← k1.length]; simp
              have hrd : Reads w (.slice (some ⟨B, O + 0 * ie.size, none⟩) n k) ie.size n xs := ⟨hl, .inr ⟨_, k, rfl, .inr ⟨B, _, rfl, k2⟩⟩⟩
              refine ⟨xs, ?_, hl, ?_⟩
              · have := hrd.drew.run_first (P := P) (Nat.le_refl n)
                rwa [← hl, List.take_length] at this
              · intro off a hoff hat
                obtain ⟨⟨x, hx, hv⟩, _⟩ := hr.cells hb' hρ hat
                refine ⟨x, ?_, hv⟩
                have hlt : off < xs.length := by omega
                have h3 := k2 off _ (List.getElem?_eq_getElem hlt)
                rw [Nat.zero_mul, Nat.add_zero, hx] at h3
                simp only [Option.some.injEq] at h3
                rw [List.getElem?_eq_getElem hlt, h3]
            · subst h0n
              refine ⟨[], ?_, by simp, fun off a hoff => by simp at hoff⟩
              cases ad with
              | none => simp [Builtin.firstCells]
              | some a => simp [Builtin.firstCells, loadCells, loadCellsFrom]
          obtain ⟨old, hold, hol, horel⟩ := hold
          obtain ⟨c0, hrun⟩ := run_grow (P := P) (w := w) (ty := o.type) ht1 ht hi hzv ht2 harg hroom hby0 hfit hold
          have hm : s.cnt ≠ 0 := by omega
          have hg := fun (hh : H) (hhr : HRel M w κ hh) => good_alloc0 (M := M) (h := hh) (w := w.drew) (fr := fr) (e := el) (cs := old.toArray ++ vs.toArray ++ Builtin.zeroCells zv.cells c0) (R := n + s.cnt + c0) (ow := ie.size) (fz := (0, 0)) (c := c)
            (v := .slice fr 0 ie.size (n + s.cnt) (if keep then .un else .ow) (nlApp nl s.cnt)) (x := .slice (some ⟨w.heap.size, 0, none⟩) (n + s.cnt) (n + s.cnt + c0)) hhr.drawn hfr0 hM
            (fun _ => ⟨by rw [hclen]; exact Nat.mul_le_mul_right _ (by omega), by
              simp only [Array.size_append, List.size_toArray, hzsz, hsr.len, hol, Nat.add_mul]; exact Nat.le_refl _⟩)
            (by
              intro off a hat
              have hlt := Con.at_lt hat
              rw [hclen] at hlt
              have hsz2 : off < (old.toArray ++ vs.toArray).size := by simp only [Array.size_append, List.size_toArray, hsr.len, hol]; omega
              rw [Array.getElem?_append_left hsz2]
              rw [hcat] at hat
              split at hat
              · rename_i ho
                obtain ⟨q, hq, hv⟩ := horel off a ho hat
                refine ⟨q, ?_, hv⟩
                rw [Array.getElem?_append_left (by simpa [hol] using ho)]
                simpa using hq
              · rename_i ho
                obtain ⟨q, hq, hv⟩ := hsr.rel _ a hat
                refine ⟨q, ?_, hv⟩
                rw [Array.getElem?_append_right (by simp only [List.size_toArray, hol]; omega)]
                simpa [hol] using hq)
            (.inl rfl)
            (by
              refine ⟨_, _, rfl, by omega, nlApp_some hnl hm, ?_, .inl ⟨w.heap.size, 0, Ker.put_self _ _ _ _, by simp⟩⟩
              cases keep
              · exact ⟨rfl, by rw [Ker.put_cap], by rw [Ker.put_self]; rfl⟩
              · trivial)
          cases keep
          · simp only [Bool.false_eq_true, if_false] at hg ⊢
            obtain ⟨g1, g2, g3, g4, g5, g6, g7⟩ := hg (upd h i none) (hr.drop i)
            exact ⟨_, _, hrun, g1, g2, g3, g4, by simpa only [H.ups] using g5, (Only.drew M w).trans g6, g7⟩
          · simp only [if_true] at hg ⊢
            obtain ⟨g1, g2, g3, g4, g5, g6, g7⟩ := hg h hr
            refine ⟨_, _, hrun, g1, g2, g3, g4, ?_, (Only.drew M w).trans g6, g7⟩
            simp only [H.ups]
            have e1 : upd h fr (some ⟨c, true, ie.size⟩) fr = some ⟨c, true, ie.size⟩ := by simp [upd]
            have k1 := g5.wk e1 (b' := ⟨c, false, 0⟩) (fun o a h => h) rfl rfl
            rw [upd_upd] at k1
            have k2 := k1.wk (i := i) (b := b) (b' := ⟨b.con, false, 0⟩) (by simp [upd, hif, hb']) (fun o a h => h) rfl rfl
            rw [upd_comm _ _ _ (Ne.symm hif)] at k2
            exact k2
      · cases h0
    · cases h0
  · cases h0
theorem full_sound {o : Oper} {ev : Operand → Value} {as0 : Array Operand} {tys : Array TypeId} {x : AV} {i x0 sz n ck : Nat} {nl : NL} {fr t t2 el : Nat} {dd : TypeDesc} {isInt : Bool} {hs : H} {r : R}
    (hop : o.op = .call { callee := .builtin .append, args := as0, argTypes := tys }) (ha : VRels κ [.slice i x0 sz n (.kn ck) nl, x] (as0.toList.map ev))
    (ht1 : tys[0]? = some t) (ht : P.underlying t = some (.slice el)) (ht2 : tys[1]? = some t2) (hd : P.underlying t2 = some dd)
    (hdd : (isInt = false ∧ ((∃ e2, dd = .slice e2) ∨ dd = .string)) ∨ (isInt = true ∧ ∃ k0, dd = .int k0))
    (hr : HRel M w κ h) (hle : hs.le h) (hM : ∀ B, w.heap.size ≤ B → M B) (hfr0 : κ.ρ fr = none)
    (h0 : afull P el isInt i x0 sz n ck nl x fr hs = some r) (hob : obsT r.ob) :
    OpPost P w (fun z w' => Good M w κ fr r.v (h.ups r.up) z w') ((execOp ev o).run P w) := by
  obtain ⟨sv, y, hsy, h1, h2⟩ := ha.two
  have has : as0.map ev = #[sv, y] := by apply Array.toList_inj.1; simpa using hsy
  have hrunA : (execOp ev o).run P w = ((Builtin.append_ tys o.type #[sv, y]).run P w).andThen fun v w' => .ok (.value v) w' := by
    simp only [execOp, hop, resolve, Sem.run_bind, Sem.run_pure, Result.andThen_ok, invoke, builtin, has]
  have hother : ∀ (p : Nat × Nat) (R : Nat), ∀ i, (i < fr ∨ fr + STR ≤ i) → (κ.put fr p R).ρ i = κ.ρ i := fun p R i hi => Ker.put_other κ _ _ (by unfold STR at hi; omega)
  suffices hz : ∃ z w', (Builtin.append_ tys o.type #[sv, y]).run P w = .ok z w' ∧ Good M w κ fr r.v (h.ups r.up) z w' by
    obtain ⟨z, w', hz1, hz2⟩ := hz
    rw [hrunA, hz1]
    exact hz2
  simp only [afull, Option.bind_eq_some_iff] at h0
  obtain ⟨ie, hi, z, hz, ⟨sob, s⟩, hsrc, h0⟩ := h0
  split at h0
  · rename_i hc
    obtain ⟨hsz0, hby0, hzl, hsok⟩ := hc
    have hr' : HRel M w κ hs := hr.le hle
    obtain ⟨ie', zv, hi', hzv, hzrel⟩ := zeroCells_rel (κ := κ) hz
    rw [hi] at hi'
    simp only [Option.some.injEq] at hi'
    subst hi'
    have hzsz : ∀ c0, (Builtin.zeroCells zv.cells c0).size = c0 * ie.size := by
      intro c0
      have h5 := (zeroCells_fill (κ := κ) hzrel c0).length
      simp only [zeroFill, List.length_map, List.length_range, Array.length_toList] at h5
      rw [← h5, hzl]
    have hbytes : ∀ l, s = .bytes l → ie.size = 1 := by
      rintro l rfl
      simp only [Src.ok, Bool.and_eq_true, beq_iff_eq] at hsok
      exact hsok.2
    split at h0
    · simp only [Option.bind_eq_some_iff] at h0
      obtain ⟨b, hb, h0⟩ := h0
      split at h0
      · rename_i hown
        obtain ⟨hown, hszz⟩ := hown
        subst hszz
        simp only [Option.map_eq_some_iff] at h0
        obtain ⟨⟨cob, c⟩, happ, rfl⟩ := h0
        simp only at hob
        obtain ⟨ho12, ho3⟩ := obsT_append.1 hob
        obtain ⟨ho1, ho2⟩ := obsT_append.1 ho12
        obtain ⟨hroom, ho4⟩ := obsT_cons.1 ho3
        have hnofit := obsT_one.1 ho4
        obtain ⟨vs, harg, hsr⟩ := asSrc_rel hr' hi hd hdd h2 hz hzv hzl hsrc ho1 hsok
        obtain ⟨hclen, hblen, hcat⟩ := app_at hsz0 hsr hbytes happ ho2
        obtain ⟨ad, k, rfl, hnk, hnl, hk, hloc⟩ := h1
        have hk : k = ck := hk
        have hb' : h i = some b := hle i b hb
        obtain ⟨⟨B, O⟩, hρ⟩ := hr.named hb'
        obtain ⟨hw, hlb, hcell⟩ := hr.own i b B O hb' (by omega) hρ
        rw [hown] at hcell hlb
        have hfit : ¬ n + s.cnt ≤ k := by omega
        have hsum : (n + s.cnt) * ie.size = n * ie.size + s.cnt * ie.size := Nat.add_mul _ _ _
        have hold : ∃ old : List Value, (Builtin.firstCells ie.size n (.slice ad n k)).run P w.drew = .ok old.toArray w.drew ∧ old.length = n * ie.size ∧ (∀ off a, off < n * ie.size → b.con.at off = some a → ∃ x, old[off]? = some x ∧ VRel κ a x) := by
          rcases hloc with ⟨B1, O1, e1, rfl⟩ | ⟨h0n, h0k⟩
          · rw [hρ] at e1
            simp only [Option.some.injEq, Prod.mk.injEq] at e1
            obtain ⟨rfl, rfl⟩ := e1
            obtain ⟨xs, k1, k2⟩ := rel_list (κ := κ) (w := w) (B := B) (p := O + 0 * ie.size) (List.replicate (n * ie.size) .any) 0 (fun j a hj => by
              have hlt : j < n * ie.size := by have := (List.getElem?_eq_some_iff.1 hj).1; simpa using this
              obtain ⟨⟨x, hx⟩, _⟩ := hcell j (by omega)
              rw [List.getElem?_replicate, if_pos hlt] at hj
              simp only [Option.some.injEq] at hj
              subst hj
              exact ⟨x, by rwa [Nat.zero_mul, Nat.add_zero, Nat.zero_add], trivial⟩)
            have hl : xs.length = n * ie.size := by rw [← k1.length]; simp
            have hrd : Reads w (.slice (some ⟨B, O + 0 * ie.size, none⟩) n k) ie.size n xs := ⟨hl, .inr ⟨_, k, rfl, .inr ⟨B, _, rfl, k2⟩⟩⟩
            refine ⟨xs, ?_, hl, ?_⟩
            · have := hrd.drew.run_first (P := P) (Nat.le_refl n)
              rwa [← hl, List.take_length] at this
            · intro off a hoff hat
              obtain ⟨⟨x, hx, hv⟩, _⟩ := hr.cells hb' hρ hat
              refine ⟨x, ?_, hv⟩
              have hlt : off < xs.length := by omega
              have h3 := k2 off _ (List.getElem?_eq_getElem hlt)
              rw [Nat.zero_mul, Nat.add_zero, hx] at h3
              simp only [Option.some.injEq] at h3
              rw [List.getElem?_eq_getElem hlt, h3]
          · subst h0n
            refine ⟨[], ?_, by simp, fun off a hoff => by simp at hoff⟩
            cases ad with
            | none => simp [Builtin.firstCells]
            | some a => simp [Builtin.firstCells, loadCells, loadCellsFrom]
        obtain ⟨old, hold, hol, horel⟩ := hold
        obtain ⟨c0, hrun⟩ := run_grow (P := P) (w := w) (ty := o.type) ht1 ht hi hzv ht2 harg hroom hby0 hfit hold
        have hm : s.cnt ≠ 0 := by omega
        have hg := fun (hh : H) (hhr : HRel M w κ hh) => good_alloc0 (M := M) (h := hh) (w := w.drew) (fr := fr) (e := el) (cs := old.toArray ++ vs.toArray ++ Builtin.zeroCells zv.cells c0) (R := n + s.cnt + c0) (ow := ie.size) (fz := (0, 0)) (c := c)
          (v := .slice fr 0 ie.size (n + s.cnt) .ow (nlApp nl s.cnt)) (x := .slice (some ⟨w.heap.size, 0, none⟩) (n + s.cnt) (n + s.cnt + c0)) hhr.drawn hfr0 hM
          (fun _ => ⟨by rw [hclen]; exact Nat.mul_le_mul_right _ (by omega), by
            simp only [Array.size_append, List.size_toArray, hzsz, hsr.len, hol, Nat.add_mul]; exact Nat.le_refl _⟩)
          (by
            intro off a hat
            have hlt := Con.at_lt hat
            rw [hclen] at hlt
            have hsz2 : off < (old.toArray ++ vs.toArray).size := by simp only [Array.size_append, List.size_toArray, hsr.len, hol]; omega
            rw [Array.getElem?_append_left hsz2]
            rw [hcat] at hat
            split at hat
            · rename_i ho
              obtain ⟨q, hq, hv⟩ := horel off a ho hat
              refine ⟨q, ?_, hv⟩
              rw [Array.getElem?_append_left (by simpa [hol] using ho)]
              simpa using hq
            · rename_i ho
              obtain ⟨q, hq, hv⟩ := hsr.rel _ a hat
              refine ⟨q, ?_, hv⟩
              rw [Array.getElem?_append_right (by simp only [List.size_toArray, hol]; omega)]
              simpa [hol] using hq)
          (.inl rfl)
          (by
            refine ⟨_, _, rfl, by omega, nlApp_some hnl hm, ?_, .inl ⟨w.heap.size, 0, Ker.put_self _ _ _ _, by simp⟩⟩
            exact ⟨rfl, by rw [Ker.put_cap], by rw [Ker.put_self]; rfl⟩)
        obtain ⟨g1, g2, g3, g4, g5, g6, g7⟩ := hg h hr
        exact ⟨_, _, hrun, g1, g2, g3, g4, by simpa only [H.ups] using g5, (Only.drew M w).trans g6, g7⟩
      · cases h0
    · cases h0
  · cases h0
theorem blur_sound {o : Oper} {ev : Operand → Value} {as0 : Array Operand} {tys : Array TypeId} {d x : AV} {fr t t2 el : Nat} {dd : TypeDesc} {isInt : Bool} {hs : H} {r : R}
    (hop : o.op = .call { callee := .builtin .append, args := as0, argTypes := tys }) (ha : VRels κ [d, x] (as0.toList.map ev))
    (ht1 : tys[0]? = some t) (ht : P.underlying t = some (.slice el)) (ht2 : tys[1]? = some t2) (hd : P.underlying t2 = some dd)
    (hdd : (isInt = false ∧ ((∃ e2, dd = .slice e2) ∨ dd = .string)) ∨ (isInt = true ∧ ∃ k0, dd = .int k0))
    (hr : HRel M w κ h) (hle : hs.le h) (hM : ∀ B, w.heap.size ≤ B → M B) (hfr0 : κ.ρ fr = none)
    (h0 : aappB P el isInt d x hs = some r) (hob : obsT r.ob) :
    OpPost P w (fun z w' => Good M w κ fr r.v (h.ups r.up) z w') ((execOp ev o).run P w) := by
  obtain ⟨sv, y, hsy, h1, h2⟩ := ha.two
  have has : as0.map ev = #[sv, y] := by apply Array.toList_inj.1; simpa using hsy
  have hrunA : (execOp ev o).run P w = ((Builtin.append_ tys o.type #[sv, y]).run P w).andThen fun v w' => .ok (.value v) w' := by
    simp only [execOp, hop, resolve, Sem.run_bind, Sem.run_pure, Result.andThen_ok, invoke, builtin, has]
  have hother : ∀ (p : Nat × Nat) (R : Nat), ∀ i, (i < fr ∨ fr + STR ≤ i) → (κ.put fr p R).ρ i = κ.ρ i := fun p R i hi => Ker.put_other κ _ _ (by unfold STR at hi; omega)
  suffices hz : ∃ z w', (Builtin.append_ tys o.type #[sv, y]).run P w = .ok z w' ∧ Good M w κ fr r.v (h.ups r.up) z w' by
    obtain ⟨z, w', hz1, hz2⟩ := hz
    rw [hrunA, hz1]
    exact hz2
  simp only [aappB, Option.bind_eq_some_iff] at h0
  obtain ⟨ie, hi, z, hz, ⟨sob, s⟩, hsrc, h0⟩ := h0
  split at h0
  · rename_i hc
    obtain ⟨hsz0, hby0, hzl, hsok⟩ := hc
    have hr' : HRel M w κ hs := hr.le hle
    obtain ⟨ie', zv, hi', hzv, hzrel⟩ := zeroCells_rel (κ := κ) hz
    rw [hi] at hi'
    simp only [Option.some.injEq] at hi'
    subst hi'
    have hzsz : ∀ c0, (Builtin.zeroCells zv.cells c0).size = c0 * ie.size := by
      intro c0
      have h5 := (zeroCells_fill (κ := κ) hzrel c0).length
      simp only [zeroFill, List.length_map, List.length_range, Array.length_toList] at h5
      rw [← h5, hzl]
    have hbytes : ∀ l, s = .bytes l → ie.size = 1 := by
      rintro l rfl
      simp only [Src.ok, Bool.and_eq_true, beq_iff_eq] at hsok
      exact hsok.2
    split at h0
    · rename_i i sz n nl
      simp only [Option.bind_eq_some_iff] at h0
      obtain ⟨b, hb, h0⟩ := h0
      split at h0
      · rename_i hown
        obtain ⟨hown, hszz⟩ := hown
        subst hszz
        simp only [Option.map_eq_some_iff] at h0
        obtain ⟨⟨cob, c⟩, happ, rfl⟩ := h0
        simp only at hob
        obtain ⟨ho12, ho3⟩ := obsT_append.1 hob
        obtain ⟨ho1, ho2⟩ := obsT_append.1 ho12
        have hroom := obsT_one.1 ho3
        obtain ⟨vs, harg, hsr⟩ := asSrc_rel hr' hi hd hdd h2 hz hzv hzl hsrc ho1 hsok
        obtain ⟨hclen, hblen, hcat⟩ := app_at hsz0 hsr hbytes happ ho2
        obtain ⟨ad, k, rfl, hnk, hnl, ⟨_, hk, hsome⟩, hloc⟩ := h1
        have hb' : h i = some b := hle i b hb
        obtain ⟨⟨B, O⟩, hρ⟩ := hr.named hb'
        obtain ⟨hw, hlb, hcell⟩ := hr.own i b B O hb' (by omega) hρ
        rw [← hk, hown] at hcell hlb
        have hsub : ∀ o a, b.con.at o = some a → c.at o = some a := by
          intro o a hoa
          have := Con.at_lt hoa
          rw [hblen] at this
          rw [hcat, if_pos this]
          exact hoa
        have hif : i ≠ fr := by
          intro he
          rw [he, hfr0] at hρ
          cases hρ
        have hsum : (n + s.cnt) * ie.size = n * ie.size + s.cnt * ie.size := Nat.add_mul _ _ _
        by_cases hfit : n + s.cnt ≤ k
        · have hmul : (n + s.cnt) * ie.size ≤ k * ie.size := Nat.mul_le_mul_right _ hfit
          -- the block with more in it
          have key : ∃ w', (match ad with | some a => (storeCells (a.add (n * ie.size)) vs).run P w | none => .ok () w) = .ok () w' ∧ HRel M w' κ (upd h i (some ⟨c, true, b.own⟩)) ∧ Only M w w' := by
            by_cases hm : s.cnt = 0
            · have hvs : vs = [] := List.eq_nil_of_length_eq_zero (by rw [hsr.len, hm, Nat.zero_mul])
              subst hvs
              refine ⟨w, by cases ad <;> rfl, ?_, Only.refl _ _⟩
              have := hr.less hb' (c := c) (fun o a hoa => by
                rw [hcat] at hoa
                split at hoa
                · exact hoa
                · have := Con.at_lt hoa
                  rw [hsr.clen, hm] at this
                  omega) (fun _ => by rw [hclen, hown, ← hk]; exact hmul)
              rwa [hw] at this
            · have hkpos : 0 < k := by omega
              rcases hloc with ⟨B1, O1, e1, rfl⟩ | ⟨h0n, h0k⟩
              · rw [hρ] at e1
                simp only [Option.some.injEq, Prod.mk.injEq] at e1
                obtain ⟨rfl, rfl⟩ := e1
                have hst := hr.sets (c := c) (vs := vs) (p := n * ie.size) hb' hw hρ (.inr ⟨by omega, by omega⟩) (fun _ => by rw [hclen, hown, ← hk]; exact hmul)
                  (fun j hj => by
                    rw [hsr.len] at hj
                    have := hcell (n * ie.size + j) (by omega)
                    rwa [← Nat.add_assoc] at this)
                  (fun j a hj hat => by
                    rw [hcat, if_neg (by omega), Nat.add_sub_cancel_left] at hat
                    exact hsr.rel j a hat)
                  (fun q a hq hat => by
                    rw [hcat] at hat
                    split at hat
                    · exact hat
                    · have := Con.at_lt hat
                      rw [hsr.clen] at this
                      rw [hsr.len] at hq
                      omega)
                refine ⟨_, ?_, hst⟩
                have := run_sets (P := P) B vs w (O + n * ie.size) 0 (fun j hj => by
                  rw [hsr.len] at hj
                  have := hcell (n * ie.size + j) (by omega)
                  rwa [← Nat.add_assoc] at this) hsr.one
                simp only [Nat.zero_mul, Nat.add_zero, Addr.add_at]
                exact this
              · omega
          obtain ⟨w', hst, hrel, ho⟩ := key
          have hrun := run_inplace (P := P) (w := w) (ty := o.type) (ad := ad) (n := n) (k := k) (w' := w') ht1 ht hi hzv ht2 harg (by
            have h1 : s.cnt * ie.bytes ≤ (n + s.cnt) * (2 * ie.bytes) := Nat.mul_le_mul (by omega) (by omega)
            exact Nat.le_trans h1 hroom) hfit hst
          have hnl' : NLR (nlApp nl s.cnt) ad := by
            by_cases hm : s.cnt = 0
            · rw [hm]; exact nlApp_zero hnl
            · rcases hloc with ⟨B1, O1, e1, rfl⟩ | ⟨_, hk0⟩
              · exact nlApp_same hnl
              · omega
          have hback : HRel M w' κ h := by
            have hu : upd h i (some ⟨c, true, b.own⟩) i = some ⟨c, true, b.own⟩ := by simp [upd]
            have := hrel.less hu (c := b.con) hsub (fun _ => by rw [hown, ← hk]; exact hlb)
            have e : (⟨b.con, true, b.own⟩ : ABlk) = b := by cases b; simp only at hw; subst hw; rfl
            rw [upd_upd] at this
            simp only at this
            rw [e, upd_self _ _ _ hb'] at this
            exact this
          refine ⟨_, w', hrun, κ, κ.le_refl, fun _ _ => rfl, ?_, hback, ho, fun _ _ h => .inl h⟩
          refine ⟨ad, k, rfl, hfit, hnl', ?_⟩
          rcases hloc with ⟨B1, O1, e1, rfl⟩ | ⟨h0n, h0k⟩
          · exact .inr ⟨_, _, rfl, fun j hj => ⟨rfl, [], rfl, fun c x hc => by simp at hc⟩⟩
          · exact .inl (by omega)
        · -- a new block
          have hold : ∃ old : List Value, (Builtin.firstCells ie.size n (.slice ad n k)).run P w.drew = .ok old.toArray w.drew ∧ old.length = n * ie.size ∧ (∀ off a, off < n * ie.size → b.con.at off = some a → ∃ x, old[off]? = some x ∧ VRel κ a x) := by
            rcases hloc with ⟨B1, O1, e1, rfl⟩ | ⟨h0n, h0k⟩
            · rw [hρ] at e1
              simp only [Option.some.injEq, Prod.mk.injEq] at e1
              obtain ⟨rfl, rfl⟩ := e1
              have hmul : n * ie.size ≤ k * ie.size := Nat.mul_le_mul_right _ hnk
              obtain ⟨xs, k1, k2⟩ := rel_list (κ := κ) (w := w) (B := B) (p := O + 0 * ie.size) (List.replicate (n * ie.size) .any) 0 (fun j a hj => by
                have hlt : j < n * ie.size := by have := (List.getElem?_eq_some_iff.1 hj).1; simpa using this
                obtain ⟨⟨x, hx⟩, _⟩ := hcell j (by omega)
                rw [List.getElem?_replicate, if_pos hlt] at hj
                simp only [Option.some.injEq] at hj
                subst hj
                exact ⟨x, by rwa [Nat.zero_mul, Nat.add_zero, Nat.zero_add], trivial⟩)
              have hl : xs.length = n * ie.size := by rw [← k1.length]; simp
              have hrd : Reads w (.slice (some ⟨B, O + 0 * ie.size, none⟩) n k) ie.size n xs := ⟨hl, .inr ⟨_, k, rfl, .inr ⟨B, _, rfl, k2⟩⟩⟩
              refine ⟨xs, ?_, hl, ?_⟩
              · have := hrd.drew.run_first (P := P) (Nat.le_refl n)
                rwa [← hl, List.take_length] at this
              · intro off a hoff hat
                obtain ⟨⟨x, hx, hv⟩, _⟩ := hr.cells hb' hρ hat
                refine ⟨x, ?_, hv⟩
                have hlt : off < xs.length := by omega
                have h3 := k2 off _ (List.getElem?_eq_getElem hlt)
                rw [Nat.zero_mul, Nat.add_zero, hx] at h3
                simp only [Option.some.injEq] at h3
                rw [List.getElem?_eq_getElem hlt, h3]
            · subst h0n
              refine ⟨[], ?_, by simp, fun off a hoff => by simp at hoff⟩
              cases ad with
              | none => simp [Builtin.firstCells]
              | some a => simp [Builtin.firstCells, loadCells, loadCellsFrom]
          obtain ⟨old, hold, hol, horel⟩ := hold
          obtain ⟨c0, hrun⟩ := run_grow (P := P) (w := w) (ty := o.type) ht1 ht hi hzv ht2 harg hroom hby0 hfit hold
          have hm : s.cnt ≠ 0 := by omega
          refine ⟨_, _, hrun, κ, κ.le_refl, fun _ _ => rfl, ?_, (hr.drawn).only ?_, (Only.drew M w).trans (Only.alloc M _ _), fun _ _ h => .inl h⟩
          · exact ⟨_, _, rfl, by omega, nlApp_some hnl hm, .inr ⟨_, _, rfl, fun j hj => ⟨rfl, [], rfl, fun c x hc => by simp at hc⟩⟩⟩
          · exact Only.alloc _ _ _
      · cases h0
    · cases h0
  · cases h0
end
end Go.Sym

namespace Go.Sym
set_option linter.unusedVariables false
set_option linter.unusedSimpArgs false

theorem splice_at (l : List AV) (p : Nat) (cs : List AV) (h : p + cs.length ≤ l.length) (o : Nat) : (splice l p cs)[o]? = if p ≤ o ∧ o < p + cs.length then cs[o - p]? else l[o]? := by
  have gen : (l.take p ++ cs ++ l.drop (p + cs.length))[o]? = if p ≤ o ∧ o < p + cs.length then cs[o - p]? else l[o]? := by
    have hp : (l.take p).length = p := by simp; omega
    rw [List.getElem?_append, List.getElem?_append]
    simp only [List.length_append, hp]
    split
    · split
      · rw [if_neg (by omega), List.getElem?_take, if_pos (by assumption)]
      · rw [if_pos (by omega)]
    · rw [if_neg (by omega), List.getElem?_drop]
      congr 1; omega
  unfold splice
  split
  · rename_i a
    rw [List.getElem?_set]
    simp only [List.length_cons, List.length_nil] at h ⊢
    split
    · rename_i he
      subst he
      rw [if_pos (by omega), if_pos (by omega)]
      simp
    · rw [if_neg (by omega)]
  · exact gen
theorem splice_len (l : List AV) (p : Nat) (cs : List AV) (h : p + cs.length ≤ l.length) : (splice l p cs).length = l.length := by
  unfold splice
  split
  · simp
  · simp; omega

section
variable {P : Program} {κ : Ker} {w : World} {M : Nat → Prop} {h : H}

structure WriteR (b c : Con) (p : Nat) (cs : List AV) : Prop where
  ex : ∀ j, j < cs.length → ∃ a, b.at (p + j) = some a
  len : c.len = b.len
  inn : ∀ (j : Nat) a, j < cs.length → c.at (p + j) = some a → cs[j]? = some a
  out : ∀ o a, (o < p ∨ p + cs.length ≤ o) → c.at o = some a → b.at o = some a

theorem write_at {b c : Con} {x sz k : Nat} {cs : List AV} {ob : List Prop} (hw : b.write x sz k cs = some (ob, c)) (ho : obsT ob) : WriteR b c (x * sz + k) cs := by
  unfold Con.write at hw
  split at hw
  · rename_i l
    split at hw
    · rename_i hl
      simp only [Option.some.injEq, Prod.mk.injEq] at hw
      obtain ⟨rfl, rfl⟩ := hw
      refine ⟨?_, splice_len _ _ _ hl, ?_, ?_⟩
      · intro j hj
        exact ⟨_, List.getElem?_eq_getElem (by omega : x * sz + k + j < l.length)⟩
      · intro j a hj hat
        simp only [Con.at] at hat
        rw [splice_at _ _ _ hl, if_pos (by omega), Nat.add_sub_cancel_left] at hat
        exact hat
      · intro o a hoo hat
        simp only [Con.at] at hat ⊢
        rw [splice_at _ _ _ hl, if_neg (by omega)] at hat
        exact hat
    · cases hw
  · rename_i l
    split at hw
    · rename_i v
      simp only [Option.some.injEq, Prod.mk.injEq] at hw
      obtain ⟨rfl, rfl⟩ := hw
      have hlt := obsT_one.1 ho
      simp only [Nat.mul_one, Nat.add_zero]
      refine ⟨?_, by simp [Con.len], ?_, ?_⟩
      · intro j hj
        have : j = 0 := by simpa using hj
        subst this
        exact ⟨.u8 l[x], by simp [Con.at, hlt]⟩
      · intro j a hj hat
        have : j = 0 := by simpa using hj
        subst this
        simp [Con.at, hlt] at hat
        simp [hat]
      · intro o a hoo hat
        simp only [List.length_cons, List.length_nil] at hoo
        simp only [Con.at] at hat ⊢
        rw [List.getElem?_set_ne (by omega)] at hat
        exact hat
    · simp only [Option.map_eq_some_iff] at hw
      obtain ⟨q, hq, hw⟩ := hw
      have hcs := rdU8_eq hq
      have hlen : cs.length = q.length := by rw [hcs]; simp
      generalize x * sz + k = p at *
      split at hw
      · simp only [Prod.mk.injEq] at hw
        obtain ⟨rfl, rfl⟩ := hw
        have hl := obsT_one.1 ho
        refine ⟨fun j hj => ?_, by simp [Con.len, hl], fun j a hj hat => ?_, fun o a hoo hat => ?_⟩
        · have : j < l.length := by omega
          exact ⟨.u8 l[j], by simp [Con.at, this]⟩
        · simp only [Con.at, Nat.zero_add] at hat
          rw [hcs, List.getElem?_map]; exact hat
        · have := Con.at_lt hat
          simp [Con.len] at this
          omega
      · simp only [Prod.mk.injEq] at hw
        obtain ⟨rfl, rfl⟩ := hw
        have hl := obsT_one.1 ho
        have hat : ∀ o, (l.take p ++ (q ++ l.drop (p + q.length)))[o]? = if p ≤ o ∧ o < p + q.length then q[o - p]? else l[o]? := by
          intro o
          have hp : (l.take p).length = p := by simp; omega
          rw [List.getElem?_append, hp]
          split
          · rw [if_neg (by omega), List.getElem?_take, if_pos (by assumption)]
          · rw [List.getElem?_append]
            split
            · rw [if_pos (by omega)]
            · rw [if_neg (by omega), List.getElem?_drop]
              congr 1; omega
        refine ⟨fun j hj => ?_, by simp [Con.len]; omega, fun j a hj h2 => ?_, fun o a hoo h2 => ?_⟩
        · have : p + j < l.length := by omega
          exact ⟨.u8 l[p + j], by simp [Con.at, this]⟩
        · simp only [Con.at] at h2
          rw [hat, if_pos (by omega), Nat.add_sub_cancel_left] at h2
          rw [hcs, List.getElem?_map]; exact h2
        · simp only [Con.at] at h2 ⊢
          rw [hat, if_neg (by omega)] at h2
          exact h2
  · rename_i sz' n g
    split at hw
    · rename_i hc
      obtain ⟨rfl, hck, hcl⟩ := hc
      simp only [Option.some.injEq, Prod.mk.injEq] at hw
      obtain ⟨rfl, rfl⟩ := hw
      have hlt := obsT_one.1 ho
      have hdm : ∀ o, o / sz = x → o = x * sz + o % sz := by
        intro o he
        rw [← he]; exact (Nat.div_add_mod' o sz).symm
      refine ⟨?_, rfl, ?_, ?_⟩
      · intro j hj
        exact ⟨_, row_at hlt (by omega) (List.getElem?_eq_getElem (by omega : k + j < (g x).length))⟩
      · intro j a hj hat
        have hpos : 0 < sz := by omega
        have h1 : x * sz + k + j = sz * x + (k + j) := by rw [Nat.mul_comm]; omega
        have hd : (x * sz + k + j) / sz = x := by rw [h1, Nat.mul_add_div hpos, Nat.div_eq_of_lt (by omega)]; rfl
        have hm : (x * sz + k + j) % sz = k + j := by rw [h1, Nat.mul_add_mod, Nat.mod_eq_of_lt (by omega)]
        simp only [Con.at] at hat
        split at hat
        · rw [hd, hm] at hat
          simp only [beq_self_eq_true, cond_true] at hat
          rw [splice_at _ _ _ hcl, if_pos (by omega), Nat.add_sub_cancel_left] at hat
          exact hat
        · cases hat
      · intro o a hoo hat
        simp only [Con.at] at hat ⊢
        split at hat
        · rename_i hon
          rw [if_pos hon]
          by_cases he : o / sz = x
          · have := hdm o he
            rw [he] at hat ⊢
            simp only [beq_self_eq_true, cond_true] at hat
            rw [splice_at _ _ _ hcl, if_neg (by omega)] at hat
            exact hat
          · have hb : (o / sz == x) = false := by simpa using he
            rw [hb] at hat
            exact hat
        · cases hat
    · split at hw
      · rename_i h1
        obtain ⟨rfl, h0⟩ := h1
        simp only [Option.some.injEq, Prod.mk.injEq] at hw
        obtain ⟨rfl, rfl⟩ := hw
        obtain ⟨hl, hg⟩ := obsT_cons.1 ho
        have hg := obsT_one.1 hg
        rw [h0]
        refine ⟨fun j hj => ?_, by simp [Con.len], fun j a hj hat => ?_, fun o a hoo hat => ?_⟩
        · have h1 := hg j (by omega)
          refine ⟨(g j)[0]'(by omega), ?_⟩
          simp only [Con.at, Nat.zero_add, Nat.mul_one, Nat.div_one, Nat.mod_one]
          rw [if_pos (by omega)]
          simp
        · simp only [Con.at, Nat.zero_add, Nat.mul_one, Nat.div_one, Nat.mod_one] at hat
          rw [if_pos (by omega)] at hat
          have : a = cs[j] := by simpa [List.getD, hj, eq_comm] using hat
          rw [this]
          simp
        · have := Con.at_lt hat
          simp [Con.len] at this
          omega
      · cases hw

theorem HRel.store (r : HRel M w κ h) {i : Nat} {b : ABlk} {B O x sz k : Nat} {c : Con} {cs : List AV} {vs : List Value} {ob : List Prop} (hi : h i = some b) (hw : b.wr = true) (hρ : κ.ρ i = some (B, O))
    (hc : b.con.write x sz k cs = some (ob, c)) (ho : obsT ob) (hne : cs ≠ []) (hv : VRels κ cs vs) (h1 : ∀ v ∈ vs, v.oneCell' = true) :
    ∃ w', (storeCells ⟨B, O + (x * sz + k), none⟩ vs).run P w = .ok () w' ∧ HRel M w' κ (upd h i (some ⟨c, true, b.own⟩)) ∧ Only M w w' := by
  have hr := write_at hc ho
  have hlen := hv.length
  have hlive : LiveB κ i b := by
    cases cs with
    | nil => exact absurd rfl hne
    | cons a cs =>
      obtain ⟨a', ha'⟩ := hr.ex 0 (by simp)
      exact .inl ⟨_, _, ha'⟩
  have hex : ∀ j, j < vs.length → (∃ x', w.cell? ⟨B, O + (x * sz + k) + j, none⟩ = some x') ∧ w.frozen? ⟨B, O + (x * sz + k) + j, none⟩ = false := by
    intro j hj
    obtain ⟨a, ha⟩ := hr.ex j (by omega)
    obtain ⟨⟨y, hy, _⟩, hf⟩ := r.cells hi hρ ha
    rw [← Nat.add_assoc] at hy hf
    exact ⟨⟨y, hy⟩, hf hw⟩
  have hset := r.sets (c := c) (vs := vs) (p := x * sz + k) hi hw hρ hlive (fun ho => by rw [hr.len]; exact (r.own i b B O hi ho hρ).2.1) hex
    (fun j a hj hat => hv.get (hr.inn j a (by omega) hat))
    (fun o a hoo hat => hr.out o a (by omega) hat)
  refine ⟨_, ?_, hset⟩
  have := run_sets (P := P) B vs w (O + (x * sz + k)) 0 (fun j hj => by simpa using hex j hj) h1
  simpa using this

theorem bytesLoop : ∀ (l : List (BitVec 8)) (s : ByteArray),
    (forIn (l.map fun b => Value.int .u8 (b.toNat : Int)) s (fun c s => (do
      match c with
      | .int .u8 n => pure (ForInStep.yield (s.push (UInt8.ofNat n.toNat)))
      | _ => do
        stuck "bytesToString: byte expected"
        pure (ForInStep.yield s) : Sem (ForInStep ByteArray)))).run P w = .ok ⟨s.data ++ (l.map UInt8.ofBitVec).toArray⟩ w := by
  intro l
  induction l with
  | nil => intro s; simp
  | cons b l ih =>
    intro s
    simp only [List.map_cons, List.forIn_cons, Sem.run_bind, Sem.run_pure, Result.andThen_ok]
    rw [ih]
    have e : UInt8.ofNat ((b.toNat : Int)).toNat = UInt8.ofBitVec b := by
      rw [Int.toNat_natCast]
      exact UInt8.toBitVec_inj.1 (by simp)
    rw [e]
    congr 2
    apply Array.ext'
    simp [ByteArray.push]

theorem run_fromBytes {v : Value} {l : List (BitVec 8)} (hr : Reads w v 1 l.length (u8s l)) (hs : ∃ a n k, v = .slice a n k) : (Conv.bytesToString v).run P w = .ok (.string (bytesStr l)) w := by
  obtain ⟨a, n, k, rfl⟩ := hs
  obtain ⟨hlen, ⟨s, h1, _⟩ | ⟨a', k', h1, hloc⟩⟩ := hr
  · cases h1
  · simp only [Value.slice.injEq] at h1
    obtain ⟨rfl, rfl, rfl⟩ := h1
    rcases hloc with h0 | ⟨B, O, rfl, hlie⟩
    · have : l = [] := List.eq_nil_of_length_eq_zero h0
      subst this
      cases a with
      | none => simp [Conv.bytesToString, bytesStr]; rfl
      | some a => simp [Conv.bytesToString, bytesStr, loadCells, loadCellsFrom]; rfl
    · have hlc := run_loadCells_of (P := P) (w := w) (B := B) (O := O) (vs := u8s l) (fun j y hy => by rw [Addr.add_at]; exact hlie j y hy)
      have hl2 : (u8s l).length = l.length := by simp [u8s]
      rw [hl2] at hlc
      have hb := bytesLoop (P := P) (w := w) l ByteArray.empty
      simp only [Conv.bytesToString, Sem.run_bind, hlc, Result.andThen_ok]
      rw [← Array.forIn_toList]
      simp only [u8s, List.toList_toArray]
      refine (congrArg (fun r => Result.andThen r (fun a w' => Sem.run P (pure (Value.string a)) w')) hb).trans ?_
      simp only [Result.andThen_ok, Sem.run_pure, bytesStr]
      congr 2
      simp
end
end Go.Sym

namespace Go.Sym
set_option linter.unusedVariables false
set_option linter.unusedSimpArgs false
section
variable {P : Program} {κ : Ker} {w : World} {M : Nat → Prop} {h : H}

theorem run_chooseCap (need old : Nat) (e : TypeId) : (choose (.appendCap need old e)).run P w = .ok (need + w.tape w.drawn (.appendCap need old e) % (2 ^ 63 - need)) w.drew := rfl

theorem alloc_freeze (w : World) (cs : Array Value) (e : TypeId) (n : Nat) : (w.alloc (.cells cs e)).freeze ⟨w.heap.size, n, none⟩ 1 = w.alloc (.cells cs e (n, n + 1)) := by
  unfold World.freeze World.alloc
  rw [if_neg (by omega)]
  congr 1
  apply Array.ext
  · simp
  · intro k h1 h2
    simp only [Array.getElem_modify, Array.getElem_push]
    simp only [Array.size_modify, Array.size_push] at h1
    by_cases hk : k = w.heap.size
    · subst hk
      simp
    · have hlt : k < w.heap.size := by omega
      simp [hlt, Ne.symm hk]


theorem shape_new (cs : Array Value) (e : TypeId) : (w.alloc (.cells cs e)).shape? w.heap.size = some (e, cs.size) := by
  have hn := heap_alloc_new w (.cells cs e)
  simp only [World.shape?, hn]


theorem run_toBytes (e : TypeId) (s : ByteArray) : ∃ c w', (Conv.stringToBytes e s).run P w = .ok (.slice (some ⟨w.heap.size, 0, none⟩) s.size (s.size + c)) w' ∧
    w' = w.drew.alloc (.cells ((s.data.map fun (b : UInt8) => Value.int .u8 (b.toNat : Int)) ++ Array.replicate c (Value.int .u8 0)) e (s.size + c, s.size + c + 1)) := by
  refine ⟨w.tape w.drawn (.appendCap s.size 0 e) % (2 ^ 63 - s.size), _, ?_, rfl⟩
  generalize hc : w.tape w.drawn (.appendCap s.size 0 e) % (2 ^ 63 - s.size) = c
  simp only [Conv.stringToBytes, Sem.run_bind, run_chooseCap, hc, Result.andThen_ok, run_newRow, Nat.add_sub_cancel_left, markStringish, run_shape]
  have hsh := shape_new (w := w.drew) ((s.data.map fun b => Value.int .u8 (b.toNat : Int)) ++ Array.replicate c (Value.int .u8 0)) e
  rw [World.size_drew] at hsh
  have hsz : ((s.data.map fun b => Value.int .u8 (b.toNat : Int)) ++ Array.replicate c (Value.int .u8 0)).size = s.size + c := by
    rw [Array.size_append, Array.size_map, Array.size_replicate]; rfl
  rw [hsz] at hsh
  simp only [World.size_drew, hsh, Result.andThen_ok, run_freeze, Sem.run_pure]
  have := alloc_freeze w.drew ((s.data.map fun b => Value.int .u8 (b.toNat : Int)) ++ Array.replicate c (Value.int .u8 0)) e (s.size + c)
  rw [World.size_drew] at this
  rw [this]


theorem run_buildSlice {t e : TypeId} {ie : TypeInfo} {len : Nat} {parts : Array (Nat × Value)} {zv : Value} {cells : Array Value} (ht : P.underlying t = some (.slice e)) (hi : P.info? e = some ie) (hz : ie.zero = some zv)
    (hle : len * ie.size ≤ 16777216) (hf : Instr.fill (fun i => some (i * ie.size, ie.size)) ((Array.range (len * ie.size)).map (zv.cells[· % zv.cells.size]!)) parts.toList = some cells) :
    (Instr.buildSlice t len parts).run P w = .ok (.slice (some ⟨w.heap.size, 0, none⟩) len len) (w.alloc (.cells cells e)) := by
  have h0 : len * ie.size = 0 → Instr.fill (fun i => some (i * ie.size, ie.size)) ((Array.range (len * ie.size)).map ((#[] : Array Value)[· % (#[] : Array Value).size]!)) parts.toList = some cells := by
    intro h; rw [h] at hf ⊢; rw [Array.range_zero', Array.map_empty] at hf ⊢; exact hf
  simp only [Instr.buildSlice, Sem.run_bind, run_underlying ht, Result.andThen_ok, run_sizeOf hi]
  rw [if_neg (by show ¬ (len * ie.size > 2 ^ 24); omega)]
  by_cases hz0 : len * ie.size = 0
  · rw [if_pos hz0]
    simp only [Sem.run_pure, Result.andThen_ok, h0 hz0, Sem.run_bind, run_newRow]
  · rw [if_neg hz0]
    simp only [Sem.run_bind, zeroValue, typeInfo, run_program, Result.andThen_ok, hi, Sem.run_pure, hz, hf, run_newRow]


theorem run_makeSlice {t e : TypeId} {ie : TypeInfo} {l c : Nat} {k k' : IntKind} {zv : Value} (ht : P.underlying t = some (.slice e)) (hi : P.info? e = some ie) (hz : ie.zero = some zv)
    (h1 : l ≤ c) (h2 : ie.bytes * c ≤ 281474976710656) (h3 : c ≤ 9223372036854775807) :
    (Instr.makeSlice t (.int k (l : Int)) (.int k' (c : Int))).run P w = .ok (.slice (some ⟨w.heap.size, 0, none⟩) l c) (w.alloc (.cells ((Array.range (c * ie.size)).map (zv.cells[· % zv.cells.size]!)) e)) := by
  have wr : ∀ n : Nat, n ≤ 9223372036854775807 → IntKind.i64.wrap (n : Int) = n := by
    intro n hn
    simp only [IntKind.wrap, IntKind.bits, IntKind.signed]
    have : (n : Int) % 2 ^ 64 = n := Int.emod_eq_of_lt (by omega) (by omega)
    simp only [this]
    split
    · simp_all; omega
    · rfl
  have hb : ¬ ((ie.bytes : Int) * (c : Int) > 2 ^ 48) := by
    have : ((ie.bytes * c : Nat) : Int) ≤ 281474976710656 := by generalize ie.bytes * c = x at h2 ⊢; omega
    rw [Int.natCast_mul] at this
    omega
  have hcond : ((decide ((c : Int) < 0) || decide ((ie.bytes : Int) * (c : Int) > 2 ^ 48)) || decide ((l : Int) < 0) || decide ((l : Int) > (c : Int))) = false := by
    rw [decide_eq_false (show ¬ ((c : Int) < 0) by omega), decide_eq_false hb, decide_eq_false (show ¬ ((l : Int) < 0) by omega), decide_eq_false (show ¬ ((l : Int) > (c : Int)) by omega)]
    rfl
  simp only [Instr.makeSlice, Sem.run_bind, run_underlying ht, Result.andThen_ok, asInt, asIntOf, Sem.run_pure, typeInfo, run_program, hi, wr l (by omega), wr c h3, hcond, Bool.false_eq_true, if_false, run_askRoom, Int.toNat_natCast, run_sizeOf hi]
  by_cases hz0 : c * ie.size = 0
  · rw [if_pos hz0]
    simp only [Sem.run_pure, Result.andThen_ok, Sem.run_bind, run_newRow]
    rw [hz0, Array.range_zero', Array.map_empty, Array.map_empty]
  · rw [if_neg hz0]
    simp only [Sem.run_bind, zeroValue, typeInfo, run_program, Result.andThen_ok, hi, Sem.run_pure, hz, run_newRow]


theorem afill_len (place : Nat → Option (Nat × Nat)) : ∀ (parts : List (Nat × AV)) (as r : List AV), afill place as parts = some r → r.length = as.length := by
  intro parts
  induction parts with
  | nil => intro as r h; simp only [afill, Option.some.injEq] at h; rw [h]
  | cons p parts ih =>
    intro as r h
    obtain ⟨i, v⟩ := p
    simp only [afill] at h
    split at h
    · split at h
      · simp at h
      · rename_i hc
        have := ih _ _ h
        simp only [List.length_append, List.length_take, List.length_drop] at this
        omega
    · simp at h


/-- The mark behind a row. -/
theorem HRel.mark {M : Nat → Prop} {w : World} {κ : Ker} {h : H} (r : HRel M w κ h) {B : Nat} (hM : M B) {c : Array Value} {t : TypeId} {lo hi : Nat} (hm : lo = hi ∨ c.size ≤ lo) (hb : w.heap[B]? = some (.cells c t (lo, hi))) :
    HRel M (w.freeze ⟨B, c.size, none⟩ 1) κ h ∧ Only M w (w.freeze ⟨B, c.size, none⟩ 1) := by
  have hother : ∀ k, k ≠ B → (w.freeze ⟨B, c.size, none⟩ 1).heap[k]? = w.heap[k]? := by
    intro k hk
    unfold World.freeze
    rw [if_neg (by decide)]
    simp only [Array.getElem?_modify]
    rw [if_neg (by simpa using Ne.symm hk)]
  have hsame : ∃ lo2 hi2, (w.freeze ⟨B, c.size, none⟩ 1).heap[B]? = some (.cells c t (lo2, hi2)) ∧ c.size ≤ lo2 := by
    unfold World.freeze
    rw [if_neg (by decide)]
    simp only [Array.getElem?_modify, hb, if_true, Option.map_some]
    by_cases he : lo = hi
    · subst he; exact ⟨c.size, c.size + 1, by simp, Nat.le_refl _⟩
    · have h1 : c.size ≤ lo := by
        rcases hm with h | h
        · exact absurd h he
        · exact h
      exact ⟨min lo c.size, max hi (c.size + 1), by simp [he], by omega⟩
  obtain ⟨lo2, hi2, hs, hle⟩ := hsame
  have hsz : (w.freeze ⟨B, c.size, none⟩ 1).heap.size = w.heap.size := by
    unfold World.freeze
    rw [if_neg (by decide)]
    simp
  have hcell : ∀ a, (w.freeze ⟨B, c.size, none⟩ 1).cell? a = w.cell? a := by
    intro a
    by_cases ha : a.block = B
    · simp only [World.cell?, ha, hs, hb]
    · exact World.cell?_of_block (w := w) (hother a.block ha)
  have hfrz : ∀ B1 O1 off x, w.cell? ⟨B1, O1 + off, none⟩ = some x → w.frozen? ⟨B1, O1 + off, none⟩ = false → (w.freeze ⟨B, c.size, none⟩ 1).frozen? ⟨B1, O1 + off, none⟩ = false := by
    intro B1 O1 off x hx hf
    by_cases he : B1 = B
    · subst he
      have hlt : O1 + off < c.size := by
        simp only [World.cell?, hb] at hx
        simp at hx
        exact (Array.getElem?_eq_some_iff.1 hx).1
      simp only [World.frozen?, hs, Bool.and_eq_false_imp, decide_eq_true_eq, decide_eq_false_iff_not]
      intro k1 k2
      omega
    · rw [World.frozen?_of_block (w := w) (hother _ he)]
      exact hf
  refine ⟨⟨?_, r.sep, ?_, fun a x hx => by rw [hcell]; exact r.mem a x hx⟩, ?_⟩
  · intro i b hi
    obtain ⟨B1, O1, h1, h2, h3⟩ := r.blk i b hi
    refine ⟨B1, O1, h1, fun hw hl => ⟨(h2 hw hl).1, by rw [hsz]; exact (h2 hw hl).2.1, ?_, (h2 hw hl).2.2.2⟩, ?_⟩
    · by_cases he : B1 = B
      · subst he
        exact ⟨c, t, lo2, hi2, hs, .inr hle⟩
      · exact (h2 hw hl).2.2.1.same (hother _ he)
    · intro off a ha
      obtain ⟨⟨x, hx, hv⟩, hf⟩ := h3 off a ha
      exact ⟨⟨x, by rw [hcell]; exact hx, hv⟩, fun hw => hfrz _ _ _ _ hx (hf hw)⟩
  · intro i b B1 O1 hi ho h1
    obtain ⟨hw, hl, hc⟩ := r.own i b B1 O1 hi ho h1
    refine ⟨hw, hl, ?_⟩
    intro off hoff
    obtain ⟨⟨x, hx⟩, hf⟩ := hc off hoff
    exact ⟨⟨x, by rw [hcell]; exact hx⟩, hfrz _ _ _ _ hx hf⟩
  · refine ⟨?_, ?_, ?_, by rw [hsz]; exact Nat.le_refl _, fun k hk hn => hother k (fun e => hn (e ▸ hM))⟩
    all_goals (unfold World.freeze; rw [if_neg (by decide)])


end
end Go.Sym

namespace Go.Sym
set_option linter.unusedVariables false
set_option linter.unusedSimpArgs false

/-- What the package-level variables hold. -/
abbrev Gl := Nat → List Value
def GW (gl : Gl) (w : World) : Prop := ∀ g i v, (gl g)[i]? = some v → w.cell? ⟨g, i, none⟩ = some v
def MOK (gl : Gl) (M : Nat → Prop) : Prop := ∀ g, gl g ≠ [] → ¬ M g
theorem GW.only {gl : Gl} {M : Nat → Prop} {w w' : World} (h : GW gl w) (hM : MOK gl M) (k : Only M w w') : GW gl w' := by
  intro g i v hv
  have hc := h g i v hv
  have hb := k.block g (cell_block_lt hc) (hM g (by intro hn; rw [hn] at hv; simp at hv))
  rw [World.cell?_of_block (w := w) (a := ⟨g, i, none⟩) hb]
  exact hc
theorem GW.new {gl : Gl} {w : World} (h : GW gl w) : MOK gl (fun B => w.heap.size ≤ B) := by
  intro g hg hle
  cases hgl : gl g with
  | nil => exact hg hgl
  | cons v vs =>
    have := cell_block_lt (h g 0 v (by simp [hgl]))
    simp at this
    omega

/-- A function keeps its contract. -/
def COK (P : Program) (gl : Gl) (f : FuncId) (F : Ctr) : Prop :=
  (∀ args w, (callFunc f args).run P w = .ok (.enter f args) w) ∧
  ∀ M w κ hs h as (vals : Array Value) fr r, GW gl w → MOK gl M → HRel M w κ h → hs.le h → (∀ B, w.heap.size ≤ B → M B) → (∀ i, fr ≤ i → i < fr + STR → κ.ρ i = none) → (∀ g, κ.ρ (GB + g) = some (g, 0)) → fr + STR ≤ GB → VRels κ as vals.toList →
    (F hs as fr).sel = some r → obsT r.ob → Calls P f vals w fun e w' => ∃ x, e = .returned x ∧ Good M w κ fr r.v (h.ups r.up) x w'
def COKs (P : Program) (gl : Gl) (Γ : Ctx) : Prop := ∀ f F, Γ.fn f = some F → COK P gl f F

section
variable {P : Program} {κ : Ker} {w : World} {M : Nat → Prop} {h : H} {Γ : Ctx} {gl : Gl}

theorem Good.same {fr : Nat} {v : AV} {x : Value} (hr : HRel M w κ h) (hv : VRel κ v x) : Good M w κ fr v h x w :=
  ⟨κ, κ.le_refl, fun _ _ => rfl, hv, hr, Only.refl _ _, fun _ _ h => .inl h⟩
theorem Good.soft {fr f ow : Nat} {c : Con} {v : AV} {x : Value} {w' : World} (g : Good M w κ fr v (upd h f (some ⟨c, true, ow⟩)) x w') : Good M w κ fr v (upd h f (some ⟨c, false, 0⟩)) x w' := by
  obtain ⟨κ', k1, k2, k3, k4, k5⟩ := g
  have k := k4.wk (i := f) (b := ⟨c, true, ow⟩) (b' := ⟨c, false, 0⟩) (by simp [upd]) (fun o a h => h) rfl rfl
  have e : upd (upd h f (some ⟨c, true, ow⟩)) f (some ⟨c, false, 0⟩) = upd h f (some ⟨c, false, 0⟩) := by
    funext i
    unfold upd
    split <;> rfl
  exact ⟨κ', k1, k2, k3, e ▸ k, k5⟩
theorem Good.kept {fr : Nat} {v : AV} {x : Value} {h' : H} {w' : World} (hv : VRel κ v x) (hr : HRel M w' κ h') (ho : Only M w w') : Good M w κ fr v h' x w' :=
  ⟨κ, κ.le_refl, fun _ _ => rfl, hv, hr, ho, fun _ _ h => .inl h⟩

theorem HRel.over (r : HRel M w κ h) {i : Nat} {b : ABlk} {B O p : Nat} {c : Con} {cs : List AV} {vs : List Value} (hi : h i = some b) (hw : b.wr = true) (hρ : κ.ρ i = some (B, O))
    (hr : WriteR b.con c p cs) (hv : VRels κ cs vs) (h1 : ∀ v ∈ vs, v.oneCell' = true) :
    ∃ w', (storeCells ⟨B, O + p, none⟩ vs).run P w = .ok () w' ∧ HRel M w' κ (upd h i (some ⟨c, true, b.own⟩)) ∧ Only M w w' := by
  have hlen := hv.length
  cases cs with
  | nil =>
    simp only [VRels] at hv
    subst hv
    refine ⟨w, rfl, ?_, Only.refl _ _⟩
    have := r.less hi (c := c) (fun o a hoa => hr.out o a (by simp; omega) hoa) (fun ho => by rw [hr.len]; exact (r.own i b B O hi ho hρ).2.1)
    rwa [hw] at this
  | cons a0 cs =>
    have hlive : LiveB κ i b := by
      obtain ⟨a', ha'⟩ := hr.ex 0 (by simp)
      exact .inl ⟨_, _, ha'⟩
    have hex : ∀ j, j < vs.length → (∃ x', w.cell? ⟨B, O + p + j, none⟩ = some x') ∧ w.frozen? ⟨B, O + p + j, none⟩ = false := by
      intro j hj
      obtain ⟨a, ha⟩ := hr.ex j (by omega)
      obtain ⟨⟨y, hy, _⟩, hf⟩ := r.cells hi hρ ha
      rw [← Nat.add_assoc] at hy hf
      exact ⟨⟨y, hy⟩, hf hw⟩
    have hset := r.sets (c := c) (vs := vs) (p := p) hi hw hρ hlive (fun ho => by rw [hr.len]; exact (r.own i b B O hi ho hρ).2.1) hex
      (fun j a hj hat => hv.get (hr.inn j a (by omega) hat))
      (fun o a hoo hat => hr.out o a (by omega) hat)
    refine ⟨_, ?_, hset⟩
    have := run_sets (P := P) B vs w (O + p) 0 (fun j hj => by simpa using hex j hj) h1
    simpa using this

theorem copyCells_at {s : List (BitVec 8)} : ∀ (l : List AV) (j : Nat) (q : List AV), copyCells s j l = some q → q.length = l.length ∧ ∀ (i : Nat) a, q[i]? = some a → if j + i < s.length then a = .u8 (s.getD (j + i) 0) else l[i]? = some a
  | [], j, q, h => by
    simp [copyCells] at h
    subst h
    exact ⟨rfl, fun i a hi => by simp at hi⟩
  | x :: l, j, q, h => by
    cases x <;> simp only [copyCells, reduceCtorEq, Option.map_eq_some_iff] at h
    case u8 b =>
      obtain ⟨r, hr, rfl⟩ := h
      obtain ⟨h1, h2⟩ := copyCells_at l (j + 1) r hr
      refine ⟨by simp [h1], ?_⟩
      intro i a hi
      cases i with
      | zero =>
        simp only [List.getElem?_cons_zero, Option.some.injEq] at hi
        subst hi
        simp only [Nat.add_zero]
        split
        · rfl
        · simp
      | succ i =>
        have := h2 i a (by simpa using hi)
        rw [show j + 1 + i = j + (i + 1) by omega] at this
        simpa using this

theorem copy_write {s : List (BitVec 8)} {b c : Con} {o n : Nat} (hb : (∃ l, b = .bytes l ∧ o + n ≤ l.length ∧ c = .bytes (l.take o ++ (s.take n ++ l.drop (o + min s.length n)))) ∨
      (∃ l q, b = .cells l ∧ o + n ≤ l.length ∧ copyCells s 0 ((l.drop o).take n) = some q ∧ c = .cells (l.take o ++ q ++ l.drop (o + n)))) :
    WriteR b c o ((s.take n).map AV.u8) := by
  have hm : ((s.take n).map AV.u8).length = min s.length n := by simp [Nat.min_comm]
  rcases hb with ⟨l, rfl, hle, rfl⟩ | ⟨l, q, rfl, hle, hq, rfl⟩
  · have hget : ∀ k, (l.take o ++ (s.take n ++ l.drop (o + min s.length n)))[k]? = if k < o then l[k]? else if k < o + min s.length n then s[k - o]? else l[k]? := by
      intro k
      have h1 : (l.take o).length = o := by simp; omega
      have h2 : (s.take n).length = min s.length n := by simp [Nat.min_comm]
      rw [List.getElem?_append, List.getElem?_append, h1, h2]
      split
      · rename_i hk; rw [List.getElem?_take, if_pos hk]
      · split
        · rw [if_pos (by omega), List.getElem?_take, if_pos (by omega)]
        · rw [if_neg (by omega), List.getElem?_drop]
          congr 1; omega
    refine ⟨?_, ?_, ?_, ?_⟩
    · intro j hj
      rw [hm] at hj
      exact ⟨.u8 l[o + j], by simp [Con.at, show o + j < l.length by omega]⟩
    · simp [Con.len]; omega
    · intro j a hj hat
      rw [hm] at hj
      simp only [Con.at] at hat
      rw [hget, if_neg (by omega), if_pos (by omega), Nat.add_sub_cancel_left] at hat
      rw [List.getElem?_map, List.getElem?_take, if_pos (by omega)]
      exact hat
    · intro k a hk hat
      rw [hm] at hk
      simp only [Con.at] at hat ⊢
      rw [hget] at hat
      split at hat
      · exact hat
      · rw [if_neg (by omega)] at hat; exact hat
  · obtain ⟨hql, hqa⟩ := copyCells_at _ _ _ hq
    have hqn : q.length = n := by rw [hql]; simp; omega
    have hget : ∀ k, (l.take o ++ q ++ l.drop (o + n))[k]? = if k < o then l[k]? else if k < o + n then q[k - o]? else l[k]? := by
      intro k
      have h1 : (l.take o).length = o := by simp; omega
      rw [List.append_assoc, List.getElem?_append, List.getElem?_append, h1, hqn]
      split
      · rename_i hk; rw [List.getElem?_take, if_pos hk]
      · split
        · rw [if_pos (by omega)]
        · rw [if_neg (by omega), List.getElem?_drop]
          congr 1; omega
    refine ⟨?_, ?_, ?_, ?_⟩
    · intro j hj
      rw [hm] at hj
      exact ⟨l[o + j], by simp [Con.at, show o + j < l.length by omega]⟩
    · simp [Con.len, hqn]; omega
    · intro j a hj hat
      rw [hm] at hj
      simp only [Con.at] at hat
      rw [hget, if_neg (by omega), if_pos (by omega), Nat.add_sub_cancel_left] at hat
      have := hqa j a hat
      rw [Nat.zero_add, if_pos (by omega)] at this
      subst this
      rw [List.getElem?_map, List.getElem?_take, if_pos (by omega)]
      simp [List.getD, show j < s.length by omega]
    · intro k a hk hat
      rw [hm] at hk
      simp only [Con.at] at hat ⊢
      rw [hget] at hat
      split at hat
      · exact hat
      · split at hat
        · have := hqa (k - o) a hat
          rw [Nat.zero_add, if_neg (by omega), List.getElem?_take, if_pos (by omega), List.getElem?_drop] at this
          rwa [show o + (k - o) = k by omega] at this
        · exact hat

theorem cutN_at {b c : Con} {sz n : Nat} {ob : List Prop} (h : b.cutN sz n = some (ob, c)) (ho : obsT ob) : (∀ o a, c.at o = some a → b.at o = some a) ∧ c.len ≤ b.len := by
  unfold Con.cutN at h
  split at h
  · split at h
    · simp only [Option.some.injEq, Prod.mk.injEq] at h
      obtain ⟨rfl, rfl⟩ := h
      refine ⟨fun o a ha => ?_, by simp [Con.len]; omega⟩
      simp only [Con.at, List.getElem?_take] at ha ⊢
      split at ha
      · exact ha
      · simp at ha
    · cases h
  · rename_i sz' n' g
    split at h
    · rename_i hs
      subst hs
      simp only [Option.some.injEq, Prod.mk.injEq] at h
      obtain ⟨rfl, rfl⟩ := h
      have hn := obsT_one.1 ho
      have hm : n * sz ≤ n' * sz := Nat.mul_le_mul_right _ hn
      refine ⟨fun o a ha => ?_, hm⟩
      simp only [Con.at] at ha ⊢
      split at ha
      · rw [if_pos (by omega)]; exact ha
      · cases ha
    · cases h
  · split at h
    · simp only [Option.some.injEq, Prod.mk.injEq] at h
      obtain ⟨rfl, rfl⟩ := h
      refine ⟨fun o a ha => ?_, by simp [Con.len]; omega⟩
      simp only [Con.at, List.getElem?_take] at ha ⊢
      split at ha
      · exact ha
      · cases ha
    · cases h
theorem OpPost.weak8 {P : Program} {w : World} {A B : Value → World → Prop} (h : ∀ x w', A x w' → B x w') {r : Result Next} (hr : OpPost P w A r) : OpPost P w B r := by
  cases r with
  | ok n w' =>
    cases n with
    | value x => exact h _ _ hr
    | skip => exact h _ _ hr
    | enter f args => exact ⟨hr.1, hr.2.mono fun e w'' ⟨x, h1, h2⟩ => ⟨x, h1, h _ _ h2⟩⟩
    | _ => exact hr
  | halt x w' => exact hr
theorem dropC_at {b c : Con} {sz x : Nat} {ob : List Prop} (hsz : 0 < sz) (hc : b.dropC sz x = some (ob, c)) (ho : obsT ob) : (∀ o a, c.at o = some a → b.at (x * sz + o) = some a) ∧ c.len ≤ b.len - x * sz := by
  unfold Con.dropC at hc
  split at hc
  · split at hc
    · rename_i l hs
      subst hs
      simp only [Option.some.injEq, Prod.mk.injEq] at hc
      obtain ⟨rfl, rfl⟩ := hc
      refine ⟨fun o a ha => ?_, by simp [Con.len]⟩
      simp only [Con.at, List.getElem?_drop, Nat.mul_one] at ha ⊢
      exact ha
    · cases hc
  · split at hc
    · rename_i sz' n' g hs
      subst hs
      simp only [Option.some.injEq, Prod.mk.injEq] at hc
      obtain ⟨rfl, rfl⟩ := hc
      have hx := obsT_one.1 ho
      refine ⟨fun o a ha => ?_, by simp only [Con.len, minus_eq, Nat.sub_mul]; omega⟩
      simp only [Con.at, minus_eq, plus_eq] at ha ⊢
      split at ha
      · rename_i hlt
        rw [Nat.sub_mul] at hlt
        rw [if_pos (by omega), Nat.mul_comm x sz, Nat.mul_add_div hsz, Nat.mul_add_mod]
        exact ha
      · cases ha
    · cases hc
  · split at hc
    · rename_i l hs
      simp only [Option.some.injEq, Prod.mk.injEq] at hc
      obtain ⟨rfl, rfl⟩ := hc
      refine ⟨fun o a ha => ?_, by simp [Con.len]⟩
      simpa only [Con.at, List.getElem?_drop] using ha
    · cases hc
theorem appendC_sound {o : Oper} {ev : Operand → Value} {as0 : Array Operand} {tys : Array TypeId} {d x : AV} {fr t t2 el : Nat} {dd : TypeDesc} {keep isInt : Bool} {hs : H} {r : R}
    (hop : o.op = .call { callee := .builtin .append, args := as0, argTypes := tys }) (ha : VRels κ [d, x] (as0.toList.map ev))
    (ht1 : tys[0]? = some t) (ht : P.underlying t = some (.slice el)) (ht2 : tys[1]? = some t2) (hd : P.underlying t2 = some dd)
    (hdd : (isInt = false ∧ ((∃ e2, dd = .slice e2) ∨ dd = .string)) ∨ (isInt = true ∧ ∃ k0, dd = .int k0))
    (hr : HRel M w κ h) (hle : hs.le h) (hM : ∀ B, w.heap.size ≤ B → M B) (hf : ∀ i, fr ≤ i → i < fr + STR → κ.ρ i = none)
    (h0 : aappendC P keep el isInt d x fr hs = some r) (hob : obsT r.ob) :
    OpPost P w (fun z w' => Good M w κ fr r.v (h.ups r.up) z w') ((execOp ev o).run P w) := by
  unfold aappendC at h0
  split at h0
  · rename_i i x0 sz n ck nl
    split at h0
    · exact full_sound hop ha ht1 ht ht2 hd hdd hr hle hM (hf fr (Nat.le_refl _) (by unfold STR; omega)) h0 hob
    · exact append_sound hop ha ht1 ht ht2 hd hdd hr hle hM (hf fr (Nat.le_refl _) (by unfold STR; omega)) h0 hob
  · rename_i i x0 sz n nl
    simp only [Option.bind_eq_some_iff, Option.map_eq_some_iff] at h0
    obtain ⟨b, hb, ⟨cob, c⟩, hc, r', h0, rfl⟩ := h0
    obtain ⟨ho1, ho2⟩ := obsT_append.1 hob
    obtain ⟨c1, c2⟩ := cutN_at hc ho1
    have hbh := hle i b hb
    obtain ⟨⟨B, O⟩, hρ⟩ := hr.named hbh
    have hr2 : HRel M w κ (upd h i (some ⟨c, b.wr, b.own⟩)) := hr.less hbh c1 (fun ho => Nat.le_trans c2 (hr.own i b B O hbh ho hρ).2.1)
    have hle2 : (upd hs i (some ⟨c, b.wr, b.own⟩)).le (upd h i (some ⟨c, b.wr, b.own⟩)) := by
      intro j cc hj
      unfold upd at hj ⊢
      split
      · rename_i he; rw [if_pos he] at hj; exact hj
      · rename_i he; rw [if_neg he] at hj; exact hle j cc hj
    have ha2 : VRels κ [.slice i x0 sz n .ow nl, x] (as0.toList.map ev) := by
      obtain ⟨y, ys, e1, e2, e3⟩ := ha
      exact ⟨y, ys, e1, e2, e3⟩
    have key := append_sound hop ha2 ht1 ht ht2 hd hdd hr2 hle2 hM (hf fr (Nat.le_refl _) (by unfold STR; omega)) h0 ho2
    have hup : ∃ q rest, r'.up = (i, q) :: rest := by
      simp only [aappend, Option.bind_eq_some_iff] at h0
      obtain ⟨ie, _, z, _, s, _, h0⟩ := h0
      split at h0
      · split at h0
        · rename_i hh; cases hh
        · rename_i hh; cases hh
        · rename_i hh
          simp only [AV.slice.injEq] at hh
          obtain ⟨rfl, _, rfl, rfl, _, rfl⟩ := hh
          simp only [Option.bind_eq_some_iff] at h0
          obtain ⟨b2, _, h0⟩ := h0
          split at h0
          · simp only [Option.map_eq_some_iff] at h0
            obtain ⟨c3, _, rfl⟩ := h0
            cases keep
            · exact ⟨_, _, rfl⟩
            · exact ⟨_, _, rfl⟩
          · cases h0
        · cases h0
      · cases h0
    obtain ⟨q, rest, hup⟩ := hup
    have e : (upd h i (some ⟨c, b.wr, b.own⟩)).ups r'.up = h.ups r'.up := by
      rw [hup]
      simp only [H.ups]
      rw [upd_upd]
    rw [e] at key
    exact key
  · rename_i i x0 sz n nl
    simp only [Option.bind_eq_some_iff] at h0
    obtain ⟨b, hb, h0⟩ := h0
    split at h0
    · rename_i hown
      obtain ⟨hown, hsz⟩ := hown
      subst hown
      simp only [Option.bind_eq_some_iff, Option.map_eq_some_iff] at h0
      obtain ⟨⟨cob, c⟩, hc, r', h0, rfl⟩ := h0
      obtain ⟨ho1, ho2⟩ := obsT_append.1 hob
      obtain ⟨c1, c2⟩ := dropC_at hsz hc ho1
      have hbh := hle i b hb
      obtain ⟨⟨B, O⟩, hρ⟩ := hr.named hbh
      have hf1 : κ.ρ (fr + 1) = none := hf (fr + 1) (by omega) (by unfold STR; omega)
      have hf0 : κ.ρ fr = none := hf fr (Nat.le_refl _) (by unfold STR; omega)
      have hr2 := hr.shift (x := x0) hbh hρ hf1 hsz c1 c2
      have hle1 : κ.le (κ.put (fr + 1) (B, O + x0 * b.own) (κ.cap i - x0)) := Ker.le_put hf1
      have hle2 : (upd (upd hs i none) (fr + 1) (some ⟨c, b.wr, b.own⟩)).le (upd (upd h i none) (fr + 1) (some ⟨c, b.wr, b.own⟩)) := by
        intro j cc hj
        unfold upd at hj ⊢
        split
        · rename_i he; rw [if_pos he] at hj; exact hj
        · rename_i he
          rw [if_neg he] at hj
          split
          · rename_i he2; rw [if_pos he2] at hj; exact hj
          · rename_i he2; rw [if_neg he2] at hj; exact hle j cc hj
      have ha2 : VRels (κ.put (fr + 1) (B, O + x0 * b.own) (κ.cap i - x0)) [.slice (fr + 1) 0 b.own n .ow nl, x] (as0.toList.map ev) := by
        obtain ⟨y, ys, e1, ⟨ad, k, h1, h2, h3, ⟨h4, h4s⟩, h5⟩, e3⟩ := ha
        refine ⟨y, ys, e1, ⟨ad, k, h1, h2, h3, ⟨rfl, by rw [Ker.put_cap]; omega, by rw [Ker.put_self]; rfl⟩, ?_⟩, VRels.mono hle1 _ _ e3⟩
        rcases h5 with ⟨B1, O1, k1, k2⟩ | h0
        · rw [hρ] at k1
          simp only [Option.some.injEq, Prod.mk.injEq] at k1
          obtain ⟨rfl, rfl⟩ := k1
          exact .inl ⟨B, _, Ker.put_self _ _ _ _, by rw [k2, Nat.zero_mul, Nat.add_zero]⟩
        · exact .inr h0
      have key := append_sound hop ha2 ht1 ht ht2 hd hdd hr2 hle2 hM (by rw [Ker.put_other κ _ _ (by omega)]; exact hf0) h0 ho2
      refine OpPost.weak8 (r := _) (hr := key) (fun z w' hg => ?_)
      obtain ⟨κ', g1, g2, g3, g4, g5, g6⟩ := hg
      refine ⟨κ', Ker.le_trans hle1 g1, fun i hi => ?_, g3, by simpa only [H.ups] using g4, g5, g6⟩
      rw [g2 i hi, Ker.put_other κ _ _ (by unfold STR at hi; omega)]
    · cases h0
  · exact append_sound hop ha ht1 ht ht2 hd hdd hr hle hM (hf fr (Nat.le_refl _) (by unfold STR; omega)) h0 hob
theorem appendD_sound {o : Oper} {ev : Operand → Value} {as0 : Array Operand} {tys : Array TypeId} {d x : AV} {fr t t2 el : Nat} {dd : TypeDesc} {keep : List String} {pos : String} {isInt : Bool} {hs : H} {r : R}
    (hop : o.op = .call { callee := .builtin .append, args := as0, argTypes := tys }) (ha : VRels κ [d, x] (as0.toList.map ev))
    (ht1 : tys[0]? = some t) (ht : P.underlying t = some (.slice el)) (ht2 : tys[1]? = some t2) (hd : P.underlying t2 = some dd)
    (hdd : (isInt = false ∧ ((∃ e2, dd = .slice e2) ∨ dd = .string)) ∨ (isInt = true ∧ ∃ k0, dd = .int k0))
    (hr : HRel M w κ h) (hle : hs.le h) (hM : ∀ B, w.heap.size ≤ B → M B) (hf : ∀ i, fr ≤ i → i < fr + STR → κ.ρ i = none)
    (h0 : aappendD P keep pos el isInt d x fr hs = some r) (hob : obsT r.ob) :
    OpPost P w (fun z w' => Good M w κ fr r.v (h.ups r.up) z w') ((execOp ev o).run P w) := by
  unfold aappendD at h0
  split at h0
  · exact blur_sound hop ha ht1 ht ht2 hd hdd hr hle hM (hf fr (Nat.le_refl _) (by unfold STR; omega)) h0 hob
  · exact appendC_sound hop ha ht1 ht ht2 hd hdd hr hle hM hf h0 hob
theorem lit_con {e : TypeId} {cs : List AV} : (∀ off, (litCon P e cs).at off = cs[off]?) ∧ (litCon P e cs).len = cs.length := by
  unfold litCon
  split
  · split
    · rename_i l hl
      have := rdU8_eq hl
      subst this
      exact ⟨fun off => by simp [Con.at], by simp [Con.len]⟩
    · exact ⟨fun _ => rfl, rfl⟩
  · exact ⟨fun _ => rfl, rfl⟩

theorem aopM_sound {o : Oper} {args : List AV} {ev : Operand → Value} {fr : Nat} {hs : H} {r : R} (hevc : ∀ v, ev (.const v) = v) (hargs : VRels κ args (o.op.operands.toList.map ev))
    (hΓ : COKs P gl Γ) (hG : GW gl w) (hMG : MOK gl M)
    (hr : HRel M w κ h) (hle : hs.le h) (hM : ∀ B, w.heap.size ≤ B → M B) (hf : ∀ i, fr ≤ i → i < fr + STR → κ.ρ i = none) (hgr : ∀ g, κ.ρ (GB + g) = some (g, 0)) (hfb : fr + STR ≤ GB)
    (h0 : (aopM P Γ o args fr hs).sel = some r) (hob : obsT r.ob) :
    OpPost P w (fun x w' => Good M w κ fr r.v (h.ups r.up) x w') ((execOp ev o).run P w) := by
  have hfr0 : κ.ρ fr = none := hf fr (Nat.le_refl _) (by unfold STR; omega)
  have selR : ∀ {q : Option R}, (T.ofR q).sel = some r → q = some r := by
    intro q hq
    cases q with
    | none => simp [T.ofR, T.sel] at hq
    | some q => simpa [T.ofR, T.sel] using hq
  unfold aopM at h0
  split at h0
  · -- pick
    rename_i e c0 a0 b0 c a b hop
    rw [hop] at hargs
    obtain ⟨x, y, z, hy, h1, h2, h3⟩ := hargs.three
    simp [Op.operands] at hy
    obtain ⟨rfl, rfl, rfl⟩ := hy
    simp only [VRel] at h1
    cases c
    · simp only [T.sel, Option.some.injEq] at h0
      subst h0
      have : (execOp ev o).run P w = .ok (.value (ev b0)) w := by simp [execOp, hop, h1, asBool]
      rw [this]
      exact Good.same hr h3
    · simp only [T.sel, Option.some.injEq] at h0
      subst h0
      have : (execOp ev o).run P w = .ok (.value (ev a0)) w := by simp [execOp, hop, h1, asBool]
      rw [this]
      exact Good.same hr h2
  · -- alloc
    rename_i e args0 el hop
    replace h0 := selR h0
    simp only [Option.map_eq_some_iff] at h0
    obtain ⟨z, hz, rfl⟩ := h0
    obtain ⟨i, zv, hi, hzv, hrel⟩ := zeroCells_rel (κ := κ) hz
    have hrun : (execOp ev o).run P w = .ok (.value (.pointer (some ⟨w.heap.size, 0, none⟩))) (w.alloc (.cells zv.cells el)) := by
      simp only [execOp, hop, Instr.alloc, Sem.run_bind, zeroValue, typeInfo, run_program, Result.andThen_ok, hi, Sem.run_pure, hzv, newVar, run_newRow]
    rw [hrun]
    exact good_alloc (R := 0) (fz := (0, 0)) hr hf hM (fun h => by simp at h) (fun off a ha => by
      obtain ⟨x, hx, hv⟩ := hrel.get ha
      exact ⟨x, by simpa using hx, hv⟩) (.inl rfl) ⟨_, 0, Ker.put_self _ _ _ _, rfl⟩
  · -- box
    rename_i e el x0 a hop
    replace h0 := selR h0
    simp only [Option.map_eq_some_iff] at h0
    obtain ⟨cs, hcs, rfl⟩ := h0
    rw [hop] at hargs
    obtain ⟨y, hy, hrel⟩ := hargs.one
    simp [Op.operands] at hy
    subst hy
    have hc := (hrel.cells hcs).1
    have hrun : (execOp ev o).run P w = .ok (.value (.pointer (some ⟨w.heap.size, 0, none⟩))) (w.alloc (.cells (ev x0).cells el)) := by
      simp only [execOp, hop, Instr.box, Sem.run_bind, newVar, run_newRow, Result.andThen_ok, Sem.run_pure]
    rw [hrun]
    exact good_alloc (R := 0) (fz := (0, 0)) hr hf hM (fun h => by simp at h) (fun off a ha => by
      obtain ⟨x, hx, hv⟩ := hc.get ha
      exact ⟨x, by simpa using hx, hv⟩) (.inl rfl) ⟨_, 0, Ker.put_self _ _ _ _, rfl⟩
  · -- buildSlice
    rename_i args e args0 t len parts hop
    rw [hop] at hargs
    replace h0 := selR h0
    have ha : VRels κ args ((parts.toList.map (·.2)).map ev) := by simpa [Op.operands] using hargs
    have hl : args.length = parts.toList.length := by simpa using ha.length
    split at h0
    · rename_i el ht
      simp only [Option.bind_eq_some_iff] at h0
      obtain ⟨ie, hi, z, hz, h0⟩ := h0
      split at h0
      · rename_i hcnd
        simp only [Option.map_eq_some_iff] at h0
        obtain ⟨cs, hcs, rfl⟩ := h0
        obtain ⟨i, zv, hi', hzv, hrel⟩ := zeroCells_rel (κ := κ) hz
        rw [hi] at hi'
        simp only [Option.some.injEq] at hi'
        subst hi'
        have e1 : ((parts.toList.map (·.1)).zip args).map (·.1) = ((parts.map fun (i, x) => (i, ev x)).toList).map (·.1) := by
          rw [List.map_fst_zip (by simp [hl])]
          simp [List.map_map, Function.comp_def]
        have e2 : VRels κ (((parts.toList.map (·.1)).zip args).map (·.2)) (((parts.map fun (i, x) => (i, ev x)).toList).map (·.2)) := by
          rw [List.map_snd_zip (by simp [hl])]
          simpa [List.map_map, Function.comp_def] using ha
        obtain ⟨rs, hfill, hrs⟩ := afill_sound _ _ _ _ _ _ e1 e2 (zeroFill_rel hrel (len * ie.size)) hcs
        have hrun : (execOp ev o).run P w = .ok (.value (.slice (some ⟨w.heap.size, 0, none⟩) len len)) (w.alloc (.cells rs el)) := by
          simp only [execOp, hop, Sem.run_bind, run_buildSlice (w := w) ht hi hzv hcnd.1 hfill, Result.andThen_ok, Sem.run_pure]
        rw [hrun]
        have hcl := afill_len _ _ _ _ hcs
        have hz1 : (zeroFill z (len * ie.size)).length = len * ie.size := by simp [zeroFill]
        have hl2 := hrs.length
        simp only [Array.length_toList] at hl2
        obtain ⟨hat, hlen⟩ := lit_con (P := P) (e := el) (cs := cs)
        cases hfl : firmL cs with
        | true =>
          simp only
          exact good_alloc (R := len) (fz := (0, 0)) hr hf hM (fun _ => ⟨by rw [hlen]; omega, by omega⟩) (fun off a hoa => by
            rw [hat] at hoa
            obtain ⟨x, hx, hv⟩ := hrs.get hoa
            exact ⟨x, by simpa using hx, hv⟩) (.inl rfl)
            ⟨_, _, rfl, Nat.le_refl _, rfl, ⟨rfl, by rw [Ker.put_cap], by rw [Ker.put_self]; rfl⟩, .inl ⟨_, 0, Ker.put_self _ _ _ _, by simp⟩⟩
        | false =>
          simp only
          exact Good.soft (ow := ie.size) (good_alloc (R := len) (fz := (0, 0)) hr hf hM (fun _ => ⟨by rw [hlen]; omega, by omega⟩) (fun off a hoa => by
            rw [hat] at hoa
            obtain ⟨x, hx, hv⟩ := hrs.get hoa
            exact ⟨x, by simpa using hx, hv⟩) (.inl rfl)
            ⟨_, _, rfl, Nat.le_refl _, rfl, rfl, .inl ⟨_, 0, Ker.put_self _ _ _ _, by simp⟩⟩)
      · cases h0
    · cases h0
  · -- load
    rename_i e t x0 i x sz c hop
    rw [hop] at hargs
    obtain ⟨y, hy, hrel⟩ := hargs.one
    simp [Op.operands] at hy
    subst hy
    replace h0 := selR h0
    simp only [Option.bind_eq_some_iff] at h0
    obtain ⟨b, hb, h0⟩ := h0
    have hb' := hle i b hb
    obtain ⟨B, O, hρ, hv⟩ := hrel
    split at h0
    · rename_i inf hag hi
      simp only [Option.map_eq_some_iff] at h0
      obtain ⟨⟨ob, q⟩, hq, rfl⟩ := h0
      obtain ⟨xs, h1, h2, h3⟩ := read_rel hr hb' hρ hq hob
      have hlc := run_loadCells_of (P := P) (w := w) (B := B) (O := O + (x * sz + c)) (vs := xs) (fun j y hy => by rw [Addr.add_at]; exact h3 j y hy)
      rw [h2] at hlc
      have hrun : (execOp ev o).run P w = .ok (.value (.agg xs.toArray)) w := by
        simp [execOp, hop, hv, Instr.loadAt, Instr.sureAddr, loadVar, run_isAgg hag, run_sizeOf hi, hlc]
      rw [hrun]
      exact Good.same hr ⟨_, rfl, by simpa using h1⟩
    · rename_i hag
      simp only [Option.bind_eq_some_iff] at h0
      obtain ⟨⟨ob, q⟩, hq, h0⟩ := h0
      split at h0
      · rename_i a hqa
        simp only at hqa
        subst hqa
        simp only [Option.some.injEq] at h0
        subst h0
        obtain ⟨xs, h1, h2, h3⟩ := read_rel hr hb' hρ hq hob
        obtain ⟨z, rfl, hz⟩ := h1.one
        have := h3 0 z rfl
        have hrun : (execOp ev o).run P w = .ok (.value z) w := by
          simp only [Nat.add_zero] at this
          simp [execOp, hop, hv, Instr.loadAt, Instr.sureAddr, loadVar, run_isAgg hag, this]
        rw [hrun]
        exact Good.same hr hz
      · cases h0
    · cases h0
  · -- store
    rename_i e t x0 y0 i x sz c a hop
    rw [hop] at hargs
    obtain ⟨xv, yv, hy, h1, h2⟩ := hargs.two
    simp [Op.operands] at hy
    obtain ⟨rfl, rfl⟩ := hy
    replace h0 := selR h0
    split at h0
    · rename_i cs inf hcs hi
      split at h0
      · rename_i hl
        obtain ⟨hl, hne, hall⟩ := hl
        simp only [Option.bind_eq_some_iff] at h0
        obtain ⟨b, hb, h0⟩ := h0
        split at h0
        · rename_i hwr
          simp only [Option.map_eq_some_iff] at h0
          obtain ⟨⟨ob, c'⟩, hc, rfl⟩ := h0
          obtain ⟨B, O, hρ, hv⟩ := h1
          obtain ⟨hc1, hc2⟩ := h2.cells hcs
          obtain ⟨w', hrun, hr', ho⟩ := hr.store (P := P) (hle i b hb) hwr hρ hc hob hne hc1 hc2
          have hsz : (ev y0).cells.size = inf.size := by
            have := hc1.length
            simp at this
            omega
          have hrun' : (execOp ev o).run P w = .ok .skip w' := by
            simp only [execOp, hop, hv, Instr.storeAt, Instr.sureAddr, storeVar, Sem.run_bind, Sem.run_pure, Result.andThen_ok, run_sizeOf hi]
            rw [if_neg (by simp; omega)]
            rw [hrun]
            rfl
          rw [hrun']
          exact Good.kept trivial hr' ho
        · cases h0
      · cases h0
    · cases h0
  · -- convert
    rename_i e src dst x0 a hop
    rw [hop] at hargs
    obtain ⟨y, hy, hrel⟩ := hargs.one
    simp [Op.operands] at hy
    subst hy
    replace h0 := selR h0
    split at h0
    · rename_i el hs' hd
      split at h0
      · rename_i hby
        have hu := isByte_eq hby
        simp only [Option.bind_eq_some_iff] at h0
        obtain ⟨⟨ob, l⟩, hsb, h0⟩ := h0
        split at h0
        · cases h0
        · rename_i hns
          simp only [Option.some.injEq] at h0
          subst h0
          have hrd := srcBytes_rel (hr.le hle) hsb hob hrel
          have hsl : ∃ ad n k, ev x0 = .slice ad n k := by
            unfold srcBytes at hsb
            split at hsb
            · obtain ⟨ad, k, hv, _⟩ := hrel; exact ⟨_, _, _, hv⟩
            · exact absurd rfl (hns _)
            · simp only [VRel] at hrel; exact ⟨_, _, _, hrel⟩
            · obtain ⟨ad, k, hv, _⟩ := hrel; exact ⟨_, _, _, hv⟩
            · cases hsb
          have hrun := run_fromBytes (P := P) hrd hsl
          have hrun' : (execOp ev o).run P w = .ok (.value (.string (bytesStr l))) w := by
            obtain ⟨ad, n, k, hv⟩ := hsl
            rw [hv] at hrun
            simp only [execOp, hop, hv, convert, Sem.run_bind, run_underlying hs', run_underlying hd, run_underlying hu, hrun, Result.andThen_ok, Sem.run_pure]
          rw [hrun']
          exact Good.same hr rfl
      · cases h0
    · rename_i el hs' hd
      split at h0
      · rename_i l
        split at h0
        · rename_i hby
          have hu := isByte_eq hby
          simp only [Option.some.injEq] at h0
          subst h0
          obtain ⟨c, w', hrun, hw'⟩ := run_toBytes (P := P) (w := w) el (bytesStr l)
          simp only [VRel] at hrel
          have hrun' : (execOp ev o).run P w = .ok (.value (.slice (some ⟨w.heap.size, 0, none⟩) (bytesStr l).size ((bytesStr l).size + c))) w' := by
            simp only [execOp, hop, hrel, convert, Sem.run_bind, run_underlying hs', run_underlying hd, run_underlying hu, hrun, Result.andThen_ok, Sem.run_pure]
          rw [hrun', hw', bytesStr_size]
          have hsz : (((bytesStr l).data.map fun (b : UInt8) => Value.int .u8 (b.toNat : Int)) ++ Array.replicate c (Value.int .u8 0)).size = l.length + c := by
            rw [Array.size_append, Array.size_map, Array.size_replicate]; simp [bytesStr]
          have hg := good_alloc (M := M) (w := w.drew) (h := h) (fr := fr) (e := el) (cs := ((bytesStr l).data.map fun (b : UInt8) => Value.int .u8 (b.toNat : Int)) ++ Array.replicate c (Value.int .u8 0)) (R := l.length + c) (ow := 1) (fz := (l.length + c, l.length + c + 1)) (c := .bytes l)
            (v := .slice fr 0 1 l.length .ow (.is false)) (x := .slice (some ⟨w.heap.size, 0, none⟩) l.length (l.length + c)) hr.drawn hf hM (fun _ => ⟨by simp [Con.len], by rw [hsz]; omega⟩)
            (by
              intro off a hat
              simp only [Con.at, Option.map_eq_some_iff] at hat
              obtain ⟨b, hb, rfl⟩ := hat
              have hlt := (List.getElem?_eq_some_iff.1 hb).1
              refine ⟨.int .u8 b.toNat, ?_, rfl⟩
              rw [Array.getElem?_append_left (by simpa [bytesStr] using hlt)]
              simp only [bytesStr, Array.getElem?_map, List.getElem?_toArray, List.getElem?_map, hb, Option.map_some]
              rfl)
            (.inr (by rw [hsz]; exact Nat.le_refl _))
            ⟨_, _, rfl, by omega, rfl, ⟨rfl, by rw [Ker.put_cap], by rw [Ker.put_self]; rfl⟩, .inl ⟨_, 0, Ker.put_self _ _ _ _, by simp⟩⟩
          obtain ⟨g1, g2, g3, g4, g5, g6, g7⟩ := hg
          exact ⟨g1, g2, g3, g4, g5, (Only.drew M w).trans g6, g7⟩
        · cases h0
      · cases h0
    · rename_i el el2 hs' hd
      split at h0
      · rename_i i x sz n c nl
        split at h0
        · rename_i hc
          obtain ⟨hby, hsd⟩ := hc
          subst hsd
          have hu := isByte_eq hby
          simp only [Option.bind_eq_some_iff] at h0
          obtain ⟨b, hb, h0⟩ := h0
          split at h0
          · rename_i hwr
            split at h0
            · rename_i l hcon
              simp only [Option.some.injEq] at h0
              subst h0
              obtain ⟨hn, hl⟩ := obsT_cons.1 hob
              have hl := obsT_one.1 hl
              have hrel' := hrel
              obtain ⟨ad, k, hv, hnk, hnl, _, hloc⟩ := hrel
              rcases hloc with ⟨B, O, hρ, rfl⟩ | ⟨hc0, _⟩
              · obtain ⟨B1, O1, e1, e2, e3⟩ := hr.blk i b (hle i b hb)
                rw [hρ] at e1
                simp only [Option.some.injEq, Prod.mk.injEq] at e1
                obtain ⟨rfl, rfl⟩ := e1
                have hlive : LiveB κ i b := .inl ⟨0, .u8 l[0], by rw [hcon]; simp [Con.at, hl]⟩
                obtain ⟨c2, t, lo, hi, hblk, hlh⟩ := (e2 hwr hlive).2.2.1
                obtain ⟨hr2, ho2⟩ := hr.mark (e2 hwr hlive).1 hlh hblk
                have hrun' : (execOp ev o).run P w = .ok (.value (ev x0)) (w.freeze ⟨B, c2.size, none⟩ 1) := by
                  have hsh : w.shape? B = some (t, c2.size) := by simp only [World.shape?, hblk]
                  rw [hs'] at hd
                  simp only [Option.some.injEq, TypeDesc.slice.injEq] at hd
                  subst hd
                  simp [execOp, hop, hv, convert, run_underlying hs', run_underlying hu, markStringish, hsh]
                rw [hrun']
                exact ⟨κ, κ.le_refl, fun _ _ => rfl, hrel', hr2, ho2, fun _ _ h => .inl h⟩
              · omega
            · cases h0
          · cases h0
        · cases h0
      · cases h0
    · cases h0
  · -- makeSlice
    rename_i e t lo co l c hop
    rw [hop] at hargs
    obtain ⟨xv, yv, hy, h1, h2⟩ := hargs.two
    simp [Op.operands] at hy
    obtain ⟨rfl, rfl⟩ := hy
    replace h0 := selR h0
    split at h0
    · rename_i el l' c' ht hl hc
      obtain ⟨ol, ln⟩ := l'
      obtain ⟨oc, cn⟩ := c'
      simp only [Option.bind_eq_some_iff] at h0
      obtain ⟨ie, hi, z, hz, h0⟩ := h0
      split at h0
      · rename_i hcnd
        obtain ⟨hsz, hzl⟩ := hcnd
        simp only [Option.some.injEq] at h0
        subst h0
        simp only at hob
        obtain ⟨hob12, hob3⟩ := obsT_append.1 hob
        obtain ⟨hob1, hob2⟩ := obsT_append.1 hob12
        obtain ⟨k1, hob3⟩ := obsT_cons.1 hob3
        obtain ⟨k2, hob3⟩ := obsT_cons.1 hob3
        have k3 := obsT_one.1 hob3
        obtain ⟨i, zv, hi', hzv, hrel⟩ := zeroCells_rel (κ := κ) hz
        rw [hi] at hi'
        simp only [Option.some.injEq] at hi'
        subst hi'
        obtain ⟨kk, hk⟩ := opNat_rel h1 (fun v hv => by rw [hv, hevc]) hl hob1
        obtain ⟨kk', hk'⟩ := opNat_rel h2 (fun v hv => by rw [hv, hevc]) hc hob2
        have hrun : (execOp ev o).run P w = .ok (.value (.slice (some ⟨w.heap.size, 0, none⟩) ln cn)) (w.alloc (.cells ((Array.range (cn * ie.size)).map (zv.cells[· % zv.cells.size]!)) el)) := by
          simp only [execOp, hop, hk, hk', Sem.run_bind, run_makeSlice (w := w) ht hi hzv k1 k2 k3, Result.andThen_ok, Sem.run_pure]
        rw [hrun]
        have hmul : ln * ie.size ≤ cn * ie.size := Nat.mul_le_mul_right _ k1
        have hzs : zv.cells.size = ie.size := by rw [← hzl, hrel.length]; simp
        have hcs : (Builtin.zeroCells zv.cells cn) = ((Array.range (cn * ie.size)).map (zv.cells[· % zv.cells.size]!)) := by
          simp only [Builtin.zeroCells, hzs]
        have key : (makeCon P el lo ln ie.size z).len = ln * ie.size ∧ ∀ (off : Nat) a, (makeCon P el lo ln ie.size z).at off = some a → ∃ x, ((Array.range (cn * ie.size)).map (zv.cells[· % zv.cells.size]!))[off]? = some x ∧ VRel κ a x := by
          unfold makeCon
          split
          · rename_i hby
            have hz1 : ie.size = 1 := by
              simp only [isByte0, Bool.and_eq_true, hz] at hby
              obtain ⟨_, hby⟩ := hby
              split at hby
              · rename_i b hzb
                simp only [Option.some.injEq] at hzb
                subst hzb
                simpa using hzl.symm
              · cases hby
            have hb0 := byte0_cells hby hz hrel cn
            rw [hcs] at hb0
            refine ⟨by simp [Con.len, hz1], fun off a hat => ?_⟩
            simp only [Con.at, Option.map_eq_some_iff] at hat
            obtain ⟨b, hb, rfl⟩ := hat
            rw [List.getElem?_replicate] at hb
            split at hb
            · rename_i hlt
              simp only [Option.some.injEq] at hb
              subst hb
              refine ⟨.int .u8 ((0#8).toNat : Int), ?_, rfl⟩
              rw [← Array.getElem?_toList, hb0]
              exact u8s_get.2 ⟨0, by rw [List.getElem?_replicate, if_pos (by omega)], rfl⟩
            · cases hb
          · split
            · rename_i k hck
              have : ln = k := by
                unfold constNat at hck
                split at hck
                · simp only [Option.some.injEq] at hck
                  subst hck
                  simp only [opNat, Option.some.injEq, Prod.mk.injEq] at hl
                  exact hl.2.symm
                · cases hck
              subst this
              refine ⟨by simp [Con.len, zeroFill], fun off a hat => ?_⟩
              simp only [Con.at] at hat
              have hlt : off < ln * ie.size := by have := (List.getElem?_eq_some_iff.1 hat).1; simpa [zeroFill] using this
              have ha' : (zeroFill z (cn * ie.size))[off]? = some a := by
                simp only [zeroFill, List.getElem?_map, List.getElem?_range hlt, Option.map_some, Option.some.injEq] at hat
                simp only [zeroFill, List.getElem?_map, List.getElem?_range (Nat.lt_of_lt_of_le hlt hmul), Option.map_some, Option.some.injEq]
                exact hat
              obtain ⟨x, hx, hv⟩ := (zeroFill_rel hrel (cn * ie.size)).get ha'
              exact ⟨x, by rw [← Array.getElem?_toList]; exact hx, hv⟩
            · refine ⟨rfl, fun off a hat => ?_⟩
              simp only [Con.at] at hat
              split at hat
              · rename_i hlt
                obtain ⟨x, hx, hv⟩ := hrel.get hat
                refine ⟨x, ?_, hv⟩
                have hlt2 : off < cn * ie.size := by omega
                have hx' : zv.cells[off % ie.size]? = some x := by simpa using hx
                simp [hlt2, hzs, getElem!_def, hx']
              · cases hat
        have keyK : ∀ raw, (makeConK P raw el lo ln ie.size z).len = ln * ie.size ∧ ∀ (off : Nat) a, (makeConK P raw el lo ln ie.size z).at off = some a → ∃ x, ((Array.range (cn * ie.size)).map (zv.cells[· % zv.cells.size]!))[off]? = some x ∧ VRel κ a x := by
          intro raw
          unfold makeConK
          split
          · split
            · rename_i q hq
              split
              · rename_i hall
                have hzq := rdU8_eq hq
                have hql : q.length = ie.size := by rw [← hzl, hzq]; simp
                refine ⟨by simp [Con.len], fun off a hat => ?_⟩
                simp only [Con.at, Option.map_eq_some_iff] at hat
                obtain ⟨b, hb, rfl⟩ := hat
                rw [List.getElem?_replicate] at hb
                split at hb
                · rename_i hlt
                  simp only [Option.some.injEq] at hb
                  subst hb
                  have hlt2 : off < cn * ie.size := by omega
                  have hm : off % ie.size < q.length := by rw [hql]; exact Nat.mod_lt _ hsz
                  have hq0 : q[off % ie.size] = 0#8 := by
                    have := List.all_eq_true.1 hall _ (List.getElem_mem hm)
                    simpa using this
                  have hz2 : z[off % ie.size]? = some (.u8 0#8) := by
                    rw [hzq, List.getElem?_map, List.getElem?_eq_getElem hm, hq0]; rfl
                  obtain ⟨x, hx, hv⟩ := hrel.get hz2
                  refine ⟨x, ?_, hv⟩
                  have hx' : zv.cells[off % ie.size]? = some x := by simpa using hx
                  simp [hlt2, hzs, getElem!_def, hx']
                · cases hb
              · exact key
            · exact key
          · exact key
        obtain ⟨hlen, hat⟩ := keyK (Γ.keep.contains ("#" ++ o.pos))
        exact good_alloc (R := cn) (fz := (0, 0)) hr hf hM (fun _ => ⟨by rw [hlen]; exact hmul, by simp⟩) hat (.inl rfl)
          ⟨_, _, rfl, k1, rfl, (by
            cases Γ.keep.contains o.pos
            · exact ⟨rfl, by rw [Ker.put_cap], by rw [Ker.put_self]; rfl⟩
            · rfl), .inl ⟨_, 0, Ker.put_self _ _ _ _, by simp⟩⟩
      · cases h0
    · cases h0
  · -- append
    rename_i e as0 tys d x hop
    rw [hop] at hargs
    have ha : VRels κ [d, x] (as0.toList.map ev) := by simpa [Op.operands, Call.operands] using hargs
    replace h0 := selR h0
    split at h0
    · rename_i el e2 ht0 hd0
      simp only [Option.bind_eq_some_iff] at ht0 hd0
      obtain ⟨t, ht1, ht⟩ := ht0
      obtain ⟨t2, ht2, hd⟩ := hd0
      exact appendD_sound hop ha ht1 ht ht2 hd (.inl ⟨rfl, .inl ⟨e2, rfl⟩⟩) hr hle hM hf h0 hob
    · rename_i el ht0 hd0
      simp only [Option.bind_eq_some_iff] at ht0 hd0
      obtain ⟨t, ht1, ht⟩ := ht0
      obtain ⟨t2, ht2, hd⟩ := hd0
      exact appendD_sound hop ha ht1 ht ht2 hd (.inl ⟨rfl, .inr rfl⟩) hr hle hM hf h0 hob
    · rename_i el k0 ht0 hd0
      simp only [Option.bind_eq_some_iff] at ht0 hd0
      obtain ⟨t, ht1, ht⟩ := ht0
      obtain ⟨t2, ht2, hd⟩ := hd0
      exact appendD_sound hop ha ht1 ht ht2 hd (.inr ⟨rfl, k0, rfl⟩) hr hle hM hf h0 hob
    · cases h0
  · -- copy
    rename_i e as0 tys d x hop
    rw [hop] at hargs
    have ha : VRels κ [d, x] (as0.toList.map ev) := by simpa [Op.operands, Call.operands] using hargs
    obtain ⟨sv, y, hsy, h1, h2⟩ := ha.two
    have has : as0.map ev = #[sv, y] := by apply Array.toList_inj.1; simpa using hsy
    replace h0 := selR h0
    split at h0
    · rename_i el ht0
      simp only [Option.bind_eq_some_iff] at ht0
      obtain ⟨t, ht1, ht⟩ := ht0
      unfold acopy at h0
      split at h0
      · rename_i hby
        split at h0
        · rename_i i o' n cp nl
          simp only [Option.bind_eq_some_iff] at h0
          obtain ⟨b, hb, ⟨sob, s⟩, hsb, h0⟩ := h0
          split at h0
          · rename_i hwr
            have hb' := hle i b hb
            obtain ⟨⟨B, O⟩, hρ⟩ := hr.named hb'
            -- what is written
            have key : ∃ c, r = ⟨r.ob, .int .i64 (min s.length n : Nat), [(i, some ⟨c, true, b.own⟩)]⟩ ∧ WriteR b.con c o' ((s.take n).map AV.u8) ∧ obsT sob := by
              split at h0
              · rename_i l hcon
                simp only [Option.some.injEq] at h0
                subst h0
                obtain ⟨ho1, ho2⟩ := obsT_append.1 hob
                exact ⟨_, rfl, by rw [hcon]; exact copy_write (.inl ⟨l, rfl, obsT_one.1 ho2, rfl⟩), ho1⟩
              · rename_i l hcon
                split at h0
                · rename_i hle'
                  simp only [Option.map_eq_some_iff] at h0
                  obtain ⟨q, hq, rfl⟩ := h0
                  exact ⟨_, rfl, by rw [hcon]; exact copy_write (.inr ⟨l, q, rfl, hle', hq, rfl⟩), hob⟩
                · cases h0
              · cases h0
            obtain ⟨c, hrr, hwrite, hobs⟩ := key
            have hrd := srcBytes_rel (hr.le hle) hsb hobs h2
            have hfirst := hrd.run_first (P := P) (m := min s.length n) (Nat.min_le_left _ _)
            rw [Nat.mul_one] at hfirst
            have hsz : ∃ ie, P.info? el = some ie ∧ ie.size = 1 := by
              simp only [isByte1, Bool.and_eq_true] at hby
              obtain ⟨_, hby⟩ := hby
              split at hby
              · rename_i ie hi; exact ⟨ie, hi, by simpa using hby⟩
              · cases hby
            obtain ⟨ie, hi, hi1⟩ := hsz
            have htk : (u8s s).take (min s.length n) = u8s (s.take n) := by
              rw [u8s, u8s, List.map_take]
              rcases Nat.le_total s.length n with h | h
              · rw [Nat.min_eq_left h, List.take_of_length_le (by simp), List.take_of_length_le (by simpa using h)]
              · rw [Nat.min_eq_right h]
            rw [htk] at hfirst
            obtain ⟨ad, k, rfl, hnk, _, _, hloc⟩ := h1
            have hst : ∃ w', (match ad with | some a => (storeCells a (u8s (s.take n))).run P w | none => .ok () w) = .ok () w' ∧ HRel M w' κ (upd h i (some ⟨c, true, b.own⟩)) ∧ Only M w w' := by
              obtain ⟨w', k1, k2, k3⟩ := hr.over (P := P) hb' hwr hρ hwrite (u8s_rel (s.take n)) (u8s_one _)
              rcases hloc with ⟨B1, O1, e1, rfl⟩ | ⟨h0n, h0k⟩
              · rw [hρ] at e1
                simp only [Option.some.injEq, Prod.mk.injEq] at e1
                obtain ⟨rfl, rfl⟩ := e1
                exact ⟨w', by simpa only [Nat.mul_one] using k1, k2, k3⟩
              · subst h0n
                simp only [List.take_zero, u8s, List.map_nil] at k1 ⊢
                have : w' = w := by simpa [storeCells, eq_comm] using k1
                subst this
                exact ⟨w', by cases ad <;> rfl, k2, k3⟩
            obtain ⟨w', hst, hr', ho⟩ := hst
            have hrunA : (execOp ev o).run P w = ((Builtin.copy_ tys o.type #[.slice ad n k, y]).run P w).andThen fun v w' => .ok (.value v) w' := by
              simp only [execOp, hop, resolve, Sem.run_bind, Sem.run_pure, Result.andThen_ok, invoke, builtin, has]
            have hrun' : (execOp ev o).run P w = .ok (.value (.int .i64 ((min s.length n : Nat) : Int))) w' := by
              rw [hrunA]
              cases ad with
              | none =>
                simp only [Result.ok.injEq, true_and] at hst
                subst hst
                simp only [Builtin.copy_, ht1, List.getElem?_toArray, List.getElem?_cons_zero, List.getElem?_cons_succ, Sem.run_bind, run_underlying ht, Result.andThen_ok, hrd.run_len, run_sizeOf hi, hi1, Sem.run_pure, goInt]
                rw [show Nat.min s.length n = min s.length n from rfl, hfirst]
                rfl
              | some a =>
                simp only at hst
                simp only [Builtin.copy_, ht1, List.getElem?_toArray, List.getElem?_cons_zero, List.getElem?_cons_succ, Sem.run_bind, run_underlying ht, Result.andThen_ok, hrd.run_len, run_sizeOf hi, hi1, Sem.run_pure, goInt]
                rw [show Nat.min s.length n = min s.length n from rfl, hfirst]
                simp only [Result.andThen_ok, hst]
            rw [hrun', hrr]
            exact Good.kept rfl hr' ho
          · cases h0
        · cases h0
      · cases h0
    · cases h0
  · -- a call
    rename_i e fo args0 tys f first caps as hop
    rw [hop] at hargs
    split at h0
    · rename_i F hF
      obtain ⟨hcf, hcalls⟩ := hΓ f F hF
      have hops : (Op.call { callee := .value fo, args := args0, argTypes := tys }).operands.toList.map ev = ev fo :: args0.toList.map ev := by
        simp [Op.operands, Call.operands]
      rw [hops] at hargs
      obtain ⟨x, xs, hx, hfn, hrest⟩ := hargs
      simp only [List.cons.injEq] at hx
      obtain ⟨rfl, rfl⟩ := hx
      obtain ⟨vs, us, hv, hv1, hv2⟩ := hfn
      have hrun : (execOp ev o).run P w = .ok (.enter f (vs ++ args0.map ev ++ us)) w := by
        simp only [execOp, hop, resolve, hv, Deferred.ofValue, Sem.run_bind, Sem.run_pure, Result.andThen_ok, invoke]
        rw [hcf]
      rw [hrun]
      have hC := hcalls M w κ hs h (first ++ as ++ caps) (vs ++ args0.map ev ++ us) fr r hG hMG hr hle hM hf hgr hfb (by
        simp only [Array.toList_append, Array.toList_map]
        exact (hv1.append hrest).append hv2) h0 hob
      exact ⟨rfl, hC⟩
    · simp [T.sel] at h0
  · -- a slice with three indexes
    rename_i e t x0 ho mo i x sz n c nl hv mv hop
    rw [hop] at hargs
    obtain ⟨y, ys, hy, hr1, hrest⟩ := hargs
    obtain ⟨y2, ys2, hy2, hr2, hrest2⟩ := hrest
    obtain ⟨y3, ys3, hy3, hr3, hrest3⟩ := hrest2
    simp only [VRels] at hrest3
    subst hrest3 hy3 hy2
    simp [Op.operands] at hy
    obtain ⟨rfl, rfl, rfl⟩ := hy
    replace h0 := selR h0
    split at h0
    · rename_i el q m ht hq hm
      simp only [Option.bind_eq_some_iff] at h0
      obtain ⟨inf, hi, h0⟩ := h0
      split at h0
      · rename_i hsz
        subst hsz
        simp only [Option.some.injEq] at h0
        subst h0
        obtain ⟨qob, qn⟩ := q
        obtain ⟨mob, mn⟩ := m
        obtain ⟨ho12, ho3⟩ := obsT_append.1 hob
        obtain ⟨ho1, ho2⟩ := obsT_append.1 ho12
        obtain ⟨hqm, hmn⟩ := obsT_cons.1 ho3
        have hmn := obsT_one.1 hmn
        dsimp only at hqm hmn
        obtain ⟨k1, hk1⟩ := opNat_rel hr2 (fun v hv => by rw [hv, hevc]) hq ho1
        obtain ⟨k2, hk2⟩ := opNat_rel hr3 (fun v hv => by rw [hv, hevc]) hm ho2
        obtain ⟨a, k, hv1, hnk, hnl, hcap, hloc⟩ := hr1
        have hb : (Instr.sliceBounds true n k none (some (ev ho)) (some (ev mo))).run P w = .ok (0, qn, mn) w := by
          simp [Instr.sliceBounds, run_sliceBound (P := P) (w := w) hk2 (show mn ≤ k by omega), run_sliceBound (P := P) (w := w) hk1 hqm]
        have hadd : (if mn = 0 then a else a.map (·.add (0 * inf.size))) = a := by
          split
          · rfl
          · rcases hloc with ⟨B, O, _, rfl⟩ | ⟨h00, _⟩
            · simp [Addr.add_at]
            · omega
        have hrun : (execOp ev o).run P w = .ok (.value (.slice a qn mn)) w := by
          simp only [execOp, hop, Option.map_none, Option.map_some, hv1, Instr.sliceAt, Instr.slice, Sem.run_bind, run_underlying ht, Result.andThen_ok, hb, run_sizeOf hi, Sem.run_pure, hadd, Nat.sub_zero]
        rw [hrun]
        refine Good.same hr ⟨a, mn, rfl, hqm, hnl, rfl, ?_⟩
        rcases hloc with ⟨B, O, e1, e2⟩ | ⟨h00, h01⟩
        · exact .inl ⟨B, O, e1, e2⟩
        · exact .inr ⟨by omega, by omega⟩
      · cases h0
    · cases h0
  · simp [T.sel] at h0
end
end Go.Sym

namespace Go.Sym
set_option linter.unusedVariables false
set_option linter.unusedSimpArgs false

theorem rd32_eq : ∀ {cs : List AV} {l : List (BitVec 32)}, rd32 cs = some l → cs = l.map AV.u32
  | [], l, h => by simp [rd32] at h; subst h; rfl
  | a :: cs, l, h => by
    cases a <;> simp only [rd32, reduceCtorEq, Option.map_eq_some_iff] at h
    obtain ⟨l', h1, rfl⟩ := h
    simp [rd32_eq h1]
theorem rd64_eq : ∀ {cs : List AV} {l : List (BitVec 64)}, rd64 cs = some l → cs = l.map AV.u64
  | [], l, h => by simp [rd64] at h; subst h; rfl
  | a :: cs, l, h => by
    cases a <;> simp only [rd64, reduceCtorEq, Option.map_eq_some_iff] at h
    obtain ⟨l', h1, rfl⟩ := h
    simp [rd64_eq h1]
theorem rdI_eq {k : IntKind} : ∀ {cs : List AV} {l : List Int}, rdI k cs = some l → cs = l.map (AV.int k)
  | [], l, h => by simp [rdI] at h; subst h; rfl
  | a :: cs, l, h => by
    cases a <;> simp only [rdI, reduceCtorEq] at h
    split at h
    · rename_i hk
      subst hk
      simp only [Option.map_eq_some_iff] at h
      obtain ⟨l', h1, rfl⟩ := h
      simp [rdI_eq h1]
    · cases h

theorem rows_one_at {α : Type} (f : α → AV) (L : List α) (d : α) (o : Nat) : (Con.rows 1 L.length fun y => [f (L.getD y d)]).at o = (L.map f)[o]? := by
  simp only [Con.at, Nat.mul_one, Nat.div_one, Nat.mod_one]
  split
  · rename_i h
    simp [List.getD, h]
  · rename_i h
    rw [List.getElem?_eq_none (by simp; omega)]
theorem symCells_at {l : List AV} {c : Con} (h : symCells l = some c) : (∀ o, c.at o = l[o]?) ∧ c.len = l.length := by
  unfold symCells at h
  split at h
  · simp only [Option.map_eq_some_iff] at h
    obtain ⟨L, hL, rfl⟩ := h
    rw [rdU8_eq hL]
    exact ⟨fun o => by simp [Con.at], by simp [Con.len]⟩
  · simp only [Option.map_eq_some_iff] at h
    obtain ⟨L, hL, rfl⟩ := h
    rw [rd32_eq hL]
    exact ⟨fun o => rows_one_at _ _ _ _, by simp [Con.len]⟩
  · simp only [Option.map_eq_some_iff] at h
    obtain ⟨L, hL, rfl⟩ := h
    rw [rd64_eq hL]
    exact ⟨fun o => rows_one_at _ _ _ _, by simp [Con.len]⟩
  · simp only [Option.map_eq_some_iff] at h
    obtain ⟨L, hL, rfl⟩ := h
    rw [rdI_eq hL]
    exact ⟨fun o => rows_one_at _ _ _ _, by simp [Con.len]⟩
  · cases h
theorem all_zero {w : Nat} {L : List (BitVec w)} (h : L.all (· == 0) = true) : L = List.replicate L.length 0 := by
  rw [List.eq_replicate_iff]
  exact ⟨rfl, fun b hb => by simpa using List.all_eq_true.1 h b hb⟩
theorem all_zeroI {L : List Int} (h : L.all (· == 0) = true) : L = List.replicate L.length 0 := by
  rw [List.eq_replicate_iff]
  exact ⟨rfl, fun b hb => by simpa using List.all_eq_true.1 h b hb⟩
theorem rows_rep_at {α : Type} (f : α → AV) (d : α) (n o : Nat) : (Con.rows 1 n fun _ => [f d]).at o = ((List.replicate n d).map f)[o]? := by
  simp only [Con.at, Nat.mul_one, Nat.div_one, Nat.mod_one]
  split
  · rename_i h
    simp [h]
  · rename_i h
    rw [List.getElem?_eq_none (by simp; omega)]
theorem zCon_at (z : List AV) : (∀ o, (zCon z).at o = z[o]?) ∧ (zCon z).len = z.length := by
  have cells : (∀ o, (Con.cells z).at o = z[o]?) ∧ (Con.cells z).len = z.length := ⟨fun _ => rfl, rfl⟩
  unfold zCon
  split
  · split
    · rename_i L hL
      split
      · rename_i ha
        have e := rdU8_eq hL
        have e2 := all_zero ha
        rw [e]
        refine ⟨fun o => ?_, by simp [Con.len]⟩
        rw [← e2]
        simp [Con.at]
      · exact cells
    · exact cells
  · split
    · rename_i L hL
      split
      · rename_i ha
        have e := rd32_eq hL
        have e2 := all_zero ha
        rw [e]
        refine ⟨fun o => ?_, by simp [Con.len]⟩
        rw [rows_rep_at, ← e2]
      · exact cells
    · exact cells
  · split
    · rename_i L hL
      split
      · rename_i ha
        have e := rd64_eq hL
        have e2 := all_zero ha
        rw [e]
        refine ⟨fun o => ?_, by simp [Con.len]⟩
        rw [rows_rep_at, ← e2]
      · exact cells
    · exact cells
  · split
    · rename_i k _ _ _ L hL
      split
      · rename_i ha
        have e := rdI_eq hL
        have e2 := all_zeroI ha
        rw [e]
        refine ⟨fun o => ?_, by simp [Con.len]⟩
        rw [rows_rep_at (AV.int k), ← e2]
      · exact cells
    · exact cells
  · exact cells
theorem symCon_at (c : Con) : (∀ o, (symCon c).at o = c.at o) ∧ (symCon c).len = c.len := by
  unfold symCon
  split
  · rename_i l
    split
    · rename_i c hc
      obtain ⟨h1, h2⟩ := symCells_at hc
      exact ⟨fun o => by rw [h1]; rfl, by rw [h2]; rfl⟩
    · exact ⟨fun _ => rfl, rfl⟩
  · exact ⟨fun _ => rfl, rfl⟩

theorem OpPost.weak {P : Program} {w : World} {A B : Value → World → Prop} (h : ∀ x w', A x w' → B x w') {r : Result Next} (hr : OpPost P w A r) : OpPost P w B r := by
  cases r with
  | ok n w' =>
    cases n with
    | value x => exact h _ _ hr
    | skip => exact h _ _ hr
    | enter f args => exact ⟨hr.1, hr.2.mono fun e w'' ⟨x, h1, h2⟩ => ⟨x, h1, h _ _ h2⟩⟩
    | _ => exact hr
  | halt x w' => exact hr
section
variable {P : Program} {κ : Ker} {w : World} {M : Nat → Prop} {h : H} {Γ : Ctx} {gl : Gl}

/-- One way to say what a block holds is as good as another one. -/
theorem HRel.conv (r : HRel M w κ h) {i : Nat} {b : ABlk} {c : Con} (hi : h i = some b) (hc : ∀ o, c.at o = b.con.at o) (hl : c.len = b.con.len) : HRel M w κ (upd h i (some ⟨c, b.wr, b.own⟩)) := by
  have live : ∀ j b', upd h i (some ⟨c, b.wr, b.own⟩) j = some b' → ∃ b0, h j = some b0 ∧ b0.wr = b'.wr ∧ b0.own = b'.own ∧ (∀ o, b'.con.at o = b0.con.at o) ∧ b'.con.len = b0.con.len ∧ (LiveB κ j b' → LiveB κ j b0) := by
    intro j b' hj
    unfold upd at hj
    split at hj
    · rename_i he
      subst he
      simp only [Option.some.injEq] at hj
      subst hj
      refine ⟨b, hi, rfl, rfl, hc, hl, ?_⟩
      rintro (⟨o, a, ha⟩ | h0)
      · exact .inl ⟨o, a, by rw [← hc]; exact ha⟩
      · exact .inr h0
    · exact ⟨b', hj, rfl, rfl, fun _ => rfl, rfl, fun h => h⟩
  refine ⟨?_, ?_, ?_, r.mem⟩
  · intro j b' hj
    obtain ⟨b0, h0, e1, e2, e3, e4, e5⟩ := live j b' hj
    obtain ⟨B, O, k1, k2, k3⟩ := r.blk j b0 h0
    refine ⟨B, O, k1, fun hw hlv => k2 (by rw [e1]; exact hw) (e5 hlv), fun off a ha => ?_⟩
    rw [e3] at ha
    obtain ⟨k4, k5⟩ := k3 off a ha
    exact ⟨k4, fun hw => k5 (by rw [e1]; exact hw)⟩
  · intro j j' b1 b2 B O B' O' hj hj' hne hw hl1 hl2 h1 h2
    obtain ⟨c1, g1, e1, e2, e3, e4, e5⟩ := live j b1 hj
    obtain ⟨c2, g2, f1, f2, f3, f4, f5⟩ := live j' b2 hj'
    exact r.sep j j' c1 c2 B O B' O' g1 g2 hne (by rw [e1]; exact hw) (e5 hl1) (f5 hl2) h1 h2
  · intro j b' B O hj ho hρ
    obtain ⟨b0, h0, e1, e2, e3, e4, e5⟩ := live j b' hj
    have := r.own j b0 B O h0 (by rw [e2]; exact ho) hρ
    rw [e1, e2, ← e4] at this
    exact this

theorem symH_rel (r : HRel M w κ h) (i : Nat) : HRel M w κ (symH h i) := by
  unfold symH
  split
  · rename_i b hb
    exact r.conv hb (symCon_at _).1 (symCon_at _).2
  · exact r
theorem symH_le {hs h : H} (hle : hs.le h) (i : Nat) (hi : (hs i).isSome = true) : (symH hs i).le (symH h i) := by
  obtain ⟨b, hb⟩ := Option.isSome_iff_exists.1 hi
  have hb' := hle i b hb
  intro j c hj
  unfold symH at hj ⊢
  rw [hb] at hj
  rw [hb']
  simp only [upd] at hj ⊢
  split
  · rename_i he; rw [if_pos he] at hj; exact hj
  · rename_i he; rw [if_neg he] at hj; exact hle j c hj
theorem upd_same (h : H) (i : Nat) (b : Option ABlk) (hb : h i = b) : upd h i b = h := by
  funext j
  unfold upd
  split
  · rename_i he; subst he; exact hb.symm
  · rfl
/-- Back. -/
theorem symH_back {M2 : Nat → Prop} {w2 : World} {κ2 : Ker} {i : Nat} (r : HRel M2 w2 κ2 (symH h i)) : HRel M2 w2 κ2 h := by
  unfold symH at r
  split at r
  · rename_i b hb
    have := r.conv (i := i) (b := symB b) (c := b.con) (by simp [upd]) (fun o => ((symCon_at b.con).1 o).symm) (symCon_at b.con).2.symm
    rw [upd_upd] at this
    rwa [upd_same h i (some ⟨b.con, (symB b).wr, (symB b).own⟩) hb] at this
  · exact r

theorem cellK_spec {t : TypeId} {l : List AV} {q : List Prop × AV} (h : cellK P t l = some q) (ho : obsT q.1) : ∃ a, l = [a] ∧ q.2 = a ∧ isAggB P t = some false := by
  unfold cellK at h
  split at h
  · rename_i k ht
    have hag : isAggB P t = some false := by unfold isAggB; rw [ht]
    have fin : ∀ k', isI k' l → ∃ a, l = [a] ∧ AV.int k' (ofI k' l) = a ∧ isAggB P t = some false := by
      intro k' hi
      unfold isI at hi
      split at hi
      · rename_i k2 v
        subst hi
        exact ⟨_, rfl, by simp [ofI], hag⟩
      · exact hi.elim
    split at h
    · simp only [Option.some.injEq] at h
      subst h
      have := obsT_one.1 ho
      unfold is32 at this
      split at this
      · exact ⟨_, rfl, rfl, hag⟩
      · exact this.elim
    · simp only [Option.some.injEq] at h
      subst h
      have := obsT_one.1 ho
      unfold is64 at this
      split at this
      · exact ⟨_, rfl, rfl, hag⟩
      · exact this.elim
    · cases h
    · cases h
    · simp only [Option.some.injEq] at h
      subst h
      exact fin _ (obsT_one.1 ho)
  · cases h

theorem pickT_sel : ∀ (l : List AV) (x k : Nat) (r : R), (pickT l x k).sel = some r → ∃ j a, l[j]? = some a ∧ x = k + j ∧ r = ⟨[], a, []⟩
  | [], x, k, r, h => by simp [pickT, T.sel] at h
  | a :: l, x, k, r, h => by
    unfold pickT at h
    by_cases hx : x = k
    · subst hx
      simp only [decide_true, T.sel, Option.some.injEq] at h
      exact ⟨0, a, rfl, rfl, h.symm⟩
    · simp only [hx, decide_false, T.sel] at h
      obtain ⟨j, b, h1, h2, h3⟩ := pickT_sel l x (k + 1) r h
      exact ⟨j + 1, b, by simpa using h1, by omega, h3⟩
theorem aopS_sound {o : Oper} {args : List AV} {ev : Operand → Value} {fr : Nat} {hs : H} {r : R} {t : T} (hevc : ∀ v, ev (.const v) = v) (hargs : VRels κ args (o.op.operands.toList.map ev))
    (hΓ : COKs P gl Γ) (hG : GW gl w) (hMG : MOK gl M)
    (hr : HRel M w κ h) (hle : hs.le h) (hM : ∀ B, w.heap.size ≤ B → M B) (hf : ∀ i, fr ≤ i → i < fr + STR → κ.ρ i = none) (hgr : ∀ g, κ.ρ (GB + g) = some (g, 0)) (hfb : fr + STR ≤ GB)
    (ht : aopS P Γ o args fr hs = some t) (h0 : t.sel = some r) (hob : obsT r.ob) :
    OpPost P w (fun x w' => Good M w κ fr r.v (h.ups r.up) x w') ((execOp ev o).run P w) := by
  unfold aopS at ht
  split at ht
  · rename_i e ty x0 io i x sz c ix hop
    rw [hop] at hargs
    obtain ⟨xv, yv, hy, h1, h2⟩ := hargs.two
    simp [Op.operands] at hy
    obtain ⟨rfl, rfl⟩ := hy
    split at ht
    · rename_i n el hty
      split at ht
      · simp only [Option.bind_eq_some_iff, Option.map_eq_some_iff] at ht
        obtain ⟨⟨ob', j⟩, hj, inf, hi, rfl⟩ := ht
        simp only [T.sel, Option.some.injEq] at h0
        subst h0
        obtain ⟨ho1, ho2⟩ := obsT_append.1 hob
        have hlt := obsT_one.1 ho2
        obtain ⟨k, hk⟩ := opNat_rel h2 (fun v hv => by rw [hv, hevc]) hj ho1
        obtain ⟨B, O, hρ, hv⟩ := h1
        have hb : (0 : Int) ≤ (j : Int) ∧ (j : Int) < (n : Int) := by omega
        have hrun : (execOp ev o).run P w = .ok (.value (.pointer (some ⟨B, O + j * inf.size, none⟩))) w := by
          simp only [execOp, hop, hv, hk, Instr.indexAt, asIntOf, Instr.sureAddr, Sem.run_bind, Sem.run_pure, Result.andThen_ok, run_underlying hty, if_pos hb, run_sizeOf hi, Int.toNat_natCast, Addr.add_at, Nat.mul_zero, Nat.add_zero]
        rw [hrun]
        exact Good.same hr ⟨B, O, hρ, rfl⟩
      · cases ht
    · cases ht
  · rename_i e ty x0 io cs ix hop
    rw [hop] at hargs
    obtain ⟨xv, yv, hy, h1, h2⟩ := hargs.two
    simp [Op.operands] at hy
    obtain ⟨rfl, rfl⟩ := hy
    obtain ⟨us, hu, hus⟩ := h1
    split at ht
    · rename_i n el hty
      simp only [Option.bind_eq_some_iff] at ht
      obtain ⟨⟨ob', j⟩, hj, inf, hi, c, hc, ht⟩ := ht
      split at ht
      · rename_i hag
        split at ht
        · rename_i hcnd
          obtain ⟨hsz, hn⟩ := hcnd
          simp only [Option.bind_eq_some_iff] at ht
          obtain ⟨⟨ob2, q⟩, hq, ht⟩ := ht
          split at ht
          · rename_i a hqa
            simp only at hqa
            subst hqa
            simp only [Option.some.injEq] at ht
            subst ht
            simp only [T.sel, Option.some.injEq] at h0
            subst h0
            obtain ⟨ho1, ho2⟩ := obsT_append.1 hob
            obtain ⟨_, hat⟩ := read_at hq ho2
            have h3 := hat 0 a rfl
            rw [(symCells_at hc).1] at h3
            simp only [Nat.mul_one, Nat.add_zero] at h3
            obtain ⟨z, hz, hrel⟩ := hus.get h3
            have hjl : j < n := by rw [← hn]; exact (List.getElem?_eq_some_iff.1 h3).1
            obtain ⟨k, hk⟩ := opNat_rel h2 (fun v hv => by rw [hv, hevc]) hj ho1
            have hb : (0 : Int) ≤ (j : Int) ∧ (j : Int) < (n : Int) := by omega
            have hpart : (part el us j).run P w = .ok z w := by
              simp only [part, Sem.run_bind, run_isAgg hag, Result.andThen_ok]
              have : us[j]? = some z := by simpa using hz
              simp [this]
            have hrun : (execOp ev o).run P w = .ok (.value z) w := by
              simp only [execOp, hop, hu, hk, Instr.index, asIntOf, Sem.run_bind, Sem.run_pure, Result.andThen_ok, run_underlying hty, if_pos hb, run_sizeOf hi, Int.toNat_natCast, hsz, Nat.mul_one, hpart]
            rw [hrun]
            exact Good.same hr hrel
          · cases ht
        · cases ht
      · cases ht
    · cases ht
  · -- alloc
    rename_i e args0 el hop
    simp only [Option.map_eq_some_iff] at ht
    obtain ⟨z, hz, rfl⟩ := ht
    simp only [T.sel, Option.some.injEq] at h0
    subst h0
    obtain ⟨i, zv, hi, hzv, hrel⟩ := zeroCells_rel (κ := κ) hz
    have hrun : (execOp ev o).run P w = .ok (.value (.pointer (some ⟨w.heap.size, 0, none⟩))) (w.alloc (.cells zv.cells el)) := by
      simp only [execOp, hop, Instr.alloc, Sem.run_bind, zeroValue, typeInfo, run_program, Result.andThen_ok, hi, Sem.run_pure, hzv, newVar, run_newRow]
    rw [hrun]
    exact good_alloc (R := 0) (fz := (0, 0)) hr hf hM (fun h => by simp at h) (fun off a ha => by
      rw [(zCon_at _).1] at ha
      obtain ⟨x, hx, hv⟩ := hrel.get ha
      exact ⟨x, by simpa using hx, hv⟩) (.inl rfl) ⟨_, 0, Ker.put_self _ _ _ _, rfl⟩
  · -- load
    rename_i e ty x0 i x sz c hop
    have viaM : (aopM P Γ o [.ptr i x sz c] fr (symH hs i)).sel = some r → OpPost P w (fun x w' => Good M w κ fr r.v (h.ups r.up) x w') ((execOp ev o).run P w) := by
      intro h0
      have hi : (hs i).isSome = true := by
        cases hb : hs i with
        | some _ => rfl
        | none =>
          exfalso
          unfold aopM symH at h0
          rw [hop] at h0
          simp only [hb, Option.bind_none, T.ofR, T.sel, reduceCtorEq] at h0
      have hup : r.up = [] := by
        unfold aopM at h0
        rw [hop] at h0
        simp only at h0
        generalize symH hs i i = q at h0
        cases q with
        | none => simp [T.ofR, T.sel] at h0
        | some b =>
          simp only [Option.bind_some] at h0
          split at h0
          · generalize Con.read b.con x sz c _ = p at h0
            cases p with
            | none => simp [T.ofR, T.sel] at h0
            | some p =>
              simp only [Option.map_some, T.ofR, T.sel, Option.some.injEq] at h0
              rw [← h0]
          · generalize Con.read b.con x sz c _ = p at h0
            cases p with
            | none => simp [T.ofR, T.sel] at h0
            | some p =>
              simp only [Option.bind_some] at h0
              split at h0
              · simp only [T.ofR, T.sel, Option.some.injEq] at h0
                rw [← h0]
              · simp [T.ofR, T.sel] at h0
          · simp [T.ofR, T.sel] at h0
      have key := aopM_sound hevc hargs hΓ hG hMG (symH_rel hr i) (symH_le hle i hi) hM hf hgr hfb h0 hob
      rw [hup] at key ⊢
      refine OpPost.weak ?_ key
      rintro x w' ⟨κ', g1, g2, g3, g4, g5, g6⟩
      exact ⟨κ', g1, g2, g3, symH_back g4, g5, g6⟩
    have viaM' : some (aopM P Γ o [.ptr i x sz c] fr (symH hs i)) = some t → OpPost P w (fun x w' => Good M w κ fr r.v (h.ups r.up) x w') ((execOp ev o).run P w) := by
      intro ht
      simp only [Option.some.injEq] at ht
      subst ht
      exact viaM h0
    split at ht
    · rename_i b hb
      split at ht
      · rename_i n g hcon
        split at ht
        · rename_i q hq
          simp only [Option.some.injEq] at ht
          subst ht
          simp only [T.sel, Option.some.injEq] at h0
          subst h0
          rw [hop] at hargs
          obtain ⟨y, hy, hrel⟩ := hargs.one
          simp [Op.operands] at hy
          subst hy
          obtain ⟨hlt, hob⟩ := obsT_cons.1 hob
          obtain ⟨B, O, hρ, hv⟩ := hrel
          have hb' := hle i b hb
          obtain ⟨a, hga, hqa, hag⟩ := cellK_spec hq hob
          have hat : b.con.at x = some a := by
            rw [← (symCon_at b.con).1, hcon]
            simp only [Con.at, Nat.mul_one, Nat.div_one, Nat.mod_one]
            rw [if_pos hlt, hga]
            rfl
          obtain ⟨⟨z, hz, hrz⟩, _⟩ := hr.cells hb' hρ hat
          have hrun : (execOp ev o).run P w = .ok (.value z) w := by
            simp only [Nat.mul_one, Nat.add_zero] at hv
            simp [execOp, hop, hv, Instr.loadAt, Instr.sureAddr, loadVar, run_isAgg hag, hz]
          rw [hrun, hqa]
          exact Good.same hr hrz
        · exact viaM' ht
      · rename_i l hcon
        split at ht
        · rename_i hag
          simp only [Option.some.injEq] at ht
          subst ht
          obtain ⟨j, a, hj, hx, rfl⟩ := pickT_sel l x 0 r h0
          rw [Nat.zero_add] at hx
          subst hx
          rw [hop] at hargs
          obtain ⟨y, hy, hrel⟩ := hargs.one
          simp [Op.operands] at hy
          subst hy
          obtain ⟨B, O, hρ, hv⟩ := hrel
          have hb' := hle i b hb
          have hat : b.con.at x = some a := by
            rw [← (symCon_at b.con).1, hcon]
            exact hj
          obtain ⟨⟨z, hz, hrz⟩, _⟩ := hr.cells hb' hρ hat
          have hrun : (execOp ev o).run P w = .ok (.value z) w := by
            simp only [Nat.mul_one, Nat.add_zero] at hv
            simp [execOp, hop, hv, Instr.loadAt, Instr.sureAddr, loadVar, run_isAgg hag, hz]
          rw [hrun]
          exact Good.same hr hrz
        · exact viaM' ht
      · exact viaM' ht
    · exact viaM' ht
  · -- store
    rename_i e ty x0 y0 i x sz c a hop
    have viaM' : some (aopM P Γ o [.ptr i x sz c, a] fr (symH hs i)) = some t → OpPost P w (fun x w' => Good M w κ fr r.v (h.ups r.up) x w') ((execOp ev o).run P w) := by
      intro ht
      simp only [Option.some.injEq] at ht
      subst ht
      have hi : (hs i).isSome = true := by
        cases hb : hs i with
        | some _ => rfl
        | none =>
          exfalso
          unfold aopM symH at h0
          rw [hop] at h0
          simp only [hb, Option.bind_none] at h0
          split at h0
          · split at h0 <;> simp [T.ofR, T.sel] at h0
          · simp [T.ofR, T.sel] at h0
      have hup : ∃ b, r.up = [(i, b)] := by
        unfold aopM at h0
        rw [hop] at h0
        simp only at h0
        split at h0
        · split at h0
          · generalize symH hs i i = q at h0
            cases q with
            | none => simp [T.ofR, T.sel] at h0
            | some b =>
              simp only [Option.bind_some] at h0
              split at h0
              · generalize Con.write b.con x sz c _ = p at h0
                cases p with
                | none => simp [T.ofR, T.sel] at h0
                | some p =>
                  simp only [Option.map_some, T.ofR, T.sel, Option.some.injEq] at h0
                  rw [← h0]
                  exact ⟨_, rfl⟩
              · simp [T.ofR, T.sel] at h0
          · simp [T.ofR, T.sel] at h0
        · simp [T.ofR, T.sel] at h0
      obtain ⟨b1, hup⟩ := hup
      have key := aopM_sound hevc hargs hΓ hG hMG (symH_rel hr i) (symH_le hle i hi) hM hf hgr hfb h0 hob
      rw [hup] at key ⊢
      have e : (symH h i).ups [(i, b1)] = h.ups [(i, b1)] := by
        simp only [H.ups]
        unfold symH
        split
        · rw [upd_upd]
        · rfl
      rw [e] at key
      exact key
    split at ht
    · rename_i b hb
      split at ht
      · rename_i n g hcon
        split at ht
        · rename_i inf hinf
          split at ht
          · rename_i hc
            obtain ⟨hsz, hcs, hsc, hwr⟩ := hc
            simp only [Option.some.injEq] at ht
            subst ht
            simp only [T.sel, Option.some.injEq] at h0
            subst h0
            rw [hop] at hargs
            obtain ⟨xv, yv, hy, h1, h2⟩ := hargs.two
            simp [Op.operands] at hy
            obtain ⟨rfl, rfl⟩ := hy
            obtain ⟨hlt, hob⟩ := obsT_cons.1 hob
            have hlen := obsT_one.1 hob
            obtain ⟨B, O, hρ, hv⟩ := h1
            have hb' := hle i b hb
            have h7 := symH_rel hr i
            have hcells : a.cells = some [a] := by
              cases a <;> simp_all [AV.cells, AV.scal]
            obtain ⟨hc1, hc2⟩ := h2.cells hcells
            have hat : ∀ o, b.con.at o = (Con.rows 1 n g).at o := fun o => by rw [← (symCon_at b.con).1, hcon]
            have hW : WriteR b.con (.rows 1 n fun y => bif y == x then [a] else g y) x [a] := by
              refine ⟨fun j hj => ?_, ?_, fun j a' hj h => ?_, fun o a' ho h => ?_⟩
              · have : j = 0 := by simpa using hj
                subst this
                rw [hat]
                refine ⟨(g x)[0]'(by omega), ?_⟩
                simp only [Con.at, Nat.mul_one, Nat.div_one, Nat.mod_one, Nat.add_zero]
                rw [if_pos hlt]
                simp
              · rw [← (symCon_at b.con).2, hcon]; rfl
              · have : j = 0 := by simpa using hj
                subst this
                simp only [Con.at, Nat.mul_one, Nat.div_one, Nat.mod_one, Nat.add_zero] at h
                rw [if_pos hlt] at h
                simpa using h
              · rw [hat]
                simp only [Con.at, Nat.mul_one, Nat.div_one, Nat.mod_one, List.length_cons, List.length_nil] at h ho ⊢
                split at h
                · rename_i hlt'
                  rw [if_pos hlt']
                  have hne : (o == x) = false := by simp; omega
                  rwa [hne] at h
                · cases h
            obtain ⟨w', hrun, hr', ho⟩ := hr.over (P := P) hb' hwr hρ hW hc1 hc2
            have hsz2 : (ev y0).cells.size = inf.size := by
              have := hc1.length
              simp at this
              omega
            have hrun' : (execOp ev o).run P w = .ok .skip w' := by
              simp only [Nat.mul_one, Nat.add_zero] at hv
              simp only [execOp, hop, hv, Instr.storeAt, Instr.sureAddr, storeVar, Sem.run_bind, Sem.run_pure, Result.andThen_ok, run_sizeOf hinf]
              rw [if_neg (by simp; omega)]
              rw [hrun]
              rfl
            rw [hrun']
            exact Good.kept trivial hr' ho
          · exact viaM' ht
        · exact viaM' ht
      · exact viaM' ht
    · exact viaM' ht
  · cases ht
end
end Go.Sym

/- Knowing less, by other names. -/
namespace Go.Sym
set_option linter.unusedVariables false
set_option linter.unusedSimpArgs false

/-- How new names stand to old ones: which old one each is; which are of nil rows; which old ones nobody will write any more; may the others be looked on as still for a while? -/
structure Vw where
  σ : List (Nat × Nat)
  nil : List Nat
  fz : List Nat
  tmp : Bool
def look (i : Nat) : List (Nat × Nat) → Option Nat
  | [] => none
  | (a, b) :: l => if a = i then some b else look i l
def Vw.to (V : Vw) (i : Nat) : Option Nat := if GB ≤ i then some i else look i V.σ
def Vw.kept (V : Vw) (j : Nat) : Bool := V.σ.any fun p => p.2 == j
def Vw.still (V : Vw) (p : Bool) (j : Nat) : Bool := V.fz.contains j || (V.tmp && !p && !V.kept j)

def nlO (nl nl' : NL) : Option (List Prop) :=
  match nl, nl' with
  | .unk, _ => some []
  | .is b, .is b' => some [b = b']
  | .is _, .unk => none
/-- Of a slice: what isn't empty isn't nil. -/
def nlS (nl nl' : NL) (n : Nat) : Option (List Prop) :=
  match nl, nl' with
  | .unk, _ => some []
  | .is b, .is b' => some [b = b']
  | .is b, .unk => some [b = false, 0 < n]
def capO (c c' : Cap) : Option (List Prop) :=
  match c, c' with
  | .un, _ => some []
  | .kn a, .kn b => some [a = b]
  | .ow, .ow => some []
  | .os, .ow => some []
  | .os, .os => some []
  | .ox, .ox => some []
  | .ox, .ow => some []
  | _, _ => none
def optP : Option (List Prop) → Prop
  | some l => obsT l
  | none => False
def both (a b : Option (List Prop)) : Option (List Prop) :=
  match a, b with
  | some x, some y => some (x ++ y)
  | _, _ => none
def needs (b : Bool) (r : Option (List Prop)) : Option (List Prop) := match b with | true => r | false => none
/-- One place of cells is another one. -/
def offO (x sz c x' sz' c' : Nat) : List Prop := if sz = sz' then (if sz = 0 then [c = c'] else [x = x', c = c']) else [x * sz + c = x' * sz' + c']
theorem offO_spec {x sz c x' sz' c' : Nat} (h : obsT (offO x sz c x' sz' c')) : x * sz + c = x' * sz' + c' := by
  unfold offO at h
  split at h
  · rename_i he
    subst he
    split at h
    · rename_i h0; subst h0; simpa using obsT_one.1 h
    · obtain ⟨h1, h2⟩ := obsT_cons.1 h
      rw [h1, obsT_one.1 h2]
  · exact obsT_one.1 h

mutual
/-- What must hold for the second one to be at least what the first one says. -/
def leO (V : Vw) (h : H) : AV → AV → Option (List Prop)
  | .any, _ => some []
  | .bool b, a => match a with | .bool b' => some [b = b'] | _ => none
  | .u8 x, a => match a with | .u8 y => some [x = y] | _ => none
  | .u16 x, a => match a with | .u16 y => some [x = y] | _ => none
  | .u32 x, a => match a with | .u32 y => some [x = y] | _ => none
  | .u64 x, a => match a with | .u64 y => some [x = y] | _ => none
  | .int k n, a => match a with | .int k' m => if k = k' then some [n = m] else none | _ => none
  | .str l, a => match a with | .str l' => some [l = l'] | _ => none
  | .nilp, a => match a with | .nilp => some [] | _ => none
  | .nils, a => match a with | .nils => some [] | .slice _ _ _ _ _ (.is b) => some [b = true] | _ => none
  | .ptr i x sz c, a => match a with | .ptr j x' sz' c' => if V.to i = some j ∧ V.nil.contains i = false then some (offO x sz c x' sz' c') else none | _ => none
  | .slice i x sz n c nl, a =>
    match a with
    | .slice j x' sz' n' c' nl' =>
      if V.nil.contains i then none
      else if V.to i = some j then both (both (nlS nl nl' n') (capO c c')) (some (offO x sz 0 x' sz' 0 ++ (match c with | .ow => [x = 0, n = n'] | .os => [x = 0, n = n'] | .ox => [x = x', n = n'] | _ => [n = n']))) else none
    | .nils => needs (V.nil.contains i) (match x, c with | 0, .ow => both (nlO nl (.is true)) (some [n = 0]) | _, _ => none)
    | _ => none
  | .rb p l nl, a =>
    match a with
    | .nils => both (nlO nl (.is true)) (some [l = []])
    | .rb p' l' nl' => needs (p' || !p) (both (nlO nl nl') (some [l = l']))
    | .slice j x sz n c nl' =>
      match sz with
      | 0 => both (nlO nl nl') (some [n = 0, l = []])
      | _ => needs (V.still p j) (match srcBytes h (.slice j x sz n c nl') with | some (ob, l') => both (nlO nl nl') (some (ob ++ [l = l', n = l.length])) | none => none)
    | _ => none
  | .ros p sz n g nl, a =>
    match a with
    | .nils => both (nlO nl (.is true)) (some [n = 0])
    | .ros p' sz' n' g' nl' => needs ((p' || !p) && sz == sz') (both (nlO nl nl') (some [n = n', ∀ y, y < n → datas p (g y) = true ∧ optP (leOs V h (g y) (g' y))]))
    | .slice j x sz' n' c nl' =>
      match sz' with
      | 0 => both (nlO nl nl') (some [n = 0, n' = 0])
      | _ => needs (V.still p j && sz == sz') (match h j with
        | some b =>
          match b.con with
          | .rows sz2 n2 g2 => needs (sz2 == sz) (both (nlO nl nl') (some [n = n', x + n ≤ n2, ∀ y, y < n → datas p (g y) = true ∧ optP (leOs V h (g y) (g2 (plus x y))), ∀ y, y < n → (g2 (plus x y)).length ≤ sz]))
          | .cells l => needs (decide ((x + n') * sz ≤ l.length)) (both (nlO nl nl') (some [n = n', ∀ y, y < n → datas p (g y) = true ∧ optP (leOs V h (g y) (cut sz l (plus x y)))]))
          | _ => none
        | none => none)
    | _ => none
  | .rp p cs, a =>
    match a with
    | .rp p' cs' => needs ((p' || !p) && datas p cs) (leOs V h cs (cs'.take cs.length))
    | .ptr j x sz c => needs (V.still p j && datas p cs) (match h j with | some b => (match b.con.read x sz c cs.length with | some (ob, q) => both (some ob) (leOs V h cs q) | none => none) | none => none)
    | _ => none
  | .agg cs, a => match a with | .agg ds => leOs V h cs ds | _ => none
  | .tup cs, a => match a with | .tup ds => leOs V h cs ds | _ => none
  | .fn f x y, a => match a with | .fn f' x' y' => needs (f == f') (both (leOs V h x x') (leOs V h y y')) | _ => none
  | .raw u, a => match a with | .raw u' => some [u = u'] | _ => none
def leOs (V : Vw) (h : H) : List AV → List AV → Option (List Prop)
  | [], bs => match bs with | [] => some [] | _ => none
  | a :: as, bs => match bs with | [] => none | b :: bs => both (leO V h a b) (leOs V h as bs)
end

theorem both_spec {a b : Option (List Prop)} (h : optP (both a b)) : optP a ∧ optP b := by
  cases a <;> cases b <;> simp only [both, optP] at h ⊢
  exact obsT_append.1 h
theorem needs_spec {b : Bool} {r : Option (List Prop)} (h : optP (needs b r)) : b = true ∧ optP r := by
  cases b
  · exact h.elim
  · exact ⟨rfl, h⟩

/-- The new naming, and what is still. -/
structure VwR (V : Vw) (M : Nat → Prop) (w : World) (κ : Ker) (h : H) (κ2 : Ker) : Prop where
  ρ : ∀ i, κ2.ρ i = if V.nil.contains i then some (0, 0) else (V.to i).bind κ.ρ
  capn : ∀ i, V.nil.contains i = true → κ2.cap i = 0
  cap : ∀ i j, V.nil.contains i = false → V.to i = some j → κ2.cap i = κ.cap j
  m : ∀ p a x, κ.mem p a = some x → κ2.mem p a = some x
  fz : ∀ p j b B O a x, V.still p j = true → h j = some b → LiveB κ j b → κ.ρ j = some (B, O) → a.block = B → w.cell? a = some x → κ2.mem p a = some x

section
variable {V : Vw} {M : Nat → Prop} {w : World} {κ κ2 : Ker} {h : H}

theorem nlO_spec {nl nl' : NL} {a : Option Addr} (h : optP (nlO nl nl')) (ha : NLR nl' a) : NLR nl a := by
  cases nl <;> cases nl' <;> simp only [nlO, optP] at h <;> first | trivial | exact h.elim | skip
  rename_i b b'
  simp only [NLR] at ha ⊢
  rw [obsT_one.1 h]; exact ha

theorem nlS_spec {nl nl' : NL} {a : Option Addr} {n : Nat} (h : optP (nlS nl nl' n)) (ha : NLR nl' a) (hl : 0 < n → a.isNone = false) : NLR nl a := by
  cases nl with
  | unk => trivial
  | is b =>
    cases nl' with
    | is b' =>
      simp only [nlS, optP] at h
      simp only [NLR] at ha ⊢
      rw [obsT_one.1 h]; exact ha
    | unk =>
      simp only [nlS, optP] at h
      obtain ⟨h1, h2⟩ := obsT_cons.1 h
      simp only [NLR]
      rw [h1, hl (obsT_one.1 h2)]

/-- Cells that are still lie so in the new view. -/
theorem still_lies (vr : VwR V M w κ h κ2) {p : Bool} {j : Nat} {b : ABlk} {B O off : Nat} {xs : List Value} (hs : V.still p j = true) (hb : h j = some b) (hρ : κ.ρ j = some (B, O)) (hl : xs ≠ [] → LiveB κ j b) (hx : Lies w B (O + off) xs) :
    ∀ (c : Nat) x, xs[c]? = some x → κ2.mem p ⟨B, O + off + c, none⟩ = some x := by
  intro c x hc
  refine vr.fz p j b B O _ x hs hb (hl ?_) hρ rfl (hx c x hc)
  intro he
  rw [he] at hc
  simp at hc

mutual
theorem leO_sound (hr : HRel M w κ h) (vr : VwR V M w κ h κ2) : ∀ (a2 a : AV) (v : Value), optP (leO V h a2 a) → VRel κ a v → VRel κ2 a2 v
  | .any, _, _, _, _ => trivial
  | .bool b, a, v, ho, hv => by
    cases a <;> simp only [leO, optP] at ho <;> first | exact ho.elim | skip
    have := obsT_one.1 ho
    subst this; exact hv
  | .u8 b, a, v, ho, hv => by
    cases a <;> simp only [leO, optP] at ho <;> first | exact ho.elim | skip
    have := obsT_one.1 ho
    subst this; exact hv
  | .u16 b, a, v, ho, hv => by
    cases a <;> simp only [leO, optP] at ho <;> first | exact ho.elim | skip
    have := obsT_one.1 ho
    subst this; exact hv
  | .u32 b, a, v, ho, hv => by
    cases a <;> simp only [leO, optP] at ho <;> first | exact ho.elim | skip
    have := obsT_one.1 ho
    subst this; exact hv
  | .u64 b, a, v, ho, hv => by
    cases a <;> simp only [leO, optP] at ho <;> first | exact ho.elim | skip
    have := obsT_one.1 ho
    subst this; exact hv
  | .int k n, a, v, ho, hv => by
    cases a <;> simp only [leO] at ho <;> first | exact ho.elim | skip
    split at ho
    · rename_i hk
      subst hk
      have := obsT_one.1 ho
      subst this; exact hv
    · exact ho.elim
  | .str l, a, v, ho, hv => by
    cases a <;> simp only [leO, optP] at ho <;> first | exact ho.elim | skip
    have := obsT_one.1 ho
    subst this; exact hv
  | .nilp, a, v, ho, hv => by
    cases a <;> simp only [leO, optP] at ho <;> first | exact ho.elim | skip
    exact hv
  | .nils, a, v, ho, hv => by
    cases a <;> simp only [leO] at ho <;> first | exact ho.elim | skip
    · exact hv
    · rename_i nl0
      cases nl0 with
      | unk => exact ho.elim
      | is b =>
        have := obsT_one.1 ho
        subst this
        obtain ⟨ad, k, h1, h2, h3, h4, h5⟩ := hv
        simp only [NLR] at h3
        have hn : ad = none := by cases ad with | none => rfl | some _ => simp at h3
        subst hn
        rcases h5 with ⟨B, O, _, e⟩ | ⟨h6, h7⟩
        · cases e
        · subst h6 h7; exact h1
  | .ptr i x sz c, a, v, ho, hv => by
    cases a <;> simp only [leO] at ho <;> first | exact ho.elim | skip
    split at ho
    · rename_i j x' sz' c' hc
      obtain ⟨hi, hn⟩ := hc
      have he := offO_spec ho
      obtain ⟨B, O, h1, h2⟩ := hv
      refine ⟨B, O, ?_, by rw [he]; exact h2⟩
      rw [vr.ρ, if_neg (by rw [hn]; decide), hi]
      exact h1
    · exact ho.elim
  | .slice i x sz n c nl, a, v, ho, hv => by
    cases a <;> simp only [leO] at ho <;> first | exact ho.elim | skip
    · replace ho := needs_spec ho
      obtain ⟨hn, ho⟩ := ho
      split at ho
      · obtain ⟨ho1, ho2⟩ := both_spec ho
        have e1 := obsT_one.1 ho2
        subst e1
        simp only [VRel] at hv
        exact ⟨none, 0, hv, Nat.le_refl _, nlO_spec ho1 rfl, ⟨rfl, (vr.capn i hn).symm, by rw [vr.ρ, if_pos hn]; rfl⟩, .inr ⟨rfl, rfl⟩⟩
      · exact ho.elim
    rename_i j x' sz' n' c' nl'
    obtain ⟨ad, k, h1, h2, h3, h4, h5⟩ := hv
    split at ho
    · exact ho.elim
    · rename_i hn
      have hn : V.nil.contains i = false := by simpa using hn
      split at ho
      · rename_i hi
        obtain ⟨ho12, ho3⟩ := both_spec ho
        obtain ⟨ho1, ho2⟩ := both_spec ho12
        obtain ⟨ho3, ho4⟩ := obsT_append.1 ho3
        have he := offO_spec ho3
        simp only [Nat.add_zero] at he
        have hnn : n = n' := by
          cases c with
          | ow => exact obsT_one.1 (obsT_cons.1 ho4).2
          | os => exact obsT_one.1 (obsT_cons.1 ho4).2
          | ox => exact obsT_one.1 (obsT_cons.1 ho4).2
          | _ => exact obsT_one.1 ho4
        subst hnn
        have hρ : κ2.ρ i = κ.ρ j := by rw [vr.ρ, if_neg (by rw [hn]; decide), hi]; rfl
        refine ⟨ad, k, h1, h2, nlS_spec ho1 h3 (fun hp => h5.elim (fun ⟨B, O, e1, e2⟩ => by rw [e2]; rfl) (fun h0 => by omega)), ?_, ?_⟩
        · cases c with
          | un => trivial
          | kn q =>
            cases c' <;> simp only [capO, optP] at ho2 <;> first | exact ho2.elim | skip
            simp only [CapR] at h4 ⊢
            rw [obsT_one.1 ho2]; exact h4
          | ow =>
            cases c' <;> simp only [capO, optP] at ho2 <;> first | exact ho2.elim | skip
            obtain ⟨e1, e2, e3⟩ := h4
            exact ⟨(obsT_cons.1 ho4).1, by rw [vr.cap i j hn hi]; exact e2, by rw [hρ]; exact e3⟩
          | os =>
            cases c' <;> simp only [capO, optP] at ho2 <;> first | exact ho2.elim | skip
            · obtain ⟨e1, e2, e3⟩ := h4
              exact ⟨(obsT_cons.1 ho4).1, by rw [vr.cap i j hn hi]; exact e2, by rw [hρ]; exact e3⟩
            · obtain ⟨e1, e2, e3⟩ := h4
              exact ⟨(obsT_cons.1 ho4).1, by rw [vr.cap i j hn hi]; exact e2, by rw [hρ]; exact e3⟩
          | ox =>
            have hxx := (obsT_cons.1 ho4).1
            cases c' <;> simp only [capO, optP] at ho2 <;> first | exact ho2.elim | skip
            · obtain ⟨e1, e2, e3⟩ := h4
              exact ⟨by rw [vr.cap i j hn hi]; omega, by rw [hρ]; exact e3⟩
            · obtain ⟨e2, e3⟩ := h4
              exact ⟨by rw [vr.cap i j hn hi]; omega, by rw [hρ]; exact e3⟩
        · rcases h5 with ⟨B, O, e1, e2⟩ | h0
          · exact .inl ⟨B, O, by rw [hρ]; exact e1, by rw [he]; exact e2⟩
          · exact .inr h0
      · exact ho.elim
  | .rb p l nl, a, v, ho, hv => by
    cases a <;> simp only [leO] at ho <;> first | exact ho.elim | skip
    · obtain ⟨ho1, ho2⟩ := both_spec ho
      have e1 := obsT_one.1 ho2
      subst e1
      simp only [VRel] at hv
      exact ⟨none, 0, hv, Nat.le_refl _, nlO_spec ho1 rfl, .inl rfl⟩
    · rename_i j x sz n c nl'
      split at ho
      · obtain ⟨ho1, ho2⟩ := both_spec ho
        obtain ⟨e1, e2⟩ := obsT_cons.1 ho2
        have e2 := obsT_one.1 e2
        subst e1 e2
        obtain ⟨ad, k, h1, h2, h3, _⟩ := hv
        exact ⟨ad, k, h1, h2, nlO_spec ho1 h3, .inl rfl⟩
      · replace ho := needs_spec ho
        obtain ⟨hst, ho⟩ := ho
        split at ho
        · rename_i ob l' hsb
          obtain ⟨ho1, ho2⟩ := both_spec ho
          obtain ⟨hoA, ho3⟩ := obsT_append.1 ho2
          clear ho2
          obtain ⟨e1, e2⟩ := obsT_cons.1 ho3
          have e2 := obsT_one.1 e2
          subst e1 e2
          have hrd := srcBytes_rel hr hsb hoA hv
          have hv' := hv
          obtain ⟨ad, k, h1, h2, h3, h4, h5⟩ := hv
          refine ⟨ad, k, h1, h2, nlO_spec ho1 h3, ?_⟩
          obtain ⟨_, ⟨s, hs, _⟩ | ⟨a', k', hs, hloc⟩⟩ := hrd
          · rw [h1] at hs; cases hs
          · rw [h1] at hs
            simp only [Value.slice.injEq] at hs
            obtain ⟨rfl, _, rfl⟩ := hs
            rcases hloc with h0 | ⟨B, O, rfl, hlie⟩
            · exact .inl (List.eq_nil_of_length_eq_zero h0)
            · by_cases hl0 : l = []
              · exact .inl hl0
              · right
                rcases h5 with ⟨B1, O1, e1, e2⟩ | ⟨h0, _⟩
                · simp only [Option.some.injEq, Addr.mk.injEq] at e2
                  obtain ⟨rfl, rfl, _⟩ := e2
                  -- the block is live: it has bytes
                  have hblk : ∃ b, h j = some b ∧ LiveB κ j b := by
                    unfold srcBytes at hsb
                    split at hsb
                    · rename_i hh; cases hh
                    · rename_i hh; cases hh
                    · rename_i hh; cases hh
                    · rename_i i0 x0 sz0 n0 c0 nl0 hh
                      simp only [AV.slice.injEq] at hh
                      obtain ⟨rfl, rfl, rfl, hnn, rfl, rfl⟩ := hh
                      split at hsb
                      · simp only [Option.some.injEq, Prod.mk.injEq] at hsb
                        exact absurd hsb.2.symm hl0
                      · simp only [Option.bind_eq_some_iff] at hsb
                        obtain ⟨b, hb, hsb⟩ := hsb
                        refine ⟨b, hb, ?_⟩
                        split at hsb
                        · rename_i l0 hcon
                          have hpos : 0 < l.length := List.length_pos_iff.2 hl0
                          have : 0 < l0.length := by
                            split at hsb
                            · simp only [Option.some.injEq, Prod.mk.injEq] at hsb
                              rw [hsb.2]; exact hpos
                            · simp only [Option.some.injEq, Prod.mk.injEq] at hsb
                              rw [dropN_eq] at hsb
                              rw [← hsb.2] at hpos
                              simp at hpos
                              omega
                          exact .inl ⟨0, .u8 l0[0], by rw [hcon]; simp [Con.at, this]⟩
                        · rename_i l0 hcon
                          split at hsb
                          · rename_i hlen
                            simp only [Option.map_eq_some_iff, Prod.mk.injEq] at hsb
                            obtain ⟨q, hq, _, rfl⟩ := hsb
                            have hq2 := rdU8_eq hq
                            have hpos : 0 < q.length := List.length_pos_iff.2 hl0
                            have : 0 < l0.length := by
                              have h7 := congrArg List.length hq2
                              simp at h7
                              omega
                            exact .inl ⟨0, l0[0], by rw [hcon]; simp [Con.at, this]⟩
                          · cases hsb
                        · cases hsb
                      · cases hsb
                    · rename_i hh
                      exact absurd rfl (hh _ _ _ _ _ _)
                  obtain ⟨b, hb, hlv⟩ := hblk
                  refine ⟨_, _, rfl, fun q b' hq => ?_⟩
                  have h7 := still_lies vr (off := x * sz) (xs := u8s l) hst hb e1 (fun _ => hlv) hlie
                  exact h7 q _ (u8s_get.2 ⟨b', hq, rfl⟩)
                · exact absurd (List.eq_nil_of_length_eq_zero h0) hl0
        · exact ho.elim
    · rename_i p' l' nl'
      replace ho := needs_spec ho
      obtain ⟨hp, ho⟩ := ho
      obtain ⟨ho1, ho2⟩ := both_spec ho
      have e := obsT_one.1 ho2
      subst e
      obtain ⟨ad, k, h1, h2, h3, h4⟩ := hv
      refine ⟨ad, k, h1, h2, nlO_spec ho1 h3, ?_⟩
      rcases h4 with h0 | ⟨B, O, e1, e2⟩
      · exact .inl h0
      · refine .inr ⟨B, O, e1, fun q b hq => ?_⟩
        have := vr.m p' _ _ (e2 q b hq)
        cases p' <;> cases p <;> simp at hp <;> first | exact this | exact κ2.sub _ _ this
  | .ros p sz n g nl, a, v, ho, hv => by
    have low : ∀ {p' : Bool} {a x}, (p' || !p) = true → κ2.mem p' a = some x → κ2.mem p a = some x := by
      intro p' a x hp hx
      cases p' <;> cases p <;> simp at hp <;> first | exact hx | exact κ2.sub _ _ hx
    cases a <;> simp only [leO] at ho <;> first | exact ho.elim | skip
    · obtain ⟨ho1, ho2⟩ := both_spec ho
      have e1 := obsT_one.1 ho2
      subst e1
      simp only [VRel] at hv
      exact ⟨none, 0, hv, Nat.le_refl _, nlO_spec ho1 rfl, .inl rfl⟩
    · rename_i j x sz' n' c nl'
      split at ho
      · obtain ⟨ho1, ho2⟩ := both_spec ho
        obtain ⟨e1, e2⟩ := obsT_cons.1 ho2
        have e2 := obsT_one.1 e2
        subst e1 e2
        obtain ⟨ad, k, h1, h2, h3, _⟩ := hv
        exact ⟨ad, k, h1, h2, nlO_spec ho1 h3, .inl rfl⟩
      · replace ho := needs_spec ho
        obtain ⟨hst, ho⟩ := ho
        simp only [Bool.and_eq_true, beq_iff_eq] at hst
        obtain ⟨hst, rfl⟩ := hst
        split at ho
        · rename_i b hb
          obtain ⟨⟨B0, O0⟩, hρ0⟩ := hr.named hb
          split at ho
          · rename_i sz2 n2 g2 hcon
            replace ho := needs_spec ho
            obtain ⟨hsz, ho⟩ := ho
            have hsz : sz2 = sz := by simpa using hsz
            subst hsz
            obtain ⟨ho1, ho2⟩ := both_spec ho
            obtain ⟨e1, hoA⟩ := obsT_cons.1 ho2
            obtain ⟨hle, hoB⟩ := obsT_cons.1 hoA
            obtain ⟨hrow, hoC⟩ := obsT_cons.1 hoB
            have hshort := obsT_one.1 hoC
            subst e1
            obtain ⟨ad, k, h1, h2, h3, h4, h5⟩ := hv
            refine ⟨ad, k, h1, h2, nlO_spec ho1 h3, ?_⟩
            rcases h5 with ⟨B, O, e1, rfl⟩ | ⟨h0, _⟩
            · right
              refine ⟨B, O + x * sz2, rfl, fun y hy => ?_⟩
              have hs := hshort y hy
              rw [plus_eq] at hs
              obtain ⟨xs, k1, k2⟩ := rel_list (κ := κ) (w := w) (B := B) (p := O + (x + y) * sz2) (g2 (x + y)) 0 (fun c a hc => by
                have hcl : c < sz2 := by have := (List.getElem?_eq_some_iff.1 hc).1; omega
                have := (hr.cells hb e1 (off := (x + y) * sz2 + 0 + c) (a := a) (by rw [hcon]; exact row_at (by omega) (by omega) (by simpa using hc))).1
                rwa [show O + (x + y) * sz2 + (0 + c) = O + ((x + y) * sz2 + 0 + c) by omega])
              obtain ⟨hd, hr2⟩ := hrow y hy
              rw [plus_eq] at hr2
              refine ⟨hd, xs, leOs_sound hr vr (g y) (g2 (x + y)) xs hr2 k1, fun c z hz => ?_⟩
              have h7 := still_lies vr (off := (x + y) * sz2) (xs := xs) hst hb e1 (fun hne => by
                have hl := k1.length
                cases hgx : g2 (x + y) with
                | nil => rw [hgx] at hl; exact absurd (List.eq_nil_of_length_eq_zero hl.symm) hne
                | cons a0 as0 =>
                  have h0s : 0 < sz2 := by rw [hgx] at hs; simp at hs; omega
                  exact .inl ⟨_, a0, by rw [hcon]; exact row_at (x := x + y) (c := 0) (j := 0) (by omega) (by omega) (by rw [hgx]; rfl)⟩) (by simpa using k2) c z hz
              rw [Nat.add_mul] at h7
              rwa [show O + x * sz2 + (y * sz2 + c) = O + (x * sz2 + y * sz2) + c by omega]
            · exact .inl h0
          · rename_i l hcon
            replace ho := needs_spec ho
            obtain ⟨hle, ho⟩ := ho
            have hle : (x + n') * sz ≤ l.length := by simpa using hle
            obtain ⟨ho1, ho2⟩ := both_spec ho
            obtain ⟨e1, hoA⟩ := obsT_cons.1 ho2
            have hrow := obsT_one.1 hoA
            subst e1
            obtain ⟨ad, k, h1, h2, h3, h4, h5⟩ := hv
            refine ⟨ad, k, h1, h2, nlO_spec ho1 h3, ?_⟩
            rcases h5 with ⟨B, O, e1, rfl⟩ | ⟨h0, _⟩
            · right
              refine ⟨B, O + x * sz, rfl, fun y hy => ?_⟩
              have hget : ∀ c a, (cut sz l (x + y))[c]? = some a → l[(x + y) * sz + c]? = some a := by
                intro c a hc
                unfold cut at hc
                rw [List.getElem?_take] at hc
                split at hc
                · rw [List.getElem?_drop] at hc; exact hc
                · cases hc
              obtain ⟨xs, k1, k2⟩ := rel_list (κ := κ) (w := w) (B := B) (p := O + (x + y) * sz) (cut sz l (x + y)) 0 (fun c a hc => by
                have := (hr.cells hb e1 (off := (x + y) * sz + c) (a := a) (by rw [hcon]; exact hget c a hc)).1
                rwa [show O + (x + y) * sz + (0 + c) = O + ((x + y) * sz + c) by omega])
              obtain ⟨hd, hr2⟩ := hrow y hy
              rw [plus_eq] at hr2
              refine ⟨hd, xs, leOs_sound hr vr (g y) (cut sz l (x + y)) xs hr2 k1, fun c z hz => ?_⟩
              have h7 := still_lies vr (off := (x + y) * sz) (xs := xs) hst hb e1 (fun hne => by
                have hl := k1.length
                cases hgx : cut sz l (x + y) with
                | nil => rw [hgx] at hl; exact absurd (List.eq_nil_of_length_eq_zero hl.symm) hne
                | cons a0 as0 => exact .inl ⟨(x + y) * sz + 0, a0, by rw [hcon]; exact hget 0 a0 (by rw [hgx]; rfl)⟩) (by simpa using k2) c z hz
              rw [Nat.add_mul] at h7
              rwa [show O + x * sz + (y * sz + c) = O + (x * sz + y * sz) + c by omega]
            · exact .inl h0
          · exact ho.elim
        · exact ho.elim
    · rename_i p' sz' n' g' nl'
      replace ho := needs_spec ho
      obtain ⟨hp, ho⟩ := ho
      simp only [Bool.and_eq_true, beq_iff_eq] at hp
      obtain ⟨hp, rfl⟩ := hp
      obtain ⟨ho1, ho2⟩ := both_spec ho
      obtain ⟨e1, hoA⟩ := obsT_cons.1 ho2
      have hrow := obsT_one.1 hoA
      subst e1
      obtain ⟨ad, k, h1, h2, h3, h4⟩ := hv
      refine ⟨ad, k, h1, h2, nlO_spec ho1 h3, ?_⟩
      rcases h4 with h0 | ⟨B, O, e1, e2⟩
      · exact .inl h0
      · refine .inr ⟨B, O, e1, fun y hy => ?_⟩
        obtain ⟨_, xs, k1, k2⟩ := e2 y hy
        exact ⟨(hrow y hy).1, xs, leOs_sound hr vr (g y) (g' y) xs (hrow y hy).2 k1, fun c z hz => low hp (vr.m p' _ _ (k2 c z hz))⟩
  | .rp p cs, a, v, ho, hv => by
    have low : ∀ {p' : Bool} {a x}, (p' || !p) = true → κ2.mem p' a = some x → κ2.mem p a = some x := by
      intro p' a x hp hx
      cases p' <;> cases p <;> simp at hp <;> first | exact hx | exact κ2.sub _ _ hx
    cases a <;> simp only [leO] at ho <;> first | exact ho.elim | skip
    · rename_i j x sz c
      replace ho := needs_spec ho
      obtain ⟨hst, ho⟩ := ho
      rw [Bool.and_eq_true] at hst
      obtain ⟨hst, hdt⟩ := hst
      split at ho
      · rename_i b hb
        split at ho
        · rename_i ob q hq
          obtain ⟨ho1, ho2⟩ := both_spec ho
          obtain ⟨B, O, e1, e2⟩ := hv
          obtain ⟨xs, k1, k2, k3⟩ := read_rel hr hb e1 hq ho1
          refine ⟨hdt, B, O + (x * sz + c), xs, e2, leOs_sound hr vr cs q xs ho2 k1, fun d z hz => ?_⟩
          refine still_lies vr (off := x * sz + c) (xs := xs) hst hb e1 (fun hne => ?_) k3 d z hz
          obtain ⟨hl, hat⟩ := read_at hq ho1
          cases q with
          | nil =>
            have := k1.length
            exact absurd (List.eq_nil_of_length_eq_zero this.symm) hne
          | cons a0 q => exact .inl ⟨_, a0, hat 0 a0 rfl⟩
        · exact ho.elim
      · exact ho.elim
    · rename_i p' cs'
      replace ho := needs_spec ho
      obtain ⟨hp, ho⟩ := ho
      rw [Bool.and_eq_true] at hp
      obtain ⟨hp, hdt⟩ := hp
      obtain ⟨_, B, O, xs, e1, e2, e3⟩ := hv
      refine ⟨hdt, B, O, xs.take cs.length, e1, leOs_sound hr vr cs _ _ ho (e2.take _), fun d z hz => ?_⟩
      rw [List.getElem?_take] at hz
      split at hz
      · exact low hp (vr.m p' _ _ (e3 d z hz))
      · cases hz
  | .agg cs, a, v, ho, hv => by
    cases a <;> simp only [leO] at ho <;> first | exact ho.elim | skip
    obtain ⟨vs, h1, h2⟩ := hv
    exact ⟨vs, h1, leOs_sound hr vr cs _ _ ho h2⟩
  | .tup cs, a, v, ho, hv => by
    cases a <;> simp only [leO] at ho <;> first | exact ho.elim | skip
    obtain ⟨vs, h1, h2⟩ := hv
    exact ⟨vs, h1, leOs_sound hr vr cs _ _ ho h2⟩
  | .fn f x y, a, v, ho, hv => by
    cases a <;> simp only [leO] at ho <;> first | exact ho.elim | skip
    replace ho := needs_spec ho
    obtain ⟨hf, ho⟩ := ho
    have hf := by simpa using hf
    subst hf
    obtain ⟨ho1, ho2⟩ := both_spec ho
    obtain ⟨vs, us, h1, h2, h3⟩ := hv
    exact ⟨vs, us, h1, leOs_sound hr vr x _ _ ho1 h2, leOs_sound hr vr y _ _ ho2 h3⟩
  | .raw u, a, v, ho, hv => by
    cases a <;> simp only [leO, optP] at ho <;> first | exact ho.elim | skip
    have := obsT_one.1 ho
    subst this; exact hv
theorem leOs_sound (hr : HRel M w κ h) (vr : VwR V M w κ h κ2) : ∀ (as bs : List AV) (vs : List Value), optP (leOs V h as bs) → VRels κ bs vs → VRels κ2 as vs
  | [], bs, vs, ho, hv => by
    cases bs with
    | nil => exact hv
    | cons b bs => exact ho.elim
  | a :: as, bs, vs, ho, hv => by
    cases bs with
    | nil => exact ho.elim
    | cons b bs =>
      simp only [leOs] at ho
      obtain ⟨ho1, ho2⟩ := both_spec ho
      obtain ⟨x, xs, h1, h2, h3⟩ := hv
      exact ⟨x, xs, h1, leO_sound hr vr a b x ho1 h2, leOs_sound hr vr as bs xs ho2 h3⟩
end
end
end Go.Sym

/- What is given up for good. -/
namespace Go.Sym
set_option linter.unusedVariables false
set_option linter.unusedSimpArgs false

theorem H.ups_append : ∀ (l k : List (Nat × Option ABlk)) (h : H), h.ups (l ++ k) = (h.ups l).ups k
  | [], _, _ => rfl
  | (i, b) :: l, k, h => by simp only [List.cons_append, H.ups]; exact H.ups_append l k _
theorem H.upd_mono {hs h : H} (hle : hs.le h) (i : Nat) (b : Option ABlk) : (upd hs i b).le (upd h i b) := by
  intro j c hj
  unfold upd at hj ⊢
  split
  · rename_i he; rw [if_pos he] at hj; exact hj
  · rename_i he; rw [if_neg he] at hj; exact hle j c hj
theorem H.ups_mono : ∀ (l : List (Nat × Option ABlk)) {hs h : H}, hs.le h → (hs.ups l).le (h.ups l)
  | [], _, _, hle => hle
  | (i, b) :: l, _, _, hle => by simp only [H.ups]; exact H.ups_mono l (H.upd_mono hle i b)

theorem srcBytes_len {h : H} {a : AV} {ob : List Prop} {l : List (BitVec 8)} {i x sz n : Nat} {c : Cap} {nl : NL} (ha : a = .slice i x sz n c nl) (hs : srcBytes h a = some (ob, l)) (ho : obsT ob) (hne : sz ≠ 0) : n = l.length := by
  subst ha
  unfold srcBytes at hs
  split at hs
  · rename_i hh; cases hh
  · rename_i hh; cases hh
  · rename_i hh; cases hh
  · rename_i i0 x0 sz0 n0 c0 nl0 hh
    simp only [AV.slice.injEq] at hh
    obtain ⟨rfl, rfl, rfl, rfl, rfl, rfl⟩ := hh
    split at hs
    · exact absurd rfl hne
    · simp only [Option.bind_eq_some_iff] at hs
      obtain ⟨b, hb, hs⟩ := hs
      split at hs
      · split at hs
        · simp only [Option.some.injEq, Prod.mk.injEq] at hs
          obtain ⟨rfl, rfl⟩ := hs
          exact obsT_one.1 ho
        · simp only [Option.some.injEq, Prod.mk.injEq] at hs
          obtain ⟨rfl, rfl⟩ := hs
          have := obsT_one.1 ho
          rw [dropN_eq]
          simp; omega
      · split at hs
        · rename_i hlen
          simp only [Option.map_eq_some_iff, Prod.mk.injEq] at hs
          obtain ⟨q, hq, _, rfl⟩ := hs
          have := congrArg List.length (rdU8_eq hq)
          simp at this
          rw [List.length_take, List.length_drop] at hlen
          omega
        · cases hs
      · cases hs
    · cases hs
  · rename_i hh; exact absurd rfl (hh _ _ _ _ _ _)

theorem nlO_refl (nl : NL) : optP (nlO nl nl) := by cases nl <;> simp [nlO, optP, obsT, obsP]
theorem both_intro {a b : Option (List Prop)} (h1 : optP a) (h2 : optP b) : optP (both a b) := by
  cases a <;> cases b <;> first | exact h1.elim | exact h2.elim | exact obsT_append.2 ⟨h1, h2⟩


section
variable {M : Nat → Prop} {w : World} {κ : Ker} {h hs : H}

theorem HRel.frz (r : HRel M w κ h) {i : Nat} {b : ABlk} (hi : h i = some b) (hw : b.wr = true) :
    ∃ κ' : Ker, κ.le κ' ∧ κ'.ρ = κ.ρ ∧ κ'.cap = κ.cap ∧ HRel M w κ' (upd h i (some ⟨b.con, false, 0⟩)) ∧
      (∀ p B O a x, LiveB κ i b → κ.ρ i = some (B, O) → a.block = B → w.cell? a = some x → κ'.mem p a = some x) ∧ (∀ a y, κ'.m a = some y → κ.m a = some y ∨ M a.block) := by
  have hwk : HRel M w κ (upd h i (some ⟨b.con, false, 0⟩)) := r.wk (b' := ⟨b.con, false, 0⟩) hi (fun _ _ h => h) rfl rfl
  by_cases hl : LiveB κ i b
  · obtain ⟨B, O, h1, h2, h3⟩ := r.blk i b hi
    obtain ⟨hM, hlt, hmk, hv⟩ := h2 hw hl
    have hle : κ.le ⟨κ.ρ, κ.cap, fun a => if a.block = B then w.cell? a else κ.m a, fun a => if a.block = B then w.cell? a else κ.v a, fun a x hx => by
        split at hx
        · rename_i he; rw [if_pos he]; exact hx
        · rename_i he; rw [if_neg he]; exact κ.sub a x hx⟩ := by
      refine ⟨fun _ _ h => h, fun _ _ => rfl, fun a x hx => ?_, fun a x hx => ?_⟩
      · simp only
        split
        · exact r.mem a x (κ.sub a x hx)
        · exact hx
      · simp only
        split
        · exact r.mem a x hx
        · exact hx
    refine ⟨_, hle, rfl, rfl, ?_, ?_, ?_⟩
    · refine hwk.ker hle (fun a x hx => ?_) ?_
      · simp only at hx
        split at hx
        · exact hx
        · exact r.mem a x hx
      · intro j c B' O' hj hc hlj hρ a x hx
        unfold upd at hj
        split at hj
        · simp only [Option.some.injEq] at hj
          subst hj
          cases hc
        · rename_i hne
          simp only at hx
          split at hx
          · rename_i he
            rw [he]
            exact Ne.symm (r.sep j i c b B' O' B O hj hi hne hc hlj hl hρ h1)
          · obtain ⟨B2, O2, k1, k2, _⟩ := r.blk j c hj
            rw [hρ] at k1
            simp only [Option.some.injEq, Prod.mk.injEq] at k1
            obtain ⟨rfl, rfl⟩ := k1
            exact (k2 hc hlj).2.2.2 a x hx
    · intro p B' O' a x _ hρ ha hx
      rw [h1] at hρ
      simp only [Option.some.injEq, Prod.mk.injEq] at hρ
      obtain ⟨rfl, rfl⟩ := hρ
      cases p <;> simp only [Ker.mem, if_pos ha] <;> exact hx
    · intro a y hy
      simp only at hy
      split at hy
      · rename_i he; right; rw [he]; exact hM
      · exact .inl hy
  · exact ⟨κ, κ.le_refl, rfl, rfl, hwk, fun p B O a x h => absurd h hl, fun a y h => .inl h⟩


theorem plus_eq' (x n : Nat) : plus x n = x + n := by unfold plus; split <;> simp
theorem datas_take {p : Bool} : ∀ (n : Nat) {as : List AV}, datas p as = true → datas p (as.take n) = true
  | 0, _, _ => rfl
  | n + 1, [], _ => rfl
  | n + 1, a :: as, h => by
    simp only [datas, Bool.and_eq_true, List.take_succ_cons] at h ⊢
    exact ⟨h.1, datas_take n h.2⟩
theorem rows_frz {κ' : Ker} (hr : HRel M w κ h) {i : Nat} {b : ABlk} (hb : h i = some b) (k1 : κ.le κ')
    (k5 : ∀ p B O a x, LiveB κ i b → κ.ρ i = some (B, O) → a.block = B → w.cell? a = some x → κ'.mem p a = some x)
    {x sz n : Nat} {c : Cap} {nl : NL} {v : Value} {g : Nat → List AV} (hv : VRel κ (.slice i x sz n c nl) v)
    (hd : ∀ y, y < n → datas true (g y) = true) (hg : ∀ y c a, y < n → (g y)[c]? = some a → b.con.at ((x + y) * sz + c) = some a) : VRel κ' (.ros true sz n g nl) v := by
  obtain ⟨ad, k, h1, h2, h3, h4, h5⟩ := hv
  refine ⟨ad, k, h1, h2, h3, ?_⟩
  rcases h5 with ⟨B, O, e1, rfl⟩ | ⟨h0, _⟩
  · right
    refine ⟨B, O + x * sz, rfl, fun y hy => ?_⟩
    obtain ⟨xs, j1, j2⟩ := rel_list (κ := κ) (w := w) (B := B) (p := O + (x + y) * sz) (g y) 0 (fun c a hc => by
      have := (hr.cells hb e1 (hg y c a hy hc)).1
      rwa [show O + (x + y) * sz + (0 + c) = O + ((x + y) * sz + c) by omega])
    refine ⟨hd y hy, xs, VRels.mono k1 _ _ j1, fun c z hz => ?_⟩
    have hlive : LiveB κ i b := by
      have hl := j1.length
      cases hgx : g y with
      | nil => rw [hgx] at hl; rw [List.eq_nil_of_length_eq_zero hl.symm] at hz; simp at hz
      | cons a0 as0 => exact .inl ⟨_, a0, hg y 0 a0 hy (by rw [hgx]; rfl)⟩
    refine k5 true B O _ z hlive e1 rfl ?_
    have := j2 c z hz
    rw [Nat.add_mul] at this
    rwa [show O + x * sz + (y * sz + c) = O + (x * sz + y * sz) + 0 + c by omega]
  · exact .inl h0

theorem frzT_sound (hle : hs.le h) (hr : HRel M w κ h) {k : Fz} {a a' : AV} {v : Value} {ob : List Prop} {i : Nat} (ht : frzT hs k a = some (ob, a', i)) (ho : obsT ob) (hv : VRel κ a v) :
    ∃ b, hs i = some b ∧ ∃ κ' : Ker, κ.le κ' ∧ κ'.ρ = κ.ρ ∧ κ'.cap = κ.cap ∧ VRel κ' a' v ∧ HRel M w κ' (upd h i (some ⟨b.con, false, 0⟩)) ∧ (∀ a y, κ'.m a = some y → κ.m a = some y ∨ M a.block) := by
  have key : ∀ {b : ABlk}, hs i = some b → b.wr = true → a'.data true = true → optP (leO ⟨[], [], [i], false⟩ h a' a) →
      ∃ b, hs i = some b ∧ ∃ κ' : Ker, κ.le κ' ∧ κ'.ρ = κ.ρ ∧ κ'.cap = κ.cap ∧ VRel κ' a' v ∧ HRel M w κ' (upd h i (some ⟨b.con, false, 0⟩)) ∧ (∀ a y, κ'.m a = some y → κ.m a = some y ∨ M a.block) := by
    intro b hi hw hd hl
    obtain ⟨κ', k1, k2, k3, k4, k5, k6⟩ := hr.frz (hle i b hi) hw
    refine ⟨b, hi, κ', k1, k2, k3, ?_, k4, k6⟩
    let V : Vw := ⟨[], [], [i], false⟩
    let κ2 : Ker := ⟨fun j => (V.to j).bind κ.ρ, κ.cap, κ'.m, κ'.v, κ'.sub⟩
    have vr : VwR V M w κ h κ2 := by
      refine ⟨fun j => rfl, fun j hj => by simp [V] at hj, fun j j' _ hj => ?_, fun p a x hx => ?_, fun p j c B O a x hs' hj hl' hρ ha hx => ?_⟩
      · simp only [V, Vw.to, look] at hj
        split at hj
        · simp only [Option.some.injEq] at hj; subst hj; rfl
        · cases hj
      · have := k1.mem p a x hx
        cases p <;> exact this
      · have : j = i := by
          simp only [Vw.still, V, Bool.false_and, Bool.or_false, List.contains_eq_mem, List.mem_singleton, decide_eq_true_eq] at hs'
          exact hs'
        subst this
        rw [hle j b hi] at hj
        simp only [Option.some.injEq] at hj
        subst hj
        have := k5 p B O a x hl' hρ ha hx
        cases p <;> exact this
    have := leO_sound hr vr a' a v hl hv
    refine VRel.data (κ := κ2) (κ2 := κ') (p := true) (fun q a x _ hx => ?_) a' v hd this
    cases q <;> exact hx
  have key2 : ∀ {b : ABlk}, hs i = some b → b.wr = true → (∀ κ' : Ker, κ.le κ' → (∀ p B O a x, LiveB κ i b → κ.ρ i = some (B, O) → a.block = B → w.cell? a = some x → κ'.mem p a = some x) → VRel κ' a' v) →
      ∃ b, hs i = some b ∧ ∃ κ' : Ker, κ.le κ' ∧ κ'.ρ = κ.ρ ∧ κ'.cap = κ.cap ∧ VRel κ' a' v ∧ HRel M w κ' (upd h i (some ⟨b.con, false, 0⟩)) ∧ (∀ a y, κ'.m a = some y → κ.m a = some y ∨ M a.block) := by
    intro b hi hw hl
    obtain ⟨κ', k1, k2, k3, k4, k5, k6⟩ := hr.frz (hle i b hi) hw
    exact ⟨b, hi, κ', k1, k2, k3, hl κ' k1 k5, k4, k6⟩
  unfold frzT at ht
  split at ht
  · rename_i j x sz n c nl
    split at ht
    · rename_i b hb
      split at ht
      · rename_i hw
        simp only [Option.map_eq_some_iff, Prod.mk.injEq] at ht
        obtain ⟨⟨ob1, l⟩, hq, rfl, rfl, rfl⟩ := ht
        refine key hb hw rfl ?_
        have hsb : srcBytes h (.slice j x sz n c nl) = some (ob1, l) := by
          rw [← hq]
          unfold srcBytes
          simp only
          rw [hb, hle j b hb]
        simp only [leO]
        split
        · refine both_intro ?_ ?_
          · cases nl <;> simp [nlO, optP, obsT, obsP]
          · simp only [srcBytes, Option.some.injEq, Prod.mk.injEq] at hsb
            obtain ⟨rfl, rfl⟩ := hsb
            exact ⟨obsT_one.1 ho, rfl, trivial⟩
        · rename_i hne
          have hst : (⟨[], [], [j], false⟩ : Vw).still true j = true := by simp [Vw.still]
          rw [hst, hsb]
          refine both_intro ?_ ?_
          · cases nl <;> simp [nlO, optP, obsT, obsP]
          · exact obsT_append.2 ⟨ho, rfl, srcBytes_len rfl hsb ho hne, trivial⟩
      · cases ht
    · cases ht
  · rename_i s j x sz n c nl
    split at ht
    · rename_i b hb
      split at ht
      · rename_i hw
        split at ht
        · rename_i hsz
          obtain ⟨rfl, hpos⟩ := hsz
          split at ht
          · rename_i sz2 n2 g hcon
            split at ht
            · rename_i he
              subst he
              simp only [Option.some.injEq, Prod.mk.injEq] at ht
              obtain ⟨rfl, rfl, rfl⟩ := ht
              obtain ⟨o1, o2⟩ := obsT_cons.1 ho
              have o3 := obsT_one.1 o2
              refine key2 hb hw fun κ' k1 k5 => rows_frz hr (hle j b hb) k1 k5 hv (fun y hy => (o3 y hy).1) (fun y c a hy hc => ?_)
              have hlt : c < (g (plus x y)).length := (List.getElem?_eq_some_iff.1 hc).1
              have := (o3 y hy).2
              rw [hcon]
              have := row_at (n := n2) (x := x + y) (c := c) (j := 0) (sz := sz2) (g := g) (a := a) (by omega) (by omega) (by rw [← plus_eq']; exact hc)
              simpa using this
            · cases ht
          · rename_i l hcon
            split at ht
            · rename_i he
              obtain ⟨he1, he2⟩ := he
              simp only [Option.some.injEq, Prod.mk.injEq] at ht
              obtain ⟨rfl, rfl, rfl⟩ := ht
              refine key2 hb hw fun κ' k1 k5 => rows_frz hr (hle j b hb) k1 k5 hv (fun y hy => ?_) (fun y c a hy hc => ?_)
              · unfold cut; exact datas_take _ (datas_drop _ he2)
              · unfold cut at hc
                rw [List.getElem?_take] at hc
                split at hc
                · rw [List.getElem?_drop, plus_eq'] at hc
                  rw [hcon]
                  exact hc
                · cases hc
            · cases ht
          · cases ht
        · cases ht
      · cases ht
    · cases ht
  · rename_i j x sz c
    split at ht
    · rename_i b hb
      split at ht
      · rename_i l hw hcon
        split at ht
        · rename_i he
          obtain ⟨he1, he2⟩ := he
          simp only [Option.some.injEq, Prod.mk.injEq] at ht
          obtain ⟨rfl, rfl, rfl⟩ := ht
          refine key2 hb hw fun κ' k1 k5 => ?_
          obtain ⟨B, O, e1, rfl⟩ := hv
          obtain ⟨xs, j1, j2⟩ := rel_list (κ := κ) (w := w) (B := B) (p := O) l 0 (fun c a hc => by
            have := (hr.cells (hle j b hb) e1 (off := c) (a := a) (by rw [hcon]; exact hc)).1
            rwa [show O + (0 + c) = O + c by omega])
          refine ⟨he2, B, O, xs, by rw [he1]; rfl, VRels.mono k1 _ _ j1, fun c z hz => ?_⟩
          have hlive : LiveB κ j b := by
            have hl := j1.length
            cases hgx : l with
            | nil => rw [hgx] at hl; rw [List.eq_nil_of_length_eq_zero hl.symm] at hz; simp at hz
            | cons a0 as0 => exact .inl ⟨0, a0, by rw [hcon, hgx]; rfl⟩
          refine k5 true B O _ z hlive e1 rfl ?_
          have := j2 c z hz
          rwa [show O + c = O + 0 + c by omega]
        · cases ht
      · cases ht
    · cases ht
  · cases ht

mutual
theorem frzA_sound : ∀ (k : Fz) (a : AV) (κ : Ker) (h hs : H) (v : Value), hs.le h → HRel M w κ h → VRel κ a v → obsT (frzA hs k a).1 →
    ∃ κ' : Ker, κ.le κ' ∧ κ'.ρ = κ.ρ ∧ κ'.cap = κ.cap ∧ VRel κ' (frzA hs k a).2.1 v ∧ HRel M w κ' (h.ups (frzA hs k a).2.2) ∧ (∀ a y, κ'.m a = some y → κ.m a = some y ∨ M a.block)
  | .a ks, a, κ, h, hs, v, hle, hr, hv, ho => by
    cases a with
    | agg cs =>
      obtain ⟨vs, rfl, h2⟩ := hv
      simp only [frzA] at ho ⊢
      obtain ⟨κ', k1, k2, k3, k4, k5, k6⟩ := frzL_sound ks cs κ h hs vs.toList hle hr h2 ho
      exact ⟨κ', k1, k2, k3, ⟨vs, rfl, k4⟩, k5, k6⟩
    | _ => simp only [frzA, frzT] at ho ⊢; exact ⟨κ, κ.le_refl, rfl, rfl, hv, hr, fun _ _ h => .inl h⟩
  | .kp, a, κ, h, hs, v, hle, hr, hv, ho => by
    simp only [frzA, frzT] at ho ⊢; exact ⟨κ, κ.le_refl, rfl, rfl, hv, hr, fun _ _ h => .inl h⟩
  | .by8, a, κ, h, hs, v, hle, hr, hv, ho => by
    simp only [frzA] at ho ⊢
    cases ht : frzT hs .by8 a with
    | none => rw [ht] at ho; exact ⟨κ, κ.le_refl, rfl, rfl, hv, hr, fun _ _ h => .inl h⟩
    | some q =>
      obtain ⟨ob, a', i⟩ := q
      rw [ht] at ho
      obtain ⟨b, hb, κ', k1, k2, k3, k4, k5, k6⟩ := frzT_sound hle hr ht ho hv
      exact ⟨κ', k1, k2, k3, k4, by simp only [H.ups, hb, Option.map_some]; exact k5, k6⟩
  | .r sz, a, κ, h, hs, v, hle, hr, hv, ho => by
    simp only [frzA] at ho ⊢
    cases ht : frzT hs (.r sz) a with
    | none => rw [ht] at ho; exact ⟨κ, κ.le_refl, rfl, rfl, hv, hr, fun _ _ h => .inl h⟩
    | some q =>
      obtain ⟨ob, a', i⟩ := q
      rw [ht] at ho
      obtain ⟨b, hb, κ', k1, k2, k3, k4, k5, k6⟩ := frzT_sound hle hr ht ho hv
      exact ⟨κ', k1, k2, k3, k4, by simp only [H.ups, hb, Option.map_some]; exact k5, k6⟩
  | .p, a, κ, h, hs, v, hle, hr, hv, ho => by
    simp only [frzA] at ho ⊢
    cases ht : frzT hs .p a with
    | none => rw [ht] at ho; exact ⟨κ, κ.le_refl, rfl, rfl, hv, hr, fun _ _ h => .inl h⟩
    | some q =>
      obtain ⟨ob, a', i⟩ := q
      rw [ht] at ho
      obtain ⟨b, hb, κ', k1, k2, k3, k4, k5, k6⟩ := frzT_sound hle hr ht ho hv
      exact ⟨κ', k1, k2, k3, k4, by simp only [H.ups, hb, Option.map_some]; exact k5, k6⟩
theorem frzL_sound : ∀ (ks : List Fz) (as : List AV) (κ : Ker) (h hs : H) (vs : List Value), hs.le h → HRel M w κ h → VRels κ as vs → obsT (frzL hs ks as).1 →
    ∃ κ' : Ker, κ.le κ' ∧ κ'.ρ = κ.ρ ∧ κ'.cap = κ.cap ∧ VRels κ' (frzL hs ks as).2.1 vs ∧ HRel M w κ' (h.ups (frzL hs ks as).2.2) ∧ (∀ a y, κ'.m a = some y → κ.m a = some y ∨ M a.block)
  | [], as, κ, h, hs, vs, hle, hr, hv, ho => by
    simp only [frzL]; exact ⟨κ, κ.le_refl, rfl, rfl, hv, hr, fun _ _ h => .inl h⟩
  | k :: ks, [], κ, h, hs, vs, hle, hr, hv, ho => by
    simp only [frzL]; exact ⟨κ, κ.le_refl, rfl, rfl, hv, hr, fun _ _ h => .inl h⟩
  | k :: ks, a :: as, κ, h, hs, vs, hle, hr, hv, ho => by
    obtain ⟨x, xs, rfl, h2, h3⟩ := hv
    simp only [frzL] at ho ⊢
    obtain ⟨o1, o2⟩ := obsT_append.1 ho
    obtain ⟨κ1, k1, k2, k3, k4, k5, k6⟩ := frzA_sound k a κ h hs x hle hr h2 o1
    obtain ⟨κ2, j1, j2, j3, j4, j5, j6⟩ := frzL_sound ks as κ1 _ _ xs (H.ups_mono _ hle) k5 (VRels.mono k1 _ _ h3) o2
    refine ⟨κ2, Ker.le_trans k1 j1, j2.trans k2, j3.trans k3, ⟨x, xs, rfl, VRel.mono j1 _ _ k4, j4⟩, by rw [H.ups_append]; exact j5, fun a y hy => ?_⟩
    rcases j6 a y hy with h | h
    · exact k6 a y h
    · exact .inr h
end

theorem frzR_obs {hs : H} {ks : List Fz} {q : R} (h : obsT (frzR hs ks q).ob) : obsT q.ob ∧ obsT (frzR hs ks q).ob := by
  refine ⟨?_, h⟩
  unfold frzR at h
  split at h
  · exact (obsT_append.1 h).1
  · split at h
    · exact (obsT_append.1 h).1
    · exact h

theorem Good.frz {fr : Nat} {ks : List Fz} {q : R} {x : Value} {w0 w' : World} (hle : hs.le h) (ho : obsT (frzR hs ks q).ob) (g : Good M w0 κ fr q.v (h.ups q.up) x w') :
    Good M w0 κ fr (frzR hs ks q).v (h.ups (frzR hs ks q).up) x w' := by
  obtain ⟨κ1, k1, k2, k3, k4, k5, k6⟩ := g
  have fin : ∀ {v' : AV} {up : List (Nat × Option ABlk)}, (∃ κ' : Ker, κ1.le κ' ∧ κ'.ρ = κ1.ρ ∧ κ'.cap = κ1.cap ∧ VRel κ' v' x ∧ HRel M w' κ' ((h.ups q.up).ups up) ∧ (∀ a y, κ'.m a = some y → κ1.m a = some y ∨ M a.block)) → Good M w0 κ fr v' (h.ups (q.up ++ up)) x w' := by
    rintro v' up ⟨κ', j1, j2, j3, j4, j5, j6⟩
    refine ⟨κ', Ker.le_trans k1 j1, fun i hi => by rw [j2]; exact k2 i hi, j4, by rw [H.ups_append]; exact j5, k5, fun a y hy => ?_⟩
    rcases j6 a y hy with h | h
    · exact k6 a y h
    · exact .inr h
  unfold frzR at ho ⊢
  split at ho
  · rename_i vs hqv
    rw [hqv] at k3
    obtain ⟨us, rfl, h2⟩ := k3
    obtain ⟨κ', j1, j2, j3, j4, j5, j6⟩ := frzL_sound ks vs κ1 _ _ us.toList (H.ups_mono _ hle) k4 h2 (obsT_append.1 ho).2
    exact fin ⟨κ', j1, j2, j3, ⟨us, rfl, j4⟩, j5, j6⟩
  · split at ho
    · rename_i k
      exact fin (frzA_sound k q.v κ1 _ _ x (H.ups_mono _ hle) k4 k3 (obsT_append.1 ho).2)
    · exact ⟨κ1, k1, k2, k3, k4, k5, k6⟩
end
end Go.Sym

namespace Go.Sym
set_option linter.unusedVariables false
set_option linter.unusedSimpArgs false

abbrev HT := Tr ABlk
structure AS where
  env : Env
  h : HT
  nx : Nat
def HT.f (h : HT) : H := fun i => if i < 2 ^ DH then Tr.get DH h i else none
def HT.ups (h : HT) : List (Nat × Option ABlk) → HT
  | [] => h
  | (i, b) :: l => HT.ups (Tr.put DH h i b) l
theorem HT.f_put (h : HT) (i : Nat) (b : Option ABlk) (hi : i < 2 ^ DH) : HT.f (Tr.put DH h i b) = upd h.f i b := by
  funext j
  unfold HT.f upd
  by_cases hj : j < 2 ^ DH
  · simp only [if_pos hj, Tr.get_put DH h i j b hi hj]
  · simp only [if_neg hj]
    rw [if_neg (by intro he; subst he; exact hj hi)]
theorem HT.f_ups : ∀ (l : List (Nat × Option ABlk)) (h : HT), (∀ p ∈ l, p.1 < 2 ^ DH) → (h.ups l).f = h.f.ups l
  | [], _, _ => rfl
  | (i, b) :: l, h, hl => by
    simp only [HT.ups, H.ups]
    rw [HT.f_ups l _ (fun p hp => hl p (by simp [hp])), HT.f_put h i b (hl (i, b) (by simp))]
theorem HT.put_ups : ∀ (l : List (Nat × Option ABlk)) (h : HT) (i : Nat) (b : Option ABlk), i < 2 ^ DH → (∀ p ∈ l, p.1 < 2 ^ DH ∧ p.1 ≠ i) → HT.ups (Tr.put DH h i b) l = Tr.put DH (h.ups l) i b
  | [], _, _, _, _, _ => rfl
  | (j, c) :: l, h, i, b, hi, hl => by
    simp only [HT.ups]
    obtain ⟨h1, h2⟩ := hl (j, c) (by simp)
    rw [Tr.put_comm DH h i j b c hi h1 (Ne.symm h2)]
    exact HT.put_ups l _ i b hi (fun p hp => hl p (by simp [hp]))
theorem HT.ups_comm : ∀ (k l : List (Nat × Option ABlk)) (h : HT), (∀ p ∈ k, p.1 < 2 ^ DH) → (∀ p ∈ l, p.1 < 2 ^ DH) → (∀ p ∈ k, ∀ q ∈ l, q.1 ≠ p.1) → (h.ups k).ups l = (h.ups l).ups k
  | [], _, _, _, _, _ => rfl
  | (i, b) :: k, l, h, hk, hl, hd => by
    simp only [HT.ups]
    rw [HT.ups_comm k l _ (fun p hp => hk p (by simp [hp])) hl (fun p hp => hd p (by simp [hp]))]
    rw [HT.put_ups l h i b (hk (i, b) (by simp)) (fun q hq => ⟨hl q hq, hd (i, b) (by simp) q hq⟩)]

theorem Env.at_set (e : Env) {t u : Nat} (v : AV) (ht : t < 2 ^ DE) (hu : u < 2 ^ DE) : (e.set t v).at u = if u = t then v else e.at u := by
  unfold Env.at Env.set
  rw [Tr.get_put DE e t u (some v) ht hu]
  split <;> rfl
theorem Env.set_comm (e : Env) {t u : Nat} (v w : AV) (ht : t < 2 ^ DE) (hu : u < 2 ^ DE) (hne : t ≠ u) : (e.set t v).set u w = (e.set u w).set t v := by
  unfold Env.set
  rw [Tr.put_comm DE e t u (some v) (some w) ht hu hne]

def argsOf (e : Env) (o : Oper) : List AV := o.op.operands.toList.map (aeval e)

/-- Is an operation carried out: always; never told; by a test. -/
inductive Want where
  | yes
  | no
  | by (b : Bool)
  | skip
def wantA (ops : Array Oper) (o : Oper) (e : Env) : Want :=
  match o.guard with
  | none => .yes
  | some (j, want) =>
    match (ops[j]?).bind (·.dst) with
    | some d => match e.at d with | .bool b => (match want with | true => .by b | false => .by (!b)) | .tup [] => .skip | _ => .no
    | none => .no
def Want.is (w : Want) (b : Bool) : Prop :=
  match w with
  | .yes => b = true
  | .no => False
  | .by c => b = c
  | .skip => b = false

mutual
def AV.names : AV → List Nat
  | .ptr i _ _ _ => [i]
  | .slice i _ _ _ _ _ => [i]
  | .agg cs => namesL cs
  | .tup cs => namesL cs
  | .fn _ a b => namesL a ++ namesL b
  | _ => []
def namesL : List AV → List Nat
  | [] => []
  | a :: as => a.names ++ namesL as
end
def Con.names : Con → List Nat
  | .cells l => namesL l
  | _ => []
def addNew (l : List Nat) : List Nat → List Nat
  | [] => l
  | i :: is => if l.contains i then addNew l is else addNew (i :: l) is
theorem addNew_sub : ∀ (is l : List Nat), ∀ i ∈ l, i ∈ addNew l is
  | [], _, _, h => h
  | j :: is, l, i, h => by
    simp only [addNew]
    split
    · exact addNew_sub is l i h
    · exact addNew_sub is _ i (by simp [h])
def namesIn (h : H) : List Nat → List Nat
  | [] => []
  | i :: is => (match h i with | some b => b.con.names | none => []) ++ namesIn h is
def reach : Nat → H → List Nat → List Nat
  | 0, _, l => l
  | k + 1, h, l => reach k h (addNew l (namesIn h l))
theorem reach_sub : ∀ (k : Nat) (h : H) (l : List Nat), ∀ i ∈ l, i ∈ reach k h l
  | 0, _, _, _, h => h
  | k + 1, h, l, i, hi => reach_sub k h _ i (addNew_sub _ l i hi)
theorem namesIn_congr {h h' : H} : ∀ (l : List Nat), (∀ i ∈ l, h' i = h i) → namesIn h' l = namesIn h l
  | [], _ => rfl
  | i :: is, hh => by simp only [namesIn]; rw [hh i (by simp), namesIn_congr is (fun j hj => hh j (by simp [hj]))]
theorem reach_congr : ∀ (k : Nat) (h h' : H) (l : List Nat), (∀ i ∈ reach k h l, h' i = h i) → reach k h' l = reach k h l
  | 0, _, _, _, _ => rfl
  | k + 1, h, h', l, hh => by
    simp only [reach] at hh ⊢
    have : namesIn h' l = namesIn h l := namesIn_congr l (fun i hi => hh i (reach_sub k h _ i (addNew_sub _ l i hi)))
    rw [this]
    exact reach_congr k h h' _ hh
def rest (h : H) (l : List Nat) : H := fun i => if l.contains i then h i else none
theorem rest_le (h : H) (l : List Nat) : (rest h l).le h := by
  intro i b hi
  unfold rest at hi
  split at hi
  · exact hi
  · cases hi
theorem rest_congr {h h' : H} {l : List Nat} (hh : ∀ i ∈ l, h' i = h i) : rest h' l = rest h l := by
  funext i
  unfold rest
  split
  · rename_i hc; exact hh i (by simpa using hc)
  · rfl

/-- The blocks that an operation looks at. -/
def rdOf (o : Oper) (args : List AV) (h : H) : List Nat :=
  match o.op with
  | .call { callee := .value _, .. } => reach 5 h (namesL args)
  | _ => namesL args
theorem rdOf_congr {o : Oper} {args : List AV} {h h' : H} (hh : ∀ i ∈ rdOf o args h, h' i = h i) : rdOf o args h' = rdOf o args h := by
  unfold rdOf at *
  split
  · rename_i hop
    simp only [hop] at hh
    exact reach_congr _ _ _ _ hh
  · rfl

/-- What it looks at, and what it turns. -/
abbrev FP := List Nat × List Nat

def apartN (a b : List Nat) : Bool := a.all fun i => !b.contains i
/-- Neither sees what the other one does. -/
def indep (f g : FP) : Bool := apartN f.2 g.1 && apartN g.2 f.1 && apartN f.2 g.2

def viewH (draw : Bool) (o : Oper) (args : List AV) (h : H) : H := match draw with | true => rest h (rdOf o args h) | false => h

def putE (n : Nat) (dst : Option Tmp) (v : AV) (e e' : Env) : Prop :=
  match dst with
  | none => e' = e
  | some d => d < n ∧ e' = e.set d v

/-- Operation i of a region carried out, or left out. -/
def StepR (P : Program) (Γ : Ctx) (draw : Bool) (ops : Array Oper) (n i : Nat) (s s' : AS) (fp : FP) : Prop :=
  ∃ o, ops[i]? = some o ∧
    (((wantA ops o s.env).is false ∧ putE n o.dst (.tup []) s.env s'.env ∧ s'.h = s.h ∧ s'.nx = s.nx ∧ fp = ([], [])) ∨
     ((wantA ops o s.env).is true ∧ s.nx + STR * i + STR ≤ GB ∧ ∃ r, (aop P Γ o (argsOf s.env o) (s.nx + STR * i) (viewH draw o (argsOf s.env o) s.h.f)).sel = some r ∧ obsT r.ob ∧
       (∀ p ∈ r.up, p.1 < 2 ^ DH) ∧ putE n o.dst r.v s.env s'.env ∧ s'.h = s.h.ups r.up ∧ s'.nx = s.nx ∧ fp = (rdOf o (argsOf s.env o) s.h.f, r.up.map (·.1))))

theorem Want.is_det {w : Want} {a b : Bool} (h : w.is a) (k : w.is b) : a = b := by
  cases w <;> simp_all [Want.is]

section
variable {P : Program} {Γ : Ctx} {ops : Array Oper} {n : Nat} {draw : Bool}

theorem tmp_lt {x : Operand} {e : Env} {d : Nat} {v : AV} (hd : d < 2 ^ DE) (hx : ∀ t, x = .tmp t → t ≠ d ∧ t < 2 ^ DE) : aeval (e.set d v) x = aeval e x := by
  cases x with
  | tmp t =>
    obtain ⟨h1, h2⟩ := hx t rfl
    simp only [aeval]
    rw [Env.at_set e v hd h2, if_neg h1]
  | _ => rfl

/-- All slots that a region's operations name lie in the table. -/
def slotsOK (ops : Array Oper) : Bool :=
  ops.toList.all fun o => (o.op.operands.toList.all fun | .tmp t => decide (t < 2 ^ DE) | _ => true) && (match o.dst with | some d => decide (d < 2 ^ DE) | none => true)
theorem slotsOK_op {i : Nat} {o : Oper} (h : slotsOK ops = true) (hi : ops[i]? = some o) : (∀ t, Operand.tmp t ∈ o.op.operands.toList → t < 2 ^ DE) ∧ (∀ d, o.dst = some d → d < 2 ^ DE) := by
  unfold slotsOK at h
  rw [List.all_eq_true] at h
  have hm : o ∈ ops.toList := by
    rw [Array.mem_toList_iff]; exact Array.mem_of_getElem? hi
  have := h o hm
  simp only [Bool.and_eq_true, List.all_eq_true] at this
  refine ⟨fun t ht => by simpa using this.1 _ ht, fun d hd => ?_⟩
  have h2 := this.2
  rw [hd] at h2
  simpa using h2

theorem argsOf_set {o : Oper} {e : Env} {d : Nat} {v : AV} (hd : d < 2 ^ DE) (ht : ∀ t, Operand.tmp t ∈ o.op.operands.toList → t < 2 ^ DE) (h : d ∉ o.looksAt ops) : argsOf (e.set d v) o = argsOf e o := by
  unfold argsOf
  apply List.map_congr_left
  intro x hx
  apply tmp_lt hd
  rintro t rfl
  refine ⟨?_, ht t hx⟩
  intro he
  subst he
  apply h
  unfold Oper.looksAt
  rw [List.mem_append]
  left
  rw [List.mem_filterMap]
  exact ⟨_, hx, rfl⟩

theorem wantA_set {o : Oper} {e : Env} {d : Nat} {v : AV} (hs : slotsOK ops = true) (hd : d < 2 ^ DE) (h : d ∉ o.looksAt ops) : wantA ops o (e.set d v) = wantA ops o e := by
  unfold wantA
  split
  · rfl
  · rename_i j want hg
    split
    · rename_i d2 hd2
      have hne : d2 ≠ d := by
        intro he
        subst he
        apply h
        unfold Oper.looksAt
        rw [List.mem_append]
        right
        simp [hg, hd2]
      have hlt : d2 < 2 ^ DE := by
        simp only [Option.bind_eq_some_iff] at hd2
        obtain ⟨o2, ho2, hdst⟩ := hd2
        exact (slotsOK_op hs ho2).2 d2 hdst
      rw [Env.at_set e v hd hlt, if_neg hne]
    · rfl

theorem apartN_spec {a b : List Nat} (h : apartN a b = true) : ∀ i ∈ a, i ∉ b := by
  intro i hi hb
  unfold apartN at h
  rw [List.all_eq_true] at h
  have := h i hi
  simp at this
  exact this hb

theorem H.ups_out : ∀ (l : List (Nat × Option ABlk)) (h : H) (i : Nat), i ∉ l.map (·.1) → (h.ups l) i = h i
  | [], _, _, _ => rfl
  | (j, b) :: l, h, i, hi => by
    simp only [H.ups]
    rw [H.ups_out l _ i (by intro hm; exact hi (by simp [hm]))]
    unfold upd
    rw [if_neg (by intro he; subst he; exact hi (by simp))]

/-- Two operations that may come in either order. -/
theorem step_comm {i j : Nat} {oi oj : Oper} {s s1 s2 : AS} {fi fj : FP} (hs : slotsOK ops = true) (hij : i ≠ j) (hoi : ops[i]? = some oi) (hoj : ops[j]? = some oj) (hap : oi.apart ops oj = true) (hin : indep fi fj = true)
    (h1 : StepR P Γ true ops n i s s1 fi) (h2 : StepR P Γ true ops n j s1 s2 fj) : ∃ s1', StepR P Γ true ops n j s s1' fj ∧ StepR P Γ true ops n i s1' s2 fi := by
  obtain ⟨p1, p2, p3⟩ := Oper.apart_spec hap
  obtain ⟨ti, di⟩ := slotsOK_op hs hoi
  obtain ⟨tj, dj⟩ := slotsOK_op hs hoj
  simp only [indep, Bool.and_eq_true] at hin
  obtain ⟨⟨q1, q2⟩, q3⟩ := hin
  -- what j sees of the slots is as i left it, and the other way round
  have keepJ : ∀ {e e1 : Env} {v : AV}, putE n oi.dst v e e1 → wantA ops oj e1 = wantA ops oj e ∧ argsOf e1 oj = argsOf e oj := by
    intro e e1 v hp
    unfold putE at hp
    split at hp
    · subst hp; exact ⟨rfl, rfl⟩
    · rename_i d hd
      obtain ⟨_, rfl⟩ := hp
      exact ⟨wantA_set hs (di d hd) (p1 d hd), argsOf_set (di d hd) tj (p1 d hd)⟩
  have keepI : ∀ {e e1 : Env} {v : AV}, putE n oj.dst v e e1 → wantA ops oi e1 = wantA ops oi e ∧ argsOf e1 oi = argsOf e oi := by
    intro e e1 v hp
    unfold putE at hp
    split at hp
    · subst hp; exact ⟨rfl, rfl⟩
    · rename_i d hd
      obtain ⟨_, rfl⟩ := hp
      exact ⟨wantA_set hs (dj d hd) (p3 d hd), argsOf_set (dj d hd) ti (p3 d hd)⟩
  have env : ∀ {e e1 e2 : Env} {v u : AV}, putE n oi.dst v e e1 → putE n oj.dst u e1 e2 → ∃ e1', putE n oj.dst u e e1' ∧ putE n oi.dst v e1' e2 := by
    intro e e1 e2 v u h h'
    cases hdi : oi.dst with
    | none =>
      rw [hdi] at h
      simp only [putE] at h
      subst h
      exact ⟨e2, h', rfl⟩
    | some d =>
      cases hdj : oj.dst with
      | none =>
        rw [hdj] at h'
        simp only [putE] at h'
        subst h'
        rw [hdi] at h
        exact ⟨e, rfl, h⟩
      | some d2 =>
        rw [hdi] at h
        rw [hdj] at h'
        simp only [putE] at h h' ⊢
        obtain ⟨k1, rfl⟩ := h
        obtain ⟨k2, rfl⟩ := h'
        have hne : d ≠ d2 := by
          intro he
          exact p2 d hdi (by rw [hdj, he])
        exact ⟨e.set d2 u, ⟨k2, rfl⟩, k1, Env.set_comm e v u (di d hdi) (dj d2 hdj) hne⟩
  obtain ⟨oi', hoi', h1⟩ := h1
  rw [hoi] at hoi'
  simp only [Option.some.injEq] at hoi'
  subst hoi'
  obtain ⟨oj', hoj', h2⟩ := h2
  rw [hoj] at hoj'
  simp only [Option.some.injEq] at hoj'
  subst hoj'
  rcases h1 with ⟨w1, e1, m1, x1, rfl⟩ | ⟨w1, b1, r1, a1, o1, u1, e1, m1, x1, rfl⟩
  · rcases h2 with ⟨w2, e2, m2, x2, rfl⟩ | ⟨w2, b2, r2, a2, o2, u2, e2, m2, x2, rfl⟩
    · obtain ⟨e', k1, k2⟩ := env e1 e2
      obtain ⟨k3, k4⟩ := keepJ e1
      obtain ⟨k5, k6⟩ := keepI k1
      exact ⟨⟨e', s.h, s.nx⟩, ⟨oj, hoj, .inl ⟨by rw [← k3]; exact w2, k1, rfl, rfl, rfl⟩⟩, ⟨oi, hoi, .inl ⟨by rw [k5]; exact w1, k2, by rw [m2, m1], by rw [x2, x1], rfl⟩⟩⟩
    · obtain ⟨e', k1, k2⟩ := env e1 e2
      obtain ⟨k3, k4⟩ := keepJ e1
      obtain ⟨k5, k6⟩ := keepI k1
      rw [k4, m1, x1] at a2
      refine ⟨⟨e', s.h.ups r2.up, s.nx⟩, ⟨oj, hoj, .inr ⟨by rw [← k3]; exact w2, by rw [← x1]; exact b2, r2, a2, o2, u2, k1, rfl, rfl, by rw [k4, m1]⟩⟩, ⟨oi, hoi, .inl ⟨by rw [k5]; exact w1, k2, by rw [m2, m1], by rw [x2, x1], rfl⟩⟩⟩
  · rcases h2 with ⟨w2, e2, m2, x2, rfl⟩ | ⟨w2, b2, r2, a2, o2, u2, e2, m2, x2, rfl⟩
    · obtain ⟨e', k1, k2⟩ := env e1 e2
      obtain ⟨k3, k4⟩ := keepJ e1
      obtain ⟨k5, k6⟩ := keepI k1
      refine ⟨⟨e', s.h, s.nx⟩, ⟨oj, hoj, .inl ⟨by rw [← k3]; exact w2, k1, rfl, rfl, rfl⟩⟩, ⟨oi, hoi, .inr ⟨by rw [k5]; exact w1, b1, r1, by rw [k6]; exact a1, o1, u1, k2, by rw [m2, m1], by rw [x2, x1], by rw [k6]⟩⟩⟩
    · obtain ⟨e', k1, k2⟩ := env e1 e2
      obtain ⟨k3, k4⟩ := keepJ e1
      obtain ⟨k5, k6⟩ := keepI k1
      have hf1 : s1.h.f = s.h.f.ups r1.up := by rw [m1]; exact HT.f_ups _ _ u1
      have hf2 : (s.h.ups r2.up).f = s.h.f.ups r2.up := HT.f_ups _ _ u2
      -- j sees the same
      have same : ∀ k ∈ rdOf oj (argsOf s1.env oj) s1.h.f, s.h.f k = s1.h.f k := by
        intro k hk
        rw [hf1, H.ups_out]
        intro hm
        exact apartN_spec q1 k hm hk
      have hrd := rdOf_congr same
      have hrest : rest s.h.f (rdOf oj (argsOf s1.env oj) s1.h.f) = rest s1.h.f (rdOf oj (argsOf s1.env oj) s1.h.f) := rest_congr same
      simp only [viewH] at a1 a2
      have a2' : (aop P Γ oj (argsOf s.env oj) (s.nx + STR * j) (rest s.h.f (rdOf oj (argsOf s.env oj) s.h.f))).sel = some r2 := by
        rw [← k4, hrd, hrest, ← x1]
        exact a2
      -- so does i
      have same2 : ∀ k ∈ rdOf oi (argsOf s.env oi) s.h.f, (s.h.ups r2.up).f k = s.h.f k := by
        intro k hk
        rw [hf2, H.ups_out]
        intro hm
        exact apartN_spec q2 k hm hk
      have hrd2 := rdOf_congr same2
      have hrest2 := rest_congr same2
      have a1' : (aop P Γ oi (argsOf e' oi) (s.nx + STR * i) (rest (s.h.ups r2.up).f (rdOf oi (argsOf e' oi) (s.h.ups r2.up).f))).sel = some r1 := by
        rw [k6, hrd2, hrest2]
        exact a1
      refine ⟨⟨e', s.h.ups r2.up, s.nx⟩, ⟨oj, hoj, .inr ⟨by rw [← k3]; exact w2, by rw [← x1]; exact b2, r2, a2', o2, u2, k1, rfl, rfl, ?_⟩⟩, ⟨oi, hoi, .inr ⟨by rw [k5]; exact w1, b1, r1, a1', o1, u1, k2, ?_, by rw [x2, x1], ?_⟩⟩⟩
      · rw [← k4, hrd]
      · rw [m2, m1]
        apply HT.ups_comm _ _ _ u1 u2
        intro p hp q hq he
        exact apartN_spec q3 p.1 (List.mem_map_of_mem hp) (by rw [← he]; exact List.mem_map_of_mem hq)
      · simp only [k6, hrd2]
end
end Go.Sym

namespace Go.Sym
set_option linter.unusedVariables false
set_option linter.unusedSimpArgs false

def masksFrom : List Oper → List Nat → List Nat
  | [], acc => acc
  | o :: rest, acc => masksFrom rest (acc ++ [o.after.foldl (fun s e => if Region.binds .any e then s ||| 2 ^ e.on ||| acc.getD e.on 0 else s) 0])
def masks (ops : Array Oper) : List Nat := masksFrom ops.toList []

def orderOK (ops : Array Oper) : Bool :=
  ops.toList.zipIdx.all fun (o, k) => o.after.all fun e => !Region.binds .any e || e.on < k

section
variable {P : Program} {Γ : Ctx} {ops : Array Oper} {n : Nat} {draw : Bool}

theorem fold_bits (m : Nat → Nat) : ∀ (l : List Edge) (s0 k : Nat), (l.foldl (fun s e => if Region.binds .any e then s ||| 2 ^ e.on ||| m e.on else s) s0).testBit k = true →
    s0.testBit k = true ∨ ∃ e ∈ l, Region.binds .any e = true ∧ (k = e.on ∨ (m e.on).testBit k = true) := by
  intro l
  induction l with
  | nil => intro s0 k h; exact .inl h
  | cons e l ih =>
    intro s0 k h
    simp only [List.foldl_cons] at h
    rcases ih _ _ h with h1 | ⟨e', he', h1⟩
    · split at h1
      · rename_i hb
        rw [Nat.testBit_or, Nat.testBit_or] at h1
        simp only [Bool.or_eq_true] at h1
        rcases h1 with (h1 | h1) | h1
        · exact .inl h1
        · rw [Nat.testBit_two_pow] at h1
          exact .inr ⟨e, by simp, hb, .inl (by simpa using h1 : e.on = k).symm⟩
        · exact .inr ⟨e, by simp, hb, .inr h1⟩
      · exact .inl h1
    · exact .inr ⟨e', by simp [he'], h1⟩

def MInv (ops : Array Oper) (acc : List Nat) : Prop :=
  ∀ j, j < acc.length → ∀ k, (acc.getD j 0).testBit k = true → ∃ o, ops[j]? = some o ∧ ∃ e ∈ o.after.toList, Region.binds .any e = true ∧ (k = e.on ∨ (e.on < j ∧ (acc.getD e.on 0).testBit k = true))

theorem masksFrom_inv : ∀ (l : List Oper) (acc : List Nat), MInv ops acc → (∀ i, l[i]? = ops[acc.length + i]?) → MInv ops (masksFrom l acc) := by
  intro l
  induction l with
  | nil => intro acc h _; exact h
  | cons o rest ih =>
    intro acc h hl
    simp only [masksFrom]
    refine ih _ ?_ ?_
    · intro j hj k hk
      simp only [List.length_append, List.length_singleton] at hj
      by_cases hlt : j < acc.length
      · have e1 : (acc ++ [o.after.foldl (fun s e => if Region.binds .any e then s ||| 2 ^ e.on ||| acc.getD e.on 0 else s) 0]).getD j 0 = acc.getD j 0 := by
          simp [List.getD, List.getElem?_append_left hlt]
        rw [e1] at hk
        obtain ⟨o', ho', e, he, hb, hor⟩ := h j hlt k hk
        refine ⟨o', ho', e, he, hb, ?_⟩
        rcases hor with h1 | ⟨h1, h2⟩
        · exact .inl h1
        · refine .inr ⟨h1, ?_⟩
          simp only [List.getD] at h2 ⊢
          rw [List.getElem?_append_left (by omega)]
          exact h2
      · obtain rfl : j = acc.length := by omega
        have e1 : (acc ++ [o.after.foldl (fun s e => if Region.binds .any e then s ||| 2 ^ e.on ||| acc.getD e.on 0 else s) 0]).getD acc.length 0 = o.after.foldl (fun s e => if Region.binds .any e then s ||| 2 ^ e.on ||| acc.getD e.on 0 else s) 0 := by
          simp [List.getD]
        rw [e1, ← Array.foldl_toList] at hk
        rcases fold_bits (fun i => acc.getD i 0) _ _ _ hk with h1 | ⟨e, he, hb, hor⟩
        · simp at h1
        · refine ⟨o, by simpa using (hl 0).symm, e, he, hb, ?_⟩
          rcases hor with h1 | h1
          · exact .inl h1
          · by_cases hlt2 : e.on < acc.length
            · refine .inr ⟨hlt2, ?_⟩
              simp only [List.getD] at h1 ⊢
              rw [List.getElem?_append_left hlt2]
              exact h1
            · simp [List.getD, List.getElem?_eq_none (Nat.le_of_not_lt hlt2)] at h1
    · intro i
      have := hl (i + 1)
      simp only [List.getElem?_cons_succ] at this
      rw [this]
      simp only [List.length_append, List.length_singleton]
      congr 1
      omega

theorem masks_inv : MInv ops (masks ops) := masksFrom_inv _ _ (fun j hj => by simp at hj) (fun i => by simp)

/-- What has come up is closed: with an operation all that it waits for. -/
def Closed (ops : Array Oper) (listed : Array Bool) : Prop :=
  ∀ j o, ops[j]? = some o → listed.getD j false = true → ∀ e ∈ o.after.toList, Region.binds .any e = true → listed.getD e.on false = true

theorem mask_listed {listed : Array Bool} (hc : Closed ops listed) : ∀ (j : Nat) (o : Oper), ops[j]? = some o → (∀ e ∈ o.after.toList, Region.binds .any e = true → listed.getD e.on false = true) →
    ∀ k, ((masks ops).getD j 0).testBit k = true → listed.getD k false = true := by
  intro j
  induction j using Nat.strongRecOn with
  | _ j ih =>
    intro o ho hall k hk
    by_cases hlt : j < (masks ops).length
    · obtain ⟨o', ho', e, he, hb, hor⟩ := masks_inv j hlt k hk
      rw [ho] at ho'
      simp only [Option.some.injEq] at ho'
      subst ho'
      have hl := hall e he hb
      rcases hor with h1 | ⟨h1, h2⟩
      · rw [h1]; exact hl
      · cases hoe : ops[e.on]? with
        | none =>
          exfalso
          have hlt2 : e.on < ops.size := Nat.lt_trans h1 (Array.getElem?_eq_some_iff.1 ho).1
          simp [hlt2] at hoe
        | some oe => exact ih e.on h1 oe hoe (hc e.on oe hoe hl) k h2
    · simp [List.getD, List.getElem?_eq_none (Nat.le_of_not_lt hlt)] at hk

theorem Closed.set {listed : Array Bool} (hc : Closed ops listed) {j : Nat} (hr : j ∈ Region.ready .any ops listed) : Closed ops (listed.setIfInBounds j true) := by
  obtain ⟨h0, o, ho, hall⟩ := mem_ready.1 hr
  intro k ok hk hl e he hb
  refine getD_set_true ?_
  by_cases hkj : j = k
  · subst hkj
    rw [ho] at hk
    simp only [Option.some.injEq] at hk
    subst hk
    exact hall e (by simpa using he) hb
  · rw [getD_set_ne false hkj] at hl
    exact hc k ok hk hl e he hb


/-- The operations of a region one by one, and what each looked at and turned. -/
inductive LexRun (P : Program) (Γ : Ctx) (draw : Bool) (ops : Array Oper) (n : Nat) : List (Nat × FP) → AS → AS → Prop where
  | nil (s : AS) : LexRun P Γ draw ops n [] s s
  | cons {i : Nat} {fp : FP} {l : List (Nat × FP)} {s s1 s2 : AS} : StepR P Γ draw ops n i s s1 fp → LexRun P Γ draw ops n l s1 s2 → LexRun P Γ draw ops n ((i, fp) :: l) s s2

/-- May b come ahead of a? -/
def free (ops : Array Oper) (a b : Nat × FP) : Bool :=
  a.1 != b.1 && (match ops[a.1]?, ops[b.1]? with | some oa, some ob => oa.apart ops ob | _, _ => false) && indep a.2 b.2

theorem run_front : ∀ (l1 : List (Nat × FP)) {i : Nat} {fi : FP} {l2 : List (Nat × FP)} {s s2 : AS}, slotsOK ops = true → (∀ a ∈ l1, free ops a (i, fi) = true) → LexRun P Γ true ops n (l1 ++ (i, fi) :: l2) s s2 →
    ∃ s1, StepR P Γ true ops n i s s1 fi ∧ LexRun P Γ true ops n (l1 ++ l2) s1 s2
  | [], i, fi, l2, s, s2, _, _, h => by
    cases h with
    | cons h1 h2 => exact ⟨_, h1, h2⟩
  | (k, fk) :: l1, i, fi, l2, s, s2, hs, hf, h => by
    cases h with
    | cons h1 h2 =>
      rename_i sk
      obtain ⟨s1, h3, h4⟩ := run_front l1 hs (fun a ha => hf a (by simp [ha])) h2
      have hk := hf (k, fk) (by simp)
      simp only [free, Bool.and_eq_true, bne_iff_ne, ne_eq] at hk
      obtain ⟨⟨hne, hap⟩, hin⟩ := hk
      split at hap
      · rename_i oa ob ha hb
        obtain ⟨s1', k1, k2⟩ := step_comm hs hne ha hb hap hin h1 h3
        exact ⟨s1', k1, .cons k2 h4⟩
      · cases hap

/-- Whatever comes first of what may. -/
def anyR (P : Program) (Γ : Ctx) (ops : Array Oper) (n : Nat) (Q : AS → Prop) : Nat → Array Bool → AS → Prop
  | 0, listed, s => Region.ready .any ops listed = [] ∧ Q s
  | k + 1, listed, s =>
    (Region.ready .any ops listed = [] → Q s) ∧
    ∀ i ∈ Region.ready .any ops listed, ∃ s' fp, StepR P Γ true ops n i s s' fp ∧ anyR P Γ ops n Q k (listed.setIfInBounds i true) s'

theorem any_of_run {Q : AS → Prop} (hs : slotsOK ops = true) (hord : orderOK ops = true) : ∀ (m : Nat) (l : List (Nat × FP)), l.length = m → ∀ (listed : Array Bool) (s s2 : AS), listed.size = ops.size → Closed ops listed →
      (∀ i, i < ops.size → (listed.getD i false = false ↔ ∃ fp, (i, fp) ∈ l)) → (∀ a ∈ l, a.1 < ops.size) → (l.Pairwise fun a b => a.1 < b.1) →
      (l.Pairwise fun a b => ((masks ops).getD b.1 0).testBit a.1 = true ∨ free ops a b = true) → LexRun P Γ true ops n l s s2 → Q s2 → anyR P Γ ops n Q m listed s := by
  intro m
  induction m with
  | zero =>
    intro l hm listed s s2 hsz hcl hun hin hnd hpw hrun hq
    have : l = [] := List.eq_nil_of_length_eq_zero hm
    subst this
    cases hrun
    refine ⟨?_, hq⟩
    apply List.eq_nil_iff_forall_not_mem.2
    intro j hj
    obtain ⟨hunj, o, ho, _⟩ := mem_ready.1 hj
    have hlt : j < ops.size := (Array.getElem?_eq_some_iff.1 ho).1
    have h1 : listed.getD j false = false := by
      simp [Array.getD, hsz ▸ hlt] at hunj ⊢
      exact hunj
    obtain ⟨fp, hfp⟩ := (hun j hlt).1 h1
    simp at hfp
  | succ m ih =>
    intro l hm listed s s2 hsz hcl hun hin hnd hpw hrun hq
    refine ⟨?_, ?_⟩
    · intro hr
      exfalso
      cases l with
      | nil => simp at hm
      | cons a l =>
        have hlt := hin a (by simp)
        have hmem : a.1 ∈ Region.ready .any ops listed := by
          rw [mem_ready]
          refine ⟨?_, ops[a.1], Array.getElem?_eq_getElem hlt, ?_⟩
          · have h1 := (hun a.1 hlt).2 ⟨a.2, by simp⟩
            simp [Array.getD, hsz ▸ hlt] at h1 ⊢
            exact h1
          · intro e he hb
            have hlt2 : e.on < a.1 := by
              unfold orderOK at hord
              rw [List.all_eq_true] at hord
              have := hord (ops[a.1], a.1) (by rw [List.mem_zipIdx_iff_getElem?]; simp [hlt])
              simp only [Array.all_eq_true'] at this
              have h2 := this e he
              simp [hb] at h2
              exact h2
            cases hl : listed.getD e.on false with
            | true => rfl
            | false =>
              obtain ⟨fp, hfp⟩ := (hun e.on (by omega)).1 hl
              rcases List.mem_cons.1 hfp with h | h
              · rw [← h] at hlt2; simp at hlt2
              · have := (List.pairwise_cons.1 hnd).1 _ h
                simp at this
                omega
        rw [hr] at hmem
        cases hmem
    · intro i hi
      obtain ⟨hunj, o, ho, hall⟩ := mem_ready.1 hi
      have hlt : i < ops.size := (Array.getElem?_eq_some_iff.1 ho).1
      have h1 : listed.getD i false = false := by
        simp [Array.getD, hsz ▸ hlt] at hunj ⊢
        exact hunj
      obtain ⟨fi, hfi⟩ := (hun i hlt).1 h1
      obtain ⟨l1, l2, rfl⟩ := List.append_of_mem hfi
      have hfree : ∀ a ∈ l1, free ops a (i, fi) = true := by
        intro a ha
        have := (List.pairwise_append.1 hpw).2.2 a ha (i, fi) (by simp)
        rcases this with h | h
        · have h2 := mask_listed hcl i o ho (fun e he hb => hall e (by simpa using he) hb) a.1 h
          have h3 := (hun a.1 (hin a (by simp [ha]))).2 ⟨a.2, by simp [ha]⟩
          rw [h3] at h2
          cases h2
        · exact h
      obtain ⟨s1, k1, k2⟩ := run_front l1 hs hfree hrun
      refine ⟨s1, fi, k1, ih (l1 ++ l2) (by simp at hm ⊢; omega) _ s1 s2 (by simpa using hsz) (hcl.set hi) ?_ ?_ ?_ ?_ k2 hq⟩
      · intro j hj
        by_cases hji : i = j
        · subst hji
          have : (listed.setIfInBounds i true).getD i false = true := by simp [Array.getD, hsz ▸ hj]
          rw [this]
          constructor
          · intro h; cases h
          · rintro ⟨fp, hfp⟩
            exfalso
            rw [List.mem_append] at hfp
            rcases hfp with h | h
            · have := (List.pairwise_append.1 hnd).2.2 _ h (i, fi) (by simp)
              simp at this
            · have := (List.pairwise_cons.1 (List.pairwise_append.1 hnd).2.1).1 _ h
              simp at this
        · rw [getD_set_ne false hji, hun j hj]
          constructor
          · rintro ⟨fp, hfp⟩
            refine ⟨fp, ?_⟩
            simp only [List.mem_append, List.mem_cons] at hfp ⊢
            rcases hfp with h | h | h
            · exact .inl h
            · simp only [Prod.mk.injEq] at h; exact absurd h.1.symm hji
            · exact .inr h
          · rintro ⟨fp, hfp⟩
            refine ⟨fp, ?_⟩
            simp only [List.mem_append, List.mem_cons] at hfp ⊢
            rcases hfp with h | h
            · exact .inl h
            · exact .inr (.inr h)
      · intro a ha
        exact hin a (by simp only [List.mem_append, List.mem_cons] at ha ⊢; rcases ha with h | h; exact .inl h; exact .inr (.inr h))
      · rw [List.pairwise_append] at hnd ⊢
        exact ⟨hnd.1, (List.pairwise_cons.1 hnd.2.1).2, fun a ha b hb => hnd.2.2 a ha b (by simp [hb])⟩
      · rw [List.pairwise_append] at hpw ⊢
        exact ⟨hpw.1, (List.pairwise_cons.1 hpw.2.1).2, fun a ha b hb => hpw.2.2 a ha b (by simp [hb])⟩

/-! ### The run that the kernel makes -/

def bifP (b : Bool) (X Y : Prop) : Prop := match b with | true => X | false => Y
theorem bifP_intro {b : Bool} {X Y : Prop} (h1 : b = true → X) (h2 : b = false → Y) : bifP b X Y := by
  cases b
  · exact h2 rfl
  · exact h1 rfl
theorem bifP_t {X Y : Prop} (h : bifP true X Y) : X := h
theorem bifP_f {X Y : Prop} (h : bifP false X Y) : Y := h
def chk (b : Bool) (X : Prop) : Prop := match b with | true => X | false => False
theorem chk_iff {b : Bool} {X : Prop} : chk b X ↔ b = true ∧ X := by cases b <;> simp [chk]

def T.toP (K : R → Prop) : T → Prop
  | .no => False
  | .ok r => K r
  | .br b x y => bifP b (x.toP K) (y.toP K)
theorem T.toP_sel {K : R → Prop} : ∀ (t : T), t.toP K → ∃ r, t.sel = some r ∧ K r
  | .no, h => h.elim
  | .ok r, h => ⟨r, rfl, h⟩
  | .br b x y, h => by
    cases b
    · exact T.toP_sel y h
    · exact T.toP_sel x h

/-- The same value, its head laid open. -/
def forceV0 {α : Type} (a : AV) (k : AV → α) : α :=
  match a with
  | .any => k .any
  | .bool b => k (.bool b)
  | .u8 x => k (.u8 x)
  | .u16 x => k (.u16 x)
  | .u32 x => k (.u32 x)
  | .u64 x => k (.u64 x)
  | .int kk n => k (.int kk n)
  | .str s => k (.str s)
  | .nilp => k .nilp
  | .nils => k .nils
  | .ptr i x sz c => k (.ptr i x sz c)
  | .slice i x sz n c nl => k (.slice i x sz n c nl)
  | .rb p l nl => k (.rb p l nl)
  | .ros p sz n g nl => k (.ros p sz n g nl)
  | .rp p cs => k (.rp p cs)
  | .agg cs => k (.agg cs)
  | .tup vs => k (.tup vs)
  | .fn f a b => k (.fn f a b)
  | .raw v => k (.raw v)
theorem forceV0_eq {α : Type} (a : AV) (k : AV → α) : forceV0 a k = k a := by cases a <;> rfl
def forceL0 {α : Type} : List AV → (List AV → α) → α
  | [], k => k []
  | a :: as, k => forceV0 a fun a' => forceL0 as fun as' => k (a' :: as')
theorem forceL0_eq {α : Type} : ∀ (l : List AV) (k : List AV → α), forceL0 l k = k l
  | [], _ => rfl
  | a :: as, k => by simp only [forceL0]; rw [forceV0_eq, forceL0_eq]
def forceV1 {α : Type} (a : AV) (k : AV → α) : α :=
  match a with
  | .agg cs => forceL0 cs fun cs' => k (.agg cs')
  | .rp p cs => forceL0 cs fun cs' => k (.rp p cs')
  | .fn f x y => forceL0 x fun x' => forceL0 y fun y' => k (.fn f x' y')
  | a => forceV0 a k
theorem forceV1_eq {α : Type} (a : AV) (k : AV → α) : forceV1 a k = k a := by cases a <;> simp only [forceV1, forceL0_eq, forceV0_eq]
def forceL1 {α : Type} : List AV → (List AV → α) → α
  | [], k => k []
  | a :: as, k => forceV1 a fun a' => forceL1 as fun as' => k (a' :: as')
theorem forceL1_eq {α : Type} : ∀ (l : List AV) (k : List AV → α), forceL1 l k = k l
  | [], _ => rfl
  | a :: as, k => by simp only [forceL1]; rw [forceV1_eq, forceL1_eq]
def forceV {α : Type} (a : AV) (k : AV → α) : α :=
  match a with
  | .tup vs => forceL1 vs fun vs' => k (.tup vs')
  | a => forceV1 a k
theorem forceV_eq {α : Type} (a : AV) (k : AV → α) : forceV a k = k a := by cases a <;> simp only [forceV, forceL1_eq, forceV1_eq]
def forceN {α : Type} (n : Nat) (k : Nat → α) : α :=
  match n with
  | 0 => k 0
  | m + 1 => k (m + 1)
theorem forceN_eq {α : Type} (n : Nat) (k : Nat → α) : forceN n k = k n := by cases n <;> rfl
def forceB {α : Type} (b : Option ABlk) (k : Option ABlk → α) : α :=
  match b with
  | none => k none
  | some ⟨.cells l, wr, own⟩ => forceL0 l fun l' => k (some ⟨.cells l', wr, own⟩)
  | some ⟨.bytes l, wr, own⟩ => k (some ⟨.bytes l, wr, own⟩)
  | some ⟨.rows sz n g, wr, own⟩ => k (some ⟨.rows sz n g, wr, own⟩)
theorem forceB_eq {α : Type} (b : Option ABlk) (k : Option ABlk → α) : forceB b k = k b := by
  cases b with
  | none => rfl
  | some b =>
    obtain ⟨c, wr, own⟩ := b
    cases c <;> simp only [forceB, forceL0_eq]
def upsK {α : Type} : List (Nat × Option ABlk) → HT → (HT → α) → α
  | [], h, k => k h
  | (i, b) :: l, h, k => forceB b fun b' => Tr.putK DH h i b' fun h' => upsK l h' k
theorem upsK_eq {α : Type} : ∀ (l : List (Nat × Option ABlk)) (h : HT) (k : HT → α), upsK l h k = k (h.ups l)
  | [], _, _ => rfl
  | (i, b) :: l, h, k => by simp only [upsK, HT.ups]; rw [forceB_eq, Tr.putK_eq, upsK_eq]
def putK (n : Nat) (dst : Option Tmp) (v : AV) (e : Env) (k : Env → Prop) : Prop :=
  match dst with
  | none => k e
  | some d => chk (decide (d < n)) (forceV v fun v' => Tr.putK DE e d (some v') k)
theorem putK_spec {dst : Option Tmp} {v : AV} {e : Env} {k : Env → Prop} (h : putK n dst v e k) : ∃ e', putE n dst v e e' ∧ k e' := by
  unfold putK at h
  split at h
  · exact ⟨e, rfl, h⟩
  · rename_i d
    obtain ⟨hd, h⟩ := chk_iff.1 h
    rw [forceV_eq, Tr.putK_eq] at h
    exact ⟨_, ⟨by simpa using hd, rfl⟩, h⟩

/-- Does it get along with what came ahead? -/
def getsOn (ms : List Nat) (ops : Array Oper) (j : Nat) (fp : FP) (prev : List (Nat × FP)) : Bool :=
  prev.all fun a => (ms.getD j 0).testBit a.1 || free ops a (j, fp)

def nextPrev (draw : Bool) (prev : List (Nat × FP)) (x : Nat × FP) : List (Nat × FP) := match draw with | true => prev ++ [x] | false => prev
def fpOf (draw : Bool) (fp : FP) : FP := match draw with | true => fp | false => ([], [])
theorem Tr.put_self {α : Type} : ∀ (d : Nat) (T : Tr α) (t : Nat) (v : α), Tr.get d T t = some v → Tr.put d T t (some v) = T := by
  intro d
  induction d with
  | zero =>
    intro T t v h
    cases T <;> simp only [Tr.get, reduceCtorEq] at h
    subst h
    rfl
  | succ d ih =>
    intro T t v h
    cases T with
    | node l r =>
      simp only [Tr.get] at h
      simp only [Tr.put]
      split at h
      · rw [ih l _ v h]
      · rw [ih r _ v h]
    | _ => simp only [Tr.get, reduceCtorEq] at h
/-- What is told by a test that came out so. -/
def setG (ops : Array Oper) (o : Oper) (env : Env) (b : Bool) (k : Env → Prop) : Prop :=
  match o.guard with
  | none => k env
  | some (j, want) =>
    match (ops[j]?).bind (·.dst) with
    | some d => Tr.putK DE env d (some (.bool (match want with | true => b | false => !b))) k
    | none => k env
theorem setG_eq {ops : Array Oper} {o : Oper} {env : Env} {b : Bool} {k : Env → Prop} (h : wantA ops o env = .by b) : setG ops o env b k = k env := by
  unfold wantA at h
  unfold setG
  split at h
  · cases h
  · rename_i j want hg
    try simp only [hg]
    split at h
    · rename_i d hd
      try simp only [hd]
      split at h
      · rename_i c hc
        have hget : Tr.get DE env d = some (.bool c) := by
          unfold Env.at at hc
          cases hg2 : Tr.get DE env d with
          | none => rw [hg2] at hc; cases hc
          | some v => rw [hg2] at hc; simp only [Option.getD_some] at hc; rw [hc]
        rw [Tr.putK_eq]
        cases want
        · simp only [Want.by.injEq] at h
          subst h
          simp only [Bool.not_not]
          rw [Tr.put_self _ _ _ _ hget]
        · simp only [Want.by.injEq] at h
          subst h
          simp only
          rw [Tr.put_self _ _ _ _ hget]
      · cases h
      · cases h
    · cases h
theorem setG_mono {ops : Array Oper} {o : Oper} {env : Env} {b : Bool} {k k' : Env → Prop} (hk : ∀ e, k e → k' e) (h : setG ops o env b k) : setG ops o env b k' := by
  unfold setG at h ⊢
  split at h
  · exact hk _ h
  · split at h
    · rw [Tr.putK_eq] at h ⊢; exact hk _ h
    · exact hk _ h

/-- An operation that is carried out; one that is not. -/
def goP (P : Program) (Γ : Ctx) (draw : Bool) (ops : Array Oper) (n : Nat) (o : Oper) (j : Nat) (prev : List (Nat × FP)) (hp : HT) (nx : Nat) (k : FP → AS → Prop) (env : Env) : Prop :=
  forceL1 (argsOf env o) fun args => forceN (nx + STR * j) fun fr =>
    (aop P Γ o args fr (viewH draw o args hp.f)).toP fun r =>
      let fp : FP := fpOf draw (rdOf o args hp.f, r.up.map (·.1))
      chk (decide (fr + STR ≤ GB) && r.up.all (fun p => decide (p.1 < 2 ^ DH)) && (match draw with | true => getsOn (masks ops) ops j fp prev | false => true))
        (obsP r.ob (putK n o.dst r.v env fun e => upsK r.up hp fun h => k fp ⟨e, h, nx⟩))
def skipP (draw : Bool) (ops : Array Oper) (n : Nat) (o : Oper) (j : Nat) (prev : List (Nat × FP)) (hp : HT) (nx : Nat) (k : FP → AS → Prop) (env : Env) : Prop :=
  chk (match draw with | true => getsOn (masks ops) ops j ([], []) prev | false => true)
    (putK n o.dst (.tup []) env fun e => k ([], []) ⟨e, hp, nx⟩)
def lexP (P : Program) (Γ : Ctx) (draw : Bool) (ops : Array Oper) (n : Nat) : List Oper → Nat → List (Nat × FP) → AS → (AS → Prop) → Prop
  | [], _, _, s, K => K s
  | o :: rest, j, prev, ⟨env, hp, nx⟩, K =>
    match wantA ops o env with
    | .no => False
    | .yes => goP P Γ draw ops n o j prev hp nx (fun fp s => lexP P Γ draw ops n rest (j + 1) (nextPrev draw prev (j, fp)) s K) env
    | .skip => skipP draw ops n o j prev hp nx (fun fp s => lexP P Γ draw ops n rest (j + 1) (nextPrev draw prev (j, fp)) s K) env
    | .by b => bifP b (setG ops o env true (goP P Γ draw ops n o j prev hp nx (fun fp s => lexP P Γ draw ops n rest (j + 1) (nextPrev draw prev (j, fp)) s K)))
        (setG ops o env false (skipP draw ops n o j prev hp nx (fun fp s => lexP P Γ draw ops n rest (j + 1) (nextPrev draw prev (j, fp)) s K)))
theorem putK_mono {n : Nat} {dst : Option Tmp} {v : AV} {e : Env} {k k' : Env → Prop} (hk : ∀ e, k e → k' e) (hp : putK n dst v e k) : putK n dst v e k' := by
  unfold putK at hp ⊢
  split at hp
  · exact hk _ hp
  · obtain ⟨h1, h2⟩ := chk_iff.1 hp
    rw [forceV_eq, Tr.putK_eq] at h2
    exact chk_iff.2 ⟨h1, by rw [forceV_eq, Tr.putK_eq]; exact hk _ h2⟩
theorem T.toP_mono {k k' : R → Prop} (hk : ∀ r, k r → k' r) : ∀ (t : T), t.toP k → t.toP k'
  | .no, h => h
  | .ok r, h => hk _ h
  | .br b x y, h => by
    cases b
    · exact T.toP_mono hk y h
    · exact T.toP_mono hk x h
theorem goP_mono {P : Program} {Γ : Ctx} {draw : Bool} {ops : Array Oper} {n : Nat} {o : Oper} {j : Nat} {prev : List (Nat × FP)} {hp : HT} {nx : Nat} {k k' : FP → AS → Prop} (hk : ∀ fp s, k fp s → k' fp s) {env : Env}
    (h : goP P Γ draw ops n o j prev hp nx k env) : goP P Γ draw ops n o j prev hp nx k' env := by
  unfold goP at h ⊢
  rw [forceL1_eq, forceN_eq] at h ⊢
  refine T.toP_mono (fun r hr => ?_) _ h
  obtain ⟨h1, h2⟩ := chk_iff.1 hr
  obtain ⟨h3, h4⟩ := (obsP_iff _ _).1 h2
  refine chk_iff.2 ⟨h1, (obsP_iff _ _).2 ⟨h3, putK_mono (fun e he => ?_) h4⟩⟩
  rw [upsK_eq] at he ⊢
  exact hk _ _ he
theorem skipP_mono {draw : Bool} {ops : Array Oper} {n : Nat} {o : Oper} {j : Nat} {prev : List (Nat × FP)} {hp : HT} {nx : Nat} {k k' : FP → AS → Prop} (hk : ∀ fp s, k fp s → k' fp s) {env : Env}
    (h : skipP draw ops n o j prev hp nx k env) : skipP draw ops n o j prev hp nx k' env := by
  unfold skipP at h ⊢
  obtain ⟨h1, h2⟩ := chk_iff.1 h
  exact chk_iff.2 ⟨h1, putK_mono (fun e he => hk _ _ he) h2⟩
theorem lexP_mono {P : Program} {Γ : Ctx} {n : Nat} {draw : Bool} {ops : Array Oper} : ∀ (l : List Oper) (j : Nat) (prev : List (Nat × FP)) (s : AS) (K K' : AS → Prop), (∀ s, K s → K' s) → lexP P Γ draw ops n l j prev s K → lexP P Γ draw ops n l j prev s K' := by
  intro l
  induction l with
  | nil => intro j prev s K K' h hh; exact h _ hh
  | cons o rest ih =>
    intro j prev s K K' h hh
    obtain ⟨env, hp, nx⟩ := s
    simp only [lexP] at hh ⊢
    split at hh
    · exact hh
    · exact goP_mono (fun fp s hs => ih _ _ _ _ _ h hs) hh
    · exact skipP_mono (fun fp s hs => ih _ _ _ _ _ h hs) hh
    · rename_i b hb
      cases b
      · exact setG_mono (fun env hh => skipP_mono (fun fp s hs => ih _ _ _ _ _ h hs) hh) (bifP_f hh)
      · exact setG_mono (fun env hh => goP_mono (fun fp s hs => ih _ _ _ _ _ h hs) hh) (bifP_t hh)
end
end Go.Sym

namespace Go.Sym
set_option linter.unusedVariables false
set_option linter.unusedSimpArgs false

/-- A state of the machine, and what is known of it. -/
structure RRel (gl : Gl) (M : Nat → Prop) (W0 : World) (n : Nat) (np : Nat) (κ0 : Ker) (L : Nat → Prop) (κ : Ker) (s : AS) (a : Act) (w : World) : Prop where
  env : ∀ t, t < 2 ^ DE → VRel κ (s.env.at t) (a.tmps.getD t undef)
  size : a.tmps.size = n
  defers : a.defers = []
  glob : GW gl w
  heap : HRel M w κ s.h.f
  only : Only M W0 w
  free : ∀ j, L j → ∀ i, s.nx + STR * j ≤ i → i < s.nx + STR * j + STR → i < GB → κ.ρ i = none
  grho : ∀ g, κ.ρ (GB + g) = some (g, 0)
  pin : ∀ i, i < np → (κ0.ρ i).isSome ∧ κ.ρ i = κ0.ρ i ∧ κ.cap i = κ0.cap i
  mm : ∀ x y, κ.m x = some y → κ0.m x = some y ∨ M x.block

section
variable {P : Program} {Γ : Ctx} {ops : Array Oper} {n np : Nat} {κ0 : Ker} {gl : Gl} {M : Nat → Prop} {W0 : World} {draw : Bool}

theorem lexP_run {K : AS → Prop} : ∀ (l : List Oper) (j : Nat) (prev : List (Nat × FP)) (s : AS), (∀ i, l[i]? = ops[j + i]?) → lexP P Γ draw ops n l j prev s K →
    ∃ (run : List (Nat × FP)) (s2 : AS), LexRun P Γ draw ops n run s s2 ∧ K s2 ∧ run.map (·.1) = List.range' j l.length ∧
      (draw = true → (∀ b ∈ run, ∀ a ∈ prev, ((masks ops).getD b.1 0).testBit a.1 = true ∨ free ops a b = true) ∧ run.Pairwise fun a b => ((masks ops).getD b.1 0).testBit a.1 = true ∨ free ops a b = true) := by
  intro l
  induction l with
  | nil =>
    intro j prev s hl h
    exact ⟨[], s, .nil s, h, rfl, fun _ => ⟨fun b hb => absurd hb (by simp), .nil⟩⟩
  | cons o rest ih =>
    intro j prev s hl h
    have h0 : ops[j]? = some o := by simpa using (hl 0).symm
    have hl' : ∀ i, rest[i]? = ops[j + 1 + i]? := by
      intro i
      have := hl (i + 1)
      simp only [List.getElem?_cons_succ] at this
      rw [this]
      congr 1
      omega
    have gets : ∀ {fp : FP}, getsOn (masks ops) ops j fp prev = true → ∀ a ∈ prev, ((masks ops).getD j 0).testBit a.1 = true ∨ free ops a (j, fp) = true := by
      intro fp hg a ha
      unfold getsOn at hg
      rw [List.all_eq_true] at hg
      simpa using hg a ha
    -- one step, and the rest
    have fin : ∀ {fp : FP} {s1 : AS}, StepR P Γ draw ops n j s s1 fp → (draw = true → getsOn (masks ops) ops j fp prev = true) →
        lexP P Γ draw ops n rest (j + 1) (nextPrev draw prev (j, fp)) s1 K →
        ∃ (run : List (Nat × FP)) (s2 : AS), LexRun P Γ draw ops n run s s2 ∧ K s2 ∧ run.map (·.1) = List.range' j (o :: rest).length ∧
          (draw = true → (∀ b ∈ run, ∀ a ∈ prev, ((masks ops).getD b.1 0).testBit a.1 = true ∨ free ops a b = true) ∧ run.Pairwise fun a b => ((masks ops).getD b.1 0).testBit a.1 = true ∨ free ops a b = true) := by
      intro fp s1 hstep hg hrest
      obtain ⟨run, s2, k1, k2, k3, k4⟩ := ih (j + 1) _ s1 hl' hrest
      refine ⟨(j, fp) :: run, s2, .cons hstep k1, k2, by simp [k3, List.range'_succ], fun hd => ?_⟩
      subst hd
      obtain ⟨k5, k6⟩ := k4 rfl
      refine ⟨?_, List.pairwise_cons.2 ⟨fun b hb => k5 b hb (j, fp) (by simp [nextPrev]), k6⟩⟩
      intro b hb a ha
      rcases List.mem_cons.1 hb with h | h
      · subst h; exact gets (hg rfl) a ha
      · exact k5 b h a (by simp [nextPrev, ha])
    let k : FP → AS → Prop := fun fp s => lexP P Γ draw ops n rest (j + 1) (nextPrev draw prev (j, fp)) s K
    have skip : ∀ {b : Bool}, (wantA ops o s.env).is false → skipP draw ops n o j prev s.h s.nx k s.env →
        ∃ (run : List (Nat × FP)) (s2 : AS), LexRun P Γ draw ops n run s s2 ∧ K s2 ∧ run.map (·.1) = List.range' j (o :: rest).length ∧
          (draw = true → (∀ b ∈ run, ∀ a ∈ prev, ((masks ops).getD b.1 0).testBit a.1 = true ∨ free ops a b = true) ∧ run.Pairwise fun a b => ((masks ops).getD b.1 0).testBit a.1 = true ∨ free ops a b = true) := by
      intro _ hw hh
      unfold skipP at hh
      obtain ⟨hc, hh⟩ := chk_iff.1 hh
      obtain ⟨e, he, hh⟩ := putK_spec hh
      exact fin (s1 := ⟨e, s.h, s.nx⟩) ⟨o, h0, .inl ⟨hw, he, rfl, rfl, rfl⟩⟩ (fun hd => by subst hd; exact hc) hh
    have go : (wantA ops o s.env).is true → goP P Γ draw ops n o j prev s.h s.nx k s.env →
        ∃ (run : List (Nat × FP)) (s2 : AS), LexRun P Γ draw ops n run s s2 ∧ K s2 ∧ run.map (·.1) = List.range' j (o :: rest).length ∧
          (draw = true → (∀ b ∈ run, ∀ a ∈ prev, ((masks ops).getD b.1 0).testBit a.1 = true ∨ free ops a b = true) ∧ run.Pairwise fun a b => ((masks ops).getD b.1 0).testBit a.1 = true ∨ free ops a b = true) := by
      intro hw hh
      unfold goP at hh
      rw [forceL1_eq, forceN_eq] at hh
      obtain ⟨r, hsel, hh⟩ := T.toP_sel _ hh
      obtain ⟨hc, hh⟩ := chk_iff.1 hh
      simp only [Bool.and_eq_true, decide_eq_true_eq, List.all_eq_true] at hc
      obtain ⟨⟨hb, hu⟩, hg⟩ := hc
      obtain ⟨hob, hh⟩ := (obsP_iff _ _).1 hh
      obtain ⟨e, he, hh⟩ := putK_spec hh
      rw [upsK_eq] at hh
      cases draw with
      | true => exact fin (s1 := ⟨e, s.h.ups r.up, s.nx⟩) (fp := fpOf true (rdOf o (argsOf s.env o) s.h.f, r.up.map (·.1))) ⟨o, h0, .inr ⟨hw, hb, r, hsel, hob, hu, he, rfl, rfl, rfl⟩⟩ (fun _ => hg) hh
      | false => exact fin (s1 := ⟨e, s.h.ups r.up, s.nx⟩) (fp := (rdOf o (argsOf s.env o) s.h.f, r.up.map (·.1))) ⟨o, h0, .inr ⟨hw, hb, r, hsel, hob, hu, he, rfl, rfl, rfl⟩⟩ (fun hd => by cases hd) hh
    simp only [lexP] at h
    split at h
    · exact h.elim
    · rename_i hw
      exact go (by rw [hw]; rfl) h
    · rename_i hw
      exact skip (b := true) (by rw [hw]; rfl) h
    · rename_i b hw
      cases b
      · have h' := bifP_f h
        rw [setG_eq hw] at h'
        exact skip (b := true) (by rw [hw]; rfl) h'
      · have h' := bifP_t h
        rw [setG_eq hw] at h'
        exact go (by rw [hw]; rfl) h'

theorem aeval_rel {L : Nat → Prop} {κ : Ker} {s : AS} {a : Act} {w : World} (r : RRel gl M W0 n np κ0 L κ s a w) (x : Operand) (hx : ∀ t, x = .tmp t → t < 2 ^ DE) : VRel κ (aeval s.env x) (a.eval x) := by
  cases x with
  | tmp t => exact r.env t (hx t rfl)
  | const v => exact absC_rel κ v
  | global g => exact ⟨g, 0, r.grho g, rfl⟩
  | func f => exact ⟨#[], #[], rfl, rfl, rfl⟩

theorem args_rel {L : Nat → Prop} {κ : Ker} {s : AS} {a : Act} {w : World} (r : RRel gl M W0 n np κ0 L κ s a w) : ∀ xs : List Operand, (∀ t, Operand.tmp t ∈ xs → t < 2 ^ DE) → VRels κ (xs.map (aeval s.env)) (xs.map a.eval)
  | [], _ => rfl
  | x :: xs, h => ⟨_, _, rfl, aeval_rel r x (fun t ht => h t (by simp [ht])), args_rel r xs (fun t ht => h t (by simp [ht]))⟩

theorem want_rel {L : Nat → Prop} {κ : Ker} {s : AS} {a : Act} {w : World} (r : RRel gl M W0 n np κ0 L κ s a w) (hs : slotsOK ops = true) {o : Oper} {b : Bool} (h : (wantA ops o s.env).is b) :
    Region.wanted o (yielded ops a.tmps) = b := by
  unfold wantA at h
  unfold Region.wanted
  split at h
  · rename_i hg; simp only [Want.is] at h; subst h; simp [hg]
  · rename_i j want hg
    simp only [hg]
    split at h
    · rename_i d hd
      have hlt : d < 2 ^ DE := by
        simp only [Option.bind_eq_some_iff] at hd
        obtain ⟨o2, ho2, hdst⟩ := hd
        exact (slotsOK_op hs ho2).2 d hdst
      split at h
      · rename_i bb he
        have hv := r.env d hlt
        rw [he] at hv
        simp only [VRel] at hv
        have hy : yielded ops a.tmps j = some bb := by
          unfold yielded
          simp only [hd, Option.bind_some]
          have : a.tmps[d]? = some (.bool bb) := by
            rcases Nat.lt_or_ge d a.tmps.size with h' | h'
            · simp [Array.getD, h'] at hv
              simp [h', hv]
            · simp [Array.getD, Nat.not_lt.2 h', undef] at hv
          simp [this]
        rw [hy]
        clear he hv hy
        cases want
        · simp only [Want.is] at h
          subst h
          cases bb <;> rfl
        · simp only [Want.is] at h
          subst h
          cases b <;> rfl
      · rename_i he
        have hv := r.env d hlt
        rw [he] at hv
        simp only [VRel] at hv
        obtain ⟨vs, hv, hvs⟩ := hv
        have hy : yielded ops a.tmps j = none := by
          unfold yielded
          simp only [hd, Option.bind_some]
          cases hat : a.tmps[d]? with
          | none => rfl
          | some x =>
            have hx : x = .tuple vs := by
              rw [← hv]
              simp [Array.getD_eq_getD_getElem?, hat]
            rw [hx]
        rw [hy]
        simp only [Want.is] at h
        subst h
        rfl
      · simp [Want.is] at h
    · simp [Want.is] at h

theorem wp_of_post {o : Oper} {a : Act} {w : World} {Post : Value → World → Prop} {K : Act → World → Prop} {Q : Exit → Act → World → Prop} (h : OpPost P w Post ((execOp a.eval o).run P w))
    (hK : ∀ x w', Post x w' → K (a.put o.dst x) w') : o.wp P a w K Q := by
  unfold Oper.wp
  generalize (execOp a.eval o).run P w = r at h
  cases r with
  | ok nx w' =>
    cases nx <;> simp only [OpPost] at h <;> simp only [Oper.upon]
    · exact hK _ _ h
    · exact hK _ _ h
    · obtain ⟨rfl, hc⟩ := h
      refine hc.mono ?_
      rintro e w'' ⟨x, rfl, hp⟩
      exact hK _ _ hp
  | halt x w' => simp only [OpPost] at h

theorem RRel.put {L L' : Nat → Prop} {κ κ' : Ker} {s s' : AS} {a : Act} {w w' : World} (r : RRel gl M W0 n np κ0 L κ s a w) (hMG : MOK gl M) (hn : n ≤ 2 ^ DE) {j : Nat} {dst : Option Tmp} {v : AV} {x : Value}
    (hle : κ.le κ') (hout : ∀ i, (i < s.nx + STR * j ∨ s.nx + STR * j + STR ≤ i) → κ'.ρ i = κ.ρ i) (hv : VRel κ' v x) (hh : HRel M w' κ' s'.h.f) (ho : Only M w w') (hmm : ∀ x y, κ'.m x = some y → κ.m x = some y ∨ M x.block)
    (hL : ∀ k, L' k → L k ∧ k ≠ j) (hp : putE n dst v s.env s'.env) (hx : s'.nx = s.nx) : RRel gl M W0 n np κ0 L' κ' s' (a.put dst x) w' := by
  have hfree : ∀ k, L' k → ∀ i, s'.nx + STR * k ≤ i → i < s'.nx + STR * k + STR → i < GB → κ'.ρ i = none := by
    intro k hk i h1 h2 h3
    obtain ⟨hl, hne⟩ := hL k hk
    rw [hx] at h1 h2
    rw [hout i ?_]
    · exact r.free k hl i h1 h2 h3
    · unfold STR at *
      omega
  have hpin : ∀ i, i < np → (κ0.ρ i).isSome ∧ κ'.ρ i = κ0.ρ i ∧ κ'.cap i = κ0.cap i := by
    intro i hi
    obtain ⟨h1, h2, h3⟩ := r.pin i hi
    obtain ⟨p, hp⟩ := Option.isSome_iff_exists.1 h1
    rw [hp] at h2
    refine ⟨h1, by rw [hle.ρ i p h2, hp], ?_⟩
    rw [hle.cap i (by rw [h2]; rfl), h3]
  have hmm' : ∀ x y, κ'.m x = some y → κ0.m x = some y ∨ M x.block := by
    intro x y hxy
    rcases hmm x y hxy with h | h
    · exact r.mm x y h
    · exact .inr h
  cases dst with
  | none =>
    simp only [putE] at hp
    exact ⟨fun t ht => by rw [hp]; exact (r.env t ht).mono hle, r.size, r.defers, r.glob.only hMG ho, hh, r.only.trans ho, hfree, fun g => hle.ρ _ _ (r.grho g), hpin, hmm'⟩
  | some d =>
    obtain ⟨hd, hp⟩ := hp
    refine ⟨?_, by simpa [Act.put] using r.size, r.defers, r.glob.only hMG ho, hh, r.only.trans ho, hfree, fun g => hle.ρ _ _ (r.grho g), hpin, hmm'⟩
    intro t ht
    rw [hp, Env.at_set _ _ (Nat.lt_of_lt_of_le hd hn) ht]
    simp only [Act.put]
    split
    · rename_i he
      subst he
      have : t < a.tmps.size := by rw [r.size]; exact hd
      simpa [Array.getD, this] using hv
    · rename_i hne
      have : (a.tmps.setIfInBounds d x).getD t undef = a.tmps.getD t undef := by
        simp only [Array.getD_eq_getD_getElem?, Array.getElem?_setIfInBounds_ne (Ne.symm hne)]
      rw [this]
      exact (r.env t ht).mono hle

/-- One operation of a region. -/
theorem step_sound {L L' : Nat → Prop} {κ : Ker} {s s' : AS} {a : Act} {w : World} {j : Nat} {fp : FP} {K' : Act → World → Prop} {Q : Exit → Act → World → Prop}
    (hΓ : COKs P gl Γ) (hMG : MOK gl M) (hup : ∀ B, W0.heap.size ≤ B → M B) (hn : n ≤ 2 ^ DE) (hs : slotsOK ops = true)
    (r : RRel gl M W0 n np κ0 L κ s a w) (hLj : L j) (hL : ∀ k, L' k → L k ∧ k ≠ j)
    (h : StepR P Γ draw ops n j s s' fp) (hK : ∀ κ' a' w', RRel gl M W0 n np κ0 L' κ' s' a' w' → K' a' w') : wpOp P ops Q j K' a w := by
  obtain ⟨o, ho, h⟩ := h
  unfold wpOp
  simp only [ho]
  rcases h with ⟨hw, he, hm, hx, _⟩ | ⟨hw, hb, rr, hsel, hob, hu, he, hm, hx, _⟩
  · rw [want_rel r hs hw]
    simp only [Bool.false_eq_true, if_false]
    exact hK κ _ w (r.put (j := j) hMG hn κ.le_refl (fun _ _ => rfl) (v := .tup []) ⟨#[], rfl, rfl⟩ (by rw [hm]; exact r.heap) (Only.refl _ _) (fun _ _ h => .inl h) hL he hx)
  · rw [want_rel r hs hw]
    simp only [if_true]
    left
    have hfr : ∀ i, s.nx + STR * j ≤ i → i < s.nx + STR * j + STR → κ.ρ i = none := fun i h1 h2 => r.free j hLj i h1 h2 (by omega)
    have hvle : (viewH draw o (argsOf s.env o) s.h.f).le s.h.f := by
      cases draw
      · exact fun _ _ h => h
      · exact rest_le _ _
    have hargs := args_rel r o.op.operands.toList (slotsOK_op hs ho).1
    have hpost : OpPost P w (fun x w' => Good M w κ (s.nx + STR * j) rr.v (s.h.f.ups rr.up) x w') ((execOp a.eval o).run P w) := by
      have hN : ∀ {rr : R}, (aopN P Γ o (argsOf s.env o) (s.nx + STR * j) (viewH draw o (argsOf s.env o) s.h.f)).sel = some rr → obsT rr.ob → OpPost P w (fun x w' => Good M w κ (s.nx + STR * j) rr.v (s.h.f.ups rr.up) x w') ((execOp a.eval o).run P w) := by
        intro rr hsel hob
        unfold aopN at hsel
        split at hsel
        · rename_i ob v hp
          simp only [T.sel, Option.some.injEq] at hsel
          subst hsel
          obtain ⟨x, hx1, hrun⟩ := aopP_sound (w := w) (ev := a.eval) (fun v => rfl) hp hob hargs r.heap.mem
          rw [hrun]
          exact Good.same r.heap hx1
        · exact aopM_sound (ev := a.eval) (fun v => rfl) hargs hΓ r.glob hMG r.heap hvle (fun B hB => hup B (Nat.le_trans r.only.size hB)) hfr r.grho hb hsel hob
      have h1 : ∀ {rr : R}, (aop1 P Γ o (argsOf s.env o) (s.nx + STR * j) (viewH draw o (argsOf s.env o) s.h.f)).sel = some rr → obsT rr.ob → OpPost P w (fun x w' => Good M w κ (s.nx + STR * j) rr.v (s.h.f.ups rr.up) x w') ((execOp a.eval o).run P w) := by
        intro rr hsel hob
        unfold aop1 at hsel
        split at hsel
        · split at hsel
          · rename_i t ht
            exact aopS_sound (ev := a.eval) (fun v => rfl) hargs hΓ r.glob hMG r.heap hvle (fun B hB => hup B (Nat.le_trans r.only.size hB)) hfr r.grho hb ht hsel hob
          · exact hN hsel hob
        · exact hN hsel hob
      unfold aop at hsel
      split at hsel
      · obtain ⟨q, hq, rfl⟩ := T.mapR_sel hsel
        obtain ⟨o1, o2⟩ := frzR_obs hob
        exact OpPost.weak (fun x w' g => g.frz hvle o2) (h1 hq o1)
      · exact h1 hsel hob
    refine wp_of_post hpost ?_
    rintro x w' ⟨κ', g1, g2, g3, g4, g5, g6⟩
    exact hK κ' _ w' (r.put hMG hn g1 g2 g3 (by rw [hm, HT.f_ups _ _ hu]; exact g4) g5 g6 hL he hx)

theorem run_sound {Q' : Exit → Act → World → Prop} (hΓ : COKs P gl Γ) (hMG : MOK gl M) (hup : ∀ B, W0.heap.size ≤ B → M B) (hn : n ≤ 2 ^ DE) (hs : slotsOK ops = true) {s2 : AS}
    (hQ : ∀ κ a w, RRel gl M W0 n np κ0 (fun j => ops.size ≤ j) κ s2 a w → Q' .normal a w) :
    ∀ (run : List (Nat × FP)) (k m : Nat) (κ : Ker) (s : AS) (a : Act) (w : World), run.map (·.1) = List.range' k m → k + m = ops.size → RRel gl M W0 n np κ0 (fun j => k ≤ j) κ s a w → LexRun P Γ draw ops n run s s2 →
    wpOps P ops Q' (List.range' k m) a w := by
  intro run
  induction run with
  | nil =>
    intro k m κ s a w hr hk r h
    cases m with
    | zero =>
      cases h
      exact hQ κ a w (by simpa [show k = ops.size by omega] using r)
    | succ m => simp [List.range'_succ] at hr
  | cons x run ih =>
    intro k m κ s a w hr hk r h
    cases m with
    | zero => simp at hr
    | succ m =>
      obtain ⟨i, fp⟩ := x
      simp only [List.map_cons, List.range'_succ, List.cons.injEq] at hr
      obtain ⟨rfl, hr⟩ := hr
      cases h with
      | cons h1 h2 =>
        rw [List.range'_succ, wpOps_cons]
        exact step_sound (L' := fun j => i + 1 ≤ j) hΓ hMG hup hn hs r (Nat.le_refl _) (fun j hj => ⟨by omega, by omega⟩) h1 (fun κ' a' w' r' => ih (i + 1) m κ' _ a' w' hr (by omega) r' h2)

theorem any_sound {Q : AS → Prop} {Q' : Exit → Act → World → Prop}
    (hΓ : COKs P gl Γ) (hMG : MOK gl M) (hup : ∀ B, W0.heap.size ≤ B → M B) (hn : n ≤ 2 ^ DE) (hs : slotsOK ops = true)
    (hQ : ∀ κ s a w, Q s → RRel gl M W0 n np κ0 (fun j => ops.size ≤ j) κ s a w → Q' .normal a w) :
    ∀ (fuel : Nat) (listed : Array Bool) (κ : Ker) (s : AS) (a : Act) (w : World), listed.size = ops.size → RRel gl M W0 n np κ0 (fun j => listed.getD j false = false) κ s a w →
    anyR P Γ ops n Q fuel listed s → wpAny P .any ops Q' fuel listed a w := by
  have done : ∀ (listed : Array Bool) (κ : Ker) (s : AS) (a : Act) (w : World), listed.size = ops.size → RRel gl M W0 n np κ0 (fun j => listed.getD j false = false) κ s a w → Q s → Q' .normal a w := by
    intro listed κ s a w hsz r h
    refine hQ κ s a w h { r with free := fun j hj => r.free j ?_ }
    simp [Array.getD, hsz, Nat.not_lt.2 hj]
  intro fuel
  induction fuel with
  | zero => intro listed κ s a w hsz r h; exact ⟨h.1, done listed κ s a w hsz r h.2⟩
  | succ fuel ih =>
    intro listed κ s a w hsz r h
    refine ⟨fun h0 => done listed κ s a w hsz r (h.1 h0), fun i hi => ?_⟩
    obtain ⟨s', fp, h1, h2⟩ := h.2 i hi
    obtain ⟨hun, o, ho, _⟩ := mem_ready.1 hi
    have hlt : i < listed.size := by rw [hsz]; exact (Array.getElem?_eq_some_iff.1 ho).1
    refine step_sound (L' := fun j => (listed.setIfInBounds i true).getD j false = false) hΓ hMG hup hn hs r ?_ ?_ h1 ?_
    · simp [Array.getD, hlt] at hun ⊢
      exact hun
    · intro k hk
      by_cases hki : i = k
      · subst hki
        simp [Array.getD, hlt] at hk
      · rw [getD_set_ne false hki] at hk
        exact ⟨hk, Ne.symm hki⟩
    · intro κ' a' w' r'
      exact ih _ κ' s' a' w' (by simpa using hsz) r' h2

def AS.bump (s : AS) (k : Nat) : AS := ⟨s.env, s.h, s.nx + STR * k⟩

theorem RRel.bump {κ : Ker} {s : AS} {a : Act} {w : World} {k : Nat} (r : RRel gl M W0 n np κ0 (fun j => k ≤ j) κ s a w) : RRel gl M W0 n np κ0 (fun _ => True) κ (s.bump k) a w := by
  refine ⟨r.env, r.size, r.defers, r.glob, r.heap, r.only, ?_, r.grho, r.pin, r.mm⟩
  intro j _ i h1 h2 h3
  simp only [AS.bump] at h1 h2
  refine r.free (k + j) (by omega) i ?_ ?_ h3
  · rw [Nat.mul_add]; omega
  · rw [Nat.mul_add]; omega

/-- What a region's text must keep for the machine. -/
def regOK (ops : Array Oper) (draw : Bool) : Bool := slotsOK ops && (match draw with | true => orderOK ops && Region.noSelect ops | false => true)

theorem region_sound {id : Nat} {Q : AS → Prop} {Q' : Exit → Act → World → Prop}
    (hΓ : COKs P gl Γ) (hMG : MOK gl M) (hup : ∀ B, W0.heap.size ≤ B → M B) (hn : n ≤ 2 ^ DE) (hmix : P.follows .mixedOrders = true) (hreg : regOK ops draw = true)
    (hQ : ∀ κ s a w, Q s → RRel gl M W0 n np κ0 (fun _ => True) κ s a w → Q' .normal a w)
    {κ : Ker} {s : AS} {a : Act} {w : World} (r : RRel gl M W0 n np κ0 (fun _ => True) κ s a w)
    (h : lexP P Γ draw ops n ops.toList 0 [] s (fun s' => Q (s'.bump ops.size))) :
    (Code.region id ops draw).wp P Q' a w := by
  simp only [regOK, Bool.and_eq_true] at hreg
  obtain ⟨hs, hreg⟩ := hreg
  obtain ⟨run, s2, k1, k2, k3, k4⟩ := lexP_run ops.toList 0 [] s (by simp) h
  cases draw with
  | false =>
    refine wp_region ?_
    rw [List.range_eq_range']
    have := run_sound (Q' := Q') hΓ hMG hup hn hs (fun κ a w r' => hQ κ _ a w k2 r'.bump) run 0 ops.size κ s a w (by simpa using k3) (by simp) { r with free := fun j _ => r.free j trivial } k1
    exact this
  | true =>
    simp only [Bool.and_eq_true] at hreg
    obtain ⟨hord, hns⟩ := hreg
    obtain ⟨_, k5⟩ := k4 rfl
    refine wp_region_any hmix ?_
    have hlen : run.length = ops.size := by
      have := congrArg List.length k3
      simpa using this
    have hidx : ∀ i, i < ops.size → ∃ fp, (i, fp) ∈ run := by
      intro i hi
      have : i ∈ run.map (·.1) := by rw [k3]; simp [List.mem_range']; exact hi
      obtain ⟨x, hx, rfl⟩ := List.mem_map.1 this
      exact ⟨x.2, hx⟩
    have hany := any_of_run (Q := fun s' => Q (s'.bump ops.size)) hs hord ops.size run hlen (Array.replicate ops.size false) s s2 (by simp)
      (by
        intro k ok hk hl
        exfalso
        rcases Nat.lt_or_ge k ops.size with h' | h'
        · simp [Array.getD, h'] at hl
        · simp [Array.getD, Nat.not_lt.2 h'] at hl)
      (by
        intro i hi
        constructor
        · intro _; exact hidx i hi
        · intro _; simp [Array.getD, hi])
      (by
        intro x hx
        have : x.1 ∈ run.map (·.1) := List.mem_map_of_mem hx
        rw [k3] at this
        simpa [List.mem_range'] using this)
      (by
        have : (run.map (·.1)).Pairwise (· < ·) := by
          rw [k3]; exact List.pairwise_lt_range'
        exact (List.pairwise_map.1 this))
      k5 k1 k2
    have r0 : RRel gl M W0 n np κ0 (fun _ => True) κ s a w.drew := { r with glob := r.glob, heap := r.heap.drawn, only := r.only.trans (Only.drew M w) }
    have := any_sound (Q' := Q') hΓ hMG hup hn hs (fun κ s a w h1 r1 => hQ κ _ a w h1 r1.bump) ops.size (Array.replicate ops.size false) κ s a w.drew (by simp)
      { r0 with free := fun j _ => r0.free j trivial } hany
    exact this
end
end Go.Sym
