/- The same machine: operations on memory. -/
import Derived.Test.YtknplceohfeamaaGreatDoorSymA
import Derived.MapKept
import Derived.WideKeyRuns
import Derived.ChangeMaps5
set_option linter.unusedVariables false
set_option linter.unusedSimpArgs false
namespace Go.Sym
section
variable {P : Program} {κ : Ker} {w : World} {M : Nat->Prop} {h : H}
theorem r7 {o n sz : Nat} (hpos : 0 < sz) (h : n * sz<=o) : (o - n * sz) / sz = o / sz - n/\(o - n * sz) % sz = o % sz := by
 obtain ⟨d,rfl⟩ := Nat.exists_eq_add_of_le h
 rw [Nat.add_sub_cancel_left]
 constructor
 ·have := Nat.mul_add_div hpos n d
  rw [Nat.mul_comm n sz,this,Nat.add_sub_cancel_left]
 ·rw [Nat.mul_comm n sz,Nat.mul_add_mod]
theorem R5 {sz n m : Nat} {g g2 : Nat->List AV} {o : Nat} (hpos : 0 < sz) : (Con.rows sz (n + m) (lB g n g2)).at o = if o < n * sz then (Con.rows sz n g).at o else (Con.rows sz m g2).at (o - n * sz) := by
 simp only [Con.at,lB]
 by_cases h1 : o < n * sz
 ·have hd : o / sz < n := (Nat.div_lt_iff_lt_mul hpos).2 h1
  have h2 : o < (n + m) * sz := by rw [Nat.add_mul]; omega
  rw [if_pos h1,if_pos h1,if_pos h2,if_pos hd]
 ·have hge : n * sz<=o := by omega
  obtain ⟨hd,hm⟩ := r7 hpos hge
  have hd2 : ¬ o / sz < n := by
   intro hh
   exact h1 ((Nat.div_lt_iff_lt_mul hpos).1 hh)
  rw [if_neg h1,if_neg hd2,hd,hm]
  by_cases h2 : o < (n + m) * sz
  ·have h3 : o - n * sz < m * sz := by rw [Nat.add_mul] at h2; omega
   rw [if_pos h2,if_pos h3]
  ·have h3 : ¬ o - n * sz < m * sz := by rw [Nat.add_mul] at h2; omega
   rw [if_neg h2,if_neg h3]
theorem n2x {sz m : Nat} {q : List AV} {o : Nat} (hpos : 0 < sz) (hl : q.length = m * sz) : (Con.rows sz m (cut sz q)).at o = q[o]? := by
 simp only [Con.at,cut]
 split
 ·rename_i h
  rw [List.getElem?_take,if_pos (Nat.mod_lt _ hpos),List.getElem?_drop,Nat.div_add_mod']
 ·rw [List.getElem?_eq_none (by omega)]
theorem Src.con_nm (sz : Nat) (s : Src) : (s.con sz).isMap = false := by cases s <;> rfl
theorem G8 {b : Con} {sz n : Nat} {s : Src} {q : List Prop × Con} (h : b.app sz n s = some q) : q.2.isMap = false := by
 unfold Con.app at h
 split at h
 all_goals first | (simp only [Option.some.injEq] at h; subst h; rfl) | skip
 all_goals first | cases h | skip
 all_goals split at h
 all_goals first | (simp only [Option.some.injEq] at h; subst h; rfl) | cases h
theorem G9 {b : Con} {sz n : Nat} {s : Src} {q : List Prop × Con} (h : b.app sz n s = some q) : b.isMap = false := by
 cases b with
 | mp ag p g => cases s <;> simp [Con.app] at h
 | _ => rfl
theorem q1x {b : Con} {sz n : Nat} {q : List Prop × Con} (h : b.cutN sz n = some q) : q.2.isMap = false := by
 unfold Con.cutN at h
 split at h
 all_goals first | cases h | skip
 all_goals split at h
 all_goals first | (simp only [Option.some.injEq] at h; subst h; rfl) | cases h
theorem h0v {b : Con} {sz n : Nat} {q : List Prop × Con} (h : b.dropC sz n = some q) : q.2.isMap = false := by
 unfold Con.dropC at h
 split at h
 all_goals first | cases h | skip
 all_goals split at h
 all_goals first | (simp only [Option.some.injEq] at h; subst h; rfl) | cases h
theorem H2 {b c : Con} {sz n : Nat} {s : Src} {vs : List Value} {ob : List Prop} (hpos : 0 < sz) (hs : SrcR κ sz s vs) (hsz : ∀ l,s = .bytes l->sz = 1) (ha : b.app sz n s = some (ob,c)) (ho : zP ob) :
  c.len = (n + s.cnt) * sz/\b.len = n * sz/\∀ o,c.at o = if o < n * sz then b.at o else (s.con sz).at (o - n * sz) := by
 have hlen := hs.clen
 cases b with
 | bytes l =>
  cases s with
  | bytes t =>
   simp only [Con.app,Option.some.injEq,Prod.mk.injEq] at ha
   obtain ⟨rfl,rfl⟩ := ha
   obtain rfl := zA.1 ho
   obtain rfl := hsz t rfl
   refine ⟨by simp [Con.len,Src.cnt],by simp [Con.len],fun o => ?_⟩
   simp only [Con.at,Src.con,Nat.mul_one,List.getElem?_append]
   split <;> rfl
  | rows m g => simp [Con.app] at ha
  | cells m q => simp [Con.app] at ha
  | raw m q => simp [Con.app] at ha
 | cells l =>
  cases s with
  | bytes t => simp [Con.app] at ha
  | rows m g =>
   cases l with
   | cons a0 l0 => simp [Con.app] at ha
   | nil =>
    simp only [Con.app,Option.some.injEq,Prod.mk.injEq] at ha
    obtain ⟨rfl,rfl⟩ := ha
    obtain rfl := zA.1 ho
    refine ⟨by simp [Con.len,Src.cnt],by simp [Con.len],fun o => ?_⟩
    simp only [Nat.zero_mul,Nat.not_lt_zero,if_false,Nat.sub_zero,Src.con]
  | raw m q =>
   cases l with
   | cons a0 l0 => simp [Con.app] at ha
   | nil =>
    simp only [Con.app,Option.some.injEq,Prod.mk.injEq] at ha
    obtain ⟨rfl,rfl⟩ := ha
    obtain rfl := zA.1 ho
    simp only [Src.con,Con.len,Src.cnt] at hlen
    refine ⟨by simp [Con.len,Src.cnt,hlen],by simp [Con.len],fun o => ?_⟩
    simp [Con.at,Src.con]
  | cells m q =>
   simp only [Con.app] at ha
   split at ha
   ·rename_i hl
    simp only [Option.some.injEq,Prod.mk.injEq] at ha
    obtain ⟨rfl,rfl⟩ := ha
    simp only [Src.con,Con.len,Src.cnt] at hlen
    refine ⟨by simp [Con.len,Src.cnt,hl,hlen,Nat.add_mul],hl,fun o => ?_⟩
    simp only [Con.at,Src.con,List.getElem?_append,hl]
   ·cases ha
 | rows sz' n' g =>
  cases s with
  | bytes t => simp [Con.app] at ha
  | raw m q => simp [Con.app] at ha
  | rows m g2 =>
   simp only [Con.app] at ha
   split at ha
   ·rename_i hszz
    subst hszz
    simp only [Option.some.injEq,Prod.mk.injEq] at ha
    obtain ⟨rfl,rfl⟩ := ha
    obtain rfl := zA.1 ho
    exact ⟨by simp [Con.len,Src.cnt],rfl,fun o => R5 hpos⟩
   ·cases ha
  | cells m q =>
   simp only [Con.app] at ha
   split at ha
   ·rename_i hszz
    subst hszz
    simp only [Option.some.injEq,Prod.mk.injEq] at ha
    obtain ⟨rfl,rfl⟩ := ha
    obtain rfl := zA.1 ho
    simp only [Src.con,Con.len,Src.cnt] at hlen
    refine ⟨by simp [Con.len,Src.cnt],rfl,fun o => ?_⟩
    rw [R5 hpos]
    simp only [Src.cnt,Src.con]
    rw [n2x hpos hlen]
    rfl
   ·cases ha
 | mp ag p g => cases s <;> simp [Con.app] at ha
theorem HRel.wk {i : Nat} {b b' : ABlk} (r : HRel M w κ h) (hi : h i = some b) (hc : ∀ o a,b'.con.at o = some a->b.con.at o = some a) (hw : b'.wr = false) (ho : b'.own = 0) (hmp : b'.con.isMap = true->b'.con = b.con) : HRel M w κ (upd h i (some b')) := by
 have live : LiveB κ i b'->LiveB κ i b := by
  rintro (⟨o,a,h1⟩ | ⟨h1,_⟩)
  ·exact .inl ⟨o,a,hc o a h1⟩
  ·omega
 have tr : ∀ k c,upd h i (some b') k = some c->LiveB κ k c->∃ c0,h k = some c0/\LiveB κ k c0/\(c.wr = true->c0.wr = true) := by
  intro k c hk hl
  unfold upd at hk
  split at hk
  ·rename_i he
   subst he
   simp only [Option.some.injEq] at hk
   subst hk
   exact ⟨b,hi,live hl,fun h => by rw [hw] at h; cases h⟩
  ·exact ⟨c,hk,hl,fun h => h⟩
 refine ⟨?_,?_,?_,r.mem,r.mp.of (Ker.le_refl κ) (fun k c hk hm => by
  unfold upd at hk
  split at hk
  ·rename_i he
   subst he
   simp only [Option.some.injEq] at hk
   subst hk
   exact .inr ⟨b,hi,(hmp hm).symm⟩
  ·exact .inl hk) (fun _ _ _ h _ => h) fun _ _ _ _ _ _ _ _ _ h => h⟩
 ·intro k c hk
  unfold upd at hk
  split at hk
  ·rename_i he
   subst he
   simp only [Option.some.injEq] at hk
   subst hk
   obtain ⟨B,O,h1,h2,h3⟩ := r.blk k b hi
   exact ⟨B,O,h1,fun h => absurd h (by rw [hw]; decide),fun off a ha => ⟨(h3 off a (hc off a ha)).1,fun h => absurd h (by rw [hw]; decide)⟩⟩
  ·exact r.blk k c hk
 ·intro j k c c' C D C' D' hj hk hne hcw hcc hcc' e1 e2
  obtain ⟨c0,k1,k2,k3⟩ := tr j c hj hcc
  obtain ⟨c1,k4,k5,_⟩ := tr k c' hk hcc'
  exact r.sep j k c0 c1 C D C' D' k1 k4 hne (k3 hcw) k2 k5 e1 e2
 ·intro k c C D hk hown e1
  unfold upd at hk
  split at hk
  ·simp only [Option.some.injEq] at hk
   subst hk
   omega
  ·exact r.own k c C D hk hown e1
theorem HRel.alias {i f R : Nat} {b : ABlk} {B O : Nat} {c : Con} (r : HRel M w κ h) (hi : h i = some b) (hw : b.wr = false) (hρ : κ.ρ i = some (B,O)) (hf : κ.ρ f = none) (hc : ∀ o a,c.at o = some a->b.con.at o = some a) (hnm : c.isMap = false) :
  HRel M w (κ.put f (B,O) R) (upd h f (some ⟨c,false,0⟩)) := by
 have hle : κ.le (κ.put f (B,O) R) := Ker.le_put hf
 have r1 : HRel M w (κ.put f (B,O) R) h := r.ker hle r.mem (fun i b B O hi hw hl h1 a x hx => by
  obtain ⟨B1,O1,e1,e2,_⟩ := r.blk i b hi
  rw [h1] at e1
  simp only [Option.some.injEq,Prod.mk.injEq] at e1
  obtain ⟨rfl,rfl⟩ := e1
  exact (e2 hw hl).2.2.2 a x hx)
 have hfi : ∀ {k c0},h k = some c0->k ≠ f := by
  intro k c0 hk he
  subst he
  obtain ⟨p,hp⟩ := r.named hk
  rw [hf] at hp; cases hp
 have hif := hfi hi
 refine ⟨?_,?_,?_,r1.mem,r1.mp.upd (Ker.le_refl _) hnm fun _ _ _ _ _ _ _ _ _ h => h⟩
 ·intro k c0 hk
  unfold upd at hk
  split at hk
  ·rename_i he
   subst he
   simp only [Option.some.injEq] at hk
   subst hk
   refine ⟨B,O,Ker.put_self _ _ _ _,nofun,fun off a ha => ?_⟩
   obtain ⟨⟨x,hx,hv⟩,_⟩ := r.cells hi hρ (hc off a ha)
   exact ⟨⟨x,hx,hv.mono hle⟩,nofun⟩
  ·exact r1.blk k c0 hk
 ·intro j k c0 c1 C D C' D' hj hk hne hcw hcc hcc' e1 e2
  unfold upd at hj hk
  split at hj
  ·simp only [Option.some.injEq] at hj
   subst hj
   cases hcw
  ·split at hk
   ·rename_i hjf he
    subst he
    simp only [Option.some.injEq] at hk
    subst hk
    rw [Ker.put_self] at e2
    simp only [Option.some.injEq,Prod.mk.injEq] at e2
    obtain ⟨rfl,rfl⟩ := e2
    have hji : j ≠ i := by
     intro he
     subst he
     rw [hi] at hj
     simp only [Option.some.injEq] at hj
     subst hj
     rw [hw] at hcw; cases hcw
    rcases hcc' with ⟨o,a,ha⟩ | ⟨h0,_⟩
    ·rw [Ker.put_other κ _ _ hjf] at e1
     exact r.sep j i c0 b C D B O hj hi hji hcw (r.live_back hle hj hcc) (.inl ⟨o,a,hc o a ha⟩) e1 hρ
    ·simp at h0
   ·exact r1.sep j k c0 c1 C D C' D' hj hk hne hcw hcc hcc' e1 e2
 ·intro k c0 C D hk hown e1
  unfold upd at hk
  split at hk
  ·simp only [Option.some.injEq] at hk
   subst hk
   simp at hown
  ·exact r1.own k c0 C D hk hown e1
theorem HRel.rename {i f : Nat} {b : ABlk} {B O : Nat} (r : HRel M w κ h) (hi : h i = some b) (hρ : κ.ρ i = some (B,O)) (hf : κ.ρ f = none) (hnm : b.con.isMap = false) :
  HRel M w (κ.put f (B,O) (κ.cap i)) (upd (upd h i none) f (some b)) := by
 have hle : κ.le (κ.put f (B,O) (κ.cap i)) := Ker.le_put hf
 have r1 : HRel M w (κ.put f (B,O) (κ.cap i)) h := r.ker hle r.mem (fun i b B O hi hw hl h1 a x hx => by
  obtain ⟨B1,O1,e1,e2,_⟩ := r.blk i b hi
  rw [h1] at e1
  simp only [Option.some.injEq,Prod.mk.injEq] at e1
  obtain ⟨rfl,rfl⟩ := e1
  exact (e2 hw hl).2.2.2 a x hx)
 have hfi : ∀ {k c0},h k = some c0->k ≠ f := by
  intro k c0 hk he
  subst he
  obtain ⟨p,hp⟩ := r.named hk
  rw [hf] at hp; cases hp
 have hif := hfi hi
 have hlv : LiveB (κ.put f (B,O) (κ.cap i)) f b->LiveB κ i b := by
  rintro (h1 | ⟨h1,h2⟩)
  ·exact .inl h1
  ·rw [Ker.put_cap] at h2; exact .inr ⟨h1,h2⟩
 have look : ∀ {k c0},upd (upd h i none) f (some b) k = some c0->(k = f/\c0 = b) \/ (k ≠ f/\k ≠ i/\h k = some c0) := by
  intro k c0 hk
  unfold upd at hk
  split at hk
  ·simp only [Option.some.injEq] at hk
   exact .inl ⟨by assumption,hk.symm⟩
  ·split at hk
   ·cases hk
   ·exact .inr ⟨by assumption,by assumption,hk⟩
 refine ⟨?_,?_,?_,r1.mem,r1.mp.of (Ker.le_refl _) (fun k c0 hk hm => by
  rcases look hk with ⟨rfl,rfl⟩ | ⟨_,_,hk⟩
  ·rw [hnm] at hm; cases hm
  ·exact .inl hk) (fun _ _ _ h _ => h) fun _ _ _ _ _ _ _ _ _ h => h⟩
 ·intro k c0 hk
  rcases look hk with ⟨rfl,rfl⟩ | ⟨_,_,hk⟩
  ·obtain ⟨B1,O1,e1,e2,e3⟩ := r.blk i c0 hi
   rw [hρ] at e1
   simp only [Option.some.injEq,Prod.mk.injEq] at e1
   obtain ⟨rfl,rfl⟩ := e1
   refine ⟨B,O,Ker.put_self _ _ _ _,fun hw hl => e2 hw (hlv hl),fun off a ha => ?_⟩
   obtain ⟨⟨x,hx,hv⟩,hfz⟩ := e3 off a ha
   exact ⟨⟨x,hx,hv.mono hle⟩,hfz⟩
  ·exact r1.blk k c0 hk
 ·intro j k c0 c1 C D C' D' hj hk hne hcw hcc hcc' e1 e2
  rcases look hj with ⟨rfl,rfl⟩ | ⟨hjf,hji,hj⟩
  ·rcases look hk with ⟨rfl,rfl⟩ | ⟨hkf,hki,hk⟩
   ·exact absurd rfl hne
   ·rw [Ker.put_self] at e1
    simp only [Option.some.injEq,Prod.mk.injEq] at e1
    obtain ⟨rfl,rfl⟩ := e1
    rw [Ker.put_other κ _ _ hkf] at e2
    exact r.sep i k c0 c1 B O C' D' hi hk (Ne.symm hki) hcw (hlv hcc) (r.live_back hle hk hcc') hρ e2
  ·have hj2 := hj
   rcases look hk with ⟨rfl,rfl⟩ | ⟨hkf,hki,hk⟩
   ·rw [Ker.put_self] at e2
    simp only [Option.some.injEq,Prod.mk.injEq] at e2
    obtain ⟨rfl,rfl⟩ := e2
    rw [Ker.put_other κ _ _ hjf] at e1
    exact r.sep j i c0 c1 C D B O hj2 hi hji hcw (r.live_back hle hj2 hcc) (hlv hcc') e1 hρ
   ·exact r1.sep j k c0 c1 C D C' D' hj hk hne hcw hcc hcc' e1 e2
 ·intro k c0 C D hk hown e1
  rcases look hk with ⟨rfl,rfl⟩ | ⟨_,_,hk⟩
  ·rw [Ker.put_self] at e1
   simp only [Option.some.injEq,Prod.mk.injEq] at e1
   obtain ⟨rfl,rfl⟩ := e1
   rw [Ker.put_cap]
   exact r.own i c0 B O hi hown hρ
  ·exact r1.own k c0 C D hk hown e1
theorem HRel.shift {i f : Nat} {b : ABlk} {B O x : Nat} {c : Con} (r : HRel M w κ h) (hi : h i = some b) (hρ : κ.ρ i = some (B,O)) (hf : κ.ρ f = none) (hown : 0 < b.own)
  (hc : ∀ o a,c.at o = some a->b.con.at (x * b.own + o) = some a) (hcl : c.len<=b.con.len - x * b.own) (hnm : c.isMap = false) :
  HRel M w (κ.put f (B,O + x * b.own) (κ.cap i - x)) (upd (upd h i none) f (some ⟨c,b.wr,b.own⟩)) := by
 have hle : κ.le (κ.put f (B,O + x * b.own) (κ.cap i - x)) := Ker.le_put hf
 have r1 : HRel M w (κ.put f (B,O + x * b.own) (κ.cap i - x)) h := r.ker hle r.mem (fun i b B O hi hw hl h1 a x hx => by
  obtain ⟨B1,O1,e1,e2,_⟩ := r.blk i b hi
  rw [h1] at e1
  simp only [Option.some.injEq,Prod.mk.injEq] at e1
  obtain ⟨rfl,rfl⟩ := e1
  exact (e2 hw hl).2.2.2 a x hx)
 have hfi : ∀ {k c0},h k = some c0->k ≠ f := by
  intro k c0 hk he
  subst he
  obtain ⟨p,hp⟩ := r.named hk
  rw [hf] at hp; cases hp
 have hif := hfi hi
 have hlv : LiveB (κ.put f (B,O + x * b.own) (κ.cap i - x)) f ⟨c,b.wr,b.own⟩->LiveB κ i b := by
  rintro (⟨o,a,h1⟩ | ⟨h1,h2⟩)
  ·exact .inl ⟨_,_,hc o a h1⟩
  ·rw [Ker.put_cap] at h2; exact .inr ⟨h1,by omega⟩
 have look : ∀ {k c0},upd (upd h i none) f (some ⟨c,b.wr,b.own⟩) k = some c0->(k = f/\c0 = ⟨c,b.wr,b.own⟩) \/ (k ≠ f/\k ≠ i/\h k = some c0) := by
  intro k c0 hk
  unfold upd at hk
  split at hk
  ·simp only [Option.some.injEq] at hk
   exact .inl ⟨by assumption,hk.symm⟩
  ·split at hk
   ·cases hk
   ·exact .inr ⟨by assumption,by assumption,hk⟩
 refine ⟨?_,?_,?_,r1.mem,r1.mp.of (Ker.le_refl _) (fun k c0 hk hm => by
  rcases look hk with ⟨rfl,rfl⟩ | ⟨_,_,hk⟩
  ·rw [hnm] at hm; cases hm
  ·exact .inl hk) (fun _ _ _ h _ => h) fun _ _ _ _ _ _ _ _ _ h => h⟩
 ·intro k c0 hk
  rcases look hk with ⟨rfl,rfl⟩ | ⟨_,_,hk⟩
  ·obtain ⟨B1,O1,e1,e2,e3⟩ := r.blk i b hi
   rw [hρ] at e1
   simp only [Option.some.injEq,Prod.mk.injEq] at e1
   obtain ⟨rfl,rfl⟩ := e1
   refine ⟨B,_,Ker.put_self _ _ _ _,fun hw hl => e2 hw (hlv hl),fun off a ha => ?_⟩
   obtain ⟨⟨y,hy,hv⟩,hfz⟩ := e3 _ a (hc off a ha)
   rw [<- Nat.add_assoc] at hy hfz
   exact ⟨⟨y,hy,hv.mono hle⟩,hfz⟩
  ·exact r1.blk k c0 hk
 ·intro j k c0 c1 C D C' D' hj hk hne hcw hcc hcc' e1 e2
  rcases look hj with ⟨rfl,rfl⟩ | ⟨hjf,hji,hj⟩
  ·rcases look hk with ⟨rfl,rfl⟩ | ⟨hkf,hki,hk⟩
   ·exact absurd rfl hne
   ·rw [Ker.put_self] at e1
    simp only [Option.some.injEq,Prod.mk.injEq] at e1
    obtain ⟨rfl,rfl⟩ := e1
    rw [Ker.put_other κ _ _ hkf] at e2
    exact r.sep i k b c1 B O C' D' hi hk (Ne.symm hki) hcw (hlv hcc) (r.live_back hle hk hcc') hρ e2
  ·have hj2 := hj
   rcases look hk with ⟨rfl,rfl⟩ | ⟨hkf,hki,hk⟩
   ·rw [Ker.put_self] at e2
    simp only [Option.some.injEq,Prod.mk.injEq] at e2
    obtain ⟨rfl,rfl⟩ := e2
    rw [Ker.put_other κ _ _ hjf] at e1
    exact r.sep j i c0 b C D B O hj2 hi hji hcw (r.live_back hle hj2 hcc) (hlv hcc') e1 hρ
   ·exact r1.sep j k c0 c1 C D C' D' hj hk hne hcw hcc hcc' e1 e2
 ·intro k c0 C D hk hown2 e1
  rcases look hk with ⟨rfl,rfl⟩ | ⟨_,_,hk⟩
  ·rw [Ker.put_self] at e1
   simp only [Option.some.injEq,Prod.mk.injEq] at e1
   obtain ⟨rfl,rfl⟩ := e1
   rw [Ker.put_cap]
   obtain ⟨k1,k2,k3⟩ := r.own i b B O hi hown hρ
   have hm : (κ.cap i - x) * b.own = κ.cap i * b.own - x * b.own := Nat.sub_mul _ _ _
   refine ⟨k1,by rw [hm]; simp only; omega,fun off ho => ?_⟩
   simp only at ho
   rw [hm] at ho
   have := k3 (x * b.own + off) (by omega)
   rwa [<- Nat.add_assoc] at this
  ·exact r1.own k c0 C D hk hown2 e1
theorem jB (h : H) (i : Nat) (a b : Option ABlk) : upd (upd h i a) i b = upd h i b := by
 funext j
 unfold upd
 split <;> rfl
theorem pX (h : H) {i j : Nat} (a b : Option ABlk) (hne : i ≠ j) : upd (upd h i a) j b = upd (upd h j b) i a := by
 funext k
 unfold upd
 split <;> split <;> first | rfl | (subst_vars; exact absurd rfl hne)
end
end Go.Sym
namespace Go.Sym
section
variable {P : Program} {κ : Ker} {w : World} {M : Nat->Prop} {h : H}
theorem HRel.less {i : Nat} {b : ABlk} {c : Con} (r : HRel M w κ h) (hi : h i = some b) (hc : ∀ o a,c.at o = some a->b.con.at o = some a) (hl : 0 < b.own->c.len<=κ.cap i * b.own) (hmp : c.isMap = true->c = b.con) : HRel M w κ (upd h i (some ⟨c,b.wr,b.own⟩)) := by
 have live : LiveB κ i ⟨c,b.wr,b.own⟩->LiveB κ i b := by
  rintro (⟨o,a,h1⟩ | h1)
  ·exact .inl ⟨o,a,hc o a h1⟩
  ·exact .inr h1
 have tr : ∀ k c1,upd h i (some ⟨c,b.wr,b.own⟩) k = some c1->LiveB κ k c1->∃ c0,h k = some c0/\LiveB κ k c0/\(c1.wr = true->c0.wr = true) := by
  intro k c1 hk hl
  unfold upd at hk
  split at hk
  ·rename_i he
   subst he
   simp only [Option.some.injEq] at hk
   subst hk
   exact ⟨b,hi,live hl,fun h => h⟩
  ·exact ⟨c1,hk,hl,fun h => h⟩
 refine ⟨?_,?_,?_,r.mem,r.mp.of (Ker.le_refl κ) (fun k c hk hm => by
  unfold upd at hk
  split at hk
  ·rename_i he
   subst he
   simp only [Option.some.injEq] at hk
   subst hk
   exact .inr ⟨b,hi,(hmp hm).symm⟩
  ·exact .inl hk) (fun _ _ _ h _ => h) fun _ _ _ _ _ _ _ _ _ h => h⟩
 ·intro k c1 hk
  unfold upd at hk
  split at hk
  ·rename_i he
   subst he
   simp only [Option.some.injEq] at hk
   subst hk
   obtain ⟨B,O,h1,h2,h3⟩ := r.blk k b hi
   exact ⟨B,O,h1,fun hw hl => h2 hw (live hl),fun off a ha => h3 off a (hc off a ha)⟩
  ·exact r.blk k c1 hk
 ·intro j k c1 c' C D C' D' hj hk hne hcw hcc hcc' e1 e2
  obtain ⟨c0,k1,k2,k3⟩ := tr j c1 hj hcc
  obtain ⟨c2,k4,k5,_⟩ := tr k c' hk hcc'
  exact r.sep j k c0 c2 C D C' D' k1 k4 hne (k3 hcw) k2 k5 e1 e2
 ·intro k c1 C D hk hown e1
  unfold upd at hk
  split at hk
  ·rename_i he
   subst he
   simp only [Option.some.injEq] at hk
   subst hk
   obtain ⟨h1,_,h3⟩ := r.own k b C D hi hown e1
   exact ⟨h1,hl hown,h3⟩
  ·exact r.own k c1 C D hk hown e1
theorem HRel.empty {f ow : Nat} {c : Con} (r : HRel M w κ h) (hf : κ.ρ f = none) (hc : ∀ o,c.at o = none) (hl : c.len = 0) (hnm : c.isMap = false) : HRel M w (κ.put f (0,0) 0) (upd h f (some ⟨c,true,ow⟩)) := by
 have hle : κ.le (κ.put f (0,0) 0) := Ker.le_put hf
 have r1 : HRel M w (κ.put f (0,0) 0) h := r.ker hle r.mem (fun i b B O hi hw hl h1 a x hx => by
  obtain ⟨B1,O1,e1,e2,_⟩ := r.blk i b hi
  rw [h1] at e1
  simp only [Option.some.injEq,Prod.mk.injEq] at e1
  obtain ⟨rfl,rfl⟩ := e1
  exact (e2 hw hl).2.2.2 a x hx)
 have dead : ¬ LiveB (κ.put f (0,0) 0) f ⟨c,true,ow⟩ := by
  rintro (⟨o,a,h1⟩ | ⟨_,h2⟩)
  ·simp only at h1; rw [hc] at h1; cases h1
  ·rw [Ker.put_cap] at h2; omega
 refine ⟨?_,?_,?_,r1.mem,r1.mp.upd (Ker.le_refl _) hnm fun _ _ _ _ _ _ _ _ _ h => h⟩
 ·intro k c0 hk
  unfold upd at hk
  split at hk
  ·rename_i he
   subst he
   simp only [Option.some.injEq] at hk
   subst hk
   exact ⟨0,0,Ker.put_self _ _ _ _,fun _ hl => absurd hl dead,fun off a ha => by simp only at ha; rw [hc] at ha; cases ha⟩
  ·exact r1.blk k c0 hk
 ·intro j k c0 c1 C D C' D' hj hk hne hcw hcc hcc' e1 e2
  unfold upd at hj hk
  split at hj
  ·rename_i he
   subst he
   simp only [Option.some.injEq] at hj
   subst hj
   exact absurd hcc dead
  ·split at hk
   ·rename_i he
    subst he
    simp only [Option.some.injEq] at hk
    subst hk
    exact absurd hcc' dead
   ·exact r1.sep j k c0 c1 C D C' D' hj hk hne hcw hcc hcc' e1 e2
 ·intro k c0 C D hk hown e1
  unfold upd at hk
  split at hk
  ·rename_i he
   subst he
   simp only [Option.some.injEq] at hk
   subst hk
   rw [Ker.put_cap]
   exact ⟨rfl,by simp only [hl]; omega,fun off hoff => by simp at hoff⟩
  ·exact r1.own k c0 C D hk hown e1
theorem xL (e : TypeId) (cs : Array Value) : (newRow e cs).run P w = .ok ⟨w.heap.size,0,none⟩ (w.alloc (.cells cs e)) := rfl
theorem gA {tys : Array TypeId} {t t2 el ty : TypeId} {ie : TypeInfo} {zv : Value} {ad : Option Addr} {n k m : Nat} {y : Value} {vs : List Value} {w' : World} (ht1 : tys[0]? = some t) (ht : P.underlying t = some (.slice el)) (hi : P.info? el = some ie) (hzv : ie.zero = some zv) (ht2 : tys[1]? = some t2)
  (ha : cP P w ie zv t2 y m vs) (hb : m * ie.bytes<=281474976710656) (hroom : n + m<=k) (hst : (match ad with | some a => (storeCells (a.add (n * ie.size)) vs).run P w | none => .ok () w) = .ok () w') :
  (Builtin.append_ tys ty #[.slice ad n k,y]).run P w = .ok (.slice ad (n + m) k) w' := by
 rcases ha with ⟨d,hd,hdd,hlen,hfirst,_⟩ | ⟨k0,hd,rfl,hlt,rfl,h0⟩
 ·cases ad with
  | none =>
   simp only [Result.ok.injEq,true_and] at hst
   subst hst
   rcases hdd with ⟨e2,rfl⟩ | rfl <;>
    simp [Builtin.append_,ht1,ht2,run_underlying ht,run_underlying hd,zO hi,hlen,hroom,hfirst]
  | some a =>
   simp only at hst
   rcases hdd with ⟨e2,rfl⟩ | rfl <;>
    simp [Builtin.append_,ht1,ht2,run_underlying ht,run_underlying hd,zO hi,hlen,hroom,hfirst,hst]
 ·have hwr : IntKind.i64.wrap (m : Int) = m := by
   simp only [IntKind.wrap,IntKind.bits,IntKind.signed]
   have : (m : Int) % 2 ^ 64 = m := Int.emod_eq_of_lt (by omega) (by omega)
   simp only [this]
   split
   ·simp_all; omega
   ·rfl
  have hneg : ¬ ((m : Int) < 0) := by omega
  have hbig : ¬ ((m : Int) * (ie.bytes : Int) > 2 ^ 48) := by
   have : ((m * ie.bytes : Nat) : Int)<=281474976710656 := by omega
   rw [Int.natCast_mul] at this
   omega
  have happ : (if m * ie.size = 0 then pure #[] else do pure (Builtin.zeroCells (<- zeroValue el).cells m) : Sem (Array Value)).run P w = .ok (Builtin.zeroCells zv.cells m) w := by
   split
   ·rename_i hz
    have : Builtin.zeroCells zv.cells m = #[] := by apply Array.toList_inj.1; simpa using h0 hz
    rw [this]; rfl
   ·simp [zeroValue,typeInfo,hi,hzv]
  have hasInt : (asInt (.int .i64 (m : Int))).run P w = .ok (m : Int) w := rfl
  have hinfo : (typeInfo el).run P w = .ok ie w := by simp [typeInfo,hi]
  cases ad with
  | none =>
   simp only [Result.ok.injEq,true_and] at hst
   subst hst
   simp only [Builtin.append_,ht1,ht2,List.getElem?_toArray,List.getElem?_cons_zero,List.getElem?_cons_succ,Sem.run_bind,run_underlying ht,run_underlying hd,Result.andThen_ok,zO hi,Sem.run_pure,if_true,hasInt,hwr,hneg,if_false,hinfo,hbig,Int.toNat_natCast,hroom,Bool.not_true,Bool.false_eq_true,happ]
  | some a =>
   simp only at hst
   simp only [Builtin.append_,ht1,ht2,List.getElem?_toArray,List.getElem?_cons_zero,List.getElem?_cons_succ,Sem.run_bind,run_underlying ht,run_underlying hd,Result.andThen_ok,zO hi,Sem.run_pure,if_true,hasInt,hwr,hneg,if_false,hinfo,hbig,Int.toNat_natCast,hroom,Bool.not_true,Bool.false_eq_true,happ,hst]
theorem dG {tys : Array TypeId} {t t2 el ty : TypeId} {ie : TypeInfo} {zv : Value} {ad : Option Addr} {n k m : Nat} {y : Value} {vs old : List Value} (ht1 : tys[0]? = some t) (ht : P.underlying t = some (.slice el)) (hi : P.info? el = some ie) (hzv : ie.zero = some zv) (ht2 : tys[1]? = some t2)
  (ha : cP P w ie zv t2 y m vs) (hb : (n + m) * (2 * ie.bytes)<=281474976710656) (hb0 : 0 < ie.bytes) (hroom : ¬ n + m<=k) (hold : (Builtin.firstCells ie.size n (.slice ad n k)).run P w.drew = .ok old.toArray w.drew) :
  ∃ c0,(Builtin.append_ tys ty #[.slice ad n k,y]).run P w = .ok (.slice (some ⟨w.heap.size,0,none⟩) (n + m) (n + m + c0)) (w.drew.alloc (.cells (old.toArray++vs.toArray++Builtin.zeroCells zv.cells c0) el)) := by
 refine ⟨(w.tape w.drawn (.appendCap (n + m) k el)) % (2 ^ 63 - (n + m)),?_⟩
 generalize hc0 : (w.tape w.drawn (.appendCap (n + m) k el)) % (2 ^ 63 - (n + m)) = c0
 have hbnd : n + m<=140737488355328 := by
  have : (n + m) * 2<=(n + m) * (2 * ie.bytes) := Nat.mul_le_mul_left _ (by omega)
  omega
 have hnext : ¬ (Builtin.nextslicecap (n + m) k * ie.bytes > 2 ^ 48) := by
  have h1 := nextslicecap_le (need := n + m) (old := k) (by omega)
  have h2 : Builtin.nextslicecap (n + m) k * ie.bytes<=2 * (n + m) * ie.bytes := Nat.mul_le_mul_right _ h1
  have h3 : 2 * (n + m) * ie.bytes = (n + m) * (2 * ie.bytes) := by rw [Nat.mul_comm 2 (n + m),Nat.mul_assoc]
  have : (2 : Nat) ^ 48 = 281474976710656 := by decide
  omega
 have hforced : (Question.appendCap (n + m) k el).forced = false := rfl
 have hcutv : (Question.appendCap (n + m) k el).cut (w.tape w.drawn (.appendCap (n + m) k el)) = n + m + c0 := by rw [<- hc0]; rfl
 rcases ha with ⟨d,hd,hdd,hlen,_,hfirst⟩ | ⟨k0,hd,rfl,hlt,rfl,h0⟩
 ·have hmax : ¬ (9223372036854775807 < (n : Int) + (m : Int)/\ie.bytes = 0) := by intro hc; omega
  rcases hdd with ⟨e2,rfl⟩ | rfl <;>
   simp [Builtin.append_,ht1,ht2,run_underlying ht,run_underlying hd,zO hi,hlen,hroom,typeInfo,hi,zeroValue,hzv,hmax,hnext,hforced,hcutv,hold,hfirst,xL,Nat.add_sub_cancel_left] <;>
   (congr 2; apply Array.ext'; simp)
 ·have hwr : IntKind.i64.wrap (m : Int) = m := by
   simp only [IntKind.wrap,IntKind.bits,IntKind.signed]
   have : (m : Int) % 2 ^ 64 = m := Int.emod_eq_of_lt (by omega) (by omega)
   simp only [this]
   split
   ·simp_all; omega
   ·rfl
  have hneg : ¬ ((m : Int) < 0) := by omega
  have hbig : ¬ ((m : Int) * (ie.bytes : Int) > 2 ^ 48) := by
   have h1 : m * ie.bytes<=(n + m) * (2 * ie.bytes) := Nat.mul_le_mul (by omega) (by omega)
   have : ((m * ie.bytes : Nat) : Int)<=281474976710656 := by omega
   rw [Int.natCast_mul] at this
   omega
  have happ : (if m * ie.size = 0 then pure #[] else do pure (Builtin.zeroCells (<- zeroValue el).cells m) : Sem (Array Value)).run P w.drew = .ok (Builtin.zeroCells zv.cells m) w.drew := by
   split
   ·rename_i hz
    have : Builtin.zeroCells zv.cells m = #[] := by apply Array.toList_inj.1; simpa using h0 hz
    rw [this]; rfl
   ·simp [zeroValue,typeInfo,hi,hzv]
  have hmax : ¬ (((n + m : Nat) : Int) > IntKind.i64.max/\(True \/ ie.bytes = 0)) := by
   intro hc
   have := hc.1
   simp only [IntKind.max_i64] at this
   omega
  have hasInt : (asInt (.int .i64 (m : Int))).run P w = .ok (m : Int) w := rfl
  have hinfo : ∀ w : World,(typeInfo el).run P w = .ok ie w := fun w => by simp [typeInfo,hi]
  have hzero : ∀ w : World,(zeroValue el).run P w = .ok zv w := fun w => by simp [zeroValue,typeInfo,hi,hzv]
  have hch : (choose (.appendCap (n + m) k el)).run P w = .ok (n + m + c0) w.drew := by rw [<- hcutv]; rfl
  have hask : ∀ (q : Nat) (w : World),(askRoom q).run P w = .ok () w := fun q w => by simp [askRoom]
  simp only [Builtin.append_,ht1,ht2,List.getElem?_toArray,List.getElem?_cons_zero,List.getElem?_cons_succ,Sem.run_bind,run_underlying ht,run_underlying hd,Result.andThen_ok,zO hi,Sem.run_pure,if_true,hasInt,hwr,hneg,if_false,hinfo,hbig,Int.toNat_natCast,hroom,Bool.not_true,Bool.false_eq_true,hnext,hch,hask,hold,happ,hzero,xL,Nat.add_sub_cancel_left]
  have hnext' : ¬ (281474976710656 < Builtin.nextslicecap (n + m) k * ie.bytes) := hnext
  have hnm : ¬ ((9223372036854775807 : Int) < (n : Int) + (m : Int)) := by omega
  by_cases hz : m * ie.size = 0
  ·have e : Builtin.zeroCells zv.cells m = #[] := by apply Array.toList_inj.1; simpa using h0 hz
   simp [hnm,hz,e,hforced,hcutv,hold,hinfo,hzero,hnext',xL]
  ·simp [hnm,hz,hforced,hcutv,hold,hinfo,hzero,hnext',xL]
end
end Go.Sym
namespace Go.Sym
section
variable {P : Program} {κ : Ker} {w : World} {M : Nat->Prop} {h : H}
theorem qG {fr : Nat} {c : Con} {e : TypeId} {cs : Array Value} {R ow : Nat} {v : AV} {x : Value} {fz : Nat × Nat} (r : HRel M w κ h) (hfr : κ.ρ fr = none) (hM : ∀ B,w.heap.size<=B->M B)
  (hlen : 0 < ow->c.len<=R * ow/\R * ow<=cs.size) (hv : ∀ (off : Nat) a,c.at off = some a->∃ x,cs[off]? = some x/\VRel κ a x) (hz : fz.1 = fz.2 \/ cs.size<=fz.1)
  (hx : VRel (κ.put fr (w.heap.size,0) R) v x) (hnm : c.isMap = false := by first | rfl | exact Src.con_nm _ _ | assumption) : Good M w κ fr v (upd h fr (some ⟨c,true,ow⟩)) x (w.alloc (.cells cs e fz)) := by
 exact ⟨_,Ker.le_put hfr,fun i hi => Ker.put_other κ _ _ (by unfold xI at hi; omega),hx,r.alloc hfr (hM _ (Nat.le_refl _)) e cs c R ow hlen hv fz hz hnm,Only.alloc M w _,fun _ _ h => .inl h⟩
theorem vV {fr : Nat} {c : Con} {e : TypeId} {cs : Array Value} {R ow : Nat} {v : AV} {x : Value} {fz : Nat × Nat} (r : HRel M w κ h) (hf : ∀ i,fr<=i->i < fr + xI->κ.ρ i = none) (hM : ∀ B,w.heap.size<=B->M B)
  (hlen : 0 < ow->c.len<=R * ow/\R * ow<=cs.size) (hv : ∀ (off : Nat) a,c.at off = some a->∃ x,cs[off]? = some x/\VRel κ a x) (hz : fz.1 = fz.2 \/ cs.size<=fz.1)
  (hx : VRel (κ.put fr (w.heap.size,0) R) v x) (hnm : c.isMap = false := by first | rfl | exact Src.con_nm _ _ | assumption) : Good M w κ fr v (upd h fr (some ⟨c,true,ow⟩)) x (w.alloc (.cells cs e fz)) :=
 qG r (hf fr (Nat.le_refl _) (by unfold xI; omega)) hM hlen hv hz hx hnm
theorem HRel.drawn (r : HRel M w κ h) : HRel M w.drew κ h := r.keep (Nat.le_refl _) (fun _ _ => rfl)
theorem nX {nl : NL} {m : Nat} {ad : Option Addr} {a : Addr} (h : bJ nl ad) (hm : m ≠ 0) : bJ (kJ nl m) (some a) := by
 cases nl with
 | unk => trivial
 | is b => simp [kJ,bJ,hm]
theorem fZ {nl : NL} {ad : Option Addr} (h : bJ nl ad) : bJ (kJ nl 0) ad := by
 cases nl with
 | unk => trivial
 | is b => simpa [kJ,bJ] using h
theorem pY {nl : NL} {m : Nat} {a : Addr} (h : bJ nl (some a)) : bJ (kJ nl m) (some a) := by
 cases nl with
 | unk => trivial
 | is b => simp only [bJ] at h; subst h; simp [kJ,bJ]
theorem jC {o : Oper} {ev : Operand->Value} {as0 : Array Operand} {tys : Array TypeId} {d x : AV} {fr t t2 el : Nat} {dd : TypeDesc} {keep isInt : Bool} {hs : H} {r : R}
  (hop : o.op = .call { callee := .builtin .append,args := as0,argTypes := tys }) (ha : VRels κ [d,x] (as0.toList.map ev))
  (ht1 : tys[0]? = some t) (ht : P.underlying t = some (.slice el)) (ht2 : tys[1]? = some t2) (hd : P.underlying t2 = some dd)
  (hdd : (isInt = false/\((∃ e2,dd = .slice e2) \/ dd = .string)) \/ (isInt = true/\∃ k0,dd = .int k0))
  (hr : HRel M w κ h) (hle : hs.le h) (hM : ∀ B,w.heap.size<=B->M B) (hfr0 : κ.ρ fr = none)
  (h0 : nV P keep el isInt d x fr hs = some r) (hob : zP r.ob) :
  OpPost P w (fun z w' => Good M w κ fr r.v (h.ups r.up) z w') ((execOp ev o).run P w) := by
 obtain ⟨sv,y,hsy,h1,h2⟩ := ha.two
 have has : as0.map ev = #[sv,y] := by apply Array.toList_inj.1; simpa using hsy
 have hrunA : (execOp ev o).run P w = ((Builtin.append_ tys o.type #[sv,y]).run P w).andThen fun v w' => .ok (.value v) w' := by
  simp only [execOp,hop,resolve,Sem.run_bind,Sem.run_pure,Result.andThen_ok,invoke,builtin,has]
 have hother : ∀ (p : Nat × Nat) (R : Nat),∀ i,(i < fr \/ fr + xI<=i)->(κ.put fr p R).ρ i = κ.ρ i := fun p R i hi => Ker.put_other κ _ _ (by unfold xI at hi; omega)
 suffices hz : ∃ z w',(Builtin.append_ tys o.type #[sv,y]).run P w = .ok z w'/\Good M w κ fr r.v (h.ups r.up) z w' by
  obtain ⟨z,w',hz1,hz2⟩ := hz
  rw [hrunA,hz1]
  exact hz2
 simp only [nV,Option.bind_eq_some_iff] at h0
 obtain ⟨ie,hi,z,hz,⟨sob,s⟩,hsrc,h0⟩ := h0
 split at h0
 ·rename_i hc
  obtain ⟨hsz0,hby0,hzl,hsok⟩ := hc
  have hr' : HRel M w κ hs := hr.le hle
  obtain ⟨ie',zv,hi',hzv,hzrel⟩ := xA (κ := κ) hz
  rw [hi] at hi'
  simp only [Option.some.injEq] at hi'
  subst hi'
  have hzsz : ∀ c0,(Builtin.zeroCells zv.cells c0).size = c0 * ie.size := by
   intro c0
   have h5 := (uG (κ := κ) hzrel c0).length
   simp only [xH,List.length_map,List.length_range,Array.length_toList] at h5
   rw [<- h5,hzl]
  have hbytes : ∀ l,s = .bytes l->ie.size = 1 := by
   rintro l rfl
   simp only [Src.ok,Bool.and_eq_true,beq_iff_eq] at hsok
   exact hsok.2
  have nilcase : ∀ {i x0 sz0 n : Nat} {nl : NL} {vs : List Value},VRel κ (.slice i x0 sz0 n (.kn 0) nl) sv->n = 0->zD 0 s.cnt ie.bytes->cP P w ie zv t2 y s.cnt vs->SrcR κ ie.size s vs ->
    ∃ z w',(Builtin.append_ tys o.type #[sv,y]).run P w = .ok z w'/\Good M w κ fr (.slice fr 0 ie.size s.cnt .ow (kJ nl s.cnt)) (h.ups [(fr,some ⟨s.con ie.size,true,ie.size⟩)]) z w' := by
   intro i x0 sz0 n nl vs h1 hn0 hroom harg hsr
   subst hn0
   obtain ⟨ad,k,rfl,hnk,hnl,hcap,hloc⟩ := h1
   have hk : k = 0 := hcap
   subst hk
   by_cases hm : s.cnt = 0
   ·have hvs : vs = [] := List.eq_nil_of_length_eq_zero (by rw [hsr.len,hm,Nat.zero_mul])
    have hrun := gA (P := P) (w := w) (ty := o.type) (ad := ad) (n := 0) (k := 0) (w' := w) ht1 ht hi hzv ht2 harg (by rw [hm]; omega) (by omega) (by
     subst hvs
     cases ad with
     | none => rfl
     | some a => rfl)
    refine ⟨_,w,hrun,κ.put fr (0,0) 0,Ker.le_put hfr0,hother _ _,?_,?_,Only.refl _ _,fun _ _ h => .inl h⟩
    ·refine ⟨ad,0,by rw [hm],by omega,?_,⟨rfl,(Ker.put_cap _ _ _ _).symm,by rw [Ker.put_self]; rfl⟩,.inr ⟨hm,rfl⟩⟩
     rw [hm]; exact fZ hnl
    ·simp only [H.ups]
     refine hr.empty hfr0 (fun o => ?_) (by rw [hsr.clen,hm]; omega) (Src.con_nm _ _)
     cases hc : (s.con ie.size).at o with
     | none => rfl
     | some a =>
      have := Con.at_lt hc
      rw [hsr.clen,hm] at this
      omega
   ·have hold : (Builtin.firstCells ie.size 0 (.slice ad 0 0)).run P w.drew = .ok (([] : List Value)).toArray w.drew := by
     cases ad with
     | none => simp [Builtin.firstCells]
     | some a => simp [Builtin.firstCells,loadCells,loadCellsFrom]
    obtain ⟨c0,hrun⟩ := dG (P := P) (w := w) (ty := o.type) ht1 ht hi hzv ht2 harg hroom hby0 (by omega) hold
    refine ⟨_,_,hrun,?_⟩
    simp only [H.ups]
    have hg := qG (M := M) (w := w.drew) (e := el) (cs := (([] : List Value)).toArray++vs.toArray++Builtin.zeroCells zv.cells c0) (R := 0 + s.cnt + c0) (ow := ie.size) (fz := (0,0)) (c := s.con ie.size)
     (v := .slice fr 0 ie.size s.cnt .ow (kJ nl s.cnt)) (x := .slice (some ⟨w.heap.size,0,none⟩) (0 + s.cnt) (0 + s.cnt + c0)) hr.drawn hfr0 hM
     (fun _ => ⟨by rw [hsr.clen]; exact Nat.mul_le_mul_right _ (by omega),by
      simp only [Array.size_append,List.size_toArray,hzsz,hsr.len,List.length_nil,Nat.zero_add,Nat.add_mul]; exact Nat.le_refl _⟩)
     (by
      intro off a hat
      obtain ⟨q,hq,hv⟩ := hsr.rel off a hat
      refine ⟨q,?_,hv⟩
      have hlt := (List.getElem?_eq_some_iff.1 hq).1
      rw [Array.getElem?_append_left (by simpa using hlt)]
      simpa using hq)
     (.inl rfl)
     ⟨_,_,by rw [Nat.zero_add],by omega,nX hnl hm,⟨rfl,by rw [Ker.put_cap]; omega,by rw [Ker.put_self]; rfl⟩,.inl ⟨w.heap.size,0,Ker.put_self _ _ _ _,by simp⟩⟩
    obtain ⟨g1,g2,g3,g4,g5,g6,g7⟩ := hg
    exact ⟨g1,g2,g3,g4,g5,(Only.drew M w).trans g6,g7⟩
  split at h0
  ·-- nil
   simp only [Option.some.injEq] at h0
   subst h0
   simp only at hob
   obtain ⟨ho1,ho3⟩ := zE.1 hob
   have hroom := zA.1 ho3
   obtain ⟨vs,harg,hsr⟩ := nK hr' hi hd hdd h2 hz hzv hzl hsrc ho1 hsok
   simp only [VRel] at h1
   exact nilcase (i := 0) (x0 := 0) (sz0 := 0) (n := 0) (nl := .is true) ⟨none,0,h1,Nat.le_refl _,rfl,rfl,.inr ⟨rfl,rfl⟩⟩ rfl hroom harg hsr
  ·-- nothing is there
   rename_i i x0 sz0 n nl
   simp only [Option.some.injEq] at h0
   subst h0
   simp only at hob
   obtain ⟨ho1,ho2⟩ := zE.1 hob
   obtain ⟨hn0,ho3⟩ := zJ.1 ho2
   have hroom := zA.1 ho3
   obtain ⟨vs,harg,hsr⟩ := nK hr' hi hd hdd h2 hz hzv hzl hsrc ho1 hsok
   exact nilcase h1 hn0 hroom harg hsr
  ·-- an own row
   rename_i i sz n nl
   simp only [Option.bind_eq_some_iff] at h0
   obtain ⟨b,hb,h0⟩ := h0
   split at h0
   ·rename_i hown
    obtain ⟨hown,hszz⟩ := hown
    subst hszz
    simp only [Option.map_eq_some_iff] at h0
    obtain ⟨⟨cob,c⟩,happ,rfl⟩ := h0
    simp only at hob
    obtain ⟨ho12,ho3⟩ := zE.1 hob
    obtain ⟨ho1,ho2⟩ := zE.1 ho12
    have hroom := zA.1 ho3
    obtain ⟨vs,harg,hsr⟩ := nK hr' hi hd hdd h2 hz hzv hzl hsrc ho1 hsok
    obtain ⟨hclen,hblen,hcat⟩ := H2 hsz0 hsr hbytes happ ho2
    have hnmc : c.isMap = false := G8 happ
    have hnmb := G9 happ
    obtain ⟨ad,k,rfl,hnk,hnl,⟨_,hk,hsome⟩,hloc⟩ := h1
    have hb' : h i = some b := hle i b hb
    obtain ⟨⟨B,O⟩,hρ⟩ := hr.named hb'
    obtain ⟨hw,hlb,hcell⟩ := hr.own i b B O hb' (by omega) hρ
    rw [<- hk,hown] at hcell hlb
    have hsub : ∀ o a,b.con.at o = some a->c.at o = some a := by
     intro o a hoa
     have := Con.at_lt hoa
     rw [hblen] at this
     rw [hcat,if_pos this]
     exact hoa
    have hif : i ≠ fr := by
     intro he
     rw [he,hfr0] at hρ
     cases hρ
    have hsum : (n + s.cnt) * ie.size = n * ie.size + s.cnt * ie.size := Nat.add_mul _ _ _
    by_cases hfit : n + s.cnt<=k
    ·have hmul : (n + s.cnt) * ie.size<=k * ie.size := Nat.mul_le_mul_right _ hfit
     -- the block with more in it
     have key : ∃ w',(match ad with | some a => (storeCells (a.add (n * ie.size)) vs).run P w | none => .ok () w) = .ok () w'/\HRel M w' κ (upd h i (some ⟨c,true,b.own⟩))/\Only M w w' := by
      by_cases hm : s.cnt = 0
      ·have hvs : vs = [] := List.eq_nil_of_length_eq_zero (by rw [hsr.len,hm,Nat.zero_mul])
       subst hvs
       refine ⟨w,by cases ad <;> rfl,?_,Only.refl _ _⟩
       have := hr.less hb' (c := c) (fun o a hoa => by
        rw [hcat] at hoa
        split at hoa
        ·exact hoa
        ·have := Con.at_lt hoa
         rw [hsr.clen,hm] at this
         omega) (fun _ => by rw [hclen,hown,<- hk]; exact hmul) (fun h => by rw [hnmc] at h; cases h)
       rwa [hw] at this
      ·have hkpos : 0 < k := by omega
       rcases hloc with ⟨B1,O1,e1,rfl⟩ | ⟨h0n,h0k⟩
       ·rw [hρ] at e1
        simp only [Option.some.injEq,Prod.mk.injEq] at e1
        obtain ⟨rfl,rfl⟩ := e1
        have hst := hr.sets (c := c) (vs := vs) (p := n * ie.size) hb' hw hρ (.inr ⟨by omega,by omega⟩) (fun _ => by rw [hclen,hown,<- hk]; exact hmul)
         (fun j hj => by
          rw [hsr.len] at hj
          have := hcell (n * ie.size + j) (by omega)
          rwa [<- Nat.add_assoc] at this)
         (fun j a hj hat => by
          rw [hcat,if_neg (by omega),Nat.add_sub_cancel_left] at hat
          exact hsr.rel j a hat)
         (fun q a hq hat => by
          rw [hcat] at hat
          split at hat
          ·exact hat
          ·have := Con.at_lt hat
           rw [hsr.clen] at this
           rw [hsr.len] at hq
           omega) hnmc
        refine ⟨_,?_,hst⟩
        have := run_sets (P := P) B vs w (O + n * ie.size) 0 (fun j hj => by
         rw [hsr.len] at hj
         have := hcell (n * ie.size + j) (by omega)
         rwa [<- Nat.add_assoc] at this) hsr.one
        simp only [Nat.zero_mul,Nat.add_zero,Addr.add_at]
        exact this
       ·omega
     obtain ⟨w',hst,hrel,ho⟩ := key
     have hrun := gA (P := P) (w := w) (ty := o.type) (ad := ad) (n := n) (k := k) (w' := w') ht1 ht hi hzv ht2 harg (by
      have h1 : s.cnt * ie.bytes<=(n + s.cnt) * (2 * ie.bytes) := Nat.mul_le_mul (by omega) (by omega)
      exact Nat.le_trans h1 hroom) hfit hst
     have hnl' : bJ (kJ nl s.cnt) ad := by
      by_cases hm : s.cnt = 0
      ·rw [hm]; exact fZ hnl
      ·rcases hloc with ⟨B1,O1,e1,rfl⟩ | ⟨_,hk0⟩
       ·exact pY hnl
       ·omega
     refine ⟨_,w',hrun,κ.put fr (B,O) (κ.cap i),Ker.le_put hfr0,hother _ _,?_,?_,ho,fun _ _ h => .inl h⟩
     ·refine ⟨ad,k,rfl,hfit,hnl',?_,?_⟩
      ·cases keep
       ·exact ⟨rfl,by rw [Ker.put_cap]; exact hk,by rw [Ker.put_self]; rfl⟩
       ·trivial
      ·rcases hloc with ⟨B1,O1,e1,rfl⟩ | ⟨h0n,h0k⟩
       ·rw [hρ] at e1
        simp only [Option.some.injEq,Prod.mk.injEq] at e1
        obtain ⟨rfl,rfl⟩ := e1
        exact .inl ⟨B,O,Ker.put_self _ _ _ _,rfl⟩
       ·exact .inr ⟨by omega,h0k⟩
     ·cases keep
      ·simp only [Bool.false_eq_true,if_false,H.ups]
       have := hrel.rename (f := fr) (b := ⟨c,true,b.own⟩) (by simp [upd]) hρ hfr0 hnmc
       rw [jB,hown] at this
       exact this
      ·simp only [if_true,H.ups]
       have hu : upd h i (some ⟨c,true,b.own⟩) i = some ⟨c,true,b.own⟩ := by simp [upd]
       have g1 := hrel.wk hu (b' := ⟨c,false,0⟩) (fun o a h => h) rfl rfl (fun _ => rfl)
       rw [jB] at g1
       have g2 := g1.alias (f := fr) (R := κ.cap i) (c := c) (by simp [upd]; rfl) rfl hρ hfr0 (fun o a h => h) hnmc
       have g3 := g2.wk (i := i) (b := ⟨c,false,0⟩) (b' := ⟨b.con,false,0⟩) (by simp [upd,hif]) hsub rfl rfl (fun h => by rw [hnmb] at h; cases h)
       have e : upd (upd (upd h i (some ⟨c,false,0⟩)) fr (some ⟨c,false,0⟩)) i (some ⟨b.con,false,0⟩) = upd (upd h i (some ⟨b.con,false,0⟩)) fr (some ⟨c,false,0⟩) := by
        rw [pX _ _ _ (Ne.symm hif),jB]
       rw [e] at g3
       exact g3
    ·-- a new block
     have hold : ∃ old : List Value,(Builtin.firstCells ie.size n (.slice ad n k)).run P w.drew = .ok old.toArray w.drew/\old.length = n * ie.size/\(∀ off a,off < n * ie.size->b.con.at off = some a->∃ x,old[off]? = some x/\VRel κ a x) := by
      rcases hloc with ⟨B1,O1,e1,rfl⟩ | ⟨h0n,h0k⟩
      ·rw [hρ] at e1
       simp only [Option.some.injEq,Prod.mk.injEq] at e1
       obtain ⟨rfl,rfl⟩ := e1
       have hmul : n * ie.size<=k * ie.size := Nat.mul_le_mul_right _ hnk
       obtain ⟨xs,k1,k2⟩ := wD (κ := κ) (w := w) (B := B) (p := O + 0 * ie.size) (List.replicate (n * ie.size) .any) 0 (fun j a hj => by
        have hlt : j < n * ie.size := by have := (List.getElem?_eq_some_iff.1 hj).1; simpa using this
        obtain ⟨⟨x,hx⟩,_⟩ := hcell j (by omega)
        rw [List.getElem?_replicate,if_pos hlt] at hj
        simp only [Option.some.injEq] at hj
        subst hj
        exact ⟨x,by rwa [Nat.zero_mul,Nat.add_zero,Nat.zero_add],trivial⟩)
       have hl : xs.length = n * ie.size := by rw [<- k1.length]; simp
       have hrd : Reads w (.slice (some ⟨B,O + 0 * ie.size,none⟩) n k) ie.size n xs := ⟨hl,.inr ⟨_,k,rfl,.inr ⟨B,_,rfl,k2⟩⟩⟩
       refine ⟨xs,?_,hl,?_⟩
       ·have := hrd.drew.run_first (P := P) (Nat.le_refl n)
        rwa [<- hl,List.take_length] at this
       ·intro off a hoff hat
        obtain ⟨⟨x,hx,hv⟩,_⟩ := hr.cells hb' hρ hat
        refine ⟨x,?_,hv⟩
        have hlt : off < xs.length := by omega
        have h3 := k2 off _ (List.getElem?_eq_getElem hlt)
        rw [Nat.zero_mul,Nat.add_zero,hx] at h3
        simp only [Option.some.injEq] at h3
        rw [List.getElem?_eq_getElem hlt,h3]
      ·subst h0n
       refine ⟨[],?_,by simp,fun off a hoff => by simp at hoff⟩
       cases ad with
       | none => simp [Builtin.firstCells]
       | some a => simp [Builtin.firstCells,loadCells,loadCellsFrom]
     obtain ⟨old,hold,hol,horel⟩ := hold
     obtain ⟨c0,hrun⟩ := dG (P := P) (w := w) (ty := o.type) ht1 ht hi hzv ht2 harg hroom hby0 hfit hold
     have hm : s.cnt ≠ 0 := by omega
     have hg := fun (hh : H) (hhr : HRel M w κ hh) => qG (M := M) (h := hh) (w := w.drew) (fr := fr) (e := el) (cs := old.toArray++vs.toArray++Builtin.zeroCells zv.cells c0) (R := n + s.cnt + c0) (ow := ie.size) (fz := (0,0)) (c := c)
      (v := .slice fr 0 ie.size (n + s.cnt) (if keep then .un else .ow) (kJ nl s.cnt)) (x := .slice (some ⟨w.heap.size,0,none⟩) (n + s.cnt) (n + s.cnt + c0)) hhr.drawn hfr0 hM
      (fun _ => ⟨by rw [hclen]; exact Nat.mul_le_mul_right _ (by omega),by
       simp only [Array.size_append,List.size_toArray,hzsz,hsr.len,hol,Nat.add_mul]; exact Nat.le_refl _⟩)
      (by
       intro off a hat
       have hlt := Con.at_lt hat
       rw [hclen] at hlt
       have hsz2 : off < (old.toArray++vs.toArray).size := by simp only [Array.size_append,List.size_toArray,hsr.len,hol]; omega
       rw [Array.getElem?_append_left hsz2]
       rw [hcat] at hat
       split at hat
       ·rename_i ho
        obtain ⟨q,hq,hv⟩ := horel off a ho hat
        refine ⟨q,?_,hv⟩
        rw [Array.getElem?_append_left (by simpa [hol] using ho)]
        simpa using hq
       ·rename_i ho
        obtain ⟨q,hq,hv⟩ := hsr.rel _ a hat
        refine ⟨q,?_,hv⟩
        rw [Array.getElem?_append_right (by simp only [List.size_toArray,hol]; omega)]
        simpa [hol] using hq)
      (.inl rfl)
      (by
       refine ⟨_,_,rfl,by omega,nX hnl hm,?_,.inl ⟨w.heap.size,0,Ker.put_self _ _ _ _,by simp⟩⟩
       cases keep
       ·exact ⟨rfl,by rw [Ker.put_cap],by rw [Ker.put_self]; rfl⟩
       ·trivial)
     cases keep
     ·simp only [Bool.false_eq_true,if_false] at hg ⊢
      obtain ⟨g1,g2,g3,g4,g5,g6,g7⟩ := hg (upd h i none) (hr.drop i)
      exact ⟨_,_,hrun,g1,g2,g3,g4,by simpa only [H.ups] using g5,(Only.drew M w).trans g6,g7⟩
     ·simp only [if_true] at hg ⊢
      obtain ⟨g1,g2,g3,g4,g5,g6,g7⟩ := hg h hr
      refine ⟨_,_,hrun,g1,g2,g3,g4,?_,(Only.drew M w).trans g6,g7⟩
      simp only [H.ups]
      have e1 : upd h fr (some ⟨c,true,ie.size⟩) fr = some ⟨c,true,ie.size⟩ := by simp [upd]
      have k1 := g5.wk e1 (b' := ⟨c,false,0⟩) (fun o a h => h) rfl rfl (fun _ => rfl)
      rw [jB] at k1
      have k2 := k1.wk (i := i) (b := b) (b' := ⟨b.con,false,0⟩) (by simp [upd,hif,hb']) (fun o a h => h) rfl rfl (fun _ => rfl)
      rw [pX _ _ _ (Ne.symm hif)] at k2
      exact k2
   ·cases h0
  ·cases h0
 ·cases h0
theorem H3 {o : Oper} {ev : Operand->Value} {as0 : Array Operand} {tys : Array TypeId} {x : AV} {i x0 sz n ck : Nat} {nl : NL} {fr t t2 el : Nat} {dd : TypeDesc} {isInt : Bool} {hs : H} {r : R}
  (hop : o.op = .call { callee := .builtin .append,args := as0,argTypes := tys }) (ha : VRels κ [.slice i x0 sz n (.kn ck) nl,x] (as0.toList.map ev))
  (ht1 : tys[0]? = some t) (ht : P.underlying t = some (.slice el)) (ht2 : tys[1]? = some t2) (hd : P.underlying t2 = some dd)
  (hdd : (isInt = false/\((∃ e2,dd = .slice e2) \/ dd = .string)) \/ (isInt = true/\∃ k0,dd = .int k0))
  (hr : HRel M w κ h) (hle : hs.le h) (hM : ∀ B,w.heap.size<=B->M B) (hfr0 : κ.ρ fr = none)
  (h0 : k0v P el isInt i x0 sz n ck nl x fr hs = some r) (hob : zP r.ob) :
  OpPost P w (fun z w' => Good M w κ fr r.v (h.ups r.up) z w') ((execOp ev o).run P w) := by
 obtain ⟨sv,y,hsy,h1,h2⟩ := ha.two
 have has : as0.map ev = #[sv,y] := by apply Array.toList_inj.1; simpa using hsy
 have hrunA : (execOp ev o).run P w = ((Builtin.append_ tys o.type #[sv,y]).run P w).andThen fun v w' => .ok (.value v) w' := by
  simp only [execOp,hop,resolve,Sem.run_bind,Sem.run_pure,Result.andThen_ok,invoke,builtin,has]
 have hother : ∀ (p : Nat × Nat) (R : Nat),∀ i,(i < fr \/ fr + xI<=i)->(κ.put fr p R).ρ i = κ.ρ i := fun p R i hi => Ker.put_other κ _ _ (by unfold xI at hi; omega)
 suffices hz : ∃ z w',(Builtin.append_ tys o.type #[sv,y]).run P w = .ok z w'/\Good M w κ fr r.v (h.ups r.up) z w' by
  obtain ⟨z,w',hz1,hz2⟩ := hz
  rw [hrunA,hz1]
  exact hz2
 simp only [k0v,Option.bind_eq_some_iff] at h0
 obtain ⟨ie,hi,z,hz,⟨sob,s⟩,hsrc,h0⟩ := h0
 split at h0
 ·rename_i hc
  obtain ⟨hsz0,hby0,hzl,hsok⟩ := hc
  have hr' : HRel M w κ hs := hr.le hle
  obtain ⟨ie',zv,hi',hzv,hzrel⟩ := xA (κ := κ) hz
  rw [hi] at hi'
  simp only [Option.some.injEq] at hi'
  subst hi'
  have hzsz : ∀ c0,(Builtin.zeroCells zv.cells c0).size = c0 * ie.size := by
   intro c0
   have h5 := (uG (κ := κ) hzrel c0).length
   simp only [xH,List.length_map,List.length_range,Array.length_toList] at h5
   rw [<- h5,hzl]
  have hbytes : ∀ l,s = .bytes l->ie.size = 1 := by
   rintro l rfl
   simp only [Src.ok,Bool.and_eq_true,beq_iff_eq] at hsok
   exact hsok.2
  split at h0
  ·simp only [Option.bind_eq_some_iff] at h0
   obtain ⟨b,hb,h0⟩ := h0
   split at h0
   ·rename_i hown
    obtain ⟨hown,hszz⟩ := hown
    subst hszz
    simp only [Option.map_eq_some_iff] at h0
    obtain ⟨⟨cob,c⟩,happ,rfl⟩ := h0
    simp only at hob
    obtain ⟨ho12,ho3⟩ := zE.1 hob
    obtain ⟨ho1,ho2⟩ := zE.1 ho12
    obtain ⟨hroom,ho4⟩ := zJ.1 ho3
    have hnofit := zA.1 ho4
    obtain ⟨vs,harg,hsr⟩ := nK hr' hi hd hdd h2 hz hzv hzl hsrc ho1 hsok
    obtain ⟨hclen,hblen,hcat⟩ := H2 hsz0 hsr hbytes happ ho2
    have hnmc : c.isMap = false := G8 happ
    have hnmb := G9 happ
    obtain ⟨ad,k,rfl,hnk,hnl,hk,hloc⟩ := h1
    have hk : k = ck := hk
    have hb' : h i = some b := hle i b hb
    obtain ⟨⟨B,O⟩,hρ⟩ := hr.named hb'
    obtain ⟨hw,hlb,hcell⟩ := hr.own i b B O hb' (by omega) hρ
    rw [hown] at hcell hlb
    have hfit : ¬ n + s.cnt<=k := by omega
    have hsum : (n + s.cnt) * ie.size = n * ie.size + s.cnt * ie.size := Nat.add_mul _ _ _
    have hold : ∃ old : List Value,(Builtin.firstCells ie.size n (.slice ad n k)).run P w.drew = .ok old.toArray w.drew/\old.length = n * ie.size/\(∀ off a,off < n * ie.size->b.con.at off = some a->∃ x,old[off]? = some x/\VRel κ a x) := by
     rcases hloc with ⟨B1,O1,e1,rfl⟩ | ⟨h0n,h0k⟩
     ·rw [hρ] at e1
      simp only [Option.some.injEq,Prod.mk.injEq] at e1
      obtain ⟨rfl,rfl⟩ := e1
      obtain ⟨xs,k1,k2⟩ := wD (κ := κ) (w := w) (B := B) (p := O + 0 * ie.size) (List.replicate (n * ie.size) .any) 0 (fun j a hj => by
       have hlt : j < n * ie.size := by have := (List.getElem?_eq_some_iff.1 hj).1; simpa using this
       obtain ⟨⟨x,hx⟩,_⟩ := hcell j (by omega)
       rw [List.getElem?_replicate,if_pos hlt] at hj
       simp only [Option.some.injEq] at hj
       subst hj
       exact ⟨x,by rwa [Nat.zero_mul,Nat.add_zero,Nat.zero_add],trivial⟩)
      have hl : xs.length = n * ie.size := by rw [<- k1.length]; simp
      have hrd : Reads w (.slice (some ⟨B,O + 0 * ie.size,none⟩) n k) ie.size n xs := ⟨hl,.inr ⟨_,k,rfl,.inr ⟨B,_,rfl,k2⟩⟩⟩
      refine ⟨xs,?_,hl,?_⟩
      ·have := hrd.drew.run_first (P := P) (Nat.le_refl n)
       rwa [<- hl,List.take_length] at this
      ·intro off a hoff hat
       obtain ⟨⟨x,hx,hv⟩,_⟩ := hr.cells hb' hρ hat
       refine ⟨x,?_,hv⟩
       have hlt : off < xs.length := by omega
       have h3 := k2 off _ (List.getElem?_eq_getElem hlt)
       rw [Nat.zero_mul,Nat.add_zero,hx] at h3
       simp only [Option.some.injEq] at h3
       rw [List.getElem?_eq_getElem hlt,h3]
     ·subst h0n
      refine ⟨[],?_,by simp,fun off a hoff => by simp at hoff⟩
      cases ad with
      | none => simp [Builtin.firstCells]
      | some a => simp [Builtin.firstCells,loadCells,loadCellsFrom]
    obtain ⟨old,hold,hol,horel⟩ := hold
    obtain ⟨c0,hrun⟩ := dG (P := P) (w := w) (ty := o.type) ht1 ht hi hzv ht2 harg hroom hby0 hfit hold
    have hm : s.cnt ≠ 0 := by omega
    have hg := fun (hh : H) (hhr : HRel M w κ hh) => qG (M := M) (h := hh) (w := w.drew) (fr := fr) (e := el) (cs := old.toArray++vs.toArray++Builtin.zeroCells zv.cells c0) (R := n + s.cnt + c0) (ow := ie.size) (fz := (0,0)) (c := c)
     (v := .slice fr 0 ie.size (n + s.cnt) .ow (kJ nl s.cnt)) (x := .slice (some ⟨w.heap.size,0,none⟩) (n + s.cnt) (n + s.cnt + c0)) hhr.drawn hfr0 hM
     (fun _ => ⟨by rw [hclen]; exact Nat.mul_le_mul_right _ (by omega),by
      simp only [Array.size_append,List.size_toArray,hzsz,hsr.len,hol,Nat.add_mul]; exact Nat.le_refl _⟩)
     (by
      intro off a hat
      have hlt := Con.at_lt hat
      rw [hclen] at hlt
      have hsz2 : off < (old.toArray++vs.toArray).size := by simp only [Array.size_append,List.size_toArray,hsr.len,hol]; omega
      rw [Array.getElem?_append_left hsz2]
      rw [hcat] at hat
      split at hat
      ·rename_i ho
       obtain ⟨q,hq,hv⟩ := horel off a ho hat
       refine ⟨q,?_,hv⟩
       rw [Array.getElem?_append_left (by simpa [hol] using ho)]
       simpa using hq
      ·rename_i ho
       obtain ⟨q,hq,hv⟩ := hsr.rel _ a hat
       refine ⟨q,?_,hv⟩
       rw [Array.getElem?_append_right (by simp only [List.size_toArray,hol]; omega)]
       simpa [hol] using hq)
     (.inl rfl)
     (by
      refine ⟨_,_,rfl,by omega,nX hnl hm,?_,.inl ⟨w.heap.size,0,Ker.put_self _ _ _ _,by simp⟩⟩
      exact ⟨rfl,by rw [Ker.put_cap],by rw [Ker.put_self]; rfl⟩)
    obtain ⟨g1,g2,g3,g4,g5,g6,g7⟩ := hg h hr
    exact ⟨_,_,hrun,g1,g2,g3,g4,by simpa only [H.ups] using g5,(Only.drew M w).trans g6,g7⟩
   ·cases h0
  ·cases h0
 ·cases h0
theorem H4 {o : Oper} {ev : Operand->Value} {as0 : Array Operand} {tys : Array TypeId} {d x : AV} {fr t t2 el : Nat} {dd : TypeDesc} {isInt : Bool} {hs : H} {r : R}
  (hop : o.op = .call { callee := .builtin .append,args := as0,argTypes := tys }) (ha : VRels κ [d,x] (as0.toList.map ev))
  (ht1 : tys[0]? = some t) (ht : P.underlying t = some (.slice el)) (ht2 : tys[1]? = some t2) (hd : P.underlying t2 = some dd)
  (hdd : (isInt = false/\((∃ e2,dd = .slice e2) \/ dd = .string)) \/ (isInt = true/\∃ k0,dd = .int k0))
  (hr : HRel M w κ h) (hle : hs.le h) (hM : ∀ B,w.heap.size<=B->M B) (hfr0 : κ.ρ fr = none)
  (h0 : j0v P el isInt d x hs = some r) (hob : zP r.ob) :
  OpPost P w (fun z w' => Good M w κ fr r.v (h.ups r.up) z w') ((execOp ev o).run P w) := by
 obtain ⟨sv,y,hsy,h1,h2⟩ := ha.two
 have has : as0.map ev = #[sv,y] := by apply Array.toList_inj.1; simpa using hsy
 have hrunA : (execOp ev o).run P w = ((Builtin.append_ tys o.type #[sv,y]).run P w).andThen fun v w' => .ok (.value v) w' := by
  simp only [execOp,hop,resolve,Sem.run_bind,Sem.run_pure,Result.andThen_ok,invoke,builtin,has]
 have hother : ∀ (p : Nat × Nat) (R : Nat),∀ i,(i < fr \/ fr + xI<=i)->(κ.put fr p R).ρ i = κ.ρ i := fun p R i hi => Ker.put_other κ _ _ (by unfold xI at hi; omega)
 suffices hz : ∃ z w',(Builtin.append_ tys o.type #[sv,y]).run P w = .ok z w'/\Good M w κ fr r.v (h.ups r.up) z w' by
  obtain ⟨z,w',hz1,hz2⟩ := hz
  rw [hrunA,hz1]
  exact hz2
 simp only [j0v,Option.bind_eq_some_iff] at h0
 obtain ⟨ie,hi,z,hz,⟨sob,s⟩,hsrc,h0⟩ := h0
 split at h0
 ·rename_i hc
  obtain ⟨hsz0,hby0,hzl,hsok⟩ := hc
  have hr' : HRel M w κ hs := hr.le hle
  obtain ⟨ie',zv,hi',hzv,hzrel⟩ := xA (κ := κ) hz
  rw [hi] at hi'
  simp only [Option.some.injEq] at hi'
  subst hi'
  have hzsz : ∀ c0,(Builtin.zeroCells zv.cells c0).size = c0 * ie.size := by
   intro c0
   have h5 := (uG (κ := κ) hzrel c0).length
   simp only [xH,List.length_map,List.length_range,Array.length_toList] at h5
   rw [<- h5,hzl]
  have hbytes : ∀ l,s = .bytes l->ie.size = 1 := by
   rintro l rfl
   simp only [Src.ok,Bool.and_eq_true,beq_iff_eq] at hsok
   exact hsok.2
  split at h0
  ·rename_i i sz n nl
   simp only [Option.bind_eq_some_iff] at h0
   obtain ⟨b,hb,h0⟩ := h0
   split at h0
   ·rename_i hown
    obtain ⟨hown,hszz⟩ := hown
    subst hszz
    simp only [Option.map_eq_some_iff] at h0
    obtain ⟨⟨cob,c⟩,happ,rfl⟩ := h0
    simp only at hob
    obtain ⟨ho12,ho3⟩ := zE.1 hob
    obtain ⟨ho1,ho2⟩ := zE.1 ho12
    have hroom := zA.1 ho3
    obtain ⟨vs,harg,hsr⟩ := nK hr' hi hd hdd h2 hz hzv hzl hsrc ho1 hsok
    obtain ⟨hclen,hblen,hcat⟩ := H2 hsz0 hsr hbytes happ ho2
    have hnmc : c.isMap = false := G8 happ
    have hnmb := G9 happ
    obtain ⟨ad,k,rfl,hnk,hnl,⟨_,hk,hsome⟩,hloc⟩ := h1
    have hb' : h i = some b := hle i b hb
    obtain ⟨⟨B,O⟩,hρ⟩ := hr.named hb'
    obtain ⟨hw,hlb,hcell⟩ := hr.own i b B O hb' (by omega) hρ
    rw [<- hk,hown] at hcell hlb
    have hsub : ∀ o a,b.con.at o = some a->c.at o = some a := by
     intro o a hoa
     have := Con.at_lt hoa
     rw [hblen] at this
     rw [hcat,if_pos this]
     exact hoa
    have hif : i ≠ fr := by
     intro he
     rw [he,hfr0] at hρ
     cases hρ
    have hsum : (n + s.cnt) * ie.size = n * ie.size + s.cnt * ie.size := Nat.add_mul _ _ _
    by_cases hfit : n + s.cnt<=k
    ·have hmul : (n + s.cnt) * ie.size<=k * ie.size := Nat.mul_le_mul_right _ hfit
     -- the block with more in it
     have key : ∃ w',(match ad with | some a => (storeCells (a.add (n * ie.size)) vs).run P w | none => .ok () w) = .ok () w'/\HRel M w' κ (upd h i (some ⟨c,true,b.own⟩))/\Only M w w' := by
      by_cases hm : s.cnt = 0
      ·have hvs : vs = [] := List.eq_nil_of_length_eq_zero (by rw [hsr.len,hm,Nat.zero_mul])
       subst hvs
       refine ⟨w,by cases ad <;> rfl,?_,Only.refl _ _⟩
       have := hr.less hb' (c := c) (fun o a hoa => by
        rw [hcat] at hoa
        split at hoa
        ·exact hoa
        ·have := Con.at_lt hoa
         rw [hsr.clen,hm] at this
         omega) (fun _ => by rw [hclen,hown,<- hk]; exact hmul) (fun h => by rw [hnmc] at h; cases h)
       rwa [hw] at this
      ·have hkpos : 0 < k := by omega
       rcases hloc with ⟨B1,O1,e1,rfl⟩ | ⟨h0n,h0k⟩
       ·rw [hρ] at e1
        simp only [Option.some.injEq,Prod.mk.injEq] at e1
        obtain ⟨rfl,rfl⟩ := e1
        have hst := hr.sets (c := c) (vs := vs) (p := n * ie.size) hb' hw hρ (.inr ⟨by omega,by omega⟩) (fun _ => by rw [hclen,hown,<- hk]; exact hmul)
         (fun j hj => by
          rw [hsr.len] at hj
          have := hcell (n * ie.size + j) (by omega)
          rwa [<- Nat.add_assoc] at this)
         (fun j a hj hat => by
          rw [hcat,if_neg (by omega),Nat.add_sub_cancel_left] at hat
          exact hsr.rel j a hat)
         (fun q a hq hat => by
          rw [hcat] at hat
          split at hat
          ·exact hat
          ·have := Con.at_lt hat
           rw [hsr.clen] at this
           rw [hsr.len] at hq
           omega) hnmc
        refine ⟨_,?_,hst⟩
        have := run_sets (P := P) B vs w (O + n * ie.size) 0 (fun j hj => by
         rw [hsr.len] at hj
         have := hcell (n * ie.size + j) (by omega)
         rwa [<- Nat.add_assoc] at this) hsr.one
        simp only [Nat.zero_mul,Nat.add_zero,Addr.add_at]
        exact this
       ·omega
     obtain ⟨w',hst,hrel,ho⟩ := key
     have hrun := gA (P := P) (w := w) (ty := o.type) (ad := ad) (n := n) (k := k) (w' := w') ht1 ht hi hzv ht2 harg (by
      have h1 : s.cnt * ie.bytes<=(n + s.cnt) * (2 * ie.bytes) := Nat.mul_le_mul (by omega) (by omega)
      exact Nat.le_trans h1 hroom) hfit hst
     have hnl' : bJ (kJ nl s.cnt) ad := by
      by_cases hm : s.cnt = 0
      ·rw [hm]; exact fZ hnl
      ·rcases hloc with ⟨B1,O1,e1,rfl⟩ | ⟨_,hk0⟩
       ·exact pY hnl
       ·omega
     have hback : HRel M w' κ h := by
      have hu : upd h i (some ⟨c,true,b.own⟩) i = some ⟨c,true,b.own⟩ := by simp [upd]
      have := hrel.less hu (c := b.con) hsub (fun _ => by rw [hown,<- hk]; exact hlb) (fun h => by rw [hnmb] at h; cases h)
      have e : (⟨b.con,true,b.own⟩ : ABlk) = b := by cases b; simp only at hw; subst hw; rfl
      rw [jB] at this
      simp only at this
      rw [e,l7 _ _ _ hb'] at this
      exact this
     refine ⟨_,w',hrun,κ,κ.le_refl,fun _ _ => rfl,?_,hback,ho,fun _ _ h => .inl h⟩
     refine ⟨ad,k,rfl,hfit,hnl',?_⟩
     rcases hloc with ⟨B1,O1,e1,rfl⟩ | ⟨h0n,h0k⟩
     ·exact .inr ⟨_,_,rfl,fun j hj => ⟨rfl,[],rfl,fun c x hc => by simp at hc⟩⟩
     ·exact .inl (by omega)
    ·-- a new block
     have hold : ∃ old : List Value,(Builtin.firstCells ie.size n (.slice ad n k)).run P w.drew = .ok old.toArray w.drew/\old.length = n * ie.size/\(∀ off a,off < n * ie.size->b.con.at off = some a->∃ x,old[off]? = some x/\VRel κ a x) := by
      rcases hloc with ⟨B1,O1,e1,rfl⟩ | ⟨h0n,h0k⟩
      ·rw [hρ] at e1
       simp only [Option.some.injEq,Prod.mk.injEq] at e1
       obtain ⟨rfl,rfl⟩ := e1
       have hmul : n * ie.size<=k * ie.size := Nat.mul_le_mul_right _ hnk
       obtain ⟨xs,k1,k2⟩ := wD (κ := κ) (w := w) (B := B) (p := O + 0 * ie.size) (List.replicate (n * ie.size) .any) 0 (fun j a hj => by
        have hlt : j < n * ie.size := by have := (List.getElem?_eq_some_iff.1 hj).1; simpa using this
        obtain ⟨⟨x,hx⟩,_⟩ := hcell j (by omega)
        rw [List.getElem?_replicate,if_pos hlt] at hj
        simp only [Option.some.injEq] at hj
        subst hj
        exact ⟨x,by rwa [Nat.zero_mul,Nat.add_zero,Nat.zero_add],trivial⟩)
       have hl : xs.length = n * ie.size := by rw [<- k1.length]; simp
       have hrd : Reads w (.slice (some ⟨B,O + 0 * ie.size,none⟩) n k) ie.size n xs := ⟨hl,.inr ⟨_,k,rfl,.inr ⟨B,_,rfl,k2⟩⟩⟩
       refine ⟨xs,?_,hl,?_⟩
       ·have := hrd.drew.run_first (P := P) (Nat.le_refl n)
        rwa [<- hl,List.take_length] at this
       ·intro off a hoff hat
        obtain ⟨⟨x,hx,hv⟩,_⟩ := hr.cells hb' hρ hat
        refine ⟨x,?_,hv⟩
        have hlt : off < xs.length := by omega
        have h3 := k2 off _ (List.getElem?_eq_getElem hlt)
        rw [Nat.zero_mul,Nat.add_zero,hx] at h3
        simp only [Option.some.injEq] at h3
        rw [List.getElem?_eq_getElem hlt,h3]
      ·subst h0n
       refine ⟨[],?_,by simp,fun off a hoff => by simp at hoff⟩
       cases ad with
       | none => simp [Builtin.firstCells]
       | some a => simp [Builtin.firstCells,loadCells,loadCellsFrom]
     obtain ⟨old,hold,hol,horel⟩ := hold
     obtain ⟨c0,hrun⟩ := dG (P := P) (w := w) (ty := o.type) ht1 ht hi hzv ht2 harg hroom hby0 hfit hold
     have hm : s.cnt ≠ 0 := by omega
     refine ⟨_,_,hrun,κ,κ.le_refl,fun _ _ => rfl,?_,(hr.drawn).only ?_,(Only.drew M w).trans (Only.alloc M _ _),fun _ _ h => .inl h⟩
     ·exact ⟨_,_,rfl,by omega,nX hnl hm,.inr ⟨_,_,rfl,fun j hj => ⟨rfl,[],rfl,fun c x hc => by simp at hc⟩⟩⟩
     ·exact Only.alloc _ _ _
   ·cases h0
  ·cases h0
 ·cases h0
end
end Go.Sym
namespace Go.Sym
theorem gR (l : List AV) (p : Nat) (cs : List AV) (h : p + cs.length<=l.length) (o : Nat) : (cL l p cs)[o]? = if p<=o/\o < p + cs.length then cs[o - p]? else l[o]? := by
 have gen : (l.take p++cs++l.drop (p + cs.length))[o]? = if p<=o/\o < p + cs.length then cs[o - p]? else l[o]? := by
  have hp : (l.take p).length = p := by simp; omega
  rw [List.getElem?_append,List.getElem?_append]
  simp only [List.length_append,hp]
  split
  ·split
   ·rw [if_neg (by omega),List.getElem?_take,if_pos (by assumption)]
   ·rw [if_pos (by omega)]
  ·rw [if_neg (by omega),List.getElem?_drop]
   congr 1; omega
 unfold cL
 split
 ·rename_i a
  rw [List.getElem?_set]
  simp only [List.length_cons,List.length_nil] at h ⊢
  split
  ·rename_i he
   subst he
   rw [if_pos (by omega),if_pos (by omega)]
   simp
  ·rw [if_neg (by omega)]
 ·exact gen
theorem H5 (l : List AV) (p : Nat) (cs : List AV) (h : p + cs.length<=l.length) : (cL l p cs).length = l.length := by
 unfold cL
 split
 ·simp
 ·simp; omega
section
variable {P : Program} {κ : Ker} {w : World} {M : Nat->Prop} {h : H}
structure WriteR (b c : Con) (p : Nat) (cs : List AV) : Prop where
 ex : ∀ j,j < cs.length->∃ a,b.at (p + j) = some a
 len : c.len = b.len
 inn : ∀ (j : Nat) a,j < cs.length->c.at (p + j) = some a->cs[j]? = some a
 out : ∀ o a,(o < p \/ p + cs.length<=o)->c.at o = some a->b.at o = some a
theorem g0v {b c : Con} {x sz k : Nat} {cs : List AV} {ob : List Prop} (hw : b.write x sz k cs = some (ob,c)) (ho : zP ob) : WriteR b c (x * sz + k) cs := by
 unfold Con.write at hw
 split at hw
 ·rename_i l
  split at hw
  ·rename_i hl
   simp only [Option.some.injEq,Prod.mk.injEq] at hw
   obtain ⟨rfl,rfl⟩ := hw
   refine ⟨?_,H5 _ _ _ hl,?_,?_⟩
   ·intro j hj
    exact ⟨_,List.getElem?_eq_getElem (by omega : x * sz + k + j < l.length)⟩
   ·intro j a hj hat
    simp only [Con.at] at hat
    rw [gR _ _ _ hl,if_pos (by omega),Nat.add_sub_cancel_left] at hat
    exact hat
   ·intro o a hoo hat
    simp only [Con.at] at hat ⊢
    rw [gR _ _ _ hl,if_neg (by omega)] at hat
    exact hat
  ·cases hw
 ·rename_i l
  split at hw
  ·rename_i v
   simp only [Option.some.injEq,Prod.mk.injEq] at hw
   obtain ⟨rfl,rfl⟩ := hw
   have hlt := zA.1 ho
   simp only [Nat.mul_one,Nat.add_zero]
   refine ⟨?_,by simp [Con.len],?_,?_⟩
   ·intro j hj
    have : j = 0 := by simpa using hj
    subst this
    exact ⟨.u8 l[x],by simp [Con.at,hlt]⟩
   ·intro j a hj hat
    have : j = 0 := by simpa using hj
    subst this
    simp [Con.at,hlt] at hat
    simp [hat]
   ·intro o a hoo hat
    simp only [List.length_cons,List.length_nil] at hoo
    simp only [Con.at] at hat ⊢
    rw [List.getElem?_set_ne (by omega)] at hat
    exact hat
  ·simp only [Option.map_eq_some_iff] at hw
   obtain ⟨q,hq,hw⟩ := hw
   have hcs := vR hq
   have hlen : cs.length = q.length := by rw [hcs]; simp
   generalize x * sz + k = p at *
   split at hw
   ·simp only [Prod.mk.injEq] at hw
    obtain ⟨rfl,rfl⟩ := hw
    have hl := zA.1 ho
    refine ⟨fun j hj => ?_,by simp [Con.len,hl],fun j a hj hat => ?_,fun o a hoo hat => ?_⟩
    ·have : j < l.length := by omega
     exact ⟨.u8 l[j],by simp [Con.at,this]⟩
    ·simp only [Con.at,Nat.zero_add] at hat
     rw [hcs,List.getElem?_map]; exact hat
    ·have := Con.at_lt hat
     simp [Con.len] at this
     omega
   ·simp only [Prod.mk.injEq] at hw
    obtain ⟨rfl,rfl⟩ := hw
    have hl := zA.1 ho
    have hat : ∀ o,(l.take p++(q++l.drop (p + q.length)))[o]? = if p<=o/\o < p + q.length then q[o - p]? else l[o]? := by
     intro o
     have hp : (l.take p).length = p := by simp; omega
     rw [List.getElem?_append,hp]
     split
     ·rw [if_neg (by omega),List.getElem?_take,if_pos (by assumption)]
     ·rw [List.getElem?_append]
      split
      ·rw [if_pos (by omega)]
      ·rw [if_neg (by omega),List.getElem?_drop]
       congr 1; omega
    refine ⟨fun j hj => ?_,by simp [Con.len]; omega,fun j a hj h2 => ?_,fun o a hoo h2 => ?_⟩
    ·have : p + j < l.length := by omega
     exact ⟨.u8 l[p + j],by simp [Con.at,this]⟩
    ·simp only [Con.at] at h2
     rw [hat,if_pos (by omega),Nat.add_sub_cancel_left] at h2
     rw [hcs,List.getElem?_map]; exact h2
    ·simp only [Con.at] at h2 ⊢
     rw [hat,if_neg (by omega)] at h2
     exact h2
 ·rename_i sz' n g
  split at hw
  ·rename_i hc
   obtain ⟨rfl,hck,hcl⟩ := hc
   simp only [Option.some.injEq,Prod.mk.injEq] at hw
   obtain ⟨rfl,rfl⟩ := hw
   have hlt := zA.1 ho
   have hdm : ∀ o,o / sz = x->o = x * sz + o % sz := by
    intro o he
    rw [<- he]; exact (Nat.div_add_mod' o sz).symm
   refine ⟨?_,rfl,?_,?_⟩
   ·intro j hj
    exact ⟨_,fY hlt (by omega) (List.getElem?_eq_getElem (by omega : k + j < (g x).length))⟩
   ·intro j a hj hat
    have hpos : 0 < sz := by omega
    have h1 : x * sz + k + j = sz * x + (k + j) := by rw [Nat.mul_comm]; omega
    have hd : (x * sz + k + j) / sz = x := by rw [h1,Nat.mul_add_div hpos,Nat.div_eq_of_lt (by omega)]; rfl
    have hm : (x * sz + k + j) % sz = k + j := by rw [h1,Nat.mul_add_mod,Nat.mod_eq_of_lt (by omega)]
    simp only [Con.at] at hat
    split at hat
    ·rw [hd,hm] at hat
     simp only [beq_self_eq_true,cond_true] at hat
     rw [gR _ _ _ hcl,if_pos (by omega),Nat.add_sub_cancel_left] at hat
     exact hat
    ·cases hat
   ·intro o a hoo hat
    simp only [Con.at] at hat ⊢
    split at hat
    ·rename_i hon
     rw [if_pos hon]
     by_cases he : o / sz = x
     ·have := hdm o he
      rw [he] at hat ⊢
      simp only [beq_self_eq_true,cond_true] at hat
      rw [gR _ _ _ hcl,if_neg (by omega)] at hat
      exact hat
     ·have hb : (o / sz == x) = false := by simpa using he
      rw [hb] at hat
      exact hat
    ·cases hat
  ·split at hw
   ·rename_i h1
    obtain ⟨rfl,h0⟩ := h1
    simp only [Option.some.injEq,Prod.mk.injEq] at hw
    obtain ⟨rfl,rfl⟩ := hw
    obtain ⟨hl,hg⟩ := zJ.1 ho
    have hg := zA.1 hg
    rw [h0]
    refine ⟨fun j hj => ?_,by simp [Con.len],fun j a hj hat => ?_,fun o a hoo hat => ?_⟩
    ·have h1 := hg j (by omega)
     refine ⟨(g j)[0]'(by omega),?_⟩
     simp only [Con.at,Nat.zero_add,Nat.mul_one,Nat.div_one,Nat.mod_one]
     rw [if_pos (by omega)]
     simp
    ·simp only [Con.at,Nat.zero_add,Nat.mul_one,Nat.div_one,Nat.mod_one] at hat
     rw [if_pos (by omega)] at hat
     have : a = cs[j] := by simpa [List.getD,hj,eq_comm] using hat
     rw [this]
     simp
    ·have := Con.at_lt hat
     simp [Con.len] at this
     omega
   ·cases hw
 ·cases hw
theorem f0v {b : Con} {x sz k : Nat} {cs : List AV} {q : List Prop × Con} (hw : b.write x sz k cs = some q) : q.2.isMap = false := by
 unfold Con.write at hw
 split at hw
 ·split at hw
  ·simp only [Option.some.injEq] at hw; subst hw; rfl
  ·cases hw
 ·split at hw
  ·simp only [Option.some.injEq] at hw; subst hw; rfl
  ·simp only [Option.map_eq_some_iff] at hw
   obtain ⟨l,_,hw⟩ := hw
   split at hw
   all_goals (subst hw; rfl)
 ·split at hw
  ·simp only [Option.some.injEq] at hw; subst hw; rfl
  ·split at hw
   ·simp only [Option.some.injEq] at hw; subst hw; rfl
   ·cases hw
 ·cases hw
theorem HRel.store (r : HRel M w κ h) {i : Nat} {b : ABlk} {B O x sz k : Nat} {c : Con} {cs : List AV} {vs : List Value} {ob : List Prop} (hi : h i = some b) (hw : b.wr = true) (hρ : κ.ρ i = some (B,O))
  (hc : b.con.write x sz k cs = some (ob,c)) (ho : zP ob) (hne : cs ≠ []) (hv : VRels κ cs vs) (h1 : ∀ v ∈ vs,v.oneCell' = true) :
  ∃ w',(storeCells ⟨B,O + (x * sz + k),none⟩ vs).run P w = .ok () w'/\HRel M w' κ (upd h i (some ⟨c,true,b.own⟩))/\Only M w w' := by
 have hr := g0v hc ho
 have hlen := hv.length
 have hlive : LiveB κ i b := by
  cases cs with
  | nil => exact absurd rfl hne
  | cons a cs =>
   obtain ⟨a',ha'⟩ := hr.ex 0 (by simp)
   exact .inl ⟨_,_,ha'⟩
 have hex : ∀ j,j < vs.length->(∃ x',w.cell? ⟨B,O + (x * sz + k) + j,none⟩ = some x')/\w.frozen? ⟨B,O + (x * sz + k) + j,none⟩ = false := by
  intro j hj
  obtain ⟨a,ha⟩ := hr.ex j (by omega)
  obtain ⟨⟨y,hy,_⟩,hf⟩ := r.cells hi hρ ha
  rw [<- Nat.add_assoc] at hy hf
  exact ⟨⟨y,hy⟩,hf hw⟩
 have hset := r.sets (c := c) (vs := vs) (p := x * sz + k) hi hw hρ hlive (fun ho => by rw [hr.len]; exact (r.own i b B O hi ho hρ).2.1) hex
  (fun j a hj hat => hv.get (hr.inn j a (by omega) hat))
  (fun o a hoo hat => hr.out o a (by omega) hat) (f0v hc)
 refine ⟨_,?_,hset⟩
 have := run_sets (P := P) B vs w (O + (x * sz + k)) 0 (fun j hj => by simpa using hex j hj) h1
 simpa using this
theorem Z9 : ∀ (l : List (BitVec 8)) (s : ByteArray),
  (forIn (l.map fun b => Value.int .u8 (b.toNat : Int)) s (fun c s => (do
   match c with
   | .int .u8 n => pure (ForInStep.yield (s.push (UInt8.ofNat n.toNat)))
   | _ => do
    stuck "bytesToString: byte expected"
    pure (ForInStep.yield s) : Sem (ForInStep ByteArray)))).run P w = .ok ⟨s.data++(l.map UInt8.ofBitVec).toArray⟩ w := by
 intro l
 induction l with
 | nil => intro s; simp
 | cons b l ih =>
  intro s
  simp only [List.map_cons,List.forIn_cons,Sem.run_bind,Sem.run_pure,Result.andThen_ok]
  rw [ih]
  have e : UInt8.ofNat ((b.toNat : Int)).toNat = UInt8.ofBitVec b := by
   rw [Int.toNat_natCast]
   exact UInt8.toBitVec_inj.1 (by simp)
  rw [e]
  congr 2
  apply Array.ext'
  simp [ByteArray.push]
theorem tX {v : Value} {l : List (BitVec 8)} (hr : Reads w v 1 l.length (fK l)) (hs : ∃ a n k,v = .slice a n k) : (Conv.bytesToString v).run P w = .ok (.string (zM l)) w := by
 obtain ⟨a,n,k,rfl⟩ := hs
 obtain ⟨hlen,⟨s,h1,_⟩ | ⟨a',k',h1,hloc⟩⟩ := hr
 ·cases h1
 ·simp only [Value.slice.injEq] at h1
  obtain ⟨rfl,rfl,rfl⟩ := h1
  rcases hloc with h0 | ⟨B,O,rfl,hlie⟩
  ·have : l = [] := List.eq_nil_of_length_eq_zero h0
   subst this
   cases a with
   | none => simp [Conv.bytesToString,zM]; rfl
   | some a => simp [Conv.bytesToString,zM,loadCells,loadCellsFrom]; rfl
  ·have hlc := wC (P := P) (w := w) (B := B) (O := O) (vs := fK l) (fun j y hy => by rw [Addr.add_at]; exact hlie j y hy)
   have hl2 : (fK l).length = l.length := by simp [fK]
   rw [hl2] at hlc
   have hb := Z9 (P := P) (w := w) l ByteArray.empty
   simp only [Conv.bytesToString,Sem.run_bind,hlc,Result.andThen_ok]
   rw [<- Array.forIn_toList]
   simp only [fK,List.toList_toArray]
   refine (congrArg (fun r => Result.andThen r (fun a w' => Sem.run P (pure (Value.string a)) w')) hb).trans ?_
   simp only [Result.andThen_ok,Sem.run_pure,zM]
   congr 2
   simp
end
end Go.Sym
namespace Go.Sym
section
variable {P : Program} {κ : Ker} {w : World} {M : Nat->Prop} {h : H}
theorem tY (need old : Nat) (e : TypeId) : (choose (.appendCap need old e)).run P w = .ok (need + w.tape w.drawn (.appendCap need old e) % (2 ^ 63 - need)) w.drew := rfl
theorem lG (w : World) (cs : Array Value) (e : TypeId) (n : Nat) : (w.alloc (.cells cs e)).freeze ⟨w.heap.size,n,none⟩ 1 = w.alloc (.cells cs e (n,n + 1)) := by
 unfold World.freeze World.alloc
 rw [if_neg (by omega)]
 congr 1
 apply Array.ext
 ·simp
 ·intro k h1 h2
  simp only [Array.getElem_modify,Array.getElem_push]
  simp only [Array.size_modify,Array.size_push] at h1
  by_cases hk : k = w.heap.size
  ·subst hk
   simp
  ·have hlt : k < w.heap.size := by omega
   simp [hlt,Ne.symm hk]
theorem z0j (cs : Array Value) (e : TypeId) : (w.alloc (.cells cs e)).shape? w.heap.size = some (e,cs.size) := by
 have hn := heap_alloc_new w (.cells cs e)
 simp only [World.shape?,hn]
theorem r8 (e : TypeId) (s : ByteArray) : ∃ c w',(Conv.stringToBytes e s).run P w = .ok (.slice (some ⟨w.heap.size,0,none⟩) s.size (s.size + c)) w' /\
  w' = w.drew.alloc (.cells ((s.data.map fun (b : UInt8) => Value.int .u8 (b.toNat : Int))++Array.replicate c (Value.int .u8 0)) e (s.size + c,s.size + c + 1)) := by
 refine ⟨w.tape w.drawn (.appendCap s.size 0 e) % (2 ^ 63 - s.size),_,?_,rfl⟩
 generalize hc : w.tape w.drawn (.appendCap s.size 0 e) % (2 ^ 63 - s.size) = c
 simp only [Conv.stringToBytes,Sem.run_bind,tY,hc,Result.andThen_ok,xL,Nat.add_sub_cancel_left,markStringish,run_shape]
 have hsh := z0j (w := w.drew) ((s.data.map fun b => Value.int .u8 (b.toNat : Int))++Array.replicate c (Value.int .u8 0)) e
 rw [World.size_drew] at hsh
 have hsz : ((s.data.map fun b => Value.int .u8 (b.toNat : Int))++Array.replicate c (Value.int .u8 0)).size = s.size + c := by
  rw [Array.size_append,Array.size_map,Array.size_replicate]; rfl
 rw [hsz] at hsh
 simp only [World.size_drew,hsh,Result.andThen_ok,run_freeze,Sem.run_pure]
 have := lG w.drew ((s.data.map fun b => Value.int .u8 (b.toNat : Int))++Array.replicate c (Value.int .u8 0)) e (s.size + c)
 rw [World.size_drew] at this
 rw [this]
theorem pZ {t e : TypeId} {ie : TypeInfo} {len : Nat} {parts : Array (Nat × Value)} {zv : Value} {cells : Array Value} (ht : P.underlying t = some (.slice e)) (hi : P.info? e = some ie) (hz : ie.zero = some zv)
  (hle : len * ie.size<=16777216) (hf : Instr.fill (fun i => some (i * ie.size,ie.size)) ((Array.range (len * ie.size)).map (zv.cells[· % zv.cells.size]!)) parts.toList = some cells) :
  (Instr.buildSlice t len parts).run P w = .ok (.slice (some ⟨w.heap.size,0,none⟩) len len) (w.alloc (.cells cells e)) := by
 have h0 : len * ie.size = 0->Instr.fill (fun i => some (i * ie.size,ie.size)) ((Array.range (len * ie.size)).map ((#[] : Array Value)[· % (#[] : Array Value).size]!)) parts.toList = some cells := by
  intro h; rw [h] at hf ⊢; rw [Array.range_zero',Array.map_empty] at hf ⊢; exact hf
 simp only [Instr.buildSlice,Sem.run_bind,run_underlying ht,Result.andThen_ok,zO hi]
 rw [if_neg (by show ¬ (len * ie.size > 2 ^ 24); omega)]
 by_cases hz0 : len * ie.size = 0
 ·rw [if_pos hz0]
  simp only [Sem.run_pure,Result.andThen_ok,h0 hz0,Sem.run_bind,xL]
 ·rw [if_neg hz0]
  simp only [Sem.run_bind,zeroValue,typeInfo,run_program,Result.andThen_ok,hi,Sem.run_pure,hz,hf,xL]
theorem tZ {t e : TypeId} {ie : TypeInfo} {l c : Nat} {k k' : IntKind} {zv : Value} (ht : P.underlying t = some (.slice e)) (hi : P.info? e = some ie) (hz : ie.zero = some zv)
  (h1 : l<=c) (h2 : ie.bytes * c<=281474976710656) (h3 : c<=9223372036854775807) :
  (Instr.makeSlice t (.int k (l : Int)) (.int k' (c : Int))).run P w = .ok (.slice (some ⟨w.heap.size,0,none⟩) l c) (w.alloc (.cells ((Array.range (c * ie.size)).map (zv.cells[· % zv.cells.size]!)) e)) := by
 have wr : ∀ n : Nat,n<=9223372036854775807->IntKind.i64.wrap (n : Int) = n := by
  intro n hn
  simp only [IntKind.wrap,IntKind.bits,IntKind.signed]
  have : (n : Int) % 2 ^ 64 = n := Int.emod_eq_of_lt (by omega) (by omega)
  simp only [this]
  split
  ·simp_all; omega
  ·rfl
 have hb : ¬ ((ie.bytes : Int) * (c : Int) > 2 ^ 48) := by
  have : ((ie.bytes * c : Nat) : Int)<=281474976710656 := by generalize ie.bytes * c = x at h2 ⊢; omega
  rw [Int.natCast_mul] at this
  omega
 have hcond : ((decide ((c : Int) < 0) || decide ((ie.bytes : Int) * (c : Int) > 2 ^ 48)) || decide ((l : Int) < 0) || decide ((l : Int) > (c : Int))) = false := by
  rw [decide_eq_false (show ¬ ((c : Int) < 0) by omega),decide_eq_false hb,decide_eq_false (show ¬ ((l : Int) < 0) by omega),decide_eq_false (show ¬ ((l : Int) > (c : Int)) by omega)]
  rfl
 simp only [Instr.makeSlice,Sem.run_bind,run_underlying ht,Result.andThen_ok,asInt,asIntOf,Sem.run_pure,typeInfo,run_program,hi,wr l (by omega),wr c h3,hcond,Bool.false_eq_true,if_false,run_askRoom,Int.toNat_natCast,zO hi]
 by_cases hz0 : c * ie.size = 0
 ·rw [if_pos hz0]
  simp only [Sem.run_pure,Result.andThen_ok,Sem.run_bind,xL]
  rw [hz0,Array.range_zero',Array.map_empty,Array.map_empty]
 ·rw [if_neg hz0]
  simp only [Sem.run_bind,zeroValue,typeInfo,run_program,Result.andThen_ok,hi,Sem.run_pure,hz,xL]
theorem y0j (place : Nat->Option (Nat × Nat)) : ∀ (parts : List (Nat × AV)) (as r : List AV),nG place as parts = some r->r.length = as.length := by
 intro parts
 induction parts with
 | nil => intro as r h; simp only [nG,Option.some.injEq] at h; rw [h]
 | cons p parts ih =>
  intro as r h
  obtain ⟨i,v⟩ := p
  simp only [nG] at h
  split at h
  ·split at h
   ·simp at h
   ·rename_i hc
    have := ih _ _ h
    simp only [List.length_append,List.length_take,List.length_drop] at this
    omega
  ·simp at h
theorem HRel.mark {M : Nat->Prop} {w : World} {κ : Ker} {h : H} (r : HRel M w κ h) {B : Nat} (hM : M B) {c : Array Value} {t : TypeId} {lo hi : Nat} (hm : lo = hi \/ c.size<=lo) (hb : w.heap[B]? = some (.cells c t (lo,hi))) :
  HRel M (w.freeze ⟨B,c.size,none⟩ 1) κ h/\Only M w (w.freeze ⟨B,c.size,none⟩ 1) := by
 have hother : ∀ k,k ≠ B->(w.freeze ⟨B,c.size,none⟩ 1).heap[k]? = w.heap[k]? := by
  intro k hk
  unfold World.freeze
  rw [if_neg (by decide)]
  simp only [Array.getElem?_modify]
  rw [if_neg (by simpa using Ne.symm hk)]
 have hsame : ∃ lo2 hi2,(w.freeze ⟨B,c.size,none⟩ 1).heap[B]? = some (.cells c t (lo2,hi2))/\c.size<=lo2 := by
  unfold World.freeze
  rw [if_neg (by decide)]
  simp only [Array.getElem?_modify,hb,if_true,Option.map_some]
  by_cases he : lo = hi
  ·subst he; exact ⟨c.size,c.size + 1,by simp,Nat.le_refl _⟩
  ·have h1 : c.size<=lo := by
    rcases hm with h | h
    ·exact absurd h he
    ·exact h
   exact ⟨min lo c.size,max hi (c.size + 1),by simp [he],by omega⟩
 obtain ⟨lo2,hi2,hs,hle⟩ := hsame
 have hsz : (w.freeze ⟨B,c.size,none⟩ 1).heap.size = w.heap.size := by
  unfold World.freeze
  rw [if_neg (by decide)]
  simp
 have hcell : ∀ a,(w.freeze ⟨B,c.size,none⟩ 1).cell? a = w.cell? a := by
  intro a
  by_cases ha : a.block = B
  ·simp only [World.cell?,ha,hs,hb]
  ·exact World.cell?_of_block (w := w) (hother a.block ha)
 have hfrz : ∀ B1 O1 off x,w.cell? ⟨B1,O1 + off,none⟩ = some x->w.frozen? ⟨B1,O1 + off,none⟩ = false->(w.freeze ⟨B,c.size,none⟩ 1).frozen? ⟨B1,O1 + off,none⟩ = false := by
  intro B1 O1 off x hx hf
  by_cases he : B1 = B
  ·subst he
   have hlt : O1 + off < c.size := by
    simp only [World.cell?,hb] at hx
    simp at hx
    exact (Array.getElem?_eq_some_iff.1 hx).1
   simp only [World.frozen?,hs,Bool.and_eq_false_imp,decide_eq_true_eq,decide_eq_false_iff_not]
   intro k1 k2
   omega
  ·rw [World.frozen?_of_block (w := w) (hother _ he)]
   exact hf
 refine ⟨⟨?_,r.sep,?_,fun a x hx => by rw [hcell]; exact r.mem a x hx,r.mp.of (Ker.le_refl κ) (fun i b hi _ => .inl hi) (fun _ _ _ h _ => h) fun i b B2 O2 es ck _ _ _ he => by
  rw [hother B2 (fun e => by rw [e,hb] at he; cases he)]; exact he⟩,?_⟩
 ·intro i b hi
  obtain ⟨B1,O1,h1,h2,h3⟩ := r.blk i b hi
  refine ⟨B1,O1,h1,fun hw hl => ⟨(h2 hw hl).1,by rw [hsz]; exact (h2 hw hl).2.1,?_,(h2 hw hl).2.2.2⟩,?_⟩
  ·by_cases he : B1 = B
   ·subst he
    exact ⟨c,t,lo2,hi2,hs,.inr hle⟩
   ·exact (h2 hw hl).2.2.1.same (hother _ he)
  ·intro off a ha
   obtain ⟨⟨x,hx,hv⟩,hf⟩ := h3 off a ha
   exact ⟨⟨x,by rw [hcell]; exact hx,hv⟩,fun hw => hfrz _ _ _ _ hx (hf hw)⟩
 ·intro i b B1 O1 hi ho h1
  obtain ⟨hw,hl,hc⟩ := r.own i b B1 O1 hi ho h1
  refine ⟨hw,hl,?_⟩
  intro off hoff
  obtain ⟨⟨x,hx⟩,hf⟩ := hc off hoff
  exact ⟨⟨x,by rw [hcell]; exact hx⟩,hfrz _ _ _ _ hx hf⟩
 ·refine ⟨?_,?_,?_,by rw [hsz]; exact Nat.le_refl _,fun k hk hn => hother k (fun e => hn (e ▸ hM))⟩
  all_goals (unfold World.freeze; rw [if_neg (by decide)])
end
end Go.Sym
namespace Go.Sym
open Go.MapKept (IsKey)
open Go.ChangeMaps (setBlock)
theorem r9 {ag : Nat} {ks ks' : List Int} (h1 : C4 ag ks) (h2 : C4 ag ks') (h : vH ag ks = vH ag ks') : ks = ks' := by
 cases ag with
 | zero =>
  simp only [C4] at h1 h2
  match ks,ks',h1,h2 with
  | [a],[b],_,_ =>
   simp only [vH,List.headD_cons,Value.int.injEq,true_and] at h
   rw [h]
 | succ n =>
  simp only [vH,Value.agg.injEq] at h
  replace h := congrArg Array.toList h
  simp only [List.toList_toArray] at h
  have hi : ∀ a b : Int,Value.int .i64 a = Value.int .i64 b->a = b := fun a b h => by simpa using h
  exact List.map_inj_right hi |>.1 h
structure KeyOK (P : Program) (k : TypeId) (ag : Nat) : Prop where
 check : ∀ (w : World) (em : Bool) (ks : List Int),C4 ag ks->(Instr.checkKey em 10000 k (vH ag ks)).run P w = .ok () w
 find : ∀ (w : World) (ks : List Int) (es : List MapEntry),C4 ag ks->(∀ e ∈ es,∃ ks',C4 ag ks'/\e.key = vH ag ks') ->
  ((Instr.findKey k (vH ag ks) es).run P w = .ok none w/\∀ e ∈ es,e.key ≠ vH ag ks) \/ ∃ j e,(Instr.findKey k (vH ag ks) es).run P w = .ok (some (j,e.val)) w/\es[j]? = some e/\e.key = vH ag ks
 stays : ∀ (w : World) (ks : List Int),(Instr.keyThatStays (vH ag ks) (vH ag ks)).run P w = .ok (vH ag ks) w
theorem sA (n : Nat) (ks : List Int) : Instr.sameBits (n + 2) (.agg (ks.map (Value.int .i64)).toArray) (.agg (ks.map (Value.int .i64)).toArray) = true := by
 simp only [Instr.sameBits,beq_self_eq_true,Bool.true_and,List.all_eq_true]
 intro x hx
 induction ks with
 | nil => simp at hx
 | cons a ks ih =>
  simp only [List.map_cons,List.zip_cons_cons,List.mem_cons] at hx
  rcases hx with rfl | hx
  ·simp [Instr.sameBits]
  ·exact ih hx
theorem dH : ∀ (ks ks' : List Int),ks.length = ks'.length->wR (ks.map (AV.int .i64)) (ks'.map (AV.int .i64)) = some (decide (ks = ks'))
 | [],[],_ => rfl
 | a::ks,b::ks',h => by
  simp only [List.map_cons,wR,pL,if_true,dH ks ks' (by simpa using h),List.cons.injEq,Option.some.injEq]
  rw [Bool.eq_iff_iff]; simp
theorem oA (κ : Ker) : ∀ ks : List Int,VRels κ (ks.map (AV.int .i64)) (ks.map (Value.int .i64))
 | [] => rfl
 | a::ks => ⟨_,_,rfl,rfl,oA κ ks⟩
section
variable {P : Program}
theorem x0j {k : TypeId} (hk : P.underlying k = some (.int .i64)) : KeyOK P k 0 where
 check := fun w em ks _ => MapKept.run_checkKey (k := vH 0 ks) hk (show IsKey (.int .i64) (.int .i64 (ks.headD 0)) from rfl) em 9999
 find := fun w ks es _ hes => by
  have hks : ∀ x ∈ es,IsKey (.int .i64) x.key := fun x hx => by
   obtain ⟨ks',_,e⟩ := hes x hx
   rw [e]; exact rfl
  rcases MapKept.findNow_spec (d := .int .i64) (k := vH 0 ks) rfl es 0 hks with ⟨h1,h2⟩ | ⟨j,e,h1,h2,h3⟩
  ·exact .inl ⟨MapKept.run_findKey hk h1,h2⟩
  ·exact .inr ⟨j,e,MapKept.run_findKey hk (by simpa using h1),h2,h3⟩
 stays := fun w ks => by simp [Instr.keyThatStays,vH,Instr.sameBits]
theorem sB (w : World) (em : Bool) (d : Nat) (e : TypeId) (i : TypeInfo) (he : P.underlying e = some (.int .i64)) (hi : P.info? e = some i) (hsz : i.size = 1) (xs : Array Value) :
  ∀ (ks : List Int) (s : Nat),xs.toList.drop s = ks.map (Value.int .i64) ->
  (forIn (List.range' s ks.length) PUnit.unit (fun i _ => do
   Instr.checkKey em (d + 1) e (<- part e xs (i * (<- sizeOf e)))
   pure (ForInStep.yield PUnit.unit))).run P w = .ok PUnit.unit w := by
 intro ks
 induction ks with
 | nil => intro s _; simp
 | cons a ks ih =>
  intro s h
  have gx : xs[s]? = some (.int .i64 a) := by
   have := congrArg (·[0]?) h
   simpa using this
  have dx : xs.toList.drop (s + 1) = ks.map (Value.int .i64) := by
   have := congrArg (List.drop 1) h
   simpa [List.drop_drop,Nat.add_comm] using this
  have hb : vU P e = some false := by simp [vU,he]
  have px : (part e xs (s * 1)).run P w = .ok (.int .i64 a) w := by
   simp only [Nat.mul_one,part,Sem.run_bind,xK hb,Result.andThen_ok]
   simp [gx]
  have hc : (Instr.checkKey em (d + 1) e (.int .i64 a)).run P w = .ok () w := MapKept.run_checkKey (k := .int .i64 a) he (show IsKey (.int .i64) (.int .i64 a) from rfl) em d
  simp only [List.length_cons,List.range'_succ,List.forIn_cons,Sem.run_bind,zO hi,hsz,Result.andThen_ok,px,hc,Sem.run_pure]
  exact ih (s + 1) dx
theorem oB {w : World} {k : TypeId} {key : Value} {ag : Nat} {ks : List Int} (hkey : key = vH ag ks) (hwf : C4 ag ks)
  (heq : ∀ ks',C4 ag ks'->(Op.equal k key (vH ag ks')).run P w = .ok (decide (ks = ks')) w) :
  ∀ (es : List MapEntry) (i : Nat),(∀ e ∈ es,∃ ks',C4 ag ks'/\e.key = vH ag ks') ->
   ((Instr.findAsking k key es i).run P w = .ok none w/\∀ e ∈ es,e.key ≠ key) \/
   ∃ j e,(Instr.findAsking k key es i).run P w = .ok (some (i + j,e.val)) w/\es[j]? = some e/\e.key = key
 | [],i,_ => .inl ⟨by simp [Instr.findAsking],by simp⟩
 | e::es,i,hall => by
  obtain ⟨ks',hw',he⟩ := hall e (by simp)
  have hr := heq ks' hw'
  rw [<- he] at hr
  by_cases hks : ks = ks'
  ·refine .inr ⟨0,e,?_,rfl,by rw [he,hkey,hks]⟩
   rw [decide_eq_true hks] at hr
   simp [Instr.findAsking,hr]
  ·have hne : e.key ≠ key := fun h => hks (r9 hwf hw' (by rw [<- he,h,hkey]))
   rw [decide_eq_false hks] at hr
   rcases oB hkey hwf heq es (i + 1) (fun y hy => hall y (by simp [hy])) with ⟨h1,h2⟩ | ⟨j,e',h1,h2,h3⟩
   ·refine .inl ⟨by simp [Instr.findAsking,hr,h1],fun y hy => ?_⟩
    rcases List.mem_cons.1 hy with rfl | hy
    ·exact hne
    ·exact h2 y hy
   ·exact .inr ⟨j + 1,e',by simp [Instr.findAsking,hr,h1,Nat.add_assoc,Nat.add_comm 1 j],by simpa using h2,h3⟩
theorem s6 {k e : TypeId} {n : Nat} {i : TypeInfo} (hk : P.underlying k = some (.array n e)) (he : P.underlying e = some (.int .i64)) (hi : P.info? e = some i) (hsz : i.size = 1) (hn : 0 < n) : KeyOK P k n := by
 obtain ⟨n,rfl⟩ : ∃ m,n = m + 1 := ⟨n - 1,by omega⟩
 refine ⟨fun w em ks hw => ?_,fun w ks es hw hes => ?_,fun w ks => ?_⟩
 ·have hl : ks.length = n + 1 := hw
  have := sB w em 9998 e i he hi hsz (ks.map (Value.int .i64)).toArray ks 0 (by simp)
  rw [hl] at this
  show (Instr.checkKey em (9999 + 1) k (.agg (ks.map (Value.int .i64)).toArray)).run P w = .ok () w
  rw [Instr.checkKey]
  simp only [Sem.run_bind,run_underlying hk,Result.andThen_ok,Std.Legacy.Range.forIn_eq_forIn_range',Std.Legacy.Range.size]
  simp only [Nat.sub_zero,Nat.add_one_sub_one,Nat.div_one,Nat.add_sub_cancel] at this ⊢
  first | exact this | (rw [this]; rfl) | (refine (congrArg (fun r => Result.andThen r _) this).trans ?_; rfl)
 ·rw [run_findKey_eq w (by rw [hk])]
  rcases oB (P := P) (w := w) (k := k) rfl hw (fun ks' hw' => by
   have hl : ks.length = n + 1 := hw
   have hl' : ks'.length = n + 1 := hw'
   unfold Op.equal Op.maxDepth
   exact wS (w := w) (κ := ⟨fun _ => none,fun _ => 0,fun _ => none,fun _ => none,fun _ _ h => by cases h⟩) 9998 k e (n + 1) i hk he hi hsz _ _ _ _ _ (oA _ ks) (oA _ ks') (by simp [hl]) (dH ks ks' (by omega))) es 0 hes with ⟨h1,h2⟩ | ⟨j,e0,h1,h2,h3⟩
  ·exact .inl ⟨h1,h2⟩
  ·exact .inr ⟨j,e0,by simpa using h1,h2,h3⟩
 ·simp only [Instr.keyThatStays,vH,sA 9998,if_true,Sem.run_pure]
theorem s7 {k : TypeId} {ag : Nat} (h : kT P k = some ag) : KeyOK P k ag := by
 unfold kT at h
 split at h
 ·rename_i hk
  simp only [Option.some.injEq] at h
  subst h
  exact x0j hk
 ·rename_i n e hk
  split at h
  ·rename_i he hi
   split at h
   ·rename_i hc
    simp only [Option.some.injEq] at h
    subst h
    exact s6 hk he hi hc.1 hc.2
   ·cases h
  ·cases h
 ·cases h
theorem e0v {κ : Ker} {a : AV} {v : Value} {ag : Nat} {ks : List Int} (h : kA a = some (ag,ks)) (hv : VRel κ a v) : v = vH ag ks/\C4 ag ks := by
 unfold kA at h
 split at h
 ·simp only [Option.some.injEq,Prod.mk.injEq] at h
  obtain ⟨rfl,rfl⟩ := h
  exact ⟨hv,rfl⟩
 ·rename_i cs
  split at h
  ·cases h
  ·rename_i c cs
   simp only [Option.map_eq_some_iff,Prod.mk.injEq] at h
   obtain ⟨l,hl,rfl,rfl⟩ := h
   have hl2 : ∀ {cs : List AV} {l : List Int},rdI .i64 cs = some l->cs = l.map (AV.int .i64) := by
    intro cs
    induction cs with
    | nil => intro l h; simp [rdI] at h; subst h; rfl
    | cons a cs ih =>
     intro l h
     cases a <;> simp only [rdI,reduceCtorEq] at h
     split at h
     ·rename_i hk
      subst hk
      simp only [Option.map_eq_some_iff] at h
      obtain ⟨r,hr,rfl⟩ := h
      simp [ih hr]
     ·cases h
   have e := hl2 hl
   rw [e] at hv
   obtain ⟨vs,rfl,hvs⟩ := hv
   have hvs2 : ∀ (l : List Int) (xs : List Value),VRels κ (l.map (AV.int .i64)) xs->xs = l.map (Value.int .i64) := by
    intro l
    induction l with
    | nil => intro xs h; exact h
    | cons a l ih =>
     intro xs h
     obtain ⟨x,ys,rfl,h1,h2⟩ := h
     have h1 : x = .int .i64 a := h1
     rw [h1,ih ys h2]; rfl
   have e2 := hvs2 l _ hvs
   have hpos : 0 < l.length := by
    have := congrArg List.length e
    simp at this
    omega
   obtain ⟨m,hm⟩ : ∃ m,l.length = m + 1 := ⟨l.length - 1,by omega⟩
   rw [hm]
   exact ⟨by simp only [vH]; rw [<- e2],by simp only [C4,hm]⟩
 ·cases h
theorem H6 {κ : Ker} {w : World} {e : TypeId} {z : AV} (h : pT P e = some z) : ∃ zv,(zeroValue e).run P w = .ok zv w/\VRel κ z zv := by
 simp only [pT,Option.bind_eq_some_iff] at h
 obtain ⟨zs,hz,h⟩ := h
 obtain ⟨i,v,hi,hv,hrel⟩ := xA (κ := κ) hz
 rw [hi] at h
 simp only [hv] at h
 have hrun : (zeroValue e).run P w = .ok v w := by
  simp only [zeroValue,typeInfo,Sem.run_bind,run_program,Result.andThen_ok,hi,Sem.run_pure,hv]
 refine ⟨v,hrun,?_⟩
 split at h
 ·simp only [Option.some.injEq] at h
  rename_i vs hh
  subst h
  simp only [Option.some.injEq] at hh
  subst hh
  exact ⟨vs,rfl,by simpa [Value.cells] using hrel⟩
 ·rename_i v' hh
  simp only [Option.some.injEq] at hh
  subst hh
  split at h
  ·rename_i a h1
   simp only [Option.some.injEq] at h
   subst h
   have hc : v.cells = #[v] := by cases v <;> simp_all [Value.cells,Value.oneCell']
   rw [hc] at hrel
   obtain ⟨x,xs,e1,e2,e3⟩ := hrel
   simp only [List.cons.injEq] at e1
   rw [e1.1]; exact e2
  ·cases h
 ·cases h
variable {κ : Ker} {w : World} {M : Nat->Prop} {h : H}
theorem rE {ag : Nat} {p : List Int->Bool} {g : List Int->AV} {es : List MapEntry} (h : EntR κ ag p g es) : ∀ e ∈ es,∃ ks',C4 ag ks'/\e.key = vH ag ks' :=
 fun e he => by obtain ⟨ks,h1,h2,_⟩ := h.1 e he; exact ⟨ks,h1,h2⟩
def R6 (ok : Bool) (v : Value) (b : Bool) : Value := match ok with | true => .tuple #[v,.bool b] | false => v
theorem d0v {t k e : TypeId} {ag B : Nat} {p : List Int->Bool} {g : List Int->AV} {z : AV} {es : Array MapEntry} {ck : Nat} {ks : List Int} (ht : P.underlying t = some (.map k e)) (hk : kT P k = some ag) (hz : pT P e = some z)
  (hb : w.heap[B]? = some (.map es ck)) (he : EntR κ ag p g es.toList) (hw : C4 ag ks) (ok : Bool) :
  ∃ v,(Instr.lookup t (.map (some B)) (vH ag ks) ok).run P w = .ok (R6 ok v (p ks)) w/\VRel κ (match p ks with | true => g ks | false => z) v := by
 have K := s7 hk
 rcases K.find w ks es.toList hw (rE he) with ⟨h1,h2⟩ | ⟨j,e0,h1,h2,h3⟩
 ·have hp : p ks = false := by
   cases hp : p ks with
   | false => rfl
   | true =>
    obtain ⟨e1,he1,he2⟩ := he.2 ks hw hp
    exact absurd he2 (h2 e1 he1)
  obtain ⟨zv,hzr,hzv⟩ := H6 (κ := κ) (w := w) hz
  refine ⟨zv,?_,by rw [hp]; exact hzv⟩
  rw [hp]
  cases ok <;> simp [Instr.lookup,run_underlying ht,MapKept.run_getObj_map hb,K.check w _ ks hw,h1,hzr,Result.andThen,R6]
 ·have hmem : e0 ∈ es.toList := List.mem_of_getElem? h2
  obtain ⟨ks',hw',hk',hp',hv'⟩ := he.1 e0 hmem
  have : ks = ks' := r9 hw hw' (by rw [<- hk',h3])
  subst this
  refine ⟨e0.val,?_,by rw [hp']; exact hv'⟩
  rw [hp']
  cases ok <;> simp [Instr.lookup,run_underlying ht,MapKept.run_getObj_map hb,K.check w _ ks hw,h1,Result.andThen,R6]
theorem s8 {x a : AV} {v : Value} (h : VRel κ x v) : VRel κ (cM true x a) v := by
 unfold cM
 split
 ·exact h
 ·split
  ·exact h
  ·trivial
 ·exact h
 ·trivial
theorem s9 {x a : AV} {v : Value} (h : VRel κ a v) : VRel κ (cM false x a) v := by
 unfold cM
 split
 ·exact h
 ·rename_i k x k' y
  split
  ·rename_i hk; subst hk; exact h
  ·trivial
 ·exact h
 ·trivial
theorem H7 {t k e : TypeId} {ag B : Nat} {p : List Int->Bool} {g : List Int->AV} {x : AV} {v : Value} {es : Array MapEntry} {ck : Nat} {ks : List Int} (ht : P.underlying t = some (.map k e)) (hk : kT P k = some ag)
  (hb : w.heap[B]? = some (.map es ck)) (he : EntR κ ag p g es.toList) (hw : C4 ag ks) (hv : VRel κ x v) :
  ∃ es' ck',(Instr.mapUpdate t (.map (some B)) (vH ag ks) v).run P w = .ok () (setBlock w B (.map es' ck'))/\EntR κ ag (fun k => k == ks || p k) (fun k => cM (k == ks) x (g k)) es'.toList := by
 have K := s7 hk
 rcases K.find w ks es.toList hw (rE he) with ⟨h1,h2⟩ | ⟨j,e0,h1,h2,h3⟩
 ·refine ⟨es.push ⟨vH ag ks,v,ck⟩,ck + 1,?_,?_,?_,?_⟩
  ·simp [Instr.mapUpdate,run_underlying ht,MapKept.run_getObj_map hb,K.check w false ks hw,h1,MapKept.run_setObj_map _ hb,Result.andThen,setBlock]
  ·intro y hy
   simp only [Array.toList_push,List.mem_append,List.mem_singleton] at hy
   rcases hy with hy | rfl
   ·obtain ⟨ks',hw',hk',hp',hv'⟩ := he.1 y hy
    have hne : ks' ≠ ks := fun e => h2 y hy (by rw [hk',e])
    have hb' : (ks' == ks) = false := by simpa using hne
    refine ⟨ks',hw',hk',by simp [hp'],?_⟩
    simp only [hb']
    exact s9 hv'
   ·refine ⟨ks,hw,rfl,by simp,?_⟩
    simp only [beq_self_eq_true]
    exact s8 hv
  ·intro ks' hw' hp'
   simp only [Bool.or_eq_true,beq_iff_eq] at hp'
   simp only [Array.toList_push,List.mem_append,List.mem_singleton]
   rcases hp' with rfl | hp'
   ·exact ⟨_,.inr rfl,rfl⟩
   ·obtain ⟨e1,he1,he2⟩ := he.2 ks' hw' hp'
    exact ⟨e1,.inl he1,he2⟩
  ·rw [Array.toList_push,List.pairwise_append]
   exact ⟨he.3,List.pairwise_singleton _ _,fun a ha b hb => by rw [List.mem_singleton] at hb; subst hb; exact h2 a ha⟩
 ·have hj : es[j]? = some e0 := by simpa using h2
  have hjl : j < es.size := (Array.getElem?_eq_some_iff.1 hj).1
  have hkeys : ∀ (i : Nat) (y : MapEntry),(es.modify j fun e => { e with key := vH ag ks,val := v })[i]? = some y->∃ y0 : MapEntry,es[i]? = some y0/\y0.key = y.key := by
   intro i y hi
   rw [Array.getElem?_modify] at hi
   split at hi
   ·rename_i hij
    subst hij
    rw [hj] at hi
    simp only [Option.map_some,Option.some.injEq] at hi
    subst hi
    exact ⟨e0,hj,h3⟩
   ·exact ⟨y,hi,rfl⟩
  have hap : ∀ (i i' : Nat) (y y' : MapEntry),es[i]? = some y->es[i']? = some y'->y.key = y'.key->i = i' := by
   intro i i' y y' h1 h2 hk
   have hp := List.pairwise_iff_getElem.1 he.3
   have hi := Array.getElem?_eq_some_iff.1 h1
   have hi' := Array.getElem?_eq_some_iff.1 h2
   obtain ⟨l1,e1⟩ := hi
   obtain ⟨l2,e2⟩ := hi'
   have q1 : es.toList[i]'(by simpa using l1) = y := by simpa using e1
   have q2 : es.toList[i']'(by simpa using l2) = y' := by simpa using e2
   rcases Nat.lt_trichotomy i i' with h | h | h
   ·exact absurd (by rw [q1,q2]; exact hk) (hp i i' (by simpa using l1) (by simpa using l2) h)
   ·exact h
   ·exact absurd (by rw [q1,q2]; exact hk.symm) (hp i' i (by simpa using l2) (by simpa using l1) h)
  refine ⟨es.modify j fun e => { e with key := vH ag ks,val := v },ck,?_,?_,?_,?_⟩
  ·simp [Instr.mapUpdate,run_underlying ht,MapKept.run_getObj_map hb,K.check w false ks hw,h1,hj,h3,K.stays w ks,MapKept.run_setObj_map _ hb,Result.andThen,setBlock]
  ·intro y hy
   obtain ⟨i,hi⟩ := List.getElem?_of_mem hy
   rw [Array.getElem?_toList,Array.getElem?_modify] at hi
   split at hi
   ·rename_i hij
    subst hij
    rw [hj] at hi
    simp only [Option.map_some,Option.some.injEq] at hi
    subst hi
    refine ⟨ks,hw,rfl,by simp,?_⟩
    simp only [beq_self_eq_true]
    exact s8 hv
   ·have hym : y ∈ es.toList := List.mem_of_getElem? (by rw [Array.getElem?_toList]; exact hi)
    obtain ⟨ks',hw',hk',hp',hv'⟩ := he.1 y hym
    refine ⟨ks',hw',hk',by simp [hp'],?_⟩
    cases hb' : (ks' == ks) with
    | false => exact s9 hv'
    | true =>
     rename_i hij
     have e : ks' = ks := by simpa using hb'
     exact absurd (hap j i e0 y hj hi (by rw [h3,hk',e])) hij
  ·intro ks' hw' hp'
   simp only [Bool.or_eq_true,beq_iff_eq] at hp'
   have hnew : ({ e0 with key := vH ag ks,val := v } : MapEntry) ∈ (es.modify j fun e => { e with key := vH ag ks,val := v }).toList :=
    List.mem_of_getElem? (i := j) (by rw [Array.getElem?_toList,Array.getElem?_modify,if_pos rfl,hj]; rfl)
   rcases hp' with rfl | hp'
   ·exact ⟨_,hnew,rfl⟩
   ·obtain ⟨e1,he1,he2⟩ := he.2 ks' hw' hp'
    obtain ⟨i,hi⟩ := List.getElem?_of_mem he1
    by_cases hij : j = i
    ·subst hij
     rw [Array.getElem?_toList,hj] at hi
     simp only [Option.some.injEq] at hi
     subst hi
     exact ⟨_,hnew,by rw [<- he2,h3]⟩
    ·refine ⟨e1,List.mem_of_getElem? (i := i) ?_,he2⟩
     rw [Array.getElem?_toList,Array.getElem?_modify,if_neg hij,<- Array.getElem?_toList]
     exact hi
  ·rw [List.pairwise_iff_getElem]
   intro i i' hi hi' hlt hk
   obtain ⟨y0,k1,k2⟩ := hkeys i _ (Array.getElem?_eq_getElem (by simpa using hi))
   obtain ⟨y1,k3,k4⟩ := hkeys i' _ (Array.getElem?_eq_getElem (by simpa using hi'))
   have := hap i i' y0 y1 k1 k3 (by rw [k2,k4]; simpa only [Array.getElem_toList] using hk)
   omega
theorem HRel.remap {i : Nat} {b : ABlk} {ag B O ck ck' : Nat} {p p' : List Int->Bool} {g g' : List Int->AV} {es es' : Array MapEntry} (r : HRel M w κ h) (hi : h i = some b) (hc : b.con = .mp ag p g) (hρ : κ.ρ i = some (B,O))
  (hb : w.heap[B]? = some (.map es ck)) (he : EntR κ ag p' g' es'.toList) :
  HRel M (setBlock w B (.map es' ck')) κ (upd h i (some ⟨.mp ag p' g',b.wr,b.own⟩))/\Only M w (setBlock w B (.map es' ck')) := by
 have hlt : B < w.heap.size := (Array.getElem?_eq_some_iff.1 hb).1
 have hsame : (setBlock w B (.map es' ck')).heap[B]? = some (.map es' ck') := (MapKept.heap_set hb).1
 have hother : ∀ k,k ≠ B->(setBlock w B (.map es' ck')).heap[k]? = w.heap[k]? := fun k hk => (MapKept.heap_set hb).2 k hk
 have hsz : (setBlock w B (.map es' ck')).heap.size = w.heap.size := by simp [setBlock]
 have hne : ∀ a x,w.cell? a = some x->a.block ≠ B := by
  intro a x hx hB
  simp only [World.cell?,hB,hb] at hx
  cases hx
 have hcell : ∀ a x,w.cell? a = some x->(setBlock w B (.map es' ck')).cell? a = some x/\(setBlock w B (.map es' ck')).frozen? a = w.frozen? a := by
  intro a x hx
  have h1 := hother _ (hne a x hx)
  exact ⟨by rw [World.cell?_of_block (w := w) h1]; exact hx,by rw [World.frozen?_of_block (w := w) h1]⟩
 have hmk : ∀ B',Marked w B'->Marked (setBlock w B (.map es' ck')) B' := by
  intro B' hm
  refine hm.same (hother B' ?_)
  rintro rfl
  obtain ⟨c0,t,lo,hi2,hc0,_⟩ := hm
  rw [hb] at hc0; cases hc0
 have hM : M B := by
  obtain ⟨B1,O1,_,_,k1,k2,_⟩ := r.mp.ent i b ag p g hi hc
  rw [hρ] at k1
  simp only [Option.some.injEq,Prod.mk.injEq] at k1
  rw [k1.1]; exact k2
 have hdead : ¬ (0 < b.own/\0 < κ.cap i) := by
  rintro ⟨h1,h2⟩
  obtain ⟨_,_,h3⟩ := r.own i b B O hi h1 hρ
  obtain ⟨⟨x,hx⟩,_⟩ := h3 0 (Nat.mul_pos h2 h1)
  exact hne _ _ hx rfl
 have tr : ∀ k c,upd h i (some ⟨.mp ag p' g',b.wr,b.own⟩) k = some c->LiveB κ k c->k ≠ i/\h k = some c := by
  intro k c hk hl
  unfold upd at hk
  split at hk
  ·rename_i he
   subst he
   simp only [Option.some.injEq] at hk
   subst hk
   rcases hl with ⟨o,a,h1⟩ | h1
   ·cases h1
   ·exact absurd h1 hdead
  ·exact ⟨by assumption,hk⟩
 refine ⟨⟨?_,?_,?_,fun a x hx => (hcell a x (r.mem a x hx)).1,?_⟩,rfl,rfl,rfl,by rw [hsz]; exact Nat.le_refl _,fun k _ hk => hother k (fun e => hk (e ▸ hM))⟩
 ·intro k c hk
  unfold upd at hk
  split at hk
  ·rename_i hki
   subst hki
   simp only [Option.some.injEq] at hk
   subst hk
   refine ⟨B,O,hρ,fun _ hl => ?_,fun off a ha => by cases ha⟩
   rcases hl with ⟨o,a,h1⟩ | h1
   ·cases h1
   ·exact absurd h1 hdead
  ·obtain ⟨B1,O1,h1,h2,h3⟩ := r.blk k c hk
   refine ⟨B1,O1,h1,fun hw hl => ⟨(h2 hw hl).1,by rw [hsz]; exact (h2 hw hl).2.1,hmk _ (h2 hw hl).2.2.1,(h2 hw hl).2.2.2⟩,fun off a ha => ?_⟩
   obtain ⟨⟨x,hx,hv⟩,hf⟩ := h3 off a ha
   obtain ⟨e1,e2⟩ := hcell _ x hx
   exact ⟨⟨x,e1,hv⟩,fun hw => by rw [e2]; exact hf hw⟩
 ·intro j k c c' C D C' D' hj hk hne' hcw hcc hcc' e1 e2
  obtain ⟨_,k1⟩ := tr j c hj hcc
  obtain ⟨_,k2⟩ := tr k c' hk hcc'
  exact r.sep j k c c' C D C' D' k1 k2 hne' hcw hcc hcc' e1 e2
 ·intro k c C D hk hown e1
  unfold upd at hk
  split at hk
  ·rename_i hki
   subst hki
   simp only [Option.some.injEq] at hk
   subst hk
   obtain ⟨k1,_,_⟩ := r.own k b C D hi hown e1
   refine ⟨k1,Nat.zero_le _,fun off hoff => ?_⟩
   have : κ.cap k = 0 := by
    rcases Nat.eq_zero_or_pos (κ.cap k) with h0 | h0
    ·exact h0
    ·exact absurd ⟨hown,h0⟩ hdead
   rw [this] at hoff
   simp at hoff
  ·obtain ⟨k1,k2,k3⟩ := r.own k c C D hk hown e1
   refine ⟨k1,k2,fun off hoff => ?_⟩
   obtain ⟨⟨x,hx⟩,hf⟩ := k3 off hoff
   obtain ⟨e3,e4⟩ := hcell _ x hx
   exact ⟨⟨x,e3⟩,by rw [e4]; exact hf⟩
 ·refine ⟨fun k c ag1 p1 g1 hk hcc => ?_,fun j k c c' hj hk hm hm' hne' C D C' D' e1 e2 => ?_⟩
  ·unfold upd at hk
   split at hk
   ·rename_i hki
    subst hki
    simp only [Option.some.injEq] at hk
    subst hk
    simp only [Con.mp.injEq] at hcc
    obtain ⟨rfl,rfl,rfl⟩ := hcc
    exact ⟨B,O,es',ck',hρ,hM,hsame,he⟩
   ·rename_i hki
    obtain ⟨B1,O1,es1,ck1,k1,k2,k3,k4⟩ := r.mp.ent k c ag1 p1 g1 hk hcc
    have := r.mp.sep k i c b hk hi (by rw [hcc]; rfl) (by rw [hc]; rfl) hki _ _ _ _ k1 hρ
    exact ⟨B1,O1,es1,ck1,k1,k2,by rw [hother _ this]; exact k3,k4⟩
  ·have old : ∀ k c,upd h i (some ⟨.mp ag p' g',b.wr,b.own⟩) k = some c->c.con.isMap = true->∃ c0,h k = some c0/\c0.con.isMap = true := by
    intro k c hk hm
    unfold upd at hk
    split at hk
    ·rename_i hki
     subst hki
     exact ⟨b,hi,by rw [hc]; rfl⟩
    ·exact ⟨c,hk,hm⟩
   obtain ⟨c0,k1,k2⟩ := old j c hj hm
   obtain ⟨c1,k3,k4⟩ := old k c' hk hm'
   exact r.mp.sep j k c0 c1 k1 k3 k2 k4 hne' _ _ _ _ e1 e2
theorem HRel.newMap {f ag : Nat} {g : List Int->AV} (r : HRel M w κ h) (hf : κ.ρ f = none) (hM : M w.heap.size) :
  HRel M (w.alloc (.map #[] 0)) (κ.put f (w.heap.size,0) 0) (upd h f (some ⟨.mp ag (fun _ => false) g,true,0⟩)) := by
 have hle : κ.le (κ.put f (w.heap.size,0) 0) := Ker.le_put hf
 have rw1 : HRel M (w.alloc (.map #[] 0)) κ h := r.keep (by simp) fun B hlt => heap_alloc_old w _ B hlt
 have r1 : HRel M (w.alloc (.map #[] 0)) (κ.put f (w.heap.size,0) 0) h := by
  refine rw1.ker hle (fun a x hx => rw1.mem a x hx) ?_
  intro i b B O hi hw hl h1 a x hx
  obtain ⟨B1,O1,e1,e2,_⟩ := rw1.blk i b hi
  rw [h1] at e1
  simp only [Option.some.injEq,Prod.mk.injEq] at e1
  obtain ⟨rfl,rfl⟩ := e1
  exact (e2 hw hl).2.2.2 a x hx
 have hn := heap_alloc_new w (.map #[] 0)
 have dead : ∀ κ' : Ker,¬ LiveB κ' f ⟨.mp ag (fun _ => false) g,true,0⟩ := by
  rintro κ' (⟨o,a,h1⟩ | ⟨h1,_⟩)
  ·cases h1
  ·exact absurd h1 (Nat.lt_irrefl 0)
 have tr : ∀ k c,upd h f (some ⟨.mp ag (fun _ => false) g,true,0⟩) k = some c->LiveB (κ.put f (w.heap.size,0) 0) k c->h k = some c := by
  intro k c hk hl
  unfold upd at hk
  split at hk
  ·rename_i he
   subst he
   simp only [Option.some.injEq] at hk
   subst hk
   exact absurd hl (dead _)
  ·exact hk
 refine ⟨?_,?_,?_,r1.mem,?_⟩
 ·intro k c hk
  unfold upd at hk
  split at hk
  ·rename_i he
   subst he
   simp only [Option.some.injEq] at hk
   subst hk
   exact ⟨w.heap.size,0,Ker.put_self _ _ _ _,fun _ hl => absurd hl (dead _),fun off a ha => by cases ha⟩
  ·exact r1.blk k c hk
 ·intro j k c c' C D C' D' hj hk hne hcw hcc hcc' e1 e2
  exact r1.sep j k c c' C D C' D' (tr j c hj hcc) (tr k c' hk hcc') hne hcw hcc hcc' e1 e2
 ·intro k c C D hk hown e1
  unfold upd at hk
  split at hk
  ·simp only [Option.some.injEq] at hk
   subst hk
   exact absurd hown (Nat.lt_irrefl 0)
  ·exact r1.own k c C D hk hown e1
 ·have oldlt : ∀ k c C D,k ≠ f->h k = some c->c.con.isMap = true->(κ.put f (w.heap.size,0) 0).ρ k = some (C,D)->C < w.heap.size := by
   intro k c C D hkf hk hm e1
   rw [Ker.put_other κ _ _ hkf] at e1
   obtain ⟨ag1,p1,g1,hc1⟩ := Con.isMap_eq hm
   obtain ⟨B1,O1,es1,ck1,k1,_,k3,_⟩ := r.mp.ent k c ag1 p1 g1 hk hc1
   rw [e1] at k1
   simp only [Option.some.injEq,Prod.mk.injEq] at k1
   rw [k1.1]
   exact (Array.getElem?_eq_some_iff.1 k3).1
  refine ⟨fun k c ag1 p1 g1 hk hcc => ?_,fun j k c c' hj hk hm hm' hne C D C' D' e1 e2 => ?_⟩
  ·unfold upd at hk
   split at hk
   ·rename_i he
    subst he
    simp only [Option.some.injEq] at hk
    subst hk
    simp only [Con.mp.injEq] at hcc
    obtain ⟨rfl,rfl,rfl⟩ := hcc
    exact ⟨w.heap.size,0,#[],0,Ker.put_self _ _ _ _,hM,hn,⟨fun e he => absurd he (List.not_mem_nil),fun _ _ h => (by cases h),List.Pairwise.nil⟩⟩
   ·exact r1.mp.ent k c ag1 p1 g1 hk hcc
  ·unfold upd at hj hk
   split at hj
   ·rename_i he
    subst he
    split at hk
    ·rename_i he2; exact absurd he2.symm hne
    ·rename_i hkf
     have := oldlt k c' C' D' hkf hk hm' e2
     rw [Ker.put_self] at e1
     simp only [Option.some.injEq,Prod.mk.injEq] at e1
     omega
   ·rename_i hjf
    split at hk
    ·rename_i he
     subst he
     have := oldlt j c C D hjf hj hm e1
     rw [Ker.put_self] at e2
     simp only [Option.some.injEq,Prod.mk.injEq] at e2
     omega
    ·exact r1.mp.sep j k c c' hj hk hm hm' hne C D C' D' e1 e2
theorem eD {o : Oper} {args : List AV} {ev : Operand->Value} {fr : Nat} {hs : H} {r : R} (hargs : VRels κ args (o.op.operands.toList.map ev))
  (hr : HRel M w κ h) (hle : hs.le h) (hM : ∀ B,w.heap.size<=B->M B) (hfr : κ.ρ fr = none)
  (h0 : (q0v P o args fr hs).sel = some r) (hob : zP r.ob) :
  OpPost P w (fun z w' => Good M w κ fr r.v (h.ups r.up) z w') ((execOp ev o).run P w) := by
 have selR : ∀ {q : Option R},(T.ofR q).sel = some r->q = some r := by
  intro q hq
  cases q with
  | none => simp [T.ofR,T.sel] at hq
  | some q => simpa [T.ofR,T.sel] using hq
 unfold q0v at h0
 split at h0
 ·-- makeMap
  rename_i e args0 t hop
  have h1 := selR h0
  split at h1
  ·rename_i k el ht
   simp only [Option.bind_eq_some_iff,Option.map_eq_some_iff] at h1
   obtain ⟨ag,hag,z,hz,rfl⟩ := h1
   have hrun : (execOp ev o).run P w = .ok (.value (.map (some w.heap.size))) (w.alloc (.map #[] 0)) := by
    simp [execOp,hop,Instr.makeMap,newObj,Sem.run]
   rw [hrun]
   exact ⟨_,Ker.le_put hfr,fun i hi => Ker.put_other κ _ _ (by unfold xI at hi; omega),⟨_,0,Ker.put_self _ _ _ _,rfl⟩,hr.newMap hfr (hM _ (Nat.le_refl _)),Only.alloc M w _,fun _ _ h => .inl h⟩
  ·cases h1
 ·-- lookup
  rename_i e args0 t x0 y0 ok i key hop
  rw [hop] at hargs
  obtain ⟨xv,yv,hy,h1,h2⟩ := hargs.two
  simp [Op.operands] at hy
  obtain ⟨rfl,rfl⟩ := hy
  split at h0
  ·rename_i k el ht
   split at h0
   ·rename_i b hb
    split at h0
    ·rename_i ag p g hcon
     split at h0
     ·rename_i ag' ks z hkey hz
      split at h0
      ·rename_i hcd
       rw [Bool.and_eq_true] at hcd
       obtain ⟨e1,e2⟩ := hcd
       have e1 := Nat.eq_of_beq_eq_true e1
       subst e1
       have e2 : kT P k = some ag := by simpa using e2
       have hb' := hle i b hb
       obtain ⟨B,O,es,ck,hρ,_,hheap,hent⟩ := hr.mp.ent i b ag p g hb' hcon
       obtain ⟨hkv,hwf⟩ := e0v hkey h2
       obtain ⟨B1,O1,hρ1,hv⟩ := h1
       rw [hρ] at hρ1
       simp only [Option.some.injEq,Prod.mk.injEq] at hρ1
       obtain ⟨rfl,rfl⟩ := hρ1
       obtain ⟨v,hrun,hvr⟩ := d0v ht e2 hz hheap hent hwf ok
       have hrun' : (execOp ev o).run P w = .ok (.value (R6 ok v (p ks))) w := by
        simp only [execOp,hop,hv,hkv,Sem.run_bind,hrun,Result.andThen_ok,Sem.run_pure]
       obtain ⟨c,hc⟩ : ∃ c,p ks = c := ⟨_,rfl⟩
       rw [hc] at h0 hrun' hvr
       rw [hrun']
       have fin : ∀ (q : AV) (y : Value),VRel κ q y->Good M w κ fr q h y w := fun q y hq => ⟨κ,κ.le_refl,fun _ _ => rfl,hq,hr,Only.refl _ _,fun _ _ h => .inl h⟩
       cases c with
       | true =>
        simp only [T.sel,Option.some.injEq] at h0
        subst h0
        refine fin _ _ ?_
        cases ok with
        | true => exact ⟨_,rfl,v,[.bool true],rfl,hvr,.bool true,[],rfl,rfl,rfl⟩
        | false => exact hvr
       | false =>
        simp only [T.sel,Option.some.injEq] at h0
        subst h0
        refine fin _ _ ?_
        cases ok with
        | true => exact ⟨_,rfl,v,[.bool false],rfl,hvr,.bool false,[],rfl,rfl,rfl⟩
        | false => exact hvr
      ·simp [T.sel] at h0
     ·simp [T.sel] at h0
    ·simp [T.sel] at h0
   ·simp [T.sel] at h0
  ·simp [T.sel] at h0
 ·-- mapUpdate
  rename_i e args0 t m0 k0 v0 i key x hop
  rw [hop] at hargs
  obtain ⟨xv,yv,zv,hy,h1,h2,h3⟩ := hargs.three
  simp [Op.operands] at hy
  obtain ⟨rfl,rfl,rfl⟩ := hy
  split at h0
  ·rename_i k el ht
   split at h0
   ·rename_i b hb
    split at h0
    ·rename_i ag p g hcon
     split at h0
     ·rename_i ag' ks hkey
      split at h0
      ·rename_i hcd
       rw [Bool.and_eq_true] at hcd
       obtain ⟨e1,e2⟩ := hcd
       have e1 := Nat.eq_of_beq_eq_true e1
       subst e1
       have e2 : kT P k = some ag := by simpa using e2
       have hb' := hle i b hb
       obtain ⟨B,O,es,ck,hρ,_,hheap,hent⟩ := hr.mp.ent i b ag p g hb' hcon
       obtain ⟨hkv,hwf⟩ := e0v hkey h2
       obtain ⟨B1,O1,hρ1,hv⟩ := h1
       rw [hρ] at hρ1
       simp only [Option.some.injEq,Prod.mk.injEq] at hρ1
       obtain ⟨rfl,rfl⟩ := hρ1
       simp only [T.sel,Option.some.injEq] at h0
       subst h0
       obtain ⟨es',ck',hrun,hent'⟩ := H7 ht e2 hheap hent hwf h3
       obtain ⟨hr',ho⟩ := hr.remap (ck' := ck') hb' hcon hρ hheap hent'
       have hrun' : (execOp ev o).run P w = .ok .skip (setBlock w B (.map es' ck')) := by
        simp only [execOp,hop,hv,hkv,Sem.run_bind,hrun,Result.andThen_ok,Sem.run_pure]
       rw [hrun']
       exact ⟨κ,κ.le_refl,fun _ _ => rfl,trivial,hr',ho,fun _ _ h => .inl h⟩
      ·simp [T.sel] at h0
     ·simp [T.sel] at h0
    ·simp [T.sel] at h0
   ·simp [T.sel] at h0
  ·simp [T.sel] at h0
 ·simp [T.sel] at h0
end
end Go.Sym
namespace Go.Sym
abbrev Gl := Nat->List Value
def GW (gl : Gl) (w : World) : Prop := ∀ g i v,(gl g)[i]? = some v->w.cell? ⟨g,i,none⟩ = some v
def sC (gl : Gl) (M : Nat->Prop) : Prop := ∀ g,gl g ≠ []->¬ M g
theorem GW.only {gl : Gl} {M : Nat->Prop} {w w' : World} (h : GW gl w) (hM : sC gl M) (k : Only M w w') : GW gl w' := by
 intro g i v hv
 have hc := h g i v hv
 have hb := k.block g (yO hc) (hM g (by intro hn; rw [hn] at hv; simp at hv))
 rw [World.cell?_of_block (w := w) (a := ⟨g,i,none⟩) hb]
 exact hc
theorem GW.new {gl : Gl} {w : World} (h : GW gl w) : sC gl (fun B => w.heap.size<=B) := by
 intro g hg hle
 cases hgl : gl g with
 | nil => exact hg hgl
 | cons v vs =>
  have := yO (h g 0 v (by simp [hgl]))
  simp at this
  omega
def COKn (P : Program) (gl : Gl) (f : FuncId) (F : lZ) : Prop :=
 (∀ args w,(callFunc f args).run P w = .ok (.enter f args) w) /\
 ∀ M w κ hs h as (vals : Array Value) fr r,GW gl w->sC gl M->HRel M w κ h->hs.le h->(∀ B,w.heap.size<=B->M B)->(∀ i,fr<=i->i < fr + xI->κ.ρ i = none)->(∀ g,κ.ρ (GB + g) = some (g,0))->fr + xI<=GB->VRels κ as vals.toList ->
  (F hs as fr).sel = some r->zP r.ob->Calls P f vals w fun e w' => ∃ x,e = .returned x/\Good M w κ fr r.v (h.ups r.up) x w'
def EOK (P : Program) (f : FuncId) (F : lZ) : Prop :=
 ∀ (M : Nat->Prop) (w : World) (κ : Ker) (hs h : H) as (vals : Array Value) fr r,HRel M w κ h->hs.le h->VRels κ as vals.toList->(F hs as fr).sel = some r->zP r.ob->h.ups r.up = h/\∃ v,(callFunc f vals).run P w = .ok (.value v) w/\VRel κ r.v v
def COK (P : Program) (gl : Gl) (f : FuncId) (F : lZ) : Prop := COKn P gl f F \/ EOK P f F
def COKs (P : Program) (gl : Gl) (Γ : Ctx) : Prop := ∀ f F,Γ.fn f = some F->COK P gl f F
section
variable {P : Program} {κ : Ker} {w : World} {M : Nat->Prop} {h : H} {Γ : Ctx} {gl : Gl}
theorem Good.same {fr : Nat} {v : AV} {x : Value} (hr : HRel M w κ h) (hv : VRel κ v x) : Good M w κ fr v h x w :=
 ⟨κ,κ.le_refl,fun _ _ => rfl,hv,hr,Only.refl _ _,fun _ _ h => .inl h⟩
theorem Good.soft {fr f ow : Nat} {c : Con} {v : AV} {x : Value} {w' : World} (g : Good M w κ fr v (upd h f (some ⟨c,true,ow⟩)) x w') : Good M w κ fr v (upd h f (some ⟨c,false,0⟩)) x w' := by
 obtain ⟨κ',k1,k2,k3,k4,k5⟩ := g
 have k := k4.wk (i := f) (b := ⟨c,true,ow⟩) (b' := ⟨c,false,0⟩) (by simp [upd]) (fun o a h => h) rfl rfl (fun _ => rfl)
 have e : upd (upd h f (some ⟨c,true,ow⟩)) f (some ⟨c,false,0⟩) = upd h f (some ⟨c,false,0⟩) := by
  funext i
  unfold upd
  split <;> rfl
 exact ⟨κ',k1,k2,k3,e ▸ k,k5⟩
theorem Good.kept {fr : Nat} {v : AV} {x : Value} {h' : H} {w' : World} (hv : VRel κ v x) (hr : HRel M w' κ h') (ho : Only M w w') : Good M w κ fr v h' x w' :=
 ⟨κ,κ.le_refl,fun _ _ => rfl,hv,hr,ho,fun _ _ h => .inl h⟩
theorem HRel.over (r : HRel M w κ h) {i : Nat} {b : ABlk} {B O p : Nat} {c : Con} {cs : List AV} {vs : List Value} (hi : h i = some b) (hw : b.wr = true) (hρ : κ.ρ i = some (B,O))
  (hr : WriteR b.con c p cs) (hv : VRels κ cs vs) (h1 : ∀ v ∈ vs,v.oneCell' = true) (hnm : c.isMap = false := by first | rfl | assumption) :
  ∃ w',(storeCells ⟨B,O + p,none⟩ vs).run P w = .ok () w'/\HRel M w' κ (upd h i (some ⟨c,true,b.own⟩))/\Only M w w' := by
 have hlen := hv.length
 cases cs with
 | nil =>
  simp only [VRels] at hv
  subst hv
  refine ⟨w,rfl,?_,Only.refl _ _⟩
  have := r.less hi (c := c) (fun o a hoa => hr.out o a (by simp; omega) hoa) (fun ho => by rw [hr.len]; exact (r.own i b B O hi ho hρ).2.1) (fun h => by rw [hnm] at h; cases h)
  rwa [hw] at this
 | cons a0 cs =>
  have hlive : LiveB κ i b := by
   obtain ⟨a',ha'⟩ := hr.ex 0 (by simp)
   exact .inl ⟨_,_,ha'⟩
  have hex : ∀ j,j < vs.length->(∃ x',w.cell? ⟨B,O + p + j,none⟩ = some x')/\w.frozen? ⟨B,O + p + j,none⟩ = false := by
   intro j hj
   obtain ⟨a,ha⟩ := hr.ex j (by omega)
   obtain ⟨⟨y,hy,_⟩,hf⟩ := r.cells hi hρ ha
   rw [<- Nat.add_assoc] at hy hf
   exact ⟨⟨y,hy⟩,hf hw⟩
  have hset := r.sets (c := c) (vs := vs) (p := p) hi hw hρ hlive (fun ho => by rw [hr.len]; exact (r.own i b B O hi ho hρ).2.1) hex
   (fun j a hj hat => hv.get (hr.inn j a (by omega) hat))
   (fun o a hoo hat => hr.out o a (by omega) hat) hnm
  refine ⟨_,?_,hset⟩
  have := run_sets (P := P) B vs w (O + p) 0 (fun j hj => by simpa using hex j hj) h1
  simpa using this
theorem dI {s : List (BitVec 8)} : ∀ (l : List AV) (j : Nat) (q : List AV),jG s j l = some q->q.length = l.length/\∀ (i : Nat) a,q[i]? = some a->if j + i < s.length then a = .u8 (s.getD (j + i) 0) else l[i]? = some a
 | [],j,q,h => by
  simp [jG] at h
  subst h
  exact ⟨rfl,fun i a hi => by simp at hi⟩
 | x::l,j,q,h => by
  cases x <;> simp only [jG,reduceCtorEq,Option.map_eq_some_iff] at h
  case u8 b =>
   obtain ⟨r,hr,rfl⟩ := h
   obtain ⟨h1,h2⟩ := dI l (j + 1) r hr
   refine ⟨by simp [h1],?_⟩
   intro i a hi
   cases i with
   | zero =>
    simp only [List.getElem?_cons_zero,Option.some.injEq] at hi
    subst hi
    simp only [Nat.add_zero]
    split
    ·rfl
    ·simp
   | succ i =>
    have := h2 i a (by simpa using hi)
    rw [show j + 1 + i = j + (i + 1) by omega] at this
    simpa using this
theorem oC {s : List (BitVec 8)} {b c : Con} {o n : Nat} (hb : (∃ l,b = .bytes l/\o + n<=l.length/\c = .bytes (l.take o++(s.take n++l.drop (o + min s.length n)))) \/
   (∃ l q,b = .cells l/\o + n<=l.length/\jG s 0 ((l.drop o).take n) = some q/\c = .cells (l.take o++q++l.drop (o + n)))) :
  WriteR b c o ((s.take n).map AV.u8) := by
 have hm : ((s.take n).map AV.u8).length = min s.length n := by simp [Nat.min_comm]
 rcases hb with ⟨l,rfl,hle,rfl⟩ | ⟨l,q,rfl,hle,hq,rfl⟩
 ·have hget : ∀ k,(l.take o++(s.take n++l.drop (o + min s.length n)))[k]? = if k < o then l[k]? else if k < o + min s.length n then s[k - o]? else l[k]? := by
   intro k
   have h1 : (l.take o).length = o := by simp; omega
   have h2 : (s.take n).length = min s.length n := by simp [Nat.min_comm]
   rw [List.getElem?_append,List.getElem?_append,h1,h2]
   split
   ·rename_i hk; rw [List.getElem?_take,if_pos hk]
   ·split
    ·rw [if_pos (by omega),List.getElem?_take,if_pos (by omega)]
    ·rw [if_neg (by omega),List.getElem?_drop]
     congr 1; omega
  refine ⟨?_,?_,?_,?_⟩
  ·intro j hj
   rw [hm] at hj
   exact ⟨.u8 l[o + j],by simp [Con.at,show o + j < l.length by omega]⟩
  ·simp [Con.len]; omega
  ·intro j a hj hat
   rw [hm] at hj
   simp only [Con.at] at hat
   rw [hget,if_neg (by omega),if_pos (by omega),Nat.add_sub_cancel_left] at hat
   rw [List.getElem?_map,List.getElem?_take,if_pos (by omega)]
   exact hat
  ·intro k a hk hat
   rw [hm] at hk
   simp only [Con.at] at hat ⊢
   rw [hget] at hat
   split at hat
   ·exact hat
   ·rw [if_neg (by omega)] at hat; exact hat
 ·obtain ⟨hql,hqa⟩ := dI _ _ _ hq
  have hqn : q.length = n := by rw [hql]; simp; omega
  have hget : ∀ k,(l.take o++q++l.drop (o + n))[k]? = if k < o then l[k]? else if k < o + n then q[k - o]? else l[k]? := by
   intro k
   have h1 : (l.take o).length = o := by simp; omega
   rw [List.append_assoc,List.getElem?_append,List.getElem?_append,h1,hqn]
   split
   ·rename_i hk; rw [List.getElem?_take,if_pos hk]
   ·split
    ·rw [if_pos (by omega)]
    ·rw [if_neg (by omega),List.getElem?_drop]
     congr 1; omega
  refine ⟨?_,?_,?_,?_⟩
  ·intro j hj
   rw [hm] at hj
   exact ⟨l[o + j],by simp [Con.at,show o + j < l.length by omega]⟩
  ·simp [Con.len,hqn]; omega
  ·intro j a hj hat
   rw [hm] at hj
   simp only [Con.at] at hat
   rw [hget,if_neg (by omega),if_pos (by omega),Nat.add_sub_cancel_left] at hat
   have := hqa j a hat
   rw [Nat.zero_add,if_pos (by omega)] at this
   subst this
   rw [List.getElem?_map,List.getElem?_take,if_pos (by omega)]
   simp [List.getD,show j < s.length by omega]
  ·intro k a hk hat
   rw [hm] at hk
   simp only [Con.at] at hat ⊢
   rw [hget] at hat
   split at hat
   ·exact hat
   ·split at hat
    ·have := hqa (k - o) a hat
     rw [Nat.zero_add,if_neg (by omega),List.getElem?_take,if_pos (by omega),List.getElem?_drop] at this
     rwa [show o + (k - o) = k by omega] at this
    ·exact hat
theorem n1x {b c : Con} {sz n : Nat} {ob : List Prop} (h : b.cutN sz n = some (ob,c)) (ho : zP ob) : (∀ o a,c.at o = some a->b.at o = some a)/\c.len<=b.len := by
 unfold Con.cutN at h
 split at h
 ·split at h
  ·simp only [Option.some.injEq,Prod.mk.injEq] at h
   obtain ⟨rfl,rfl⟩ := h
   refine ⟨fun o a ha => ?_,by simp [Con.len]; omega⟩
   simp only [Con.at,List.getElem?_take] at ha ⊢
   split at ha
   ·exact ha
   ·simp at ha
  ·cases h
 ·rename_i sz' n' g
  split at h
  ·rename_i hs
   subst hs
   simp only [Option.some.injEq,Prod.mk.injEq] at h
   obtain ⟨rfl,rfl⟩ := h
   have hn := zA.1 ho
   have hm : n * sz<=n' * sz := Nat.mul_le_mul_right _ hn
   refine ⟨fun o a ha => ?_,hm⟩
   simp only [Con.at] at ha ⊢
   split at ha
   ·rw [if_pos (by omega)]; exact ha
   ·cases ha
  ·cases h
 ·split at h
  ·simp only [Option.some.injEq,Prod.mk.injEq] at h
   obtain ⟨rfl,rfl⟩ := h
   refine ⟨fun o a ha => ?_,by simp [Con.len]; omega⟩
   simp only [Con.at,List.getElem?_take] at ha ⊢
   split at ha
   ·exact ha
   ·cases ha
  ·cases h
 ·cases h
theorem OpPost.weak8 {P : Program} {w : World} {A B : Value->World->Prop} (h : ∀ x w',A x w'->B x w') {r : Result Next} (hr : OpPost P w A r) : OpPost P w B r := by
 cases r with
 | ok n w' =>
  cases n with
  | value x => exact h _ _ hr
  | skip => exact h _ _ hr
  | enter f args => exact ⟨hr.1,hr.2.mono fun e w'' ⟨x,h1,h2⟩ => ⟨x,h1,h _ _ h2⟩⟩
  | _ => exact hr
 | halt x w' => exact hr
theorem c0v {b c : Con} {sz x : Nat} {ob : List Prop} (hsz : 0 < sz) (hc : b.dropC sz x = some (ob,c)) (ho : zP ob) : (∀ o a,c.at o = some a->b.at (x * sz + o) = some a)/\c.len<=b.len - x * sz := by
 unfold Con.dropC at hc
 split at hc
 ·split at hc
  ·rename_i l hs
   subst hs
   simp only [Option.some.injEq,Prod.mk.injEq] at hc
   obtain ⟨rfl,rfl⟩ := hc
   refine ⟨fun o a ha => ?_,by simp [Con.len]⟩
   simp only [Con.at,List.getElem?_drop,Nat.mul_one] at ha ⊢
   exact ha
  ·cases hc
 ·split at hc
  ·rename_i sz' n' g hs
   subst hs
   simp only [Option.some.injEq,Prod.mk.injEq] at hc
   obtain ⟨rfl,rfl⟩ := hc
   have hx := zA.1 ho
   refine ⟨fun o a ha => ?_,by simp only [Con.len,kH,Nat.sub_mul]; omega⟩
   simp only [Con.at,kH,uE] at ha ⊢
   split at ha
   ·rename_i hlt
    rw [Nat.sub_mul] at hlt
    rw [if_pos (by omega),Nat.mul_comm x sz,Nat.mul_add_div hsz,Nat.mul_add_mod]
    exact ha
   ·cases ha
  ·cases hc
 ·split at hc
  ·rename_i l hs
   simp only [Option.some.injEq,Prod.mk.injEq] at hc
   obtain ⟨rfl,rfl⟩ := hc
   refine ⟨fun o a ha => ?_,by simp [Con.len]⟩
   simpa only [Con.at,List.getElem?_drop] using ha
  ·cases hc
 ·cases hc
theorem sD {o : Oper} {ev : Operand->Value} {as0 : Array Operand} {tys : Array TypeId} {d x : AV} {fr t t2 el : Nat} {dd : TypeDesc} {keep isInt : Bool} {hs : H} {r : R}
  (hop : o.op = .call { callee := .builtin .append,args := as0,argTypes := tys }) (ha : VRels κ [d,x] (as0.toList.map ev))
  (ht1 : tys[0]? = some t) (ht : P.underlying t = some (.slice el)) (ht2 : tys[1]? = some t2) (hd : P.underlying t2 = some dd)
  (hdd : (isInt = false/\((∃ e2,dd = .slice e2) \/ dd = .string)) \/ (isInt = true/\∃ k0,dd = .int k0))
  (hr : HRel M w κ h) (hle : hs.le h) (hM : ∀ B,w.heap.size<=B->M B) (hf : ∀ i,fr<=i->i < fr + xI->κ.ρ i = none)
  (h0 : pS P keep el isInt d x fr hs = some r) (hob : zP r.ob) :
  OpPost P w (fun z w' => Good M w κ fr r.v (h.ups r.up) z w') ((execOp ev o).run P w) := by
 unfold pS at h0
 split at h0
 ·rename_i i x0 sz n ck nl
  split at h0
  ·exact H3 hop ha ht1 ht ht2 hd hdd hr hle hM (hf fr (Nat.le_refl _) (by unfold xI; omega)) h0 hob
  ·exact jC hop ha ht1 ht ht2 hd hdd hr hle hM (hf fr (Nat.le_refl _) (by unfold xI; omega)) h0 hob
 ·rename_i i x0 sz n nl
  simp only [Option.bind_eq_some_iff,Option.map_eq_some_iff] at h0
  obtain ⟨b,hb,⟨cob,c⟩,hc,r',h0,rfl⟩ := h0
  obtain ⟨ho1,ho2⟩ := zE.1 hob
  obtain ⟨c1,c2⟩ := n1x hc ho1
  have hbh := hle i b hb
  obtain ⟨⟨B,O⟩,hρ⟩ := hr.named hbh
  have hr2 : HRel M w κ (upd h i (some ⟨c,b.wr,b.own⟩)) := hr.less hbh c1 (fun ho => Nat.le_trans c2 (hr.own i b B O hbh ho hρ).2.1) (fun h => by have h9 := q1x hc; simp only at h9; rw [h9] at h; cases h)
  have hle2 : (upd hs i (some ⟨c,b.wr,b.own⟩)).le (upd h i (some ⟨c,b.wr,b.own⟩)) := by
   intro j cc hj
   unfold upd at hj ⊢
   split
   ·rename_i he; rw [if_pos he] at hj; exact hj
   ·rename_i he; rw [if_neg he] at hj; exact hle j cc hj
  have ha2 : VRels κ [.slice i x0 sz n .ow nl,x] (as0.toList.map ev) := by
   obtain ⟨y,ys,e1,e2,e3⟩ := ha
   exact ⟨y,ys,e1,e2,e3⟩
  have key := jC hop ha2 ht1 ht ht2 hd hdd hr2 hle2 hM (hf fr (Nat.le_refl _) (by unfold xI; omega)) h0 ho2
  have hup : ∃ q rest,r'.up = (i,q)::rest := by
   simp only [nV,Option.bind_eq_some_iff] at h0
   obtain ⟨ie,_,z,_,s,_,h0⟩ := h0
   split at h0
   ·split at h0
    ·rename_i hh; cases hh
    ·rename_i hh; cases hh
    ·rename_i hh
     simp only [AV.slice.injEq] at hh
     obtain ⟨rfl,_,rfl,rfl,_,rfl⟩ := hh
     simp only [Option.bind_eq_some_iff] at h0
     obtain ⟨b2,_,h0⟩ := h0
     split at h0
     ·simp only [Option.map_eq_some_iff] at h0
      obtain ⟨c3,_,rfl⟩ := h0
      cases keep
      ·exact ⟨_,_,rfl⟩
      ·exact ⟨_,_,rfl⟩
     ·cases h0
    ·cases h0
   ·cases h0
  obtain ⟨q,rest,hup⟩ := hup
  have e : (upd h i (some ⟨c,b.wr,b.own⟩)).ups r'.up = h.ups r'.up := by
   rw [hup]
   simp only [H.ups]
   rw [jB]
  rw [e] at key
  exact key
 ·rename_i i x0 sz n nl
  simp only [Option.bind_eq_some_iff] at h0
  obtain ⟨b,hb,h0⟩ := h0
  split at h0
  ·rename_i hown
   obtain ⟨hown,hsz⟩ := hown
   subst hown
   simp only [Option.bind_eq_some_iff,Option.map_eq_some_iff] at h0
   obtain ⟨⟨cob,c⟩,hc,r',h0,rfl⟩ := h0
   obtain ⟨ho1,ho2⟩ := zE.1 hob
   obtain ⟨c1,c2⟩ := c0v hsz hc ho1
   have hbh := hle i b hb
   obtain ⟨⟨B,O⟩,hρ⟩ := hr.named hbh
   have hf1 : κ.ρ (fr + 1) = none := hf (fr + 1) (by omega) (by unfold xI; omega)
   have hf0 : κ.ρ fr = none := hf fr (Nat.le_refl _) (by unfold xI; omega)
   have hr2 := hr.shift (x := x0) hbh hρ hf1 hsz c1 c2 (h0v hc)
   have hle1 : κ.le (κ.put (fr + 1) (B,O + x0 * b.own) (κ.cap i - x0)) := Ker.le_put hf1
   have hle2 : (upd (upd hs i none) (fr + 1) (some ⟨c,b.wr,b.own⟩)).le (upd (upd h i none) (fr + 1) (some ⟨c,b.wr,b.own⟩)) := by
    intro j cc hj
    unfold upd at hj ⊢
    split
    ·rename_i he; rw [if_pos he] at hj; exact hj
    ·rename_i he
     rw [if_neg he] at hj
     split
     ·rename_i he2; rw [if_pos he2] at hj; exact hj
     ·rename_i he2; rw [if_neg he2] at hj; exact hle j cc hj
   have ha2 : VRels (κ.put (fr + 1) (B,O + x0 * b.own) (κ.cap i - x0)) [.slice (fr + 1) 0 b.own n .ow nl,x] (as0.toList.map ev) := by
    obtain ⟨y,ys,e1,⟨ad,k,h1,h2,h3,⟨h4,h4s⟩,h5⟩,e3⟩ := ha
    refine ⟨y,ys,e1,⟨ad,k,h1,h2,h3,⟨rfl,by rw [Ker.put_cap]; omega,by rw [Ker.put_self]; rfl⟩,?_⟩,VRels.mono hle1 _ _ e3⟩
    rcases h5 with ⟨B1,O1,k1,k2⟩ | h0
    ·rw [hρ] at k1
     simp only [Option.some.injEq,Prod.mk.injEq] at k1
     obtain ⟨rfl,rfl⟩ := k1
     exact .inl ⟨B,_,Ker.put_self _ _ _ _,by rw [k2,Nat.zero_mul,Nat.add_zero]⟩
    ·exact .inr h0
   have key := jC hop ha2 ht1 ht ht2 hd hdd hr2 hle2 hM (by rw [Ker.put_other κ _ _ (by omega)]; exact hf0) h0 ho2
   refine OpPost.weak8 (r := _) (hr := key) (fun z w' hg => ?_)
   obtain ⟨κ',g1,g2,g3,g4,g5,g6⟩ := hg
   refine ⟨κ',Ker.le_trans hle1 g1,fun i hi => ?_,g3,by simpa only [H.ups] using g4,g5,g6⟩
   rw [g2 i hi,Ker.put_other κ _ _ (by unfold xI at hi; omega)]
  ·cases h0
 ·exact jC hop ha ht1 ht ht2 hd hdd hr hle hM (hf fr (Nat.le_refl _) (by unfold xI; omega)) h0 hob
theorem qU {o : Oper} {ev : Operand->Value} {as0 : Array Operand} {tys : Array TypeId} {d x : AV} {fr t t2 el : Nat} {dd : TypeDesc} {keep : List String} {pos : String} {isInt : Bool} {hs : H} {r : R}
  (hop : o.op = .call { callee := .builtin .append,args := as0,argTypes := tys }) (ha : VRels κ [d,x] (as0.toList.map ev))
  (ht1 : tys[0]? = some t) (ht : P.underlying t = some (.slice el)) (ht2 : tys[1]? = some t2) (hd : P.underlying t2 = some dd)
  (hdd : (isInt = false/\((∃ e2,dd = .slice e2) \/ dd = .string)) \/ (isInt = true/\∃ k0,dd = .int k0))
  (hr : HRel M w κ h) (hle : hs.le h) (hM : ∀ B,w.heap.size<=B->M B) (hf : ∀ i,fr<=i->i < fr + xI->κ.ρ i = none)
  (h0 : hZ P keep pos el isInt d x fr hs = some r) (hob : zP r.ob) :
  OpPost P w (fun z w' => Good M w κ fr r.v (h.ups r.up) z w') ((execOp ev o).run P w) := by
 unfold hZ at h0
 split at h0
 ·exact H4 hop ha ht1 ht ht2 hd hdd hr hle hM (hf fr (Nat.le_refl _) (by unfold xI; omega)) h0 hob
 ·exact sD hop ha ht1 ht ht2 hd hdd hr hle hM hf h0 hob
theorem m1x {e : TypeId} {cs : List AV} : (∀ off,(fX P e cs).at off = cs[off]?)/\(fX P e cs).len = cs.length := by
 unfold fX
 split
 ·split
  ·rename_i l hl
   have := vR hl
   subst this
   exact ⟨fun off => by simp [Con.at],by simp [Con.len]⟩
  ·exact ⟨fun _ => rfl,rfl⟩
 ·exact ⟨fun _ => rfl,rfl⟩
theorem b0v {e : TypeId} {cs : List AV} : (fX P e cs).isMap = false := by
 unfold fX
 split
 ·split <;> rfl
 ·rfl
theorem lH {e : TypeId} {lo : Operand} {l sz : Nat} {z : List AV} : (qD P e lo l sz z).isMap = false := by
 unfold qD
 split
 ·rfl
 ·split <;> rfl
theorem a0v {raw : Bool} {e : TypeId} {lo : Operand} {l sz : Nat} {z : List AV} : (makeConK P raw e lo l sz z).isMap = false := by
 unfold makeConK
 split
 ·split
  ·split
   ·rfl
   ·exact lH
  ·exact lH
 ·exact lH
theorem nY {o : Oper} {args : List AV} {ev : Operand->Value} {fr : Nat} {hs : H} {r : R} (hevc : ∀ v,ev (.const v) = v) (hargs : VRels κ args (o.op.operands.toList.map ev))
  (hΓ : COKs P gl Γ) (hG : GW gl w) (hMG : sC gl M)
  (hr : HRel M w κ h) (hle : hs.le h) (hM : ∀ B,w.heap.size<=B->M B) (hf : ∀ i,fr<=i->i < fr + xI->κ.ρ i = none) (hgr : ∀ g,κ.ρ (GB + g) = some (g,0)) (hfb : fr + xI<=GB)
  (h0 : (nI P Γ o args fr hs).sel = some r) (hob : zP r.ob) :
  OpPost P w (fun x w' => Good M w κ fr r.v (h.ups r.up) x w') ((execOp ev o).run P w) := by
 have hfr0 : κ.ρ fr = none := hf fr (Nat.le_refl _) (by unfold xI; omega)
 have selR : ∀ {q : Option R},(T.ofR q).sel = some r->q = some r := by
  intro q hq
  cases q with
  | none => simp [T.ofR,T.sel] at hq
  | some q => simpa [T.ofR,T.sel] using hq
 unfold nI at h0
 split at h0
 ·-- pick
  rename_i e c0 a0 b0 c a b hop
  rw [hop] at hargs
  obtain ⟨x,y,z,hy,h1,h2,h3⟩ := hargs.three
  simp [Op.operands] at hy
  obtain ⟨rfl,rfl,rfl⟩ := hy
  simp only [VRel] at h1
  cases c
  ·simp only [T.sel,Option.some.injEq] at h0
   subst h0
   have : (execOp ev o).run P w = .ok (.value (ev b0)) w := by simp [execOp,hop,h1,asBool]
   rw [this]
   exact Good.same hr h3
  ·simp only [T.sel,Option.some.injEq] at h0
   subst h0
   have : (execOp ev o).run P w = .ok (.value (ev a0)) w := by simp [execOp,hop,h1,asBool]
   rw [this]
   exact Good.same hr h2
 ·-- alloc
  rename_i e args0 el hop
  replace h0 := selR h0
  simp only [Option.map_eq_some_iff] at h0
  obtain ⟨z,hz,rfl⟩ := h0
  obtain ⟨i,zv,hi,hzv,hrel⟩ := xA (κ := κ) hz
  have hrun : (execOp ev o).run P w = .ok (.value (.pointer (some ⟨w.heap.size,0,none⟩))) (w.alloc (.cells zv.cells el)) := by
   simp only [execOp,hop,Instr.alloc,Sem.run_bind,zeroValue,typeInfo,run_program,Result.andThen_ok,hi,Sem.run_pure,hzv,newVar,xL]
  rw [hrun]
  exact vV (R := 0) (fz := (0,0)) hr hf hM (fun h => by simp at h) (fun off a ha => by
   obtain ⟨x,hx,hv⟩ := hrel.get ha
   exact ⟨x,by simpa using hx,hv⟩) (.inl rfl) ⟨_,0,Ker.put_self _ _ _ _,rfl⟩
 ·-- box
  rename_i e el x0 a hop
  replace h0 := selR h0
  simp only [Option.map_eq_some_iff] at h0
  obtain ⟨cs,hcs,rfl⟩ := h0
  rw [hop] at hargs
  obtain ⟨y,hy,hrel⟩ := hargs.one
  simp [Op.operands] at hy
  subst hy
  have hc := (hrel.cells hcs).1
  have hrun : (execOp ev o).run P w = .ok (.value (.pointer (some ⟨w.heap.size,0,none⟩))) (w.alloc (.cells (ev x0).cells el)) := by
   simp only [execOp,hop,Instr.box,Sem.run_bind,newVar,xL,Result.andThen_ok,Sem.run_pure]
  rw [hrun]
  exact vV (R := 0) (fz := (0,0)) hr hf hM (fun h => by simp at h) (fun off a ha => by
   obtain ⟨x,hx,hv⟩ := hc.get ha
   exact ⟨x,by simpa using hx,hv⟩) (.inl rfl) ⟨_,0,Ker.put_self _ _ _ _,rfl⟩
 ·-- buildSlice
  rename_i args e args0 t len parts hop
  rw [hop] at hargs
  replace h0 := selR h0
  have ha : VRels κ args ((parts.toList.map (·.2)).map ev) := by simpa [Op.operands] using hargs
  have hl : args.length = parts.toList.length := by simpa using ha.length
  split at h0
  ·rename_i el ht
   simp only [Option.bind_eq_some_iff] at h0
   obtain ⟨ie,hi,z,hz,h0⟩ := h0
   split at h0
   ·rename_i hcnd
    simp only [Option.map_eq_some_iff] at h0
    obtain ⟨cs,hcs,rfl⟩ := h0
    obtain ⟨i,zv,hi',hzv,hrel⟩ := xA (κ := κ) hz
    rw [hi] at hi'
    simp only [Option.some.injEq] at hi'
    subst hi'
    have e1 : ((parts.toList.map (·.1)).zip args).map (·.1) = ((parts.map fun (i,x) => (i,ev x)).toList).map (·.1) := by
     rw [List.map_fst_zip (by simp [hl])]
     simp [List.map_map,Function.comp_def]
    have e2 : VRels κ (((parts.toList.map (·.1)).zip args).map (·.2)) (((parts.map fun (i,x) => (i,ev x)).toList).map (·.2)) := by
     rw [List.map_snd_zip (by simp [hl])]
     simpa [List.map_map,Function.comp_def] using ha
    obtain ⟨rs,hfill,hrs⟩ := bL _ _ _ _ _ _ e1 e2 (nW hrel (len * ie.size)) hcs
    have hrun : (execOp ev o).run P w = .ok (.value (.slice (some ⟨w.heap.size,0,none⟩) len len)) (w.alloc (.cells rs el)) := by
     simp only [execOp,hop,Sem.run_bind,pZ (w := w) ht hi hzv hcnd.1 hfill,Result.andThen_ok,Sem.run_pure]
    rw [hrun]
    have hcl := y0j _ _ _ _ hcs
    have hz1 : (xH z (len * ie.size)).length = len * ie.size := by simp [xH]
    have hl2 := hrs.length
    simp only [Array.length_toList] at hl2
    obtain ⟨hat,hlen⟩ := m1x (P := P) (e := el) (cs := cs)
    cases hfl : sX cs with
    | true =>
     simp only
     exact vV (R := len) (fz := (0,0)) hr hf hM (fun _ => ⟨by rw [hlen]; omega,by omega⟩) (fun off a hoa => by
      rw [hat] at hoa
      obtain ⟨x,hx,hv⟩ := hrs.get hoa
      exact ⟨x,by simpa using hx,hv⟩) (.inl rfl)
      ⟨_,_,rfl,Nat.le_refl _,rfl,⟨rfl,by rw [Ker.put_cap],by rw [Ker.put_self]; rfl⟩,.inl ⟨_,0,Ker.put_self _ _ _ _,by simp⟩⟩ b0v
    | false =>
     simp only
     exact Good.soft (ow := ie.size) (vV (R := len) (fz := (0,0)) hr hf hM (fun _ => ⟨by rw [hlen]; omega,by omega⟩) (fun off a hoa => by
      rw [hat] at hoa
      obtain ⟨x,hx,hv⟩ := hrs.get hoa
      exact ⟨x,by simpa using hx,hv⟩) (.inl rfl)
      ⟨_,_,rfl,Nat.le_refl _,rfl,rfl,.inl ⟨_,0,Ker.put_self _ _ _ _,by simp⟩⟩ b0v)
   ·cases h0
  ·cases h0
 ·-- load
  rename_i e t x0 i x sz c hop
  rw [hop] at hargs
  obtain ⟨y,hy,hrel⟩ := hargs.one
  simp [Op.operands] at hy
  subst hy
  replace h0 := selR h0
  simp only [Option.bind_eq_some_iff] at h0
  obtain ⟨b,hb,h0⟩ := h0
  have hb' := hle i b hb
  obtain ⟨B,O,hρ,hv⟩ := hrel
  split at h0
  ·rename_i inf hag hi
   simp only [Option.map_eq_some_iff] at h0
   obtain ⟨⟨ob,q⟩,hq,rfl⟩ := h0
   obtain ⟨xs,h1,h2,h3⟩ := nJ hr hb' hρ hq hob
   have hlc := wC (P := P) (w := w) (B := B) (O := O + (x * sz + c)) (vs := xs) (fun j y hy => by rw [Addr.add_at]; exact h3 j y hy)
   rw [h2] at hlc
   have hrun : (execOp ev o).run P w = .ok (.value (.agg xs.toArray)) w := by
    simp [execOp,hop,hv,Instr.loadAt,Instr.sureAddr,loadVar,xK hag,zO hi,hlc]
   rw [hrun]
   exact Good.same hr ⟨_,rfl,by simpa using h1⟩
  ·rename_i hag
   simp only [Option.bind_eq_some_iff] at h0
   obtain ⟨⟨ob,q⟩,hq,h0⟩ := h0
   split at h0
   ·rename_i a hqa
    simp only at hqa
    subst hqa
    simp only [Option.some.injEq] at h0
    subst h0
    obtain ⟨xs,h1,h2,h3⟩ := nJ hr hb' hρ hq hob
    obtain ⟨z,rfl,hz⟩ := h1.one
    have := h3 0 z rfl
    have hrun : (execOp ev o).run P w = .ok (.value z) w := by
     simp only [Nat.add_zero] at this
     simp [execOp,hop,hv,Instr.loadAt,Instr.sureAddr,loadVar,xK hag,this]
    rw [hrun]
    exact Good.same hr hz
   ·cases h0
  ·cases h0
 ·-- store
  rename_i e t x0 y0 i x sz c a hop
  rw [hop] at hargs
  obtain ⟨xv,yv,hy,h1,h2⟩ := hargs.two
  simp [Op.operands] at hy
  obtain ⟨rfl,rfl⟩ := hy
  replace h0 := selR h0
  split at h0
  ·rename_i inf hcs hi
   split at h0
   ·rename_i hsz0
    simp only [Option.map_eq_some_iff] at h0
    obtain ⟨b,hb,rfl⟩ := h0
    obtain ⟨B,O,hρ,hv⟩ := h1
    obtain ⟨hc1,_⟩ := h2.cells hcs
    have hnil : (ev y0).cells = #[] := by
     simp only [VRels] at hc1
     exact Array.toList_inj.1 (by simpa using hc1)
    have hrun' : (execOp ev o).run P w = .ok .skip w := by
     simp only [execOp,hop,hv,Instr.storeAt,Instr.sureAddr,storeVar,Sem.run_bind,Sem.run_pure,Result.andThen_ok,zO hi]
     rw [if_neg (by rw [hnil,hsz0]; simp)]
     rw [hnil]
     rfl
    rw [hrun']
    simp only [H.ups]
    rw [l7 _ _ _ (hle i b hb)]
    exact Good.same hr trivial
   ·cases h0
  ·rename_i cs inf hnc hcs hi
   split at h0
   ·rename_i hl
    obtain ⟨hl,hne,hall⟩ := hl
    simp only [Option.bind_eq_some_iff] at h0
    obtain ⟨b,hb,h0⟩ := h0
    split at h0
    ·rename_i hwr
     simp only [Option.map_eq_some_iff] at h0
     obtain ⟨⟨ob,c'⟩,hc,rfl⟩ := h0
     obtain ⟨B,O,hρ,hv⟩ := h1
     obtain ⟨hc1,hc2⟩ := h2.cells hcs
     obtain ⟨w',hrun,hr',ho⟩ := hr.store (P := P) (hle i b hb) hwr hρ hc hob hne hc1 hc2
     have hsz : (ev y0).cells.size = inf.size := by
      have := hc1.length
      simp at this
      omega
     have hrun' : (execOp ev o).run P w = .ok .skip w' := by
      simp only [execOp,hop,hv,Instr.storeAt,Instr.sureAddr,storeVar,Sem.run_bind,Sem.run_pure,Result.andThen_ok,zO hi]
      rw [if_neg (by simp; omega)]
      rw [hrun]
      rfl
     rw [hrun']
     exact Good.kept trivial hr' ho
    ·cases h0
   ·cases h0
  ·cases h0
 ·-- convert
  rename_i e src dst x0 a hop
  rw [hop] at hargs
  obtain ⟨y,hy,hrel⟩ := hargs.one
  simp [Op.operands] at hy
  subst hy
  replace h0 := selR h0
  split at h0
  ·rename_i el hs' hd
   split at h0
   ·rename_i hby
    have hu := cO hby
    simp only [Option.bind_eq_some_iff] at h0
    obtain ⟨⟨ob,l⟩,hsb,h0⟩ := h0
    split at h0
    ·cases h0
    ·rename_i hns
     simp only [Option.some.injEq] at h0
     subst h0
     have hrd := uF (hr.le hle) hsb hob hrel
     have hsl : ∃ ad n k,ev x0 = .slice ad n k := by
      unfold yX at hsb
      split at hsb
      ·obtain ⟨ad,k,hv,_⟩ := hrel; exact ⟨_,_,_,hv⟩
      ·exact absurd rfl (hns _)
      ·simp only [VRel] at hrel; exact ⟨_,_,_,hrel⟩
      ·obtain ⟨ad,k,hv,_⟩ := hrel; exact ⟨_,_,_,hv⟩
      ·cases hsb
     have hrun := tX (P := P) hrd hsl
     have hrun' : (execOp ev o).run P w = .ok (.value (.string (zM l))) w := by
      obtain ⟨ad,n,k,hv⟩ := hsl
      rw [hv] at hrun
      simp only [execOp,hop,hv,convert,Sem.run_bind,run_underlying hs',run_underlying hd,run_underlying hu,hrun,Result.andThen_ok,Sem.run_pure]
     rw [hrun']
     exact Good.same hr rfl
   ·cases h0
  ·rename_i el hs' hd
   split at h0
   ·rename_i l
    split at h0
    ·rename_i hby
     have hu := cO hby
     simp only [Option.some.injEq] at h0
     subst h0
     obtain ⟨c,w',hrun,hw'⟩ := r8 (P := P) (w := w) el (zM l)
     simp only [VRel] at hrel
     have hrun' : (execOp ev o).run P w = .ok (.value (.slice (some ⟨w.heap.size,0,none⟩) (zM l).size ((zM l).size + c))) w' := by
      simp only [execOp,hop,hrel,convert,Sem.run_bind,run_underlying hs',run_underlying hd,run_underlying hu,hrun,Result.andThen_ok,Sem.run_pure]
     rw [hrun',hw',wN]
     have hsz : (((zM l).data.map fun (b : UInt8) => Value.int .u8 (b.toNat : Int))++Array.replicate c (Value.int .u8 0)).size = l.length + c := by
      rw [Array.size_append,Array.size_map,Array.size_replicate]; simp [zM]
     have hg := vV (M := M) (w := w.drew) (h := h) (fr := fr) (e := el) (cs := ((zM l).data.map fun (b : UInt8) => Value.int .u8 (b.toNat : Int))++Array.replicate c (Value.int .u8 0)) (R := l.length + c) (ow := 1) (fz := (l.length + c,l.length + c + 1)) (c := .bytes l)
      (v := .slice fr 0 1 l.length .ow (.is false)) (x := .slice (some ⟨w.heap.size,0,none⟩) l.length (l.length + c)) hr.drawn hf hM (fun _ => ⟨by simp [Con.len],by rw [hsz]; omega⟩)
      (by
       intro off a hat
       simp only [Con.at,Option.map_eq_some_iff] at hat
       obtain ⟨b,hb,rfl⟩ := hat
       have hlt := (List.getElem?_eq_some_iff.1 hb).1
       refine ⟨.int .u8 b.toNat,?_,rfl⟩
       rw [Array.getElem?_append_left (by simpa [zM] using hlt)]
       simp only [zM,Array.getElem?_map,List.getElem?_toArray,List.getElem?_map,hb,Option.map_some]
       rfl)
      (.inr (by rw [hsz]; exact Nat.le_refl _))
      ⟨_,_,rfl,by omega,rfl,⟨rfl,by rw [Ker.put_cap],by rw [Ker.put_self]; rfl⟩,.inl ⟨_,0,Ker.put_self _ _ _ _,by simp⟩⟩
     obtain ⟨g1,g2,g3,g4,g5,g6,g7⟩ := hg
     exact ⟨g1,g2,g3,g4,g5,(Only.drew M w).trans g6,g7⟩
    ·cases h0
   ·cases h0
  ·rename_i el el2 hs' hd
   split at h0
   ·rename_i i x sz n c nl
    split at h0
    ·rename_i hc
     obtain ⟨hby,hsd⟩ := hc
     subst hsd
     have hu := cO hby
     simp only [Option.bind_eq_some_iff] at h0
     obtain ⟨b,hb,h0⟩ := h0
     split at h0
     ·rename_i hwr
      split at h0
      ·rename_i l hcon
       simp only [Option.some.injEq] at h0
       subst h0
       obtain ⟨hn,hl⟩ := zJ.1 hob
       have hl := zA.1 hl
       have hrel' := hrel
       obtain ⟨ad,k,hv,hnk,hnl,_,hloc⟩ := hrel
       rcases hloc with ⟨B,O,hρ,rfl⟩ | ⟨hc0,_⟩
       ·obtain ⟨B1,O1,e1,e2,e3⟩ := hr.blk i b (hle i b hb)
        rw [hρ] at e1
        simp only [Option.some.injEq,Prod.mk.injEq] at e1
        obtain ⟨rfl,rfl⟩ := e1
        have hlive : LiveB κ i b := .inl ⟨0,.u8 l[0],by rw [hcon]; simp [Con.at,hl]⟩
        obtain ⟨c2,t,lo,hi,hblk,hlh⟩ := (e2 hwr hlive).2.2.1
        obtain ⟨hr2,ho2⟩ := hr.mark (e2 hwr hlive).1 hlh hblk
        have hrun' : (execOp ev o).run P w = .ok (.value (ev x0)) (w.freeze ⟨B,c2.size,none⟩ 1) := by
         have hsh : w.shape? B = some (t,c2.size) := by simp only [World.shape?,hblk]
         rw [hs'] at hd
         simp only [Option.some.injEq,TypeDesc.slice.injEq] at hd
         subst hd
         simp [execOp,hop,hv,convert,run_underlying hs',run_underlying hu,markStringish,hsh]
        rw [hrun']
        exact ⟨κ,κ.le_refl,fun _ _ => rfl,hrel',hr2,ho2,fun _ _ h => .inl h⟩
       ·omega
      ·cases h0
     ·cases h0
    ·cases h0
   ·cases h0
  ·cases h0
 ·-- makeSlice
  rename_i e t lo co l c hop
  rw [hop] at hargs
  obtain ⟨xv,yv,hy,h1,h2⟩ := hargs.two
  simp [Op.operands] at hy
  obtain ⟨rfl,rfl⟩ := hy
  replace h0 := selR h0
  split at h0
  ·rename_i el l' c' ht hl hc
   obtain ⟨ol,ln⟩ := l'
   obtain ⟨oc,cn⟩ := c'
   simp only [Option.bind_eq_some_iff] at h0
   obtain ⟨ie,hi,z,hz,h0⟩ := h0
   split at h0
   ·rename_i hcnd
    obtain ⟨hsz,hzl⟩ := hcnd
    simp only [Option.some.injEq] at h0
    subst h0
    simp only at hob
    obtain ⟨hob12,hob3⟩ := zE.1 hob
    obtain ⟨hob1,hob2⟩ := zE.1 hob12
    obtain ⟨k1,hob3⟩ := zJ.1 hob3
    obtain ⟨k2,hob3⟩ := zJ.1 hob3
    have k3 := zA.1 hob3
    obtain ⟨i,zv,hi',hzv,hrel⟩ := xA (κ := κ) hz
    rw [hi] at hi'
    simp only [Option.some.injEq] at hi'
    subst hi'
    obtain ⟨kk,hk⟩ := yT h1 (fun v hv => by rw [hv,hevc]) hl hob1
    obtain ⟨kk',hk'⟩ := yT h2 (fun v hv => by rw [hv,hevc]) hc hob2
    have hrun : (execOp ev o).run P w = .ok (.value (.slice (some ⟨w.heap.size,0,none⟩) ln cn)) (w.alloc (.cells ((Array.range (cn * ie.size)).map (zv.cells[· % zv.cells.size]!)) el)) := by
     simp only [execOp,hop,hk,hk',Sem.run_bind,tZ (w := w) ht hi hzv k1 k2 k3,Result.andThen_ok,Sem.run_pure]
    rw [hrun]
    have hmul : ln * ie.size<=cn * ie.size := Nat.mul_le_mul_right _ k1
    have hzs : zv.cells.size = ie.size := by rw [<- hzl,hrel.length]; simp
    have hcs : (Builtin.zeroCells zv.cells cn) = ((Array.range (cn * ie.size)).map (zv.cells[· % zv.cells.size]!)) := by
     simp only [Builtin.zeroCells,hzs]
    have key : (qD P el lo ln ie.size z).len = ln * ie.size/\∀ (off : Nat) a,(qD P el lo ln ie.size z).at off = some a->∃ x,((Array.range (cn * ie.size)).map (zv.cells[· % zv.cells.size]!))[off]? = some x/\VRel κ a x := by
     unfold qD
     split
     ·rename_i hby
      have hz1 : ie.size = 1 := by
       simp only [dF,Bool.and_eq_true,hz] at hby
       obtain ⟨_,hby⟩ := hby
       split at hby
       ·rename_i b hzb
        simp only [Option.some.injEq] at hzb
        subst hzb
        simpa using hzl.symm
       ·cases hby
      have hb0 := bO hby hz hrel cn
      rw [hcs] at hb0
      refine ⟨by simp [Con.len,hz1],fun off a hat => ?_⟩
      simp only [Con.at,Option.map_eq_some_iff] at hat
      obtain ⟨b,hb,rfl⟩ := hat
      rw [List.getElem?_replicate] at hb
      split at hb
      ·rename_i hlt
       simp only [Option.some.injEq] at hb
       subst hb
       refine ⟨.int .u8 ((0#8).toNat : Int),?_,rfl⟩
       rw [<- Array.getElem?_toList,hb0]
       exact aM.2 ⟨0,by rw [List.getElem?_replicate,if_pos (by omega)],rfl⟩
      ·cases hb
     ·split
      ·rename_i k hck
       have : ln = k := by
        unfold p4 at hck
        split at hck
        ·simp only [Option.some.injEq] at hck
         subst hck
         simp only [vJ,Option.some.injEq,Prod.mk.injEq] at hl
         exact hl.2.symm
        ·cases hck
       subst this
       refine ⟨by simp [Con.len,xH],fun off a hat => ?_⟩
       simp only [Con.at] at hat
       have hlt : off < ln * ie.size := by have := (List.getElem?_eq_some_iff.1 hat).1; simpa [xH] using this
       have ha' : (xH z (cn * ie.size))[off]? = some a := by
        simp only [xH,List.getElem?_map,List.getElem?_range hlt,Option.map_some,Option.some.injEq] at hat
        simp only [xH,List.getElem?_map,List.getElem?_range (Nat.lt_of_lt_of_le hlt hmul),Option.map_some,Option.some.injEq]
        exact hat
       obtain ⟨x,hx,hv⟩ := (nW hrel (cn * ie.size)).get ha'
       exact ⟨x,by rw [<- Array.getElem?_toList]; exact hx,hv⟩
      ·refine ⟨rfl,fun off a hat => ?_⟩
       simp only [Con.at] at hat
       split at hat
       ·rename_i hlt
        obtain ⟨x,hx,hv⟩ := hrel.get hat
        refine ⟨x,?_,hv⟩
        have hlt2 : off < cn * ie.size := by omega
        have hx' : zv.cells[off % ie.size]? = some x := by simpa using hx
        simp [hlt2,hzs,getElem!_def,hx']
       ·cases hat
    have keyK : ∀ raw,(makeConK P raw el lo ln ie.size z).len = ln * ie.size/\∀ (off : Nat) a,(makeConK P raw el lo ln ie.size z).at off = some a->∃ x,((Array.range (cn * ie.size)).map (zv.cells[· % zv.cells.size]!))[off]? = some x/\VRel κ a x := by
     intro raw
     unfold makeConK
     split
     ·split
      ·rename_i q hq
       split
       ·rename_i hall
        have hzq := vR hq
        have hql : q.length = ie.size := by rw [<- hzl,hzq]; simp
        refine ⟨by simp [Con.len],fun off a hat => ?_⟩
        simp only [Con.at,Option.map_eq_some_iff] at hat
        obtain ⟨b,hb,rfl⟩ := hat
        rw [List.getElem?_replicate] at hb
        split at hb
        ·rename_i hlt
         simp only [Option.some.injEq] at hb
         subst hb
         have hlt2 : off < cn * ie.size := by omega
         have hm : off % ie.size < q.length := by rw [hql]; exact Nat.mod_lt _ hsz
         have hq0 : q[off % ie.size] = 0#8 := by
          have := List.all_eq_true.1 hall _ (List.getElem_mem hm)
          simpa using this
         have hz2 : z[off % ie.size]? = some (.u8 0#8) := by
          rw [hzq,List.getElem?_map,List.getElem?_eq_getElem hm,hq0]; rfl
         obtain ⟨x,hx,hv⟩ := hrel.get hz2
         refine ⟨x,?_,hv⟩
         have hx' : zv.cells[off % ie.size]? = some x := by simpa using hx
         simp [hlt2,hzs,getElem!_def,hx']
        ·cases hb
       ·exact key
      ·exact key
     ·exact key
    obtain ⟨hlen, hat⟩ := keyK (Γ.keep.contains ("#" ++ o.pos))
    exact vV (R := cn) (fz := (0,0)) hr hf hM (fun _ => ⟨by rw [hlen]; exact hmul,by simp⟩) hat (.inl rfl)
     ⟨_,_,rfl,k1,rfl,(by
      cases Γ.keep.contains o.pos
      ·exact ⟨rfl,by rw [Ker.put_cap],by rw [Ker.put_self]; rfl⟩
      ·rfl),.inl ⟨_,0,Ker.put_self _ _ _ _,by simp⟩⟩ a0v
   ·cases h0
  ·cases h0
 ·-- append
  rename_i e as0 tys d x hop
  rw [hop] at hargs
  have ha : VRels κ [d,x] (as0.toList.map ev) := by simpa [Op.operands,Call.operands] using hargs
  replace h0 := selR h0
  split at h0
  ·rename_i el e2 ht0 hd0
   simp only [Option.bind_eq_some_iff] at ht0 hd0
   obtain ⟨t,ht1,ht⟩ := ht0
   obtain ⟨t2,ht2,hd⟩ := hd0
   exact qU hop ha ht1 ht ht2 hd (.inl ⟨rfl,.inl ⟨e2,rfl⟩⟩) hr hle hM hf h0 hob
  ·rename_i el ht0 hd0
   simp only [Option.bind_eq_some_iff] at ht0 hd0
   obtain ⟨t,ht1,ht⟩ := ht0
   obtain ⟨t2,ht2,hd⟩ := hd0
   exact qU hop ha ht1 ht ht2 hd (.inl ⟨rfl,.inr rfl⟩) hr hle hM hf h0 hob
  ·rename_i el k0 ht0 hd0
   simp only [Option.bind_eq_some_iff] at ht0 hd0
   obtain ⟨t,ht1,ht⟩ := ht0
   obtain ⟨t2,ht2,hd⟩ := hd0
   exact qU hop ha ht1 ht ht2 hd (.inr ⟨rfl,k0,rfl⟩) hr hle hM hf h0 hob
  ·cases h0
 ·-- copy
  rename_i e as0 tys d x hop
  rw [hop] at hargs
  have ha : VRels κ [d,x] (as0.toList.map ev) := by simpa [Op.operands,Call.operands] using hargs
  obtain ⟨sv,y,hsy,h1,h2⟩ := ha.two
  have has : as0.map ev = #[sv,y] := by apply Array.toList_inj.1; simpa using hsy
  replace h0 := selR h0
  split at h0
  ·rename_i el ht0
   simp only [Option.bind_eq_some_iff] at ht0
   obtain ⟨t,ht1,ht⟩ := ht0
   unfold v1w at h0
   split at h0
   ·rename_i hby
    split at h0
    ·rename_i i o' n cp nl
     simp only [Option.bind_eq_some_iff] at h0
     obtain ⟨b,hb,⟨sob,s⟩,hsb,h0⟩ := h0
     split at h0
     ·rename_i hwr
      have hb' := hle i b hb
      obtain ⟨⟨B,O⟩,hρ⟩ := hr.named hb'
      -- what is written
      have key : ∃ c,r = ⟨r.ob,.int .i64 (min s.length n : Nat),[(i,some ⟨c,true,b.own⟩)]⟩/\WriteR b.con c o' ((s.take n).map AV.u8)/\zP sob/\c.isMap = false := by
       split at h0
       ·rename_i l hcon
        simp only [Option.some.injEq] at h0
        subst h0
        obtain ⟨ho1,ho2⟩ := zE.1 hob
        exact ⟨_,rfl,by rw [hcon]; exact oC (.inl ⟨l,rfl,zA.1 ho2,rfl⟩),ho1,rfl⟩
       ·rename_i l hcon
        split at h0
        ·rename_i hle'
         simp only [Option.map_eq_some_iff] at h0
         obtain ⟨q,hq,rfl⟩ := h0
         exact ⟨_,rfl,by rw [hcon]; exact oC (.inr ⟨l,q,rfl,hle',hq,rfl⟩),hob,rfl⟩
        ·cases h0
       ·cases h0
      obtain ⟨c,hrr,hwrite,hobs,hnmc⟩ := key
      have hrd := uF (hr.le hle) hsb hobs h2
      have hfirst := hrd.run_first (P := P) (m := min s.length n) (Nat.min_le_left _ _)
      rw [Nat.mul_one] at hfirst
      have hsz : ∃ ie,P.info? el = some ie/\ie.size = 1 := by
       simp only [R3,Bool.and_eq_true] at hby
       obtain ⟨_,hby⟩ := hby
       split at hby
       ·rename_i ie hi; exact ⟨ie,hi,by simpa using hby⟩
       ·cases hby
      obtain ⟨ie,hi,hi1⟩ := hsz
      have htk : (fK s).take (min s.length n) = fK (s.take n) := by
       rw [fK,fK,List.map_take]
       rcases Nat.le_total s.length n with h | h
       ·rw [Nat.min_eq_left h,List.take_of_length_le (by simp),List.take_of_length_le (by simpa using h)]
       ·rw [Nat.min_eq_right h]
      rw [htk] at hfirst
      obtain ⟨ad,k,rfl,hnk,_,_,hloc⟩ := h1
      have hst : ∃ w',(match ad with | some a => (storeCells a (fK (s.take n))).run P w | none => .ok () w) = .ok () w'/\HRel M w' κ (upd h i (some ⟨c,true,b.own⟩))/\Only M w w' := by
       obtain ⟨w',k1,k2,k3⟩ := hr.over (P := P) hb' hwr hρ hwrite (j1x (s.take n)) (R4 _)
       rcases hloc with ⟨B1,O1,e1,rfl⟩ | ⟨h0n,h0k⟩
       ·rw [hρ] at e1
        simp only [Option.some.injEq,Prod.mk.injEq] at e1
        obtain ⟨rfl,rfl⟩ := e1
        exact ⟨w',by simpa only [Nat.mul_one] using k1,k2,k3⟩
       ·subst h0n
        simp only [List.take_zero,fK,List.map_nil] at k1 ⊢
        have : w' = w := by simpa [storeCells,eq_comm] using k1
        subst this
        exact ⟨w',by cases ad <;> rfl,k2,k3⟩
      obtain ⟨w',hst,hr',ho⟩ := hst
      have hrunA : (execOp ev o).run P w = ((Builtin.copy_ tys o.type #[.slice ad n k,y]).run P w).andThen fun v w' => .ok (.value v) w' := by
       simp only [execOp,hop,resolve,Sem.run_bind,Sem.run_pure,Result.andThen_ok,invoke,builtin,has]
      have hrun' : (execOp ev o).run P w = .ok (.value (.int .i64 ((min s.length n : Nat) : Int))) w' := by
       rw [hrunA]
       cases ad with
       | none =>
        simp only [Result.ok.injEq,true_and] at hst
        subst hst
        simp only [Builtin.copy_,ht1,List.getElem?_toArray,List.getElem?_cons_zero,List.getElem?_cons_succ,Sem.run_bind,run_underlying ht,Result.andThen_ok,hrd.run_len,zO hi,hi1,Sem.run_pure,goInt]
        rw [show Nat.min s.length n = min s.length n from rfl,hfirst]
        rfl
       | some a =>
        simp only at hst
        simp only [Builtin.copy_,ht1,List.getElem?_toArray,List.getElem?_cons_zero,List.getElem?_cons_succ,Sem.run_bind,run_underlying ht,Result.andThen_ok,hrd.run_len,zO hi,hi1,Sem.run_pure,goInt]
        rw [show Nat.min s.length n = min s.length n from rfl,hfirst]
        simp only [Result.andThen_ok,hst]
      rw [hrun',hrr]
      exact Good.kept rfl hr' ho
     ·cases h0
    ·cases h0
   ·cases h0
  ·cases h0
 ·-- a call
  rename_i e fo args0 tys f first caps as hop
  rw [hop] at hargs
  split at h0
  ·rename_i F hF
   have hops : (Op.call { callee := .value fo,args := args0,argTypes := tys }).operands.toList.map ev = ev fo::args0.toList.map ev := by
    simp [Op.operands,Call.operands]
   rw [hops] at hargs
   obtain ⟨x,xs,hx,hfn,hrest⟩ := hargs
   simp only [List.cons.injEq] at hx
   obtain ⟨rfl,rfl⟩ := hx
   obtain ⟨vs,us,hv,hv1,hv2⟩ := hfn
   have hvr : VRels κ (first++as++caps) (vs++args0.map ev++us).toList := by
    simp only [Array.toList_append,Array.toList_map]
    exact (hv1.append hrest).append hv2
   rcases hΓ f F hF with ⟨hcf,hcalls⟩ | hE
   ·have hrun : (execOp ev o).run P w = .ok (.enter f (vs++args0.map ev++us)) w := by
     simp only [execOp,hop,resolve,hv,Deferred.ofValue,Sem.run_bind,Sem.run_pure,Result.andThen_ok,invoke]
     rw [hcf]
    rw [hrun]
    have hC := hcalls M w κ hs h (first++as++caps) (vs++args0.map ev++us) fr r hG hMG hr hle hM hf hgr hfb hvr h0 hob
    exact ⟨rfl,hC⟩
   ·obtain ⟨hup,v,hrunE,hrel⟩ := hE M w κ hs h (first++as++caps) (vs++args0.map ev++us) fr r hr hle hvr h0 hob
    have hrun : (execOp ev o).run P w = .ok (.value v) w := by
     simp only [execOp,hop,resolve,hv,Deferred.ofValue,Sem.run_bind,Sem.run_pure,Result.andThen_ok,invoke]
     rw [hrunE]
    rw [hrun,hup]
    exact Good.same hr hrel
  ·simp [T.sel] at h0
 ·-- a slice with three indexes
  rename_i e t x0 ho mo i x sz n c nl hv mv hop
  rw [hop] at hargs
  obtain ⟨y,ys,hy,hr1,hrest⟩ := hargs
  obtain ⟨y2,ys2,hy2,hr2,hrest2⟩ := hrest
  obtain ⟨y3,ys3,hy3,hr3,hrest3⟩ := hrest2
  simp only [VRels] at hrest3
  subst hrest3 hy3 hy2
  simp [Op.operands] at hy
  obtain ⟨rfl,rfl,rfl⟩ := hy
  replace h0 := selR h0
  split at h0
  ·rename_i el q m ht hq hm
   simp only [Option.bind_eq_some_iff] at h0
   obtain ⟨inf,hi,h0⟩ := h0
   split at h0
   ·rename_i hsz
    subst hsz
    simp only [Option.some.injEq] at h0
    subst h0
    obtain ⟨qob,qn⟩ := q
    obtain ⟨mob,mn⟩ := m
    obtain ⟨ho12,ho3⟩ := zE.1 hob
    obtain ⟨ho1,ho2⟩ := zE.1 ho12
    obtain ⟨hqm,hmn⟩ := zJ.1 ho3
    have hmn := zA.1 hmn
    dsimp only at hqm hmn
    obtain ⟨k1,hk1⟩ := yT hr2 (fun v hv => by rw [hv,hevc]) hq ho1
    obtain ⟨k2,hk2⟩ := yT hr3 (fun v hv => by rw [hv,hevc]) hm ho2
    obtain ⟨a,k,hv1,hnk,hnl,hcap,hloc⟩ := hr1
    have hb : (Instr.sliceBounds true n k none (some (ev ho)) (some (ev mo))).run P w = .ok (0,qn,mn) w := by
     simp [Instr.sliceBounds,wB (P := P) (w := w) hk2 (show mn<=k by omega),wB (P := P) (w := w) hk1 hqm]
    have hadd : (if mn = 0 then a else a.map (·.add (0 * inf.size))) = a := by
     split
     ·rfl
     ·rcases hloc with ⟨B,O,_,rfl⟩ | ⟨h00,_⟩
      ·simp [Addr.add_at]
      ·omega
    have hrun : (execOp ev o).run P w = .ok (.value (.slice a qn mn)) w := by
     simp only [execOp,hop,Option.map_none,Option.map_some,hv1,Instr.sliceAt,Instr.slice,Sem.run_bind,run_underlying ht,Result.andThen_ok,hb,zO hi,Sem.run_pure,hadd,Nat.sub_zero]
    rw [hrun]
    refine Good.same hr ⟨a,mn,rfl,hqm,hnl,rfl,?_⟩
    rcases hloc with ⟨B,O,e1,e2⟩ | ⟨h00,h01⟩
    ·exact .inl ⟨B,O,e1,e2⟩
    ·exact .inr ⟨by omega,by omega⟩
   ·cases h0
  ·cases h0
 ·exact eD hargs hr hle hM hfr0 h0 hob
 ·exact eD hargs hr hle hM hfr0 h0 hob
 ·exact eD hargs hr hle hM hfr0 h0 hob
 ·simp [T.sel] at h0
end
end Go.Sym
