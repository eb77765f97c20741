/- The same machine: knowing less, code, calls, laws. -/
import Derived.Test.YtknplceohfeamaaGreatDoorSymD
import Derived.RangeFuncNested
import Derived.Sort.LoopGhostIn
import Derived.Deep.LoopGhost
import Derived.ChangeSlices
import Derived.Below
set_option linter.unusedVariables false
set_option linter.unusedSimpArgs false
namespace Go.Sym
def aI : List (Nat × AV)->Env
 | [] => .nil
 | (t,a)::l => Env.set (aI l) t a
def jD : List (Nat × ABlk)->HT
 | [] => .nil
 | (i,b)::l => Tr.put DH (jD l) i (some b)
def mkS (e : List (Nat × AV)) (h : List (Nat × ABlk)) (nx : Nat) : AS := ⟨aI e,jD h,nx⟩
theorem mkE_at : ∀ (l : List (Nat × AV)),(∀ p ∈ l,p.1 < 2 ^ DE)->∀ t,t < 2 ^ DE->(aI l).at t = .any \/ (t,(aI l).at t) ∈ l
 | [],_,t,_ => .inl (by simp [aI,Env.at,Tr.get_nil])
 | (u,a)::l,hl,t,ht => by
  simp only [aI]
  rw [Env.at_set _ _ (hl (u,a) (by simp)) ht]
  split
  ·rename_i he; subst he; right; simp
  ·rcases mkE_at l (fun p hp => hl p (by simp [hp])) t ht with h | h
   ·exact .inl h
   ·right; simp [h]
theorem gS : ∀ (l : List (Nat × ABlk)),(∀ p ∈ l,p.1 < 2 ^ DH)->∀ i b,(jD l).f i = some b->(i,b) ∈ l
 | [],_,i,b,h => by simp [jD,HT.f,Tr.get_nil] at h
 | (j,c)::l,hl,i,b,h => by
  simp only [jD] at h
  rw [HT.f_put _ _ _ (hl (j,c) (by simp))] at h
  unfold upd at h
  split at h
  ·rename_i he
   subst he
   simp only [Option.some.injEq] at h
   subst h
   simp
  ·have := gS l (fun p hp => hl p (by simp [hp])) i b h
   simp [this]
def z0w (V : Vw) (h : H) (c2 c : Con) : Option (List Prop) :=
 match c2,c with
 | .cells l2,.cells l => gL V h l2 (l.take l2.length)
 | .bytes l2,.bytes l => some [l2 = l]
 | .bytes l2,.cells l => (qO l).map fun l' => [l2 = l']
 | .rows sz n g,.rows sz' n' g' => kO (sz == sz') (some [n = n',∀ y,y < n->zT false (g y) = true/\g' y = g y])
 | .rows sz n g,.cells l => kO (decide (0 < sz)) (some [n * sz = l.length,∀ y,y < n->zT false (g y) = true/\cut sz l y = g y])
 | .mp ag p g,.mp ag' p' g' => kO (Nat.beq ag ag') (some [∀ k,p' k = p k,∀ k,p k = true->xO (cC V h (g k) (g' k))])
 | _,_ => none
def y0w : Con->Option (List Prop)
 | .cells l => match l with | [] => some [] | _ => none
 | .bytes l => some [l = []]
 | .rows _ n _ => some [n = 0]
 | .mp _ _ _ => none
def u1w (b2 b : ABlk) : Bool := (match b2.own with | 0 => true | _ => b2.own == b.own && b2.wr) && (!b2.wr || b.wr)
def x0w (V : Vw) (h : H) (i : Nat) (b2 : ABlk) : Option (List Prop) :=
 if V.nil.contains i then kO (b2.wr && decide (0 < b2.own)) (y0w b2.con)
 else match V.to i with
  | some j => match h j with
   | some b => kO (u1w b2 b && !V.still false j) (z0w V h b2.con b.con)
   | none => none
  | none => none
section
variable {V : Vw} {M : Nat->Prop} {w : World} {κ κ2 : Ker} {h : H}
theorem t3 : ∀ (as bs : List AV),xO (gL V h as bs)->as.length = bs.length
 | [],[],_ => rfl
 | [],_::_,ho => ho.elim
 | _::_,[],ho => ho.elim
 | a::as,b::bs,ho => by
  simp only [gL] at ho
  obtain ⟨_,ho2⟩ := yJ ho
  simp [t3 as bs ho2]
theorem t4 : ∀ (as bs : List AV),xO (gL V h as bs)->∀ (i : Nat) a,as[i]? = some a->∃ b,bs[i]? = some b/\xO (cC V h a b)
 | [],_,_,i,a,hi => by simp at hi
 | a::as,[],ho,_,_,_ => ho.elim
 | a::as,b::bs,ho,i,x,hi => by
  simp only [gL] at ho
  obtain ⟨ho1,ho2⟩ := yJ ho
  cases i with
  | zero => simp at hi; subst hi; exact ⟨b,by simp,ho1⟩
  | succ i => simp at hi; simpa using t4 as bs ho2 i x hi
theorem H8 (hr : HRel M w κ h) (vr : VwR V M w κ h κ2) {c2 c : Con} (ho : xO (z0w V h c2 c)) :
  c2.len<=c.len/\∀ off a2,c2.at off = some a2->∃ a,c.at off = some a/\∀ v,VRel κ a v->VRel κ2 a2 v := by
 cases c2 <;> cases c <;> simp only [z0w] at ho <;> first | exact ho.elim | skip
 ·rename_i l2 l
  have hl := t3 _ _ ho
  refine ⟨by simp [Con.len] at hl ⊢; omega,fun off a2 ha => ?_⟩
  obtain ⟨b,hb,hob⟩ := t4 _ _ ho off a2 ha
  rw [List.getElem?_take] at hb
  split at hb
  ·exact ⟨b,hb,fun v hv => jH hr vr a2 b v hob hv⟩
  ·cases hb
 ·rename_i l2 l
  cases hq : qO l with
  | none => rw [hq] at ho; exact ho.elim
  | some l' =>
   rw [hq] at ho
   have := zA.1 ho
   subst this
   have e := vR hq
   subst e
   refine ⟨by simp [Con.len],fun off a2 ha => ?_⟩
   simp only [Con.at] at ha ⊢
   refine ⟨a2,by rwa [List.getElem?_map],fun v hv => ?_⟩
   simp only [Option.map_eq_some_iff] at ha
   obtain ⟨b,_,rfl⟩ := ha
   exact hv
 ·rename_i l2 l
  have := zA.1 ho
  subst this
  refine ⟨Nat.le_refl _,fun off a2 ha => ⟨a2,ha,fun v hv => ?_⟩⟩
  simp only [Con.at,Option.map_eq_some_iff] at ha
  obtain ⟨b,_,rfl⟩ := ha
  exact hv
 ·rename_i sz n g l
  replace ho := yR ho
  obtain ⟨hpos,ho⟩ := ho
  have hpos : 0 < sz := by simpa using hpos
  obtain ⟨e1,hoA⟩ := zJ.1 ho
  have hrow := zA.1 hoA
  refine ⟨by simp [Con.len,e1],fun off a2 ha => ?_⟩
  simp only [Con.at] at ha
  split at ha
  ·rename_i hlt
   have hy : off / sz < n := (Nat.div_lt_iff_lt_mul hpos).2 hlt
   obtain ⟨hd,hcut⟩ := hrow _ hy
   rw [<- hcut] at ha hd
   have hd2 := nF hd ha
   unfold cut at ha
   rw [List.getElem?_take] at ha
   split at ha
   ·rw [List.getElem?_drop,Nat.div_add_mod'] at ha
    exact ⟨a2,ha,fun v hv => VRel.data (p := false) (fun q a x _ hx => vr.m q a x hx) a2 v hd2 hv⟩
   ·cases ha
  ·cases ha
 ·rename_i sz n g sz' n' g'
  replace ho := yR ho
  obtain ⟨hsz,ho⟩ := ho
  have hsz : sz = sz' := by simpa using hsz
  subst hsz
  obtain ⟨e1,hoA⟩ := zJ.1 ho
  have hrow := zA.1 hoA
  subst e1
  refine ⟨Nat.le_refl _,fun off a2 ha => ?_⟩
  simp only [Con.at] at ha ⊢
  split at ha
  ·rename_i hlt
   rw [if_pos hlt]
   have hpos : 0 < sz := by rcases Nat.eq_zero_or_pos sz with h | h; (subst h; simp at hlt); exact h
   have hy : off / sz < n := (Nat.div_lt_iff_lt_mul hpos).2 hlt
   obtain ⟨hd,hcut⟩ := hrow _ hy
   rw [hcut]
   exact ⟨a2,ha,fun v hv => VRel.data (p := false) (fun q a x _ hx => vr.m q a x hx) a2 v (nF hd ha) hv⟩
  ·cases ha
 ·exact ⟨Nat.le_refl _,fun off a2 ha => by cases ha⟩
theorem h1x (hr : HRel M w κ h) (vr : VwR V M w κ h κ2) {c2 c : Con} (ho : xO (z0w V h c2 c)) {ag : Nat} {p : List Int->Bool} {g : List Int->AV} (hc : c2 = .mp ag p g) :
  ∃ p' g',c = .mp ag p' g'/\(∀ k,p' k = p k)/\∀ k v,p k = true->VRel κ (g' k) v->VRel κ2 (g k) v := by
 subst hc
 cases c <;> simp only [z0w] at ho <;> first | exact ho.elim | skip
 rename_i ag' p' g'
 replace ho := yR ho
 obtain ⟨h1,ho⟩ := ho
 have h1 := Nat.eq_of_beq_eq_true h1
 subst h1
 obtain ⟨h2,h3⟩ := zJ.1 ho
 have h3 := zA.1 h3
 exact ⟨p',g',rfl,h2,fun k v hp hv => jH hr vr _ _ v (h3 k hp) hv⟩
theorem t5 {c : Con} (ho : xO (y0w c)) : c.len = 0/\∀ off,c.at off = none := by
 cases c with
 | mp ag p g => exact ho.elim
 | cells l =>
  cases l with
  | nil => exact ⟨rfl,fun off => rfl⟩
  | cons a l => exact ho.elim
 | bytes l =>
  have := zA.1 ho
  subst this
  exact ⟨rfl,fun off => rfl⟩
 | rows sz n g =>
  have := zA.1 ho
  subst this
  exact ⟨by simp [Con.len],fun off => by simp [Con.at]⟩
def gB (V : Vw) (κ : Ker) (h : H) (p : Bool) (B : Nat) : Prop := ∃ j b O,V.still p j = true/\h j = some b/\LiveB κ j b/\κ.ρ j = some (B,O)
open Classical in
theorem gC (hr : HRel M w κ h) (V : Vw) : ∃ κ2,VwR V M w κ h κ2/\(∀ a x,κ2.v a = some x->w.cell? a = some x/\(κ.v a = some x \/ gB V κ h false a.block))/\(∀ a x,κ2.m a = some x->κ.m a = some x \/ gB V κ h true a.block) := by
 have up : ∀ {B},gB V κ h true B->gB V κ h false B := by
  rintro B ⟨j,b,O,h1,h2⟩
  refine ⟨j,b,O,?_,h2⟩
  simp only [Vw.still,Bool.not_true,Bool.and_false,Bool.false_and,Bool.or_false] at h1
  simp only [Vw.still,h1,Bool.true_or]
 let f : Bool->Addr->Option Value := fun p a => if (κ.mem p a).isSome then κ.mem p a else if gB V κ h p a.block then w.cell? a else none
 have hcell : ∀ p a x,κ.mem p a = some x->w.cell? a = some x := by
  intro p a x hx
  cases p
  ·exact hr.mem a x hx
  ·exact hr.mem a x (κ.sub a x hx)
 have hf : ∀ p a x,f p a = some x->w.cell? a = some x/\(κ.mem p a = some x \/ gB V κ h p a.block) := by
  intro p a x hx
  simp only [f] at hx
  split at hx
  ·exact ⟨hcell p a x hx,.inl hx⟩
  ·split at hx
   ·exact ⟨hx,.inr (by assumption)⟩
   ·cases hx
 have hf2 : ∀ p a x,κ.mem p a = some x->f p a = some x := by
  intro p a x hx
  simp only [f,hx,Option.isSome_some,if_true]
 have hf3 : ∀ p a x,gB V κ h p a.block->w.cell? a = some x->f p a = some x := by
  intro p a x hs hx
  simp only [f]
  split
  ·rename_i hsome
   obtain ⟨y,hy⟩ := Option.isSome_iff_exists.1 hsome
   rw [hy]
   have := hcell p a y hy
   rw [hx] at this
   exact this.symm
  ·first | (rw [if_pos hs]; exact hx) | exact hx
 refine ⟨⟨fun i => if V.nil.contains i then some (0,0) else (V.to i).bind κ.ρ,fun i => if V.nil.contains i then 0 else match V.to i with | some j => κ.cap j | none => 0,f true,f false,?_⟩,⟨fun _ => rfl,?_,?_,?_,?_⟩,?_,fun a x hx => (hf true a x hx).2⟩
 ·intro a x hx
  obtain ⟨h1,h2 | h2⟩ := hf true a x hx
  ·exact hf2 false a x (κ.sub a x h2)
  ·exact hf3 false a x (up h2) h1
 ·intro i hi
  simp only [hi,if_true]
 ·intro i j hi hj
  simp only [hi,Bool.false_eq_true,if_false,hj]
 ·intro p a x hx
  cases p
  ·exact hf2 false a x hx
  ·exact hf2 true a x hx
 ·intro p j b B O a x hs hb hl hρ hB hx
  subst hB
  cases p
  ·exact hf3 false a x ⟨j,b,O,hs,hb,hl,hρ⟩ hx
  ·exact hf3 true a x ⟨j,b,O,hs,hb,hl,hρ⟩ hx
 ·intro a x hx
  exact hf false a x hx
def ClsB (V : Vw) (κ : Ker) (h : H) (κ2 : Ker) (i : Nat) (b2 : ABlk) : Prop :=
 (V.nil.contains i = true/\b2.con.len = 0/\(∀ off,b2.con.at off = none)/\b2.wr = true/\κ2.ρ i = some (0,0)/\κ2.cap i = 0/\b2.con.isMap = false) \/
   (V.nil.contains i = false/\∃ j b,V.to i = some j/\h j = some b/\κ2.ρ i = κ.ρ j/\κ2.cap i = κ.cap j/\V.still false j = false/\(b2.wr = true->b.wr = true)/\(0 < b2.own->b2.own = b.own/\b2.wr = true) /\
    b2.con.len<=b.con.len/\(∀ off a2,b2.con.at off = some a2->∃ a,b.con.at off = some a/\∀ v,VRel κ a v->VRel κ2 a2 v) /\
    ∀ ag p g,b2.con = .mp ag p g->∃ p' g',b.con = .mp ag p' g'/\(∀ k,p' k = p k)/\∀ k v,p k = true->VRel κ (g' k) v->VRel κ2 (g k) v)
theorem g1x (hr : HRel M w κ h) (vr : VwR V M w κ h κ2) {i : Nat} {b2 : ABlk} (ho : xO (x0w V h i b2)) : ClsB V κ h κ2 i b2 := by
 unfold x0w at ho
 split at ho
 ·rename_i hn
  replace ho := yR ho
  obtain ⟨hf,ho⟩ := ho
  obtain ⟨h1,h3⟩ := t5 ho
  simp only [Bool.and_eq_true] at hf
  exact .inl ⟨hn,h1,h3,hf.1,by rw [vr.ρ,if_pos hn],vr.capn i hn,by
   cases hc : b2.con with
   | mp ag p g => rw [hc] at ho; exact ho.elim
   | _ => rfl⟩
 ·rename_i hn
  have hn : V.nil.contains i = false := by simpa using hn
  split at ho
  ·rename_i j hj
   split at ho
   ·rename_i b hbj
    replace ho := yR ho
    obtain ⟨hf,ho⟩ := ho
    simp only [Bool.and_eq_true,Bool.not_eq_true'] at hf
    obtain ⟨hown,hst⟩ := hf
    obtain ⟨h1,h3⟩ := H8 hr vr ho
    simp only [u1w,Bool.and_eq_true] at hown
    obtain ⟨ho1,ho2⟩ := hown
    refine .inr ⟨hn,j,b,hj,hbj,by rw [vr.ρ,if_neg (by rw [hn]; decide),hj]; rfl,vr.cap i j hn hj,hst,?_,?_,h1,h3,fun ag p g hc => h1x hr vr ho hc⟩
    ·intro hw
     rw [hw] at ho2
     simpa using ho2
    ·intro hpos
     split at ho1
     ·rename_i h0; omega
     ·simp only [Bool.and_eq_true,beq_iff_eq] at ho1; exact ho1
   ·exact ho.elim
  ·exact ho.elim
theorem cQ (hr : HRel M w κ h) (vr : VwR V M w κ h κ2) (hv : ∀ a x,κ2.v a = some x->w.cell? a = some x/\(κ.v a = some x \/ gB V κ h false a.block)) {h2 : H} {M2 : Nat->Prop}
  (cls : ∀ i b2,h2 i = some b2->ClsB V κ h κ2 i b2) (hinj : ∀ i i' b b',h2 i = some b->h2 i' = some b'->V.nil.contains i = false->V.nil.contains i' = false->V.to i = V.to i'->i = i')
  (hM : ∀ i j b B O,V.to i = some j->h j = some b->b.wr = true->LiveB κ j b->κ.ρ j = some (B,O)->(∃ b2,h2 i = some b2/\b2.wr = true)->M2 B)
  (hMm : ∀ i j b B,V.to i = some j->h j = some b->M B->(∃ b2,h2 i = some b2/\b2.con.isMap = true)->M2 B) : HRel M2 w κ2 h2 := by
 have live : ∀ {i j : Nat} {b2 b : ABlk},κ2.cap i = κ.cap j->(0 < b2.own->b2.own = b.own/\b2.wr = true)->(∀ off a2,b2.con.at off = some a2->∃ a,b.con.at off = some a/\∀ v,VRel κ a v->VRel κ2 a2 v)->LiveB κ2 i b2->LiveB κ j b := by
  rintro i j b2 b hc ho hcon (⟨o,a,h1⟩ | ⟨h1,h3⟩)
  ·obtain ⟨a',ha',_⟩ := hcon o a h1
   exact .inl ⟨o,a',ha'⟩
  ·rw [hc] at h3
   exact .inr ⟨by rw [<- (ho h1).1]; exact h1,h3⟩
 have dead : ∀ {i : Nat} {b2 : ABlk},(∀ off,b2.con.at off = none)->κ2.cap i = 0->¬ LiveB κ2 i b2 := by
  rintro i b2 hc h0 (⟨o,a,h1⟩ | ⟨_,h1⟩)
  ·rw [hc] at h1; cases h1
  ·omega
 refine ⟨?_,?_,?_,fun a x hx => (hv a x hx).1,?_⟩
 rotate_right
 ·refine ⟨fun i b2 ag p g hi hc => ?_,fun i i' b2 b2' hi hi' hm hm' hne B O B' O' e1 e2 => ?_⟩
  ·rcases cls i b2 hi with ⟨_,_,_,_,_,_,hnm⟩ | ⟨hn,j,b,hj,hbj,hρ,hcap,hst,hw,hown,hlen,hcon,hmp⟩
   ·rw [hc] at hnm; cases hnm
   ·obtain ⟨p',g',hb,hp,hg⟩ := hmp ag p g hc
    obtain ⟨B,O,es,ck,k1,k2,k3,k4⟩ := hr.mp.ent j b ag p' g' hbj hb
    refine ⟨B,O,es,ck,by rw [hρ]; exact k1,hMm i j b B hj hbj k2 ⟨b2,hi,by rw [hc]; rfl⟩,k3,⟨fun e he => ?_,fun ks hw hpk => k4.has ks hw (by rw [hp]; exact hpk),k4.apart⟩⟩
    obtain ⟨ks,h1,h2,h3,h4⟩ := k4.ent e he
    rw [hp] at h3
    exact ⟨ks,h1,h2,h3,hg ks _ h3 h4⟩
  ·rcases cls i b2 hi with ⟨_,_,_,_,_,_,hnm⟩ | ⟨hn,j,b,hj,hbj,hρ,hcap,hst,hw,hown,hlen,hcon,hmp⟩
   ·rw [hnm] at hm; cases hm
   ·rcases cls i' b2' hi' with ⟨_,_,_,_,_,_,hnm⟩ | ⟨hn',j',b',hj',hbj',hρ',hcap',hst',hw',hown',hlen',hcon',hmp'⟩
    ·rw [hnm] at hm'; cases hm'
    ·have hjj : j ≠ j' := by
      intro he
      subst he
      exact hne (hinj i i' b2 b2' hi hi' hn hn' (by rw [hj,hj']))
     rw [hρ] at e1
     rw [hρ'] at e2
     obtain ⟨ag,p,g,hc⟩ := Con.isMap_eq hm
     obtain ⟨ag',p',g',hc'⟩ := Con.isMap_eq hm'
     obtain ⟨_,_,hb,_⟩ := hmp ag p g hc
     obtain ⟨_,_,hb',_⟩ := hmp' ag' p' g' hc'
     exact hr.mp.sep j j' b b' hbj hbj' (by rw [hb]; rfl) (by rw [hb']; rfl) hjj _ _ _ _ e1 e2
 ·intro i b2 hi
  rcases cls i b2 hi with ⟨hn,hl,hc,hw,hρ,hcap,_⟩ | ⟨hn,j,b,hj,hbj,hρ,hcap,hst,hw,hown,hlen,hcon,_⟩
  ·exact ⟨0,0,hρ,fun _ hl => absurd hl (dead hc hcap),fun off a ha => by rw [hc] at ha; cases ha⟩
  ·obtain ⟨B,O,e1,e2,e3⟩ := hr.blk j b hbj
   refine ⟨B,O,by rw [hρ]; exact e1,fun hw2 hl => ?_,fun off a2 ha => ?_⟩
   ·have hlv := live hcap hown hcon hl
    obtain ⟨k1,k2,k3,k4⟩ := e2 (hw hw2) hlv
    refine ⟨hM i j b B O hj hbj (hw hw2) hlv e1 ⟨b2,hi,hw2⟩,k2,k3,fun a x hx hB => ?_⟩
    obtain ⟨_,h5 | ⟨j',b',O',s1,s2,s3,s4⟩⟩ := hv a x hx
    ·exact k4 a x h5 hB
    ·have hne : j ≠ j' := by
      intro he
      rw [<- he,hst] at s1
      cases s1
     rw [hB] at s4
     exact hr.sep j j' b b' B O B O' hbj s2 hne (hw hw2) hlv s3 e1 s4 rfl
   ·obtain ⟨a,ha',hva⟩ := hcon off a2 ha
    obtain ⟨⟨x,hx,hxv⟩,hf⟩ := e3 off a ha'
    exact ⟨⟨x,hx,hva x hxv⟩,fun hw2 => hf (hw hw2)⟩
 ·intro i i' b2 b2' B O B' O' hi hi' hne hw2 hl hl' e1 e2
  rcases cls i b2 hi with ⟨hn,hl0,hc,hw,hρ,hcap,_⟩ | ⟨hn,j,b,hj,hbj,hρ,hcap,hst,hw,hown,hlen,hcon,_⟩
  ·exact absurd hl (dead hc hcap)
  ·rcases cls i' b2' hi' with ⟨hn',hl0',hc',hw',hρ',hcap',_⟩ | ⟨hn',j',b',hj',hbj',hρ',hcap',hst',hw',hown',hlen',hcon',_⟩
   ·exact absurd hl' (dead hc' hcap')
   ·have hjj : j ≠ j' := by
     intro he
     subst he
     exact hne (hinj i i' b2 b2' hi hi' hn hn' (by rw [hj,hj']))
    rw [hρ] at e1
    rw [hρ'] at e2
    exact hr.sep j j' b b' B O B' O' hbj hbj' hjj (hw hw2) (live hcap hown hcon hl) (live hcap' hown' hcon' hl') e1 e2
 ·intro i b2 B O hi ho e1
  rcases cls i b2 hi with ⟨hn,hl0,hc,hw,hρ,hcap,_⟩ | ⟨hn,j,b,hj,hbj,hρ,hcap,hst,hw,hown,hlen,hcon,_⟩
  ·exact ⟨hw,by rw [hl0]; omega,fun off hoff => by rw [hcap] at hoff; simp at hoff⟩
  ·obtain ⟨e2,e3⟩ := hown ho
   rw [hρ] at e1
   obtain ⟨k1,k2,k3⟩ := hr.own j b B O hbj (by omega) e1
   rw [hcap,e2]
   exact ⟨e3,by omega,k3⟩
end
def jN : List Nat->Bool
 | [] => true
 | a::l => !l.contains a && jN l
def pinned (V : Vw) (np : Nat) : Bool := (List.range np).all fun i => V.to i == some i && !V.nil.contains i
def okV (np : Nat) (V : Vw) (h2 : List (Nat × ABlk)) (nx : Nat) : Bool :=
 pinned V np && decide (nx<=GB) && V.nil.all (fun i => decide (i < nx)) && V.σ.all (fun p => decide (p.1 < nx)) && !V.tmp &&
 jN ((h2.map (·.1)).filter fun i => !V.nil.contains i) && jN (((h2.map (·.1)).filter fun i => !V.nil.contains i).filterMap V.to) && h2.all (fun p => decide (p.1 < 2 ^ DH))
def envO (V : Vw) (s : AS) : List (Nat × AV)->Option (List Prop)
 | [] => some []
 | (t,a)::l => kO (decide (t < 2 ^ DE)) (qW (cC V s.h.f a (s.env.at t)) (envO V s l))
def R7 (V : Vw) (s : AS) : List (Nat × ABlk)->Option (List Prop)
 | [] => some []
 | (i,b)::l => qW (x0w V s.h.f i b) (R7 V s l)
def fzOK (V : Vw) (s : AS) : Bool := V.fz.all fun j => match s.h.f j with | some b => b.wr | none => true
def t6 (np : Nat) (V : Vw) (s : AS) (e2 : List (Nat × AV)) (h2 : List (Nat × ABlk)) (nx : Nat) : Prop :=
 chk (okV np V h2 nx && fzOK V s) (xO (qW (envO V s e2) (R7 V s h2)))
theorem uR : ∀ (l : List Nat),jN l = true->l.Nodup
 | [],_ => .nil
 | a::l,h => by
  simp only [jN,Bool.and_eq_true,Bool.not_eq_true'] at h
  rw [List.nodup_cons]
  exact ⟨by simpa using h.1,uR l h.2⟩
theorem fL {f : Nat->Option Nat} : ∀ (l : List Nat),(l.filterMap f).Nodup->∀ i i',i ∈ l->i' ∈ l->(f i).isSome->f i = f i'->l.Nodup->i = i'
 | [],_,i,_,hi,_,_,_,_ => by simp at hi
 | a::l,hnd,i,i',hi,hi',hs,he,hl => by
  rw [List.nodup_cons] at hl
  have key : ∀ x,x ∈ l->f a = f x->(f a).isSome->False := by
   intro x hx hax hsa
   obtain ⟨y,hy⟩ := Option.isSome_iff_exists.1 hsa
   rw [List.filterMap_cons,hy] at hnd
   simp only [List.nodup_cons] at hnd
   exact hnd.1 (List.mem_filterMap.2 ⟨x,hx,by rw [<- hax,hy]⟩)
  have hnd' : (l.filterMap f).Nodup := by
   rw [List.filterMap_cons] at hnd
   split at hnd
   ·exact hnd
   ·exact (List.nodup_cons.1 hnd).2
  rcases List.mem_cons.1 hi with h1 | h1
  ·rcases List.mem_cons.1 hi' with h2 | h2
   ·rw [h1,h2]
   ·subst h1; exact (key i' h2 he hs).elim
  ·rcases List.mem_cons.1 hi' with h2 | h2
   ·subst h2; exact (key i h1 he.symm (by rw [<- he]; exact hs)).elim
   ·exact fL l hnd' i i' h1 h2 hs he hl.2
section
variable {ds : List Deferred} {gl : Gl} {M : Nat->Prop} {W0 : World} {n np : Nat} {κ0 : Ker}
theorem oD {V : Vw} {s : AS} : ∀ (l : List (Nat × AV)),xO (envO V s l)->∀ t a,(t,a) ∈ l->t < 2 ^ DE/\xO (cC V s.h.f a (s.env.at t))
 | [],_,t,a,h => by simp at h
 | (u,b)::l,ho,t,a,h => by
  simp only [envO] at ho
  replace ho := yR ho
  obtain ⟨hu,ho⟩ := ho
  obtain ⟨ho1,ho2⟩ := yJ ho
  rcases List.mem_cons.1 h with h | h
  ·simp only [Prod.mk.injEq] at h
   obtain ⟨rfl,rfl⟩ := h
   exact ⟨by simpa using hu,ho1⟩
  ·exact oD l ho2 t a h
theorem cR {V : Vw} {s : AS} : ∀ (l : List (Nat × ABlk)),xO (R7 V s l)->∀ i b,(i,b) ∈ l->xO (x0w V s.h.f i b)
 | [],_,i,b,h => by simp at h
 | (u,c)::l,ho,i,b,h => by
  simp only [R7] at ho
  obtain ⟨ho1,ho2⟩ := yJ ho
  rcases List.mem_cons.1 h with h | h
  ·simp only [Prod.mk.injEq] at h
   obtain ⟨rfl,rfl⟩ := h
   exact ho1
  ·exact cR l ho2 i b h
theorem f1x {np : Nat} {V : Vw} {h2 : List (Nat × ABlk)} {nx : Nat} (hok : okV np V h2 nx = true) (hb : ∀ i b,(i,b) ∈ h2->V.nil.contains i = false->(V.to i).isSome) :
  ∀ i i' b b',(jD h2).f i = some b->(jD h2).f i' = some b'->V.nil.contains i = false->V.nil.contains i' = false->V.to i = V.to i'->i = i' := by
 simp only [okV,Bool.and_eq_true,List.all_eq_true,decide_eq_true_eq] at hok
 obtain ⟨⟨⟨_,hnd1⟩,hnd2⟩,hlt⟩ := hok
 intro i i' b b' hi hi' hn hn' he
 have h1 := gS h2 hlt i b hi
 have h2' := gS h2 hlt i' b' hi'
 have m1 : i ∈ (h2.map (·.1)).filter fun i => !V.nil.contains i := List.mem_filter.2 ⟨List.mem_map_of_mem h1,by simp only [hn,Bool.not_false]⟩
 have m2 : i' ∈ (h2.map (·.1)).filter fun i => !V.nil.contains i := List.mem_filter.2 ⟨List.mem_map_of_mem h2',by simp only [hn',Bool.not_false]⟩
 exact fL _ (uR _ hnd2) i i' m1 m2 (hb i b h1 hn) he (uR _ hnd1)
theorem RRel.weak {V : Vw} {κ : Ker} {s : AS} {a : Act} {w : World} {e2 : List (Nat × AV)} {h2 : List (Nat × ABlk)} {nx : Nat} (r : RRel ds gl M W0 n np κ0 (fun _ => True) κ s a w) (hw : t6 np V s e2 h2 nx) :
  ∃ κ2,RRel ds gl M W0 n np κ0 (fun _ => True) κ2 (mkS e2 h2 nx) a w := by
 obtain ⟨hok0,ho⟩ := xR.1 hw
 rw [Bool.and_eq_true] at hok0
 obtain ⟨hok,hfz⟩ := hok0
 obtain ⟨hoe,hoh⟩ := yJ ho
 obtain ⟨κ2,vr,hv,hvm⟩ := gC r.heap V
 have hok' := hok
 simp only [okV,Bool.and_eq_true,List.all_eq_true,decide_eq_true_eq] at hok'
 obtain ⟨⟨⟨⟨⟨⟨⟨hpin,hnx⟩,hnil⟩,hσ⟩,htmp⟩,hnd1⟩,hnd2⟩,hlt⟩ := hok'
 have hse : ∀ i b,(i,b) ∈ h2->V.nil.contains i = false->(V.to i).isSome := by
  intro i b hi hn
  have := cR h2 hoh i b hi
  unfold x0w at this
  rw [if_neg (by rw [hn]; decide)] at this
  split at this
  ·rename_i j hj; rw [hj]; rfl
  ·exact this.elim
 refine ⟨κ2,?_,r.size,r.defers,r.glob,?_,r.only,?_,?_,?_,?_,fun q x y h => vr.m q x y (r.vv q x y h)⟩
 ·intro t ht
  rcases mkE_at e2 (fun p hp => (oD e2 hoe p.1 p.2 hp).1) t ht with h | h
  ·show VRel κ2 ((aI e2).at t) _
   rw [h]; exact trivial
  ·exact jH r.heap vr _ _ _ (oD e2 hoe t _ h).2 (r.env t ht)
 ·exact cQ r.heap vr hv (fun i b hi => g1x r.heap vr (cR h2 hoh i b (gS h2 hlt i b hi))) (f1x hok hse)
   (fun i j b B O _ hb hwr hl hρ _ => by
    obtain ⟨B1,O1,e1,e2',_⟩ := r.heap.blk j b hb
    rw [hρ] at e1
    simp only [Option.some.injEq,Prod.mk.injEq] at e1
    obtain ⟨rfl,rfl⟩ := e1
    exact (e2' hwr hl).1) (fun _ _ _ _ _ _ h _ => h)
 ·intro j _ i h1 h3 h4
  simp only [mkS] at h1 h3
  have hge : nx<=i := by omega
  have hn : V.nil.contains i = false := by
   cases hc : V.nil.contains i with
   | false => rfl
   | true =>
    have := hnil i (by simpa using hc)
    omega
  have hto : V.to i = none := by
   unfold Vw.to
   rw [if_neg (by omega)]
   have : ∀ l : List (Nat × Nat),(∀ p ∈ l,p.1 < nx)->look i l = none := by
    intro l
    induction l with
    | nil => intro _; rfl
    | cons p l ih =>
     intro hl
     obtain ⟨x,y⟩ := p
     simp only [look]
     rw [if_neg (by have := hl (x,y) (by simp); simp at this; omega)]
     exact ih (fun q hq => hl q (by simp [hq]))
   exact this V.σ hσ
  rw [vr.ρ,if_neg (by rw [hn]; decide),hto]
  rfl
 ·intro g
  have hn : V.nil.contains (GB + g) = false := by
   cases hc : V.nil.contains (GB + g) with
   | false => rfl
   | true =>
    have := hnil (GB + g) (by simpa using hc)
    omega
  rw [vr.ρ,if_neg (by rw [hn]; decide)]
  unfold Vw.to
  rw [if_pos (by omega)]
  exact r.grho g
 ·intro i hi
  simp only [pinned,List.all_eq_true,List.mem_range,Bool.and_eq_true,beq_iff_eq,Bool.not_eq_true'] at hpin
  obtain ⟨h1,h2'⟩ := hpin i hi
  obtain ⟨k1,k2,k3⟩ := r.pin i hi
  refine ⟨k1,?_,?_⟩
  ·rw [vr.ρ,if_neg (by rw [h2']; decide),h1]; exact k2
  ·rw [vr.cap i i h2' h1]; exact k3
 ·intro x y hxy
  rcases hvm x y hxy with h | ⟨j,b,O,h1,h2',h3,h4⟩
  ·exact r.mm x y h
  ·right
   have hjf : j ∈ V.fz := by
    simp only [Vw.still,Bool.not_true,Bool.and_false,Bool.false_and,Bool.or_false] at h1
    simpa using h1
   simp only [fzOK,List.all_eq_true] at hfz
   have hwr := hfz j hjf
   rw [h2'] at hwr
   obtain ⟨B1,O1,e1,e2',_⟩ := r.heap.blk j b h2'
   rw [h4] at e1
   simp only [Option.some.injEq,Prod.mk.injEq] at e1
   obtain ⟨rfl,rfl⟩ := e1
   exact (e2' hwr h3).1
end
end Go.Sym
namespace Go.Sym
open Go.RowKit
def dJ : Obj->Bool
 | .cells _ _ _ => false
 | .map _ _ => false
 | _ => true
def Turns (B : Nat) (W W' : World) : Prop := ∃ row,W.grownBy W' row/\∀ r,row = some r->B<=r/\∃ o : Obj,W.heap[r]? = some o/\dJ o = true
theorem Turns.mono {B B' : Nat} {W W' : World} (h : Turns B W W') (hB : B'<=B) : Turns B' W W' := by
 obtain ⟨row,h1,h2⟩ := h
 exact ⟨row,h1,fun r e => ⟨Nat.le_trans hB (h2 r e).1,(h2 r e).2⟩⟩
theorem Turns.put {B : Nat} {W : World} {l : Nat} {o : Obj} (o' : Obj) (hB : B<=l) (hl : W.heap[l]? = some o) (ho : dJ o = true) : Turns B W (W.putObj l o') :=
 ⟨some l,grownBy_putObj' W l o',fun r e => by cases e; exact ⟨hB,o,hl,ho⟩⟩
theorem Turns.alloc (B : Nat) (W : World) (o : Obj) : Turns B W (W.alloc o) := ⟨none,World.grownBy_alloc W o none,fun r e => by cases e⟩
def oE (B : Nat) (W W' : World) : Prop := ∀ (k : Nat) (o : Obj),B<=k->W.heap[k]? = some o->dJ o = true->W'.heap[k]? = some o
def SeqN (r : Option Nat) (m : Nat) (P : Program) (gf : Nat) (lb : Array Value) (encs : Nat->Array Value) (Kp : World->World->Prop) (N : Nat) (w : World) : Prop :=
 ∀ (l : Nat) (J : Nat->World->Prop) (Jx : World->Prop) (W : World),Below w.heap.size w W->(∀ k A B,J k A->Turns W.heap.size A B->J k B)->(∀ A B,Jx A->Turns W.heap.size A B->Jx B) ->
  (∀ k W1,J k W1->k < N->YieldAt (FW r) (m - 1) P l (encs k) W1 fun e W' => (e = .returned (.bool true)/\J (k + 1) W'/\Kp W1 W') \/ (e = .returned (.bool false)/\Jx W')) ->
  J 0 W->CallsIn (FW r) m P gf (#[.func (.yield l) #[] #[]]++lb) W fun e W' => (∃ v,e = .returned v)/\(J N W' \/ Jx W')
def postN (B : Nat) (Kp : World->World->Prop) (In : World->Prop) (Ix : Code->World->Prop) (W : World) : Exit->Act->World->Prop
 | .normal,_,W' => oE B W W'/\Kp W W'/\In W'
 | .ret,_,W' => oE B W W'/\Ix .ret W'
 | .exit id,_,W' => oE B W W'/\Ix (.exit id) W'
 | .goto t,_,W' => oE B W W'/\Ix (.goto t) W'
 | .panic _,_,_ => False
 | .outgrown,_,_ => False
def bP (D : Nat) : Deferred := { target := .collected D,args := #[] }
theorem w0j {P : Program} {m : Nat} {g : Operand} {ps : Array Tmp} {assign body : Code} {Q : Exit->Act->World->Prop} {a : Act} {w : World} {gf : Nat} {lb : Array Value}
  (hg : a.eval g = .func (.func gf) #[] lb) (eg : ∀ args w,(callFunc gf args).run P w = .ok (.enter gf args) w)
  {encs : Nat->Array Value} {Kp : World->World->Prop} {N : Nat} (hseq : SeqN none (m - 1) P gf lb encs Kp N w) (hps : ∀ k,k < N->(encs k).size = ps.size)
  (hKt : ∀ {A B C : World},Kp A B->Kp B C->Kp A C) (hKb : ∀ {A B : World},Turns w.heap.size A B->Kp A B)
  (I : Nat->World->Prop) (Ix : Code->World->Prop) (hI : ∀ k A B,I k A->Turns w.heap.size A B->I k B) (hIx : ∀ c A B,Ix c A->Turns w.heap.size A B->Ix c B) (h0 : I 0 w)
  (Ax : Nat->Act->World->Prop) (hAx : ∀ k a' A B,Ax k a' A->Turns w.heap.size A B->Ax k a' B)
  (hassign : ∀ (l k : Nat) (W : World),k < N->I k W->assign.wpIn (FW (some l)) (m - 1 - 1) P (Exit.then (fun a' W' => oE w.heap.size W W'/\Kp W W'/\Ax k a' W') (fun _ _ _ => False)) { tmps := (ps.zip (encs k)).foldl (fun t (p,v) => t.setIfInBounds p v) a.tmps,defers := [] } W)
  (hbody : ∀ (l k : Nat) (a' : Act) (W : World),k < N->Ax k a' W->body.wpIn (FW (some l)) (m - 1 - 1) P (postN w.heap.size Kp (I (k + 1)) Ix W) a' W)
  (hdone : ∀ (D : Nat) (W : World),w.heap.size<=D->I N W->W.heap[D]? = some (.deferred (some []))->Q .normal { a with defers := bP D::a.defers } W)
  (hstop : ∀ (D : Nat) (c : Code) (W : World),w.heap.size<=D->Ix c W->W.heap[D]? = some (.deferred (some []))->c.wpIn (FW none) m P Q { a with defers := bP D::a.defers } W) :
  (Code.rangeFunc g ps assign body).wpIn (FW none) m P Q a w := by
 refine wpIn_rangeFunc fun fn hfn => ?_
 obtain ⟨rec,hrec⟩ : ∃ rec : LoopState->Option Code->Loop,rec = fun st pe => { state := st,pending := pe,fn,tmps := a.tmps,params := ps,assign,body,defers := w.heap.size } := ⟨_,rfl⟩
 obtain ⟨W1,hW1⟩ : ∃ W1,(w.alloc (.deferred (some []))).alloc (.loop (rec .ready none)) = W1 := ⟨_,rfl⟩
 have hsz : W1.heap.size = w.heap.size + 1 + 1 := by rw [<- hW1]; simp
 have hL1 : W1.heap[w.heap.size + 1]? = some (.loop (rec .ready none)) := by
  rw [<- hW1]
  have := World.alloc_heap_new (w.alloc (.deferred (some []))) (.loop (rec .ready none))
  rwa [World.size_alloc] at this
 have hD1 : W1.heap[w.heap.size]? = some (.deferred (some [])) := by
  rw [<- hW1]
  exact (Below.heap_alloc _ _ _ (by simp)).trans (World.alloc_heap_new w _)
 have hI1 : I 0 W1 := by rw [<- hW1]; exact hI _ _ _ (hI _ _ _ h0 (Turns.alloc _ _ _)) (Turns.alloc _ _ _)
 have hb1 : Below w.heap.size w W1 := by
  rw [<- hW1]
  exact ((Below.refl _ w).alloc (Nat.le_refl _) _).alloc (by simp) _
 refine ⟨w.heap.size + 1,[bP w.heap.size],W1,{ target := .fn (.func gf) lb,args := #[.func (.yield (w.heap.size + 1)) #[] #[]] },W1,gf,#[.func (.yield (w.heap.size + 1)) #[] #[]]++lb,W1,?_,?_,fun _ _ => trivial,?_,(fun h => by cases h),?_⟩
 ·rw [<- hW1,hrec]; exact run_enterLoop_outer _ _ _ _ _
 ·simp only [resolve,hg]
  simp [go_sem]
 ·simp [invoke,go_sem,eg]
 have keep : ∀ {A B : World} {row : Option Nat},A.grownBy B row->(∀ r,row = some r->W1.heap.size<=r/\∃ o : Obj,A.heap[r]? = some o/\dJ o = true)->∀ k,k < W1.heap.size->∀ o,A.heap[k]? = some o->B.heap[k]? = some o := by
  intro A B row h1 h2 k hk o ho
  rw [h1.block k (Array.getElem?_eq_some_iff.1 ho).1 (fun e => by have := (h2 k e.symm).1; omega)]
  exact ho
 refine (hseq (w.heap.size + 1)
  (fun k W => I k W/\W.heap[w.heap.size + 1]? = some (.loop (rec .ready none))/\W.heap[w.heap.size]? = some (.deferred (some [])))
  (fun W => ∃ c,Ix c W/\W.heap[w.heap.size + 1]? = some (.loop (rec .done (some c)))/\W.heap[w.heap.size]? = some (.deferred (some [])))
  W1 hb1 ?_ ?_ ?_ ⟨hI1,hL1,hD1⟩).mono ?_
 ·rintro k A B ⟨h1,h2,h3⟩ ht
  refine ⟨hI k A B h1 (ht.mono (by omega)),?_,?_⟩ <;> obtain ⟨row,k1,k2⟩ := ht
  ·exact keep k1 k2 _ (by omega) _ h2
  ·exact keep k1 k2 _ (by omega) _ h3
 ·rintro A B ⟨c,h1,h2,h3⟩ ht
  refine ⟨c,hIx c A B h1 (ht.mono (by omega)),?_,?_⟩ <;> obtain ⟨row,k1,k2⟩ := ht
  ·exact keep k1 k2 _ (by omega) _ h2
  ·exact keep k1 k2 _ (by omega) _ h3
 ·rintro k W ⟨hi,hl,hd⟩ hk
  have hy := run_yield (P := P) (args := encs k) hl (by rw [hrec]; exact hps k hk)
  rw [hrec] at hy
  refine ⟨fn,_,assign,body,hy,roundIn_of_wpIn hfn (wpIn_mono (hassign _ k W hk hi) ?_)⟩
  intro e a1 W2 hq
  cases e with
  | normal =>
   obtain ⟨hk2,hp2,hx2⟩ := hq
   have hl2 := hk2 _ _ (by omega) hl rfl
   have hd2 := hk2 _ _ (by omega) hd rfl
   have hlt : w.heap.size + 1 < W2.heap.size := (Array.getElem?_eq_some_iff.1 hl2).1
   have t2 : Turns w.heap.size W2 (W2.putObj (w.heap.size + 1) (.loop { rec .ready none with state := .busy })) := Turns.put _ (by omega) hl2 rfl
   refine ⟨_,run_beginRound hl2 (by rw [hrec]),wpIn_mono (hbody _ k a1 _ hk (hAx _ _ _ _ hx2 t2)) ?_⟩
   have hl3 : (W2.putObj (w.heap.size + 1) (.loop { rec .ready none with state := .busy })).heap[w.heap.size + 1]? = some (.loop { rec .ready none with state := .busy }) := World.putObj_heap_same hlt
   have hd3 : (W2.putObj (w.heap.size + 1) (.loop { rec .ready none with state := .busy })).heap[w.heap.size]? = some (.deferred (some [])) := (World.putObj_heap_other (by omega)).trans hd2
   have fin : ∀ (jump : Option Code) (W3 : World),oE w.heap.size (W2.putObj (w.heap.size + 1) (.loop { rec .ready none with state := .busy })) W3 ->
     (Instr.endRound (w.heap.size + 1) jump).run P W3 = .ok (.bool jump.isNone) (W3.putObj (w.heap.size + 1) (.loop (rec (if jump.isNone then .ready else .done) jump))) /\
     Turns w.heap.size W3 (W3.putObj (w.heap.size + 1) (.loop (rec (if jump.isNone then .ready else .done) jump))) /\
     (W3.putObj (w.heap.size + 1) (.loop (rec (if jump.isNone then .ready else .done) jump))).heap[w.heap.size + 1]? = some (.loop (rec (if jump.isNone then .ready else .done) jump)) /\
     (W3.putObj (w.heap.size + 1) (.loop (rec (if jump.isNone then .ready else .done) jump))).heap[w.heap.size]? = some (.deferred (some [])) := by
    intro jump W3 hk3
    have hl4 := hk3 _ _ (by omega) hl3 rfl
    have hd4 := hk3 _ _ (by omega) hd3 rfl
    have := run_endRound (P := P) jump hl4
    have hlt4 := (Array.getElem?_eq_some_iff.1 hl4).1
    refine ⟨by rw [hrec] at this ⊢; exact this,Turns.put _ (by omega) hl4 rfl,World.putObj_heap_same hlt4,(World.putObj_heap_other (by omega)).trans hd4⟩
   rintro e a3 W3 hp
   cases e with
   | normal =>
    obtain ⟨hk3,hkp3,hi3⟩ := hp
    obtain ⟨hr,ht,hl5,hd5⟩ := fin none W3 hk3
    exact ⟨_,_,hr,.inl ⟨rfl,⟨hI _ _ _ hi3 ht,hl5,hd5⟩,hKt hp2 (hKt (hKb t2) (hKt hkp3 (hKb ht)))⟩⟩
   | ret =>
    obtain ⟨hk3,hi3⟩ := hp
    obtain ⟨hr,ht,hl5,hd5⟩ := fin (some .ret) W3 hk3
    exact ⟨_,_,hr,.inr ⟨rfl,.ret,hIx _ _ _ hi3 ht,hl5,hd5⟩⟩
   | exit id =>
    obtain ⟨hk3,hi3⟩ := hp
    obtain ⟨hr,ht,hl5,hd5⟩ := fin (some (.exit id)) W3 hk3
    exact ⟨_,_,hr,.inr ⟨rfl,.exit id,hIx _ _ _ hi3 ht,hl5,hd5⟩⟩
   | goto t =>
    obtain ⟨hk3,hi3⟩ := hp
    obtain ⟨hr,ht,hl5,hd5⟩ := fin (some (.goto t)) W3 hk3
    exact ⟨_,_,hr,.inr ⟨rfl,.goto t,hIx _ _ _ hi3 ht,hl5,hd5⟩⟩
   | panic ch => exact hp.elim
   | outgrown => exact hp.elim
  | exit id => exact hq.elim
  | goto t => exact hq.elim
  | ret => exact hq.elim
  | panic ch => exact hq.elim
  | outgrown => exact hq.elim
 ·rintro e W2 ⟨⟨v,rfl⟩,⟨hi,hl,hd⟩ | ⟨c,hi,hl,hd⟩⟩
  ·refine ⟨none,_,by have := run_endLoop (P := P) hl (by rw [hrec]; simp); rw [hrec] at this; exact this,hdone _ _ (Nat.le_refl _) (hI _ _ _ hi (Turns.put _ (by omega) hl rfl)) ((World.putObj_heap_other (by omega)).trans hd)⟩
  ·refine ⟨some c,_,by have := run_endLoop (P := P) hl (by rw [hrec]; simp); rw [hrec] at this; exact this,hstop _ c _ (Nat.le_refl _) (hIx _ _ _ hi (Turns.put _ (by omega) hl rfl)) ((World.putObj_heap_other (by omega)).trans hd)⟩
end Go.Sym
namespace Go.Sym
structure Lie (w w' : World) : Prop where
 size : w.heap.size<=w'.heap.size
 same : ∀ (B : Nat) (o : Obj),w.heap[B]? = some o->dJ o = false->w'.heap[B]? = some o
theorem Turns.lie {B : Nat} {w w' : World} (h : Turns B w w') : Lie w w' := by
 obtain ⟨row,h1,h2⟩ := h
 refine ⟨h1.size,fun k o hk ho => ?_⟩
 rw [h1.block k (Array.getElem?_eq_some_iff.1 hk).1 (fun e => ?_)]
 ·exact hk
 ·obtain ⟨_,o',k1,k2⟩ := h2 k e.symm
  rw [hk] at k1
  simp only [Option.some.injEq] at k1
  subst k1
  rw [ho] at k2; cases k2
theorem t7 {w : World} {a : Addr} {x : Value} (h : w.cell? a = some x) : ∃ o,w.heap[a.block]? = some o/\dJ o = false := by
 unfold World.cell? at h
 split at h
 ·rename_i c t fz hc
  exact ⟨_,hc,rfl⟩
 ·cases h
theorem Lie.cell {w w' : World} (h : Lie w w') {a : Addr} {x : Value} (hx : w.cell? a = some x) : w'.cell? a = some x/\w'.frozen? a = w.frozen? a := by
 obtain ⟨o,h1,h2⟩ := t7 hx
 have e : w'.heap[a.block]? = w.heap[a.block]? := by rw [h.same _ _ h1 h2,h1]
 exact ⟨by rw [World.cell?_of_block e]; exact hx,World.frozen?_of_block e⟩
theorem Lie.marked {w w' : World} (h : Lie w w') {B : Nat} (hm : Marked w B) : Marked w' B := by
 obtain ⟨c,t,lo,hi,h1,h2⟩ := hm
 exact ⟨c,t,lo,hi,h.same _ _ h1 rfl,h2⟩
section
variable {ds : List Deferred} {gl : Gl} {M M1 : Nat->Prop} {W0 W1 w w' : World} {n np np' : Nat} {κ0 κ1 κ κ' : Ker} {h : H} {s : AS} {a : Act} {L : Nat->Prop}
theorem HRel.lie (r : HRel M w κ h) (hl : Lie w w') : HRel M w' κ h := by
 refine ⟨?_,r.sep,?_,fun a x hx => (hl.cell (r.mem a x hx)).1,r.mp.of (Ker.le_refl κ) (fun i b hi _ => .inl hi) (fun _ _ _ h _ => h) fun i b B O es ck hi _ hρ he => hl.same _ _ he rfl⟩
 ·intro i b hi
  obtain ⟨B,O,h1,h2,h3⟩ := r.blk i b hi
  refine ⟨B,O,h1,fun hw hlv => ?_,fun off a ha => ?_⟩
  ·obtain ⟨k1,k2,k3,k4⟩ := h2 hw hlv
   exact ⟨k1,Nat.lt_of_lt_of_le k2 hl.size,hl.marked k3,k4⟩
  ·obtain ⟨⟨x,hx,hv⟩,hf⟩ := h3 off a ha
   obtain ⟨k1,k2⟩ := hl.cell hx
   exact ⟨⟨x,k1,hv⟩,fun hw => by rw [k2]; exact hf hw⟩
 ·intro i b B O hi ho hρ
  obtain ⟨k1,k2,k3⟩ := r.own i b B O hi ho hρ
  refine ⟨k1,k2,fun off hoff => ?_⟩
  obtain ⟨⟨x,hx⟩,hf⟩ := k3 off hoff
  obtain ⟨e1,e2⟩ := hl.cell hx
  exact ⟨⟨x,e1⟩,by rw [e2]; exact hf⟩
theorem GW.lie (hG : GW gl w) (hl : Lie w w') : GW gl w' := fun g i v hv => (hl.cell (hG g i v hv)).1
theorem HRel.fewer (r : HRel M w κ h) (hM : ∀ B,M B->(∃ o,w.heap[B]? = some o/\dJ o = false)->M1 B) : HRel M1 w κ h := by
 refine ⟨?_,r.sep,r.own,r.mem,?_⟩
 ·intro i b hi
  obtain ⟨B,O,h1,h2,h3⟩ := r.blk i b hi
  refine ⟨B,O,h1,fun hw hlv => ?_,h3⟩
  obtain ⟨k1,k2,k3,k4⟩ := h2 hw hlv
  obtain ⟨c,t,lo,hi',e1,_⟩ := k3
  exact ⟨hM B k1 ⟨_,e1,rfl⟩,k2,⟨c,t,lo,hi',e1,by assumption⟩,k4⟩
 ·exact r.mp.of (Ker.le_refl κ) (fun i b hi _ => .inl hi) (fun B es ck hB he => hM B hB ⟨_,he,rfl⟩) fun _ _ _ _ _ _ _ _ _ h => h
theorem Turns.only {B : Nat} (h : Turns B w w') (hB : W1.heap.size<=B) (r : Only M W1 w) : Only M W1 w' := by
 obtain ⟨row,h1,h2⟩ := h
 refine ⟨h1.os.trans r.os,h1.tape.trans r.tape,h1.output.trans r.output,Nat.le_trans r.size h1.size,fun k hk hm => ?_⟩
 rw [h1.block k (Nat.lt_of_lt_of_le hk r.size) (fun e => by have := (h2 k e.symm).1; omega)]
 exact r.block k hk hm
theorem RRel.turn {B : Nat} (r : RRel ds gl M W1 n np κ1 L κ s a w) (h : Turns B w w') (hB : W1.heap.size<=B) : RRel ds gl M W1 n np κ1 L κ s a w' :=
 ⟨r.env,r.size,r.defers,r.glob.lie h.lie,r.heap.lie h.lie,h.only hB r.only,r.free,r.grho,r.pin,r.mm,r.vv⟩
theorem RRel.base (r : RRel ds gl M W0 n np κ0 L κ s a w) (hp : ∀ i,i < np'->(κ.ρ i).isSome) (hM : ∀ B,M B->(∃ o,w.heap[B]? = some o/\dJ o = false)->M1 B) : RRel ds gl M1 w n np' κ L κ s a w :=
 ⟨r.env,r.size,r.defers,r.glob,r.heap.fewer hM,Only.refl _ _,r.free,r.grho,fun i hi => ⟨hp i hi,rfl,rfl⟩,fun _ _ h => .inl h,fun _ _ _ h => h⟩
structure Ext (np : Nat) (M : Nat->Prop) (W0 : World) (κ0 : Ker) (M1 : Nat->Prop) (W1 : World) (κ1 : Ker) : Prop where
 only : Only M W0 W1
 sub : ∀ B,M1 B->M B
 up : ∀ B,W1.heap.size<=B->M1 B
 pin : ∀ i,i < np->(κ0.ρ i).isSome/\κ1.ρ i = κ0.ρ i/\κ1.cap i = κ0.cap i
 mm : ∀ x y,κ1.m x = some y->κ0.m x = some y \/ M x.block
 vv : ∀ q x y,κ0.mem q x = some y->κ1.mem q x = some y
theorem Ext.trans {M2 : Nat->Prop} {W2 : World} {κ2 : Ker} (e : Ext np M W0 κ0 M1 W1 κ1) (f : Ext np M1 W1 κ1 M2 W2 κ2) : Ext np M W0 κ0 M2 W2 κ2 :=
  ⟨e.only.trans (f.only.mono fun k _ h => e.sub k h),fun B h => e.sub B (f.sub B h),f.up,fun i hi => ⟨(e.pin i hi).1,(f.pin i hi).2.1.trans (e.pin i hi).2.1,(f.pin i hi).2.2.trans (e.pin i hi).2.2⟩,
   fun x y h => (f.mm x y h).elim (e.mm x y) fun h => .inr (e.sub _ h),fun q x y h => f.vv q x y (e.vv q x y h)⟩
theorem RRel.back (e : Ext np M W0 κ0 M1 W1 κ1) (r : RRel ds gl M1 W1 n np κ1 L κ s a w) : RRel ds gl M W0 n np κ0 L κ s a w :=
  ⟨r.env,r.size,r.defers,r.glob,r.heap.fewer fun B h _ => e.sub B h,e.only.trans (r.only.mono fun k _ h => e.sub k h),r.free,r.grho,
   fun i hi => ⟨(e.pin i hi).1,(r.pin i hi).2.1.trans (e.pin i hi).2.1,(r.pin i hi).2.2.trans (e.pin i hi).2.2⟩,fun x y h => (r.mm x y h).elim (e.mm x y) fun h => .inr (e.sub _ h),fun q x y h => r.vv q x y (e.vv q x y h)⟩
theorem RRel.ext (r : RRel ds gl M W0 n np κ0 L κ s a w) (hs : ∀ B,M1 B->M B) (hu : ∀ B,w.heap.size<=B->M1 B) : Ext np M W0 κ0 M1 w κ :=
 ⟨r.only,hs,hu,r.pin,r.mm,r.vv⟩
def v0j (h : H) : List AV->Option (List Nat × List AV)
 | [] => some ([],[])
 | .ptr i 0 _ 0::l => match h i with
  | some ⟨.cells [c],true,_⟩ => (v0j h l).map fun q => (i::q.1,c::q.2)
  | _ => none
 | _ => none
def oF : List Nat->List AV->List (Nat × Option ABlk)
 | i::is,c::cs => (i,some ⟨.cells [c],false,0⟩)::oF is cs
 | _,_ => []
def w0w (ad : Addr) : Value := .pointer (some ad)
theorem t8 (r : HRel M w κ h) : ∀ (caps : List AV) (us : List Value) (is : List Nat) (cs : List AV),v0j h caps = some (is,cs)->VRels κ caps us ->
  ∃ (ads : List Addr) (xs : List Value),us = ads.map w0w/\VRels κ cs xs/\ads.length = xs.length/\(∀ (j : Nat) (ad : Addr) (x : Value),ads[j]? = some ad->xs[j]? = some x->w.cell? ad = some x) /\
   (∀ ad ∈ ads,∃ i ∈ is,∃ O,κ.ρ i = some (ad.block,O))/\is.length = cs.length/\(∀ (j : Nat) (i : Nat) (c : AV),is[j]? = some i->cs[j]? = some c->∃ ow,h i = some ⟨.cells [c],true,ow⟩)
 | [],us,is,cs,hb,hv => by
  simp only [v0j,Option.some.injEq,Prod.mk.injEq] at hb
  obtain ⟨rfl,rfl⟩ := hb
  simp only [VRels] at hv
  subst hv
  exact ⟨[],[],rfl,rfl,rfl,by simp,by simp,rfl,by simp⟩
 | a::caps,us,is,cs,hb,hv => by
  unfold v0j at hb
  split at hb
  ·cases ‹a::caps = []›
  ·rename_i i sz l heq
   simp only [List.cons.injEq] at heq
   obtain ⟨rfl,rfl⟩ := heq
   split at hb
   ·rename_i c ow hi
    simp only [Option.map_eq_some_iff,Prod.mk.injEq] at hb
    obtain ⟨⟨is1,cs1⟩,hb,rfl,rfl⟩ := hb
    obtain ⟨x,xs0,rfl,⟨B,O,hρ,rfl⟩,hv⟩ := hv
    obtain ⟨ads,xs,rfl,h2,h3,h4,h5,h6,h7⟩ := t8 r _ xs0 is1 cs1 hb hv
    obtain ⟨B1,O1,e1,_,e3⟩ := r.blk i _ hi
    rw [hρ] at e1
    simp only [Option.some.injEq,Prod.mk.injEq] at e1
    obtain ⟨rfl,rfl⟩ := e1
    obtain ⟨⟨y,hy,hyv⟩,_⟩ := e3 0 c rfl
    refine ⟨⟨B,O + (0 * sz + 0),none⟩::ads,y::xs,rfl,⟨_,_,rfl,hyv,h2⟩,by simp [h3],?_,?_,by simp [h6],?_⟩
    ·intro j ad z hj hz
     cases j with
     | zero =>
      simp only [List.getElem?_cons_zero,Option.some.injEq] at hj hz
      subst hj hz
      simpa using hy
     | succ j => exact h4 j ad z (by simpa using hj) (by simpa using hz)
    ·intro ad had
     rcases List.mem_cons.1 had with rfl | had
     ·exact ⟨i,by simp,O,hρ⟩
     ·obtain ⟨i',h1,h2⟩ := h5 ad had
      exact ⟨i',by simp [h1],h2⟩
    ·intro j i' c' hj hc
     cases j with
     | zero =>
      simp only [List.getElem?_cons_zero,Option.some.injEq] at hj hc
      subst hj hc
      exact ⟨ow,hi⟩
     | succ j => exact h7 j i' c' (by simpa using hj) (by simpa using hc)
   ·cases hb
  ·cases hb
theorem R8 : ∀ (is : List Nat) (cs : List AV) (κ : Ker) (h : H),HRel M w κ h->is.Nodup->is.length = cs.length->(∀ (j : Nat) (i : Nat) (c : AV),is[j]? = some i->cs[j]? = some c->∃ ow,h i = some ⟨.cells [c],true,ow⟩) ->
  ∃ κ' : Ker,κ.le κ'/\κ'.ρ = κ.ρ/\κ'.cap = κ.cap/\HRel M w κ' (h.ups (oF is cs))/\(∀ i ∈ is,∀ B O p ad x,κ.ρ i = some (B,O)->ad.block = B->w.cell? ad = some x->κ'.mem p ad = some x)/\(∀ ad y,κ'.m ad = some y->κ.m ad = some y \/ M ad.block)
 | [],cs,κ,h,r,_,_,_ => ⟨κ,κ.le_refl,rfl,rfl,r,by simp,fun _ _ h => .inl h⟩
 | i::is,[],_,_,_,_,hl,_ => by simp at hl
 | i::is,c::cs,κ,h,r,hn,hl,hb => by
  obtain ⟨ow,hi⟩ := hb 0 i c rfl rfl
  obtain ⟨κ1,k1,k2,k3,k4,k5,k6⟩ := r.frz hi rfl
  have hn' := List.nodup_cons.1 hn
  have hlive : LiveB κ i ⟨.cells [c],true,ow⟩ := .inl ⟨0,c,rfl⟩
  obtain ⟨κ2,j1,j2,j3,j4,j5,j6⟩ := R8 is cs κ1 (upd h i (some ⟨.cells [c],false,0⟩)) k4 hn'.2 (by simpa using hl) fun j i' c' hj hc => by
   obtain ⟨ow',h'⟩ := hb (j + 1) i' c' (by simpa using hj) (by simpa using hc)
   refine ⟨ow',?_⟩
   have : i' ≠ i := fun e => hn'.1 (e ▸ List.mem_of_getElem? hj)
   unfold upd
   rw [if_neg this]
   exact h'
  refine ⟨κ2,Ker.le_trans k1 j1,j2.trans k2,j3.trans k3,j4,?_,fun ad y h => ?_⟩
  ·intro i' hi' B O p ad x hρ hB hx
   rcases List.mem_cons.1 hi' with rfl | hi'
   ·exact j1.mem p ad x (k5 p B O ad x hlive hρ hB hx)
   ·exact j5 i' hi' B O p ad x (by rw [k2]; exact hρ) hB hx
  ·rcases j6 ad y h with h | h
   ·exact k6 ad y h
   ·exact .inr h
def KpA (ads : List Addr) (A B : World) : Prop := ∀ ad ∈ ads,∀ x,A.cell? ad = some x->B.cell? ad = some x
abbrev IT := List AV->Option (List Prop × Nat × (Nat->List AV))
structure ITok (P : Program) (gf : Nat) (it : IT) : Prop where
 enter : ∀ args w,(callFunc gf args).run P w = .ok (.enter gf args) w
 goes : ∀ (cs : List AV) (ob : List Prop) (N : Nat) (el : Nat->List AV),it cs = some (ob,N,el)->zP ob->(∀ k,zT false (el k) = true) /\
  ∀ (κ : Ker) (w : World) (ads : List Addr) (xs : List Value),(∀ p a x,κ.mem p a = some x->w.cell? a = some x)->VRels κ cs xs->ads.length = xs.length->(∀ (j : Nat) (ad : Addr) (x : Value),ads[j]? = some ad->xs[j]? = some x->w.cell? ad = some x) ->
   ∃ encs : Nat->Array Value,(∀ k,k < N->VRels κ (el k) (encs k).toList)/\∀ m,SeqN none m P gf (ads.map w0w).toArray encs (KpA ads) N w
def pinA (np : Nat) : AV->AV
 | .ptr i x sz c => if i < np then .ptr i x sz c else .any
 | .slice i x sz n c nl => if i < np then .slice i x sz n c nl else .any
 | a => match a.data false with | true => a | false => .any
def sE (np : Nat) : List (Nat × AV)->List (Nat × AV)
 | [] => []
 | (t,a)::l => (t,pinA np a)::sE np l
def oG : List Tmp->List AV->Env->Env
 | t::ts,a::as,e => oG ts as (e.set t a)
 | _,_,e => e
theorem e1x (h1 : ∀ i,i < np->(κ0.ρ i).isSome/\κ1.ρ i = κ0.ρ i/\κ1.cap i = κ0.cap i) (hm : ∀ q x y,κ0.mem q x = some y->κ1.mem q x = some y) {a : AV} {v : Value} (hv : VRel κ0 a v) : VRel κ1 (pinA np a) v := by
 have dat : ∀ b : AV,VRel κ0 b v->VRel κ1 (match b.data false with | true => b | false => .any) v := by
  intro b hb
  cases e : b.data false with
  | true => exact VRel.data (p := false) (fun q a x _ h => hm q a x h) b v e hb
  | false => exact trivial
 unfold pinA
 split
 ·split
  ·rename_i hi
   obtain ⟨B,O,k1,k2⟩ := hv
   exact ⟨B,O,by rw [(h1 _ hi).2.1]; exact k1,k2⟩
  ·exact trivial
 ·split
  ·rename_i i x sz n c nl hi
   obtain ⟨ad,k,k1,k2,k3,k4,k5⟩ := hv
   obtain ⟨e0,e1,e2⟩ := h1 _ hi
   refine ⟨ad,k,k1,k2,k3,?_,?_⟩
   ·cases c with
    | kn m => exact k4
    | un => trivial
    | ow => exact ⟨k4.1,by rw [e2]; exact k4.2.1,by rw [e1]; exact k4.2.2⟩
    | os => exact ⟨k4.1,by rw [e2]; exact k4.2.1,by rw [e1]; exact k4.2.2⟩
    | ox => exact ⟨by rw [e2]; exact k4.1,by rw [e1]; exact k4.2⟩
   ·rcases k5 with ⟨B,O,j1,j2⟩ | h0
    ·exact .inl ⟨B,O,by rw [e1]; exact j1,j2⟩
    ·exact .inr h0
  ·exact trivial
 ·exact dat _ hv
theorem v0w (h1 : ∀ i,i < np->(κ0.ρ i).isSome/\κ1.ρ i = κ0.ρ i/\κ1.cap i = κ0.cap i) (hm : ∀ q x y,κ0.mem q x = some y->κ1.mem q x = some y) : ∀ (E : List (Nat × AV)),(∀ p ∈ E,p.1 < 2 ^ DE)->∀ {tm : Array Value},(∀ t,t < 2 ^ DE->VRel κ0 ((aI E).at t) (tm.getD t undef))->∀ t,t < 2 ^ DE->VRel κ1 ((aI (sE np E)).at t) (tm.getD t undef) := by
 have key : ∀ (E : List (Nat × AV)),(∀ p ∈ E,p.1 < 2 ^ DE)->∀ t,t < 2 ^ DE->(aI (sE np E)).at t = .any \/ (aI (sE np E)).at t = pinA np ((aI E).at t) := by
  intro E
  induction E with
  | nil => intro _ t ht; exact .inl (by simp [sE,aI,Env.at,Tr.get_nil])
  | cons p l ih =>
   obtain ⟨u,a⟩ := p
   intro hl t ht
   simp only [sE,aI]
   rw [Env.at_set _ _ (hl (u,a) (by simp)) ht,Env.at_set _ _ (hl (u,a) (by simp)) ht]
   split
   ·exact .inr rfl
   ·exact ih (fun q hq => hl q (by simp [hq])) t ht
 intro E hE tm h t ht
 rcases key E hE t ht with e | e <;> rw [e]
 ·exact trivial
 ·exact e1x h1 hm (h t ht)
end
end Go.Sym
namespace Go.Sym
def Vw.add (V : Vw) (i j : Nat) : Vw := if GB<=i then V else match look i V.σ with | some _ => V | none => { V with σ := V.σ++[(i,j)] }
def Vw.addNil (V : Vw) (i : Nat) : Vw := if V.nil.contains i then V else { V with nil := i::V.nil }
def Vw.addFz (V : Vw) (j : Nat) : Vw := if V.fz.contains j then V else { V with fz := j::V.fz }
mutual
def infA : AV->AV->Vw->Vw
 | .ptr i _ _ _,a,V => match a with | .ptr j _ _ _ => V.add i j | _ => V
 | .slice i _ _ _ c _,a,V => match a with | .slice j _ _ _ _ _ => V.add i j | .nils => V.addNil i | _ => V
 | .rb _ _ _,a,V => match a with | .slice j _ sz _ _ _ => (match sz with | 0 => V | _ => V.addFz j) | _ => V
 | .ros _ _ _ _ _,a,V => match a with | .slice j _ sz _ _ _ => (match sz with | 0 => V | _ => V.addFz j) | _ => V
 | .rp _ _,a,V => match a with | .ptr j _ _ _ => V.addFz j | _ => V
 | .agg cs,a,V => match a with | .agg ds => u0j cs ds V | _ => V
 | .tup cs,a,V => match a with | .tup ds => u0j cs ds V | _ => V
 | .fn _ x y,a,V => match a with | .fn _ x' y' => u0j y y' (u0j x x' V) | _ => V
 | .mp i,a,V => match a with | .mp j => V.add i j | _ => V
 | _,_,V => V
def u0j : List AV->List AV->Vw->Vw
 | [],_,V => V
 | a::as,bs,V => match bs with | [] => V | b::bs => u0j as bs (infA a b V)
end
def infC (c2 c : Con) (V : Vw) : Vw :=
 match c2,c with
 | .cells l2,.cells l => u0j l2 l V
 | _,_ => V
def infH (h : H) : List (Nat × ABlk)->Vw->Vw
 | [],V => V
 | (i,b2)::l,V => infH h l (match V.to i with | some j => (match h j with | some b => infC b2.con b.con V | none => V) | none => V)
def infE (e : Env) : List (Nat × AV)->Vw->Vw
 | [],V => V
 | (t,a)::l,V => infE e l (infA a (e.at t) V)
def infV (np : Nat) (s : AS) (e2 : List (Nat × AV)) (h2 : List (Nat × ABlk)) : Vw :=
 infH s.h.f h2 (infH s.h.f h2 (infH s.h.f h2 (infE s.env e2 ⟨(List.range np).map fun i => (i,i),[],[],false⟩)))
def qH {α : Type} : List Nat->(List Nat->α)->α
 | [],k => k []
 | a::l,k => yQ a fun a' => qH l fun l' => k (a'::l')
theorem wH {α : Type} : ∀ (l : List Nat) (k : List Nat->α),qH l k = k l
 | [],_ => rfl
 | a::l,k => by simp only [qH]; rw [yH,wH]
def aN {α : Type} : List (Nat × Nat)->(List (Nat × Nat)->α)->α
 | [],k => k []
 | (a,b)::l,k => yQ a fun a' => yQ b fun b' => aN l fun l' => k ((a',b')::l')
theorem oH {α : Type} : ∀ (l : List (Nat × Nat)) (k : List (Nat × Nat)->α),aN l k = k l
 | [],_ => rfl
 | (a,b)::l,k => by simp only [aN]; rw [yH,yH,oH]
def lI {α : Type} (V : Vw) (k : Vw->α) : α := aN V.σ fun σ => qH V.nil fun nl => qH V.fz fun fz => k ⟨σ,nl,fz,V.tmp⟩
theorem H9 {α : Type} (V : Vw) (k : Vw->α) : lI V k = k V := by unfold lI; rw [oH,wH,wH]
def uH (np : Nat) (s : AS) (e2 : List (Nat × AV)) (h2 : List (Nat × ABlk)) (nx : Nat) : Prop := lI (infV np s e2 h2) fun V => t6 np V s e2 h2 nx
theorem uZ {np : Nat} {s : AS} {e2 : List (Nat × AV)} {h2 : List (Nat × ABlk)} {nx : Nat} (h : uH np s e2 h2 nx) : t6 np (infV np s e2 h2) s e2 h2 nx := by
 unfold uH at h; rwa [H9] at h
inductive WeakS (np : Nat) : AS->AS->Prop where
 | refl (s : AS) : WeakS np s s
 | to {s : AS} {V : Vw} {e2 : List (Nat × AV)} {h2 : List (Nat × ABlk)} {nx : Nat} {s3 : AS} : t6 np V s e2 h2 nx->WeakS np (mkS e2 h2 nx) s3->WeakS np s s3
theorem WeakS.one {np : Nat} {s : AS} {V : Vw} {e2 : List (Nat × AV)} {h2 : List (Nat × ABlk)} {nx : Nat} (h : t6 np V s e2 h2 nx) : WeakS np s (mkS e2 h2 nx) := .to h (.refl _)
inductive Kn where
 | s (c : Code)
 | b (id : Nat)
 | l (c : Code)
abbrev Rec := Code->List Kn->(Exit->AS->Prop)->AS->Prop
def oI (rec : Rec) (Q : Exit->AS->Prop) : List Kn->AS->Prop
 | [],s => Q .normal s
 | .s c::ks,s => rec c ks Q s
 | .b _::ks,s => oI rec Q ks s
 | .l c::ks,s => rec c (.l c::ks) Q s
def jO (rec : Rec) (Q : Exit->AS->Prop) (id : Nat) : List Kn->AS->Prop
 | [],s => Q (.exit id) s
 | .s _::ks,s => jO rec Q id ks s
 | .l _::ks,s => jO rec Q id ks s
 | .b i::ks,s => match Nat.beq id i with | true => oI rec Q ks s | false => jO rec Q id ks s
def wJ (rec : Rec) (Q : Exit->AS->Prop) (ks : List Kn) (e : Exit) (s : AS) : Prop :=
 match e with
 | .normal => oI rec Q ks s
 | .exit id => jO rec Q id ks s
 | e => Q e s
def k1w (np : Nat) (rec : Rec) (c : Code) (ks : List Kn) (Q : Exit->AS->Prop) (s : AS) : Prop :=
 ∃ I : Nat->AS->Prop,(∃ k s2,WeakS np s s2/\I k s2)/\∀ k s,I k s->rec c [] (fun e s' => match e with | .normal => ∃ k' s2,k' < k/\WeakS np s' s2/\I k' s2 | e => wJ rec Q ks e s') s
def joinP (np : Nat) (rec : Rec) (c : Operand) (a b : Code) (ks : List Kn) (Q : Exit->AS->Prop) (s : AS) : Prop :=
 ∃ I : AS->Prop,(match aeval s.env c with
  | .bool t => lP t (rec a [] (fun e s' => match e with | .normal => ∃ s2,WeakS np s' s2/\I s2 | e => wJ rec Q ks e s') s) (rec b [] (fun e s' => match e with | .normal => ∃ s2,WeakS np s' s2/\I s2 | e => wJ rec Q ks e s') s)
  | _ => False)/\∀ s,I s->oI rec Q ks s
def cutP (np : Nat) (P : Program) (Γ : Ctx) (n : Nat) (draw : Bool) (ops : Array Oper) (K : AS->Prop) (s : AS) : Prop :=
 ∃ I : AS->Prop,mS P Γ draw ops n ops.toList 0 [] s (fun s' => ∃ s2,WeakS np (s'.bump ops.size) s2/\I s2)/\∀ s,I s->K s
def I0 (np np' : Nat) (K : List (Nat × ABlk)) : Bool := decide (np<=np') && (List.range (np' - np)).all fun i => K.any fun p => Nat.beq p.1 (np + i)
def I1 (E : List (Nat × AV)) : Bool := E.all fun p => decide (p.1 < 2 ^ DE)
def u0w (E : List (Nat × AV)) (K : List (Nat × ABlk)) (nx : Nat) (ps : List Tmp) (el : List AV) : AS := ⟨oG ps el (aI E),jD K,nx⟩
def rF (np : Nat) (E : List (Nat × AV)) (s : AS) : AS := ⟨aI (sE np E),s.h,s.nx⟩
def k0w (np' nx : Nat) (I : Nat->List (Nat × AV)->List (Nat × ABlk)->Prop) (E : List (Nat × AV)) (k : Nat) (ck : Exit->AS->Prop) (e : Exit) (s3 : AS) : Prop :=
 match e with
 | .normal => ∃ E' K',I (k + 1) E' K'/\uH np' (rF np' E s3) E' K' nx
 | .ret => ck .ret (rF np' E s3)
 | .exit i => ck (.exit i) (rF np' E s3)
 | _ => False
def asgQ (next : AS->Prop) (e : Exit) (s1 : AS) : Prop :=
 match e with
 | .normal => next s1
 | _ => False
def wW (P : Program) (Γ : Ctx) (n np : Nat) : Nat->Rec
 | 0,_,_,_,_ => False
 | f + 1,c,ks,Q,s =>
  match c with
  | .skip => oI (wW P Γ n np f) Q ks s
  | .label _ => oI (wW P Γ n np f) Q ks s
  | .region _ ops draw => cutP np P Γ n draw ops (oI (wW P Γ n np f) Q ks) s \/ mS P Γ draw ops n ops.toList 0 [] s (fun s' => yQ (s'.nx + xI * ops.size) fun nx => oI (wW P Γ n np f) Q ks ⟨s'.env,s'.h,nx⟩)
  | .seq a b => wW P Γ n np f a (.s b::ks) Q s
  | .cond c a b => joinP np (wW P Γ n np f) c a b ks Q s \/ (match aeval s.env c with | .bool t => lP t (wW P Γ n np f a ks Q s) (wW P Γ n np f b ks Q s) | _ => False)
  | .block id c => wW P Γ n np f c (.b id::ks) Q s
  | .exit id => jO (wW P Γ n np f) Q id ks s
  | .ret => Q .ret s
  | .loop c => k1w np (wW P Γ n np f) c ks Q s \/ wW P Γ n np f c (.l c::ks) Q s
  | .rangeFunc g ps as bd => ∃ (gf : FuncId) (caps : List AV) (it : IT) (is : List Nat) (cs : List AV) (ob : List Prop) (N : Nat) (el : Nat->List AV) (np' nx : Nat) (I : Nat->List (Nat × AV)->List (Nat × ABlk)->Prop),
    aeval s.env g = .fn gf [] caps/\ITok P gf it/\v0j s.h.f caps = some (is,cs)/\(jN is && is.all (fun i => decide (i < 2 ^ DH)) && ps.toList.all (fun p => decide (p < n))) = true/\it cs = some (ob,N,el)/\zP ob/\(∀ k,k < N->(el k).length = ps.size) /\
    (∃ E K,I 0 E K/\I0 np np' K = true/\uH np ⟨s.env,s.h.ups (oF is cs),s.nx⟩ E K nx)/\(∀ k E K,I k E K->I1 E = true) /\
    (∀ k E K,k < N->I k E K->wW P Γ n np' f as [] (asgQ fun s1 => wW P Γ n np' f bd [] (k0w np' nx I E k (wJ (wW P Γ n np f) Q ks)) s1) (u0w E K nx ps.toList (el k))) /\
    (∀ E K,I N E K->oI (wW P Γ n np f) Q ks (mkS E K nx))
  | _ => False
def vK (b : Bool) : Code->Bool
 | .region _ ops draw => u1j ops draw
 | .seq x y => vK b x && vK b y
 | .cond c x y => (match c with | .tmp t => decide (t < 2 ^ DE) | _ => true) && vK b x && vK b y
 | .block _ c => vK b c
 | .loop c => vK b c
 | .skip | .label _ | .exit _ | .ret => true
 | .rangeFunc g _ x y => b && (match g with | .tmp t => decide (t < 2 ^ DE) | _ => true) && vK false x && vK false y
 | _ => false
def knB (b : Bool) : List Kn->Bool
 | [] => true
 | .s c::ks => vK b c && knB b ks
 | .b _::ks => knB b ks
 | .l c::ks => vK b c && knB b ks
def j0w (c : Code) : Bool := vK true c
section
variable {P : Program} {Γ : Ctx} {n np : Nat} {κ0 : Ker} {gl : Gl} {M : Nat->Prop} {W0 : World}
theorem RRel.weakS {ds : List Deferred} {s s2 : AS} {a : Act} {w : World} (hw : WeakS np s s2) : ∀ {κ : Ker},RRel ds gl M W0 n np κ0 (fun _ => True) κ s a w->∃ κ2,RRel ds gl M W0 n np κ0 (fun _ => True) κ2 s2 a w := by
 induction hw with
 | refl s => intro κ r; exact ⟨κ,r⟩
 | to h1 _ ih => intro κ r; obtain ⟨κ2,r2⟩ := r.weak h1; exact ih r2
def Exd (b : Bool) (np : Nat) (M : Nat->Prop) (W0 : World) (κ0 : Ker) (ds : List Deferred) (M1 : Nat->Prop) (W1 : World) (κ1 : Ker) (ds1 : List Deferred) : Prop :=
 (M1 = M/\W1 = W0/\κ1 = κ0/\ds1 = ds) \/
 (b = true/\Ext np M W0 κ0 M1 W1 κ1/\∃ Ds : List Nat,ds1 = Ds.map bP++ds/\Ds.Nodup/\∀ D ∈ Ds,W0.heap.size<=D/\¬ M1 D/\W1.heap[D]? = some (.deferred (some [])))
theorem Exd.refl (b : Bool) (np : Nat) (M : Nat->Prop) (W0 : World) (κ0 : Ker) (ds : List Deferred) : Exd b np M W0 κ0 ds M W0 κ0 ds := .inl ⟨rfl,rfl,rfl,rfl⟩
theorem Exd.trans {b : Bool} {M1 M2 : Nat->Prop} {W1 W2 : World} {κ1 κ2 : Ker} {ds ds1 ds2 : List Deferred} (h : Exd b np M W0 κ0 ds M1 W1 κ1 ds1) (k : Exd b np M1 W1 κ1 ds1 M2 W2 κ2 ds2) : Exd b np M W0 κ0 ds M2 W2 κ2 ds2 := by
 rcases h with ⟨rfl,rfl,rfl,rfl⟩ | ⟨hb,e1,D1,rfl,n1,h1⟩
 ·exact k
 ·rcases k with ⟨rfl,rfl,rfl,rfl⟩ | ⟨_,e2,D2,rfl,n2,h2⟩
  ·exact .inr ⟨hb,e1,D1,rfl,n1,h1⟩
  ·refine .inr ⟨hb,e1.trans e2,D2++D1,by simp,?_,?_⟩
   ·refine List.nodup_append.2 ⟨n2,n1,fun x hx y hy e => ?_⟩
    subst e
    have h3 := (h2 x hx).1
    have h4 := (Array.getElem?_eq_some_iff.1 (h1 x hy).2.2).1
    omega
   ·intro D hD
    rcases List.mem_append.1 hD with hD | hD
    ·obtain ⟨k1,k2,k3⟩ := h2 D hD
     exact ⟨Nat.le_trans e1.only.size k1,k2,k3⟩
    ·obtain ⟨k1,k2,k3⟩ := h1 D hD
     refine ⟨k1,fun h => k2 (e2.sub D h),?_⟩
     rw [e2.only.block D (Array.getElem?_eq_some_iff.1 k3).1 k2]
     exact k3
def oJ (b : Bool) (P : Program) (Γ : Ctx) (gl : Gl) (M : Nat->Prop) (W0 : World) (n np : Nat) (κ0 : Ker) (ds : List Deferred) (F : Nat) (ks : List Kn) (Q : Exit->AS->Prop) (e : Exit) (a : Act) (w : World) : Prop :=
 ∃ M1 W1 κ1 ds1,Exd b np M W0 κ0 ds M1 W1 κ1 ds1/\sC gl M1/\(∀ B,W1.heap.size<=B->M1 B)/\∃ f κ s,f < F/\wJ (wW P Γ n np f) Q ks e s/\RRel ds1 gl M1 W1 n np κ1 (fun _ => True) κ s a w
def LiftQ (b : Bool) (gl : Gl) (M : Nat->Prop) (W0 : World) (n np : Nat) (κ0 : Ker) (ds : List Deferred) (Q : Exit->AS->Prop) (e : Exit) (a : Act) (w : World) : Prop :=
 ∃ M1 W1 κ1 ds1,Exd b np M W0 κ0 ds M1 W1 κ1 ds1/\sC gl M1/\(∀ B,W1.heap.size<=B->M1 B)/\∃ κ s,Q e s/\RRel ds1 gl M1 W1 n np κ1 (fun _ => True) κ s a w
theorem t9 {κ : Ker} : ∀ (ps : List Tmp) (el : List AV) (vs : List Value) (e : Env) (tm : Array Value),(∀ p ∈ ps,p < 2 ^ DE/\p < tm.size)->VRels κ el vs->(∀ t,t < 2 ^ DE->VRel κ (e.at t) (tm.getD t undef)) ->
  ∀ t,t < 2 ^ DE->VRel κ ((oG ps el e).at t) (((ps.zip vs).foldl (fun (t : Array Value) (x : Tmp × Value) => t.setIfInBounds x.1 x.2) tm).getD t undef)
 | [],_,_,_,_,_,_,h => by simpa [oG] using h
 | p::ps,[],vs,e,tm,_,hv,h => by
  simp only [VRels] at hv
  subst hv
  simpa [oG] using h
 | p::ps,a::el,vs,e,tm,hp,hv,h => by
  obtain ⟨x,xs,rfl,hx,hxs⟩ := hv
  simp only [oG,List.zip_cons_cons,List.foldl_cons]
  obtain ⟨h1,h2⟩ := hp p (by simp)
  refine t9 ps el xs _ _ (fun q hq => ⟨(hp q (by simp [hq])).1,by simpa using (hp q (by simp [hq])).2⟩) hxs fun t ht => ?_
  rw [Env.at_set _ _ h1 ht]
  split
  ·rename_i he
   subst he
   simpa [Array.getD,h2] using hx
  ·rename_i hne
   have : (tm.setIfInBounds p x).getD t undef = tm.getD t undef := by
    simp only [Array.getD_eq_getD_getElem?,Array.getElem?_setIfInBounds_ne (Ne.symm hne)]
   rw [this]
   exact h t ht
theorem rG : ∀ (l : List (Tmp × Value)) (tm : Array Value),(l.foldl (fun (t : Array Value) (x : Tmp × Value) => t.setIfInBounds x.1 x.2) tm).size = tm.size
 | [],_ => rfl
 | p::l,tm => by rw [List.foldl_cons,rG l]; simp
-- SOUND
theorem u5 : ∀ (l : List (Nat × ABlk)),(∀ p ∈ l,p.1 < 2 ^ DH)->∀ p ∈ l,∃ b,(jD l).f p.1 = some b
 | [],_,p,hp => by simp at hp
 | (i,b)::l,hl,p,hp => by
  simp only [jD]
  rw [HT.f_put _ _ _ (hl (i,b) (by simp))]
  unfold upd
  by_cases c : p.1 = i
  ·rw [if_pos c]; exact ⟨b,rfl⟩
  ·rw [if_neg c]
   rcases List.mem_cons.1 hp with rfl | hp
   ·exact absurd rfl c
   ·exact u5 l (fun q hq => hl q (by simp [hq])) p hp
theorem Ext.le {np' : Nat} {M1 : Nat->Prop} {W1 : World} {κ1 : Ker} (e : Ext np' M W0 κ0 M1 W1 κ1) (h : np<=np') : Ext np M W0 κ0 M1 W1 κ1 :=
 ⟨e.only,e.sub,e.up,fun i hi => e.pin i (by omega),e.mm,e.vv⟩
theorem sF (hΓ : COKs P gl Γ) (hn : n<=2 ^ DE) (hmix : P.follows .mixedOrders = true) :
    ∀ (N F f : Nat),F<=N->f<=F->∀ (b : Bool) (rd : Option Nat) (np dp : Nat),(b = true->rd = none)->∀ (c : Code) (ks : List Kn) (Q : Exit->AS->Prop) (s : AS),vK b c = true->knB b ks = true->wW P Γ n np f c ks Q s ->
      ∀ (M : Nat->Prop) (W0 : World) (κ0 : Ker) (ds : List Deferred),sC gl M->(∀ B,W0.heap.size<=B->M B)->∀ (κ : Ker) (a : Act) (w : World),RRel ds gl M W0 n np κ0 (fun _ => True) κ s a w ->
      c.wpIn (FW rd) dp P (oJ b P Γ gl M W0 n np κ0 ds F ks Q) a w := by
  intro N
  induction N with
  | zero =>
    intro F f hF hf b rd np dp hb c ks Q s _ _ h
    obtain rfl : f = 0 := by omega
    simp only [wW] at h
  | succ N ih =>
    intro F f hFN hf b rd np dp hb c ks Q s hok hks h M W0 κ0 ds hMG hup κ a w r
    cases f with
    | zero => simp only [wW] at h
    | succ f =>
      obtain ⟨F,rfl⟩ : ∃ G,F = G + 1 := ⟨F - 1,by omega⟩
      have hfF : f<=F := by omega
      have ihF := fun f hf => ih F f (by omega) hf b rd np dp hb
      have up : ∀ {ks : List Kn} {Q : Exit->AS->Prop} {e a w} {M1 W1 κ1 ds1},Exd b np M W0 κ0 ds M1 W1 κ1 ds1->oJ b P Γ gl M1 W1 n np κ1 ds1 F ks Q e a w->oJ b P Γ gl M W0 n np κ0 ds (F + 1) ks Q e a w := by
        rintro ks Q e a w M1 W1 κ1 ds1 hx ⟨M2,W2,κ2,ds2,hx2,h1,h2,f',κ',s',h3,h4,h5⟩
        exact ⟨M2,W2,κ2,ds2,hx.trans hx2,h1,h2,f',κ',s',by omega,h4,h5⟩
      have here : ∀ {ks : List Kn} {Q : Exit->AS->Prop} {e : Exit} {a : Act} {w : World} {κ : Ker} {s : AS} (g : Nat),g < F + 1->wJ (wW P Γ n np g) Q ks e s->RRel ds gl M W0 n np κ0 (fun _ => True) κ s a w->oJ b P Γ gl M W0 n np κ0 ds (F + 1) ks Q e a w :=
        fun g hg hc r => ⟨M,W0,κ0,ds,Exd.refl _ _ _ _ _ _,hMG,hup,g,_,_,hg,hc,r⟩
      cases c with
      | skip => exact wpIn_skip (here f (by omega) h r)
      | label l => exact wpIn_label (here f (by omega) h r)
      | region id ops draw =>
        simp only [wW] at h
        rcases h with ⟨I,h,hI⟩ | h
        · refine cA (Q := fun s' => ∃ s2,WeakS np s' s2/\I s2) hΓ hMG hup hn hmix (by simpa [vK] using hok) (fun κ s a w h1 r1 => ?_) r h
          obtain ⟨s2,hw2,hI2⟩ := h1
          obtain ⟨κ2,r2⟩ := r1.weakS hw2
          exact here (e := .normal) f (by omega) (hI _ hI2) r2
        refine cA (Q := fun s' => oI (wW P Γ n np f) Q ks s') hΓ hMG hup hn hmix (by simpa [vK] using hok) (fun κ s a w h1 r1 => here (e := .normal) f (by omega) h1 r1) r ?_
        have e : (fun s' : AS => yQ (s'.nx + xI * ops.size) fun nx => oI (wW P Γ n np f) Q ks ⟨s'.env,s'.h,nx⟩) = (fun s' : AS => oI (wW P Γ n np f) Q ks (s'.bump ops.size)) := by
          funext s'; rw [yH]; rfl
        rwa [e] at h
      | seq x y =>
        simp only [wW] at h
        simp only [vK,Bool.and_eq_true] at hok
        refine wpIn_seq (wpIn_mono (ihF f hfF x (.s y::ks) Q s hok.1 (by simp [knB,hok.2,hks]) h M W0 κ0 ds hMG hup κ a w r) ?_)
        rintro e a' w' ⟨M1,W1,κ1,ds1,hx,k1,k2,f',κ',s',h1,h2,r'⟩
        cases e with
        | normal => exact wpIn_mono (ihF f' (by omega) y ks Q s' hok.2 hks h2 M1 W1 κ1 ds1 k1 k2 κ' a' w' r') fun _ _ _ h => up hx h
        | exit i => exact ⟨M1,W1,κ1,ds1,hx,k1,k2,f',κ',s',by omega,h2,r'⟩
        | _ => exact ⟨M1,W1,κ1,ds1,hx,k1,k2,f',κ',s',by omega,h2,r'⟩
      | cond c x y =>
        simp only [wW] at h
        simp only [vK,Bool.and_eq_true] at hok
        rcases h with ⟨I,h,hI⟩ | h
        · split at h
          · rename_i t ht
            have hv := fC r c (fun u hu => by
              have := hok.1.1
              rw [hu] at this
              simpa using this)
            rw [ht] at hv
            simp only [VRel] at hv
            refine wpIn_cond hv ?_
            have out : ∀ e a2 w2,oJ b P Γ gl M W0 n np κ0 ds F [] (fun e s' => match e with | .normal => ∃ s2,WeakS np s' s2/\I s2 | e => wJ (wW P Γ n np f) Q ks e s') e a2 w2->oJ b P Γ gl M W0 n np κ0 ds (F + 1) ks Q e a2 w2 := by
              rintro e a2 w2 ⟨M1,W1,κ1,ds1,hx,k1,k2,f',κ3,s3,h1,h3,r3⟩
              cases e with
              | normal =>
                obtain ⟨s4,hw4,hI4⟩ := h3
                obtain ⟨κ4,r4⟩ := r3.weakS hw4
                exact ⟨M1,W1,κ1,ds1,hx,k1,k2,f,κ4,s4,by omega,hI _ hI4,r4⟩
              | _ => exact ⟨M1,W1,κ1,ds1,hx,k1,k2,f,κ3,s3,by omega,h3,r3⟩
            cases t
            · exact wpIn_mono (ihF f hfF y [] _ s hok.2 rfl h M W0 κ0 ds hMG hup κ a w r) out
            · exact wpIn_mono (ihF f hfF x [] _ s hok.1.2 rfl h M W0 κ0 ds hMG hup κ a w r) out
          · exact h.elim
        split at h
        · rename_i t ht
          have hv := fC r c (fun u hu => by
            have := hok.1.1
            rw [hu] at this
            simpa using this)
          rw [ht] at hv
          simp only [VRel] at hv
          refine wpIn_cond hv ?_
          cases t
          · exact wpIn_mono (ihF f hfF y ks Q s hok.2 hks h M W0 κ0 ds hMG hup κ a w r) fun _ _ _ h => up (Exd.refl _ _ _ _ _ _) h
          · exact wpIn_mono (ihF f hfF x ks Q s hok.1.2 hks h M W0 κ0 ds hMG hup κ a w r) fun _ _ _ h => up (Exd.refl _ _ _ _ _ _) h
        · exact h.elim
      | block id c =>
        simp only [wW] at h
        refine wpIn_block (wpIn_mono (ihF f hfF c (.b id::ks) Q s (by simpa [vK] using hok) (by simpa [knB] using hks) h M W0 κ0 ds hMG hup κ a w r) ?_)
        rintro e a' w' ⟨M1,W1,κ1,ds1,hx,k1,k2,f',κ',s',h1,h2,r'⟩
        cases e with
        | exit i =>
          simp only [wJ,jO] at h2
          simp only [Exit.inBlock]
          split
          · rename_i he
            have : Nat.beq i id = true := by rw [he]; exact Nat.beq_refl id
            rw [this] at h2
            exact ⟨M1,W1,κ1,ds1,hx,k1,k2,f',κ',s',by omega,h2,r'⟩
          · rename_i he
            have : Nat.beq i id = false := by
              cases hb : Nat.beq i id with
              | false => rfl
              | true => exact absurd (Nat.eq_of_beq_eq_true hb) he
            rw [this] at h2
            exact ⟨M1,W1,κ1,ds1,hx,k1,k2,f',κ',s',by omega,h2,r'⟩
        | _ => exact ⟨M1,W1,κ1,ds1,hx,k1,k2,f',κ',s',by omega,h2,r'⟩
      | exit id => exact wpIn_exit (here f (by omega) h r)
      | ret => exact wpIn_ret (here f (by omega) h r)
      | loop c =>
        simp only [wW] at h
        have hokc : vK b c = true := by simpa [vK] using hok
        rcases h with h | h
        · obtain ⟨I,⟨k0,s2,hw,hI⟩,hround⟩ := h
          obtain ⟨κ2,r2⟩ := r.weakS hw
          refine wpIn_loop_ghost (fun k a w => ∃ M1 W1 κ1 ds1,Exd b np M W0 κ0 ds M1 W1 κ1 ds1/\sC gl M1/\(∀ B,W1.heap.size<=B->M1 B)/\∃ κ s,I k s/\RRel ds1 gl M1 W1 n np κ1 (fun _ => True) κ s a w) k0 ⟨M,W0,κ0,ds,Exd.refl _ _ _ _ _ _,hMG,hup,κ2,s2,hI,r2⟩ ?_
          rintro k a' w' ⟨M1,W1,κ1,ds1,hx,k1,k2,κ',s',hI',r'⟩
          refine wpIn_mono (ihF f hfF c [] _ s' hokc rfl (hround k s' hI') M1 W1 κ1 ds1 k1 k2 κ' a' w' r') ?_
          rintro e a2 w2 ⟨M2,W2,κ2,ds2,hx2,j1,j2,f',κ3,s3,h1,h3,r3⟩
          cases e with
          | normal =>
            obtain ⟨k',s4,hk,hw4,hI4⟩ := h3
            obtain ⟨κ4,r4⟩ := r3.weakS hw4
            exact ⟨k',hk,M2,W2,κ2,ds2,hx.trans hx2,j1,j2,κ4,s4,hI4,r4⟩
          | _ => exact ⟨M2,W2,κ2,ds2,hx.trans hx2,j1,j2,f,κ3,s3,by omega,h3,r3⟩
        · refine wpIn_loop_ghost (fun k a w => ∃ M1 W1 κ1 ds1,Exd b np M W0 κ0 ds M1 W1 κ1 ds1/\sC gl M1/\(∀ B,W1.heap.size<=B->M1 B)/\∃ f' κ s,f' = k/\f'<=F/\wW P Γ n np f' c (.l c::ks) Q s/\RRel ds1 gl M1 W1 n np κ1 (fun _ => True) κ s a w) f ⟨M,W0,κ0,ds,Exd.refl _ _ _ _ _ _,hMG,hup,f,κ,s,rfl,hfF,h,r⟩ ?_
          rintro k a' w' ⟨M1,W1,κ1,ds1,hx,k1,k2,f',κ',s',rfl,hfF',h',r'⟩
          refine wpIn_mono (ih f' f' (by omega) (Nat.le_refl _) b rd np dp hb c (.l c::ks) Q s' hokc (by simp [knB,hokc,hks]) h' M1 W1 κ1 ds1 k1 k2 κ' a' w' r') ?_
          rintro e a2 w2 ⟨M2,W2,κ2,ds2,hx2,j1,j2,f2,κ3,s3,h1,h3,r3⟩
          cases e with
          | normal => exact ⟨f2,h1,M2,W2,κ2,ds2,hx.trans hx2,j1,j2,f2,κ3,s3,rfl,by omega,h3,r3⟩
          | _ => exact ⟨M2,W2,κ2,ds2,hx.trans hx2,j1,j2,f2,κ3,s3,by omega,h3,r3⟩
      | rangeFunc fo ps as bd =>
        simp only [vK,Bool.and_eq_true] at hok
        obtain ⟨⟨⟨hbt,hfo⟩,hoka⟩,hokb⟩ := hok
        obtain rfl := hb hbt
        subst hbt
        simp only [wW] at h
        obtain ⟨gf,caps,it,is,cs,ob,N1,el,np',nx,I,hg,hit,hbx,hchk,hseq,hob,hell,⟨E0,K0,hI0,hpin0,hwk0⟩,hsm,hround,hend⟩ := h
        simp only [Bool.and_eq_true,List.all_eq_true,decide_eq_true_eq] at hchk
        obtain ⟨⟨hnd,his⟩,hps⟩ := hchk
        -- the function's value
        have hv := fC r fo (fun u hu => by rw [hu] at hfo; simpa using hfo)
        rw [hg] at hv
        obtain ⟨vs,us,hva,hv1,hv2⟩ := hv
        have hvs : vs = #[] := by
          have : vs.toList = [] := hv1
          simpa using this
        subst hvs
        obtain ⟨ads,xs,hus,hxs,hlen,hcell,hadi,hil,hih⟩ := t8 r.heap caps us.toList is cs hbx hv2
        obtain ⟨hdat,hgo⟩ := hit.goes cs ob N1 el hseq hob
        obtain ⟨encs,henc,hsq⟩ := hgo κ w ads xs (fun p ad x hx => by cases p; exact r.heap.mem ad x hx; exact r.heap.mem ad x (κ.sub ad x hx)) hxs hlen hcell
        have hlb : us = (ads.map w0w).toArray := by rw [<- hus]
        -- the captured cells are not written any more
        obtain ⟨κ1,e1,e2,e3,e4,e5,e6⟩ := R8 is cs κ s.h.f r.heap (uR _ hnd) hil hih
        have hfu : (s.h.ups (oF is cs)).f = s.h.f.ups (oF is cs) := by
          refine HT.f_ups _ _ fun p hp => ?_
          have : ∀ (is : List Nat) (cs : List AV),(∀ i ∈ is,i < 2 ^ DH)->∀ p ∈ oF is cs,p.1 < 2 ^ DH := by
            intro is
            induction is with
            | nil => intro cs _ p hp; simp [oF] at hp
            | cons i is ih =>
              intro cs hi p hp
              cases cs with
              | nil => simp [oF] at hp
              | cons c cs =>
                simp only [oF,List.mem_cons] at hp
                rcases hp with rfl | hp
                · exact hi i (by simp)
                · exact ih cs (fun j hj => hi j (by simp [hj])) p hp
          exact this is cs his p hp
        have rA : RRel ds gl M w n np κ1 (fun _ => True) κ1 ⟨s.env,s.h.ups (oF is cs),s.nx⟩ a w :=
          ⟨fun t ht => (r.env t ht).mono e1,r.size,r.defers,r.glob,by rw [hfu]; exact e4,Only.refl _ _,fun j hj i k1 k2 k3 => by rw [e2]; exact r.free j hj i k1 k2 k3,fun g => by rw [e2]; exact r.grho g,
           fun i hi => ⟨by rw [e2,(r.pin i hi).2.1]; exact (r.pin i hi).1,rfl,rfl⟩,fun _ _ h => .inl h,fun _ _ _ h => h⟩
        obtain ⟨κ2,rB⟩ := rA.weak (uZ hwk0)
        have extA : Ext np M W0 κ0 M w κ1 := ⟨r.only,fun _ h => h,fun B hB => hup B (Nat.le_trans r.only.size hB),fun i hi => ⟨(r.pin i hi).1,by rw [e2]; exact (r.pin i hi).2.1,by rw [e3]; exact (r.pin i hi).2.2⟩,
          fun x y h => (e6 x y h).elim (r.mm x y) .inr,fun q x y h => e1.mem q x y (r.vv q x y h)⟩
        have hupw : ∀ B,w.heap.size<=B->M B := fun B hB => hup B (Nat.le_trans r.only.size hB)
        have extB : Ext np M W0 κ0 M w κ2 := extA.trans (rB.ext (fun _ h => h) hupw)
        simp only [I0,Bool.and_eq_true,decide_eq_true_eq,List.all_eq_true,List.mem_range,List.any_eq_true] at hpin0
        obtain ⟨hnp,hpins⟩ := hpin0
        have hDH : GB < 2 ^ DH := by unfold GB DH; omega
        have hsome : ∀ i,i < np'->(κ2.ρ i).isSome := by
          intro i hi
          rcases Nat.lt_or_ge i np with hlt | hge
          · rw [(rB.pin i hlt).2.1]; exact (rB.pin i hlt).1
          · obtain ⟨p,hp,hpe⟩ := hpins (i - np) (by omega)
            have hpe : p.1 = i := by
              have := Nat.eq_of_beq_eq_true hpe
              omega
            have hok2 := (xR.1 (uZ hwk0)).1
            rw [Bool.and_eq_true] at hok2
            have hok3 := hok2.1
            simp only [okV,Bool.and_eq_true,List.all_eq_true,decide_eq_true_eq] at hok3
            have hlt2 := hok3.2
            have hb2 : ∃ b2,(jD K0).f i = some b2 := by
              obtain ⟨b2,h2⟩ := u5 K0 (fun p hp => hlt2 p hp) p hp
              rw [hpe] at h2
              exact ⟨b2,h2⟩
            obtain ⟨b2,hb2⟩ := hb2
            obtain ⟨p2,hp2⟩ := rB.heap.named (h := (jD K0).f) hb2
            rw [hp2]; rfl
        have rC : RRel ds gl M w n np' κ2 (fun _ => True) κ2 (mkS E0 K0 nx) a w := rB.base hsome fun _ h _ => h
        have hkeep : ∀ (κx : Ker),(∀ q x y,κ2.mem q x = some y->κx.mem q x = some y)->∀ q x y,κ.mem q x = some y->κx.mem q x = some y := fun κx hx q x y h => hx q x y (rB.vv q x y (e1.mem q x y h))
        have hboxv : ∀ (κx : Ker) (W : World),(∀ q x y,κ2.mem q x = some y->κx.mem q x = some y)->(∀ ad x,κx.v ad = some x->W.cell? ad = some x)->∀ ad ∈ ads,∀ x,w.cell? ad = some x->W.cell? ad = some x := by
          intro κx W hx hW ad had x hc
          obtain ⟨i,hi,O,hρ⟩ := hadi ad had
          exact hW ad x (hx false ad x (rB.vv false ad x (e5 i hi ad.block O false ad x hρ rfl hc)))
        have hval : ∀ ad ∈ ads,∃ x,w.cell? ad = some x := by
          intro ad had
          obtain ⟨j,hj⟩ := List.getElem?_of_mem had
          have hjl : j < xs.length := by rw [<- hlen]; exact (List.getElem?_eq_some_iff.1 hj).1
          exact ⟨xs[j],hcell j ad _ hj (List.getElem?_eq_getElem hjl)⟩
        -- a round's code, on a ground of its own
        have ground : ∀ {W : World} {κ3 : Ker} {s3 : AS} {a3 : Act},RRel [] gl M w n np' κ2 (fun _ => True) κ3 s3 a3 W->∀ (l dq : Nat) (cd : Code) (Qc : Exit->AS->Prop),vK false cd = true->wW P Γ n np' f cd [] Qc s3 ->
            cd.wpIn (FW (some l)) dq P (fun e a4 W4 => oE w.heap.size W W4/\KpA ads W W4/\∃ κ4 s4,Qc e s4/\(∀ q x y,κ3.mem q x = some y->κ4.mem q x = some y)/\RRel [] gl M w n np' κ2 (fun _ => True) κ4 s4 a4 W4) a3 W := by
          intro W κ3 s3 a3 r3 l dq cd Qc hcd hw
          obtain ⟨M3,hM3⟩ : ∃ M3 : Nat->Prop,M3 = fun B => M B/\¬ (w.heap.size<=B/\∃ o,W.heap[B]? = some o/\dJ o = true) := ⟨_,rfl⟩
          have hM3a : ∀ B,M3 B->M B := fun B hB => by rw [hM3] at hB; exact hB.1
          have hup3 : ∀ B,W.heap.size<=B->M3 B := fun B hB => by
            rw [hM3]
            refine ⟨hupw B (Nat.le_trans r3.only.size hB),fun ⟨_,o,ho,_⟩ => ?_⟩
            have := (Array.getElem?_eq_some_iff.1 ho).1
            omega
          have rb : RRel [] gl M3 W n np' κ3 (fun _ => True) κ3 s3 a3 W := r3.base (fun i hi => by rw [(r3.pin i hi).2.1]; exact (r3.pin i hi).1) fun B hB ho => by
            obtain ⟨o,h1,h2⟩ := ho
            rw [hM3]
            refine ⟨hB,fun ⟨_,o',h3,h4⟩ => ?_⟩
            rw [h1] at h3
            simp only [Option.some.injEq] at h3
            subst h3
            rw [h2] at h4; cases h4
          refine wpIn_mono (ih F f (by omega) hfF false (some l) np' dq (fun h => by cases h) cd [] Qc s3 hcd rfl hw M3 W κ3 [] (fun g hg hm => hMG g hg (hM3a g hm)) hup3 κ3 a3 W rb) ?_
          rintro e a4 W4 ⟨M4,W5,κ5,ds4,hx,_,_,f4,κ4,s4,_,hq,r4⟩
          rcases hx with ⟨rfl,rfl,rfl,rfl⟩ | ⟨hff,_⟩
          · have hq' : Qc e s4 := by cases e <;> exact hq
            have ex := r3.ext (M1 := M4) hM3a hup3
            have rk := r4.back ex
            refine ⟨fun k o hk ho hr => ?_,fun ad had x hx => ?_,κ4,s4,hq',r4.vv,rk⟩
            · rw [r4.only.block k (Array.getElem?_eq_some_iff.1 ho).1 (fun h => by rw [hM3] at h; exact h.2 ⟨hk,o,ho,hr⟩)]
              exact ho
            · obtain ⟨x0,hx0⟩ := hval ad had
              have h1 := hboxv κ5 W5 r3.vv (fun ad x h => r3.heap.mem ad x h) ad had x0 hx0
              have h2 := hboxv κ4 W4 rk.vv (fun ad x h => rk.heap.mem ad x h) ad had x0 hx0
              rw [h1] at hx
              rw [<- hx]; exact h2
          · cases hff
        have fin : ∀ {e : Exit} {s' : AS} {κ' : Ker} {D : Nat} {W : World},wJ (wW P Γ n np f) Q ks e s'->RRel ds gl M w n np' κ2 (fun _ => True) κ' s' a W->w.heap.size<=D->W.heap[D]? = some (.deferred (some [])) ->
            oJ true P Γ gl M W0 n np κ0 ds (F + 1) ks Q e { a with defers := bP D::a.defers } W := by
          intro e s' κ' D W hc r' hD hd
          have hlt := (Array.getElem?_eq_some_iff.1 hd).1
          have hu1 : ∀ B,W.heap.size<=B->(M B/\B ≠ D) := fun B hB => ⟨hupw B (Nat.le_trans r'.only.size hB),by omega⟩
          have ex : Ext np M w κ2 (fun B => M B/\B ≠ D) W κ' := (r'.ext (M1 := fun B => M B/\B ≠ D) (fun B h => h.1) hu1).le hnp
          have rb : RRel ds gl (fun B => M B/\B ≠ D) W n np κ' (fun _ => True) κ' s' a W := r'.base (fun i hi => by rw [(r'.pin i (by omega)).2.1]; exact (r'.pin i (by omega)).1) fun B hB ho => by
            obtain ⟨o,h1,h2⟩ := ho
            refine ⟨hB,fun e => ?_⟩
            subst e
            rw [hd] at h1
            simp only [Option.some.injEq] at h1
            subst h1
            cases h2
          refine ⟨_,W,κ',bP D::ds,.inr ⟨rfl,extB.trans ex,[D],rfl,by simp,fun D' hD' => ?_⟩,fun g hg hm => hMG g hg hm.1,hu1,f,κ',s',by omega,hc,
            ⟨rb.env,rb.size,by show bP D::a.defers = _; rw [r.defers],rb.glob,rb.heap,rb.only,rb.free,rb.grho,rb.pin,rb.mm,rb.vv⟩⟩
          simp only [List.mem_singleton] at hD'
          subst hD'
          exact ⟨Nat.le_trans r.only.size hD,fun h => h.2 rfl,hd⟩
        refine w0j (lb := us) hva hit.enter (encs := encs) (Kp := KpA ads) (N := N1) (by rw [hlb]; exact hsq (dp - 1)) (fun k hk => ?_) (fun h k ad had x hx => k ad had x (h ad had x hx)) (fun ht ad had x hx => (ht.lie.cell hx).1)
          (fun k W => ∃ E K κ3,I k E K/\RRel ds gl M w n np' κ2 (fun _ => True) κ3 (mkS E K nx) a W)
          (fun c W => ∃ e s' κ',(c = .ret/\e = .ret \/ ∃ i,c = .exit i/\e = .exit i)/\wJ (wW P Γ n np f) Q ks e s'/\RRel ds gl M w n np' κ2 (fun _ => True) κ' s' a W)
          (fun k A B ⟨E,K,κ3,h1,h2⟩ ht => ⟨E,K,κ3,h1,h2.turn ht (Nat.le_refl _)⟩) (fun c A B ⟨e,s',κ',h1,h2,h3⟩ ht => ⟨e,s',κ',h1,h2,h3.turn ht (Nat.le_refl _)⟩) ⟨E0,K0,κ2,hI0,rC⟩
          (fun k a' A => ∃ E K κ3 κ4 s4,I k E K/\wW P Γ n np' f bd [] (k0w np' nx I E k (wJ (wW P Γ n np f) Q ks)) s4/\RRel [] gl M w n np' κ2 (fun _ => True) κ4 s4 a' A /\
            (∀ t,t < 2 ^ DE->VRel κ3 ((aI E).at t) (a.tmps.getD t undef))/\(∀ i,i < np'->(κ3.ρ i).isSome/\κ2.ρ i = κ3.ρ i/\κ2.cap i = κ3.cap i)/\(∀ q x y,κ3.mem q x = some y->κ4.mem q x = some y))
          (fun k a' A B ⟨E,K,κ3,κ4,s4,h1,h2,h3,h4⟩ ht => ⟨E,K,κ3,κ4,s4,h1,h2,h3.turn ht (Nat.le_refl _),h4⟩) ?_ ?_ ?_ ?_
        · have h1 := (henc k hk).length
          rw [hell k hk] at h1
          simpa using h1.symm
        · -- the assignments
          rintro l k W hk ⟨E,K,κ3,hIk,r3⟩
          have henc3 : VRels κ3 (el k) (encs k).toList := VRels.data (p := false) (fun q x y _ h => hkeep κ3 r3.vv q x y h) _ _ (hdat k) (henc k hk)
          have r3' : RRel [] gl M w n np' κ2 (fun _ => True) κ3 (u0w E K nx ps.toList (el k)) { tmps := (ps.zip (encs k)).foldl (fun t (p,v) => t.setIfInBounds p v) a.tmps,defers := [] } W := by
            refine ⟨?_,by show ((ps.zip (encs k)).foldl (fun (t : Array Value) (x : Tmp × Value) => t.setIfInBounds x.1 x.2) a.tmps).size = n; rw [<- Array.foldl_toList,rG]; exact r.size,rfl,r3.glob,r3.heap,r3.only,r3.free,r3.grho,r3.pin,r3.mm,r3.vv⟩
            show ∀ t,t < 2 ^ DE->VRel κ3 ((oG ps.toList (el k) (aI E)).at t) (((ps.zip (encs k)).foldl (fun (t : Array Value) (x : Tmp × Value) => t.setIfInBounds x.1 x.2) a.tmps).getD t undef)
            rw [<- Array.foldl_toList,Array.toList_zip]
            exact t9 _ _ _ _ _ (fun p hp => ⟨Nat.lt_of_lt_of_le (hps p hp) hn,by rw [r.size]; exact hps p hp⟩) henc3 r3.env
          refine wpIn_mono (ground r3' l _ as _ hoka (hround k E K hk hIk)) ?_
          rintro e a4 W4 ⟨h1,h2,κ4,s4,hq,h3,r4⟩
          cases e with
          | normal => exact ⟨h1,h2,E,K,κ3,κ4,s4,hIk,hq,r4,r3.env,fun i hi => ⟨by rw [(r3.pin i hi).2.1]; exact (r3.pin i hi).1,(r3.pin i hi).2.1.symm,(r3.pin i hi).2.2.symm⟩,h3⟩
          | _ => exact hq.elim
        · -- the body
          rintro l k a' A hk ⟨E,K,κ3,κ4,s4,hIk,hw,r4,henv,hpn,hm34⟩
          refine wpIn_mono (ground r4 l _ bd _ hokb hw) ?_
          rintro e a5 W5 ⟨h1,h2,κ5,s5,hq,h3,r5⟩
          have rO : RRel ds gl M w n np' κ2 (fun _ => True) κ5 (rF np' E s5) a W5 := by
            refine ⟨?_,r.size,r.defers,r5.glob,r5.heap,r5.only,r5.free,r5.grho,r5.pin,r5.mm,r5.vv⟩
            have hsE := hsm k E K hIk
            simp only [I1,List.all_eq_true,decide_eq_true_eq] at hsE
            exact v0w (κ0 := κ3) (fun i hi => ⟨(hpn i hi).1,by rw [(r5.pin i hi).2.1,(hpn i hi).2.1],by rw [(r5.pin i hi).2.2,(hpn i hi).2.2]⟩) (fun q x y h => h3 q x y (hm34 q x y h)) E hsE henv
          cases e with
          | normal =>
            obtain ⟨E',K',hI',hwk⟩ := hq
            obtain ⟨κ6,r6⟩ := rO.weak (uZ hwk)
            exact ⟨h1,h2,E',K',κ6,hI',r6⟩
          | ret => exact ⟨h1,.ret,_,κ5,.inl ⟨rfl,rfl⟩,hq,rO⟩
          | exit i => exact ⟨h1,.exit i,_,κ5,.inr ⟨i,rfl,rfl⟩,hq,rO⟩
          | goto _ => exact hq.elim
          | panic _ => exact hq.elim
          | outgrown => exact hq.elim
        · rintro D W hD ⟨E,K,κ3,hIN,r3⟩ hd
          exact fin (e := .normal) (hend E K hIN) r3 hD hd
        · rintro D c W hD ⟨e,s',κ',hc,hq,r'⟩ hd
          rcases hc with ⟨rfl,rfl⟩ | ⟨i,rfl,rfl⟩
          · exact wpIn_ret (fin hq r' hD hd)
          · exact wpIn_exit (fin hq r' hD hd)
      | scope c => simp only [wW] at h
      | goto l => simp only [wW] at h
      | refuse w => simp only [wW] at h
theorem k0j (hΓ : COKs P gl Γ) (hMG : sC gl M) (hup : ∀ B,W0.heap.size<=B->M B) (hn : n<=2 ^ DE) (hmix : P.follows .mixedOrders = true)
  (dp f : Nat) (c : Code) (Q : Exit->AS->Prop) (s : AS) (hok : j0w c = true) (h : wW P Γ n np f c [] Q s) (ds : List Deferred) (κ : Ker) (a : Act) (w : World) (r : RRel ds gl M W0 n np κ0 (fun _ => True) κ s a w) :
   c.wpIn (FW none) dp P (LiftQ true gl M W0 n np κ0 ds Q) a w := by
 refine wpIn_mono (sF hΓ hn hmix f f f (Nat.le_refl _) (Nat.le_refl _) true none np dp (fun _ => rfl) c [] Q s hok rfl h M W0 κ0 ds hMG hup κ a w r) ?_
 rintro e a' w' ⟨M1,W1,κ1,ds1,hx,h1,h2,f',κ',s',_,hq,r'⟩
 exact ⟨M1,W1,κ1,ds1,hx,h1,h2,κ',s',by cases e <;> exact hq,r'⟩
theorem bQ {F : Fence} {m : Nat} {fn : Func} {tmps : Array Value} {R : Ending->World->Prop} : ∀ (Ds : List Nat) (w : World),Ds.Nodup->(∀ D ∈ Ds,w.heap[D]? = some (.deferred (some []))) ->
  ∃ w',Lie w w'/\Only (fun B => B ∈ Ds) w w'/\(LeavesInM F m P fn tmps R [] .returning w'->LeavesInM F m P fn tmps R (Ds.map bP) .returning w)
 | [],w,_,_ => ⟨w,⟨Nat.le_refl _,fun _ _ h _ => h⟩,Only.refl _ _,fun h => h⟩
 | D::Ds,w,hn,hd => by
  have hn' := List.nodup_cons.1 hn
  have h0 := hd D (by simp)
  have t0 : Turns D w (w.putObj D (.deferred none)) := Turns.put _ (Nat.le_refl _) h0 rfl
  obtain ⟨w',h1,h2,h3⟩ := bQ (F := F) (m := m) (fn := fn) (tmps := tmps) (R := R) Ds (w.putObj D (.deferred none)) hn'.2 fun E hE => by
   rw [World.putObj_heap_other (fun e => hn'.1 (by rw [<- e]; exact hE))]
   exact hd E (by simp [hE])
  have o0 : Only (fun B => B ∈ D::Ds) w (w.putObj D (.deferred none)) := by
   obtain ⟨row,k1,k2⟩ := t0
   refine ⟨k1.os,k1.tape,k1.output,k1.size,fun k hk hm => ?_⟩
   exact World.putObj_heap_other (fun e => hm (by simp [e]))
  exact ⟨w',⟨Nat.le_trans t0.lie.size h1.size,fun B o ho hr => h1.same B o (t0.lie.same B o ho hr) hr⟩,o0.trans (h2.mono fun k _ h => by simp [h]),fun h => ⟨by simp,.inl ⟨D,_,rfl,run_takeDeferred h0,h3 h⟩⟩⟩
theorem LiftQ.leave {Q : Exit->AS->Prop} {e : Exit} {a : Act} {w : World} {F : Fence} {m : Nat} {fn : Func} {R : Ending->World->Prop} (hup : ∀ B,W0.heap.size<=B->M B) (h : LiftQ true gl M W0 n np κ0 [] Q e a w) :
  ∃ κ s w',Q e s/\RRel [] gl M W0 n np κ0 (fun _ => True) κ s { a with defers := [] } w'/\(LeavesInM F m P fn a.tmps R [] .returning w'->LeavesInM F m P fn a.tmps R a.defers .returning w) := by
 obtain ⟨M1,W1,κ1,ds1,hx,h1,h2,κ',s',hq,r'⟩ := h
 rcases hx with ⟨rfl,rfl,rfl,rfl⟩ | ⟨_,ex,Ds,hds,hnd,hD⟩
 ·exact ⟨κ',s',w,hq,⟨r'.env,r'.size,rfl,r'.glob,r'.heap,r'.only,r'.free,r'.grho,r'.pin,r'.mm,r'.vv⟩,fun h => by rw [r'.defers]; exact h⟩
 ·simp only [List.append_nil] at hds
  obtain ⟨w',k1,k2,k3⟩ := bQ (P := P) (F := F) (m := m) (fn := fn) (tmps := a.tmps) (R := R) Ds w hnd fun D hDm => by
   obtain ⟨_,j2,j3⟩ := hD D hDm
   rw [r'.only.block D (Array.getElem?_eq_some_iff.1 j3).1 j2]
   exact j3
  have rb := r'.back ex
  refine ⟨κ',s',w',hq,⟨rb.env,rb.size,rfl,rb.glob.lie k1,rb.heap.lie k1,rb.only.trans (k2.mono fun k _ hk => hup k (hD k hk).1),rb.free,rb.grho,rb.pin,rb.mm,rb.vv⟩,fun h => ?_⟩
  rw [r'.defers,hds]
  exact k3 h
theorem j0j : ∀ (f : Nat) (np : Nat) (c : Code) (ks : List Kn) {Q Q' : Exit->AS->Prop} {s : AS},(∀ e s,Q e s->Q' e s)->wW P Γ n np f c ks Q s->wW P Γ n np f c ks Q' s := by
 intro f
 induction f with
 | zero => intro np c ks Q Q' s h hh; exact hh
 | succ f ih0 =>
  intro np
  have ih := ih0 np
  have hpop : ∀ (ks : List Kn) {Q Q' : Exit->AS->Prop} {s : AS},(∀ e s,Q e s->Q' e s)->oI (wW P Γ n np f) Q ks s->oI (wW P Γ n np f) Q' ks s := by
   intro ks
   induction ks with
   | nil => intro Q Q' s h hh; exact h _ _ hh
   | cons k ks ihk =>
    intro Q Q' s h hh
    cases k with
    | s c => exact ih c ks h hh
    | b i => exact ihk h hh
    | l c => exact ih c _ h hh
  have hex : ∀ (id : Nat) (ks : List Kn) {Q Q' : Exit->AS->Prop} {s : AS},(∀ e s,Q e s->Q' e s)->jO (wW P Γ n np f) Q id ks s->jO (wW P Γ n np f) Q' id ks s := by
   intro id ks
   induction ks with
   | nil => intro Q Q' s h hh; exact h _ _ hh
   | cons k ks ihk =>
    intro Q Q' s h hh
    cases k with
    | s c => exact ihk h hh
    | l c => exact ihk h hh
    | b i =>
     simp only [jO] at hh ⊢
     split at hh
     ·exact hpop ks h hh
     ·exact ihk h hh
  intro c ks Q Q' s h hh
  cases c <;> simp only [wW] at hh ⊢
  case skip => exact hpop ks h hh
  case label => exact hpop ks h hh
  case region id ops draw =>
   rcases hh with ⟨I,hh,hI⟩ | hh
   ·exact .inl ⟨I,hh,fun s hs => hpop ks h (hI s hs)⟩
   refine .inr (fB _ _ _ _ _ _ (fun s' hs' => ?_) hh)
   rw [yH] at hs' ⊢
   exact hpop ks h hs'
  case seq a b => exact ih a _ h hh
  case cond c a b =>
   rcases hh with ⟨I,hh,hI⟩ | hh
   ·refine .inl ⟨I,?_,fun s hs => hpop ks h (hI s hs)⟩
    split at hh
    ·rename_i t ht
     have up : ∀ (e : Exit) (s' : AS),(match e with | .normal => ∃ s2,WeakS np s' s2/\I s2 | e => wJ (wW P Γ n np f) Q ks e s' : Prop)->(match e with | .normal => ∃ s2,WeakS np s' s2/\I s2 | e => wJ (wW P Γ n np f) Q' ks e s' : Prop) := by
      intro e s' h1
      cases e with
      | normal => exact h1
      | exit i => exact hex i ks h h1
      | _ => exact h _ _ h1
     cases t
     ·exact ih b [] up hh
     ·exact ih a [] up hh
    ·exact hh
   refine .inr ?_
   split at hh
   ·rename_i t ht
    cases t
    ·exact ih b ks h hh
    ·exact ih a ks h hh
   ·exact hh
  case block id c => exact ih c _ h hh
  case exit id => exact hex id ks h hh
  case ret => exact h _ _ hh
  case loop c =>
   rcases hh with ⟨I,h0,hr⟩ | hh
   ·refine .inl ⟨I,h0,fun k s hI => ih c [] ?_ (hr k s hI)⟩
    intro e s' h1
    cases e with
    | normal => exact h1
    | exit i => exact hex i ks h h1
    | _ => exact h _ _ h1
   ·exact .inr (ih c _ h hh)
  case rangeFunc g ps as bd =>
   obtain ⟨gf,caps,it,is,cs,ob,N,el,np',nx,I,h1,h2,h3,h4,h5,h6,h7,h8,h9,h10,h11⟩ := hh
   have hcont : ∀ (e : Exit) (s : AS),wJ (wW P Γ n np f) Q ks e s->wJ (wW P Γ n np f) Q' ks e s := by
    intro e s h1
    cases e with
    | normal => exact hpop ks h h1
    | exit i => exact hex i ks h h1
    | _ => exact h _ _ h1
   refine ⟨gf,caps,it,is,cs,ob,N,el,np',nx,I,h1,h2,h3,h4,h5,h6,h7,h8,h9,fun k E K hk hI => ih0 np' as [] (fun e s1 hq => ?_) (h10 k E K hk hI),fun E K hI => hpop ks h (h11 E K hI)⟩
   cases e with
   | normal =>
    refine ih0 np' bd [] (fun e s3 hq => ?_) hq
    cases e with
    | normal => exact hq
    | ret => exact hcont .ret (rF np' E s3) hq
    | exit i => exact hcont (.exit i) (rF np' E s3) hq
    | _ => exact hq
   | _ => exact hq
theorem nL (f : Nat) (c : Code) (ks : List Kn) {Q Q' : Exit->AS->Prop} {s : AS} (h : ∀ e s,Q e s->Q' e s) (hh : wW P Γ n np f c ks Q s) : wW P Γ n np f c ks Q' s := j0j f np c ks h hh
end
end Go.Sym
namespace Go.Sym
inductive Kd where
 | kp
 | by8
 | by0
 | r (sz : Nat)
 | a (l : List Kd)
 | p (l : List Kd)
 deriving Inhabited
def xT (j : Nat) : List Nat->Option Nat
 | [] => none
 | a::l => if a = j then some 0 else (xT j l).map (· + 1)
theorem cS : ∀ {l : List Nat} {j t : Nat},xT j l = some t->l[t]? = some j
 | [],j,t,h => by simp [xT] at h
 | a::l,j,t,h => by
  simp only [xT] at h
  split at h
  ·rename_i he; simp at h; subst h; simp [he]
  ·simp only [Option.map_eq_some_iff] at h
   obtain ⟨u,hu,rfl⟩ := h
   simpa using cS hu
theorem uS : ∀ {l : List Nat} {j : Nat},xT j l = none->j ∉ l
 | [],j,_ => by simp
 | a::l,j,h => by
  simp only [xT] at h
  split at h
  ·cases h
  ·rename_i hne
   simp only [Option.map_eq_none_iff] at h
   simp only [List.mem_cons,not_or]
   exact ⟨Ne.symm hne,uS h⟩
mutual
def kK (f : Nat->Option Nat) : AV->AV
 | .ptr i x sz c => match f i with | some t => .ptr t x sz c | none => .any
 | .slice i x sz n c nl => match f i with | some t => .slice t x sz n c nl | none => .any
 | .agg cs => .agg (fG f cs)
 | .tup cs => .tup (fG f cs)
 | .fn g a b => .fn g (fG f a) (fG f b)
 | .mp _ => .any
 | a => a
def fG (f : Nat->Option Nat) : List AV->List AV
 | [] => []
 | a::as => kK f a::fG f as
end
mutual
def AV.out (p : Bool) : AV->Bool
 | .rb q _ _ => q || !p
 | .ros q _ _ _ _ => q || !p
 | .rp q cs => q || !p
 | .agg cs => gD p cs
 | .tup cs => gD p cs
 | .fn _ a b => gD p a && gD p b
 | _ => true
def gD (p : Bool) : List AV->Bool
 | [] => true
 | a::as => a.out p && gD p as
end
mutual
theorem cT : ∀ a : AV,a.out false = true
 | .rb q _ _ => by simp [AV.out]
 | .ros q _ _ _ _ => by simp [AV.out]
 | .rp q _ => by simp [AV.out]
 | .agg cs => jP cs
 | .tup cs => jP cs
 | .fn _ a b => by simp [AV.out,jP a,jP b]
 | .any => rfl
 | .bool _ => rfl
 | .u8 _ => rfl
 | .u16 _ => rfl
 | .u32 _ => rfl
 | .u64 _ => rfl
 | .int _ _ => rfl
 | .str _ => rfl
 | .nilp => rfl
 | .nils => rfl
 | .raw _ => rfl
 | .ptr _ _ _ _ => rfl
 | .slice _ _ _ _ _ _ => rfl
 | .mp _ => rfl
theorem jP : ∀ as : List AV,gD false as = true
 | [] => rfl
 | a::as => by simp [gD,cT a,jP as]
end
section
variable {κ κ2 : Ker}
mutual
theorem dK {f : Nat->Option Nat} {p : Bool} (hf : ∀ i t,f i = some t->(κ.ρ i).isSome->κ2.ρ t = κ.ρ i/\κ2.cap t = κ.cap i) (hm : ∀ q a x,(q || !p) = true->κ.mem q a = some x->κ2.mem q a = some x) :
  ∀ (a : AV) (v : Value),a.out p = true->VRel κ a v->VRel κ2 (kK f a) v
 | .ptr i x sz c,v,_,hv => by
  simp only [kK]
  split
  ·rename_i t ht
   obtain ⟨B,O,h1,h2⟩ := hv
   exact ⟨B,O,by rw [(hf i t ht (by rw [h1]; rfl)).1]; exact h1,h2⟩
  ·exact trivial
 | .slice i x sz n c nl,v,_,hv => by
  simp only [kK]
  split
  ·rename_i t ht
   obtain ⟨a,k,h1,h2,h3,h4,h5⟩ := hv
   have loc : (∃ B O,κ.ρ i = some (B,O)/\a = some ⟨B,O + x * sz,none⟩)->(∃ B O,κ2.ρ t = some (B,O)/\a = some ⟨B,O + x * sz,none⟩) := by
    rintro ⟨B,O,e1,e2⟩
    exact ⟨B,O,by rw [(hf i t ht (by rw [e1]; rfl)).1]; exact e1,e2⟩
   refine ⟨a,k,h1,h2,h3,?_,h5.imp loc id⟩
   cases c with
   | kn m => exact h4
   | un => trivial
   | ow =>
    obtain ⟨e1,e2,e3⟩ := h4
    obtain ⟨k1,k2⟩ := hf i t ht e3
    exact ⟨e1,by rw [k2]; exact e2,by rw [k1]; exact e3⟩
   | os =>
    obtain ⟨e1,e2,e3⟩ := h4
    obtain ⟨k1,k2⟩ := hf i t ht e3
    exact ⟨e1,by rw [k2]; exact e2,by rw [k1]; exact e3⟩
   | ox =>
    obtain ⟨e2,e3⟩ := h4
    obtain ⟨k1,k2⟩ := hf i t ht e3
    exact ⟨by rw [k2]; exact e2,by rw [k1]; exact e3⟩
  ·exact trivial
 | .rb q l nl,v,k,hv => by
  simp only [kK]
  exact VRel.data hm _ v k hv
 | .ros q sz n g nl,v,k,hv => by
  simp only [kK]
  exact VRel.data hm _ v k hv
 | .rp q cs,v,k,hv => by
  simp only [kK]
  exact VRel.data hm _ v k hv
 | .agg cs,v,k,hv => by
  obtain ⟨vs,h1,h2⟩ := hv
  exact ⟨vs,h1,gE hf hm cs _ k h2⟩
 | .tup cs,v,k,hv => by
  obtain ⟨vs,h1,h2⟩ := hv
  exact ⟨vs,h1,gE hf hm cs _ k h2⟩
 | .fn g a b,v,k,hv => by
  obtain ⟨vs,us,h1,h2,h3⟩ := hv
  simp only [AV.out,Bool.and_eq_true] at k
  exact ⟨vs,us,h1,gE hf hm a _ k.1 h2,gE hf hm b _ k.2 h3⟩
 | .any,_,_,_ => trivial
 | .bool _,_,_,hv => hv
 | .u8 _,_,_,hv => hv
 | .u16 _,_,_,hv => hv
 | .u32 _,_,_,hv => hv
 | .u64 _,_,_,hv => hv
 | .int _ _,_,_,hv => hv
 | .str _,_,_,hv => hv
 | .nilp,_,_,hv => hv
 | .nils,_,_,hv => hv
 | .raw _,_,_,hv => hv
 | .mp _,_,_,_ => trivial
theorem gE {f : Nat->Option Nat} {p : Bool} (hf : ∀ i t,f i = some t->(κ.ρ i).isSome->κ2.ρ t = κ.ρ i/\κ2.cap t = κ.cap i) (hm : ∀ q a x,(q || !p) = true->κ.mem q a = some x->κ2.mem q a = some x) :
  ∀ (as : List AV) (vs : List Value),gD p as = true->VRels κ as vs->VRels κ2 (fG f as) vs
 | [],_,_,hv => hv
 | a::as,vs,k,hv => by
  simp only [gD,Bool.and_eq_true] at k
  obtain ⟨x,xs,h1,h2,h3⟩ := hv
  exact ⟨x,xs,h1,dK hf hm a x k.1 h2,gE hf hm as xs k.2 h3⟩
end
theorem oK {f : Nat->Option Nat} : ∀ (as : List AV) (i : Nat),(fG f as)[i]? = (as[i]?).map (kK f)
 | [],i => by simp [fG]
 | a::as,0 => by simp [fG]
 | a::as,i + 1 => by simp only [fG,List.getElem?_cons_succ]; exact oK as i
theorem u6 {f : Nat->Option Nat} : ∀ (as : List AV),(fG f as).length = as.length
 | [] => rfl
 | a::as => by simp only [fG,List.length_cons]; rw [u6 as]
end
mutual
def dL (ios : List Nat) (h : H) : Kd->AV->PO AV
 | .kp,a => some ([],kK (fun i => xT i ios) a)
 | .by8,a =>
  match a with
  | .rb p l nl => some ([],.rb p l nl)
  | .nils => some ([],.rb true [] (.is true))
  | .slice i x sz n c nl => match xT i ios with | none => (yX h (.slice i x sz n c nl)).map fun q => (q.1,.rb false q.2 nl) | some _ => none
  | _ => none
 | .by0,a =>
  match a with
  | .rb p l nl => some ([],.rb false l .unk)
  | .nils => some ([],.rb false [] .unk)
  | .slice i x sz n c nl => match xT i ios with | none => (yX h (.slice i x sz n c nl)).map fun q => (q.1,.rb false q.2 .unk) | some _ => none
  | _ => none
 | .r sz,a =>
  match a with
  | .ros p sz' n g nl => if sz' = sz then some ([],.ros p sz' n g nl) else none
  | .nils => some ([],.ros true sz 0 (fun _ => []) (.is true))
  | .slice i x sz' n c nl =>
   match xT i ios,sz' with
   | none,0 => some ([n = 0],.ros true sz 0 (fun _ => []) nl)
   | none,_ =>
    if sz' = sz then (h i).bind fun b =>
     match b.con with
     | .rows sz2 n2 g => if sz2 = sz then some ([x + n<=n2,∀ y,y < n->zT false (g (vZ x y)) = true/\(g (vZ x y)).length<=sz],.ros false sz n (fun y => g (vZ x y)) nl) else none
     | .cells l => if (x + n) * sz<=l.length/\zT false l = true then some ([],.ros false sz n (fun y => cut sz l (vZ x y)) nl) else none
     | _ => none
    else none
   | _,_ => none
  | _ => none
 | .a ks,a => match a with | .agg cs => (uA ios h ks cs).map fun q => (q.1,.agg q.2) | _ => none
 | .p ks,a =>
  match a with
  | .rp p cs => some ([],.rp p cs)
  | .ptr i x sz c =>
   match xT i ios with
   | none => (h i).bind fun b => (b.con.read x sz c ks.length).bind fun q => (uA ios h ks q.2).bind fun r => if zT false r.2 = true then some (q.1++r.1,.rp false r.2) else none
   | some _ => none
  | .nilp => some ([],.nilp)
  | _ => none
def uA (ios : List Nat) (h : H) : List Kd->List AV->PO (List AV)
 | [],as => match as with | [] => some ([],[]) | _ => none
 | k::ks,as => match as with | [] => none | a::as => (dL ios h k a).bind fun q => (uA ios h ks as).map fun r => (q.1++r.1,q.2::r.2)
end
def sG (ios : List Nat) (h : H) (ks : List Kd) : Con->PO Con
 | .cells l => (uA ios h ks l).map fun q => (q.1,.cells q.2)
 | .bytes l => some ([],.bytes l)
 | .rows sz n g => some ([∀ y,y < n->zT false (g y) = true],.rows sz n g)
 | .mp _ _ _ => none
def kL (ios : List Nat) (h : H) : List Nat->List (List Kd)->PO (List ABlk)
 | [],[] => some ([],[])
 | j::js,ks::kss => (h j).bind fun b => (sG ios h ks b.con).bind fun c => (kL ios h js kss).map fun r => (c.1++r.1,⟨c.2,b.wr,b.own⟩::r.2)
 | _,_ => none
def yV {α : Type} : Nat->List α->List (Nat × α)
 | _,[] => []
 | k,a::l => (k,a)::yV (k + 1) l
theorem xE {α : Type} : ∀ (l : List α) (k i : Nat) (a : α),(i,a) ∈ yV k l ↔ ∃ t,i = k + t/\l[t]? = some a
 | [],k,i,a => by simp [yV]
 | b::l,k,i,a => by
  simp only [yV,List.mem_cons,Prod.mk.injEq]
  rw [xE l (k + 1) i a]
  constructor
  ·rintro (⟨rfl,rfl⟩ | ⟨t,rfl,ht⟩)
   ·exact ⟨0,by simp⟩
   ·exact ⟨t + 1,by omega,by simpa using ht⟩
  ·rintro ⟨t,rfl,ht⟩
   cases t with
   | zero => simp at ht; exact .inl ⟨by omega,ht.symm⟩
   | succ t => exact .inr ⟨t,by omega,by simpa using ht⟩
def xD (ios : List Nat) : Vw := ⟨yV 0 ios,[],[],true⟩
theorem bR : ∀ (l : List Nat) (k t : Nat),look (k + t) (yV k l) = l[t]?
 | [],k,t => by simp [yV,look]
 | a::l,k,t => by
  simp only [yV,look]
  cases t with
  | zero => simp
  | succ t =>
   rw [if_neg (by omega),show k + (t + 1) = k + 1 + t by omega,bR l (k + 1) t]
   simp
theorem dM {ios : List Nat} {t : Nat} (ht : t < GB) : (xD ios).to t = ios[t]? := by
 unfold Vw.to xD
 rw [if_neg (by omega)]
 have := bR ios 0 t
 simpa using this
theorem oL {ios : List Nat} {j : Nat} : (xD ios).kept j = true ↔ j ∈ ios := by
 unfold Vw.kept xD
 simp only [List.any_eq_true,beq_iff_eq]
 constructor
 ·rintro ⟨⟨t,a⟩,h1,h2⟩
  obtain ⟨u,_,hu⟩ := (xE ios 0 t a).1 h1
  simp only at h2
  subst h2
  exact List.mem_of_getElem? hu
 ·intro h
  obtain ⟨u,hu⟩ := List.getElem?_of_mem h
  exact ⟨(u,j),(xE ios 0 u j).2 ⟨u,by omega,hu⟩,rfl⟩
theorem gF {ios : List Nat} {j : Nat} (h : j ∉ ios) : (xD ios).still false j = true := by
 have : (xD ios).kept j = false := by
  cases hk : (xD ios).kept j with
  | false => rfl
  | true => exact absurd (oL.1 hk) h
 unfold Vw.still
 rw [this]
 rfl
theorem rH {ios : List Nat} {j : Nat} (h : j ∈ ios) : (xD ios).still false j = false := by
 have := oL.2 h
 unfold Vw.still
 rw [this]
 rfl
section
variable {M : Nat->Prop} {w : World} {κ κ2 : Ker} {h : H} {ios : List Nat}
theorem rI (hr : HRel M w κ h) (vr : VwR (xD ios) M w κ h κ2) {i x sz n : Nat} {c : Cap} {nl : NL} {v : Value} {b : ABlk} {g : Nat->List AV} (hni : i ∉ ios) (hb : h i = some b)
  (hv : VRel κ (.slice i x sz n c nl) v) (hd : ∀ y,y < n->zT false (g y) = true) (hg : ∀ y c a,y < n->(g y)[c]? = some a->b.con.at ((x + y) * sz + c) = some a) : VRel κ2 (.ros false sz n g nl) v := by
 obtain ⟨ad,k,h1,h2,h3,h4,h5⟩ := hv
 refine ⟨ad,k,h1,h2,h3,?_⟩
 rcases h5 with ⟨B,O,e1,rfl⟩ | ⟨h0,_⟩
 ·right
  refine ⟨B,O + x * sz,rfl,fun y hy => ?_⟩
  obtain ⟨xs,k1,k2⟩ := wD (κ := κ) (w := w) (B := B) (p := O + (x + y) * sz) (g y) 0 (fun c a hc => by
   have := (hr.cells hb e1 (hg y c a hy hc)).1
   rwa [show O + (x + y) * sz + (0 + c) = O + ((x + y) * sz + c) by omega])
  refine ⟨hd y hy,xs,VRels.data (p := false) (fun q a z _ hz => vr.m q a z hz) _ _ (hd y hy) k1,fun c z hz => ?_⟩
  have h7 := uU vr (p := false) (off := (x + y) * sz) (xs := xs) (gF hni) hb e1 (fun hne => by
   have hl := k1.length
   cases hgx : g y with
   | nil => rw [hgx] at hl; exact absurd (List.eq_nil_of_length_eq_zero hl.symm) hne
   | cons a0 as0 => exact .inl ⟨_,a0,hg y 0 a0 hy (by rw [hgx]; rfl)⟩) (by simpa using k2) c z hz
  rw [Nat.add_mul] at h7
  rwa [show O + x * sz + (y * sz + c) = O + (x * sz + y * sz) + c by omega]
 ·exact .inl h0
theorem oM (hr : HRel M w κ h) (vr : VwR (xD ios) M w κ h κ2) {i x sz n : Nat} {c : Cap} {nl : NL} {v : Value} {ob : List Prop} {l : List (BitVec 8)} (hni : i ∉ ios)
  (hs : yX h (.slice i x sz n c nl) = some (ob,l)) (ho : zP ob) (hv : VRel κ (.slice i x sz n c nl) v) : VRel κ2 (.rb false l nl) v := by
 refine jH hr vr (.rb false l nl) (.slice i x sz n c nl) v ?_ hv
 simp only [cC]
 split
 ·refine mC (z7 nl) ?_
  simp only [yX,Option.some.injEq,Prod.mk.injEq] at hs
  obtain ⟨rfl,rfl⟩ := hs
  exact ⟨zA.1 ho,rfl,trivial⟩
 ·rename_i hne
  rw [gF hni,hs]
  refine mC (z7 nl) ?_
  exact zE.2 ⟨ho,rfl,dX rfl hs ho hne,trivial⟩
mutual
theorem oO (hr : HRel M w κ h) (vr : VwR (xD ios) M w κ h κ2) (hnb : ios.length<=GB) : ∀ (k : Kd) (a a2 : AV) (v : Value) (ob : List Prop),dL ios h k a = some (ob,a2)->zP ob->VRel κ a v->VRel κ2 a2 v
 | .kp,a,a2,v,ob,hi,ho,hv => by
  simp only [dL,Option.some.injEq,Prod.mk.injEq] at hi
  obtain ⟨rfl,rfl⟩ := hi
  refine dK (p := false) ?_ (fun q a x _ hx => vr.m q a x hx) a v (cT a) hv
  intro i t ht _
  have hg := cS ht
  have hlt : t < ios.length := (List.getElem?_eq_some_iff.1 hg).1
  have hto : (xD ios).to t = some i := by rw [dM (by omega)]; exact hg
  refine ⟨?_,vr.cap t i rfl hto⟩
  rw [vr.ρ,if_neg (by simp [xD]),hto]
  rfl
 | .by8,a,a2,v,ob,hi,ho,hv => by
  simp only [dL] at hi
  split at hi
  ·simp only [Option.some.injEq,Prod.mk.injEq] at hi
   obtain ⟨rfl,rfl⟩ := hi
   exact VRel.data (p := false) (fun q a x _ hx => vr.m q a x hx) _ v (by simp [AV.data]) hv
  ·simp only [Option.some.injEq,Prod.mk.injEq] at hi
   obtain ⟨rfl,rfl⟩ := hi
   simp only [VRel] at hv
   exact ⟨none,0,hv,Nat.le_refl _,rfl,.inl rfl⟩
  ·split at hi
   ·rename_i hp
    simp only [Option.map_eq_some_iff,Prod.mk.injEq] at hi
    obtain ⟨⟨ob',l⟩,hs,rfl,rfl⟩ := hi
    exact oM hr vr (uS hp) hs ho hv
   ·cases hi
  ·cases hi
 | .by0,a,a2,v,ob,hi,ho,hv => by
  have low : ∀ {p l nl v},VRel κ2 (.rb p l nl) v->VRel κ2 (.rb false l .unk) v := by
   rintro p l nl v ⟨a,c,h1,h2,h3,h4⟩
   refine ⟨a,c,h1,h2,trivial,?_⟩
   rcases h4 with h0 | ⟨B,O,e1,e2⟩
   ·exact .inl h0
   ·refine .inr ⟨B,O,e1,fun j b hb => ?_⟩
    have := e2 j b hb
    cases p
    ·exact this
    ·exact κ2.sub _ _ this
  simp only [dL] at hi
  split at hi
  ·simp only [Option.some.injEq,Prod.mk.injEq] at hi
   obtain ⟨rfl,rfl⟩ := hi
   exact low (VRel.data (p := false) (fun q a x _ hx => vr.m q a x hx) _ v (by simp [AV.data]) hv)
  ·simp only [Option.some.injEq,Prod.mk.injEq] at hi
   obtain ⟨rfl,rfl⟩ := hi
   simp only [VRel] at hv
   exact low (p := true) (nl := .is true) ⟨none,0,hv,Nat.le_refl _,rfl,.inl rfl⟩
  ·split at hi
   ·rename_i hp
    simp only [Option.map_eq_some_iff,Prod.mk.injEq] at hi
    obtain ⟨⟨ob',l⟩,hs,rfl,rfl⟩ := hi
    exact low (oM hr vr (uS hp) hs ho hv)
   ·cases hi
  ·cases hi
 | .r sz,a,a2,v,ob,hi,ho,hv => by
  simp only [dL] at hi
  split at hi
  ·split at hi
   ·simp only [Option.some.injEq,Prod.mk.injEq] at hi
    obtain ⟨rfl,rfl⟩ := hi
    exact VRel.data (p := false) (fun q a x _ hx => vr.m q a x hx) _ v (by simp [AV.data]) hv
   ·cases hi
  ·simp only [Option.some.injEq,Prod.mk.injEq] at hi
   obtain ⟨rfl,rfl⟩ := hi
   simp only [VRel] at hv
   exact ⟨none,0,hv,Nat.le_refl _,rfl,.inl rfl⟩
  ·rename_i i x sz' n c nl
   split at hi
   ·simp only [Option.some.injEq,Prod.mk.injEq] at hi
    obtain ⟨rfl,rfl⟩ := hi
    have h0 := zA.1 ho
    subst h0
    obtain ⟨ad,k,h1,h2,h3,_⟩ := hv
    exact ⟨ad,k,h1,h2,h3,.inl rfl⟩
   ·rename_i hp hne
    split at hi
    ·rename_i hsz
     rename_i sz2 _ _
     subst hsz
     simp only [Option.bind_eq_some_iff] at hi
     obtain ⟨b,hb,hi⟩ := hi
     split at hi
     ·rename_i sz3 n2 g hcon
      split at hi
      ·rename_i hsz2
       subst hsz2
       simp only [Option.some.injEq,Prod.mk.injEq] at hi
       obtain ⟨rfl,rfl⟩ := hi
       obtain ⟨hle,ho⟩ := zJ.1 ho
       have hd := zA.1 ho
       refine rI hr vr (uS hp) hb hv (fun y hy => (hd y hy).1) (fun y c a hy hc => ?_)
       have hl := (hd y hy).2
       simp only [uE] at hc hl
       rw [hcon]
       have hcl : c < sz3 := by have := (List.getElem?_eq_some_iff.1 hc).1; omega
       have := fY (sz := sz3) (n := n2) (x := x + y) (c := 0) (j := c) (by omega) (by omega) (by simpa using hc)
       simpa using this
      ·cases hi
     ·rename_i l hcon
      split at hi
      ·rename_i hcnd
       obtain ⟨hle,hdl⟩ := hcnd
       simp only [Option.some.injEq,Prod.mk.injEq] at hi
       obtain ⟨rfl,rfl⟩ := hi
       have hget : ∀ y c a,(cut sz2 l (vZ x y))[c]? = some a->l[(x + y) * sz2 + c]? = some a := by
        intro y c a hc
        rw [uE] at hc
        unfold cut at hc
        rw [List.getElem?_take] at hc
        split at hc
        ·rw [List.getElem?_drop] at hc; exact hc
        ·cases hc
       refine rI hr vr (uS hp) hb hv (fun y hy => ?_) (fun y c a hy hc => by rw [hcon]; exact hget y c a hc)
       have gen : ∀ (q : List AV),(∀ (c : Nat) a,q[c]? = some a->a.data false = true)->zT false q = true := by
        intro q
        induction q with
        | nil => intro _; rfl
        | cons a q ih =>
         intro hq
         simp only [zT,Bool.and_eq_true]
         exact ⟨hq 0 a rfl,ih (fun c b hb => hq (c + 1) b (by simpa using hb))⟩
       exact gen _ (fun c a hc => nF hdl (hget y c a hc))
      ·cases hi
     ·cases hi
    ·cases hi
   ·cases hi
  ·cases hi
 | .a ks,a,a2,v,ob,hi,ho,hv => by
  simp only [dL] at hi
  split at hi
  ·simp only [Option.map_eq_some_iff,Prod.mk.injEq] at hi
   obtain ⟨⟨ob',q⟩,hq,rfl,rfl⟩ := hi
   obtain ⟨vs,h1,h2⟩ := hv
   exact ⟨vs,h1,nZ hr vr hnb ks _ q _ ob' hq ho h2⟩
  ·cases hi
 | .p ks,a,a2,v,ob,hi,ho,hv => by
  simp only [dL] at hi
  split at hi
  ·simp only [Option.some.injEq,Prod.mk.injEq] at hi
   obtain ⟨rfl,rfl⟩ := hi
   exact VRel.data (p := false) (fun q a x _ hx => vr.m q a x hx) _ v (by simp [AV.data]) hv
  ·rename_i i x sz c
   split at hi
   ·rename_i hp
    simp only [Option.bind_eq_some_iff] at hi
    obtain ⟨b,hb,⟨ob1,q⟩,hq,⟨ob2,r⟩,hr2,hi⟩ := hi
    split at hi
    ·rename_i hd
     simp only [Option.some.injEq,Prod.mk.injEq] at hi
     obtain ⟨rfl,rfl⟩ := hi
     obtain ⟨ho1,ho2⟩ := zE.1 ho
     obtain ⟨B,O,e1,e2⟩ := hv
     obtain ⟨xs,k1,k2,k3⟩ := nJ hr hb e1 hq ho1
     refine ⟨hd,B,O + (x * sz + c),xs,e2,nZ hr vr hnb ks _ r _ ob2 hr2 ho2 k1,fun d z hz => ?_⟩
     refine uU vr (p := false) (off := x * sz + c) (xs := xs) (gF (uS hp)) hb e1 (fun hne => ?_) k3 d z hz
     obtain ⟨hl,hat⟩ := aL hq ho1
     cases q with
     | nil =>
      have := k1.length
      exact absurd (List.eq_nil_of_length_eq_zero this.symm) hne
     | cons a0 q => exact .inl ⟨_,a0,hat 0 a0 rfl⟩
    ·cases hi
   ·cases hi
  ·simp only [Option.some.injEq,Prod.mk.injEq] at hi
   obtain ⟨rfl,rfl⟩ := hi
   exact hv
  ·cases hi
theorem nZ (hr : HRel M w κ h) (vr : VwR (xD ios) M w κ h κ2) (hnb : ios.length<=GB) : ∀ (ks : List Kd) (as as2 : List AV) (vs : List Value) (ob : List Prop),uA ios h ks as = some (ob,as2)->zP ob->VRels κ as vs->VRels κ2 as2 vs
 | [],as,as2,vs,ob,hi,ho,hv => by
  cases as with
  | nil =>
   simp only [uA,Option.some.injEq,Prod.mk.injEq] at hi
   obtain ⟨rfl,rfl⟩ := hi
   exact hv
  | cons a as => simp [uA] at hi
 | k::ks,as,as2,vs,ob,hi,ho,hv => by
  cases as with
  | nil => simp [uA] at hi
  | cons a as =>
   simp only [uA,Option.bind_eq_some_iff,Option.map_eq_some_iff,Prod.mk.injEq] at hi
   obtain ⟨⟨o1,b⟩,h1,⟨o2,bs⟩,h2,rfl,rfl⟩ := hi
   obtain ⟨ho1,ho2⟩ := zE.1 ho
   obtain ⟨x,xs,e1,e2,e3⟩ := hv
   exact ⟨x,xs,e1,oO hr vr hnb k a b x o1 h1 ho1 e2,nZ hr vr hnb ks as bs xs o2 h2 ho2 e3⟩
end
theorem oP {h : H} : ∀ (ks : List Kd) (as as2 : List AV) (ob : List Prop),uA ios h ks as = some (ob,as2)->as2.length = as.length/\as.length = ks.length
 | [],as,as2,ob,hi => by
  cases as with
  | nil =>
   simp only [uA,Option.some.injEq,Prod.mk.injEq] at hi
   obtain ⟨rfl,rfl⟩ := hi
   exact ⟨rfl,rfl⟩
  | cons a as => simp [uA] at hi
 | k::ks,as,as2,ob,hi => by
  cases as with
  | nil => simp [uA] at hi
  | cons a as =>
   simp only [uA,Option.bind_eq_some_iff,Option.map_eq_some_iff,Prod.mk.injEq] at hi
   obtain ⟨⟨o1,b⟩,h1,⟨o2,bs⟩,h2,rfl,rfl⟩ := hi
   obtain ⟨k1,k2⟩ := oP ks as bs o2 h2
   simp [k1,k2]
theorem u7 (hr : HRel M w κ h) (vr : VwR (xD ios) M w κ h κ2) (hnb : ios.length<=GB) : ∀ (ks : List Kd) (as as2 : List AV) (ob : List Prop),uA ios h ks as = some (ob,as2)->zP ob->∀ (i : Nat) a2,as2[i]? = some a2->∃ a,as[i]? = some a/\∀ v,VRel κ a v->VRel κ2 a2 v
 | [],as,as2,ob,hi,ho,i,a2,h2 => by
  cases as with
  | nil =>
   simp only [uA,Option.some.injEq,Prod.mk.injEq] at hi
   obtain ⟨rfl,rfl⟩ := hi
   simp at h2
  | cons a as => simp [uA] at hi
 | k::ks,as,as2,ob,hi,ho,i,a2,h2 => by
  cases as with
  | nil => simp [uA] at hi
  | cons a as =>
   simp only [uA,Option.bind_eq_some_iff,Option.map_eq_some_iff,Prod.mk.injEq] at hi
   obtain ⟨⟨o1,b⟩,h1,⟨o2,bs⟩,h3,rfl,rfl⟩ := hi
   obtain ⟨ho1,ho2⟩ := zE.1 ho
   cases i with
   | zero =>
    simp at h2
    subst h2
    exact ⟨a,rfl,fun v hv => oO hr vr hnb k a b v o1 h1 ho1 hv⟩
   | succ i =>
    simp at h2
    simpa using u7 hr vr hnb ks as bs o2 h3 ho2 i a2 h2
theorem d1x {ios : List Nat} {ks : List Kd} {c : Con} {q : List Prop × Con} (hc : sG ios h ks c = some q) : q.2.isMap = false := by
 cases c with
 | cells l =>
  simp only [sG,Option.map_eq_some_iff] at hc
  obtain ⟨_,_,rfl⟩ := hc
  rfl
 | bytes l =>
  simp only [sG,Option.some.injEq] at hc
  subst hc; rfl
 | rows sz n g =>
  simp only [sG,Option.some.injEq] at hc
  subst hc; rfl
 | mp ag p g => simp [sG] at hc
theorem oQ {ios : List Nat} : ∀ (js : List Nat) (kss : List (List Kd)) (bs : List ABlk) (ob : List Prop),kL ios h js kss = some (ob,bs)->∀ b ∈ bs,b.con.isMap = false
 | [],[],bs,ob,hi,b,hb => by
  simp only [kL,Option.some.injEq,Prod.mk.injEq] at hi
  rw [<- hi.2] at hb
  cases hb
 | [],ks::kss,bs,ob,hi,_,_ => by simp [kL] at hi
 | j::js,[],bs,ob,hi,_,_ => by simp [kL] at hi
 | j::js,ks::kss,bs,ob,hi,b,hb => by
  simp only [kL,Option.bind_eq_some_iff,Option.map_eq_some_iff,Prod.mk.injEq] at hi
  obtain ⟨b0,hb0,⟨o1,c⟩,hc,⟨o2,r⟩,h3,rfl,rfl⟩ := hi
  rcases List.mem_cons.1 hb with rfl | hb
  ·exact d1x hc
  ·exact oQ js kss r o2 h3 b hb
theorem gT (hr : HRel M w κ h) (vr : VwR (xD ios) M w κ h κ2) (hnb : ios.length<=GB) : ∀ (js : List Nat) (kss : List (List Kd)) (bs : List ABlk) (ob : List Prop),kL ios h js kss = some (ob,bs)->zP ob ->
  bs.length = js.length/\js.length = kss.length/\∀ (t : Nat) b2,bs[t]? = some b2->∃ j b,js[t]? = some j/\h j = some b/\b2.wr = b.wr/\b2.own = b.own/\b2.con.len<=b.con.len/\∀ off a2,b2.con.at off = some a2->∃ a,b.con.at off = some a/\∀ v,VRel κ a v->VRel κ2 a2 v
 | [],[],bs,ob,hi,ho => by
  simp only [kL,Option.some.injEq,Prod.mk.injEq] at hi
  obtain ⟨rfl,rfl⟩ := hi
  exact ⟨rfl,rfl,fun t b2 h => by simp at h⟩
 | [],ks::kss,bs,ob,hi,ho => by simp [kL] at hi
 | j::js,[],bs,ob,hi,ho => by simp [kL] at hi
 | j::js,ks::kss,bs,ob,hi,ho => by
  simp only [kL,Option.bind_eq_some_iff,Option.map_eq_some_iff,Prod.mk.injEq] at hi
  obtain ⟨b,hb,⟨o1,c⟩,hc,⟨o2,r⟩,h3,rfl,rfl⟩ := hi
  obtain ⟨ho1,ho2⟩ := zE.1 ho
  obtain ⟨k1,k2,k3⟩ := gT hr vr hnb js kss r o2 h3 ho2
  refine ⟨by simp [k1],by simp [k2],?_⟩
  intro t b2 ht
  cases t with
  | zero =>
   simp at ht
   subst ht
   refine ⟨j,b,rfl,hb,rfl,rfl,?_⟩
   cases hcon : b.con with
   | cells l =>
    rw [hcon] at hc
    simp only [sG,Option.map_eq_some_iff,Prod.mk.injEq] at hc
    obtain ⟨⟨o3,q⟩,hq,rfl,rfl⟩ := hc
    obtain ⟨hl,_⟩ := oP _ _ _ _ hq
    exact ⟨by simp [Con.len,hl],fun off a2 h2 => u7 hr vr hnb _ _ _ _ hq ho1 off a2 h2⟩
   | bytes l =>
    rw [hcon] at hc
    simp only [sG,Option.some.injEq,Prod.mk.injEq] at hc
    obtain ⟨rfl,rfl⟩ := hc
    refine ⟨Nat.le_refl _,fun off a2 h2 => ⟨a2,h2,fun v hv => ?_⟩⟩
    simp only [Con.at,Option.map_eq_some_iff] at h2
    obtain ⟨b,_,rfl⟩ := h2
    exact hv
   | rows sz n g =>
    rw [hcon] at hc
    simp only [sG,Option.some.injEq,Prod.mk.injEq] at hc
    obtain ⟨rfl,rfl⟩ := hc
    have hd := zA.1 ho1
    refine ⟨Nat.le_refl _,fun off a2 h2 => ⟨a2,h2,fun v hv => ?_⟩⟩
    simp only [Con.at] at h2
    split at h2
    ·rename_i hlt
     have hpos : 0 < sz := by rcases Nat.eq_zero_or_pos sz with h | h; (subst h; simp at hlt); exact h
     have hy : off / sz < n := (Nat.div_lt_iff_lt_mul hpos).2 hlt
     exact VRel.data (p := false) (fun q a x _ hx => vr.m q a x hx) a2 v (nF (hd _ hy) h2) hv
    ·cases h2
   | mp ag p g =>
    rw [hcon] at hc
    simp [sG] at hc
  | succ t =>
   simp at ht
   simpa using k3 t b2 ht
end
end Go.Sym
namespace Go.Sym
def loadAt (P : Program) (h : H) (t : TypeId) (a : AV) : PO AV :=
 match a with
 | .ptr i x sz c => (h i).bind fun b =>
   match vU P t,P.info? t with
   | some true,some inf => (b.con.read x sz c inf.size).map fun q => (q.1,.agg q.2)
   | some false,_ => (b.con.read x sz c 1).bind fun q => match q.2 with | [a] => some (q.1,a) | _ => none
   | _,_ => none
 | _ => none
def oR (P : Program) (s : AS) : ResultVar->PO AV
 | .tmp t => if t < 2 ^ DE then some ([],s.env.at t) else none
 | .cell t ty => if t < 2 ^ DE then loadAt P s.h.f ty (s.env.at t) else none
def qI (P : Program) (s : AS) : List ResultVar->PO (List AV)
 | [] => some ([],[])
 | r::rs => (oR P s r).bind fun v => (qI P s rs).map fun vs => (v.1++vs.1,v.2::vs.2)
def q0j (P : Program) (fn : Func) (s : AS) : PO AV :=
 match fn.results.toList with
 | [r] => oR P s r
 | rs => (qI P s rs).map fun q => (q.1,.tup q.2)
def cU (tmps : Array Value) : ResultVar->Sem Value
 | .tmp t => pure (tmps.getD t undef)
 | .cell a t => do loadVar t (<- asAddr (tmps.getD a undef))
theorem I2 (fn : Func) (tmps : Array Value) : results fn tmps = (do
  let vs <- fn.results.toList.mapM (cU tmps)
  pure (if h : vs.toArray.size = 1 then vs.toArray[0] else .tuple vs.toArray)) := by
 have e : results fn tmps = (fn.results.mapM (cU tmps) >>= fun vs => pure (if h : vs.size = 1 then vs[0] else .tuple vs)) := by
  unfold results
  congr 1
 rw [e,Array.mapM_eq_mapM_toList]
 simp
section
variable {ds : List Deferred} {P : Program} {gl : Gl} {M : Nat->Prop} {W0 : World} {n np : Nat} {κ0 κ : Ker} {L : Nat->Prop} {s : AS} {a : Act} {w : World}
theorem oS (r : RRel ds gl M W0 n np κ0 L κ s a w) {rv : ResultVar} {ob : List Prop} {v : AV} (h : oR P s rv = some (ob,v)) (ho : zP ob) :
  ∃ x,VRel κ v x/\(cU a.tmps rv).run P w = .ok x w := by
 cases rv with
 | tmp t =>
  simp only [oR] at h
  split at h
  ·rename_i ht
   simp only [Option.some.injEq,Prod.mk.injEq] at h
   obtain ⟨rfl,rfl⟩ := h
   exact ⟨_,r.env t ht,rfl⟩
  ·cases h
 | cell t ty =>
  simp only [oR] at h
  split at h
  ·rename_i ht
   have hv := r.env t ht
   unfold loadAt at h
   split at h
   ·rename_i a' i x sz c he
    rw [he] at hv
    obtain ⟨B,O,hρ,hx⟩ := hv
    simp only [Option.bind_eq_some_iff] at h
    obtain ⟨b,hb,h⟩ := h
    split at h
    ·rename_i inf hag hi
     simp only [Option.map_eq_some_iff,Prod.mk.injEq] at h
     obtain ⟨⟨ob',q⟩,hq,rfl,rfl⟩ := h
     obtain ⟨xs,h1,h2,h3⟩ := nJ r.heap hb hρ hq ho
     have hlc := wC (P := P) (w := w) (B := B) (O := O + (x * sz + c)) (vs := xs) (fun j y hy => by rw [Addr.add_at]; exact h3 j y hy)
     rw [h2] at hlc
     refine ⟨.agg xs.toArray,⟨_,rfl,by simpa using h1⟩,?_⟩
     simp [cU,hx,asAddr,loadVar,xK hag,zO hi,hlc]
    ·rename_i hag
     simp only [Option.bind_eq_some_iff] at h
     obtain ⟨⟨ob',q⟩,hq,h⟩ := h
     split at h
     ·rename_i a hqa
      simp only at hqa
      subst hqa
      simp only [Option.some.injEq,Prod.mk.injEq] at h
      obtain ⟨rfl,rfl⟩ := h
      obtain ⟨xs,h1,h2,h3⟩ := nJ r.heap hb hρ hq ho
      obtain ⟨z,rfl,hz⟩ := h1.one
      have := h3 0 z rfl
      simp only [Nat.add_zero] at this
      refine ⟨z,hz,?_⟩
      simp [cU,hx,asAddr,loadVar,xK hag,this]
     ·cases h
    ·cases h
   ·cases h
  ·cases h
theorem q0w (r : RRel ds gl M W0 n np κ0 L κ s a w) : ∀ (rs : List ResultVar) (ob : List Prop) (vs : List AV),qI P s rs = some (ob,vs)->zP ob ->
  ∃ xs : List Value,VRels κ vs xs/\(rs.mapM (cU a.tmps)).run P w = .ok xs w := by
 intro rs
 induction rs with
 | nil =>
  intro ob vs h _
  simp only [qI,Option.some.injEq,Prod.mk.injEq] at h
  obtain ⟨rfl,rfl⟩ := h
  exact ⟨[],rfl,rfl⟩
 | cons rv rs ih =>
  intro ob vs h ho
  simp only [qI,Option.bind_eq_some_iff,Option.map_eq_some_iff,Prod.mk.injEq] at h
  obtain ⟨⟨o1,v⟩,hv,⟨o2,vs'⟩,hvs,rfl,rfl⟩ := h
  obtain ⟨ho1,ho2⟩ := zE.1 ho
  obtain ⟨x,hx,hr⟩ := oS r hv ho1
  obtain ⟨xs,hxs,hrs⟩ := ih _ _ hvs ho2
  refine ⟨x::xs,⟨x,xs,rfl,hx,hxs⟩,?_⟩
  simp only [List.mapM_cons,Sem.run_bind,hr,Result.andThen_ok,hrs,Sem.run_pure]
theorem R9 (r : RRel ds gl M W0 n np κ0 L κ s a w) {fn : Func} {ob : List Prop} {v : AV} (h : q0j P fn s = some (ob,v)) (ho : zP ob) :
  ∃ x,VRel κ v x/\(results fn a.tmps).run P w = .ok x w := by
 unfold q0j at h
 rw [I2]
 split at h
 ·rename_i rv hrv
  obtain ⟨x,hx,hr⟩ := oS (P := P) r h ho
  refine ⟨x,hx,?_⟩
  rw [hrv]
  simp only [List.mapM_cons,List.mapM_nil,Sem.run_bind,Sem.run_pure,Result.andThen_ok,hr]
  simp
 ·rename_i rs hne
  simp only [Option.map_eq_some_iff,Prod.mk.injEq] at h
  obtain ⟨⟨o1,q⟩,hq,rfl,rfl⟩ := h
  obtain ⟨xs,hxs,hr⟩ := q0w (P := P) r _ _ _ hq ho
  refine ⟨.tuple xs.toArray,⟨_,rfl,by simpa using hxs⟩,?_⟩
  simp only [Sem.run_bind,hr,Result.andThen_ok]
  have : ¬ xs.toArray.size = 1 := by
   intro h1
   have l1 := hxs.length
   have l2 : ∀ (rs : List ResultVar) (ob : List Prop) (vs : List AV),qI P s rs = some (ob,vs)->vs.length = rs.length := by
    intro rs
    induction rs with
    | nil => intro ob vs h; simp only [qI,Option.some.injEq,Prod.mk.injEq] at h; obtain ⟨_,rfl⟩ := h; rfl
    | cons a rs ih =>
     intro ob vs h
     simp only [qI,Option.bind_eq_some_iff,Option.map_eq_some_iff,Prod.mk.injEq] at h
     obtain ⟨⟨o1,v⟩,hv,⟨o2,vs'⟩,hvs,_,rfl⟩ := h
     simp [ih _ _ hvs]
   have l3 := l2 _ _ _ hq
   simp only [List.size_toArray] at h1
   have l4 : fn.results.toList.length = 1 := by omega
   cases hres : fn.results.toList with
   | nil => rw [hres] at l4; simp at l4
   | cons a l =>
    rw [hres] at l4
    have : l = [] := List.eq_nil_of_length_eq_zero (by simpa using l4)
    subst this
    exact hne a hres
  rw [dif_neg this]
  rfl
end
structure RL where
 ob : List Prop
 v : AV
 io : List (Option (Option ABlk))
 nw : List ABlk
def RL.iob (r : RL) : List (Option ABlk) := r.io.map fun x => match x with | some y => y | none => none
inductive TL where
 | no
 | ok (r : RL)
 | br (b : Bool) (x y : TL)
def TL.sel : TL->Option RL
 | .no => none
 | .ok r => some r
 | .br b x y => match b with | true => x.sel | false => y.sel
def TL.toT (f : RL->T) : TL->T
 | .no => .no
 | .ok r => f r
 | .br b x y => .br b (x.toT f) (y.toT f)
theorem TL.toT_sel {f : RL->T} {r : R} : ∀ {t : TL},(t.toT f).sel = some r->∃ q,t.sel = some q/\(f q).sel = some r
 | .no,h => by simp [TL.toT,T.sel] at h
 | .ok q,h => ⟨q,rfl,h⟩
 | .br b x y,h => by
  cases b
  ·exact TL.toT_sel (t := y) h
  ·exact TL.toT_sel (t := x) h
def rn (ios : List Nat) (fr : Nat) (i : Nat) : Option Nat := if GB<=i then none else match ios[i]? with | some j => some j | none => some (fr + (i - ios.length))
def u9 (f : Nat->Option Nat) : Con->Con
 | .cells l => .cells (fG f l)
 | .bytes l => .bytes l
 | .rows sz n g => .rows sz n fun y => fG f (g y)
 | .mp _ _ _ => .cells []
def renB (f : Nat->Option Nat) (b : ABlk) : ABlk := ⟨u9 f b.con,b.wr,b.own⟩
def lJ (c : Con) : Bool := match c with | .cells l => gD true l | _ => true
def cV (c : Con) : List Prop := match c with | .rows _ n g => [∀ y,y < n->gD true (g y) = true] | _ => []
structure Spec where
 ks : List Kd
 io : List AV->H->List Nat
 bk : H->List Nat->List (List Kd)
 G : List AV->List ABlk->TL
def kM (f : Nat->Option Nat) : List Nat->List (Option (Option ABlk))->List (Nat × Option ABlk)
 | j::js,b::bs => match b with | none => kM f js bs | some b => (j,b.map (renB f))::kM f js bs
 | _,_ => []
def eE (h : H) : List Nat->List (Option (Option ABlk))->Bool
 | j::js,b::bs => (match b with | none => (match h j with | some b => !b.wr | none => false) | some _ => true) && eE h js bs
 | _,_ => true
def fO (f : Nat->Option Nat) : Nat->List ABlk->List (Nat × Option ABlk)
 | _,[] => []
 | k,b::bs => (k,some (renB f b))::fO f (k + 1) bs
def rlT (h : H) (ios : List Nat) (ob : List Prop) (fr : Nat) (r : RL) : T :=
 if r.io.length = ios.length/\r.nw.length<=xI/\eE h ios r.io = true then .ok ⟨ob++r.ob,kK (rn ios fr) r.v,kM (rn ios fr) ios r.io++fO (rn ios fr) fr r.nw⟩ else .no
def mkF (sp : Spec) : lZ := fun h as fr =>
 qH (sp.io as h) fun ios =>
 if jN ios = true/\ios.all (fun j => decide (j < GB)) = true/\ios.length<=xI then
  match uA ios h sp.ks as with
  | some (o1,as2) =>
   match kL ios h ios (sp.bk h ios) with
   | some (o2,bs2) => (sp.G as2 bs2).toT (rlT h ios (o1++o2) fr)
   | none => .no
  | none => .no
 else .no
def fH (gl : Gl) (g : Nat) : Nat × ABlk := (GB + g,⟨.cells ((gl g).map absC0),false,0⟩)
def I3 (gl : Gl) (gs : List Nat) (as : List AV) (bs : List ABlk) : AS := mkS (yV 0 as) (gs.map (fH gl)++yV 0 bs) xI
def nM : Nat->List (Option ABlk)->List (Nat × ABlk)
 | _,[] => []
 | k,b::bs => match b with | some b => (k,b)::nM (k + 1) bs | none => nM (k + 1) bs
def uT (b : ABlk) : Bool := b.wr && lJ b.con
def dO (l : List (Option ABlk)) : Bool := l.all fun b => match b with | some b => uT b | none => true
def gG : List ABlk->List Prop
 | [] => []
 | b::bs => cV b.con++gG bs
def gH : List (Option ABlk)->List Prop
 | [] => []
 | b::bs => (match b with | some b => cV b.con | none => [])++gH bs
def vL (P : Program) (fn : Func) (np : Nat) (r : RL) : Exit->AS->Prop :=
 fun e s => match e with
  | .ret | .normal =>
   match q0j P fn s with
   | some (ob,v) => chk (r.v.out true && dO r.iob && r.nw.all uT)
     (fF (ob++gH r.iob++gG r.nw) (uH np ⟨Env.set .nil 0 v,s.h,s.nx⟩ [(0,r.v)] (nM 0 r.iob++yV np r.nw) (np + r.nw.length)))
   | none => False
  | _ => False
end Go.Sym
namespace Go.Sym
section
variable {P : Program} {gl : Gl} {M : Nat->Prop} {w : World} {κ : Ker} {h : H}
theorem HRel.addg (hr : HRel M w κ h) (hG : GW gl w) (hMG : sC gl M) (hρ : ∀ g,κ.ρ (GB + g) = some (g,0)) (g : Nat) : HRel M w κ (upd h (GB + g) (some (fH gl g).2)) := by
 have hat : ∀ off a,(fH gl g).2.con.at off = some a->∃ v,(gl g)[off]? = some v/\a = absC0 v := by
  intro off a ha
  simp only [fH,Con.at,List.getElem?_map,Option.map_eq_some_iff] at ha
  obtain ⟨v,hv,rfl⟩ := ha
  exact ⟨v,hv,rfl⟩
 have hlive : LiveB κ (GB + g) (fH gl g).2->¬ M g := by
  rintro (⟨o,a,ha⟩ | ⟨h0,_⟩)
  ·obtain ⟨v,hv,_⟩ := hat o a ha
   exact hMG g (by intro hn; rw [hn] at hv; simp at hv)
  ·simp [fH] at h0
 refine ⟨?_,?_,?_,hr.mem,hr.mp.upd (Ker.le_refl κ) rfl fun _ _ _ _ _ _ _ _ _ h => h⟩
 ·intro i b hi
  unfold upd at hi
  split at hi
  ·rename_i he
   subst he
   simp only [Option.some.injEq] at hi
   subst hi
   refine ⟨g,0,hρ g,fun hw => by simp [fH] at hw,fun off a ha => ?_⟩
   obtain ⟨v,hv,rfl⟩ := hat off a ha
   exact ⟨⟨v,by rw [Nat.zero_add]; exact hG g off v hv,cK κ v⟩,fun hw => by simp [fH] at hw⟩
  ·exact hr.blk i b hi
 ·intro i j b b' B O B' O' hi hj hne hw hl hl' e1 e2
  unfold upd at hi hj
  split at hi
  ·simp only [Option.some.injEq] at hi
   subst hi
   simp [fH] at hw
  ·split at hj
   ·rename_i he
    subst he
    simp only [Option.some.injEq] at hj
    subst hj
    rw [hρ g] at e2
    simp only [Option.some.injEq,Prod.mk.injEq] at e2
    obtain ⟨rfl,rfl⟩ := e2
    obtain ⟨B1,O1,k1,k2,_⟩ := hr.blk i b hi
    rw [e1] at k1
    simp only [Option.some.injEq,Prod.mk.injEq] at k1
    obtain ⟨rfl,rfl⟩ := k1
    intro hB
    subst hB
    exact hlive hl' (k2 hw hl).1
   ·exact hr.sep i j b b' B O B' O' hi hj hne hw hl hl' e1 e2
 ·intro i b B O hi ho e1
  unfold upd at hi
  split at hi
  ·simp only [Option.some.injEq] at hi
   subst hi
   simp [fH] at ho
  ·exact hr.own i b B O hi ho e1
theorem HRel.addgs (hG : GW gl w) (hMG : sC gl M) (hρ : ∀ g,κ.ρ (GB + g) = some (g,0)) {l : List (Nat × ABlk)} (hr : HRel M w κ (jD l).f) : ∀ (gs : List Nat),(∀ g ∈ gs,g < GB)->HRel M w κ (jD (gs.map (fH gl)++l)).f
 | [],_ => hr
 | g::gs,hl => by
  simp only [List.map_cons,List.cons_append]
  have hlt : GB + g < 2 ^ DH := by have := hl g (by simp); unfold GB DH at *; omega
  show HRel M w κ (jD ((GB + g,(fH gl g).2)::(gs.map (fH gl)++l))).f
  simp only [jD]
  rw [HT.f_put _ _ _ hlt]
  exact (HRel.addgs hG hMG hρ hr gs (fun g hg => hl g (by simp [hg]))).addg hG hMG hρ g
end
theorem ups_cases : ∀ (l : List (Nat × Option ABlk)) (h : H) (i : Nat) (b : ABlk),h.ups l i = some b->(i,some b) ∈ l \/ (h i = some b/\∀ x,(i,x) ∉ l)
 | [],h,i,b,hi => .inr ⟨hi,fun x hx => by simp at hx⟩
 | (j,c)::l,h,i,b,hi => by
  rcases ups_cases l (upd h j c) i b hi with h1 | ⟨h1,h2⟩
  ·exact .inl (by simp [h1])
  ·unfold upd at h1
   split at h1
   ·rename_i he
    subst he
    subst h1
    exact .inl (by simp)
   ·rename_i hne
    refine .inr ⟨h1,fun x hx => ?_⟩
    rcases List.mem_cons.1 hx with hx | hx
    ·simp only [Prod.mk.injEq] at hx
     exact hne hx.1
    ·exact h2 x hx
theorem cW {f : Nat->Option Nat} : ∀ (js : List Nat) (bs : List (Option (Option ABlk))) (i : Nat) (b : ABlk),(i,some b) ∈ kM f js bs->∃ (t : Nat) (b5 : ABlk),js[t]? = some i/\bs[t]? = some (some (some b5))/\b = renB f b5
 | [],bs,i,b,h => by simp [kM] at h
 | j::js,[],i,b,h => by simp [kM] at h
 | j::js,none::bs,i,b,h => by
  simp only [kM] at h
  obtain ⟨t,b5,h1,h2,h3⟩ := cW js bs i b h
  exact ⟨t + 1,b5,by simpa using h1,by simpa using h2,h3⟩
 | j::js,some c::bs,i,b,h => by
  simp only [kM,List.mem_cons,Prod.mk.injEq] at h
  rcases h with ⟨rfl,h⟩ | h
  ·cases c with
   | none => simp at h
   | some c => simp at h; exact ⟨0,c,rfl,rfl,h⟩
  ·obtain ⟨t,b5,h1,h2,h3⟩ := cW js bs i b h
   exact ⟨t + 1,b5,by simpa using h1,by simpa using h2,h3⟩
theorem cX {f : Nat->Option Nat} {h : H} : ∀ (js : List Nat) (bs : List (Option (Option ABlk))) (i : Nat),bs.length = js.length->eE h js bs = true->(∀ x,(i,x) ∉ kM f js bs)->i ∉ js \/ ∃ b,h i = some b/\b.wr = false
 | [],bs,i,_,_,_ => by simp
 | j::js,[],i,hl,_,_ => by simp at hl
 | j::js,none::bs,i,hl,hk,hn => by
  simp only [kM] at hn
  simp only [eE,Bool.and_eq_true] at hk
  by_cases he : i = j
  ·subst he
   right
   cases hi : h i with
   | none => rw [hi] at hk; simp at hk
   | some b => rw [hi] at hk; exact ⟨b,rfl,by simpa using hk.1⟩
  ·rcases cX (f := f) js bs i (by simpa using hl) hk.2 hn with h1 | h1
   ·exact .inl (by simp [he,h1])
   ·exact .inr h1
 | j::js,some c::bs,i,hl,hk,hn => by
  simp only [eE,Bool.and_eq_true] at hk
  have he : i ≠ j := fun he => hn _ (by subst he; simp only [kM,List.mem_cons]; exact .inl rfl)
  rcases cX (f := f) js bs i (by simpa using hl) hk.2 (fun x hx => hn x (by simp only [kM,List.mem_cons]; exact .inr hx)) with h1 | h1
  ·exact .inl (by simp [he,h1])
  ·exact .inr h1
theorem rJ {f : Nat->Option Nat} : ∀ (bs : List ABlk) (k i : Nat) (b : ABlk),(i,some b) ∈ fO f k bs->∃ (t : Nat) (b5 : ABlk),i = k + t/\bs[t]? = some b5/\b = renB f b5
 | [],k,i,b,h => by simp [fO] at h
 | c::bs,k,i,b,h => by
  simp only [fO,List.mem_cons,Prod.mk.injEq,Option.some.injEq] at h
  rcases h with ⟨rfl,h⟩ | h
  ·exact ⟨0,c,rfl,rfl,h⟩
  ·obtain ⟨t,b5,h1,h2,h3⟩ := rJ bs (k + 1) i b h
   exact ⟨t + 1,b5,by omega,by simpa using h2,h3⟩
theorem jQ : ∀ (l : List (Option ABlk)) (k i : Nat) (b : ABlk),(i,b) ∈ nM k l ↔ ∃ t,i = k + t/\l[t]? = some (some b)
 | [],k,i,b => by simp [nM]
 | c::l,k,i,b => by
  have ih := jQ l (k + 1) i b
  constructor
  ·intro h
   cases c with
   | none =>
    simp only [nM] at h
    obtain ⟨t,rfl,h2⟩ := ih.1 h
    exact ⟨t + 1,by omega,by simpa using h2⟩
   | some c =>
    simp only [nM,List.mem_cons,Prod.mk.injEq] at h
    rcases h with ⟨rfl,rfl⟩ | h
    ·exact ⟨0,rfl,rfl⟩
    ·obtain ⟨t,rfl,h2⟩ := ih.1 h
     exact ⟨t + 1,by omega,by simpa using h2⟩
  ·rintro ⟨t,rfl,h2⟩
   cases t with
   | zero =>
    simp at h2
    subst h2
    simp [nM]
   | succ t =>
    have := ih.2 ⟨t,by omega,by simpa using h2⟩
    cases c with
    | none => simpa [nM] using this
    | some c => simp [nM,this]
theorem mkHT_get : ∀ (l : List (Nat × ABlk)) (i : Nat) (b : ABlk),(∀ p ∈ l,p.1 < 2 ^ DH)->(i,b) ∈ l->(∀ b',(i,b') ∈ l->b' = b)->(jD l).f i = some b
 | [],i,b,_,h,_ => by simp at h
 | (j,c)::l,i,b,hl,h,hu => by
  simp only [jD]
  rw [HT.f_put _ _ _ (hl (j,c) (by simp))]
  unfold upd
  split
  ·rename_i he
   subst he
   rw [hu c (by simp)]
  ·rename_i hne
   refine mkHT_get l i b (fun p hp => hl p (by simp [hp])) ?_ (fun b' hb' => hu b' (by simp [hb']))
   rcases List.mem_cons.1 h with h | h
   ·simp only [Prod.mk.injEq] at h
    exact absurd h.1 hne
   ·exact h
section
variable {f : Nat->Option Nat}
theorem S5 (c : Con) (off : Nat) : (u9 f c).at off = (c.at off).map (kK f) := by
 cases c with
 | cells l => simp only [u9,Con.at]; exact oK l off
 | bytes l => simp only [u9,Con.at,Option.map_map]; rfl
 | rows sz n g =>
  simp only [u9,Con.at]
  split
  ·exact oK _ _
  ·rfl
 | mp ag p g => rfl
theorem S6 (c : Con) : (u9 f c).isMap = false := by cases c <;> rfl
theorem v4 (c : Con) : (u9 f c).len = c.len := by
 cases c with
 | cells l => simp only [u9,Con.len]; exact u6 l
 | bytes l => rfl
 | rows sz n g => rfl
 | mp ag p g => rfl
theorem oT {p : Bool} : ∀ {l : List AV} {i : Nat} {a : AV},gD p l = true->l[i]? = some a->a.out p = true
 | [],i,a,_,h => by simp at h
 | b::l,i,a,ho,h => by
  simp only [gD,Bool.and_eq_true] at ho
  cases i with
  | zero => simp at h; subst h; exact ho.1
  | succ i => simp at h; exact oT ho.2 h
theorem m2x {c : Con} (h1 : lJ c = true) (h2 : zP (cV c)) {off : Nat} {a : AV} (ha : c.at off = some a) : a.out true = true := by
 cases c with
 | cells l => exact oT (by simpa [lJ] using h1) ha
 | bytes l =>
  simp only [Con.at,Option.map_eq_some_iff] at ha
  obtain ⟨b,_,rfl⟩ := ha
  rfl
 | rows sz n g =>
  simp only [Con.at] at ha
  split at ha
  ·rename_i hlt
   have hpos : 0 < sz := by rcases Nat.eq_zero_or_pos sz with h | h; (subst h; simp at hlt); exact h
   exact oT (zA.1 h2 _ ((Nat.div_lt_iff_lt_mul hpos).2 hlt)) ha
  ·cases ha
 | mp ag p g => cases ha
end
theorem rK : ∀ {bs : List ABlk},zP (gG bs)->∀ {t : Nat} {b : ABlk},bs[t]? = some b->zP (cV b.con)
 | [],_,t,b,h => by simp at h
 | c::bs,ho,t,b,h => by
  simp only [gG] at ho
  obtain ⟨h1,h2⟩ := zE.1 ho
  cases t with
  | zero => simp at h; subst h; exact h1
  | succ t => simp at h; exact rK h2 h
theorem rL : ∀ {bs : List (Option ABlk)},zP (gH bs)->∀ {t : Nat} {b : ABlk},bs[t]? = some (some b)->zP (cV b.con)
 | [],_,t,b,h => by simp at h
 | c::bs,ho,t,b,h => by
  simp only [gH] at ho
  obtain ⟨h1,h2⟩ := zE.1 ho
  cases t with
  | zero => simp at h; subst h; exact h1
  | succ t => simp at h; exact rL h2 h
def MC (w : World) (κ : Ker) (hs : H) (ios : List Nat) (B : Nat) : Prop := w.heap.size<=B \/ ∃ j b O,j ∈ ios/\hs j = some b/\b.wr = true/\LiveB κ j b/\κ.ρ j = some (B,O)
section
variable {P : Program} {gl : Gl} {M : Nat->Prop} {w w' : World} {κ κ2 κ5 : Ker} {hs h : H} {ios : List Nat} {fr n : Nat} {r : RL} {a' : Act}
def GoodV (M : Nat->Prop) (w : World) (κ : Ker) (fr : Nat) (v : AV) (h' : H) (x : Value) (w' : World) : Prop :=
 ∃ κ' : Ker,κ.le κ'/\(∀ i,(i < fr \/ fr + xI<=i)->κ'.ρ i = κ.ρ i)/\VRel κ' v x/\HRel M w' κ' h'/\Only M w w'/\(∀ a y,κ'.m a = some y->κ.m a = some y \/ M a.block)/\∀ a y,κ'.v a = some y->κ.v a = some y \/ M a.block
theorem GoodV.good {M : Nat->Prop} {w : World} {κ : Ker} {fr : Nat} {v : AV} {h' : H} {x : Value} {w' : World} (g : GoodV M w κ fr v h' x w') : Good M w κ fr v h' x w' := by
 obtain ⟨κ',k1,k2,k3,k4,k5,k6,_⟩ := g
 exact ⟨κ',k1,k2,k3,k4,k5,k6⟩
theorem n0j (hr : HRel M w κ h) (hle : hs.le h) (hup : ∀ B,w.heap.size<=B->M B) (hfr : ∀ i,fr<=i->i < fr + xI->κ.ρ i = none) (hfrG : fr + xI<=GB)
  (vr : VwR (xD ios) M w κ hs κ2) (hvm : ∀ a x,κ2.m a = some x->κ.m a = some x) (hnd : ios.Nodup) (hltG : ∀ j ∈ ios,j < GB) (hlen : ios.length<=xI) (hin : ∀ j ∈ ios,∃ b,hs j = some b)
  (hio : r.io.length = ios.length) (hnw : r.nw.length<=xI) (hout : r.v.out true = true) (hkeep : eE hs ios r.io = true) (hoio : dO r.iob = true) (honw : r.nw.all uT = true) (hob1 : zP (gH r.iob)) (hob2 : zP (gG r.nw))
  (r5 : RRel [] gl (MC w κ hs ios) w n ios.length κ2 (fun _ => True) κ5 (mkS [(0,r.v)] (nM 0 r.iob++yV ios.length r.nw) (ios.length + r.nw.length)) a' w') {x : Value} (hx : VRel κ5 r.v x) :
  GoodV M w κ fr (kK (rn ios fr) r.v) (h.ups (kM (rn ios fr) ios r.io++fO (rn ios fr) fr r.nw)) x w' := by
 have hSG : xI < GB := by unfold xI GB; omega
 have hST : xI + xI<=GB := by unfold xI GB; omega
 -- what may be written
 have hM2 : ∀ B,MC w κ hs ios B->M B := by
  rintro B (hB | ⟨j,b,O,hj,hb,hw,hl,hρ⟩)
  ·exact hup B hB
  ·obtain ⟨B1,O1,e1,e2,_⟩ := hr.blk j b (hle j b hb)
   rw [hρ] at e1
   simp only [Option.some.injEq,Prod.mk.injEq] at e1
   obtain ⟨rfl,rfl⟩ := e1
   exact (e2 hw hl).1
 have hMv : ∀ B,MC w κ hs ios B->∀ a x,κ.v a = some x->a.block ≠ B := by
  rintro B (hB | ⟨j,b,O,hj,hb,hw,hl,hρ⟩) a x ha
  ·have := yO (hr.mem a x ha)
   omega
  ·obtain ⟨B1,O1,e1,e2,_⟩ := hr.blk j b (hle j b hb)
   rw [hρ] at e1
   simp only [Option.some.injEq,Prod.mk.injEq] at e1
   obtain ⟨rfl,rfl⟩ := e1
   exact (e2 hw hl).2.2.2 a x ha
 -- a block that is not the callee's
 have hMo : ∀ i b B O,h i = some b->(i ∉ ios \/ b.wr = false)->LiveB κ i b->κ.ρ i = some (B,O)->B < w.heap.size/\¬ MC w κ hs ios B := by
  intro i b B O hi hni hl hρ
  have hlt : B < w.heap.size := by
   rcases hl with ⟨o,a,ha⟩ | ⟨h1,h2⟩
   ·obtain ⟨⟨y,hy,_⟩,_⟩ := hr.cells hi hρ ha
    exact yO hy
   ·obtain ⟨k1,k2,k3⟩ := hr.own i b B O hi h1 hρ
    obtain ⟨⟨y,hy⟩,_⟩ := k3 0 (Nat.mul_pos h2 h1)
    exact yO hy
  refine ⟨hlt,?_⟩
  rintro (hB | ⟨j,b',O',hj,hb,hw,hl',hρ'⟩)
  ·omega
  ·refine hr.sep j i b' b B O' B O (hle j b' hb) hi (fun he => ?_) hw hl' hl hρ' hρ rfl
   rcases hni with hni | hni
   ·exact hni (he ▸ hj)
   ·subst he
    rw [hle _ _ hb] at hi
    simp only [Option.some.injEq] at hi
    rw [hi,hni] at hw
    cases hw
 have hoM : Only M w w' := r5.only.mono (fun k _ hk => hM2 k hk)
 -- cells that are still there
 have hcell : ∀ B off,B < w.heap.size->¬ MC w κ hs ios B->w'.cell? ⟨B,off,none⟩ = w.cell? ⟨B,off,none⟩/\w'.frozen? ⟨B,off,none⟩ = w.frozen? ⟨B,off,none⟩ := by
  intro B off hB hM
  have := r5.only.block B hB hM
  exact ⟨World.cell?_of_block (w := w) (a := ⟨B,off,none⟩) this,World.frozen?_of_block (w := w) (a := ⟨B,off,none⟩) this⟩
 have hvw : ∀ a x,κ.v a = some x->w'.cell? a = some x := by
  intro a x ha
  have hc := hr.mem a x ha
  have hb := r5.only.block a.block (yO hc) (fun hM => hMv _ hM a x ha rfl)
  rw [World.cell?_of_block (w := w) (a := a) hb]
  exact hc
 have h5m : ∀ a x,κ5.m a = some x->w'.cell? a = some x := fun a x ha => r5.heap.mem a x (κ5.sub a x ha)
 -- the new naming
 let κ' : Ker := ⟨fun i => if fr<=i/\i < fr + xI then κ5.ρ (ios.length + (i - fr)) else κ.ρ i,fun i => if fr<=i/\i < fr + xI then κ5.cap (ios.length + (i - fr)) else κ.cap i,
  fun a => if (κ.m a).isSome then κ.m a else κ5.m a,fun a => if (κ.v a).isSome then κ.v a else κ5.m a,by
   intro a x ha
   show (if (κ.v a).isSome then κ.v a else κ5.m a) = some x
   have ha' : (if (κ.m a).isSome then κ.m a else κ5.m a) = some x := ha
   split at ha'
   ·have := κ.sub a x ha'
    rw [if_pos (by rw [this]; rfl)]
    exact this
   ·split
    ·rename_i hsome
     obtain ⟨y,hy⟩ := Option.isSome_iff_exists.1 hsome
     have h1 := hvw a y hy
     have h2 := h5m a x ha'
     rw [h1] at h2
     rw [hy]; exact h2
    ·exact ha'⟩
 have hκout : ∀ i,(i < fr \/ fr + xI<=i)->κ'.ρ i = κ.ρ i/\κ'.cap i = κ.cap i := by
  intro i hi
  have hn : ¬ (fr<=i/\i < fr + xI) := by omega
  exact ⟨if_neg hn,if_neg hn⟩
 have hsomeout : ∀ i,(κ.ρ i).isSome->(i < fr \/ fr + xI<=i) := by
  intro i hi
  rcases Nat.lt_or_ge i fr with h1 | h1
  ·exact .inl h1
  ·rcases Nat.lt_or_ge i (fr + xI) with h2 | h2
   ·rw [hfr i h1 h2] at hi; cases hi
   ·exact .inr h2
 have hκm : ∀ a x,κ'.m a = some x->κ.m a = some x \/ κ5.m a = some x := by
  intro a x ha
  have ha' : (if (κ.m a).isSome then κ.m a else κ5.m a) = some x := ha
  split at ha'
  ·exact .inl ha'
  ·exact .inr ha'
 have hκv : ∀ a x,κ'.v a = some x->κ.v a = some x \/ κ5.m a = some x := by
  intro a x ha
  have ha' : (if (κ.v a).isSome then κ.v a else κ5.m a) = some x := ha
  split at ha'
  ·exact .inl ha'
  ·exact .inr ha'
 have hκm5 : ∀ a x,κ5.m a = some x->κ'.m a = some x := by
  intro a x ha
  show (if (κ.m a).isSome then κ.m a else κ5.m a) = some x
  split
  ·rename_i hsome
   obtain ⟨y,hy⟩ := Option.isSome_iff_exists.1 hsome
   have h1 := hvw a y (κ.sub a y hy)
   have h2 := h5m a x ha
   rw [h1] at h2
   rw [hy]; exact h2
  ·exact ha
 have hle' : κ.le κ' := by
  refine ⟨fun i p hp => by rw [(hκout i (hsomeout i (by rw [hp]; rfl))).1]; exact hp,fun i hi => (hκout i (hsomeout i hi)).2,fun a x ha => ?_,fun a x ha => ?_⟩
  ·show (if (κ.m a).isSome then κ.m a else κ5.m a) = some x
   rw [if_pos (by rw [ha]; rfl)]; exact ha
  ·show (if (κ.v a).isSome then κ.v a else κ5.m a) = some x
   rw [if_pos (by rw [ha]; rfl)]; exact ha
 have hiosout : ∀ j ∈ ios,(j < fr \/ fr + xI<=j) := by
  intro j hj
  obtain ⟨b,hb⟩ := hin j hj
  obtain ⟨p,hp⟩ := hr.named (hle j b hb)
  exact hsomeout j (by rw [hp]; rfl)
 -- names
 have hKF : ∀ t i,rn ios fr t = some i->(κ5.ρ t).isSome->κ'.ρ i = κ5.ρ t/\κ'.cap i = κ5.cap t := by
  intro t i ht hsome
  unfold rn at ht
  split at ht
  ·cases ht
  ·rename_i hG
   split at ht
   ·rename_i j hj
    simp only [Option.some.injEq] at ht
    subst ht
    have hmem := List.mem_of_getElem? hj
    have htl : t < ios.length := (List.getElem?_eq_some_iff.1 hj).1
    obtain ⟨k1,k2⟩ := hκout j (hiosout j hmem)
    obtain ⟨p1,p2,p3⟩ := r5.pin t htl
    have hto : (xD ios).to t = some j := by rw [dM (by omega)]; exact hj
    have e1 : κ2.ρ t = κ.ρ j := by rw [vr.ρ,if_neg (by simp [xD]),hto]; rfl
    have e2 : κ2.cap t = κ.cap j := vr.cap t j rfl hto
    exact ⟨by rw [k1,p2,e1],by rw [k2,p3,e2]⟩
   ·rename_i hj
    simp only [Option.some.injEq] at ht
    subst ht
    have htl : ios.length<=t := by simpa using hj
    have htn : t < ios.length + r.nw.length := by
     rcases Nat.lt_or_ge t (ios.length + r.nw.length) with h1 | h1
     ·exact h1
     ·exfalso
      have := r5.free ((t - (ios.length + r.nw.length)) / xI) trivial t (by
       simp only [mkS]
       have := Nat.div_mul_le_self (t - (ios.length + r.nw.length)) xI
       rw [Nat.mul_comm] at this
       omega) (by
       simp only [mkS]
       have := Nat.div_add_mod (t - (ios.length + r.nw.length)) xI
       have h2 := Nat.mod_lt (t - (ios.length + r.nw.length)) (show 0 < xI by unfold xI; omega)
       omega) (by omega)
      rw [this] at hsome
      cases hsome
    have hc : fr<=fr + (t - ios.length)/\fr + (t - ios.length) < fr + xI := by omega
    have he : ios.length + (fr + (t - ios.length) - fr) = t := by omega
    constructor
    ·show (if _ then _ else _) = _
     rw [if_pos hc,he]
    ·show (if _ then _ else _) = _
     rw [if_pos hc,he]
 have hTR : ∀ a v,a.out true = true->VRel κ5 a v->VRel κ' (kK (rn ios fr) a) v := fun a v ho hv =>
  dK (p := true) hKF (fun q a x hq hx => by
   have : q = true := by simpa using hq
   subst this
   exact hκm5 a x hx) a v ho hv
 -- what the callee's blocks are
 let hE : H := (jD (nM 0 r.iob++yV ios.length r.nw)).f
 have E : HRel (MC w κ hs ios) w' κ5 hE := r5.heap
 have hiobl : r.iob.length = r.io.length := by simp [RL.iob]
 have hkeys : ∀ p ∈ nM 0 r.iob++yV ios.length r.nw,p.1 < 2 ^ DH := by
  rintro ⟨i,b⟩ hp
  have hDH : GB < 2 ^ DH := by unfold GB DH; omega
  rcases List.mem_append.1 hp with hp | hp
  ·obtain ⟨t,rfl,h1⟩ := (jQ _ _ _ _).1 hp
   have := (List.getElem?_eq_some_iff.1 h1).1
   show 0 + t < _
   omega
  ·obtain ⟨t,rfl,h1⟩ := (xE _ _ _ _).1 hp
   have := (List.getElem?_eq_some_iff.1 h1).1
   show ios.length + t < _
   omega
 have hiob : ∀ (t : Nat) (b5 : ABlk),r.io[t]? = some (some (some b5))->r.iob[t]? = some (some b5) := by
  intro t b5 ht
  simp only [RL.iob,List.getElem?_map,ht,Option.map_some]
 have hEio : ∀ t b5,r.iob[t]? = some (some b5)->hE t = some b5 := by
  intro t b5 ht
  have htl := (List.getElem?_eq_some_iff.1 ht).1
  refine mkHT_get _ t b5 hkeys (List.mem_append.2 (.inl ((jQ _ _ _ _).2 ⟨t,by omega,ht⟩))) ?_
  intro b' hb'
  rcases List.mem_append.1 hb' with hb' | hb'
  ·obtain ⟨u,hu,h1⟩ := (jQ _ _ _ _).1 hb'
   obtain rfl : t = u := by omega
   rw [ht] at h1
   simpa using h1.symm
  ·obtain ⟨u,hu,h1⟩ := (xE _ _ _ _).1 hb'
   omega
 have hEnw : ∀ t b5,r.nw[t]? = some b5->hE (ios.length + t) = some b5 := by
  intro t b5 ht
  refine mkHT_get _ _ b5 hkeys (List.mem_append.2 (.inr ((xE _ _ _ _).2 ⟨t,rfl,ht⟩))) ?_
  intro b' hb'
  rcases List.mem_append.1 hb' with hb' | hb'
  ·obtain ⟨u,hu,h1⟩ := (jQ _ _ _ _).1 hb'
   have := (List.getElem?_eq_some_iff.1 h1).1
   omega
  ·obtain ⟨u,hu,h1⟩ := (xE _ _ _ _).1 hb'
   obtain rfl : t = u := by omega
   rw [ht] at h1
   simpa using h1.symm
 -- what the caller's blocks are
 have cls : ∀ i b,(h.ups (kM (rn ios fr) ios r.io++fO (rn ios fr) fr r.nw)) i = some b ->
   (∃ t b5,hE t = some b5/\b = renB (rn ios fr) b5/\rn ios fr t = some i/\b5.wr = true/\lJ b5.con = true/\zP (cV b5.con)) \/ ((i ∉ ios \/ b.wr = false)/\h i = some b) := by
  intro i b hi
  rcases ups_cases _ _ _ _ hi with h1 | ⟨h1,h2⟩
  ·left
   rcases List.mem_append.1 h1 with h1 | h1
   ·obtain ⟨t,b5,k1,k2,k3⟩ := cW _ _ _ _ h1
    have htl := (List.getElem?_eq_some_iff.1 k1).1
    have ho : uT b5 = true := by
     simp only [dO,List.all_eq_true] at hoio
     exact hoio _ (List.mem_of_getElem? (hiob t b5 k2))
    simp only [uT,Bool.and_eq_true] at ho
    refine ⟨t,b5,hEio t b5 (hiob t b5 k2),k3,?_,ho.1,ho.2,rL hob1 (hiob t b5 k2)⟩
    unfold rn
    rw [if_neg (by omega),k1]
   ·obtain ⟨t,b5,rfl,k2,k3⟩ := rJ _ _ _ _ h1
    have htl := (List.getElem?_eq_some_iff.1 k2).1
    have ho : uT b5 = true := by
     simp only [List.all_eq_true] at honw
     exact honw _ (List.mem_of_getElem? k2)
    simp only [uT,Bool.and_eq_true] at ho
    refine ⟨ios.length + t,b5,hEnw t b5 k2,k3,?_,ho.1,ho.2,rK hob2 k2⟩
    unfold rn
    rw [if_neg (by omega),show ios[ios.length + t]? = none by simp]
    simp only [Option.some.injEq]
    omega
  ·right
   refine ⟨?_,h1⟩
   rcases cX _ _ _ hio hkeep (fun x hx => h2 x (List.mem_append.2 (.inl hx))) with h3 | ⟨b',h3,h4⟩
   ·exact .inl h3
   ·rw [hle _ _ h3] at h1
    simp only [Option.some.injEq] at h1
    exact .inr (h1 ▸ h4)
 have hat : ∀ {b5 : ABlk} {off : Nat} {a : AV},(renB (rn ios fr) b5).con.at off = some a->∃ a5,b5.con.at off = some a5/\a = kK (rn ios fr) a5 := by
  intro b5 off a ha
  simp only [renB,S5,Option.map_eq_some_iff] at ha
  obtain ⟨a5,h1,h2⟩ := ha
  exact ⟨a5,h1,h2.symm⟩
 have hlive5 : ∀ {t i : Nat} {b5 : ABlk},κ'.cap i = κ5.cap t->LiveB κ' i (renB (rn ios fr) b5)->LiveB κ5 t b5 := by
  rintro t i b5 hc (⟨o,a,ha⟩ | ⟨h1,h2⟩)
  ·obtain ⟨a5,h5,_⟩ := hat ha
   exact .inl ⟨o,a5,h5⟩
  ·exact .inr ⟨h1,by rw [<- hc]; exact h2⟩
 have hliveo : ∀ {i : Nat} {b : ABlk},h i = some b->LiveB κ' i b->LiveB κ i b := by
  rintro i b hi (⟨o,a,ha⟩ | ⟨h1,h2⟩)
  ·exact .inl ⟨o,a,ha⟩
  ·obtain ⟨p,hp⟩ := hr.named hi
   exact .inr ⟨h1,by rw [hle'.cap i (by rw [hp]; rfl)] at h2; exact h2⟩
 have hmp : MapR M w' κ' (h.ups (kM (rn ios fr) ios r.io++fO (rn ios fr) fr r.nw)) := by
  refine hr.mp.of hle' (fun i b hi hm => ?_) (fun _ _ _ h _ => h) (fun i b B O es ck hi hm hρ he => ?_)
  ·rcases cls i b hi with ⟨t,b5,_,rfl,_⟩ | ⟨_,k1⟩
   ·simp only [renB,S6] at hm
    cases hm
   ·exact .inl k1
  ·have hlt : B < w.heap.size := (Array.getElem?_eq_some_iff.1 he).1
   rw [r5.only.block B hlt ?_]
   ·exact he
   ·rintro (hB | ⟨j,b',O',hj,hb',hw',hl',hρ'⟩)
    ·omega
    ·obtain ⟨B1,O1,e1,e2,_⟩ := hr.blk j b' (hle j b' hb')
     rw [hρ'] at e1
     simp only [Option.some.injEq,Prod.mk.injEq] at e1
     obtain ⟨rfl,rfl⟩ := e1
     obtain ⟨_,_,⟨c0,t,lo,hi2,hc0,_⟩,_⟩ := e2 hw' hl'
     rw [he] at hc0; cases hc0
 refine ⟨κ',hle',fun i hi => (hκout i hi).1,hTR _ _ hout hx,⟨?_,?_,?_,?_,hmp⟩,hoM,?_,?_⟩
 ·-- blocks
  intro i b hi
  rcases cls i b hi with ⟨t,b5,k1,rfl,k3,k4,k5,k6⟩ | ⟨hni,k1⟩
  ·obtain ⟨B,O,e1,e2,e3⟩ := E.blk t b5 k1
   obtain ⟨q1,q2⟩ := hKF t i k3 (by rw [e1]; rfl)
   refine ⟨B,O,by rw [q1]; exact e1,fun _ hl => ?_,fun off a ha => ?_⟩
   ·obtain ⟨m1,m2,m3,m4⟩ := e2 k4 (hlive5 q2 hl)
    refine ⟨hM2 B m1,m2,m3,fun a x hax => ?_⟩
    rcases hκv a x hax with h1 | h1
    ·exact hMv B m1 a x h1
    ·exact m4 a x (κ5.sub a x h1)
   ·obtain ⟨a5,h5,rfl⟩ := hat ha
    obtain ⟨⟨y,hy,hyv⟩,hf⟩ := e3 off a5 h5
    exact ⟨⟨y,hy,hTR a5 y (m2x k5 k6 h5) hyv⟩,fun _ => hf k4⟩
  ·obtain ⟨B,O,e1,e2,e3⟩ := hr.blk i b k1
   refine ⟨B,O,hle'.ρ i _ e1,fun hw hl => ?_,fun off a ha => ?_⟩
   ·have hl0 := hliveo k1 hl
    obtain ⟨m1,m2,m3,m4⟩ := e2 hw hl0
    obtain ⟨n1,n2⟩ := hMo i b B O k1 hni hl0 e1
    refine ⟨m1,Nat.lt_of_lt_of_le m2 r5.only.size,m3.same (r5.only.block B n1 n2),fun a x hax => ?_⟩
    rcases hκv a x hax with h1 | h1
    ·exact m4 a x h1
    ·rcases r5.mm a x h1 with h2 | h2
     ·exact m4 a x (κ.sub a x (hvm a x h2))
     ·intro he
      rw [he] at h2
      exact n2 h2
   ·obtain ⟨⟨y,hy,hyv⟩,hf⟩ := e3 off a ha
    obtain ⟨n1,n2⟩ := hMo i b B O k1 hni (.inl ⟨off,a,ha⟩) e1
    obtain ⟨c1,c2⟩ := hcell B (O + off) n1 n2
    exact ⟨⟨y,by rw [c1]; exact hy,VRel.mono hle' a y hyv⟩,fun hw => by rw [c2]; exact hf hw⟩
 ·-- apart
  intro i j b b' B O B' O' hi hj hne hw hl hl' e1 e2
  rcases cls i b hi with ⟨t,b5,k1,rfl,k3,k4,k5,k6⟩ | ⟨hni,k1⟩
  ·obtain ⟨p,hp⟩ := E.named k1
   obtain ⟨q1,q2⟩ := hKF t i k3 (by rw [hp]; rfl)
   rw [q1] at e1
   have hl5 := hlive5 q2 hl
   rcases cls j b' hj with ⟨t',b5',k1',rfl,k3',k4',k5',k6'⟩ | ⟨hni',k1'⟩
   ·obtain ⟨p',hp'⟩ := E.named k1'
    obtain ⟨q1',q2'⟩ := hKF t' j k3' (by rw [hp']; rfl)
    rw [q1'] at e2
    refine E.sep t t' b5 b5' B O B' O' k1 k1' (fun he => hne ?_) k4 hl5 (hlive5 q2' hl') e1 e2
    subst he
    rw [k3] at k3'
    simpa using k3'
   ·obtain ⟨B1,O1,m1,m2,_⟩ := E.blk t b5 k1
    rw [e1] at m1
    simp only [Option.some.injEq,Prod.mk.injEq] at m1
    obtain ⟨rfl,rfl⟩ := m1
    have hM := (m2 k4 hl5).1
    obtain ⟨p',hp'⟩ := hr.named k1'
    rw [hle'.ρ j _ hp'] at e2
    have : p' = (B',O') := by simpa using e2
    subst this
    obtain ⟨n1,n2⟩ := hMo j b' B' O' k1' hni' (hliveo k1' hl') hp'
    intro he
    rw [he] at hM
    exact n2 hM
  ·obtain ⟨p,hp⟩ := hr.named k1
   rw [hle'.ρ i _ hp] at e1
   have : p = (B,O) := by simpa using e1
   subst this
   have hl0 := hliveo k1 hl
   rcases cls j b' hj with ⟨t',b5',k1',rfl,k3',k4',k5',k6'⟩ | ⟨hni',k1'⟩
   ·obtain ⟨p',hp'⟩ := E.named k1'
    obtain ⟨q1',q2'⟩ := hKF t' j k3' (by rw [hp']; rfl)
    rw [q1'] at e2
    obtain ⟨B1,O1,m1,m2,_⟩ := E.blk t' b5' k1'
    rw [e2] at m1
    simp only [Option.some.injEq,Prod.mk.injEq] at m1
    obtain ⟨rfl,rfl⟩ := m1
    have hM := (m2 k4' (hlive5 q2' hl')).1
    obtain ⟨n1,n2⟩ := hMo i b B O k1 hni hl0 hp
    intro he
    rw [<- he] at hM
    exact n2 hM
   ·obtain ⟨p',hp'⟩ := hr.named k1'
    rw [hle'.ρ j _ hp'] at e2
    have : p' = (B',O') := by simpa using e2
    subst this
    exact hr.sep i j b b' B O B' O' k1 k1' hne hw hl0 (hliveo k1' hl') hp hp'
 ·-- own
  intro i b B O hi ho e1
  rcases cls i b hi with ⟨t,b5,k1,rfl,k3,k4,k5,k6⟩ | ⟨hni,k1⟩
  ·obtain ⟨p,hp⟩ := E.named k1
   obtain ⟨q1,q2⟩ := hKF t i k3 (by rw [hp]; rfl)
   rw [q1] at e1
   obtain ⟨m1,m2,m3⟩ := E.own t b5 B O k1 ho e1
   refine ⟨m1,?_,?_⟩
   ·simp only [renB,v4,q2]; exact m2
   ·simp only [renB,q2]; exact m3
  ·obtain ⟨p,hp⟩ := hr.named k1
   rw [hle'.ρ i _ hp] at e1
   have : p = (B,O) := by simpa using e1
   subst this
   have hcap := hle'.cap i (by rw [hp]; rfl)
   obtain ⟨m1,m2,m3⟩ := hr.own i b B O k1 ho hp
   rw [hcap]
   refine ⟨m1,m2,fun off hoff => ?_⟩
   have hpos : 0 < κ.cap i := by
    rcases Nat.eq_zero_or_pos (κ.cap i) with h | h
    ·rw [h] at hoff; simp at hoff
    ·exact h
   obtain ⟨n1,n2⟩ := hMo i b B O k1 hni (.inr ⟨ho,hpos⟩) hp
   obtain ⟨c1,c2⟩ := hcell B (O + off) n1 n2
   rw [c1,c2]
   exact m3 off hoff
 ·-- still memory
  intro a x ha
  rcases hκv a x ha with h1 | h1
  ·exact hvw a x h1
  ·exact h5m a x h1
 ·intro a x ha
  rcases hκm a x ha with h1 | h1
  ·exact .inl h1
  ·rcases r5.mm a x h1 with h2 | h2
   ·exact .inl (hvm a x h2)
   ·exact .inr (hM2 _ h2)
 ·intro a x ha
  rcases hκv a x ha with h1 | h1
  ·exact .inl h1
  ·rcases r5.mm a x h1 with h2 | h2
   ·exact .inl (κ.sub a x (hvm a x h2))
   ·exact .inr (hM2 _ h2)
end
end Go.Sym
namespace Go.Sym
def fI (fn : Func) (sp : Spec) (gs : List Nat) (c : Code) : Bool :=
 decide (sp.ks.length<=fn.ntmps) && decide (fn.ntmps<=2 ^ DE) && gs.all (fun g => decide (g < GB)) && j0w c
section
variable {P : Program} {gl : Gl} {Γ : Ctx}
def m0j (P : Program) (gl : Gl) (fn : Func) (np : Nat) (r : RL) (Q : Exit->AS->Prop) : Prop :=
 ∀ e s,Q e s->∀ ds M W0 n κ0 κ a w,RRel ds gl M W0 n np κ0 (fun _ => True) κ s a w->(e = .ret \/ e = .normal)/\(r.v.out true = true/\dO r.iob = true/\r.nw.all uT = true/\zP (gH r.iob)/\zP (gG r.nw)) /\
  ∃ x κ5 a5,(results fn a.tmps).run P w = .ok x w/\VRel κ5 r.v x/\RRel [] gl M W0 1 np κ0 (fun _ => True) κ5 (mkS [(0,r.v)] (nM 0 r.iob++yV np r.nw) (np + r.nw.length)) a5 w
theorem dP {fn : Func} {np : Nat} {r : RL} : m0j P gl fn np r (vL P fn np r) := by
 intro e s4 hQ ds M W0 n κ0 κ4 a' w' r4
 have fin : (match q0j P fn s4 with
   | some (ob,v) => chk (r.v.out true && dO r.iob && r.nw.all uT)
     (fF (ob++gH r.iob++gG r.nw) (uH np ⟨Env.set .nil 0 v,s4.h,s4.nx⟩ [(0,r.v)] (nM 0 r.iob++yV np r.nw) (np + r.nw.length)))
   | none => False)->(r.v.out true = true/\dO r.iob = true/\r.nw.all uT = true/\zP (gH r.iob)/\zP (gG r.nw)) /\
  ∃ x κ5 a5,(results fn a'.tmps).run P w' = .ok x w'/\VRel κ5 r.v x/\RRel [] gl M W0 1 np κ0 (fun _ => True) κ5 (mkS [(0,r.v)] (nM 0 r.iob++yV np r.nw) (np + r.nw.length)) a5 w' := by
  intro hm
  split at hm
  ·rename_i ob v hres
   obtain ⟨hc,hm⟩ := xR.1 hm
   obtain ⟨hob,hwk⟩ := (vI _ _).1 hm
   simp only [Bool.and_eq_true] at hc
   obtain ⟨⟨hc1,hc2⟩,hc3⟩ := hc
   obtain ⟨hob,hob3⟩ := zE.1 hob
   obtain ⟨hob1,hob2⟩ := zE.1 hob
   obtain ⟨x,hx,hrun⟩ := R9 (P := P) r4 hres hob1
   refine ⟨⟨hc1,hc2,hc3,hob2,hob3⟩,x,?_⟩
   have r4' : RRel [] gl M W0 1 np κ0 (fun _ => True) κ4 ⟨Env.set .nil 0 v,s4.h,s4.nx⟩ { tmps := #[x],defers := [] } w' := by
    refine ⟨?_,rfl,rfl,r4.glob,r4.heap,r4.only,r4.free,r4.grho,r4.pin,r4.mm,r4.vv⟩
    intro t ht
    have h0 : 0 < 2 ^ DE := by unfold DE; omega
    show VRel κ4 ((Env.set .nil 0 v).at t) _
    rw [Env.at_set _ _ h0 ht]
    split
    ·rename_i he; subst he; exact hx
    ·have : Env.at (Tr.nil) t = AV.any := by simp [Env.at,Tr.get_nil]
     rw [this]; exact trivial
   obtain ⟨κ5,r5⟩ := r4'.weak (uZ hwk)
   have hx5 : VRel κ5 r.v x := by
    have h0 : 0 < 2 ^ DE := by unfold DE; omega
    have := r5.env 0 h0
    simp only [mkS,aI] at this
    rw [Env.at_set _ _ h0 h0,if_pos rfl] at this
    exact this
   exact ⟨κ5,_,hrun,hx5,r5⟩
  ·exact hm.elim
 cases e <;> simp only [vL] at hQ
 ·exact ⟨.inr rfl,fin hQ⟩
 ·exact ⟨.inl rfl,fin hQ⟩
theorem cY {f : FuncId} {fn : Func} {c : Code} {sp : Spec} {gs : List Nat} {fuel : Nat} (hf : P.funcs[f]? = some fn) (hb : fn.body = some c) (hok : fI fn sp gs c = true) (hΓ : COKs P gl Γ) (hmix : P.follows .mixedOrders = true)
  {M : Nat->Prop} {w : World} {κ : Ker} {hs h : H} {as : List AV} {vals : Array Value} {fr : Nat} {ios : List Nat} {o1 o2 : List Prop} {as2 : List AV} {bs2 : List ABlk} {r : RL}
  (hG : GW gl w) (hMG : sC gl M) (hr : HRel M w κ h) (hle : hs.le h) (hup : ∀ B,w.heap.size<=B->M B) (hfr : ∀ i,fr<=i->i < fr + xI->κ.ρ i = none) (hgrho : ∀ g,κ.ρ (GB + g) = some (g,0)) (hfrG : fr + xI<=GB) (hvs : VRels κ as vals.toList)
  (hnd : jN ios = true) (hltG : ios.all (fun j => decide (j < GB)) = true) (hlen : ios.length<=xI) (hi1 : uA ios hs sp.ks as = some (o1,as2)) (hi2 : kL ios hs ios (sp.bk hs ios) = some (o2,bs2)) (ho1 : zP o1) (ho2 : zP o2)
  (hio : r.io.length = ios.length) (hnw : r.nw.length<=xI) (hkeep : eE hs ios r.io = true)
  {Q : Exit->AS->Prop} (hE : m0j P gl fn ios.length r Q) (hw : wW P Γ fn.ntmps ios.length fuel c [] Q (I3 gl gs as2 bs2)) :
  Calls P f vals w fun e w' => ∃ x,e = .returned x/\GoodV M w κ fr (kK (rn ios fr) r.v) (h.ups (kM (rn ios fr) ios r.io++fO (rn ios fr) fr r.nw)) x w' := by
 simp only [fI,Bool.and_eq_true,decide_eq_true_eq,List.all_eq_true] at hok
 obtain ⟨⟨⟨hk1,hk2⟩,hk3⟩,hk4⟩ := hok
 simp only [List.all_eq_true,decide_eq_true_eq] at hltG
 have hSG : xI<=GB := by unfold xI GB; omega
 have hnd' := uR _ hnd
 have hrs : HRel M w κ hs := hr.le hle
 obtain ⟨κ2,vr,hv,hvm⟩ := gC hrs (xD ios)
 have hvm' : ∀ a x,κ2.m a = some x->κ.m a = some x := by
  intro a x ha
  rcases hvm a x ha with h1 | ⟨j,b,O,h1,_⟩
  ·exact h1
  ·simp [Vw.still,xD] at h1
 obtain ⟨hbl1,hbl2,hbs⟩ := gT hrs vr (by omega) ios (sp.bk hs ios) bs2 o2 hi2 ho2
 have hin : ∀ j ∈ ios,∃ b,hs j = some b := by
  intro j hj
  obtain ⟨t,ht⟩ := List.getElem?_of_mem hj
  have htl : t < bs2.length := by rw [hbl1]; exact (List.getElem?_eq_some_iff.1 ht).1
  obtain ⟨j',b,k1,k2,_⟩ := hbs t bs2[t] (List.getElem?_eq_getElem htl)
  rw [ht] at k1
  simp only [Option.some.injEq] at k1
  subst k1
  exact ⟨b,k2⟩
 have hto : ∀ t,t < GB->(xD ios).to t = ios[t]? := fun t ht => dM ht
 have hg2 : ∀ g,κ2.ρ (GB + g) = some (g,0) := by
  intro g
  rw [vr.ρ,if_neg (by simp [xD])]
  unfold Vw.to
  rw [if_pos (by omega)]
  exact hgrho g
 have hM2 : ∀ B,MC w κ hs ios B->M B := by
  rintro B (hB | ⟨j,b,O,hj,hb,hw,hl,hρ⟩)
  ·exact hup B hB
  ·obtain ⟨B1,O1,e1,e2,_⟩ := hrs.blk j b hb
   rw [hρ] at e1
   simp only [Option.some.injEq,Prod.mk.injEq] at e1
   obtain ⟨rfl,rfl⟩ := e1
   exact (e2 hw hl).1
 have hMG2 : sC gl (MC w κ hs ios) := fun g hg hm => hMG g hg (hM2 g hm)
 have hkeys : ∀ p ∈ yV 0 bs2,p.1 < 2 ^ DH := by
  rintro ⟨i,b⟩ hp
  have hDH : GB < 2 ^ DH := by unfold GB DH; omega
  obtain ⟨t,rfl,h1⟩ := (xE _ _ _ _).1 hp
  have := (List.getElem?_eq_some_iff.1 h1).1
  show 0 + t < _
  omega
 have hmemb : ∀ i b2,(jD (yV 0 bs2)).f i = some b2->bs2[i]? = some b2/\i < ios.length := by
  intro i b2 hi
  obtain ⟨t,ht,h1⟩ := (xE _ _ _ _).1 (gS _ hkeys i b2 hi)
  obtain rfl : i = t := by omega
  exact ⟨h1,by rw [<- hbl1]; exact (List.getElem?_eq_some_iff.1 h1).1⟩
 have heap0 : HRel (MC w κ hs ios) w κ2 (jD (yV 0 bs2)).f := by
  refine cQ hrs vr hv ?_ ?_ ?_ (fun i j b B _ _ _ ⟨b2,hi,hm⟩ => by
   have h7 := oQ _ _ _ _ hi2 b2 (List.mem_of_getElem? (hmemb i b2 hi).1)
   rw [h7] at hm; cases hm)
  ·intro i b2 hi
   obtain ⟨h1,h2⟩ := hmemb i b2 hi
   obtain ⟨j,b,k1,k2,k3,k4,k5,k6⟩ := hbs i b2 h1
   have hj := hto i (by omega)
   rw [k1] at hj
   refine .inr ⟨rfl,j,b,hj,k2,by rw [vr.ρ,if_neg (by simp [xD]),hj]; rfl,vr.cap i j rfl hj,rH (List.mem_of_getElem? k1),fun hw => by rw [<- k3]; exact hw,fun ho => ?_,k5,k6,fun ag p g hc => by
    have h7 := oQ _ _ _ _ hi2 b2 (List.mem_of_getElem? h1)
    rw [hc] at h7; cases h7⟩
   rw [k4] at ho
   obtain ⟨⟨B,O⟩,hp⟩ := hrs.named k2
   exact ⟨k4,by rw [k3]; exact (hrs.own j b B O k2 ho hp).1⟩
  ·intro i i' b b' hi hi' _ _ he
   obtain ⟨h1,h2⟩ := hmemb i b hi
   obtain ⟨h1',h2'⟩ := hmemb i' b' hi'
   rw [hto i (by omega),hto i' (by omega)] at he
   exact (List.getElem?_inj h2 hnd').1 he
  ·rintro i j b B O hj hb hwr hl hρ ⟨b2,hi,_⟩
   obtain ⟨h1,h2⟩ := hmemb i b2 hi
   rw [hto i (by omega)] at hj
   exact .inr ⟨j,b,O,List.mem_of_getElem? hj,hb,hwr,hl,hρ⟩
 obtain ⟨hl1,hl2⟩ := oP _ _ _ _ hi1
 have hv2 : VRels κ2 as2 vals.toList := nZ hrs vr (by omega) sp.ks as as2 _ o1 hi1 ho1 hvs
 have hvl := hv2.length
 simp only [Array.length_toList] at hvl
 have r0 : RRel [] gl (MC w κ hs ios) w fn.ntmps ios.length κ2 (fun _ => True) κ2 (I3 gl gs as2 bs2) { tmps := vals++Array.replicate (fn.ntmps - vals.size) undef,defers := [] } w := by
  refine ⟨?_,by simp; omega,rfl,hG,?_,Only.refl _ _,?_,hg2,?_,fun _ _ h => .inl h,fun _ _ _ h => h⟩
  ·intro t ht
   rcases mkE_at (yV 0 as2) (fun p hp => by
    obtain ⟨u,hu,h1⟩ := (xE _ _ _ _).1 hp
    have := (List.getElem?_eq_some_iff.1 h1).1
    omega) t ht with h1 | h1
   ·show VRel κ2 ((aI (yV 0 as2)).at t) _
    rw [h1]; exact trivial
   ·show VRel κ2 ((aI (yV 0 as2)).at t) _
    obtain ⟨u,hu,h2⟩ := (xE _ _ _ _).1 h1
    obtain rfl : t = u := by omega
    obtain ⟨y,hy,hrel⟩ := hv2.get h2
    have hts : t < vals.size := by rw [<- hvl]; exact (List.getElem?_eq_some_iff.1 h2).1
    have hget : (vals++Array.replicate (fn.ntmps - vals.size) undef).getD t undef = y := by
     rw [Array.getD_eq_getD_getElem?,Array.getElem?_append_left hts]
     have : vals[t]? = some y := by simpa using hy
     rw [this]; rfl
    rw [hget]
    exact hrel
  ·exact HRel.addgs hG hMG2 hg2 heap0 gs hk3
  ·intro j _ i h1 h2 h3
   simp only [I3,mkS] at h1
   have hge : xI<=i := by omega
   rw [vr.ρ,if_neg (by simp [xD]),hto i h3,List.getElem?_eq_none (by omega)]
   rfl
  ·intro i hi
   refine ⟨?_,rfl,rfl⟩
   have hmem := List.getElem_mem hi
   obtain ⟨b,hb⟩ := hin _ hmem
   obtain ⟨p,hp⟩ := hrs.named hb
   rw [vr.ρ,if_neg (by simp [xD]),hto i (by omega),List.getElem?_eq_getElem hi]
   show (κ.ρ ios[i]).isSome
   rw [hp]; rfl
 refine (callsIn_wide (n := 0)).1 (callsIn_of_wp_marks (F := FW none) (n := 0) hf hb trivial ?_)
 refine wpIn_mono (k0j hΓ hMG2 (fun B hB => .inl hB) hk2 hmix 0 fuel c _ _ hk4 hw [] κ2 _ w r0) ?_
 intro e a' w' hL
 obtain ⟨κ4,s4,w4,hQ,r4,hlv⟩ := hL.leave (P := P) (F := FW none) (m := 0) (fn := fn) (R := fun e w' => ∃ x,e = .returned x/\GoodV M w κ fr (kK (rn ios fr) r.v) (h.ups (kM (rn ios fr) ios r.io++fO (rn ios fr) fr r.nw)) x w') (fun B hB => .inl hB)
 obtain ⟨he,⟨hc1,hc2,hc3,hob2,hob3⟩,x,κ5,a5,hrun,hx5,r5⟩ := hE e s4 hQ _ _ _ _ _ _ _ _ r4
 have hg := n0j hr hle hup hfr hfrG vr hvm' hnd' hltG hlen hin hio hnw hc1 hkeep hc2 hc3 hob2 hob3 r5 hx5
 rcases he with rfl | rfl
 ·exact hlv ⟨x,hrun,x,rfl,hg⟩
 ·exact hlv ⟨x,hrun,x,rfl,hg⟩
def COKv (P : Program) (gl : Gl) (f : FuncId) (F : lZ) : Prop :=
 (∀ args w,(callFunc f args).run P w = .ok (.enter f args) w) /\
 ∀ M w κ hs h as (vals : Array Value) fr r,GW gl w->sC gl M->HRel M w κ h->hs.le h->(∀ B,w.heap.size<=B->M B)->(∀ i,fr<=i->i < fr + xI->κ.ρ i = none)->(∀ g,κ.ρ (GB + g) = some (g,0))->fr + xI<=GB->VRels κ as vals.toList ->
  (F hs as fr).sel = some r->zP r.ob->Calls P f vals w fun e w' => ∃ x,e = .returned x/\GoodV M w κ fr r.v (h.ups r.up) x w'
theorem lK {f : FuncId} {fn : Func} {c : Code} {sp : Spec} (gs : List Nat) (fuel : Nat) (hf : P.funcs[f]? = some fn) (hb : fn.body = some c) (hok : fI fn sp gs c = true) (hΓ : COKs P gl Γ) (hmix : P.follows .mixedOrders = true)
  (hcall : ∀ args w,(callFunc f args).run P w = .ok (.enter f args) w)
  (h : ∀ as bs r,(sp.G as bs).sel = some r->zP r.ob->∃ Q,m0j P gl fn bs.length r Q/\wW P Γ fn.ntmps bs.length fuel c [] Q (I3 gl gs as bs)) :
  COKv P gl f (mkF sp) := by
 refine ⟨hcall,?_⟩
 intro M w κ hs hh as vals fr r hG hMG hr hle hup hfr hgrho hfrG hvs hsel hobr
 unfold mkF at hsel
 rw [wH] at hsel
 split at hsel
 ·rename_i hc
  obtain ⟨hc1,hc2,hc3⟩ := hc
  split at hsel
  ·rename_i o1 as2 hi1
   split at hsel
   ·rename_i o2 bs2 hi2
    obtain ⟨q,hq1,hq2⟩ := TL.toT_sel hsel
    unfold rlT at hq2
    split at hq2
    ·rename_i hl
     simp only [T.sel,Option.some.injEq] at hq2
     subst hq2
     obtain ⟨hoo,hoq⟩ := zE.1 hobr
     obtain ⟨ho1,ho2⟩ := zE.1 hoo
     have hSG : xI<=GB := by unfold xI GB; omega
     obtain ⟨hl1,hl2⟩ : bs2.length = (sp.io as hs).length/\(sp.io as hs).length = (sp.bk hs (sp.io as hs)).length := by
      obtain ⟨κ2,vr,_⟩ := gC (hr.le hle) (xD (sp.io as hs))
      obtain ⟨k1,k2,_⟩ := gT (hr.le hle) vr (by omega) _ _ bs2 o2 hi2 ho2
      exact ⟨k1,k2⟩
     obtain ⟨Q,hE,hw⟩ := h as2 bs2 q hq1 hoq
     rw [hl1] at hw hE
     exact cY hf hb hok hΓ hmix hG hMG hr hle hup hfr hgrho hfrG hvs hc1 hc2 hc3 hi1 hi2 ho1 ho2 hl.1 hl.2.1 hl.2.2 hE hw
    ·simp [T.sel] at hq2
   ·simp [T.sel] at hsel
  ·simp [T.sel] at hsel
 ·simp [T.sel] at hsel
theorem COKv.cok {f : FuncId} {F : lZ} (h : COKv P gl f F) : COK P gl f F :=
 .inl ⟨h.1,fun M w κ hs hh as vals fr r a1 a2 a3 a4 a5 a6 a7 a8 a9 a10 a11 => (h.2 M w κ hs hh as vals fr r a1 a2 a3 a4 a5 a6 a7 a8 a9 a10 a11).mono fun e w' ⟨x,hx,g⟩ => ⟨x,hx,g.good⟩⟩
theorem I4 {f : FuncId} {fn : Func} {c : Code} {sp : Spec} (gs : List Nat) (fuel : Nat) (hf : P.funcs[f]? = some fn) (hb : fn.body = some c) (hok : fI fn sp gs c = true) (hΓ : COKs P gl Γ) (hmix : P.follows .mixedOrders = true)
  (hcall : ∀ args w,(callFunc f args).run P w = .ok (.enter f args) w)
  (h : ∀ as bs r,(sp.G as bs).sel = some r->zP r.ob->∃ Q,m0j P gl fn bs.length r Q/\wW P Γ fn.ntmps bs.length fuel c [] Q (I3 gl gs as bs)) :
  COK P gl f (mkF sp) := (lK gs fuel hf hb hok hΓ hmix hcall h).cok
end
end Go.Sym
namespace Go.Sym
structure LS where
 α : Type
 E : α->List (Nat × AV)
 K : α->List (Nat × ABlk)
 nx : Nat
 m : α->Nat
 ok : α->Prop
 /-- Loops within. -/
 sub : α->List (Nat × LS) := fun _ => []
def qV : Code->Nat
 | .region id _ _ => id + 1
 | .seq a b => match qV a with | 0 => qV b | n => n
 | .cond _ a b => match qV a with | 0 => qV b | n => n
 | .block _ c => qV c
 | .loop c => qV c
 | _ => 0
def cZ (i : Nat) : List (Nat × LS)->List LS
 | [] => []
 | (j,L)::l => match Nat.beq i j with | true => L::cZ i l | false => cZ i l
def getJ (a b : Code) (ls : List (Nat × LS)) : List LS := match ls with | [] => [] | _::_ => cZ ((match qV a with | 0 => qV b | n => n) + 10000) ls
def getR (id : Nat) (ls : List (Nat × LS)) : List LS := match ls with | [] => [] | _::_ => cZ (id + 20001) ls
def n0w (np : Nat) (s : AS) (lt : Nat->Prop) : List LS->Prop
 | [] => False
 | L::l => match l with
  | [] => ∃ y,lt (L.m y)/\L.ok y/\uH np s (L.E y) (L.K y) L.nx
  | _ => (∃ y,lt (L.m y)/\L.ok y/\uH np s (L.E y) (L.K y) L.nx) \/ n0w np s lt l
theorem oU {np : Nat} {s : AS} {lt : Nat->Prop} : ∀ {l : List LS},n0w np s lt l->∃ L ∈ l,∃ y,lt (L.m y)/\L.ok y/\uH np s (L.E y) (L.K y) L.nx
 | [],h => h.elim
 | [L],h => ⟨L,by simp,h⟩
 | L::L2::l,h => by
  simp only [n0w] at h
  rcases h with h | h
  ·exact ⟨L,by simp,h⟩
  ·obtain ⟨L',hm,h'⟩ := oU (l := L2::l) h
   exact ⟨L',List.mem_cons_of_mem _ hm,h'⟩
def allL (P : LS->Prop) : List LS->Prop
 | [] => True
 | L::l => match l with | [] => P L | _ => P L/\allL P l
theorem v5 {P : LS->Prop} : ∀ {l : List LS},allL P l->∀ L ∈ l,P L
 | [],_,L,hm => by simp at hm
 | [L1],h,L,hm => by simp at hm; subst hm; exact h
 | L1::L2::l,h,L,hm => by
  rcases List.mem_cons.1 hm with rfl | hm
  ·exact h.1
  ·exact v5 (l := L2::l) h.2 L hm
def v6 {α : Type} : List (Nat × AV)->(Env->α)->α
 | [],k => k .nil
 | (t,a)::l,k => v6 l fun e => qX a fun a' => Tr.putK DE e t (some a') k
def m0w {α : Type} : List (Nat × ABlk)->(HT->α)->α
 | [],k => k .nil
 | (i,b)::l,k => m0w l fun h => bB (some b) fun b' => Tr.putK DH h i b' k
theorem gU {α : Type} : ∀ (l : List (Nat × AV)) (k : Env->α),v6 l k = k (aI l)
 | [],_ => rfl
 | (t,a)::l,k => by simp only [v6,aI]; rw [gU l,vA,Tr.putK_eq]; rfl
theorem lL {α : Type} : ∀ (l : List (Nat × ABlk)) (k : HT->α),m0w l k = k (jD l)
 | [],_ => rfl
 | (t,a)::l,k => by simp only [m0w,jD]; rw [lL l,gY,Tr.putK_eq]
def sH {α : Type} (e : List (Nat × AV)) (h : List (Nat × ABlk)) (nx : Nat) (k : AS->α) : α := v6 e fun e' => m0w h fun h' => k ⟨e',h',nx⟩
theorem kC {α : Type} (e : List (Nat × AV)) (h : List (Nat × ABlk)) (nx : Nat) (k : AS->α) : sH e h nx k = k (mkS e h nx) := by unfold sH; rw [gU,lL]; rfl
def rndQ (np' : Nat) (L : LS) (x : L.α) (ck : Exit->AS->Prop) (e : Exit) (s3 : AS) : Prop :=
 match e with
 | .normal => ∃ y,L.ok y/\L.m y = L.m x + 1/\v6 (sE np' (L.E x)) fun e' => uH np' ⟨e',s3.h,s3.nx⟩ (L.E y) (L.K y) L.nx
 | .ret => v6 (sE np' (L.E x)) fun e' => ck .ret ⟨e',s3.h,s3.nx⟩
 | .exit i => v6 (sE np' (L.E x)) fun e' => ck (.exit i) ⟨e',s3.h,s3.nx⟩
 | _ => False
def rM {α : Type} : List Tmp->List AV->Env->(Env->α)->α
 | t::ts,a::as,e,k => qX a fun a' => Tr.putK DE e t (some a') fun e' => rM ts as e' k
 | _,_,e,k => k e
theorem v7 {α : Type} : ∀ (ts : List Tmp) (as : List AV) (e : Env) (k : Env->α),rM ts as e k = k (oG ts as e)
 | [],_,_,_ => by simp [rM,oG]
 | _::_,[],_,_ => by simp [rM,oG]
 | t::ts,a::as,e,k => by simp only [rM,oG]; rw [vA,Tr.putK_eq,v7]; rfl
def h0w (E : List (Nat × AV)) (K : List (Nat × ABlk)) (nx : Nat) (ps : List Tmp) (el : List AV) (k : AS->Prop) : Prop := v6 E fun e0 => rM ps el e0 fun e' => m0w K fun h' => k ⟨e',h',nx⟩
theorem g0w (E : List (Nat × AV)) (K : List (Nat × ABlk)) (nx : Nat) (ps : List Tmp) (el : List AV) (k : AS->Prop) : h0w E K nx ps el k = k (u0w E K nx ps el) := by
 unfold h0w; rw [gU,v7,lL]; rfl
def vC (P : Program) (Γ : Ctx) (n np : Nat) : Nat->List (Nat × LS)->Rec
  | 0,_,_,_,_,_ => False
  | f + 1,ls,c,ks,Q,s =>
    match c with
    | .skip => oI (vC P Γ n np f ls) Q ks s
    | .label _ => oI (vC P Γ n np f ls) Q ks s
    | .region id ops draw => match getR id ls with
      | [] => mS P Γ draw ops n ops.toList 0 [] s (fun s' => yQ (s'.nx + xI * ops.size) fun nx => oI (vC P Γ n np f ls) Q ks ⟨s'.env,s'.h,nx⟩)
      | L::_ => mS P Γ draw ops n ops.toList 0 [] s (fun s' => yQ (s'.nx + xI * ops.size) fun nx => ∃ y,L.ok y/\uH np ⟨s'.env,s'.h,nx⟩ (L.E y) (L.K y) L.nx) /\
          ∀ x,L.ok x->sH (L.E x) (L.K x) L.nx fun s0 => oI (vC P Γ n np f ls) Q ks s0
    | .seq a b => vC P Γ n np f ls a (.s b::ks) Q s
    | .cond c a b => match aeval s.env c with
      | .bool t => (match getJ a b ls with
        | [] => lP t (vC P Γ n np f ls a ks Q s) (vC P Γ n np f ls b ks Q s)
        | L::_ => lP t (vC P Γ n np f ls a [] (fun e s' => match e with | .normal => ∃ y,L.ok y/\uH np s' (L.E y) (L.K y) L.nx | e => wJ (vC P Γ n np f ls) Q ks e s') s)
            (vC P Γ n np f ls b [] (fun e s' => match e with | .normal => ∃ y,L.ok y/\uH np s' (L.E y) (L.K y) L.nx | e => wJ (vC P Γ n np f ls) Q ks e s') s) /\
            ∀ x,L.ok x->sH (L.E x) (L.K x) L.nx fun s0 => oI (vC P Γ n np f ls) Q ks s0)
      | _ => False
    | .block id c => vC P Γ n np f ls c (.b id::ks) Q s
    | .exit id => jO (vC P Γ n np f ls) Q id ks s
    | .ret => Q .ret s
    | .loop c =>
      match cZ (qV c) ls with
      | [] => vC P Γ n np f ls c (.l c::ks) Q s
      | L::l => match l with
        | [] => (∃ x,L.ok x/\uH np s (L.E x) (L.K x) L.nx) /\
          ∀ x,L.ok x->sH (L.E x) (L.K x) L.nx fun s0 => vC P Γ n np f (L.sub x) c [] (fun e s' => match e with | .normal => ∃ y,L.m y < L.m x/\L.ok y/\uH np s' (L.E y) (L.K y) L.nx | e => wJ (vC P Γ n np f ls) Q ks e s') s0
        | _ => n0w np s (fun _ => True) (L::l) /\
          allL (fun L1 => ∀ x,L1.ok x->sH (L1.E x) (L1.K x) L1.nx fun s0 => vC P Γ n np f (L1.sub x) c [] (fun e s' => match e with | .normal => n0w np s' (fun m => m < L1.m x) (L::l) | e => wJ (vC P Γ n np f ls) Q ks e s') s0) (L::l)
    | .rangeFunc g ps as bd => (match aeval s.env g with
      | .fn gf [] caps => (match Γ.its gf with
        | some it => (match cZ (qV bd) ls with
          | L::_ => (match v0j s.h.f caps with
            | some (is,cs) => (match it cs with
              | some (ob,N,el) => yQ (np + (L.nx - 1000)) fun np' =>
                chk (jN is && is.all (fun i => decide (i < 2 ^ DH)) && ps.toList.all (fun p => decide (p < n))) (fF ob (ITok P gf it/\(∀ k,k < N->(el k).length = ps.size) /\
                (∃ x,L.ok x/\L.m x = 0/\I0 np np' (L.K x) = true/\x0q (oF is cs) s.h fun h' => uH np ⟨s.env,h',s.nx⟩ (L.E x) (L.K x) L.nx) /\
                (∀ x,L.ok x->I1 (L.E x) = true) /\
                (∀ x,L.ok x->L.m x < N->h0w (L.E x) (L.K x) L.nx ps.toList (el (L.m x)) fun s0 => vC P Γ n np' f (L.sub x) as [] (asgQ fun s1 => vC P Γ n np' f (L.sub x) bd [] (rndQ np' L x (wJ (vC P Γ n np f ls) Q ks)) s1) s0) /\
                (∀ x,L.ok x->L.m x = N->sH (L.E x) (L.K x) L.nx fun s0 => oI (vC P Γ n np f ls) Q ks s0)))
              | none => False)
            | none => False)
          | [] => False)
        | none => False)
      | _ => False)
    | _ => False
section
variable {P : Program} {Γ : Ctx} {n np : Nat}
theorem h0j : ∀ (f : Nat) (np : Nat) (ls : List (Nat × LS)) (c : Code) (ks : List Kn) (Q : Exit->AS->Prop) (s : AS),vC P Γ n np f ls c ks Q s->wW P Γ n np f c ks Q s := by
 intro f
 induction f with
 | zero => intro np ls c ks Q s h; exact h
 | succ f ih00 =>
  intro np ls
  have ih0 := ih00 np
  have ih := ih0 ls
  have hpop : ∀ (ks : List Kn) (Q : Exit->AS->Prop) (s : AS),oI (vC P Γ n np f ls) Q ks s->oI (wW P Γ n np f) Q ks s := by
   intro ks
   induction ks with
   | nil => intro Q s h; exact h
   | cons k ks ihk =>
    intro Q s h
    cases k with
    | s c => exact ih c ks Q s h
    | b i => exact ihk Q s h
    | l c => exact ih c _ Q s h
  have hex : ∀ (id : Nat) (ks : List Kn) (Q : Exit->AS->Prop) (s : AS),jO (vC P Γ n np f ls) Q id ks s->jO (wW P Γ n np f) Q id ks s := by
   intro id ks
   induction ks with
   | nil => intro Q s h; exact h
   | cons k ks ihk =>
    intro Q s h
    cases k with
    | s c => exact ihk Q s h
    | l c => exact ihk Q s h
    | b i =>
     simp only [jO] at h ⊢
     split at h
     ·exact hpop ks Q s h
     ·exact ihk Q s h
  have hcont : ∀ (ks : List Kn) (Q : Exit->AS->Prop) (e : Exit) (s : AS),wJ (vC P Γ n np f ls) Q ks e s->wJ (wW P Γ n np f) Q ks e s := by
   intro ks Q e s h
   cases e with
   | normal => exact hpop ks Q s h
   | exit i => exact hex i ks Q s h
   | _ => exact h
  intro c ks Q s h
  cases c <;> simp only [vC,wW] at h ⊢
  case skip => exact hpop ks Q s h
  case label => exact hpop ks Q s h
  case region id ops draw =>
   split at h
   ·refine .inr (fB _ _ _ _ _ _ (fun s' hs' => ?_) h)
    rw [yH] at hs' ⊢
    exact hpop ks Q _ hs'
   ·rename_i L l hL
    obtain ⟨h,hr⟩ := h
    refine .inl ⟨fun s => ∃ x,L.ok x/\s = mkS (L.E x) (L.K x) L.nx,fB _ _ _ _ _ _ (fun s' hs' => ?_) h,?_⟩
    ·rw [yH] at hs'
     obtain ⟨y,h2,h3⟩ := hs'
     exact ⟨_,WeakS.one (uZ h3),y,h2,rfl⟩
    ·rintro s1 ⟨x,hx,rfl⟩
     have := hr x hx
     rw [kC] at this
     exact hpop ks Q _ this
  case seq a b => exact ih a _ Q s h
  case cond c a b =>
   generalize hv0 : aeval s.env c = v at h ⊢
   cases v with
   | bool t =>
    simp only at h
    split at h
    ·refine .inr ?_
     cases t
     ·exact ih b ks Q s h
     ·exact ih a ks Q s h
    ·rename_i L l hL
     obtain ⟨h,hr⟩ := h
     refine .inl ⟨fun s => ∃ x,L.ok x/\s = mkS (L.E x) (L.K x) L.nx,?_,?_⟩
     ·have up : ∀ (e : Exit) (s' : AS),(match e with | .normal => ∃ y,L.ok y/\uH np s' (L.E y) (L.K y) L.nx | e => wJ (vC P Γ n np f ls) Q ks e s' : Prop)->(match e with | .normal => ∃ s2,WeakS np s' s2/\∃ x,L.ok x/\s2 = mkS (L.E x) (L.K x) L.nx | e => wJ (wW P Γ n np f) Q ks e s' : Prop) := by
       intro e s' h
       cases e with
       | normal =>
        obtain ⟨y,h2,h3⟩ := h
        exact ⟨_,WeakS.one (uZ h3),y,h2,rfl⟩
       | exit i => exact hex i ks Q _ h
       | _ => exact h
      have hv : aeval s.env c = .bool t := hv0
      simp only [hv]
      cases t
      ·exact nL f b [] up (ih b [] _ s h)
      ·exact nL f a [] up (ih a [] _ s h)
     ·rintro s1 ⟨x,hx,rfl⟩
      have := hr x hx
      rw [kC] at this
      exact hpop ks Q _ this
   | _ => exact h.elim
  case block id c => exact ih c _ Q s h
  case exit id => exact hex id ks Q s h
  case ret => exact h
  case loop c =>
   have one : ∀ (L : LS),((∃ x,L.ok x/\uH np s (L.E x) (L.K x) L.nx) /\
     ∀ x,L.ok x->sH (L.E x) (L.K x) L.nx fun s0 => vC P Γ n np f (L.sub x) c [] (fun e s' => match e with | .normal => ∃ y,L.m y < L.m x/\L.ok y/\uH np s' (L.E y) (L.K y) L.nx | e => wJ (vC P Γ n np f ls) Q ks e s') s0)->k1w np (wW P Γ n np f) c ks Q s := by
    intro L h
    obtain ⟨⟨x0,hok,h0⟩,hr⟩ := h
    refine ⟨fun k s => ∃ x,L.ok x/\L.m x = k/\s = mkS (L.E x) (L.K x) L.nx,⟨L.m x0,_,WeakS.one (uZ h0),x0,hok,rfl,rfl⟩,?_⟩
    rintro k s ⟨x,hx,rfl,rfl⟩
    have := hr x hx
    rw [kC] at this
    refine nL f c [] ?_ (ih0 _ _ _ _ _ this)
    intro e s' h
    cases e with
    | normal =>
     obtain ⟨y,h1,h2,h3⟩ := h
     exact ⟨L.m y,_,h1,WeakS.one (uZ h3),y,h2,rfl,rfl⟩
    | exit i => exact hex i ks Q _ h
    | _ => exact h
   split at h
   ·exact .inr (ih c _ Q s h)
   ·rename_i L l hL
    split at h
    ·exact .inl (one L h)
    ·refine .inl ?_
     generalize L::l = Ls at h
     obtain ⟨he,hr⟩ := h
     obtain ⟨L0,hm0,x0,_,hok,h0⟩ := oU he
     refine ⟨fun k s => ∃ L ∈ Ls,∃ x,L.ok x/\L.m x = k/\s = mkS (L.E x) (L.K x) L.nx,⟨L0.m x0,_,WeakS.one (uZ h0),L0,hm0,x0,hok,rfl,rfl⟩,?_⟩
     rintro k s ⟨L1,hm1,x,hx,rfl,rfl⟩
     have := v5 hr L1 hm1 x hx
     rw [kC] at this
     refine nL f c [] ?_ (ih0 _ _ _ _ _ this)
     intro e s' h
     cases e with
     | normal =>
      obtain ⟨L2,hm2,y,h1,h2,h3⟩ := oU h
      exact ⟨L2.m y,_,h1,WeakS.one (uZ h3),L2,hm2,y,h2,rfl,rfl⟩
     | exit i => exact hex i ks Q _ h
     | _ => exact h
  case rangeFunc g ps as bd =>
   split at h
   ·rename_i gf caps hg
    split at h
    ·rename_i it hit
     split at h
     ·rename_i L l hL
      split at h
      ·rename_i is cs hbx
       split at h
       ·rename_i ob N el hsq
        rw [yH] at h
        obtain ⟨hc,h⟩ := xR.1 h
        obtain ⟨hob,h1,h2,⟨x0,k1,k2,k3,k4⟩,h4,h5,h6⟩ := (vI _ _).1 h
        rw [dY] at k4
        refine ⟨gf,caps,it,is,cs,ob,N,el,np + (L.nx - 1000),L.nx,fun k E K => ∃ x,L.ok x/\L.m x = k/\E = L.E x/\K = L.K x,hg,h1,hbx,hc,hsq,hob,h2,⟨_,_,⟨x0,k1,k2,rfl,rfl⟩,k3,k4⟩,?_,?_,?_⟩
        ·rintro k E K ⟨x,j1,_,rfl,_⟩
         exact h4 x j1
        ·rintro k E K hk ⟨x,j1,rfl,rfl,rfl⟩
         have := h5 x j1 hk
         rw [g0w] at this
         refine nL f as [] ?_ (ih00 _ _ _ _ _ _ this)
         intro e s1 hq
         cases e with
         | normal =>
          refine nL f bd [] ?_ (ih00 _ _ _ _ _ _ hq)
          intro e s3 hq
          cases e with
          | normal =>
           obtain ⟨y,j2,j3,j4⟩ := hq
           rw [gU] at j4
           exact ⟨_,_,⟨y,j2,j3,rfl,rfl⟩,j4⟩
          | ret =>
           simp only [rndQ,gU] at hq
           exact hcont ks Q _ _ hq
          | exit i =>
           simp only [rndQ,gU] at hq
           exact hcont ks Q _ _ hq
          | _ => exact hq
         | _ => exact hq
        ·rintro E K ⟨x,j1,j2,rfl,rfl⟩
         have := h6 x j1 j2
         rw [kC] at this
         exact hpop ks Q _ this
       ·exact h.elim
      ·exact h.elim
     ·exact h.elim
    ·exact h.elim
   ·exact h.elim
theorem f0w (f : Nat) (ls : List (Nat × LS)) (c : Code) (ks : List Kn) (Q : Exit->AS->Prop) (s : AS) (h : vC P Γ n np f ls c ks Q s) : wW P Γ n np f c ks Q s := h0j f np ls c ks Q s h
end
def xQ (P : Program) (Γ : Ctx) (gl : Gl) (gs : List Nat) (ls : List (Nat × LS)) (fuel : Nat) (fn : Func) (np : Nat) (as : List AV) (bs : List ABlk) (Q : Exit->AS->Prop) : Prop :=
 match fn.body with
 | some c => sH (yV 0 as) (gs.map (fH gl)++yV 0 bs) xI fun s => vC P Γ fn.ntmps np fuel ls c [] Q s
 | none => False
structure Must (p : Prop) : Prop where
 out : p
theorem gV {P : Program} {Γ : Ctx} {gl : Gl} {gs : List Nat} {ls : List (Nat × LS)} {fuel : Nat} {fn : Func} {np : Nat} {as : List AV} {bs : List ABlk} {Q : Exit->AS->Prop} {c : Code} (hb : fn.body = some c) (h : xQ P Γ gl gs ls fuel fn np as bs Q) :
  wW P Γ fn.ntmps np fuel c [] Q (I3 gl gs as bs) := by
 unfold xQ at h
 rw [hb] at h
 simp only [kC] at h
 exact f0w _ _ _ _ _ _ h
def Ctx.add (Γ : Ctx) (f : FuncId) (F : lZ) : Ctx := ⟨fun g => match Nat.beq g f with | true => some F | false => Γ.fn g,Γ.keep,[],[],Γ.its⟩
theorem COKs.add {P : Program} {gl : Gl} {Γ : Ctx} {f : FuncId} {F : lZ} (h : COKs P gl Γ) (hF : COK P gl f F) : COKs P gl (Γ.add f F) := by
 intro g F' hg
 unfold Ctx.add at hg
 simp only at hg
 split at hg
 ·rename_i hb
  simp only [Option.some.injEq] at hg
  subst hg
  rw [Nat.eq_of_beq_eq_true hb]
  exact hF
 ·exact h g F' hg
def Ctx.withSym (Γ : Ctx) (l : List Nat) : Ctx := ⟨Γ.fn,Γ.keep,l,Γ.frz,Γ.its⟩
def Ctx.withFrz (Γ : Ctx) (l : List (Nat × List Fz)) : Ctx := ⟨Γ.fn,Γ.keep,Γ.sym,l,Γ.its⟩
theorem COKs.withFrz {P : Program} {gl : Gl} {Γ : Ctx} (h : COKs P gl Γ) (l : List (Nat × List Fz)) : COKs P gl (Γ.withFrz l) := h
theorem COKs.withSym {P : Program} {gl : Gl} {Γ : Ctx} (h : COKs P gl Γ) (l : List Nat) : COKs P gl (Γ.withSym l) := h
def Ctx.none (keep : List String) : Ctx := ⟨fun _ => Option.none,keep,[],[],fun _ => Option.none⟩
theorem COKs.none {P : Program} {gl : Gl} {keep : List String} : COKs P gl (Ctx.none keep) := fun _ _ h => by cases h
end Go.Sym
namespace Go.Sym
inductive TX where
 | no
 | leaf (r : RL)
 | br (b : Bool) (x y : TX)
 | obs (l : List Prop) (x : TX)
def TX.den (Q : RL->Prop) : TX->Prop
 | .no => False
 | .leaf r => Q r
 | .br b x y => lP b (x.den Q) (y.den Q)
 | .obs l x => fF l (x.den Q)
def g0j (b : Bool) (x : TX) : TX := match b with | true => x | false => .no
theorem dQ {Q : RL->Prop} {b : Bool} {x : TX} (h : (g0j b x).den Q) : chk b (x.den Q) := by cases b <;> exact h
def putT (n : Nat) (dst : Option Tmp) (v : AV) (e : Env) (k : Env->TX) : TX :=
 match dst with
 | none => k e
 | some d => g0j (decide (d < n)) (qX v fun v' => Tr.putK DE e d (some v') k)
theorem v8 {Q : RL->Prop} {n : Nat} {dst : Option Tmp} {v : AV} {e : Env} {k : Env->TX} (h : (putT n dst v e k).den Q) : putK n dst v e fun e' => (k e').den Q := by
 cases dst with
 | none => exact h
 | some d =>
  simp only [putT] at h
  simp only [putK]
  replace h := dQ h
  rw [vA,Tr.putK_eq] at h
  rw [vA,Tr.putK_eq]
  exact h
def S7 (ops : Array Oper) (o : Oper) (env : Env) (b : Bool) (k : Env->TX) : TX :=
 match o.guard with
 | none => k env
 | some (j,want) =>
  match (ops[j]?).bind (·.dst) with
  | some d => Tr.putK DE env d (some (.bool (match want with | true => b | false => !b))) k
  | none => k env
theorem rN {Q : RL->Prop} {ops : Array Oper} {o : Oper} {env : Env} {b : Bool} {k : Env->TX} (h : (S7 ops o env b k).den Q) : lR ops o env b fun e => (k e).den Q := by
 unfold S7 at h
 unfold lR
 cases hg : o.guard with
 | none => rw [hg] at h; exact h
 | some jw =>
  obtain ⟨j,want⟩ := jw
  rw [hg] at h
  simp only at h ⊢
  cases hd : (ops[j]?).bind (·.dst) with
  | none => rw [hd] at h; exact h
  | some d =>
   rw [hd] at h
   simp only at h ⊢
   rw [Tr.putK_eq] at h ⊢
   exact h
def T.toX (K : R->TX) : T->TX
 | .no => .no
 | .ok r => K r
 | .br b x y => .br b (x.toX K) (y.toX K)
theorem T.toX_den {Q : RL->Prop} {K : R->TX} : ∀ (t : T),(t.toX K).den Q->t.toP fun r => (K r).den Q
 | .no,h => h
 | .ok r,h => h
 | .br b x y,h => by
  cases b
  ·exact T.toX_den y h
  ·exact T.toX_den x h
def goT (P : Program) (Γ : Ctx) (draw : Bool) (ops : Array Oper) (n : Nat) (o : Oper) (j : Nat) (prev : List (Nat × FP)) (hp : HT) (nx : Nat) (k : FP->AS->TX) (env : Env) : TX :=
 gX (xF env o) fun args => yQ (nx + xI * j) fun fr =>
  (aop P Γ o args fr (tH draw o args hp.f)).toX fun r =>
   let fp : FP := fpOf draw (fJ o args hp.f,r.up.map (·.1))
   g0j (decide (fr + xI<=GB) && r.up.all (fun p => decide (p.1 < 2 ^ DH)) && (match draw with | true => getsOn (uJ ops) ops j fp prev | false => true))
    (.obs r.ob (putT n o.dst r.v env fun e => x0q r.up hp fun h => k fp ⟨e,h,nx⟩))
def S8 (draw : Bool) (ops : Array Oper) (n : Nat) (o : Oper) (j : Nat) (prev : List (Nat × FP)) (hp : HT) (nx : Nat) (k : FP->AS->TX) (env : Env) : TX :=
 g0j (match draw with | true => getsOn (uJ ops) ops j ([],[]) prev | false => true)
  (putT n o.dst (.tup []) env fun e => k ([],[]) ⟨e,hp,nx⟩)
section
variable {P : Program} {Γ : Ctx} {draw : Bool} {ops : Array Oper} {n : Nat} {Q : RL->Prop}
theorem S9 {o : Oper} {j : Nat} {prev : List (Nat × FP)} {hp : HT} {nx : Nat} {k : FP->AS->TX} {env : Env} (h : (goT P Γ draw ops n o j prev hp nx k env).den Q) :
  goP P Γ draw ops n o j prev hp nx (fun fp s => (k fp s).den Q) env := by
 unfold goT at h
 unfold goP
 rw [jU,yH] at h ⊢
 refine T.toP_mono (fun r hr => ?_) _ (T.toX_den _ h)
 obtain ⟨h1,h2⟩ := xR.1 (dQ hr)
 obtain ⟨h3,h4⟩ := (vI _ _).1 h2
 refine xR.2 ⟨h1,(vI _ _).2 ⟨h3,bD (fun e he => ?_) (v8 h4)⟩⟩
 rw [dY] at he ⊢
 exact he
theorem rP {o : Oper} {j : Nat} {prev : List (Nat × FP)} {hp : HT} {nx : Nat} {k : FP->AS->TX} {env : Env} (h : (S8 draw ops n o j prev hp nx k env).den Q) :
  skipP draw ops n o j prev hp nx (fun fp s => (k fp s).den Q) env := by
 unfold S8 at h
 unfold skipP
 obtain ⟨h1,h2⟩ := xR.1 (dQ h)
 exact xR.2 ⟨h1,v8 h2⟩
end
def I5 (P : Program) (Γ : Ctx) (draw : Bool) (ops : Array Oper) (n : Nat) : List Oper->Nat->List (Nat × FP)->AS->(AS->TX)->TX
 | [],_,_,s,K => K s
 | o::rest,j,prev,⟨env,hp,nx⟩,K =>
  match wantA ops o env with
  | .no => .no
  | .yes => goT P Γ draw ops n o j prev hp nx (fun fp s => I5 P Γ draw ops n rest (j + 1) (wL draw prev (j,fp)) s K) env
  | .skip => S8 draw ops n o j prev hp nx (fun fp s => I5 P Γ draw ops n rest (j + 1) (wL draw prev (j,fp)) s K) env
  | .by b => .br b (S7 ops o env true (goT P Γ draw ops n o j prev hp nx (fun fp s => I5 P Γ draw ops n rest (j + 1) (wL draw prev (j,fp)) s K)))
    (S7 ops o env false (S8 draw ops n o j prev hp nx (fun fp s => I5 P Γ draw ops n rest (j + 1) (wL draw prev (j,fp)) s K)))
theorem e0w {P : Program} {Γ : Ctx} {n : Nat} {draw : Bool} {ops : Array Oper} {Q : RL->Prop} : ∀ (l : List Oper) (j : Nat) (prev : List (Nat × FP)) (s : AS) (K : AS->TX),(I5 P Γ draw ops n l j prev s K).den Q->mS P Γ draw ops n l j prev s fun s => (K s).den Q := by
 intro l
 induction l with
 | nil => intro j prev s K hh; exact hh
 | cons o rest ih =>
  intro j prev s K hh
  obtain ⟨env,hp,nx⟩ := s
  simp only [I5] at hh
  simp only [mS]
  generalize wantA ops o env = wt at hh ⊢
  cases wt with
  | no => exact hh
  | yes => exact dZ (fun fp s hs => ih _ _ _ _ hs) (S9 hh)
  | skip => exact mF (fun fp s hs => ih _ _ _ _ hs) (rP hh)
  | «by» b =>
   cases b
   ·exact gZ (fun env hh => mF (fun fp s hs => ih _ _ _ _ hs) (rP hh)) (rN (J1 hh))
   ·exact gZ (fun env hh => dZ (fun fp s hs => ih _ _ _ _ hs) (S9 hh)) (rN (J0 hh))
abbrev RecT := Code->List Kn->(Exit->AS->TX)->AS->TX
def f0j (rec : RecT) (Q : Exit->AS->TX) : List Kn->AS->TX
 | [],s => Q .normal s
 | .s c::ks,s => rec c ks Q s
 | .b _::ks,s => f0j rec Q ks s
 | .l c::ks,s => rec c (.l c::ks) Q s
def bA (rec : RecT) (Q : Exit->AS->TX) (id : Nat) : List Kn->AS->TX
 | [],s => Q (.exit id) s
 | .s _::ks,s => bA rec Q id ks s
 | .l _::ks,s => bA rec Q id ks s
 | .b i::ks,s => match Nat.beq id i with | true => f0j rec Q ks s | false => bA rec Q id ks s
def dR (P : Program) (Γ : Ctx) (n : Nat) : Nat->RecT
 | 0,_,_,_,_ => .no
 | f + 1,c,ks,Q,s =>
  match c with
  | .skip => f0j (dR P Γ n f) Q ks s
  | .label _ => f0j (dR P Γ n f) Q ks s
  | .region _ ops draw => I5 P Γ draw ops n ops.toList 0 [] s (fun s' => yQ (s'.nx + xI * ops.size) fun nx => f0j (dR P Γ n f) Q ks ⟨s'.env,s'.h,nx⟩)
  | .seq a b => dR P Γ n f a (.s b::ks) Q s
  | .cond c a b => match aeval s.env c with | .bool t => .br t (dR P Γ n f a ks Q s) (dR P Γ n f b ks Q s) | _ => .no
  | .block id c => dR P Γ n f c (.b id::ks) Q s
  | .exit id => bA (dR P Γ n f) Q id ks s
  | .ret => Q .ret s
  | .loop c => dR P Γ n f c (.l c::ks) Q s
  | _ => .no
section
variable {P : Program} {Γ : Ctx} {n np : Nat} {q : RL->Prop}
theorem dS : ∀ (f : Nat) (c : Code) (ks : List Kn) (Q : Exit->AS->TX) (s : AS),(dR P Γ n f c ks Q s).den q->wW P Γ n np f c ks (fun e s => (Q e s).den q) s := by
 intro f
 induction f with
 | zero => intro c ks Q s h; exact h
 | succ f ih =>
  have hpop : ∀ (ks : List Kn) (Q : Exit->AS->TX) (s : AS),(f0j (dR P Γ n f) Q ks s).den q->oI (wW P Γ n np f) (fun e s => (Q e s).den q) ks s := by
   intro ks
   induction ks with
   | nil => intro Q s h; exact h
   | cons k ks ihk =>
    intro Q s h
    cases k with
    | s c => exact ih c ks Q s h
    | b i => exact ihk Q s h
    | l c => exact ih c _ Q s h
  have hex : ∀ (id : Nat) (ks : List Kn) (Q : Exit->AS->TX) (s : AS),(bA (dR P Γ n f) Q id ks s).den q->jO (wW P Γ n np f) (fun e s => (Q e s).den q) id ks s := by
   intro id ks
   induction ks with
   | nil => intro Q s h; exact h
   | cons k ks ihk =>
    intro Q s h
    cases k with
    | s c => exact ihk Q s h
    | l c => exact ihk Q s h
    | b i =>
     simp only [bA] at h
     simp only [jO]
     cases hbq : Nat.beq id i with
     | true => rw [hbq] at h; exact hpop ks Q s h
     | false => rw [hbq] at h; exact ihk Q s h
  intro c ks Q s h
  cases c <;> simp only [dR] at h <;> simp only [wW]
  case skip => exact hpop ks Q s h
  case label => exact hpop ks Q s h
  case region id ops draw =>
   refine .inr (fB _ _ _ _ _ _ (fun s' hs' => ?_) (e0w _ _ _ _ _ h))
   rw [yH] at hs' ⊢
   exact hpop ks Q _ hs'
  case seq a b => exact ih a _ Q s h
  case cond c a b =>
   refine .inr ?_
   generalize aeval s.env c = v at h ⊢
   cases v with
   | bool t =>
    cases t
    ·exact ih b ks Q s h
    ·exact ih a ks Q s h
   | _ => exact h.elim
  case block id c => exact ih c _ Q s h
  case exit id => exact hex id ks Q s h
  case ret => exact h
  case loop c => exact .inr (ih c _ Q s h)
  all_goals exact False.elim h
end
def mA (h : H) : Nat->List Nat->List Nat->List Nat
 | 0,_,seen => seen.reverse
 | _ + 1,[],seen => seen.reverse
 | f + 1,i::todo,seen =>
  if seen.contains i || decide (GB<=i) then mA h f todo seen
  else match h i with
   | none => mA h f todo seen
   | some b => mA h f (b.con.names++todo) (i::seen)
def lM (f : Nat->Option Nat) (h h0 : H) : Nat->Nat->List (Option (Option ABlk))
 | _,0 => []
 | i,k + 1 =>
  (match h0 i with
   | some b0 => if b0.wr = true then some ((h i).map (renB f)) else none
   | none => some none)::lM f h h0 (i + 1) k
def I6 (f : Nat->Option Nat) (h : H) : List Nat->Option (List ABlk)
 | [] => some []
 | i::is => match h i with | some b => (I6 f h is).map (renB f b::·) | none => none
def dT {α : Type} : List ABlk->(List ABlk->α)->α
 | [],k => k []
 | b::bs,k => bB (some b) fun b' => dT bs fun bs' => k (match b' with | some b' => b'::bs' | none => bs')
def mB {α : Type} : List (Option (Option ABlk))->(List (Option (Option ABlk))->α)->α
 | [],k => k []
 | b::bs,k => match b with | none => mB bs fun bs' => k (none::bs') | some b => bB b fun b' => mB bs fun bs' => k (some b'::bs')
theorem oV {α : Type} : ∀ (l : List ABlk) (k : List ABlk->α),dT l k = k l
 | [],_ => rfl
 | b::bs,k => by simp only [dT]; rw [gY,oV]
theorem eF {α : Type} : ∀ (l : List (Option (Option ABlk))) (k : List (Option (Option ABlk))->α),mB l k = k l
 | [],_ => rfl
 | none::bs,k => by simp only [mB]; rw [eF]
 | some b::bs,k => by simp only [mB]; rw [gY,eF]
def exT (P : Program) (fn : Func) (np : Nat) (h0 : H) : Exit->AS->TX :=
 fun e s => match e with
  | .ret | .normal =>
   match q0j P fn s with
   | some (ob,v) => qX v fun v =>
    qH ((mA s.h.f 200 (v.names++List.range np) []).filter fun i => decide (np<=i)) fun l =>
    match I6 (fun i => xT i (List.range np++l)) s.h.f l with
    | some nw =>
     qX (kK (fun i => xT i (List.range np++l)) v) fun v' => mB (lM (fun i => xT i (List.range np++l)) s.h.f h0 0 np) fun io => dT nw fun nw =>
      g0j (jN (List.range np++l) && decide ((List.range np++l).length<=GB) && v'.out true && dO (RL.iob ⟨[],v',io,nw⟩) && nw.all uT)
       (.obs (ob++gH (RL.iob ⟨[],v',io,nw⟩)++gG nw) (.leaf ⟨[],v',io,nw⟩))
    | none => .no
   | none => .no
  | _ => .no
theorem oW {f : Nat->Option Nat} {h h0 : H} {ob : List Prop} {v : AV} {nw : List ABlk} : ∀ (k i t : Nat) (b2 : ABlk),(RL.iob ⟨ob,v,lM f h h0 i k,nw⟩)[t]? = some (some b2)->t < k/\∃ b,h (i + t) = some b/\b2 = renB f b
 | 0,i,t,b2,hh => by simp [RL.iob,lM] at hh
 | k + 1,i,t,b2,hh => by
  simp only [RL.iob,lM,List.map_cons] at hh
  cases t with
  | zero =>
   refine ⟨by omega,?_⟩
   simp only [List.getElem?_cons_zero,Option.some.injEq] at hh
   cases hb : h0 i with
   | none => rw [hb] at hh; simp at hh
   | some b0 =>
    rw [hb] at hh
    simp only at hh
    split at hh
    ·rename_i y hy
     split at hy
     ·simp only [Option.some.injEq] at hy
      subst hy
      simp only [Option.map_eq_some_iff] at hh
      obtain ⟨b,h1,h2⟩ := hh
      exact ⟨b,h1,h2.symm⟩
     ·cases hy
    ·cases hh
  | succ t =>
   simp only [List.getElem?_cons_succ] at hh
   obtain ⟨h1,b,h2,h3⟩ := oW (f := f) (h := h) (h0 := h0) (ob := ob) (v := v) (nw := nw) k (i + 1) t b2 hh
   exact ⟨by omega,b,by rw [<- h2]; congr 1; omega,h3⟩
theorem v9 {f : Nat->Option Nat} {h : H} : ∀ (l : List Nat) (nw : List ABlk),I6 f h l = some nw->nw.length = l.length/\∀ (t : Nat) (b2 : ABlk),nw[t]? = some b2->∃ i b,l[t]? = some i/\h i = some b/\b2 = renB f b
 | [],nw,hh => by
  simp only [I6,Option.some.injEq] at hh
  subst hh
  exact ⟨rfl,fun t b2 h => by simp at h⟩
 | i::is,nw,hh => by
  simp only [I6] at hh
  split at hh
  ·rename_i b hb
   simp only [Option.map_eq_some_iff] at hh
   obtain ⟨nw',h1,rfl⟩ := hh
   obtain ⟨k1,k2⟩ := v9 is nw' h1
   refine ⟨by simp [k1],fun t b2 ht => ?_⟩
   cases t with
   | zero => simp at ht; exact ⟨i,b,rfl,hb,ht.symm⟩
   | succ t => simpa using k2 t b2 (by simpa using ht)
  ·cases hh
section
variable {ds : List Deferred} {P : Program} {gl : Gl} {M : Nat->Prop} {W0 : World} {n np : Nat} {κ0 κ : Ker} {s : AS} {a : Act} {w : World}
theorem RRel.ren (r : RRel ds gl M W0 n np κ0 (fun _ => True) κ s a w) {l : List Nat} (hnd : (List.range np++l).Nodup) (hlen : (List.range np++l).length<=GB) {h0 : H} {nw : List ABlk} {ob : List Prop} {av : AV} {nw0 : List ABlk}
  (hnw : I6 (fun i => xT i (List.range np++l)) s.h.f l = some nw) {v : AV} {x : Value} (hv : VRel κ v x) :
  ∃ κ5 a5,VRel κ5 (kK (fun i => xT i (List.range np++l)) v) x /\
   RRel [] gl M W0 1 np κ0 (fun _ => True) κ5 (mkS [(0,kK (fun i => xT i (List.range np++l)) v)] (nM 0 (RL.iob ⟨ob,av,lM (fun i => xT i (List.range np++l)) s.h.f h0 0 np,nw0⟩)++yV np nw) (np + nw.length)) a5 w := by
 have hLl : (List.range np++l).length = np + l.length := by simp
 have hrng : ∀ i,i < np->(List.range np++l)[i]? = some i := by
  intro i hi
  rw [List.getElem?_append_left (by simpa using hi)]
  simp [hi]
 generalize hL : List.range np++l = L at *
 have hSG : np<=GB := by omega
 obtain ⟨κ2,vr,hvv,hvm⟩ := gC r.heap (xD L)
 obtain ⟨hnwl,hnwg⟩ := v9 _ _ hnw
 -- as the view of L: (callV L) says how new names stand to old ones
 have V : ∀ t,t < GB->(xD L).to t = L[t]? := fun t ht => dM ht
 have hf : ∀ i t,xT i L = some t->(κ.ρ i).isSome->κ2.ρ t = κ.ρ i/\κ2.cap t = κ.cap i := by
  intro i t ht _
  have hg := cS ht
  have hlt : t < L.length := (List.getElem?_eq_some_iff.1 hg).1
  have hto : (xD L).to t = some i := by rw [V t (by omega)]; exact hg
  exact ⟨by rw [vr.ρ,if_neg (by simp [xD]),hto]; rfl,vr.cap t i rfl hto⟩
 have hren : ∀ a v,VRel κ a v->VRel κ2 (kK (fun i => xT i L) a) v := fun a v hv => dK (p := false) hf (fun q a x _ hx => vr.m q a x hx) a v (cT a) hv
 have hmm : ∀ a x,κ2.m a = some x->κ.m a = some x := by
  intro a x ha
  rcases hvm a x ha with h1 | ⟨j,b,O,h1,_⟩
  ·exact h1
  ·simp [Vw.still,xD] at h1
 have hkeys : ∀ p ∈ nM 0 (RL.iob ⟨ob,av,lM (fun i => xT i L) s.h.f h0 0 np,nw0⟩)++yV np nw,p.1 < 2 ^ DH := by
  have hDH : GB < 2 ^ DH := by unfold GB DH; omega
  rintro ⟨i,b⟩ hp
  rcases List.mem_append.1 hp with hp | hp
  ·obtain ⟨t,rfl,h1⟩ := (jQ _ _ _ _).1 hp
   have := (oW _ _ _ _ h1).1
   show 0 + t < _
   omega
  ·obtain ⟨t,rfl,h1⟩ := (xE _ _ _ _).1 hp
   have := (List.getElem?_eq_some_iff.1 h1).1
   show np + t < _
   omega
 have hblk : ∀ t b2,(jD (nM 0 (RL.iob ⟨ob,av,lM (fun i => xT i L) s.h.f h0 0 np,nw0⟩)++yV np nw)).f t = some b2->t < L.length/\∃ i b,L[t]? = some i/\s.h.f i = some b/\b2 = renB (fun i => xT i L) b := by
  intro t b2 ht
  rcases List.mem_append.1 (gS _ hkeys t b2 ht) with hp | hp
  ·obtain ⟨u,hu,h1⟩ := (jQ _ _ _ _).1 hp
   obtain rfl : t = u := by omega
   obtain ⟨h2,b,h3,h4⟩ := oW _ _ _ _ h1
   rw [Nat.zero_add] at h3
   exact ⟨by omega,t,b,hrng t h2,h3,h4⟩
  ·obtain ⟨u,rfl,h1⟩ := (xE _ _ _ _).1 hp
   obtain ⟨i,b,h2,h3,h4⟩ := hnwg u b2 h1
   have hul := (List.getElem?_eq_some_iff.1 h2).1
   refine ⟨by omega,i,b,?_,h3,h4⟩
   rw [<- hL,List.getElem?_append_right (by simp)]
   simpa using h2
 refine ⟨κ2,{ tmps := #[x],defers := [] },hren v x hv,?_,rfl,rfl,r.glob,?_,r.only,?_,?_,?_,?_,fun q x y h => vr.m q x y (r.vv q x y h)⟩
 ·intro t ht
  have h0 : 0 < 2 ^ DE := by unfold DE; omega
  show VRel κ2 ((aI [(0,_)]).at t) _
  simp only [aI]
  rw [Env.at_set _ _ h0 ht]
  split
  ·rename_i he; subst he; exact hren v x hv
  ·have : Env.at (Tr.nil) t = AV.any := by simp [Env.at,Tr.get_nil]
   rw [this]; exact trivial
 ·refine cQ r.heap vr hvv ?_ ?_ ?_ (fun _ _ _ _ _ _ h _ => h)
  ·intro t b2 ht
   obtain ⟨htl,i,b,h1,h2,rfl⟩ := hblk t b2 ht
   have hto : (xD L).to t = some i := by rw [V t (by omega)]; exact h1
   refine .inr ⟨rfl,i,b,hto,h2,by rw [vr.ρ,if_neg (by simp [xD]),hto]; rfl,vr.cap t i rfl hto,rH (List.mem_of_getElem? h1),fun hw => hw,fun ho => ?_,?_,?_,fun ag p g hc => by
    simp only [renB] at hc
    have h7 := S6 (f := fun i => xT i L) b.con
    rw [hc] at h7; cases h7⟩
   ·obtain ⟨⟨B,O⟩,hp⟩ := r.heap.named h2
    exact ⟨rfl,(r.heap.own i b B O h2 ho hp).1⟩
   ·simp only [renB,v4]; exact Nat.le_refl _
   ·intro off a2 ha
    simp only [renB,S5,Option.map_eq_some_iff] at ha
    obtain ⟨a0,h5,rfl⟩ := ha
    exact ⟨a0,h5,fun v hv => hren a0 v hv⟩
  ·intro t t' b b' ht ht' _ _ he
   obtain ⟨htl,_⟩ := hblk t b ht
   obtain ⟨htl',_⟩ := hblk t' b' ht'
   rw [V t (by omega),V t' (by omega)] at he
   exact (List.getElem?_inj htl hnd).1 he
  ·rintro t j b B O hj hb hwr hl hρ _
   obtain ⟨B1,O1,e1,e2,_⟩ := r.heap.blk j b hb
   rw [hρ] at e1
   simp only [Option.some.injEq,Prod.mk.injEq] at e1
   obtain ⟨rfl,rfl⟩ := e1
   exact (e2 hwr hl).1
 ·intro j _ i h1 h2 h3
  simp only [mkS] at h1
  rw [vr.ρ,if_neg (by simp [xD]),V i h3,List.getElem?_eq_none (by omega)]
  rfl
 ·intro g
  rw [vr.ρ,if_neg (by simp [xD])]
  unfold Vw.to
  rw [if_pos (by omega)]
  exact r.grho g
 ·intro i hi
  obtain ⟨k1,k2,k3⟩ := r.pin i hi
  have hto : (xD L).to i = some i := by rw [V i (by omega)]; exact hrng i hi
  exact ⟨k1,by rw [vr.ρ,if_neg (by simp [xD]),hto]; exact k2,by rw [vr.cap i i rfl hto]; exact k3⟩
 ·intro y z hy
  exact r.mm y z (hmm y z hy)
theorem dU {fn : Func} {h0 : H} {r : RL} : m0j P gl fn np r (fun e s => (exT P fn np h0 e s).den fun r' => r'.v = r.v/\r'.io = r.io/\r'.nw = r.nw) := by
 intro e s hQ ds M W0 n κ0 κ a w hR
 have body : (match q0j P fn s with
   | some (ob,v) => qX v fun v =>
    qH ((mA s.h.f 200 (v.names++List.range np) []).filter fun i => decide (np<=i)) fun l =>
    match I6 (fun i => xT i (List.range np++l)) s.h.f l with
    | some nw =>
     qX (kK (fun i => xT i (List.range np++l)) v) fun v' => mB (lM (fun i => xT i (List.range np++l)) s.h.f h0 0 np) fun io => dT nw fun nw =>
      g0j (jN (List.range np++l) && decide ((List.range np++l).length<=GB) && v'.out true && dO (RL.iob ⟨[],v',io,nw⟩) && nw.all uT)
       (TX.obs (ob++gH (RL.iob ⟨[],v',io,nw⟩)++gG nw) (.leaf ⟨[],v',io,nw⟩))
    | none => .no
   | none => .no).den (fun r' => r'.v = r.v/\r'.io = r.io/\r'.nw = r.nw) ->
   (r.v.out true = true/\dO r.iob = true/\r.nw.all uT = true/\zP (gH r.iob)/\zP (gG r.nw)) /\
  ∃ x κ5 a5,(results fn a.tmps).run P w = .ok x w/\VRel κ5 r.v x/\RRel [] gl M W0 1 np κ0 (fun _ => True) κ5 (mkS [(0,r.v)] (nM 0 r.iob++yV np r.nw) (np + r.nw.length)) a5 w := by
  intro hd
  split at hd
  ·rename_i ob v hres
   rw [vA,wH] at hd
   generalize ((mA s.h.f 200 (v.names++List.range np) []).filter fun i => decide (np<=i)) = l at hd
   split at hd
   ·rename_i nw hnw
    rw [vA,eF,oV] at hd
    obtain ⟨hc,hd⟩ := xR.1 (dQ hd)
    simp only [Bool.and_eq_true,decide_eq_true_eq] at hc
    obtain ⟨⟨⟨⟨c1,c2⟩,c3⟩,c4⟩,c5⟩ := hc
    obtain ⟨hob,e1,e2,e3⟩ := (vI _ _).1 hd
    obtain ⟨rob,rv,rio,rnw⟩ := r
    simp only at e1 e2 e3
    subst e1 e2 e3
    obtain ⟨hob,hob3⟩ := zE.1 hob
    obtain ⟨hob1,hob2⟩ := zE.1 hob
    obtain ⟨x,hx,hrun⟩ := R9 (P := P) hR hres hob1
    obtain ⟨κ5,a5,h5,r5⟩ := hR.ren (h0 := h0) (ob := rob) (av := kK (fun i => xT i (List.range np++l)) v) (nw0 := nw) (uR _ c1) c2 hnw hx
    exact ⟨⟨c3,c4,c5,hob2,hob3⟩,x,κ5,a5,hrun,h5,r5⟩
   ·exact hd.elim
  ·exact hd.elim
 cases e with
 | ret => exact ⟨.inl rfl,body hQ⟩
 | normal => exact ⟨.inr rfl,body hQ⟩
 | _ => exact hQ.elim
end
def TX.toTL (acc : List Prop->List Prop) : TX->TL
 | .no => .no
 | .leaf r => .ok ⟨acc r.ob,r.v,r.io,r.nw⟩
 | .br b x y => .br b (x.toTL acc) (y.toTL acc)
 | .obs l x => x.toTL fun m => acc (l++m)
theorem TX.toTL_sel : ∀ (t : TX) (acc : List Prop->List Prop) (q : RL),(∀ m,zP (acc m)->zP m)->(t.toTL acc).sel = some q->zP q.ob->t.den fun r => r.v = q.v/\r.io = q.io/\r.nw = q.nw
 | .no,acc,q,_,h,_ => by simp [TX.toTL,TL.sel] at h
 | .leaf r,acc,q,_,h,_ => by
  simp only [TX.toTL,TL.sel,Option.some.injEq] at h
  subst h
  exact ⟨rfl,rfl,rfl⟩
 | .br b x y,acc,q,ha,h,ho => by
  cases b
  ·exact TX.toTL_sel y acc q ha h ho
  ·exact TX.toTL_sel x acc q ha h ho
 | .obs l x,acc,q,ha,h,ho => by
  have hacc : ∀ (t : TX) (acc : List Prop->List Prop),(t.toTL acc).sel = some q->∃ m,q.ob = acc m := by
   intro t
   induction t with
   | no => intro acc h; simp [TX.toTL,TL.sel] at h
   | leaf r =>
    intro acc h
    simp only [TX.toTL,TL.sel,Option.some.injEq] at h
    subst h
    exact ⟨_,rfl⟩
   | br b x y ihx ihy =>
    intro acc h
    cases b
    ·exact ihy acc h
    ·exact ihx acc h
   | obs l x ih =>
    intro acc h
    obtain ⟨m,hm⟩ := ih _ h
    exact ⟨_,hm⟩
  obtain ⟨m,hm⟩ := hacc x _ h
  rw [hm] at ho
  refine (vI _ _).2 ⟨(zE.1 (ha _ ho)).1,TX.toTL_sel x _ q (fun m hm => (zE.1 (ha _ hm)).2) h (by rw [hm]; exact ho)⟩
def T5 (h : H) : List Nat->List (List Kd)
 | [] => []
 | i::is => (match h i with | some b => (match b.con with | .cells l => List.replicate l.length .kp | _ => []) | none => [])::T5 h is
def idL (l : List Prop) : List Prop := l
def jR (P : Program) (Γ : Ctx) (gl : Gl) (gs : List Nat) (fuel : Nat) (fn : Func) (as : List AV) (bs : List ABlk) : TL :=
 match fn.body with
 | some c => sH (yV 0 as) (gs.map (fH gl)++yV 0 bs) xI fun s => (dR P Γ fn.ntmps fuel c [] (exT P fn bs.length s.h.f) s).toTL idL
 | none => .no
def bS (P : Program) (Γ : Ctx) (gl : Gl) (gs : List Nat) (fuel : Nat) (na : Nat) (fn : Func) : Spec :=
 ⟨List.replicate na .kp,fun as h => mA h 200 (jS as) [],T5,jR P Γ gl gs fuel fn⟩
theorem lN {P : Program} {gl : Gl} {Γ : Ctx} {f : FuncId} {fn : Func} (gs : List Nat) (fuel na : Nat) (hf : P.funcs[f]? = some fn) (hok : (match fn.body with | some c => fI fn (bS P Γ gl gs fuel na fn) gs c | none => false) = true) (hΓ : COKs P gl Γ) (hmix : P.follows .mixedOrders = true)
  (hcall : ∀ args w,(callFunc f args).run P w = .ok (.enter f args) w) : COKv P gl f (mkF (bS P Γ gl gs fuel na fn)) := by
 cases hb : fn.body with
 | none => rw [hb] at hok; cases hok
 | some c =>
  rw [hb] at hok
  refine lK gs fuel hf hb hok hΓ hmix hcall fun as bs r hsel hob => ?_
  have hsel' : (jR P Γ gl gs fuel fn as bs).sel = some r := hsel
  unfold jR at hsel'
  rw [hb] at hsel'
  simp only [kC] at hsel'
  have h1 := TX.toTL_sel _ _ _ (fun m hm => hm) hsel' hob
  exact ⟨_,dU,dS (np := bs.length) _ _ _ _ _ h1⟩
theorem h2x {P : Program} {gl : Gl} {Γ : Ctx} {f : FuncId} {fn : Func} (gs : List Nat) (fuel na : Nat) (hf : P.funcs[f]? = some fn) (hok : (match fn.body with | some c => fI fn (bS P Γ gl gs fuel na fn) gs c | none => false) = true) (hΓ : COKs P gl Γ) (hmix : P.follows .mixedOrders = true)
  (hcall : ∀ args w,(callFunc f args).run P w = .ok (.enter f args) w) : COK P gl f (mkF (bS P Γ gl gs fuel na fn)) := (lN gs fuel na hf hok hΓ hmix hcall).cok
def Ctx.exe (Γ : Ctx) (P : Program) (gl : Gl) (gs : List Nat) (fuel na : Nat) (f : FuncId) (fn : Func) : Ctx := Γ.add f (mkF (bS P Γ gl gs fuel na fn))
def rR (P : Program) (Γ : Ctx) (gl : Gl) (gs : List Nat) (fuel na : Nat) (fn : Func) : Bool := match fn.body with | some c => fI fn (bS P Γ gl gs fuel na fn) gs c | none => false
theorem COKs.exe {P : Program} {gl : Gl} {Γ : Ctx} (h : COKs P gl Γ) (gs : List Nat) (fuel na : Nat) {f : FuncId} {fn : Func} (hf : P.funcs[f]? = some fn) (hok : rR P Γ gl gs fuel na fn = true) (hmix : P.follows .mixedOrders = true)
  (hcall : ∀ args w,(callFunc f args).run P w = .ok (.enter f args) w) : COKs P gl (Γ.exe P gl gs fuel na f fn) := h.add (h2x gs fuel na hf hok h hmix hcall)
end Go.Sym
namespace Go.Sym
def nilG (A : List (BitVec 8)->RL) (xs : List AV) (bs : List ABlk) : TL := match xs,bs with
 | [.rb p l (.is b)],[] => .ok ⟨(b = true->l = [])::(A l).ob,(A l).v,(A l).io,(A l).nw⟩
 | _,_ => .no
def oX (A : List (BitVec 8)->RL) : Spec := ⟨[.by8],fun _ _ => [],fun _ _ => [],nilG A⟩
def unkG (A : List (BitVec 8)->RL) (xs : List AV) (bs : List ABlk) : TL := match xs,bs with
 | [.rb p l .unk],[] => .ok (A l)
 | _,_ => .no
def uN (A : List (BitVec 8)->RL) : Spec := ⟨[.by0],fun _ _ => [],fun _ _ => [],unkG A⟩
theorem COK.unk {P : Program} {gl : Gl} {f : FuncId} {A : List (BitVec 8)->RL} (hc : COK P gl f (mkF (oX A))) : COK P gl f (mkF (uN A)) := by
 suffices key : ∀ (M : Nat->Prop) (w : World) (κ : Ker) (hs h : H) as (vals : Array Value) fr r,HRel M w κ h->hs.le h->VRels κ as vals.toList->(mkF (uN A) hs as fr).sel = some r->zP r.ob->∃ as' r',VRels κ as' vals.toList/\(mkF (oX A) hs as' fr).sel = some r'/\zP r'.ob/\r'.v = r.v/\r'.up = r.up by
  rcases hc with hc | hc
  ·refine .inl ⟨hc.1,?_⟩
   intro M w κ hs h as vals fr r hG hMG hr hle hup hfr hgrho hfrG hvs hsel hobr
   obtain ⟨as',r',k1,k2,k3,k4,k5⟩ := key M w κ hs h as vals fr r hr hle hvs hsel hobr
   have := hc.2 M w κ hs h as' vals fr r' hG hMG hr hle hup hfr hgrho hfrG k1 k2 k3
   rw [k4,k5] at this
   exact this
  ·refine .inr ?_
   intro M w κ hs h as vals fr r hr hle hvs hsel hobr
   obtain ⟨as',r',k1,k2,k3,k4,k5⟩ := key M w κ hs h as vals fr r hr hle hvs hsel hobr
   have := hc M w κ hs h as' vals fr r' hr hle k1 k2 k3
   rw [k4,k5] at this
   exact this
 intro M w κ hs h as vals fr r hr hle hvs hsel hobr
 unfold mkF at hsel
 rw [wH] at hsel
 have e0 : (uN A).io as hs = [] := rfl
 have e00 : (uN A).bk hs [] = [] := rfl
 have e01 : (uN A).ks = [.by0] := rfl
 rw [e0,e00,e01] at hsel
 split at hsel
 case isFalse => cases hsel
 rename_i hcc
 have go : ∀ (as' : List AV) (o1 : List Prop) (p b : Bool) (l : List (BitVec 8)),uA [] hs [.by8] as' = some (o1,[.rb p l (.is b)])->(b = true->l = [])->zP o1 ->
   ∀ o1',zP (o1'++(A l).ob)->∀ r,(rlT hs [] o1' fr (A l)).sel = some r->zP r.ob->∃ r',(mkF (oX A) hs as' fr).sel = some r'/\zP r'.ob/\r'.v = r.v/\r'.up = r.up := by
  intro as' o1 p b l hi hb ho o1' ho' r hrr hro
  unfold mkF
  rw [wH]
  have e1 : (oX A).io as' hs = [] := rfl
  have e2 : (oX A).bk hs [] = [] := rfl
  have e3 : (oX A).ks = [.by8] := rfl
  rw [e1,e2,e3,if_pos hcc,hi]
  simp only [kL,oX,nilG,TL.toT]
  unfold rlT at hrr ⊢
  split at hrr
  ·rename_i hl
   rw [if_pos hl]
   simp only [T.sel,Option.some.injEq] at hrr
   subst hrr
   refine ⟨_,rfl,?_,rfl,rfl⟩
   simp only [List.append_nil]
   exact zE.2 ⟨ho,zJ.2 ⟨hb,(zE.1 ho').2⟩⟩
  ·cases hrr
 cases as with
 | nil => simp only [uA] at hsel; cases hsel
 | cons a as1 =>
  cases as1 with
  | cons a2 as2 =>
   simp only [uA] at hsel
   cases hq : dL [] hs .by0 a with
   | none => rw [hq] at hsel; simp [Option.bind] at hsel; cases hsel
   | some q => rw [hq] at hsel; simp [Option.bind] at hsel; cases hsel
  | nil =>
   obtain ⟨v,vs,ev,hv,hvn⟩ := hvs
   simp only [VRels] at hvn
   subst hvn
   simp only [uA] at hsel
   cases a <;> simp only [dL,Option.bind,Option.map] at hsel <;> try (cases hsel; done)
   case nils =>
    simp only [List.append_nil,kL,uN,unkG,TL.toT] at hsel
    have hro := hobr
    have ho' : zP ([]++(A []).ob) := by
     unfold rlT at hsel
     split at hsel
     ·simp only [T.sel,Option.some.injEq] at hsel
      subst hsel
      simpa using hro
     ·cases hsel
    obtain ⟨r',k⟩ := go [.nils] [] true true [] (by simp [uA,dL]) (fun _ => rfl) l9 [] ho' r hsel hobr
    exact ⟨[.nils],r',ev ▸ ⟨v,[],rfl,hv,rfl⟩,k⟩
   case rb p l nl =>
    simp only [List.append_nil,kL,uN,unkG,TL.toT] at hsel
    have ho' : zP ([]++(A l).ob) := by
     unfold rlT at hsel
     split at hsel
     ·simp only [T.sel,Option.some.injEq] at hsel
      subst hsel
      simpa using hobr
     ·cases hsel
    obtain ⟨ad,k,h1,h2,h3,h4⟩ := hv
    obtain ⟨r',k'⟩ := go [.rb p l (.is ad.isNone)] [] p ad.isNone l (by simp [uA,dL]) (fun hn => by
     rcases h4 with h0 | ⟨B,O,e,_⟩
     ·exact h0
     ·rw [e] at hn; cases hn) l9 [] ho' r hsel hobr
    exact ⟨[.rb p l (.is ad.isNone)],r',ev ▸ ⟨v,[],rfl,⟨ad,k,h1,h2,rfl,h4⟩,rfl⟩,k'⟩
   case slice i x sz n c nl =>
    simp only [xT] at hsel
    cases hsb : yX hs (.slice i x sz n c nl) with
    | none => rw [hsb] at hsel; cases hsel
    | some q =>
     obtain ⟨ob,l⟩ := q
     rw [hsb] at hsel
     simp only [List.append_nil,kL,uN,unkG,TL.toT] at hsel
     have ho' : zP (ob++(A l).ob) := by
      unfold rlT at hsel
      split at hsel
      ·simp only [T.sel,Option.some.injEq] at hsel
       subst hsel
       simpa using hobr
      ·cases hsel
     obtain ⟨ad,k,h1,h2,h3,h4,h5⟩ := hv
     have hsb2 : yX hs (.slice i x sz n c (.is ad.isNone)) = some (ob,l) := by rw [<- hsb]; rfl
     obtain ⟨r',k'⟩ := go [.slice i x sz n c (.is ad.isNone)] ob false ad.isNone l (by simp [uA,dL,xT,hsb2]) (fun hn => by
      have hn0 : n = 0 := by
       rcases h5 with ⟨B,O,_,e⟩ | h0
       ·rw [e] at hn; cases hn
       ·exact h0.1
      have hl := uF (hr.le hle) hsb (zE.1 ho').1 ⟨ad,k,h1,h2,h3,h4,h5⟩
      obtain ⟨_,⟨s,hs2,_⟩ | ⟨a',k2,hs2,_⟩⟩ := hl
      ·rw [h1] at hs2; cases hs2
      ·rw [h1] at hs2
       simp only [Value.slice.injEq] at hs2
       obtain ⟨_,e,_⟩ := hs2
       rw [hn0] at e
       exact List.eq_nil_of_length_eq_zero e.symm) (zE.1 ho').1 ob ho' r hsel hobr
     exact ⟨[.slice i x sz n c (.is ad.isNone)],r',ev ▸ ⟨v,[],rfl,⟨ad,k,h1,h2,rfl,h4,h5⟩,rfl⟩,k'⟩
end Go.Sym
namespace Go.Sym
open Go.ChangeShapes Go.WideShapes
def κW (W : World) : Ker := ⟨fun i => if GB<=i then some (i - GB,0) else none,fun _ => 0,W.cell?,W.cell?,fun _ _ h => h⟩
mutual
theorem rT {f : Nat->Option Nat} {p : Bool} : ∀ (a : AV),a.data p = true->kK f a = a
 | .ptr i x sz c,h => by simp [AV.data] at h
 | .slice i x sz n c nl,h => by simp [AV.data] at h
 | .mp _,h => by simp [AV.data] at h
 | .agg cs,h => by simp only [kK]; rw [nN cs (by simpa [AV.data] using h)]
 | .tup cs,h => by simp only [kK]; rw [nN cs (by simpa [AV.data] using h)]
 | .fn g a b,h => by
  simp only [AV.data,Bool.and_eq_true] at h
  simp only [kK]
  rw [nN a h.1,nN b h.2]
 | .any,_ => rfl
 | .bool _,_ => rfl
 | .u8 _,_ => rfl
 | .u16 _,_ => rfl
 | .u32 _,_ => rfl
 | .u64 _,_ => rfl
 | .int _ _,_ => rfl
 | .str _,_ => rfl
 | .nilp,_ => rfl
 | .nils,_ => rfl
 | .raw _,_ => rfl
 | .rb _ _ _,_ => rfl
 | .ros _ _ _ _ _,_ => rfl
 | .rp _ _,_ => rfl
theorem nN {f : Nat->Option Nat} {p : Bool} : ∀ (as : List AV),zT p as = true->fG f as = as
 | [],_ => rfl
 | a::as,h => by
  simp only [zT,Bool.and_eq_true] at h
  simp only [fG]
  rw [rT a h.1,nN as h.2]
end
theorem d0w {h : H} : ∀ (as : List AV),zT true as = true->uA [] h (List.replicate as.length .kp) as = some ([],as)
 | [],_ => rfl
 | a::as,hd => by
  simp only [zT,Bool.and_eq_true] at hd
  simp only [List.length_cons,List.replicate_succ,uA,dL,Option.bind_some]
  rw [d0w as hd.2,rT a hd.1]
  rfl
theorem sI {w w' : World} (h : Only (fun B => w.heap.size<=B) w w') : RowKit.Below w.heap.size w w' :=
 ⟨h.os,h.tape,h.output,h.size,fun k hk => h.block k (by omega) (by omega)⟩
def j1w (n : Nat) : Spec := ⟨List.replicate n .kp,fun _ _ => [],fun _ _ => [],fun _ _ => .no⟩
def q1w (fn : Func) (n : Nat) (gs : List Nat) : Bool := match fn.body with | some c => fI fn (j1w n) gs c | none => false
theorem c0w {P : Program} {gl : Gl} {Γ : Ctx} {f : FuncId} {fn : Func} {av : List AV} {vals : Array Value} {W : World} {ls : List (Nat × LS)} (gs : List Nat) (fuel : Nat) (hf : P.funcs[f]? = some fn) (hok : q1w fn av.length gs = true) (hΓ : COKs P gl Γ)
  (hmix : P.follows .mixedOrders = true) (hG : GW gl W) (hd : zT true av = true) (hv : VRels (κW W) av vals.toList) (hw : Must (xQ P Γ gl gs ls fuel fn 0 av [] (vL P fn 0 ⟨[],.bool true,[],[]⟩))) :
  Calls P f vals W fun e w' => e = .returned (.bool true)/\RowKit.Below W.heap.size W w' := by
 unfold q1w at hok
 cases hb : fn.body with
 | none => rw [hb] at hok; cases hok
 | some c =>
  rw [hb] at hok
  have hGr : ∀ g,(κW W).ρ (GB + g) = some (g,0) := by
   intro g
   show (if GB<=GB + g then some (GB + g - GB,0) else none) = _
   rw [if_pos (by omega)]
   simp
  have hfr : ∀ i,0<=i->i < 0 + xI->(κW W).ρ i = none := by
   intro i _ hi
   have : xI < GB := by unfold xI GB; omega
   exact if_neg (by omega)
  have hh : HRel (fun B => W.heap.size<=B) W (κW W) (fun _ => none) :=
   ⟨nofun,nofun,nofun,fun a x ha => ha,MapR.none nofun⟩
  refine (cY (ios := []) (fr := 0) (o1 := []) (o2 := []) (as2 := av) (bs2 := []) (r := ⟨[],.bool true,[],[]⟩) (sp := j1w av.length) (Q := vL P fn 0 ⟨[],.bool true,[],[]⟩) hf hb hok hΓ hmix hG hG.new hh (fun _ _ h => h) (fun B hB => hB) hfr hGr
   (by unfold xI GB; omega) hv rfl rfl (Nat.zero_le _) (d0w av hd) rfl trivial trivial rfl (Nat.zero_le _) rfl dP (gV hb hw.out)).mono ?_
  rintro e w' ⟨x,rfl,κ',_,_,hx,_,ho,_⟩
  have : x = .bool true := hx
  exact ⟨by rw [this],sI ho⟩
theorem GW.nil (w : World) : GW (fun _ => []) w := fun g i v h => by simp at h
section
variable {H : Type} {enc : TypeId × Value->H} {P : Program} {W : World} {base : Nat} {spare : Nat->Bool} {held : Bool}
theorem g2x {n : Int} (h : (Lit.int .u8 n).wf = true) : (Value.int .u8 n) = .int .u8 ((BitVec.ofInt 8 n).toNat : Int) := by
 simp [Lit.wf,IntKind.has,IntKind.min,IntKind.max,IntKind.signed,IntKind.bits] at h
 congr 1
 simp only [BitVec.toNat_ofInt]
 omega
theorem cells_slice {r : Reach} {b0 : Nat} {t e : TypeId} {v v' : Value} (ht : P.underlying t = some (.slice e)) (hok : Value.okWide P W r b0 t v) (hc : v.cells.toList = [v']) : v = v' := by
 simp only [Value.okWide,ht,Cell.okWide,Cell.ok] at hok
 cases v <;> simp [Value.cells] at hc hok <;> exact hc
theorem b0w {t e : TypeId} {fuel : Nat} {cs : List Value} {x : DataW H × List MemPlace} (ht : P.underlying t = some (.slice e)) (he : P.underlying e = some (.int .u8)) (hc : P.cellsOf e = 1)
  (h : DataW.trod enc P W base spare held fuel t cs = some x) : ∃ v l c,cs = [v]/\(c = true->l = [])/\l.length<=maxLen/\VRel (κW W) (.rb true l (.is c)) v := by
 rcases open_ints ht he hc h with ⟨hcs,_⟩ | ⟨a,len,cap,zs,hcs,_,hl,hm,hz,_,hcell,hwf⟩
 ·exact ⟨_,[],true,hcs,fun _ => rfl,by simp,none,0,rfl,Nat.le_refl _,rfl,.inl rfl⟩
 ·have hzl : len<=zs.length := by rw [hz]; split <;> omega
  refine ⟨_,(zs.take len).map (BitVec.ofInt 8),false,hcs,nofun,by simp; omega,some a,cap,by simp; omega,by simp; omega,rfl,?_⟩
  rcases Nat.eq_zero_or_pos len with h0 | hpos
  ·left; subst h0; simp
  ·right
   obtain ⟨B,O,spot⟩ := a
   have hsp : spot = none := by
    have h1 := hcell 0 (by omega)
    unfold World.cell? at h1
    cases spot with
    | none => rfl
    | some s =>
     exfalso
     simp [Addr.add] at h1
     split at h1 <;> simp at h1
   subst hsp
   refine ⟨B,O,rfl,fun j b hj => ?_⟩
   rw [List.getElem?_map,Option.map_eq_some_iff] at hj
   obtain ⟨z,hz1,rfl⟩ := hj
   rw [List.getElem?_take] at hz1
   split at hz1
   ·have hjl := (List.getElem?_eq_some_iff.1 hz1).1
    have h1 := hcell j hjl
    rw [Addr.add_at] at h1
    have h2 : zs.getD j 0 = z := by simp [List.getD,hz1]
    rw [h2] at h1
    show W.cell? ⟨B,O + j,none⟩ = _
    rw [h1,g2x (hwf z (List.mem_of_getElem? hz1))]
   ·cases hz1
end
end Go.Sym
namespace Go.Sym
theorem wK {x : Int} (h1 : -9223372036854775808<=x) (h2 : x < 9223372036854775808) : IntKind.i64.wrap x = x := by
 simp [IntKind.wrap,IntKind.signed,IntKind.bits]
 split <;> omega
theorem zU {x : Int} (n : Nat) (h : x = n) (h2 : n < 9223372036854775808) : IntKind.i64.wrap x = (n : Int) := by
 subst h
 exact wK (by omega) (by omega)
theorem yE {f t : Prop} {b : Bool} (h1 : b = true->t) (h0 : b = false->f) : @Bool.rec (fun _ => Prop) f t b := by
 cases b
 ·exact h0 rfl
 ·exact h1 rfl
theorem aO {a b : Int} : decide (a < b) = true ↔ a < b := by simp
theorem mR {a b : Int} : decide (a < b) = false ↔ b<=a := by simp
theorem dV {a b : BitVec 32} (h : a = b) : [AV.u32 a] = [AV.u32 b] := by rw [h]
theorem d32 (a : BitVec 32) : zT false [AV.u32 a] = true := rfl
theorem n1w (b : Bool) (a c : BitVec 32) : (bif b then [AV.u32 a] else [AV.u32 c]) = [AV.u32 (bif b then a else c)] := by cases b <;> rfl
theorem oY {α : Type} (l : List α) (a n j : Nat) (d : α) (hj : j < n) : ((l.take (a + n)).drop a).getD j d = l.getD (a + j) d := by
 simp only [List.getD]
 rw [List.getElem?_drop,List.getElem?_take,if_pos (by omega)]
theorem gI {α : Type} (f : Nat->α) (n j : Nat) (d : α) (hj : j < n) : ((List.range n).map f).getD j d = f j := by
 simp [List.getD,hj]
end Go.Sym
namespace Go.Sym
theorem yY {P : Program} {gl : Gl} {Γ : Ctx} {f : FuncId} {fn : Func} {sp : Spec} (gs : List Nat) (fuel : Nat) (hf : P.funcs[f]? = some fn) (hok : (match fn.body with | some c => fI fn sp gs c | none => false) = true) (hΓ : COKs P gl Γ) (hmix : P.follows .mixedOrders = true)
  (hcall : ∀ args w,(callFunc f args).run P w = .ok (.enter f args) w)
  (h : ∀ as bs r,(sp.G as bs).sel = some r->zP r.ob->∃ ls,Must (xQ P Γ gl gs ls fuel fn bs.length as bs (vL P fn bs.length r))) :
  COK P gl f (mkF sp) := by
 cases hb : fn.body with
 | none => rw [hb] at hok; cases hok
 | some c =>
  rw [hb] at hok
  refine I4 gs fuel hf hb hok hΓ hmix hcall fun as bs r hs ho => ?_
  obtain ⟨ls,hm⟩ := h as bs r hs ho
  exact ⟨_,dP,gV hb hm.out⟩
end Go.Sym
namespace Go.Sym
theorem b1x {α : Type} (f : α->AV) (L : List α) (d : α) (y : Nat) (h : y < L.length) : cut 1 (L.map f) y = [f (L.getD y d)] := by
 unfold cut
 rw [Nat.mul_one]
 apply List.ext_getElem?
 intro i
 rw [List.getElem?_take]
 cases i with
 | zero => simp [List.getD,h]
 | succ i => simp
end Go.Sym
namespace Go.Sym
theorem dle {a b : Int} : decide (a<=b) = true ↔ a<=b := by simp
theorem ndle {a b : Int} : decide (a<=b) = false ↔ b < a := by simp
end Go.Sym
namespace Go.Sym
theorem tmod_nat (n k : Nat) : ((n : Int)).tmod (k : Int) = ((n % k : Nat) : Int) := by
 rw [Int.tmod_eq_emod_of_nonneg (by omega)]; simp
theorem fill_row {α : Type} (f : Nat->α) (d : α) (n x : Nat) (hx : x < n) : ((List.range n).map fun k => if k < x then f k else d).set x (f x) = (List.range n).map fun k => if k < x + 1 then f k else d := by
 apply List.ext_getElem?
 intro k
 rw [List.getElem?_set]
 by_cases hk : k < n
 ·by_cases h : x = k
  ·subst h
   simp [hx]
  ·rw [if_neg h]
   simp only [List.getElem?_map,List.getElem?_range hk,Option.map_some]
   by_cases h2 : k < x
   ·rw [if_pos h2,if_pos (by omega)]
   ·rw [if_neg h2,if_neg (by omega)]
 ·rw [if_neg (by omega),List.getElem?_eq_none (by simp; omega),List.getElem?_eq_none (by simp; omega)]
end Go.Sym
