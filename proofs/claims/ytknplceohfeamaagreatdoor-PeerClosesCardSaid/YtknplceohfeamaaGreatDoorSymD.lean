/- The same machine: numbers that are not known, and regions in any order. -/
import Derived.Test.YtknplceohfeamaaGreatDoorSymB
import Derived.OrdersIn
import Derived.RangeFuncLeaves
set_option linter.unusedVariables false
set_option linter.unusedSimpArgs false
namespace Go.Sym
theorem dW : ∀ {cs : List AV} {l : List (BitVec 32)},aH cs = some l->cs = l.map AV.u32
 | [],l,h => by simp [aH] at h; subst h; rfl
 | a::cs,l,h => by
  cases a <;> simp only [aH,reduceCtorEq,Option.map_eq_some_iff] at h
  obtain ⟨l',h1,rfl⟩ := h
  simp [dW h1]
theorem aP : ∀ {cs : List AV} {l : List (BitVec 64)},o8 cs = some l->cs = l.map AV.u64
 | [],l,h => by simp [o8] at h; subst h; rfl
 | a::cs,l,h => by
  cases a <;> simp only [o8,reduceCtorEq,Option.map_eq_some_iff] at h
  obtain ⟨l',h1,rfl⟩ := h
  simp [aP h1]
theorem I7 {k : IntKind} : ∀ {cs : List AV} {l : List Int},rdI k cs = some l->cs = l.map (AV.int k)
 | [],l,h => by simp [rdI] at h; subst h; rfl
 | a::cs,l,h => by
  cases a <;> simp only [rdI,reduceCtorEq] at h
  split at h
  ·rename_i hk
   subst hk
   simp only [Option.map_eq_some_iff] at h
   obtain ⟨l',h1,rfl⟩ := h
   simp [I7 h1]
  ·cases h
theorem gJ {α : Type} (f : α->AV) (L : List α) (d : α) (o : Nat) : (Con.rows 1 L.length fun y => [f (L.getD y d)]).at o = (L.map f)[o]? := by
 simp only [Con.at,Nat.mul_one,Nat.div_one,Nat.mod_one]
 split
 ·rename_i h
  simp [List.getD,h]
 ·rename_i h
  rw [List.getElem?_eq_none (by simp; omega)]
theorem bT {l : List AV} {c : Con} (h : nH l = some c) : (∀ o,c.at o = l[o]?)/\c.len = l.length := by
 unfold nH at h
 split at h
 ·simp only [Option.map_eq_some_iff] at h
  obtain ⟨L,hL,rfl⟩ := h
  rw [vR hL]
  exact ⟨fun o => by simp [Con.at],by simp [Con.len]⟩
 ·simp only [Option.map_eq_some_iff] at h
  obtain ⟨L,hL,rfl⟩ := h
  rw [dW hL]
  exact ⟨fun o => gJ _ _ _ _,by simp [Con.len]⟩
 ·simp only [Option.map_eq_some_iff] at h
  obtain ⟨L,hL,rfl⟩ := h
  rw [aP hL]
  exact ⟨fun o => gJ _ _ _ _,by simp [Con.len]⟩
 ·simp only [Option.map_eq_some_iff] at h
  obtain ⟨L,hL,rfl⟩ := h
  rw [I7 hL]
  exact ⟨fun o => gJ _ _ _ _,by simp [Con.len]⟩
 ·cases h
theorem oZ {w : Nat} {L : List (BitVec w)} (h : L.all (· == 0) = true) : L = List.replicate L.length 0 := by
 rw [List.eq_replicate_iff]
 exact ⟨rfl,fun b hb => by simpa using List.all_eq_true.1 h b hb⟩
theorem d0j {L : List Int} (h : L.all (· == 0) = true) : L = List.replicate L.length 0 := by
 rw [List.eq_replicate_iff]
 exact ⟨rfl,fun b hb => by simpa using List.all_eq_true.1 h b hb⟩
theorem gK {α : Type} (f : α->AV) (d : α) (n o : Nat) : (Con.rows 1 n fun _ => [f d]).at o = ((List.replicate n d).map f)[o]? := by
 simp only [Con.at,Nat.mul_one,Nat.div_one,Nat.mod_one]
 split
 ·rename_i h
  simp [h]
 ·rename_i h
  rw [List.getElem?_eq_none (by simp; omega)]
theorem a1x (z : List AV) : (∀ o,(Z6 z).at o = z[o]?)/\(Z6 z).len = z.length := by
 have cells : (∀ o,(Con.cells z).at o = z[o]?)/\(Con.cells z).len = z.length := ⟨fun _ => rfl,rfl⟩
 unfold Z6
 split
 ·split
  ·rename_i L hL
   split
   ·rename_i ha
    have e := vR hL
    have e2 := oZ ha
    rw [e]
    refine ⟨fun o => ?_,by simp [Con.len]⟩
    rw [<- e2]
    simp [Con.at]
   ·exact cells
  ·exact cells
 ·split
  ·rename_i L hL
   split
   ·rename_i ha
    have e := dW hL
    have e2 := oZ ha
    rw [e]
    refine ⟨fun o => ?_,by simp [Con.len]⟩
    rw [gK,<- e2]
   ·exact cells
  ·exact cells
 ·split
  ·rename_i L hL
   split
   ·rename_i ha
    have e := aP hL
    have e2 := oZ ha
    rw [e]
    refine ⟨fun o => ?_,by simp [Con.len]⟩
    rw [gK,<- e2]
   ·exact cells
  ·exact cells
 ·split
  ·rename_i k _ _ _ L hL
   split
   ·rename_i ha
    have e := I7 hL
    have e2 := d0j ha
    rw [e]
    refine ⟨fun o => ?_,by simp [Con.len]⟩
    rw [gK (AV.int k),<- e2]
   ·exact cells
  ·exact cells
 ·exact cells
theorem z1k {z : List AV} : (Z6 z).isMap = false := by
 unfold Z6
 split
 all_goals first | rfl | skip
 all_goals split
 all_goals first | rfl | skip
 all_goals split
 all_goals rfl
theorem z5 {l : List AV} {c : Con} (h : nH l = some c) : c.isMap = false := by
 unfold nH at h
 split at h
 all_goals first | cases h | skip
 all_goals
  simp only [Option.map_eq_some_iff] at h
  obtain ⟨_,_,rfl⟩ := h
  rfl
theorem c0j {c : Con} : (qR c).isMap = true->qR c = c := by
 unfold qR
 split
 ·split
  ·rename_i c hc
   intro h
   rw [z5 hc] at h; cases h
  ·intro _; rfl
 ·intro _; rfl
theorem vY (c : Con) : (∀ o,(qR c).at o = c.at o)/\(qR c).len = c.len := by
 unfold qR
 split
 ·rename_i l
  split
  ·rename_i c hc
   obtain ⟨h1,h2⟩ := bT hc
   exact ⟨fun o => by rw [h1]; rfl,by rw [h2]; rfl⟩
  ·exact ⟨fun _ => rfl,rfl⟩
 ·exact ⟨fun _ => rfl,rfl⟩
theorem OpPost.weak {P : Program} {w : World} {A B : Value->World->Prop} (h : ∀ x w',A x w'->B x w') {r : Result Next} (hr : OpPost P w A r) : OpPost P w B r := by
 cases r with
 | ok n w' =>
  cases n with
  | value x => exact h _ _ hr
  | skip => exact h _ _ hr
  | enter f args => exact ⟨hr.1,hr.2.mono fun e w'' ⟨x,h1,h2⟩ => ⟨x,h1,h _ _ h2⟩⟩
  | _ => exact hr
 | halt x w' => exact hr
section
variable {P : Program} {κ : Ker} {w : World} {M : Nat->Prop} {h : H} {Γ : Ctx} {gl : Gl}
theorem HRel.conv (r : HRel M w κ h) {i : Nat} {b : ABlk} {c : Con} (hi : h i = some b) (hc : ∀ o,c.at o = b.con.at o) (hl : c.len = b.con.len) (hmp : c.isMap = true->c = b.con) : HRel M w κ (upd h i (some ⟨c,b.wr,b.own⟩)) := by
 have live : ∀ j b',upd h i (some ⟨c,b.wr,b.own⟩) j = some b'->∃ b0,h j = some b0/\b0.wr = b'.wr/\b0.own = b'.own/\(∀ o,b'.con.at o = b0.con.at o)/\b'.con.len = b0.con.len/\(LiveB κ j b'->LiveB κ j b0) := by
  intro j b' hj
  unfold upd at hj
  split at hj
  ·rename_i he
   subst he
   simp only [Option.some.injEq] at hj
   subst hj
   refine ⟨b,hi,rfl,rfl,hc,hl,?_⟩
   rintro (⟨o,a,ha⟩ | h0)
   ·exact .inl ⟨o,a,by rw [<- hc]; exact ha⟩
   ·exact .inr h0
  ·exact ⟨b',hj,rfl,rfl,fun _ => rfl,rfl,fun h => h⟩
 refine ⟨?_,?_,?_,r.mem,r.mp.of (Ker.le_refl κ) (fun k c hk hm => by
  unfold upd at hk
  split at hk
  ·rename_i he
   subst he
   simp only [Option.some.injEq] at hk
   subst hk
   exact .inr ⟨b,hi,(hmp hm).symm⟩
  ·exact .inl hk) (fun _ _ _ h _ => h) fun _ _ _ _ _ _ _ _ _ h => h⟩
 ·intro j b' hj
  obtain ⟨b0,h0,e1,e2,e3,e4,e5⟩ := live j b' hj
  obtain ⟨B,O,k1,k2,k3⟩ := r.blk j b0 h0
  refine ⟨B,O,k1,fun hw hlv => k2 (by rw [e1]; exact hw) (e5 hlv),fun off a ha => ?_⟩
  rw [e3] at ha
  obtain ⟨k4,k5⟩ := k3 off a ha
  exact ⟨k4,fun hw => k5 (by rw [e1]; exact hw)⟩
 ·intro j j' b1 b2 B O B' O' hj hj' hne hw hl1 hl2 h1 h2
  obtain ⟨c1,g1,e1,e2,e3,e4,e5⟩ := live j b1 hj
  obtain ⟨c2,g2,f1,f2,f3,f4,f5⟩ := live j' b2 hj'
  exact r.sep j j' c1 c2 B O B' O' g1 g2 hne (by rw [e1]; exact hw) (e5 hl1) (f5 hl2) h1 h2
 ·intro j b' B O hj ho hρ
  obtain ⟨b0,h0,e1,e2,e3,e4,e5⟩ := live j b' hj
  have := r.own j b0 B O h0 (by rw [e2]; exact ho) hρ
  rw [e1,e2,<- e4] at this
  exact this
theorem tA (r : HRel M w κ h) (i : Nat) : HRel M w κ (symH h i) := by
 unfold symH
 split
 ·rename_i b hb
  exact r.conv hb (vY _).1 (vY _).2 c0j
 ·exact r
theorem T6 {hs h : H} (hle : hs.le h) (i : Nat) (hi : (hs i).isSome = true) : (symH hs i).le (symH h i) := by
 obtain ⟨b,hb⟩ := Option.isSome_iff_exists.1 hi
 have hb' := hle i b hb
 intro j c hj
 unfold symH at hj ⊢
 rw [hb] at hj
 rw [hb']
 simp only [upd] at hj ⊢
 split
 ·rename_i he; rw [if_pos he] at hj; exact hj
 ·rename_i he; rw [if_neg he] at hj; exact hle j c hj
theorem z6 (h : H) (i : Nat) (b : Option ABlk) (hb : h i = b) : upd h i b = h := by
 funext j
 unfold upd
 split
 ·rename_i he; subst he; exact hb.symm
 ·rfl
theorem b0j {M2 : Nat->Prop} {w2 : World} {κ2 : Ker} {i : Nat} (r : HRel M2 w2 κ2 (symH h i)) : HRel M2 w2 κ2 h := by
 unfold symH at r
 split at r
 ·rename_i b hb
  have := r.conv (i := i) (b := symB b) (c := b.con) (by simp [upd]) (fun o => ((vY b.con).1 o).symm) (vY b.con).2.symm (fun h => by
   show b.con = qR b.con
   obtain ⟨ag,p,g,e⟩ := Con.isMap_eq h
   rw [e]; rfl)
  rw [jB] at this
  rwa [z6 h i (some ⟨b.con,(symB b).wr,(symB b).own⟩) hb] at this
 ·exact r
theorem I8 {t : TypeId} {l : List AV} {q : List Prop × AV} (h : n0v P t l = some q) (ho : zP q.1) : ∃ a,l = [a]/\q.2 = a/\vU P t = some false := by
 unfold n0v at h
 split at h
 ·rename_i k ht
  have hag : vU P t = some false := by unfold vU; rw [ht]
  have fin : ∀ k',isI k' l->∃ a,l = [a]/\AV.int k' (ofI k' l) = a/\vU P t = some false := by
   intro k' hi
   unfold isI at hi
   split at hi
   ·rename_i k2 v
    subst hi
    exact ⟨_,rfl,by simp [ofI],hag⟩
   ·exact hi.elim
  split at h
  ·simp only [Option.some.injEq] at h
   subst h
   have := zA.1 ho
   unfold is32 at this
   split at this
   ·exact ⟨_,rfl,rfl,hag⟩
   ·exact this.elim
  ·simp only [Option.some.injEq] at h
   subst h
   have := zA.1 ho
   unfold is64 at this
   split at this
   ·exact ⟨_,rfl,rfl,hag⟩
   ·exact this.elim
  ·cases h
  ·cases h
  ·simp only [Option.some.injEq] at h
   subst h
   exact fin _ (zA.1 ho)
 ·cases h
theorem rU : ∀ (l : List AV) (x k : Nat) (r : R),(p5 l x k).sel = some r->∃ j a,l[j]? = some a/\x = k + j/\r = ⟨[],a,[]⟩
 | [],x,k,r,h => by simp [p5,T.sel] at h
 | a::l,x,k,r,h => by
  unfold p5 at h
  by_cases hx : x = k
  ·subst hx
   simp only [decide_true,T.sel,Option.some.injEq] at h
   exact ⟨0,a,rfl,rfl,h.symm⟩
  ·simp only [hx,decide_false,T.sel] at h
   obtain ⟨j,b,h1,h2,h3⟩ := rU l x (k + 1) r h
   exact ⟨j + 1,b,by simpa using h1,by omega,h3⟩
theorem rV {f : Nat->T} {x : Nat} : ∀ (m k : Nat) (r : R),(p6 f x k m).sel = some r->(f x).sel = some r
 | 0,k,r,h => by simp [p6,T.sel] at h
 | m + 1,k,r,h => by
  unfold p6 at h
  by_cases hx : x = k
  ·subst hx
   simp only [decide_true,T.sel] at h
   exact h
  ·simp only [hx,decide_false,T.sel] at h
   exact rV m (k + 1) r h
theorem aopS_sound {o : Oper} {args : List AV} {ev : Operand->Value} {fr : Nat} {hs : H} {r : R} {t : T} (hevc : ∀ v,ev (.const v) = v) (hargs : VRels κ args (o.op.operands.toList.map ev))
  (hΓ : COKs P gl Γ) (hG : GW gl w) (hMG : sC gl M)
  (hr : HRel M w κ h) (hle : hs.le h) (hM : ∀ B,w.heap.size<=B->M B) (hf : ∀ i,fr<=i->i < fr + xI->κ.ρ i = none) (hgr : ∀ g,κ.ρ (GB + g) = some (g,0)) (hfb : fr + xI<=GB)
  (ht : aopS P Γ o args fr hs = some t) (h0 : t.sel = some r) (hob : zP r.ob) :
  OpPost P w (fun x w' => Good M w κ fr r.v (h.ups r.up) x w') ((execOp ev o).run P w) := by
 unfold aopS at ht
 split at ht
 ·rename_i e ty x0 io i x sz c ix hop
  rw [hop] at hargs
  obtain ⟨xv,yv,hy,h1,h2⟩ := hargs.two
  simp [Op.operands] at hy
  obtain ⟨rfl,rfl⟩ := hy
  split at ht
  ·rename_i n el hty
   split at ht
   ·simp only [Option.bind_eq_some_iff,Option.map_eq_some_iff] at ht
    obtain ⟨⟨ob',j⟩,hj,inf,hi,rfl⟩ := ht
    simp only [T.sel,Option.some.injEq] at h0
    subst h0
    obtain ⟨ho1,ho2⟩ := zE.1 hob
    have hlt := zA.1 ho2
    obtain ⟨k,hk⟩ := yT h2 (fun v hv => by rw [hv,hevc]) hj ho1
    obtain ⟨B,O,hρ,hv⟩ := h1
    have hb : (0 : Int)<=(j : Int)/\(j : Int) < (n : Int) := by omega
    have hrun : (execOp ev o).run P w = .ok (.value (.pointer (some ⟨B,O + j * inf.size,none⟩))) w := by
     simp only [execOp,hop,hv,hk,Instr.indexAt,asIntOf,Instr.sureAddr,Sem.run_bind,Sem.run_pure,Result.andThen_ok,run_underlying hty,if_pos hb,zO hi,Int.toNat_natCast,Addr.add_at,Nat.mul_zero,Nat.add_zero]
    rw [hrun]
    exact Good.same hr ⟨B,O,hρ,rfl⟩
   ·cases ht
  ·cases ht
 ·rename_i e ty x0 io cs ix hop
  rw [hop] at hargs
  obtain ⟨xv,yv,hy,h1,h2⟩ := hargs.two
  simp [Op.operands] at hy
  obtain ⟨rfl,rfl⟩ := hy
  obtain ⟨us,hu,hus⟩ := h1
  split at ht
  ·rename_i n el hty
   simp only [Option.bind_eq_some_iff] at ht
   obtain ⟨⟨ob',j⟩,hj,inf,hi,c,hc,ht⟩ := ht
   split at ht
   ·rename_i hag
    split at ht
    ·rename_i hcnd
     obtain ⟨hsz,hn⟩ := hcnd
     simp only [Option.bind_eq_some_iff] at ht
     obtain ⟨⟨ob2,q⟩,hq,ht⟩ := ht
     split at ht
     ·rename_i a hqa
      simp only at hqa
      subst hqa
      simp only [Option.some.injEq] at ht
      subst ht
      simp only [T.sel,Option.some.injEq] at h0
      subst h0
      obtain ⟨ho1,ho2⟩ := zE.1 hob
      obtain ⟨_,hat⟩ := aL hq ho2
      have h3 := hat 0 a rfl
      rw [(bT hc).1] at h3
      simp only [Nat.mul_one,Nat.add_zero] at h3
      obtain ⟨z,hz,hrel⟩ := hus.get h3
      have hjl : j < n := by rw [<- hn]; exact (List.getElem?_eq_some_iff.1 h3).1
      obtain ⟨k,hk⟩ := yT h2 (fun v hv => by rw [hv,hevc]) hj ho1
      have hb : (0 : Int)<=(j : Int)/\(j : Int) < (n : Int) := by omega
      have hpart : (part el us j).run P w = .ok z w := by
       simp only [part,Sem.run_bind,xK hag,Result.andThen_ok]
       have : us[j]? = some z := by simpa using hz
       simp [this]
      have hrun : (execOp ev o).run P w = .ok (.value z) w := by
       simp only [execOp,hop,hu,hk,Instr.index,asIntOf,Sem.run_bind,Sem.run_pure,Result.andThen_ok,run_underlying hty,if_pos hb,zO hi,Int.toNat_natCast,hsz,Nat.mul_one,hpart]
      rw [hrun]
      exact Good.same hr hrel
     ·cases ht
    ·cases ht
   ·cases ht
  ·cases ht
 ·-- alloc
  rename_i e args0 el hop
  simp only [Option.map_eq_some_iff] at ht
  obtain ⟨z,hz,rfl⟩ := ht
  simp only [T.sel,Option.some.injEq] at h0
  subst h0
  obtain ⟨i,zv,hi,hzv,hrel⟩ := xA (κ := κ) hz
  have hrun : (execOp ev o).run P w = .ok (.value (.pointer (some ⟨w.heap.size,0,none⟩))) (w.alloc (.cells zv.cells el)) := by
   simp only [execOp,hop,Instr.alloc,Sem.run_bind,zeroValue,typeInfo,run_program,Result.andThen_ok,hi,Sem.run_pure,hzv,newVar,xL]
  rw [hrun]
  exact vV (R := 0) (fz := (0,0)) hr hf hM (fun h => by simp at h) (fun off a ha => by
   rw [(a1x _).1] at ha
   obtain ⟨x,hx,hv⟩ := hrel.get ha
   exact ⟨x,by simpa using hx,hv⟩) (.inl rfl) ⟨_,0,Ker.put_self _ _ _ _,rfl⟩ z1k
 ·-- load
  rename_i e ty x0 i x sz c hop
  have viaM : (nI P Γ o [.ptr i x sz c] fr (symH hs i)).sel = some r->OpPost P w (fun x w' => Good M w κ fr r.v (h.ups r.up) x w') ((execOp ev o).run P w) := by
   intro h0
   have hi : (hs i).isSome = true := by
    cases hb : hs i with
    | some _ => rfl
    | none =>
     exfalso
     unfold nI symH at h0
     rw [hop] at h0
     simp only [hb,Option.bind_none,T.ofR,T.sel,reduceCtorEq] at h0
   have hup : r.up = [] := by
    unfold nI at h0
    rw [hop] at h0
    simp only at h0
    generalize symH hs i i = q at h0
    cases q with
    | none => simp [T.ofR,T.sel] at h0
    | some b =>
     simp only [Option.bind_some] at h0
     split at h0
     ·generalize Con.read b.con x sz c _ = p at h0
      cases p with
      | none => simp [T.ofR,T.sel] at h0
      | some p =>
       simp only [Option.map_some,T.ofR,T.sel,Option.some.injEq] at h0
       rw [<- h0]
     ·generalize Con.read b.con x sz c _ = p at h0
      cases p with
      | none => simp [T.ofR,T.sel] at h0
      | some p =>
       simp only [Option.bind_some] at h0
       split at h0
       ·simp only [T.ofR,T.sel,Option.some.injEq] at h0
        rw [<- h0]
       ·simp [T.ofR,T.sel] at h0
     ·simp [T.ofR,T.sel] at h0
   have key := nY hevc hargs hΓ hG hMG (tA hr i) (T6 hle i hi) hM hf hgr hfb h0 hob
   rw [hup] at key ⊢
   refine OpPost.weak ?_ key
   rintro x w' ⟨κ',g1,g2,g3,g4,g5,g6⟩
   exact ⟨κ',g1,g2,g3,b0j g4,g5,g6⟩
  have viaM' : some (nI P Γ o [.ptr i x sz c] fr (symH hs i)) = some t->OpPost P w (fun x w' => Good M w κ fr r.v (h.ups r.up) x w') ((execOp ev o).run P w) := by
   intro ht
   simp only [Option.some.injEq] at ht
   subst ht
   exact viaM h0
  split at ht
  ·rename_i b hb
   split at ht
   ·rename_i n g hcon
    split at ht
    ·rename_i q hq
     simp only [Option.some.injEq] at ht
     subst ht
     simp only [T.sel,Option.some.injEq] at h0
     subst h0
     rw [hop] at hargs
     obtain ⟨y,hy,hrel⟩ := hargs.one
     simp [Op.operands] at hy
     subst hy
     obtain ⟨hlt,hob⟩ := zJ.1 hob
     obtain ⟨B,O,hρ,hv⟩ := hrel
     have hb' := hle i b hb
     obtain ⟨a,hga,hqa,hag⟩ := I8 hq hob
     have hat : b.con.at x = some a := by
      rw [<- (vY b.con).1,hcon]
      simp only [Con.at,Nat.mul_one,Nat.div_one,Nat.mod_one]
      rw [if_pos hlt,hga]
      rfl
     obtain ⟨⟨z,hz,hrz⟩,_⟩ := hr.cells hb' hρ hat
     have hrun : (execOp ev o).run P w = .ok (.value z) w := by
      simp only [Nat.mul_one,Nat.add_zero] at hv
      simp [execOp,hop,hv,Instr.loadAt,Instr.sureAddr,loadVar,xK hag,hz]
     rw [hrun,hqa]
     exact Good.same hr hrz
    ·exact viaM' ht
   ·rename_i l hcon
    split at ht
    ·rename_i hag
     simp only [Option.some.injEq] at ht
     subst ht
     obtain ⟨j,a,hj,hx,rfl⟩ := rU l x 0 r h0
     rw [Nat.zero_add] at hx
     subst hx
     rw [hop] at hargs
     obtain ⟨y,hy,hrel⟩ := hargs.one
     simp [Op.operands] at hy
     subst hy
     obtain ⟨B,O,hρ,hv⟩ := hrel
     have hb' := hle i b hb
     have hat : b.con.at x = some a := by
      rw [<- (vY b.con).1,hcon]
      exact hj
     obtain ⟨⟨z,hz,hrz⟩,_⟩ := hr.cells hb' hρ hat
     have hrun : (execOp ev o).run P w = .ok (.value z) w := by
      simp only [Nat.mul_one,Nat.add_zero] at hv
      simp [execOp,hop,hv,Instr.loadAt,Instr.sureAddr,loadVar,xK hag,hz]
     rw [hrun]
     exact Good.same hr hrz
    ·exact viaM' ht
   ·exact viaM' ht
  ·split at ht
   ·simp only [Option.some.injEq] at ht
    subst ht
    have h1 := rV _ _ _ h0
    exact nY hevc hargs hΓ hG hMG hr hle hM hf hgr hfb h1 hob
   ·exact viaM' ht
  ·exact viaM' ht
 ·-- store
  rename_i e ty x0 y0 i x sz c a hop
  have viaM' : some (nI P Γ o [.ptr i x sz c,a] fr (symH hs i)) = some t->OpPost P w (fun x w' => Good M w κ fr r.v (h.ups r.up) x w') ((execOp ev o).run P w) := by
   intro ht
   simp only [Option.some.injEq] at ht
   subst ht
   have hi : (hs i).isSome = true := by
    cases hb : hs i with
    | some _ => rfl
    | none =>
     exfalso
     unfold nI symH at h0
     rw [hop] at h0
     simp only [hb,Option.bind_none,Option.map_none] at h0
     split at h0
     ·split at h0 <;> simp [T.ofR,T.sel] at h0
     ·split at h0 <;> simp [T.ofR,T.sel] at h0
     ·simp [T.ofR,T.sel] at h0
   have hup : ∃ b,r.up = [(i,b)] := by
    unfold nI at h0
    rw [hop] at h0
    simp only at h0
    split at h0
    ·split at h0
     ·generalize symH hs i i = q at h0
      cases q with
      | none => simp [T.ofR,T.sel] at h0
      | some b =>
       simp only [Option.map_some,T.ofR,T.sel,Option.some.injEq] at h0
       rw [<- h0]
       exact ⟨_,rfl⟩
     ·simp [T.ofR,T.sel] at h0
    ·split at h0
     ·generalize symH hs i i = q at h0
      cases q with
      | none => simp [T.ofR,T.sel] at h0
      | some b =>
       simp only [Option.bind_some] at h0
       split at h0
       ·generalize Con.write b.con x sz c _ = p at h0
        cases p with
        | none => simp [T.ofR,T.sel] at h0
        | some p =>
         simp only [Option.map_some,T.ofR,T.sel,Option.some.injEq] at h0
         rw [<- h0]
         exact ⟨_,rfl⟩
       ·simp [T.ofR,T.sel] at h0
     ·simp [T.ofR,T.sel] at h0
    ·simp [T.ofR,T.sel] at h0
   obtain ⟨b1,hup⟩ := hup
   have key := nY hevc hargs hΓ hG hMG (tA hr i) (T6 hle i hi) hM hf hgr hfb h0 hob
   rw [hup] at key ⊢
   have e : (symH h i).ups [(i,b1)] = h.ups [(i,b1)] := by
    simp only [H.ups]
    unfold symH
    split
    ·rw [jB]
    ·rfl
   rw [e] at key
   exact key
  split at ht
  ·rename_i b hb
   split at ht
   ·rename_i n g hcon
    split at ht
    ·rename_i inf hinf
     split at ht
     ·rename_i hc
      obtain ⟨hsz,hcs,hsc,hwr⟩ := hc
      simp only [Option.some.injEq] at ht
      subst ht
      simp only [T.sel,Option.some.injEq] at h0
      subst h0
      rw [hop] at hargs
      obtain ⟨xv,yv,hy,h1,h2⟩ := hargs.two
      simp [Op.operands] at hy
      obtain ⟨rfl,rfl⟩ := hy
      obtain ⟨hlt,hob⟩ := zJ.1 hob
      have hlen := zA.1 hob
      obtain ⟨B,O,hρ,hv⟩ := h1
      have hb' := hle i b hb
      have h7 := tA hr i
      have hcells : a.cells = some [a] := by
       cases a <;> simp_all [AV.cells,AV.scal]
      obtain ⟨hc1,hc2⟩ := h2.cells hcells
      have hat : ∀ o,b.con.at o = (Con.rows 1 n g).at o := fun o => by rw [<- (vY b.con).1,hcon]
      have hW : WriteR b.con (.rows 1 n fun y => bif y == x then [a] else g y) x [a] := by
       refine ⟨fun j hj => ?_,?_,fun j a' hj h => ?_,fun o a' ho h => ?_⟩
       ·have : j = 0 := by simpa using hj
        subst this
        rw [hat]
        refine ⟨(g x)[0]'(by omega),?_⟩
        simp only [Con.at,Nat.mul_one,Nat.div_one,Nat.mod_one,Nat.add_zero]
        rw [if_pos hlt]
        simp
       ·rw [<- (vY b.con).2,hcon]; rfl
       ·have : j = 0 := by simpa using hj
        subst this
        simp only [Con.at,Nat.mul_one,Nat.div_one,Nat.mod_one,Nat.add_zero] at h
        rw [if_pos hlt] at h
        simpa using h
       ·rw [hat]
        simp only [Con.at,Nat.mul_one,Nat.div_one,Nat.mod_one,List.length_cons,List.length_nil] at h ho ⊢
        split at h
        ·rename_i hlt'
         rw [if_pos hlt']
         have hne : (o == x) = false := by simp; omega
         rwa [hne] at h
        ·cases h
      obtain ⟨w',hrun,hr',ho⟩ := hr.over (P := P) hb' hwr hρ hW hc1 hc2
      have hsz2 : (ev y0).cells.size = inf.size := by
       have := hc1.length
       simp at this
       omega
      have hrun' : (execOp ev o).run P w = .ok .skip w' := by
       simp only [Nat.mul_one,Nat.add_zero] at hv
       simp only [execOp,hop,hv,Instr.storeAt,Instr.sureAddr,storeVar,Sem.run_bind,Sem.run_pure,Result.andThen_ok,zO hinf]
       rw [if_neg (by simp; omega)]
       rw [hrun]
       rfl
      rw [hrun']
      exact Good.kept trivial hr' ho
     ·exact viaM' ht
    ·exact viaM' ht
   ·exact viaM' ht
  ·exact viaM' ht
 ·cases ht
end
end Go.Sym
namespace Go.Sym
structure Vw where
 σ : List (Nat × Nat)
 nil : List Nat
 fz : List Nat
 tmp : Bool
def look (i : Nat) : List (Nat × Nat)->Option Nat
 | [] => none
 | (a,b)::l => if a = i then some b else look i l
def Vw.to (V : Vw) (i : Nat) : Option Nat := if GB<=i then some i else look i V.σ
def Vw.kept (V : Vw) (j : Nat) : Bool := V.σ.any fun p => p.2 == j
def Vw.still (V : Vw) (p : Bool) (j : Nat) : Bool := V.fz.contains j || (V.tmp && !p && !V.kept j)
def C5 (nl nl' : NL) : Option (List Prop) :=
 match nl,nl' with
 | .unk,_ => some []
 | .is b,.is b' => some [b = b']
 | .is _,.unk => none
def nlS (nl nl' : NL) (n : Nat) : Option (List Prop) :=
 match nl,nl' with
 | .unk,_ => some []
 | .is b,.is b' => some [b = b']
 | .is b,.unk => some [b = false,0 < n]
def a0w (c c' : Cap) : Option (List Prop) :=
 match c,c' with
 | .un,_ => some []
 | .kn a,.kn b => some [a = b]
 | .ow,.ow => some []
 | .os,.ow => some []
 | .os,.os => some []
 | .ox,.ox => some []
 | .ox,.ow => some []
 | _,_ => none
def xO : Option (List Prop)->Prop
 | some l => zP l
 | none => False
def qW (a b : Option (List Prop)) : Option (List Prop) :=
 match a,b with
 | some x,some y => some (x++y)
 | _,_ => none
def kO (b : Bool) (r : Option (List Prop)) : Option (List Prop) := match b with | true => r | false => none
def offO (x sz c x' sz' c' : Nat) : List Prop := if sz = sz' then (if sz = 0 then [c = c'] else [x = x',c = c']) else [x * sz + c = x' * sz' + c']
theorem rW {x sz c x' sz' c' : Nat} (h : zP (offO x sz c x' sz' c')) : x * sz + c = x' * sz' + c' := by
 unfold offO at h
 split at h
 ·rename_i he
  subst he
  split at h
  ·rename_i h0; subst h0; simpa using zA.1 h
  ·obtain ⟨h1,h2⟩ := zJ.1 h
   rw [h1,zA.1 h2]
 ·exact zA.1 h
mutual
def cC (V : Vw) (h : H) : AV->AV->Option (List Prop)
 | .any,_ => some []
 | .bool b,a => match a with | .bool b' => some [b = b'] | _ => none
 | .u8 x,a => match a with | .u8 y => some [x = y] | _ => none
 | .u16 x,a => match a with | .u16 y => some [x = y] | _ => none
 | .u32 x,a => match a with | .u32 y => some [x = y] | _ => none
 | .u64 x,a => match a with | .u64 y => some [x = y] | _ => none
 | .int k n,a => match a with | .int k' m => if k = k' then some [n = m] else none | _ => none
 | .str l,a => match a with | .str l' => some [l = l'] | _ => none
 | .nilp,a => match a with | .nilp => some [] | _ => none
 | .nils,a => match a with | .nils => some [] | .slice _ _ _ _ _ (.is b) => some [b = true] | _ => none
 | .ptr i x sz c,a => match a with | .ptr j x' sz' c' => if V.to i = some j/\V.nil.contains i = false then some (offO x sz c x' sz' c') else none | _ => none
 | .slice i x sz n c nl,a =>
  match a with
  | .slice j x' sz' n' c' nl' =>
   if V.nil.contains i then none
   else if V.to i = some j then qW (qW (nlS nl nl' n') (a0w c c')) (some (offO x sz 0 x' sz' 0++(match c with | .ow => [x = 0,n = n'] | .os => [x = 0,n = n'] | .ox => [x = x',n = n'] | _ => [n = n']))) else none
  | .nils => kO (V.nil.contains i) (match x,c with | 0,.ow => qW (C5 nl (.is true)) (some [n = 0]) | _,_ => none)
  | _ => none
 | .rb p l nl,a =>
  match a with
  | .nils => qW (C5 nl (.is true)) (some [l = []])
  | .rb p' l' nl' => kO (p' || !p) (qW (C5 nl nl') (some [l = l']))
  | .slice j x sz n c nl' =>
   match sz with
   | 0 => qW (C5 nl nl') (some [n = 0,l = []])
   | _ => kO (V.still p j) (match yX h (.slice j x sz n c nl') with | some (ob,l') => qW (C5 nl nl') (some (ob++[l = l',n = l.length])) | none => none)
  | _ => none
 | .ros p sz n g nl,a =>
  match a with
  | .nils => qW (C5 nl (.is true)) (some [n = 0])
  | .ros p' sz' n' g' nl' => kO ((p' || !p) && sz == sz') (qW (C5 nl nl') (some [n = n',∀ y,y < n->zT p (g y) = true/\xO (gL V h (g y) (g' y))]))
  | .slice j x sz' n' c nl' =>
   match sz' with
   | 0 => qW (C5 nl nl') (some [n = 0,n' = 0])
   | _ => kO (V.still p j && sz == sz') (match h j with
    | some b =>
     match b.con with
     | .rows sz2 n2 g2 => kO (sz2 == sz) (qW (C5 nl nl') (some [n = n',x + n<=n2,∀ y,y < n->zT p (g y) = true/\xO (gL V h (g y) (g2 (vZ x y))),∀ y,y < n->(g2 (vZ x y)).length<=sz]))
     | .cells l => kO (decide ((x + n') * sz<=l.length)) (qW (C5 nl nl') (some [n = n',∀ y,y < n->zT p (g y) = true/\xO (gL V h (g y) (cut sz l (vZ x y)))]))
     | _ => none
    | none => none)
  | _ => none
 | .rp p cs,a =>
  match a with
  | .rp p' cs' => kO ((p' || !p) && zT p cs) (gL V h cs (cs'.take cs.length))
  | .ptr j x sz c => kO (V.still p j && zT p cs) (match h j with | some b => (match b.con.read x sz c cs.length with | some (ob,q) => qW (some ob) (gL V h cs q) | none => none) | none => none)
  | _ => none
 | .agg cs,a => match a with | .agg ds => gL V h cs ds | _ => none
 | .tup cs,a => match a with | .tup ds => gL V h cs ds | _ => none
 | .fn f x y,a => match a with | .fn f' x' y' => kO (f == f') (qW (gL V h x x') (gL V h y y')) | _ => none
 | .raw u,a => match a with | .raw u' => some [u = u'] | _ => none
 | .mp i,a => match a with | .mp j => if V.to i = some j/\V.nil.contains i = false then some [] else none | _ => none
def gL (V : Vw) (h : H) : List AV->List AV->Option (List Prop)
 | [],bs => match bs with | [] => some [] | _ => none
 | a::as,bs => match bs with | [] => none | b::bs => qW (cC V h a b) (gL V h as bs)
end
theorem yJ {a b : Option (List Prop)} (h : xO (qW a b)) : xO a/\xO b := by
 cases a <;> cases b <;> simp only [qW,xO] at h ⊢
 exact zE.1 h
theorem yR {b : Bool} {r : Option (List Prop)} (h : xO (kO b r)) : b = true/\xO r := by
 cases b
 ·exact h.elim
 ·exact ⟨rfl,h⟩
structure VwR (V : Vw) (M : Nat->Prop) (w : World) (κ : Ker) (h : H) (κ2 : Ker) : Prop where
 ρ : ∀ i,κ2.ρ i = if V.nil.contains i then some (0,0) else (V.to i).bind κ.ρ
 capn : ∀ i,V.nil.contains i = true->κ2.cap i = 0
 cap : ∀ i j,V.nil.contains i = false->V.to i = some j->κ2.cap i = κ.cap j
 m : ∀ p a x,κ.mem p a = some x->κ2.mem p a = some x
 fz : ∀ p j b B O a x,V.still p j = true->h j = some b->LiveB κ j b->κ.ρ j = some (B,O)->a.block = B->w.cell? a = some x->κ2.mem p a = some x
section
variable {V : Vw} {M : Nat->Prop} {w : World} {κ κ2 : Ker} {h : H}
theorem vM {nl nl' : NL} {a : Option Addr} (h : xO (C5 nl nl')) (ha : bJ nl' a) : bJ nl a := by
 cases nl <;> cases nl' <;> simp only [C5,xO] at h <;> first | trivial | exact h.elim | skip
 rename_i b b'
 simp only [bJ] at ha ⊢
 rw [zA.1 h]; exact ha
theorem z1j {nl nl' : NL} {a : Option Addr} {n : Nat} (h : xO (nlS nl nl' n)) (ha : bJ nl' a) (hl : 0 < n->a.isNone = false) : bJ nl a := by
 cases nl with
 | unk => trivial
 | is b =>
  cases nl' with
  | is b' =>
   simp only [nlS,xO] at h
   simp only [bJ] at ha ⊢
   rw [zA.1 h]; exact ha
  | unk =>
   simp only [nlS,xO] at h
   obtain ⟨h1,h2⟩ := zJ.1 h
   simp only [bJ]
   rw [h1,hl (zA.1 h2)]
theorem uU (vr : VwR V M w κ h κ2) {p : Bool} {j : Nat} {b : ABlk} {B O off : Nat} {xs : List Value} (hs : V.still p j = true) (hb : h j = some b) (hρ : κ.ρ j = some (B,O)) (hl : xs ≠ []->LiveB κ j b) (hx : Lies w B (O + off) xs) :
  ∀ (c : Nat) x,xs[c]? = some x->κ2.mem p ⟨B,O + off + c,none⟩ = some x := by
 intro c x hc
 refine vr.fz p j b B O _ x hs hb (hl ?_) hρ rfl (hx c x hc)
 intro he
 rw [he] at hc
 simp at hc
mutual
theorem jH (hr : HRel M w κ h) (vr : VwR V M w κ h κ2) : ∀ (a2 a : AV) (v : Value),xO (cC V h a2 a)->VRel κ a v->VRel κ2 a2 v
 | .any,_,_,_,_ => trivial
 | .bool b,a,v,ho,hv => by
  cases a <;> simp only [cC,xO] at ho <;> first | exact ho.elim | skip
  have := zA.1 ho
  subst this; exact hv
 | .u8 b,a,v,ho,hv => by
  cases a <;> simp only [cC,xO] at ho <;> first | exact ho.elim | skip
  have := zA.1 ho
  subst this; exact hv
 | .u16 b,a,v,ho,hv => by
  cases a <;> simp only [cC,xO] at ho <;> first | exact ho.elim | skip
  have := zA.1 ho
  subst this; exact hv
 | .u32 b,a,v,ho,hv => by
  cases a <;> simp only [cC,xO] at ho <;> first | exact ho.elim | skip
  have := zA.1 ho
  subst this; exact hv
 | .u64 b,a,v,ho,hv => by
  cases a <;> simp only [cC,xO] at ho <;> first | exact ho.elim | skip
  have := zA.1 ho
  subst this; exact hv
 | .int k n,a,v,ho,hv => by
  cases a <;> simp only [cC] at ho <;> first | exact ho.elim | skip
  split at ho
  ·rename_i hk
   subst hk
   have := zA.1 ho
   subst this; exact hv
  ·exact ho.elim
 | .str l,a,v,ho,hv => by
  cases a <;> simp only [cC,xO] at ho <;> first | exact ho.elim | skip
  have := zA.1 ho
  subst this; exact hv
 | .nilp,a,v,ho,hv => by
  cases a <;> simp only [cC,xO] at ho <;> first | exact ho.elim | skip
  exact hv
 | .nils,a,v,ho,hv => by
  cases a <;> simp only [cC] at ho <;> first | exact ho.elim | skip
  ·exact hv
  ·rename_i nl0
   cases nl0 with
   | unk => exact ho.elim
   | is b =>
    have := zA.1 ho
    subst this
    obtain ⟨ad,k,h1,h2,h3,h4,h5⟩ := hv
    simp only [bJ] at h3
    have hn : ad = none := by cases ad with | none => rfl | some _ => simp at h3
    subst hn
    rcases h5 with ⟨B,O,_,e⟩ | ⟨h6,h7⟩
    ·cases e
    ·subst h6 h7; exact h1
 | .ptr i x sz c,a,v,ho,hv => by
  cases a <;> simp only [cC] at ho <;> first | exact ho.elim | skip
  split at ho
  ·rename_i j x' sz' c' hc
   obtain ⟨hi,hn⟩ := hc
   have he := rW ho
   obtain ⟨B,O,h1,h2⟩ := hv
   refine ⟨B,O,?_,by rw [he]; exact h2⟩
   rw [vr.ρ,if_neg (by rw [hn]; decide),hi]
   exact h1
  ·exact ho.elim
 | .slice i x sz n c nl,a,v,ho,hv => by
  cases a <;> simp only [cC] at ho <;> first | exact ho.elim | skip
  ·replace ho := yR ho
   obtain ⟨hn,ho⟩ := ho
   split at ho
   ·obtain ⟨ho1,ho2⟩ := yJ ho
    have e1 := zA.1 ho2
    subst e1
    simp only [VRel] at hv
    exact ⟨none,0,hv,Nat.le_refl _,vM ho1 rfl,⟨rfl,(vr.capn i hn).symm,by rw [vr.ρ,if_pos hn]; rfl⟩,.inr ⟨rfl,rfl⟩⟩
   ·exact ho.elim
  rename_i j x' sz' n' c' nl'
  obtain ⟨ad,k,h1,h2,h3,h4,h5⟩ := hv
  split at ho
  ·exact ho.elim
  ·rename_i hn
   have hn : V.nil.contains i = false := by simpa using hn
   split at ho
   ·rename_i hi
    obtain ⟨ho12,ho3⟩ := yJ ho
    obtain ⟨ho1,ho2⟩ := yJ ho12
    obtain ⟨ho3,ho4⟩ := zE.1 ho3
    have he := rW ho3
    simp only [Nat.add_zero] at he
    have hnn : n = n' := by
     cases c with
     | ow => exact zA.1 (zJ.1 ho4).2
     | os => exact zA.1 (zJ.1 ho4).2
     | ox => exact zA.1 (zJ.1 ho4).2
     | _ => exact zA.1 ho4
    subst hnn
    have hρ : κ2.ρ i = κ.ρ j := by rw [vr.ρ,if_neg (by rw [hn]; decide),hi]; rfl
    refine ⟨ad,k,h1,h2,z1j ho1 h3 (fun hp => h5.elim (fun ⟨B,O,e1,e2⟩ => by rw [e2]; rfl) (fun h0 => by omega)),?_,?_⟩
    ·cases c with
     | un => trivial
     | kn q =>
      cases c' <;> simp only [a0w,xO] at ho2 <;> first | exact ho2.elim | skip
      simp only [CapR] at h4 ⊢
      rw [zA.1 ho2]; exact h4
     | ow =>
      cases c' <;> simp only [a0w,xO] at ho2 <;> first | exact ho2.elim | skip
      obtain ⟨e1,e2,e3⟩ := h4
      exact ⟨(zJ.1 ho4).1,by rw [vr.cap i j hn hi]; exact e2,by rw [hρ]; exact e3⟩
     | os =>
      cases c' <;> simp only [a0w,xO] at ho2 <;> first | exact ho2.elim | skip
      ·obtain ⟨e1,e2,e3⟩ := h4
       exact ⟨(zJ.1 ho4).1,by rw [vr.cap i j hn hi]; exact e2,by rw [hρ]; exact e3⟩
      ·obtain ⟨e1,e2,e3⟩ := h4
       exact ⟨(zJ.1 ho4).1,by rw [vr.cap i j hn hi]; exact e2,by rw [hρ]; exact e3⟩
     | ox =>
      have hxx := (zJ.1 ho4).1
      cases c' <;> simp only [a0w,xO] at ho2 <;> first | exact ho2.elim | skip
      ·obtain ⟨e1,e2,e3⟩ := h4
       exact ⟨by rw [vr.cap i j hn hi]; omega,by rw [hρ]; exact e3⟩
      ·obtain ⟨e2,e3⟩ := h4
       exact ⟨by rw [vr.cap i j hn hi]; omega,by rw [hρ]; exact e3⟩
    ·rcases h5 with ⟨B,O,e1,e2⟩ | h0
     ·exact .inl ⟨B,O,by rw [hρ]; exact e1,by rw [he]; exact e2⟩
     ·exact .inr h0
   ·exact ho.elim
 | .rb p l nl,a,v,ho,hv => by
  cases a <;> simp only [cC] at ho <;> first | exact ho.elim | skip
  ·obtain ⟨ho1,ho2⟩ := yJ ho
   have e1 := zA.1 ho2
   subst e1
   simp only [VRel] at hv
   exact ⟨none,0,hv,Nat.le_refl _,vM ho1 rfl,.inl rfl⟩
  ·rename_i j x sz n c nl'
   split at ho
   ·obtain ⟨ho1,ho2⟩ := yJ ho
    obtain ⟨e1,e2⟩ := zJ.1 ho2
    have e2 := zA.1 e2
    subst e1 e2
    obtain ⟨ad,k,h1,h2,h3,_⟩ := hv
    exact ⟨ad,k,h1,h2,vM ho1 h3,.inl rfl⟩
   ·replace ho := yR ho
    obtain ⟨hst,ho⟩ := ho
    split at ho
    ·rename_i ob l' hsb
     obtain ⟨ho1,ho2⟩ := yJ ho
     obtain ⟨hoA,ho3⟩ := zE.1 ho2
     clear ho2
     obtain ⟨e1,e2⟩ := zJ.1 ho3
     have e2 := zA.1 e2
     subst e1 e2
     have hrd := uF hr hsb hoA hv
     have hv' := hv
     obtain ⟨ad,k,h1,h2,h3,h4,h5⟩ := hv
     refine ⟨ad,k,h1,h2,vM ho1 h3,?_⟩
     obtain ⟨_,⟨s,hs,_⟩ | ⟨a',k',hs,hloc⟩⟩ := hrd
     ·rw [h1] at hs; cases hs
     ·rw [h1] at hs
      simp only [Value.slice.injEq] at hs
      obtain ⟨rfl,_,rfl⟩ := hs
      rcases hloc with h0 | ⟨B,O,rfl,hlie⟩
      ·exact .inl (List.eq_nil_of_length_eq_zero h0)
      ·by_cases hl0 : l = []
       ·exact .inl hl0
       ·right
        rcases h5 with ⟨B1,O1,e1,e2⟩ | ⟨h0,_⟩
        ·simp only [Option.some.injEq,Addr.mk.injEq] at e2
         obtain ⟨rfl,rfl,_⟩ := e2
         -- the block is live: it has bytes
         have hblk : ∃ b,h j = some b/\LiveB κ j b := by
          unfold yX at hsb
          split at hsb
          ·rename_i hh; cases hh
          ·rename_i hh; cases hh
          ·rename_i hh; cases hh
          ·rename_i i0 x0 sz0 n0 c0 nl0 hh
           simp only [AV.slice.injEq] at hh
           obtain ⟨rfl,rfl,rfl,hnn,rfl,rfl⟩ := hh
           split at hsb
           ·simp only [Option.some.injEq,Prod.mk.injEq] at hsb
            exact absurd hsb.2.symm hl0
           ·simp only [Option.bind_eq_some_iff] at hsb
            obtain ⟨b,hb,hsb⟩ := hsb
            refine ⟨b,hb,?_⟩
            split at hsb
            ·rename_i l0 hcon
             have hpos : 0 < l.length := List.length_pos_iff.2 hl0
             have : 0 < l0.length := by
              split at hsb
              ·simp only [Option.some.injEq,Prod.mk.injEq] at hsb
               rw [hsb.2]; exact hpos
              ·simp only [Option.some.injEq,Prod.mk.injEq] at hsb
               rw [kI] at hsb
               rw [<- hsb.2] at hpos
               simp at hpos
               omega
             exact .inl ⟨0,.u8 l0[0],by rw [hcon]; simp [Con.at,this]⟩
            ·rename_i l0 hcon
             split at hsb
             ·rename_i hlen
              simp only [Option.map_eq_some_iff,Prod.mk.injEq] at hsb
              obtain ⟨q,hq,_,rfl⟩ := hsb
              have hq2 := vR hq
              have hpos : 0 < q.length := List.length_pos_iff.2 hl0
              have : 0 < l0.length := by
               have h7 := congrArg List.length hq2
               simp at h7
               omega
              exact .inl ⟨0,l0[0],by rw [hcon]; simp [Con.at,this]⟩
             ·cases hsb
            ·cases hsb
           ·cases hsb
          ·rename_i hh
           exact absurd rfl (hh _ _ _ _ _ _)
         obtain ⟨b,hb,hlv⟩ := hblk
         refine ⟨_,_,rfl,fun q b' hq => ?_⟩
         have h7 := uU vr (off := x * sz) (xs := fK l) hst hb e1 (fun _ => hlv) hlie
         exact h7 q _ (aM.2 ⟨b',hq,rfl⟩)
        ·exact absurd (List.eq_nil_of_length_eq_zero h0) hl0
    ·exact ho.elim
  ·rename_i p' l' nl'
   replace ho := yR ho
   obtain ⟨hp,ho⟩ := ho
   obtain ⟨ho1,ho2⟩ := yJ ho
   have e := zA.1 ho2
   subst e
   obtain ⟨ad,k,h1,h2,h3,h4⟩ := hv
   refine ⟨ad,k,h1,h2,vM ho1 h3,?_⟩
   rcases h4 with h0 | ⟨B,O,e1,e2⟩
   ·exact .inl h0
   ·refine .inr ⟨B,O,e1,fun q b hq => ?_⟩
    have := vr.m p' _ _ (e2 q b hq)
    cases p' <;> cases p <;> simp at hp <;> first | exact this | exact κ2.sub _ _ this
 | .ros p sz n g nl,a,v,ho,hv => by
  have low : ∀ {p' : Bool} {a x},(p' || !p) = true->κ2.mem p' a = some x->κ2.mem p a = some x := by
   intro p' a x hp hx
   cases p' <;> cases p <;> simp at hp <;> first | exact hx | exact κ2.sub _ _ hx
  cases a <;> simp only [cC] at ho <;> first | exact ho.elim | skip
  ·obtain ⟨ho1,ho2⟩ := yJ ho
   have e1 := zA.1 ho2
   subst e1
   simp only [VRel] at hv
   exact ⟨none,0,hv,Nat.le_refl _,vM ho1 rfl,.inl rfl⟩
  ·rename_i j x sz' n' c nl'
   split at ho
   ·obtain ⟨ho1,ho2⟩ := yJ ho
    obtain ⟨e1,e2⟩ := zJ.1 ho2
    have e2 := zA.1 e2
    subst e1 e2
    obtain ⟨ad,k,h1,h2,h3,_⟩ := hv
    exact ⟨ad,k,h1,h2,vM ho1 h3,.inl rfl⟩
   ·replace ho := yR ho
    obtain ⟨hst,ho⟩ := ho
    simp only [Bool.and_eq_true,beq_iff_eq] at hst
    obtain ⟨hst,rfl⟩ := hst
    split at ho
    ·rename_i b hb
     obtain ⟨⟨B0,O0⟩,hρ0⟩ := hr.named hb
     split at ho
     ·rename_i sz2 n2 g2 hcon
      replace ho := yR ho
      obtain ⟨hsz,ho⟩ := ho
      have hsz : sz2 = sz := by simpa using hsz
      subst hsz
      obtain ⟨ho1,ho2⟩ := yJ ho
      obtain ⟨e1,hoA⟩ := zJ.1 ho2
      obtain ⟨hle,hoB⟩ := zJ.1 hoA
      obtain ⟨hrow,hoC⟩ := zJ.1 hoB
      have hshort := zA.1 hoC
      subst e1
      obtain ⟨ad,k,h1,h2,h3,h4,h5⟩ := hv
      refine ⟨ad,k,h1,h2,vM ho1 h3,?_⟩
      rcases h5 with ⟨B,O,e1,rfl⟩ | ⟨h0,_⟩
      ·right
       refine ⟨B,O + x * sz2,rfl,fun y hy => ?_⟩
       have hs := hshort y hy
       rw [uE] at hs
       obtain ⟨xs,k1,k2⟩ := wD (κ := κ) (w := w) (B := B) (p := O + (x + y) * sz2) (g2 (x + y)) 0 (fun c a hc => by
        have hcl : c < sz2 := by have := (List.getElem?_eq_some_iff.1 hc).1; omega
        have := (hr.cells hb e1 (off := (x + y) * sz2 + 0 + c) (a := a) (by rw [hcon]; exact fY (by omega) (by omega) (by simpa using hc))).1
        rwa [show O + (x + y) * sz2 + (0 + c) = O + ((x + y) * sz2 + 0 + c) by omega])
       obtain ⟨hd,hr2⟩ := hrow y hy
       rw [uE] at hr2
       refine ⟨hd,xs,xW hr vr (g y) (g2 (x + y)) xs hr2 k1,fun c z hz => ?_⟩
       have h7 := uU vr (off := (x + y) * sz2) (xs := xs) hst hb e1 (fun hne => by
        have hl := k1.length
        cases hgx : g2 (x + y) with
        | nil => rw [hgx] at hl; exact absurd (List.eq_nil_of_length_eq_zero hl.symm) hne
        | cons a0 as0 =>
         have h0s : 0 < sz2 := by rw [hgx] at hs; simp at hs; omega
         exact .inl ⟨_,a0,by rw [hcon]; exact fY (x := x + y) (c := 0) (j := 0) (by omega) (by omega) (by rw [hgx]; rfl)⟩) (by simpa using k2) c z hz
       rw [Nat.add_mul] at h7
       rwa [show O + x * sz2 + (y * sz2 + c) = O + (x * sz2 + y * sz2) + c by omega]
      ·exact .inl h0
     ·rename_i l hcon
      replace ho := yR ho
      obtain ⟨hle,ho⟩ := ho
      have hle : (x + n') * sz<=l.length := by simpa using hle
      obtain ⟨ho1,ho2⟩ := yJ ho
      obtain ⟨e1,hoA⟩ := zJ.1 ho2
      have hrow := zA.1 hoA
      subst e1
      obtain ⟨ad,k,h1,h2,h3,h4,h5⟩ := hv
      refine ⟨ad,k,h1,h2,vM ho1 h3,?_⟩
      rcases h5 with ⟨B,O,e1,rfl⟩ | ⟨h0,_⟩
      ·right
       refine ⟨B,O + x * sz,rfl,fun y hy => ?_⟩
       have hget : ∀ c a,(cut sz l (x + y))[c]? = some a->l[(x + y) * sz + c]? = some a := by
        intro c a hc
        unfold cut at hc
        rw [List.getElem?_take] at hc
        split at hc
        ·rw [List.getElem?_drop] at hc; exact hc
        ·cases hc
       obtain ⟨xs,k1,k2⟩ := wD (κ := κ) (w := w) (B := B) (p := O + (x + y) * sz) (cut sz l (x + y)) 0 (fun c a hc => by
        have := (hr.cells hb e1 (off := (x + y) * sz + c) (a := a) (by rw [hcon]; exact hget c a hc)).1
        rwa [show O + (x + y) * sz + (0 + c) = O + ((x + y) * sz + c) by omega])
       obtain ⟨hd,hr2⟩ := hrow y hy
       rw [uE] at hr2
       refine ⟨hd,xs,xW hr vr (g y) (cut sz l (x + y)) xs hr2 k1,fun c z hz => ?_⟩
       have h7 := uU vr (off := (x + y) * sz) (xs := xs) hst hb e1 (fun hne => by
        have hl := k1.length
        cases hgx : cut sz l (x + y) with
        | nil => rw [hgx] at hl; exact absurd (List.eq_nil_of_length_eq_zero hl.symm) hne
        | cons a0 as0 => exact .inl ⟨(x + y) * sz + 0,a0,by rw [hcon]; exact hget 0 a0 (by rw [hgx]; rfl)⟩) (by simpa using k2) c z hz
       rw [Nat.add_mul] at h7
       rwa [show O + x * sz + (y * sz + c) = O + (x * sz + y * sz) + c by omega]
      ·exact .inl h0
     ·exact ho.elim
    ·exact ho.elim
  ·rename_i p' sz' n' g' nl'
   replace ho := yR ho
   obtain ⟨hp,ho⟩ := ho
   simp only [Bool.and_eq_true,beq_iff_eq] at hp
   obtain ⟨hp,rfl⟩ := hp
   obtain ⟨ho1,ho2⟩ := yJ ho
   obtain ⟨e1,hoA⟩ := zJ.1 ho2
   have hrow := zA.1 hoA
   subst e1
   obtain ⟨ad,k,h1,h2,h3,h4⟩ := hv
   refine ⟨ad,k,h1,h2,vM ho1 h3,?_⟩
   rcases h4 with h0 | ⟨B,O,e1,e2⟩
   ·exact .inl h0
   ·refine .inr ⟨B,O,e1,fun y hy => ?_⟩
    obtain ⟨_,xs,k1,k2⟩ := e2 y hy
    exact ⟨(hrow y hy).1,xs,xW hr vr (g y) (g' y) xs (hrow y hy).2 k1,fun c z hz => low hp (vr.m p' _ _ (k2 c z hz))⟩
 | .rp p cs,a,v,ho,hv => by
  have low : ∀ {p' : Bool} {a x},(p' || !p) = true->κ2.mem p' a = some x->κ2.mem p a = some x := by
   intro p' a x hp hx
   cases p' <;> cases p <;> simp at hp <;> first | exact hx | exact κ2.sub _ _ hx
  cases a <;> simp only [cC] at ho <;> first | exact ho.elim | skip
  ·rename_i j x sz c
   replace ho := yR ho
   obtain ⟨hst,ho⟩ := ho
   rw [Bool.and_eq_true] at hst
   obtain ⟨hst,hdt⟩ := hst
   split at ho
   ·rename_i b hb
    split at ho
    ·rename_i ob q hq
     obtain ⟨ho1,ho2⟩ := yJ ho
     obtain ⟨B,O,e1,e2⟩ := hv
     obtain ⟨xs,k1,k2,k3⟩ := nJ hr hb e1 hq ho1
     refine ⟨hdt,B,O + (x * sz + c),xs,e2,xW hr vr cs q xs ho2 k1,fun d z hz => ?_⟩
     refine uU vr (off := x * sz + c) (xs := xs) hst hb e1 (fun hne => ?_) k3 d z hz
     obtain ⟨hl,hat⟩ := aL hq ho1
     cases q with
     | nil =>
      have := k1.length
      exact absurd (List.eq_nil_of_length_eq_zero this.symm) hne
     | cons a0 q => exact .inl ⟨_,a0,hat 0 a0 rfl⟩
    ·exact ho.elim
   ·exact ho.elim
  ·rename_i p' cs'
   replace ho := yR ho
   obtain ⟨hp,ho⟩ := ho
   rw [Bool.and_eq_true] at hp
   obtain ⟨hp,hdt⟩ := hp
   obtain ⟨_,B,O,xs,e1,e2,e3⟩ := hv
   refine ⟨hdt,B,O,xs.take cs.length,e1,xW hr vr cs _ _ ho (e2.take _),fun d z hz => ?_⟩
   rw [List.getElem?_take] at hz
   split at hz
   ·exact low hp (vr.m p' _ _ (e3 d z hz))
   ·cases hz
 | .agg cs,a,v,ho,hv => by
  cases a <;> simp only [cC] at ho <;> first | exact ho.elim | skip
  obtain ⟨vs,h1,h2⟩ := hv
  exact ⟨vs,h1,xW hr vr cs _ _ ho h2⟩
 | .tup cs,a,v,ho,hv => by
  cases a <;> simp only [cC] at ho <;> first | exact ho.elim | skip
  obtain ⟨vs,h1,h2⟩ := hv
  exact ⟨vs,h1,xW hr vr cs _ _ ho h2⟩
 | .fn f x y,a,v,ho,hv => by
  cases a <;> simp only [cC] at ho <;> first | exact ho.elim | skip
  replace ho := yR ho
  obtain ⟨hf,ho⟩ := ho
  have hf := by simpa using hf
  subst hf
  obtain ⟨ho1,ho2⟩ := yJ ho
  obtain ⟨vs,us,h1,h2,h3⟩ := hv
  exact ⟨vs,us,h1,xW hr vr x _ _ ho1 h2,xW hr vr y _ _ ho2 h3⟩
 | .raw u,a,v,ho,hv => by
  cases a <;> simp only [cC,xO] at ho <;> first | exact ho.elim | skip
  have := zA.1 ho
  subst this; exact hv
 | .mp i,a,v,ho,hv => by
  cases a <;> simp only [cC] at ho <;> first | exact ho.elim | skip
  split at ho
  ·rename_i j hc
   obtain ⟨hi,hn⟩ := hc
   obtain ⟨B,O,h1,h2⟩ := hv
   refine ⟨B,O,?_,h2⟩
   rw [vr.ρ,if_neg (by rw [hn]; decide),hi]
   exact h1
  ·exact ho.elim
theorem xW (hr : HRel M w κ h) (vr : VwR V M w κ h κ2) : ∀ (as bs : List AV) (vs : List Value),xO (gL V h as bs)->VRels κ bs vs->VRels κ2 as vs
 | [],bs,vs,ho,hv => by
  cases bs with
  | nil => exact hv
  | cons b bs => exact ho.elim
 | a::as,bs,vs,ho,hv => by
  cases bs with
  | nil => exact ho.elim
  | cons b bs =>
   simp only [gL] at ho
   obtain ⟨ho1,ho2⟩ := yJ ho
   obtain ⟨x,xs,h1,h2,h3⟩ := hv
   exact ⟨x,xs,h1,jH hr vr a b x ho1 h2,xW hr vr as bs xs ho2 h3⟩
end
end
end Go.Sym
namespace Go.Sym
theorem H.ups_append : ∀ (l k : List (Nat × Option ABlk)) (h : H),h.ups (l++k) = (h.ups l).ups k
 | [],_,_ => rfl
 | (i,b)::l,k,h => by simp only [List.cons_append,H.ups]; exact H.ups_append l k _
theorem H.upd_mono {hs h : H} (hle : hs.le h) (i : Nat) (b : Option ABlk) : (upd hs i b).le (upd h i b) := by
 intro j c hj
 unfold upd at hj ⊢
 split
 ·rename_i he; rw [if_pos he] at hj; exact hj
 ·rename_i he; rw [if_neg he] at hj; exact hle j c hj
theorem H.ups_mono : ∀ (l : List (Nat × Option ABlk)) {hs h : H},hs.le h->(hs.ups l).le (h.ups l)
 | [],_,_,hle => hle
 | (i,b)::l,_,_,hle => by simp only [H.ups]; exact H.ups_mono l (H.upd_mono hle i b)
theorem dX {h : H} {a : AV} {ob : List Prop} {l : List (BitVec 8)} {i x sz n : Nat} {c : Cap} {nl : NL} (ha : a = .slice i x sz n c nl) (hs : yX h a = some (ob,l)) (ho : zP ob) (hne : sz ≠ 0) : n = l.length := by
 subst ha
 unfold yX at hs
 split at hs
 ·rename_i hh; cases hh
 ·rename_i hh; cases hh
 ·rename_i hh; cases hh
 ·rename_i i0 x0 sz0 n0 c0 nl0 hh
  simp only [AV.slice.injEq] at hh
  obtain ⟨rfl,rfl,rfl,rfl,rfl,rfl⟩ := hh
  split at hs
  ·exact absurd rfl hne
  ·simp only [Option.bind_eq_some_iff] at hs
   obtain ⟨b,hb,hs⟩ := hs
   split at hs
   ·split at hs
    ·simp only [Option.some.injEq,Prod.mk.injEq] at hs
     obtain ⟨rfl,rfl⟩ := hs
     exact zA.1 ho
    ·simp only [Option.some.injEq,Prod.mk.injEq] at hs
     obtain ⟨rfl,rfl⟩ := hs
     have := zA.1 ho
     rw [kI]
     simp; omega
   ·split at hs
    ·rename_i hlen
     simp only [Option.map_eq_some_iff,Prod.mk.injEq] at hs
     obtain ⟨q,hq,_,rfl⟩ := hs
     have := congrArg List.length (vR hq)
     simp at this
     rw [List.length_take,List.length_drop] at hlen
     omega
    ·cases hs
   ·cases hs
  ·cases hs
 ·rename_i hh; exact absurd rfl (hh _ _ _ _ _ _)
theorem z7 (nl : NL) : xO (C5 nl nl) := by cases nl <;> simp [C5,xO,zP,fF]
theorem mC {a b : Option (List Prop)} (h1 : xO a) (h2 : xO b) : xO (qW a b) := by
 cases a <;> cases b <;> first | exact h1.elim | exact h2.elim | exact zE.2 ⟨h1,h2⟩
section
variable {M : Nat->Prop} {w : World} {κ : Ker} {h hs : H}
theorem HRel.frz (r : HRel M w κ h) {i : Nat} {b : ABlk} (hi : h i = some b) (hw : b.wr = true) :
  ∃ κ' : Ker,κ.le κ'/\κ'.ρ = κ.ρ/\κ'.cap = κ.cap/\HRel M w κ' (upd h i (some ⟨b.con,false,0⟩)) /\
   (∀ p B O a x,LiveB κ i b->κ.ρ i = some (B,O)->a.block = B->w.cell? a = some x->κ'.mem p a = some x)/\(∀ a y,κ'.m a = some y->κ.m a = some y \/ M a.block) := by
 have hwk : HRel M w κ (upd h i (some ⟨b.con,false,0⟩)) := r.wk (b' := ⟨b.con,false,0⟩) hi (fun _ _ h => h) rfl rfl (fun _ => rfl)
 by_cases hl : LiveB κ i b
 ·obtain ⟨B,O,h1,h2,h3⟩ := r.blk i b hi
  obtain ⟨hM,hlt,hmk,hv⟩ := h2 hw hl
  have hle : κ.le ⟨κ.ρ,κ.cap,fun a => if a.block = B then w.cell? a else κ.m a,fun a => if a.block = B then w.cell? a else κ.v a,fun a x hx => by
    split at hx
    ·rename_i he; rw [if_pos he]; exact hx
    ·rename_i he; rw [if_neg he]; exact κ.sub a x hx⟩ := by
   refine ⟨fun _ _ h => h,fun _ _ => rfl,fun a x hx => ?_,fun a x hx => ?_⟩
   ·simp only
    split
    ·exact r.mem a x (κ.sub a x hx)
    ·exact hx
   ·simp only
    split
    ·exact r.mem a x hx
    ·exact hx
  refine ⟨_,hle,rfl,rfl,?_,?_,?_⟩
  ·refine hwk.ker hle (fun a x hx => ?_) ?_
   ·simp only at hx
    split at hx
    ·exact hx
    ·exact r.mem a x hx
   ·intro j c B' O' hj hc hlj hρ a x hx
    unfold upd at hj
    split at hj
    ·simp only [Option.some.injEq] at hj
     subst hj
     cases hc
    ·rename_i hne
     simp only at hx
     split at hx
     ·rename_i he
      rw [he]
      exact Ne.symm (r.sep j i c b B' O' B O hj hi hne hc hlj hl hρ h1)
     ·obtain ⟨B2,O2,k1,k2,_⟩ := r.blk j c hj
      rw [hρ] at k1
      simp only [Option.some.injEq,Prod.mk.injEq] at k1
      obtain ⟨rfl,rfl⟩ := k1
      exact (k2 hc hlj).2.2.2 a x hx
  ·intro p B' O' a x _ hρ ha hx
   rw [h1] at hρ
   simp only [Option.some.injEq,Prod.mk.injEq] at hρ
   obtain ⟨rfl,rfl⟩ := hρ
   cases p <;> simp only [Ker.mem,if_pos ha] <;> exact hx
  ·intro a y hy
   simp only at hy
   split at hy
   ·rename_i he; right; rw [he]; exact hM
   ·exact .inl hy
 ·exact ⟨κ,κ.le_refl,rfl,rfl,hwk,fun p B O a x h => absurd h hl,fun a y h => .inl h⟩
theorem z9 (x n : Nat) : vZ x n = x + n := by unfold vZ; split <;> simp
theorem tB {p : Bool} : ∀ (n : Nat) {as : List AV},zT p as = true->zT p (as.take n) = true
 | 0,_,_ => rfl
 | n + 1,[],_ => rfl
 | n + 1,a::as,h => by
  simp only [zT,Bool.and_eq_true,List.take_succ_cons] at h ⊢
  exact ⟨h.1,tB n h.2⟩
theorem A0 {κ' : Ker} (hr : HRel M w κ h) {i : Nat} {b : ABlk} (hb : h i = some b) (k1 : κ.le κ')
  (k5 : ∀ p B O a x,LiveB κ i b->κ.ρ i = some (B,O)->a.block = B->w.cell? a = some x->κ'.mem p a = some x)
  {x sz n : Nat} {c : Cap} {nl : NL} {v : Value} {g : Nat->List AV} (hv : VRel κ (.slice i x sz n c nl) v)
  (hd : ∀ y,y < n->zT true (g y) = true) (hg : ∀ y c a,y < n->(g y)[c]? = some a->b.con.at ((x + y) * sz + c) = some a) : VRel κ' (.ros true sz n g nl) v := by
 obtain ⟨ad,k,h1,h2,h3,h4,h5⟩ := hv
 refine ⟨ad,k,h1,h2,h3,?_⟩
 rcases h5 with ⟨B,O,e1,rfl⟩ | ⟨h0,_⟩
 ·right
  refine ⟨B,O + x * sz,rfl,fun y hy => ?_⟩
  obtain ⟨xs,j1,j2⟩ := wD (κ := κ) (w := w) (B := B) (p := O + (x + y) * sz) (g y) 0 (fun c a hc => by
   have := (hr.cells hb e1 (hg y c a hy hc)).1
   rwa [show O + (x + y) * sz + (0 + c) = O + ((x + y) * sz + c) by omega])
  refine ⟨hd y hy,xs,VRels.mono k1 _ _ j1,fun c z hz => ?_⟩
  have hlive : LiveB κ i b := by
   have hl := j1.length
   cases hgx : g y with
   | nil => rw [hgx] at hl; rw [List.eq_nil_of_length_eq_zero hl.symm] at hz; simp at hz
   | cons a0 as0 => exact .inl ⟨_,a0,hg y 0 a0 hy (by rw [hgx]; rfl)⟩
  refine k5 true B O _ z hlive e1 rfl ?_
  have := j2 c z hz
  rw [Nat.add_mul] at this
  rwa [show O + x * sz + (y * sz + c) = O + (x * sz + y * sz) + 0 + c by omega]
 ·exact .inl h0
theorem eG (hle : hs.le h) (hr : HRel M w κ h) {k : Fz} {a a' : AV} {v : Value} {ob : List Prop} {i : Nat} (ht : lC hs k a = some (ob,a',i)) (ho : zP ob) (hv : VRel κ a v) :
  ∃ b,hs i = some b/\∃ κ' : Ker,κ.le κ'/\κ'.ρ = κ.ρ/\κ'.cap = κ.cap/\VRel κ' a' v/\HRel M w κ' (upd h i (some ⟨b.con,false,0⟩))/\(∀ a y,κ'.m a = some y->κ.m a = some y \/ M a.block) := by
 have key : ∀ {b : ABlk},hs i = some b->b.wr = true->a'.data true = true->xO (cC ⟨[],[],[i],false⟩ h a' a) ->
   ∃ b,hs i = some b/\∃ κ' : Ker,κ.le κ'/\κ'.ρ = κ.ρ/\κ'.cap = κ.cap/\VRel κ' a' v/\HRel M w κ' (upd h i (some ⟨b.con,false,0⟩))/\(∀ a y,κ'.m a = some y->κ.m a = some y \/ M a.block) := by
  intro b hi hw hd hl
  obtain ⟨κ',k1,k2,k3,k4,k5,k6⟩ := hr.frz (hle i b hi) hw
  refine ⟨b,hi,κ',k1,k2,k3,?_,k4,k6⟩
  let V : Vw := ⟨[],[],[i],false⟩
  let κ2 : Ker := ⟨fun j => (V.to j).bind κ.ρ,κ.cap,κ'.m,κ'.v,κ'.sub⟩
  have vr : VwR V M w κ h κ2 := by
   refine ⟨fun j => rfl,fun j hj => by simp [V] at hj,fun j j' _ hj => ?_,fun p a x hx => ?_,fun p j c B O a x hs' hj hl' hρ ha hx => ?_⟩
   ·simp only [V,Vw.to,look] at hj
    split at hj
    ·simp only [Option.some.injEq] at hj; subst hj; rfl
    ·cases hj
   ·have := k1.mem p a x hx
    cases p <;> exact this
   ·have : j = i := by
     simp only [Vw.still,V,Bool.false_and,Bool.or_false,List.contains_eq_mem,List.mem_singleton,decide_eq_true_eq] at hs'
     exact hs'
    subst this
    rw [hle j b hi] at hj
    simp only [Option.some.injEq] at hj
    subst hj
    have := k5 p B O a x hl' hρ ha hx
    cases p <;> exact this
  have := jH hr vr a' a v hl hv
  refine VRel.data (κ := κ2) (κ2 := κ') (p := true) (fun q a x _ hx => ?_) a' v hd this
  cases q <;> exact hx
 have key2 : ∀ {b : ABlk},hs i = some b->b.wr = true->(∀ κ' : Ker,κ.le κ'->(∀ p B O a x,LiveB κ i b->κ.ρ i = some (B,O)->a.block = B->w.cell? a = some x->κ'.mem p a = some x)->VRel κ' a' v) ->
   ∃ b,hs i = some b/\∃ κ' : Ker,κ.le κ'/\κ'.ρ = κ.ρ/\κ'.cap = κ.cap/\VRel κ' a' v/\HRel M w κ' (upd h i (some ⟨b.con,false,0⟩))/\(∀ a y,κ'.m a = some y->κ.m a = some y \/ M a.block) := by
  intro b hi hw hl
  obtain ⟨κ',k1,k2,k3,k4,k5,k6⟩ := hr.frz (hle i b hi) hw
  exact ⟨b,hi,κ',k1,k2,k3,hl κ' k1 k5,k4,k6⟩
 unfold lC at ht
 split at ht
 ·rename_i j x sz n c nl
  split at ht
  ·rename_i b hb
   split at ht
   ·rename_i hw
    simp only [Option.map_eq_some_iff,Prod.mk.injEq] at ht
    obtain ⟨⟨ob1,l⟩,hq,rfl,rfl,rfl⟩ := ht
    refine key hb hw rfl ?_
    have hsb : yX h (.slice j x sz n c nl) = some (ob1,l) := by
     rw [<- hq]
     unfold yX
     simp only
     rw [hb,hle j b hb]
    simp only [cC]
    split
    ·refine mC ?_ ?_
     ·cases nl <;> simp [C5,xO,zP,fF]
     ·simp only [yX,Option.some.injEq,Prod.mk.injEq] at hsb
      obtain ⟨rfl,rfl⟩ := hsb
      exact ⟨zA.1 ho,rfl,trivial⟩
    ·rename_i hne
     have hst : (⟨[],[],[j],false⟩ : Vw).still true j = true := by simp [Vw.still]
     rw [hst,hsb]
     refine mC ?_ ?_
     ·cases nl <;> simp [C5,xO,zP,fF]
     ·exact zE.2 ⟨ho,rfl,dX rfl hsb ho hne,trivial⟩
   ·cases ht
  ·cases ht
 ·rename_i s j x sz n c nl
  split at ht
  ·rename_i b hb
   split at ht
   ·rename_i hw
    split at ht
    ·rename_i hsz
     obtain ⟨rfl,hpos⟩ := hsz
     split at ht
     ·rename_i sz2 n2 g hcon
      split at ht
      ·rename_i he
       subst he
       simp only [Option.some.injEq,Prod.mk.injEq] at ht
       obtain ⟨rfl,rfl,rfl⟩ := ht
       obtain ⟨o1,o2⟩ := zJ.1 ho
       have o3 := zA.1 o2
       refine key2 hb hw fun κ' k1 k5 => A0 hr (hle j b hb) k1 k5 hv (fun y hy => (o3 y hy).1) (fun y c a hy hc => ?_)
       have hlt : c < (g (vZ x y)).length := (List.getElem?_eq_some_iff.1 hc).1
       have := (o3 y hy).2
       rw [hcon]
       have := fY (n := n2) (x := x + y) (c := c) (j := 0) (sz := sz2) (g := g) (a := a) (by omega) (by omega) (by rw [<- z9]; exact hc)
       simpa using this
      ·cases ht
     ·rename_i l hcon
      split at ht
      ·rename_i he
       obtain ⟨he1,he2⟩ := he
       simp only [Option.some.injEq,Prod.mk.injEq] at ht
       obtain ⟨rfl,rfl,rfl⟩ := ht
       refine key2 hb hw fun κ' k1 k5 => A0 hr (hle j b hb) k1 k5 hv (fun y hy => ?_) (fun y c a hy hc => ?_)
       ·unfold cut; exact tB _ (fV _ he2)
       ·unfold cut at hc
        rw [List.getElem?_take] at hc
        split at hc
        ·rw [List.getElem?_drop,z9] at hc
         rw [hcon]
         exact hc
        ·cases hc
      ·cases ht
     ·cases ht
    ·cases ht
   ·cases ht
  ·cases ht
 ·rename_i j x sz c
  split at ht
  ·rename_i b hb
   split at ht
   ·rename_i l hw hcon
    split at ht
    ·rename_i he
     obtain ⟨he1,he2⟩ := he
     simp only [Option.some.injEq,Prod.mk.injEq] at ht
     obtain ⟨rfl,rfl,rfl⟩ := ht
     refine key2 hb hw fun κ' k1 k5 => ?_
     obtain ⟨B,O,e1,rfl⟩ := hv
     obtain ⟨xs,j1,j2⟩ := wD (κ := κ) (w := w) (B := B) (p := O) l 0 (fun c a hc => by
      have := (hr.cells (hle j b hb) e1 (off := c) (a := a) (by rw [hcon]; exact hc)).1
      rwa [show O + (0 + c) = O + c by omega])
     refine ⟨he2,B,O,xs,by rw [he1]; rfl,VRels.mono k1 _ _ j1,fun c z hz => ?_⟩
     have hlive : LiveB κ j b := by
      have hl := j1.length
      cases hgx : l with
      | nil => rw [hgx] at hl; rw [List.eq_nil_of_length_eq_zero hl.symm] at hz; simp at hz
      | cons a0 as0 => exact .inl ⟨0,a0,by rw [hcon,hgx]; rfl⟩
     refine k5 true B O _ z hlive e1 rfl ?_
     have := j2 c z hz
     rwa [show O + c = O + 0 + c by omega]
    ·cases ht
   ·cases ht
  ·cases ht
 ·cases ht
mutual
theorem tC : ∀ (k : Fz) (a : AV) (κ : Ker) (h hs : H) (v : Value),hs.le h->HRel M w κ h->VRel κ a v->zP (cN hs k a).1 ->
  ∃ κ' : Ker,κ.le κ'/\κ'.ρ = κ.ρ/\κ'.cap = κ.cap/\VRel κ' (cN hs k a).2.1 v/\HRel M w κ' (h.ups (cN hs k a).2.2)/\(∀ a y,κ'.m a = some y->κ.m a = some y \/ M a.block)
 | .a ks,a,κ,h,hs,v,hle,hr,hv,ho => by
  cases a with
  | agg cs =>
   obtain ⟨vs,rfl,h2⟩ := hv
   simp only [cN] at ho ⊢
   obtain ⟨κ',k1,k2,k3,k4,k5,k6⟩ := eH ks cs κ h hs vs.toList hle hr h2 ho
   exact ⟨κ',k1,k2,k3,⟨vs,rfl,k4⟩,k5,k6⟩
  | _ => simp only [cN,lC] at ho ⊢; exact ⟨κ,κ.le_refl,rfl,rfl,hv,hr,fun _ _ h => .inl h⟩
 | .kp,a,κ,h,hs,v,hle,hr,hv,ho => by
  simp only [cN,lC] at ho ⊢; exact ⟨κ,κ.le_refl,rfl,rfl,hv,hr,fun _ _ h => .inl h⟩
 | .is c,a,κ,h,hs,v,hle,hr,hv,ho => by
  cases a with
  | bool b =>
   simp only [cN] at ho ⊢
   have e := zA.1 ho
   exact ⟨κ,κ.le_refl,rfl,rfl,by rw [<- e]; exact hv,hr,fun _ _ h => .inl h⟩
  | _ => simp only [cN,lC] at ho ⊢; exact ⟨κ,κ.le_refl,rfl,rfl,hv,hr,fun _ _ h => .inl h⟩
 | .by8,a,κ,h,hs,v,hle,hr,hv,ho => by
  simp only [cN] at ho ⊢
  cases ht : lC hs .by8 a with
  | none => rw [ht] at ho; exact ⟨κ,κ.le_refl,rfl,rfl,hv,hr,fun _ _ h => .inl h⟩
  | some q =>
   obtain ⟨ob,a',i⟩ := q
   rw [ht] at ho
   obtain ⟨b,hb,κ',k1,k2,k3,k4,k5,k6⟩ := eG hle hr ht ho hv
   exact ⟨κ',k1,k2,k3,k4,by simp only [H.ups,hb,Option.map_some]; exact k5,k6⟩
 | .r sz,a,κ,h,hs,v,hle,hr,hv,ho => by
  simp only [cN] at ho ⊢
  cases ht : lC hs (.r sz) a with
  | none => rw [ht] at ho; exact ⟨κ,κ.le_refl,rfl,rfl,hv,hr,fun _ _ h => .inl h⟩
  | some q =>
   obtain ⟨ob,a',i⟩ := q
   rw [ht] at ho
   obtain ⟨b,hb,κ',k1,k2,k3,k4,k5,k6⟩ := eG hle hr ht ho hv
   exact ⟨κ',k1,k2,k3,k4,by simp only [H.ups,hb,Option.map_some]; exact k5,k6⟩
 | .p,a,κ,h,hs,v,hle,hr,hv,ho => by
  simp only [cN] at ho ⊢
  cases ht : lC hs .p a with
  | none => rw [ht] at ho; exact ⟨κ,κ.le_refl,rfl,rfl,hv,hr,fun _ _ h => .inl h⟩
  | some q =>
   obtain ⟨ob,a',i⟩ := q
   rw [ht] at ho
   obtain ⟨b,hb,κ',k1,k2,k3,k4,k5,k6⟩ := eG hle hr ht ho hv
   exact ⟨κ',k1,k2,k3,k4,by simp only [H.ups,hb,Option.map_some]; exact k5,k6⟩
theorem eH : ∀ (ks : List Fz) (as : List AV) (κ : Ker) (h hs : H) (vs : List Value),hs.le h->HRel M w κ h->VRels κ as vs->zP (lD hs ks as).1 ->
  ∃ κ' : Ker,κ.le κ'/\κ'.ρ = κ.ρ/\κ'.cap = κ.cap/\VRels κ' (lD hs ks as).2.1 vs/\HRel M w κ' (h.ups (lD hs ks as).2.2)/\(∀ a y,κ'.m a = some y->κ.m a = some y \/ M a.block)
 | [],as,κ,h,hs,vs,hle,hr,hv,ho => by
  simp only [lD]; exact ⟨κ,κ.le_refl,rfl,rfl,hv,hr,fun _ _ h => .inl h⟩
 | k::ks,[],κ,h,hs,vs,hle,hr,hv,ho => by
  simp only [lD]; exact ⟨κ,κ.le_refl,rfl,rfl,hv,hr,fun _ _ h => .inl h⟩
 | k::ks,a::as,κ,h,hs,vs,hle,hr,hv,ho => by
  obtain ⟨x,xs,rfl,h2,h3⟩ := hv
  simp only [lD] at ho ⊢
  obtain ⟨o1,o2⟩ := zE.1 ho
  obtain ⟨κ1,k1,k2,k3,k4,k5,k6⟩ := tC k a κ h hs x hle hr h2 o1
  obtain ⟨κ2,j1,j2,j3,j4,j5,j6⟩ := eH ks as κ1 _ _ xs (H.ups_mono _ hle) k5 (VRels.mono k1 _ _ h3) o2
  refine ⟨κ2,Ker.le_trans k1 j1,j2.trans k2,j3.trans k3,⟨x,xs,rfl,VRel.mono j1 _ _ k4,j4⟩,by rw [H.ups_append]; exact j5,fun a y hy => ?_⟩
  rcases j6 a y hy with h | h
  ·exact k6 a y h
  ·exact .inr h
end
theorem y1j {hs : H} {ks : List Fz} {q : R} (h : zP (p8 hs ks q).ob) : zP q.ob/\zP (p8 hs ks q).ob := by
 refine ⟨?_,h⟩
 unfold p8 at h
 split at h
 ·exact (zE.1 h).1
 ·split at h
  ·exact (zE.1 h).1
  ·exact h
theorem Good.frz {fr : Nat} {ks : List Fz} {q : R} {x : Value} {w0 w' : World} (hle : hs.le h) (ho : zP (p8 hs ks q).ob) (g : Good M w0 κ fr q.v (h.ups q.up) x w') :
  Good M w0 κ fr (p8 hs ks q).v (h.ups (p8 hs ks q).up) x w' := by
 obtain ⟨κ1,k1,k2,k3,k4,k5,k6⟩ := g
 have fin : ∀ {v' : AV} {up : List (Nat × Option ABlk)},(∃ κ' : Ker,κ1.le κ'/\κ'.ρ = κ1.ρ/\κ'.cap = κ1.cap/\VRel κ' v' x/\HRel M w' κ' ((h.ups q.up).ups up)/\(∀ a y,κ'.m a = some y->κ1.m a = some y \/ M a.block))->Good M w0 κ fr v' (h.ups (q.up++up)) x w' := by
  rintro v' up ⟨κ',j1,j2,j3,j4,j5,j6⟩
  refine ⟨κ',Ker.le_trans k1 j1,fun i hi => by rw [j2]; exact k2 i hi,j4,by rw [H.ups_append]; exact j5,k5,fun a y hy => ?_⟩
  rcases j6 a y hy with h | h
  ·exact k6 a y h
  ·exact .inr h
 unfold p8 at ho ⊢
 split at ho
 ·rename_i vs hqv
  rw [hqv] at k3
  obtain ⟨us,rfl,h2⟩ := k3
  obtain ⟨κ',j1,j2,j3,j4,j5,j6⟩ := eH ks vs κ1 _ _ us.toList (H.ups_mono _ hle) k4 h2 (zE.1 ho).2
  exact fin ⟨κ',j1,j2,j3,⟨us,rfl,j4⟩,j5,j6⟩
 ·split at ho
  ·rename_i k
   exact fin (tC k q.v κ1 _ _ x (H.ups_mono _ hle) k4 k3 (zE.1 ho).2)
  ·exact ⟨κ1,k1,k2,k3,k4,k5,k6⟩
end
end Go.Sym
namespace Go.Sym
abbrev HT := Tr ABlk
structure AS where
 env : Env
 h : HT
 nx : Nat
def HT.f (h : HT) : H := fun i => if i < 2 ^ DH then Tr.get DH h i else none
def HT.ups (h : HT) : List (Nat × Option ABlk)->HT
 | [] => h
 | (i,b)::l => HT.ups (Tr.put DH h i b) l
theorem HT.f_put (h : HT) (i : Nat) (b : Option ABlk) (hi : i < 2 ^ DH) : HT.f (Tr.put DH h i b) = upd h.f i b := by
 funext j
 unfold HT.f upd
 by_cases hj : j < 2 ^ DH
 ·simp only [if_pos hj,Tr.get_put DH h i j b hi hj]
 ·simp only [if_neg hj]
  rw [if_neg (by intro he; subst he; exact hj hi)]
theorem HT.f_ups : ∀ (l : List (Nat × Option ABlk)) (h : HT),(∀ p ∈ l,p.1 < 2 ^ DH)->(h.ups l).f = h.f.ups l
 | [],_,_ => rfl
 | (i,b)::l,h,hl => by
  simp only [HT.ups,H.ups]
  rw [HT.f_ups l _ (fun p hp => hl p (by simp [hp])),HT.f_put h i b (hl (i,b) (by simp))]
theorem HT.put_ups : ∀ (l : List (Nat × Option ABlk)) (h : HT) (i : Nat) (b : Option ABlk),i < 2 ^ DH->(∀ p ∈ l,p.1 < 2 ^ DH/\p.1 ≠ i)->HT.ups (Tr.put DH h i b) l = Tr.put DH (h.ups l) i b
 | [],_,_,_,_,_ => rfl
 | (j,c)::l,h,i,b,hi,hl => by
  simp only [HT.ups]
  obtain ⟨h1,h2⟩ := hl (j,c) (by simp)
  rw [Tr.put_comm DH h i j b c hi h1 (Ne.symm h2)]
  exact HT.put_ups l _ i b hi (fun p hp => hl p (by simp [hp]))
theorem HT.ups_comm : ∀ (k l : List (Nat × Option ABlk)) (h : HT),(∀ p ∈ k,p.1 < 2 ^ DH)->(∀ p ∈ l,p.1 < 2 ^ DH)->(∀ p ∈ k,∀ q ∈ l,q.1 ≠ p.1)->(h.ups k).ups l = (h.ups l).ups k
 | [],_,_,_,_,_ => rfl
 | (i,b)::k,l,h,hk,hl,hd => by
  simp only [HT.ups]
  rw [HT.ups_comm k l _ (fun p hp => hk p (by simp [hp])) hl (fun p hp => hd p (by simp [hp]))]
  rw [HT.put_ups l h i b (hk (i,b) (by simp)) (fun q hq => ⟨hl q hq,hd (i,b) (by simp) q hq⟩)]
theorem Env.at_set (e : Env) {t u : Nat} (v : AV) (ht : t < 2 ^ DE) (hu : u < 2 ^ DE) : (e.set t v).at u = if u = t then v else e.at u := by
 unfold Env.at Env.set
 rw [Tr.get_put DE e t u (some v) ht hu]
 split <;> rfl
theorem Env.set_comm (e : Env) {t u : Nat} (v w : AV) (ht : t < 2 ^ DE) (hu : u < 2 ^ DE) (hne : t ≠ u) : (e.set t v).set u w = (e.set u w).set t v := by
 unfold Env.set
 rw [Tr.put_comm DE e t u (some v) (some w) ht hu hne]
def xF (e : Env) (o : Oper) : List AV := o.op.operands.toList.map (aeval e)
inductive Want where
 | yes
 | no
 | by (b : Bool)
 | skip
def wantA (ops : Array Oper) (o : Oper) (e : Env) : Want :=
 match o.guard with
 | none => .yes
 | some (j,want) =>
  match (ops[j]?).bind (·.dst) with
  | some d => match e.at d with | .bool b => (match want with | true => .by b | false => .by (!b)) | .tup [] => .skip | _ => .no
  | none => .no
def Want.is (w : Want) (b : Bool) : Prop :=
 match w with
 | .yes => b = true
 | .no => False
 | .by c => b = c
 | .skip => b = false
mutual
def AV.names : AV->List Nat
 | .ptr i _ _ _ => [i]
 | .slice i _ _ _ _ _ => [i]
 | .mp i => [i]
 | .agg cs => jS cs
 | .tup cs => jS cs
 | .fn _ a b => jS a++jS b
 | _ => []
def jS : List AV->List Nat
 | [] => []
 | a::as => a.names++jS as
end
def Con.names : Con->List Nat
 | .cells l => jS l
 | _ => []
def tD (l : List Nat) : List Nat->List Nat
 | [] => l
 | i::is => if l.contains i then tD l is else tD (i::l) is
theorem mD : ∀ (is l : List Nat),∀ i ∈ l,i ∈ tD l is
 | [],_,_,h => h
 | j::is,l,i,h => by
  simp only [tD]
  split
  ·exact mD is l i h
  ·exact mD is _ i (by simp [h])
def mE (h : H) : List Nat->List Nat
 | [] => []
 | i::is => (match h i with | some b => b.con.names | none => [])++mE h is
def tE : Nat->H->List Nat->List Nat
 | 0,_,l => l
 | k + 1,h,l => tE k h (tD l (mE h l))
theorem rX : ∀ (k : Nat) (h : H) (l : List Nat),∀ i ∈ l,i ∈ tE k h l
 | 0,_,_,_,h => h
 | k + 1,h,l,i,hi => rX k h _ i (mD _ l i hi)
theorem fP {h h' : H} : ∀ (l : List Nat),(∀ i ∈ l,h' i = h i)->mE h' l = mE h l
 | [],_ => rfl
 | i::is,hh => by simp only [mE]; rw [hh i (by simp),fP is (fun j hj => hh j (by simp [hj]))]
theorem bU : ∀ (k : Nat) (h h' : H) (l : List Nat),(∀ i ∈ tE k h l,h' i = h i)->tE k h' l = tE k h l
 | 0,_,_,_,_ => rfl
 | k + 1,h,h',l,hh => by
  simp only [tE] at hh ⊢
  have : mE h' l = mE h l := fP l (fun i hi => hh i (rX k h _ i (mD _ l i hi)))
  rw [this]
  exact bU k h h' _ hh
def rest (h : H) (l : List Nat) : H := fun i => if l.contains i then h i else none
theorem y1k (h : H) (l : List Nat) : (rest h l).le h := by
 intro i b hi
 unfold rest at hi
 split at hi
 ·exact hi
 ·cases hi
theorem tF {h h' : H} {l : List Nat} (hh : ∀ i ∈ l,h' i = h i) : rest h' l = rest h l := by
 funext i
 unfold rest
 split
 ·rename_i hc; exact hh i (by simpa using hc)
 ·rfl
def fJ (o : Oper) (args : List AV) (h : H) : List Nat :=
 match o.op with
 | .call { callee := .value _,.. } => tE 5 h (jS args)
 | .nilCheck _ => []
 | .move _ => []
 | .assign _ => []
 | .fieldAddr _ _ _ => []
 | _ => jS args
theorem tG {o : Oper} {args : List AV} {h h' : H} (hh : ∀ i ∈ fJ o args h,h' i = h i) : fJ o args h' = fJ o args h := by
 unfold fJ at *
 split
 ·rename_i hop
  simp only [hop] at hh
  exact bU _ _ _ _ hh
 all_goals rfl
abbrev FP := List Nat × List Nat
def apartN (a b : List Nat) : Bool := a.all fun i => !b.contains i
def x1j (f g : FP) : Bool := apartN f.2 g.1 && apartN g.2 f.1 && apartN f.2 g.2
def tH (draw : Bool) (o : Oper) (args : List AV) (h : H) : H := match draw with | true => rest h (fJ o args h) | false => h
def putE (n : Nat) (dst : Option Tmp) (v : AV) (e e' : Env) : Prop :=
 match dst with
 | none => e' = e
 | some d => d < n/\e' = e.set d v
def StepR (P : Program) (Γ : Ctx) (draw : Bool) (ops : Array Oper) (n i : Nat) (s s' : AS) (fp : FP) : Prop :=
  ∃ o,ops[i]? = some o /\
    (((wantA ops o s.env).is false/\putE n o.dst (.tup []) s.env s'.env/\s'.h = s.h/\s'.nx = s.nx/\fp = ([],[])) \/
     ((wantA ops o s.env).is true/\s.nx + xI * i + xI<=GB/\∃ r,(aop P Γ o (xF s.env o) (s.nx + xI * i) (tH draw o (xF s.env o) s.h.f)).sel = some r/\zP r.ob /\
       (∀ p ∈ r.up,p.1 < 2 ^ DH)/\putE n o.dst r.v s.env s'.env/\s'.h = s.h.ups r.up/\s'.nx = s.nx/\fp = (fJ o (xF s.env o) s.h.f,r.up.map (·.1))))
section
variable {P : Program} {Γ : Ctx} {ops : Array Oper} {n : Nat} {draw : Bool}
theorem tmp_lt {x : Operand} {e : Env} {d : Nat} {v : AV} (hd : d < 2 ^ DE) (hx : ∀ t,x = .tmp t->t ≠ d/\t < 2 ^ DE) : aeval (e.set d v) x = aeval e x := by
 cases x with
 | tmp t =>
  obtain ⟨h1,h2⟩ := hx t rfl
  simp only [aeval]
  rw [Env.at_set e v hd h2,if_neg h1]
 | _ => rfl
def uI (ops : Array Oper) : Bool :=
 ops.toList.all fun o => (o.op.operands.toList.all fun | .tmp t => decide (t < 2 ^ DE) | _ => true) && (match o.dst with | some d => decide (d < 2 ^ DE) | none => true)
theorem jT {i : Nat} {o : Oper} (h : uI ops = true) (hi : ops[i]? = some o) : (∀ t,Operand.tmp t ∈ o.op.operands.toList->t < 2 ^ DE)/\(∀ d,o.dst = some d->d < 2 ^ DE) := by
 unfold uI at h
 rw [List.all_eq_true] at h
 have hm : o ∈ ops.toList := by
  rw [Array.mem_toList_iff]; exact Array.mem_of_getElem? hi
 have := h o hm
 simp only [Bool.and_eq_true,List.all_eq_true] at this
 refine ⟨fun t ht => by simpa using this.1 _ ht,fun d hd => ?_⟩
 have h2 := this.2
 rw [hd] at h2
 simpa using h2
theorem tI {o : Oper} {e : Env} {d : Nat} {v : AV} (hd : d < 2 ^ DE) (ht : ∀ t,Operand.tmp t ∈ o.op.operands.toList->t < 2 ^ DE) (h : d ∉ o.looksAt ops) : xF (e.set d v) o = xF e o := by
 unfold xF
 apply List.map_congr_left
 intro x hx
 apply tmp_lt hd
 rintro t rfl
 refine ⟨?_,ht t hx⟩
 intro he
 subst he
 apply h
 unfold Oper.looksAt
 rw [List.mem_append]
 left
 rw [List.mem_filterMap]
 exact ⟨_,hx,rfl⟩
theorem rY {o : Oper} {e : Env} {d : Nat} {v : AV} (hs : uI ops = true) (hd : d < 2 ^ DE) (h : d ∉ o.looksAt ops) : wantA ops o (e.set d v) = wantA ops o e := by
 unfold wantA
 split
 ·rfl
 ·rename_i j want hg
  split
  ·rename_i d2 hd2
   have hne : d2 ≠ d := by
    intro he
    subst he
    apply h
    unfold Oper.looksAt
    rw [List.mem_append]
    right
    simp [hg,hd2]
   have hlt : d2 < 2 ^ DE := by
    simp only [Option.bind_eq_some_iff] at hd2
    obtain ⟨o2,ho2,hdst⟩ := hd2
    exact (jT hs ho2).2 d2 hdst
   rw [Env.at_set e v hd hlt,if_neg hne]
  ·rfl
theorem apartN_spec {a b : List Nat} (h : apartN a b = true) : ∀ i ∈ a,i ∉ b := by
 intro i hi hb
 unfold apartN at h
 rw [List.all_eq_true] at h
 have := h i hi
 simp at this
 exact this hb
theorem H.ups_out : ∀ (l : List (Nat × Option ABlk)) (h : H) (i : Nat),i ∉ l.map (·.1)->(h.ups l) i = h i
 | [],_,_,_ => rfl
 | (j,b)::l,h,i,hi => by
  simp only [H.ups]
  rw [H.ups_out l _ i (by intro hm; exact hi (by simp [hm]))]
  unfold upd
  rw [if_neg (by intro he; subst he; exact hi (by simp))]
theorem a0j {i j : Nat} {oi oj : Oper} {s s1 s2 : AS} {fi fj : FP} (hs : uI ops = true) (hij : i ≠ j) (hoi : ops[i]? = some oi) (hoj : ops[j]? = some oj) (hap : oi.apart ops oj = true) (hin : x1j fi fj = true)
  (h1 : StepR P Γ true ops n i s s1 fi) (h2 : StepR P Γ true ops n j s1 s2 fj) : ∃ s1',StepR P Γ true ops n j s s1' fj/\StepR P Γ true ops n i s1' s2 fi := by
 obtain ⟨p1,p2,p3⟩ := Oper.apart_spec hap
 obtain ⟨ti,di⟩ := jT hs hoi
 obtain ⟨tj,dj⟩ := jT hs hoj
 simp only [x1j,Bool.and_eq_true] at hin
 obtain ⟨⟨q1,q2⟩,q3⟩ := hin
 -- what j sees of the slots is as i left it, and the other way round
 have keepJ : ∀ {e e1 : Env} {v : AV},putE n oi.dst v e e1->wantA ops oj e1 = wantA ops oj e/\xF e1 oj = xF e oj := by
  intro e e1 v hp
  unfold putE at hp
  split at hp
  ·subst hp; exact ⟨rfl,rfl⟩
  ·rename_i d hd
   obtain ⟨_,rfl⟩ := hp
   exact ⟨rY hs (di d hd) (p1 d hd),tI (di d hd) tj (p1 d hd)⟩
 have keepI : ∀ {e e1 : Env} {v : AV},putE n oj.dst v e e1->wantA ops oi e1 = wantA ops oi e/\xF e1 oi = xF e oi := by
  intro e e1 v hp
  unfold putE at hp
  split at hp
  ·subst hp; exact ⟨rfl,rfl⟩
  ·rename_i d hd
   obtain ⟨_,rfl⟩ := hp
   exact ⟨rY hs (dj d hd) (p3 d hd),tI (dj d hd) ti (p3 d hd)⟩
 have env : ∀ {e e1 e2 : Env} {v u : AV},putE n oi.dst v e e1->putE n oj.dst u e1 e2->∃ e1',putE n oj.dst u e e1'/\putE n oi.dst v e1' e2 := by
  intro e e1 e2 v u h h'
  cases hdi : oi.dst with
  | none =>
   rw [hdi] at h
   simp only [putE] at h
   subst h
   exact ⟨e2,h',rfl⟩
  | some d =>
   cases hdj : oj.dst with
   | none =>
    rw [hdj] at h'
    simp only [putE] at h'
    subst h'
    rw [hdi] at h
    exact ⟨e,rfl,h⟩
   | some d2 =>
    rw [hdi] at h
    rw [hdj] at h'
    simp only [putE] at h h' ⊢
    obtain ⟨k1,rfl⟩ := h
    obtain ⟨k2,rfl⟩ := h'
    have hne : d ≠ d2 := by
     intro he
     exact p2 d hdi (by rw [hdj,he])
    exact ⟨e.set d2 u,⟨k2,rfl⟩,k1,Env.set_comm e v u (di d hdi) (dj d2 hdj) hne⟩
 obtain ⟨oi',hoi',h1⟩ := h1
 rw [hoi] at hoi'
 simp only [Option.some.injEq] at hoi'
 subst hoi'
 obtain ⟨oj',hoj',h2⟩ := h2
 rw [hoj] at hoj'
 simp only [Option.some.injEq] at hoj'
 subst hoj'
 rcases h1 with ⟨w1,e1,m1,x1,rfl⟩ | ⟨w1,b1,r1,a1,o1,u1,e1,m1,x1,rfl⟩
 ·rcases h2 with ⟨w2,e2,m2,x2,rfl⟩ | ⟨w2,b2,r2,a2,o2,u2,e2,m2,x2,rfl⟩
  ·obtain ⟨e',k1,k2⟩ := env e1 e2
   obtain ⟨k3,k4⟩ := keepJ e1
   obtain ⟨k5,k6⟩ := keepI k1
   exact ⟨⟨e',s.h,s.nx⟩,⟨oj,hoj,.inl ⟨by rw [<- k3]; exact w2,k1,rfl,rfl,rfl⟩⟩,⟨oi,hoi,.inl ⟨by rw [k5]; exact w1,k2,by rw [m2,m1],by rw [x2,x1],rfl⟩⟩⟩
  ·obtain ⟨e',k1,k2⟩ := env e1 e2
   obtain ⟨k3,k4⟩ := keepJ e1
   obtain ⟨k5,k6⟩ := keepI k1
   rw [k4,m1,x1] at a2
   refine ⟨⟨e',s.h.ups r2.up,s.nx⟩,⟨oj,hoj,.inr ⟨by rw [<- k3]; exact w2,by rw [<- x1]; exact b2,r2,a2,o2,u2,k1,rfl,rfl,by rw [k4,m1]⟩⟩,⟨oi,hoi,.inl ⟨by rw [k5]; exact w1,k2,by rw [m2,m1],by rw [x2,x1],rfl⟩⟩⟩
 ·rcases h2 with ⟨w2,e2,m2,x2,rfl⟩ | ⟨w2,b2,r2,a2,o2,u2,e2,m2,x2,rfl⟩
  ·obtain ⟨e',k1,k2⟩ := env e1 e2
   obtain ⟨k3,k4⟩ := keepJ e1
   obtain ⟨k5,k6⟩ := keepI k1
   refine ⟨⟨e',s.h,s.nx⟩,⟨oj,hoj,.inl ⟨by rw [<- k3]; exact w2,k1,rfl,rfl,rfl⟩⟩,⟨oi,hoi,.inr ⟨by rw [k5]; exact w1,b1,r1,by rw [k6]; exact a1,o1,u1,k2,by rw [m2,m1],by rw [x2,x1],by rw [k6]⟩⟩⟩
  ·obtain ⟨e',k1,k2⟩ := env e1 e2
   obtain ⟨k3,k4⟩ := keepJ e1
   obtain ⟨k5,k6⟩ := keepI k1
   have hf1 : s1.h.f = s.h.f.ups r1.up := by rw [m1]; exact HT.f_ups _ _ u1
   have hf2 : (s.h.ups r2.up).f = s.h.f.ups r2.up := HT.f_ups _ _ u2
   -- j sees the same
   have same : ∀ k ∈ fJ oj (xF s1.env oj) s1.h.f,s.h.f k = s1.h.f k := by
    intro k hk
    rw [hf1,H.ups_out]
    intro hm
    exact apartN_spec q1 k hm hk
   have hrd := tG same
   have hrest : rest s.h.f (fJ oj (xF s1.env oj) s1.h.f) = rest s1.h.f (fJ oj (xF s1.env oj) s1.h.f) := tF same
   simp only [tH] at a1 a2
   have a2' : (aop P Γ oj (xF s.env oj) (s.nx + xI * j) (rest s.h.f (fJ oj (xF s.env oj) s.h.f))).sel = some r2 := by
    rw [<- k4,hrd,hrest,<- x1]
    exact a2
   -- so does i
   have same2 : ∀ k ∈ fJ oi (xF s.env oi) s.h.f,(s.h.ups r2.up).f k = s.h.f k := by
    intro k hk
    rw [hf2,H.ups_out]
    intro hm
    exact apartN_spec q2 k hm hk
   have hrd2 := tG same2
   have hrest2 := tF same2
   have a1' : (aop P Γ oi (xF e' oi) (s.nx + xI * i) (rest (s.h.ups r2.up).f (fJ oi (xF e' oi) (s.h.ups r2.up).f))).sel = some r1 := by
    rw [k6,hrd2,hrest2]
    exact a1
   refine ⟨⟨e',s.h.ups r2.up,s.nx⟩,⟨oj,hoj,.inr ⟨by rw [<- k3]; exact w2,by rw [<- x1]; exact b2,r2,a2',o2,u2,k1,rfl,rfl,?_⟩⟩,⟨oi,hoi,.inr ⟨by rw [k5]; exact w1,b1,r1,a1',o1,u1,k2,?_,by rw [x2,x1],?_⟩⟩⟩
   ·rw [<- k4,hrd]
   ·rw [m2,m1]
    apply HT.ups_comm _ _ _ u1 u2
    intro p hp q hq he
    exact apartN_spec q3 p.1 (List.mem_map_of_mem hp) (by rw [<- he]; exact List.mem_map_of_mem hq)
   ·simp only [k6,hrd2]
end
end Go.Sym
namespace Go.Sym
def gW : List Oper->List Nat->List Nat
 | [],acc => acc
 | o::rest,acc => gW rest (acc++[o.after.foldl (fun s e => if Region.binds .any e then s ||| 2 ^ e.on ||| acc.getD e.on 0 else s) 0])
def uJ (ops : Array Oper) : List Nat := gW ops.toList []
def lO (ops : Array Oper) : Bool :=
 ops.toList.zipIdx.all fun (o,k) => o.after.all fun e => !Region.binds .any e || e.on < k
section
variable {P : Program} {Γ : Ctx} {ops : Array Oper} {n : Nat} {draw : Bool}
theorem z0q (m : Nat->Nat) : ∀ (l : List Edge) (s0 k : Nat),(l.foldl (fun s e => if Region.binds .any e then s ||| 2 ^ e.on ||| m e.on else s) s0).testBit k = true ->
  s0.testBit k = true \/ ∃ e ∈ l,Region.binds .any e = true/\(k = e.on \/ (m e.on).testBit k = true) := by
 intro l
 induction l with
 | nil => intro s0 k h; exact .inl h
 | cons e l ih =>
  intro s0 k h
  simp only [List.foldl_cons] at h
  rcases ih _ _ h with h1 | ⟨e',he',h1⟩
  ·split at h1
   ·rename_i hb
    rw [Nat.testBit_or,Nat.testBit_or] at h1
    simp only [Bool.or_eq_true] at h1
    rcases h1 with (h1 | h1) | h1
    ·exact .inl h1
    ·rw [Nat.testBit_two_pow] at h1
     exact .inr ⟨e,by simp,hb,.inl (by simpa using h1 : e.on = k).symm⟩
    ·exact .inr ⟨e,by simp,hb,.inr h1⟩
   ·exact .inl h1
  ·exact .inr ⟨e',by simp [he'],h1⟩
def MInv (ops : Array Oper) (acc : List Nat) : Prop :=
 ∀ j,j < acc.length->∀ k,(acc.getD j 0).testBit k = true->∃ o,ops[j]? = some o/\∃ e ∈ o.after.toList,Region.binds .any e = true/\(k = e.on \/ (e.on < j/\(acc.getD e.on 0).testBit k = true))
theorem sJ : ∀ (l : List Oper) (acc : List Nat),MInv ops acc->(∀ i,l[i]? = ops[acc.length + i]?)->MInv ops (gW l acc) := by
 intro l
 induction l with
 | nil => intro acc h _; exact h
 | cons o rest ih =>
  intro acc h hl
  simp only [gW]
  refine ih _ ?_ ?_
  ·intro j hj k hk
   simp only [List.length_append,List.length_singleton] at hj
   by_cases hlt : j < acc.length
   ·have e1 : (acc++[o.after.foldl (fun s e => if Region.binds .any e then s ||| 2 ^ e.on ||| acc.getD e.on 0 else s) 0]).getD j 0 = acc.getD j 0 := by
     simp [List.getD,List.getElem?_append_left hlt]
    rw [e1] at hk
    obtain ⟨o',ho',e,he,hb,hor⟩ := h j hlt k hk
    refine ⟨o',ho',e,he,hb,?_⟩
    rcases hor with h1 | ⟨h1,h2⟩
    ·exact .inl h1
    ·refine .inr ⟨h1,?_⟩
     simp only [List.getD] at h2 ⊢
     rw [List.getElem?_append_left (by omega)]
     exact h2
   ·obtain rfl : j = acc.length := by omega
    have e1 : (acc++[o.after.foldl (fun s e => if Region.binds .any e then s ||| 2 ^ e.on ||| acc.getD e.on 0 else s) 0]).getD acc.length 0 = o.after.foldl (fun s e => if Region.binds .any e then s ||| 2 ^ e.on ||| acc.getD e.on 0 else s) 0 := by
     simp [List.getD]
    rw [e1,<- Array.foldl_toList] at hk
    rcases z0q (fun i => acc.getD i 0) _ _ _ hk with h1 | ⟨e,he,hb,hor⟩
    ·simp at h1
    ·refine ⟨o,by simpa using (hl 0).symm,e,he,hb,?_⟩
     rcases hor with h1 | h1
     ·exact .inl h1
     ·by_cases hlt2 : e.on < acc.length
      ·refine .inr ⟨hlt2,?_⟩
       simp only [List.getD] at h1 ⊢
       rw [List.getElem?_append_left hlt2]
       exact h1
      ·simp [List.getD,List.getElem?_eq_none (Nat.le_of_not_lt hlt2)] at h1
  ·intro i
   have := hl (i + 1)
   simp only [List.getElem?_cons_succ] at this
   rw [this]
   simp only [List.length_append,List.length_singleton]
   congr 1
   omega
theorem y0q : MInv ops (uJ ops) := sJ _ _ (fun j hj => by simp at hj) (fun i => by simp)
def Closed (ops : Array Oper) (listed : Array Bool) : Prop :=
 ∀ j o,ops[j]? = some o->listed.getD j false = true->∀ e ∈ o.after.toList,Region.binds .any e = true->listed.getD e.on false = true
theorem A5 {listed : Array Bool} (hc : Closed ops listed) : ∀ (j : Nat) (o : Oper),ops[j]? = some o->(∀ e ∈ o.after.toList,Region.binds .any e = true->listed.getD e.on false = true) ->
  ∀ k,((uJ ops).getD j 0).testBit k = true->listed.getD k false = true := by
 intro j
 induction j using Nat.strongRecOn with
 | _ j ih =>
  intro o ho hall k hk
  by_cases hlt : j < (uJ ops).length
  ·obtain ⟨o',ho',e,he,hb,hor⟩ := y0q j hlt k hk
   rw [ho] at ho'
   simp only [Option.some.injEq] at ho'
   subst ho'
   have hl := hall e he hb
   rcases hor with h1 | ⟨h1,h2⟩
   ·rw [h1]; exact hl
   ·cases hoe : ops[e.on]? with
    | none =>
     exfalso
     have hlt2 : e.on < ops.size := Nat.lt_trans h1 (Array.getElem?_eq_some_iff.1 ho).1
     simp [hlt2] at hoe
    | some oe => exact ih e.on h1 oe hoe (hc e.on oe hoe hl) k h2
  ·simp [List.getD,List.getElem?_eq_none (Nat.le_of_not_lt hlt)] at hk
theorem Closed.set {listed : Array Bool} (hc : Closed ops listed) {j : Nat} (hr : j ∈ Region.ready .any ops listed) : Closed ops (listed.setIfInBounds j true) := by
 obtain ⟨h0,o,ho,hall⟩ := mem_ready.1 hr
 intro k ok hk hl e he hb
 refine getD_set_true ?_
 by_cases hkj : j = k
 ·subst hkj
  rw [ho] at hk
  simp only [Option.some.injEq] at hk
  subst hk
  exact hall e (by simpa using he) hb
 ·rw [getD_set_ne false hkj] at hl
  exact hc k ok hk hl e he hb
inductive LexRun (P : Program) (Γ : Ctx) (draw : Bool) (ops : Array Oper) (n : Nat) : List (Nat × FP)->AS->AS->Prop where
 | nil (s : AS) : LexRun P Γ draw ops n [] s s
 | cons {i : Nat} {fp : FP} {l : List (Nat × FP)} {s s1 s2 : AS} : StepR P Γ draw ops n i s s1 fp->LexRun P Γ draw ops n l s1 s2->LexRun P Γ draw ops n ((i,fp)::l) s s2
def free (ops : Array Oper) (a b : Nat × FP) : Bool :=
 a.1 != b.1 && (match ops[a.1]?,ops[b.1]? with | some oa,some ob => oa.apart ops ob | _,_ => false) && x1j a.2 b.2
theorem rZ : ∀ (l1 : List (Nat × FP)) {i : Nat} {fi : FP} {l2 : List (Nat × FP)} {s s2 : AS},uI ops = true->(∀ a ∈ l1,free ops a (i,fi) = true)->LexRun P Γ true ops n (l1++(i,fi)::l2) s s2 ->
  ∃ s1,StepR P Γ true ops n i s s1 fi/\LexRun P Γ true ops n (l1++l2) s1 s2
 | [],i,fi,l2,s,s2,_,_,h => by
  cases h with
  | cons h1 h2 => exact ⟨_,h1,h2⟩
 | (k,fk)::l1,i,fi,l2,s,s2,hs,hf,h => by
  cases h with
  | cons h1 h2 =>
   rename_i sk
   obtain ⟨s1,h3,h4⟩ := rZ l1 hs (fun a ha => hf a (by simp [ha])) h2
   have hk := hf (k,fk) (by simp)
   simp only [free,Bool.and_eq_true,bne_iff_ne,ne_eq] at hk
   obtain ⟨⟨hne,hap⟩,hin⟩ := hk
   split at hap
   ·rename_i oa ob ha hb
    obtain ⟨s1',k1,k2⟩ := a0j hs hne ha hb hap hin h1 h3
    exact ⟨s1',k1,.cons k2 h4⟩
   ·cases hap
def anyR (P : Program) (Γ : Ctx) (ops : Array Oper) (n : Nat) (Q : AS->Prop) : Nat->Array Bool->AS->Prop
 | 0,listed,s => Region.ready .any ops listed = []/\Q s
 | k + 1,listed,s =>
  (Region.ready .any ops listed = []->Q s) /\
  ∀ i ∈ Region.ready .any ops listed,∃ s' fp,StepR P Γ true ops n i s s' fp/\anyR P Γ ops n Q k (listed.setIfInBounds i true) s'
theorem I9 {Q : AS->Prop} (hs : uI ops = true) (hord : lO ops = true) : ∀ (m : Nat) (l : List (Nat × FP)),l.length = m->∀ (listed : Array Bool) (s s2 : AS),listed.size = ops.size->Closed ops listed ->
   (∀ i,i < ops.size->(listed.getD i false = false ↔ ∃ fp,(i,fp) ∈ l))->(∀ a ∈ l,a.1 < ops.size)->(l.Pairwise fun a b => a.1 < b.1) ->
   (l.Pairwise fun a b => ((uJ ops).getD b.1 0).testBit a.1 = true \/ free ops a b = true)->LexRun P Γ true ops n l s s2->Q s2->anyR P Γ ops n Q m listed s := by
 intro m
 induction m with
 | zero =>
  intro l hm listed s s2 hsz hcl hun hin hnd hpw hrun hq
  have : l = [] := List.eq_nil_of_length_eq_zero hm
  subst this
  cases hrun
  refine ⟨?_,hq⟩
  apply List.eq_nil_iff_forall_not_mem.2
  intro j hj
  obtain ⟨hunj,o,ho,_⟩ := mem_ready.1 hj
  have hlt : j < ops.size := (Array.getElem?_eq_some_iff.1 ho).1
  have h1 : listed.getD j false = false := by
   simp [Array.getD,hsz ▸ hlt] at hunj ⊢
   exact hunj
  obtain ⟨fp,hfp⟩ := (hun j hlt).1 h1
  simp at hfp
 | succ m ih =>
  intro l hm listed s s2 hsz hcl hun hin hnd hpw hrun hq
  refine ⟨?_,?_⟩
  ·intro hr
   exfalso
   cases l with
   | nil => simp at hm
   | cons a l =>
    have hlt := hin a (by simp)
    have hmem : a.1 ∈ Region.ready .any ops listed := by
     rw [mem_ready]
     refine ⟨?_,ops[a.1],Array.getElem?_eq_getElem hlt,?_⟩
     ·have h1 := (hun a.1 hlt).2 ⟨a.2,by simp⟩
      simp [Array.getD,hsz ▸ hlt] at h1 ⊢
      exact h1
     ·intro e he hb
      have hlt2 : e.on < a.1 := by
       unfold lO at hord
       rw [List.all_eq_true] at hord
       have := hord (ops[a.1],a.1) (by rw [List.mem_zipIdx_iff_getElem?]; simp [hlt])
       simp only [Array.all_eq_true'] at this
       have h2 := this e he
       simp [hb] at h2
       exact h2
      cases hl : listed.getD e.on false with
      | true => rfl
      | false =>
       obtain ⟨fp,hfp⟩ := (hun e.on (by omega)).1 hl
       rcases List.mem_cons.1 hfp with h | h
       ·rw [<- h] at hlt2; simp at hlt2
       ·have := (List.pairwise_cons.1 hnd).1 _ h
        simp at this
        omega
    rw [hr] at hmem
    cases hmem
  ·intro i hi
   obtain ⟨hunj,o,ho,hall⟩ := mem_ready.1 hi
   have hlt : i < ops.size := (Array.getElem?_eq_some_iff.1 ho).1
   have h1 : listed.getD i false = false := by
    simp [Array.getD,hsz ▸ hlt] at hunj ⊢
    exact hunj
   obtain ⟨fi,hfi⟩ := (hun i hlt).1 h1
   obtain ⟨l1,l2,rfl⟩ := List.append_of_mem hfi
   have hfree : ∀ a ∈ l1,free ops a (i,fi) = true := by
    intro a ha
    have := (List.pairwise_append.1 hpw).2.2 a ha (i,fi) (by simp)
    rcases this with h | h
    ·have h2 := A5 hcl i o ho (fun e he hb => hall e (by simpa using he) hb) a.1 h
     have h3 := (hun a.1 (hin a (by simp [ha]))).2 ⟨a.2,by simp [ha]⟩
     rw [h3] at h2
     cases h2
    ·exact h
   obtain ⟨s1,k1,k2⟩ := rZ l1 hs hfree hrun
   refine ⟨s1,fi,k1,ih (l1++l2) (by simp at hm ⊢; omega) _ s1 s2 (by simpa using hsz) (hcl.set hi) ?_ ?_ ?_ ?_ k2 hq⟩
   ·intro j hj
    by_cases hji : i = j
    ·subst hji
     have : (listed.setIfInBounds i true).getD i false = true := by simp [Array.getD,hsz ▸ hj]
     rw [this]
     constructor
     ·intro h; cases h
     ·rintro ⟨fp,hfp⟩
      exfalso
      rw [List.mem_append] at hfp
      rcases hfp with h | h
      ·have := (List.pairwise_append.1 hnd).2.2 _ h (i,fi) (by simp)
       simp at this
      ·have := (List.pairwise_cons.1 (List.pairwise_append.1 hnd).2.1).1 _ h
       simp at this
    ·rw [getD_set_ne false hji,hun j hj]
     constructor
     ·rintro ⟨fp,hfp⟩
      refine ⟨fp,?_⟩
      simp only [List.mem_append,List.mem_cons] at hfp ⊢
      rcases hfp with h | h | h
      ·exact .inl h
      ·simp only [Prod.mk.injEq] at h; exact absurd h.1.symm hji
      ·exact .inr h
     ·rintro ⟨fp,hfp⟩
      refine ⟨fp,?_⟩
      simp only [List.mem_append,List.mem_cons] at hfp ⊢
      rcases hfp with h | h
      ·exact .inl h
      ·exact .inr (.inr h)
   ·intro a ha
    exact hin a (by simp only [List.mem_append,List.mem_cons] at ha ⊢; rcases ha with h | h; exact .inl h; exact .inr (.inr h))
   ·rw [List.pairwise_append] at hnd ⊢
    exact ⟨hnd.1,(List.pairwise_cons.1 hnd.2.1).2,fun a ha b hb => hnd.2.2 a ha b (by simp [hb])⟩
   ·rw [List.pairwise_append] at hpw ⊢
    exact ⟨hpw.1,(List.pairwise_cons.1 hpw.2.1).2,fun a ha b hb => hpw.2.2 a ha b (by simp [hb])⟩
def lP (b : Bool) (X Y : Prop) : Prop := match b with | true => X | false => Y
theorem J0 {X Y : Prop} (h : lP true X Y) : X := h
theorem J1 {X Y : Prop} (h : lP false X Y) : Y := h
def chk (b : Bool) (X : Prop) : Prop := match b with | true => X | false => False
theorem xR {b : Bool} {X : Prop} : chk b X ↔ b = true/\X := by cases b <;> simp [chk]
def T.toP (K : R->Prop) : T->Prop
 | .no => False
 | .ok r => K r
 | .br b x y => lP b (x.toP K) (y.toP K)
theorem T.toP_sel {K : R->Prop} : ∀ (t : T),t.toP K->∃ r,t.sel = some r/\K r
 | .no,h => h.elim
 | .ok r,h => ⟨r,rfl,h⟩
 | .br b x y,h => by
  cases b
  ·exact T.toP_sel y h
  ·exact T.toP_sel x h
def lQ {α : Type} (a : AV) (k : AV->α) : α :=
 match a with
 | .any => k .any
 | .bool b => k (.bool b)
 | .u8 x => k (.u8 x)
 | .u16 x => k (.u16 x)
 | .u32 x => k (.u32 x)
 | .u64 x => k (.u64 x)
 | .int kk n => k (.int kk n)
 | .str s => k (.str s)
 | .nilp => k .nilp
 | .nils => k .nils
 | .ptr i x sz c => k (.ptr i x sz c)
 | .slice i x sz n c nl => k (.slice i x sz n c nl)
 | .rb p l nl => k (.rb p l nl)
 | .ros p sz n g nl => k (.ros p sz n g nl)
 | .rp p cs => k (.rp p cs)
 | .agg cs => k (.agg cs)
 | .tup vs => k (.tup vs)
 | .fn f a b => k (.fn f a b)
 | .raw v => k (.raw v)
 | .mp i => k (.mp i)
theorem tJ {α : Type} (a : AV) (k : AV->α) : lQ a k = k a := by cases a <;> rfl
def qJ {α : Type} : List AV->(List AV->α)->α
 | [],k => k []
 | a::as,k => lQ a fun a' => qJ as fun as' => k (a'::as')
theorem eI {α : Type} : ∀ (l : List AV) (k : List AV->α),qJ l k = k l
 | [],_ => rfl
 | a::as,k => by simp only [qJ]; rw [tJ,eI]
def aQ {α : Type} (a : AV) (k : AV->α) : α :=
 match a with
 | .agg cs => qJ cs fun cs' => k (.agg cs')
 | .rp p cs => qJ cs fun cs' => k (.rp p cs')
 | .fn f x y => qJ x fun x' => qJ y fun y' => k (.fn f x' y')
 | a => lQ a k
theorem tK {α : Type} (a : AV) (k : AV->α) : aQ a k = k a := by cases a <;> simp only [aQ,eI,tJ]
def gX {α : Type} : List AV->(List AV->α)->α
 | [],k => k []
 | a::as,k => aQ a fun a' => gX as fun as' => k (a'::as')
theorem jU {α : Type} : ∀ (l : List AV) (k : List AV->α),gX l k = k l
 | [],_ => rfl
 | a::as,k => by simp only [gX]; rw [tK,jU]
def qX {α : Type} (a : AV) (k : AV->α) : α :=
 match a with
 | .tup vs => gX vs fun vs' => k (.tup vs')
 | a => aQ a k
theorem vA {α : Type} (a : AV) (k : AV->α) : qX a k = k a := by cases a <;> simp only [qX,jU,tK]
def yQ {α : Type} (n : Nat) (k : Nat->α) : α :=
 match n with
 | 0 => k 0
 | m + 1 => k (m + 1)
theorem yH {α : Type} (n : Nat) (k : Nat->α) : yQ n k = k n := by cases n <;> rfl
def bB {α : Type} (b : Option ABlk) (k : Option ABlk->α) : α :=
 match b with
 | none => k none
 | some ⟨.cells l,wr,own⟩ => qJ l fun l' => k (some ⟨.cells l',wr,own⟩)
 | some ⟨.bytes l,wr,own⟩ => k (some ⟨.bytes l,wr,own⟩)
 | some ⟨.rows sz n g,wr,own⟩ => k (some ⟨.rows sz n g,wr,own⟩)
 | some ⟨.mp ag p g,wr,own⟩ => k (some ⟨.mp ag p g,wr,own⟩)
theorem gY {α : Type} (b : Option ABlk) (k : Option ABlk->α) : bB b k = k b := by
 cases b with
 | none => rfl
 | some b =>
  obtain ⟨c,wr,own⟩ := b
  cases c <;> simp only [bB,eI]
def x0q {α : Type} : List (Nat × Option ABlk)->HT->(HT->α)->α
 | [],h,k => k h
 | (i,b)::l,h,k => bB b fun b' => Tr.putK DH h i b' fun h' => x0q l h' k
theorem dY {α : Type} : ∀ (l : List (Nat × Option ABlk)) (h : HT) (k : HT->α),x0q l h k = k (h.ups l)
 | [],_,_ => rfl
 | (i,b)::l,h,k => by simp only [x0q,HT.ups]; rw [gY,Tr.putK_eq,dY]
def putK (n : Nat) (dst : Option Tmp) (v : AV) (e : Env) (k : Env->Prop) : Prop :=
 match dst with
 | none => k e
 | some d => chk (decide (d < n)) (qX v fun v' => Tr.putK DE e d (some v') k)
theorem iA {dst : Option Tmp} {v : AV} {e : Env} {k : Env->Prop} (h : putK n dst v e k) : ∃ e',putE n dst v e e'/\k e' := by
 unfold putK at h
 split at h
 ·exact ⟨e,rfl,h⟩
 ·rename_i d
  obtain ⟨hd,h⟩ := xR.1 h
  rw [vA,Tr.putK_eq] at h
  exact ⟨_,⟨by simpa using hd,rfl⟩,h⟩
def getsOn (ms : List Nat) (ops : Array Oper) (j : Nat) (fp : FP) (prev : List (Nat × FP)) : Bool :=
 prev.all fun a => (ms.getD j 0).testBit a.1 || free ops a (j,fp)
def wL (draw : Bool) (prev : List (Nat × FP)) (x : Nat × FP) : List (Nat × FP) := match draw with | true => prev++[x] | false => prev
def fpOf (draw : Bool) (fp : FP) : FP := match draw with | true => fp | false => ([],[])
theorem Tr.put_self {α : Type} : ∀ (d : Nat) (T : Tr α) (t : Nat) (v : α),Tr.get d T t = some v->Tr.put d T t (some v) = T := by
 intro d
 induction d with
 | zero =>
  intro T t v h
  cases T <;> simp only [Tr.get,reduceCtorEq] at h
  subst h
  rfl
 | succ d ih =>
  intro T t v h
  cases T with
  | node l r =>
   simp only [Tr.get] at h
   simp only [Tr.put]
   split at h
   ·rw [ih l _ v h]
   ·rw [ih r _ v h]
  | _ => simp only [Tr.get,reduceCtorEq] at h
def lR (ops : Array Oper) (o : Oper) (env : Env) (b : Bool) (k : Env->Prop) : Prop :=
 match o.guard with
 | none => k env
 | some (j,want) =>
  match (ops[j]?).bind (·.dst) with
  | some d => Tr.putK DE env d (some (.bool (match want with | true => b | false => !b))) k
  | none => k env
theorem T7 {ops : Array Oper} {o : Oper} {env : Env} {b : Bool} {k : Env->Prop} (h : wantA ops o env = .by b) : lR ops o env b k = k env := by
 unfold wantA at h
 unfold lR
 split at h
 ·cases h
 ·rename_i j want hg
  try simp only [hg]
  split at h
  ·rename_i d hd
   try simp only [hd]
   split at h
   ·rename_i c hc
    have hget : Tr.get DE env d = some (.bool c) := by
     unfold Env.at at hc
     cases hg2 : Tr.get DE env d with
     | none => rw [hg2] at hc; cases hc
     | some v => rw [hg2] at hc; simp only [Option.getD_some] at hc; rw [hc]
    rw [Tr.putK_eq]
    cases want
    ·simp only [Want.by.injEq] at h
     subst h
     simp only [Bool.not_not]
     rw [Tr.put_self _ _ _ _ hget]
    ·simp only [Want.by.injEq] at h
     subst h
     simp only
     rw [Tr.put_self _ _ _ _ hget]
   ·cases h
   ·cases h
  ·cases h
theorem gZ {ops : Array Oper} {o : Oper} {env : Env} {b : Bool} {k k' : Env->Prop} (hk : ∀ e,k e->k' e) (h : lR ops o env b k) : lR ops o env b k' := by
 unfold lR at h ⊢
 split at h
 ·exact hk _ h
 ·split at h
  ·rw [Tr.putK_eq] at h ⊢; exact hk _ h
  ·exact hk _ h
def goP (P : Program) (Γ : Ctx) (draw : Bool) (ops : Array Oper) (n : Nat) (o : Oper) (j : Nat) (prev : List (Nat × FP)) (hp : HT) (nx : Nat) (k : FP->AS->Prop) (env : Env) : Prop :=
 gX (xF env o) fun args => yQ (nx + xI * j) fun fr =>
  (aop P Γ o args fr (tH draw o args hp.f)).toP fun r =>
   let fp : FP := fpOf draw (fJ o args hp.f,r.up.map (·.1))
   chk (decide (fr + xI<=GB) && r.up.all (fun p => decide (p.1 < 2 ^ DH)) && (match draw with | true => getsOn (uJ ops) ops j fp prev | false => true))
    (fF r.ob (putK n o.dst r.v env fun e => x0q r.up hp fun h => k fp ⟨e,h,nx⟩))
def skipP (draw : Bool) (ops : Array Oper) (n : Nat) (o : Oper) (j : Nat) (prev : List (Nat × FP)) (hp : HT) (nx : Nat) (k : FP->AS->Prop) (env : Env) : Prop :=
 chk (match draw with | true => getsOn (uJ ops) ops j ([],[]) prev | false => true)
  (putK n o.dst (.tup []) env fun e => k ([],[]) ⟨e,hp,nx⟩)
def mS (P : Program) (Γ : Ctx) (draw : Bool) (ops : Array Oper) (n : Nat) : List Oper->Nat->List (Nat × FP)->AS->(AS->Prop)->Prop
 | [],_,_,s,K => K s
 | o::rest,j,prev,⟨env,hp,nx⟩,K =>
  match wantA ops o env with
  | .no => False
  | .yes => goP P Γ draw ops n o j prev hp nx (fun fp s => mS P Γ draw ops n rest (j + 1) (wL draw prev (j,fp)) s K) env
  | .skip => skipP draw ops n o j prev hp nx (fun fp s => mS P Γ draw ops n rest (j + 1) (wL draw prev (j,fp)) s K) env
  | .by b => lP b (lR ops o env true (goP P Γ draw ops n o j prev hp nx (fun fp s => mS P Γ draw ops n rest (j + 1) (wL draw prev (j,fp)) s K)))
    (lR ops o env false (skipP draw ops n o j prev hp nx (fun fp s => mS P Γ draw ops n rest (j + 1) (wL draw prev (j,fp)) s K)))
theorem bD {n : Nat} {dst : Option Tmp} {v : AV} {e : Env} {k k' : Env->Prop} (hk : ∀ e,k e->k' e) (hp : putK n dst v e k) : putK n dst v e k' := by
 unfold putK at hp ⊢
 split at hp
 ·exact hk _ hp
 ·obtain ⟨h1,h2⟩ := xR.1 hp
  rw [vA,Tr.putK_eq] at h2
  exact xR.2 ⟨h1,by rw [vA,Tr.putK_eq]; exact hk _ h2⟩
theorem T.toP_mono {k k' : R->Prop} (hk : ∀ r,k r->k' r) : ∀ (t : T),t.toP k->t.toP k'
 | .no,h => h
 | .ok r,h => hk _ h
 | .br b x y,h => by
  cases b
  ·exact T.toP_mono hk y h
  ·exact T.toP_mono hk x h
theorem dZ {P : Program} {Γ : Ctx} {draw : Bool} {ops : Array Oper} {n : Nat} {o : Oper} {j : Nat} {prev : List (Nat × FP)} {hp : HT} {nx : Nat} {k k' : FP->AS->Prop} (hk : ∀ fp s,k fp s->k' fp s) {env : Env}
  (h : goP P Γ draw ops n o j prev hp nx k env) : goP P Γ draw ops n o j prev hp nx k' env := by
 unfold goP at h ⊢
 rw [jU,yH] at h ⊢
 refine T.toP_mono (fun r hr => ?_) _ h
 obtain ⟨h1,h2⟩ := xR.1 hr
 obtain ⟨h3,h4⟩ := (vI _ _).1 h2
 refine xR.2 ⟨h1,(vI _ _).2 ⟨h3,bD (fun e he => ?_) h4⟩⟩
 rw [dY] at he ⊢
 exact hk _ _ he
theorem mF {draw : Bool} {ops : Array Oper} {n : Nat} {o : Oper} {j : Nat} {prev : List (Nat × FP)} {hp : HT} {nx : Nat} {k k' : FP->AS->Prop} (hk : ∀ fp s,k fp s->k' fp s) {env : Env}
  (h : skipP draw ops n o j prev hp nx k env) : skipP draw ops n o j prev hp nx k' env := by
 unfold skipP at h ⊢
 obtain ⟨h1,h2⟩ := xR.1 h
 exact xR.2 ⟨h1,bD (fun e he => hk _ _ he) h2⟩
theorem fB {P : Program} {Γ : Ctx} {n : Nat} {draw : Bool} {ops : Array Oper} : ∀ (l : List Oper) (j : Nat) (prev : List (Nat × FP)) (s : AS) (K K' : AS->Prop),(∀ s,K s->K' s)->mS P Γ draw ops n l j prev s K->mS P Γ draw ops n l j prev s K' := by
 intro l
 induction l with
 | nil => intro j prev s K K' h hh; exact h _ hh
 | cons o rest ih =>
  intro j prev s K K' h hh
  obtain ⟨env,hp,nx⟩ := s
  simp only [mS] at hh ⊢
  split at hh
  ·exact hh
  ·exact dZ (fun fp s hs => ih _ _ _ _ _ h hs) hh
  ·exact mF (fun fp s hs => ih _ _ _ _ _ h hs) hh
  ·rename_i b hb
   cases b
   ·exact gZ (fun env hh => mF (fun fp s hs => ih _ _ _ _ _ h hs) hh) (J1 hh)
   ·exact gZ (fun env hh => dZ (fun fp s hs => ih _ _ _ _ _ h hs) hh) (J0 hh)
end
end Go.Sym
namespace Go.Sym
def FW (r : Option Nat) : Fence := { Fence.wide with round := r }
theorem w1j {r : Option Nat} {n : Nat} {P : Program} {f : FuncId} {args : Array Value} {w : World} {R : Ending->World->Prop} (h : Calls P f args w R) : CallsIn (FW r) n P f args w R :=
 callsIn_wide.2 h
structure RRel (ds : List Deferred) (gl : Gl) (M : Nat->Prop) (W0 : World) (n : Nat) (np : Nat) (κ0 : Ker) (L : Nat->Prop) (κ : Ker) (s : AS) (a : Act) (w : World) : Prop where
 env : ∀ t,t < 2 ^ DE->VRel κ (s.env.at t) (a.tmps.getD t undef)
 size : a.tmps.size = n
 defers : a.defers = ds
 glob : GW gl w
 heap : HRel M w κ s.h.f
 only : Only M W0 w
 free : ∀ j,L j->∀ i,s.nx + xI * j<=i->i < s.nx + xI * j + xI->i < GB->κ.ρ i = none
 grho : ∀ g,κ.ρ (GB + g) = some (g,0)
 pin : ∀ i,i < np->(κ0.ρ i).isSome/\κ.ρ i = κ0.ρ i/\κ.cap i = κ0.cap i
 mm : ∀ x y,κ.m x = some y->κ0.m x = some y \/ M x.block
 vv : ∀ q x y,κ0.mem q x = some y->κ.mem q x = some y
section
variable {ds : List Deferred} {P : Program} {Γ : Ctx} {ops : Array Oper} {n np : Nat} {κ0 : Ker} {gl : Gl} {M : Nat->Prop} {W0 : World} {draw : Bool}
theorem v1j {K : AS->Prop} : ∀ (l : List Oper) (j : Nat) (prev : List (Nat × FP)) (s : AS),(∀ i,l[i]? = ops[j + i]?)->mS P Γ draw ops n l j prev s K ->
  ∃ (run : List (Nat × FP)) (s2 : AS),LexRun P Γ draw ops n run s s2/\K s2/\run.map (·.1) = List.range' j l.length /\
   (draw = true->(∀ b ∈ run,∀ a ∈ prev,((uJ ops).getD b.1 0).testBit a.1 = true \/ free ops a b = true)/\run.Pairwise fun a b => ((uJ ops).getD b.1 0).testBit a.1 = true \/ free ops a b = true) := by
 intro l
 induction l with
 | nil =>
  intro j prev s hl h
  exact ⟨[],s,.nil s,h,rfl,fun _ => ⟨fun b hb => absurd hb (by simp),.nil⟩⟩
 | cons o rest ih =>
  intro j prev s hl h
  have h0 : ops[j]? = some o := by simpa using (hl 0).symm
  have hl' : ∀ i,rest[i]? = ops[j + 1 + i]? := by
   intro i
   have := hl (i + 1)
   simp only [List.getElem?_cons_succ] at this
   rw [this]
   congr 1
   omega
  have gets : ∀ {fp : FP},getsOn (uJ ops) ops j fp prev = true->∀ a ∈ prev,((uJ ops).getD j 0).testBit a.1 = true \/ free ops a (j,fp) = true := by
   intro fp hg a ha
   unfold getsOn at hg
   rw [List.all_eq_true] at hg
   simpa using hg a ha
  -- one step, and the rest
  have fin : ∀ {fp : FP} {s1 : AS},StepR P Γ draw ops n j s s1 fp->(draw = true->getsOn (uJ ops) ops j fp prev = true) ->
    mS P Γ draw ops n rest (j + 1) (wL draw prev (j,fp)) s1 K ->
    ∃ (run : List (Nat × FP)) (s2 : AS),LexRun P Γ draw ops n run s s2/\K s2/\run.map (·.1) = List.range' j (o::rest).length /\
     (draw = true->(∀ b ∈ run,∀ a ∈ prev,((uJ ops).getD b.1 0).testBit a.1 = true \/ free ops a b = true)/\run.Pairwise fun a b => ((uJ ops).getD b.1 0).testBit a.1 = true \/ free ops a b = true) := by
   intro fp s1 hstep hg hrest
   obtain ⟨run,s2,k1,k2,k3,k4⟩ := ih (j + 1) _ s1 hl' hrest
   refine ⟨(j,fp)::run,s2,.cons hstep k1,k2,by simp [k3,List.range'_succ],fun hd => ?_⟩
   subst hd
   obtain ⟨k5,k6⟩ := k4 rfl
   refine ⟨?_,List.pairwise_cons.2 ⟨fun b hb => k5 b hb (j,fp) (by simp [wL]),k6⟩⟩
   intro b hb a ha
   rcases List.mem_cons.1 hb with h | h
   ·subst h; exact gets (hg rfl) a ha
   ·exact k5 b h a (by simp [wL,ha])
  let k : FP->AS->Prop := fun fp s => mS P Γ draw ops n rest (j + 1) (wL draw prev (j,fp)) s K
  have skip : ∀ {b : Bool},(wantA ops o s.env).is false->skipP draw ops n o j prev s.h s.nx k s.env ->
    ∃ (run : List (Nat × FP)) (s2 : AS),LexRun P Γ draw ops n run s s2/\K s2/\run.map (·.1) = List.range' j (o::rest).length /\
     (draw = true->(∀ b ∈ run,∀ a ∈ prev,((uJ ops).getD b.1 0).testBit a.1 = true \/ free ops a b = true)/\run.Pairwise fun a b => ((uJ ops).getD b.1 0).testBit a.1 = true \/ free ops a b = true) := by
   intro _ hw hh
   unfold skipP at hh
   obtain ⟨hc,hh⟩ := xR.1 hh
   obtain ⟨e,he,hh⟩ := iA hh
   exact fin (s1 := ⟨e,s.h,s.nx⟩) ⟨o,h0,.inl ⟨hw,he,rfl,rfl,rfl⟩⟩ (fun hd => by subst hd; exact hc) hh
  have go : (wantA ops o s.env).is true->goP P Γ draw ops n o j prev s.h s.nx k s.env ->
    ∃ (run : List (Nat × FP)) (s2 : AS),LexRun P Γ draw ops n run s s2/\K s2/\run.map (·.1) = List.range' j (o::rest).length /\
     (draw = true->(∀ b ∈ run,∀ a ∈ prev,((uJ ops).getD b.1 0).testBit a.1 = true \/ free ops a b = true)/\run.Pairwise fun a b => ((uJ ops).getD b.1 0).testBit a.1 = true \/ free ops a b = true) := by
   intro hw hh
   unfold goP at hh
   rw [jU,yH] at hh
   obtain ⟨r,hsel,hh⟩ := T.toP_sel _ hh
   obtain ⟨hc,hh⟩ := xR.1 hh
   simp only [Bool.and_eq_true,decide_eq_true_eq,List.all_eq_true] at hc
   obtain ⟨⟨hb,hu⟩,hg⟩ := hc
   obtain ⟨hob,hh⟩ := (vI _ _).1 hh
   obtain ⟨e,he,hh⟩ := iA hh
   rw [dY] at hh
   cases draw with
   | true => exact fin (s1 := ⟨e,s.h.ups r.up,s.nx⟩) (fp := fpOf true (fJ o (xF s.env o) s.h.f,r.up.map (·.1))) ⟨o,h0,.inr ⟨hw,hb,r,hsel,hob,hu,he,rfl,rfl,rfl⟩⟩ (fun _ => hg) hh
   | false => exact fin (s1 := ⟨e,s.h.ups r.up,s.nx⟩) (fp := (fJ o (xF s.env o) s.h.f,r.up.map (·.1))) ⟨o,h0,.inr ⟨hw,hb,r,hsel,hob,hu,he,rfl,rfl,rfl⟩⟩ (fun hd => by cases hd) hh
  simp only [mS] at h
  split at h
  ·exact h.elim
  ·rename_i hw
   exact go (by rw [hw]; rfl) h
  ·rename_i hw
   exact skip (b := true) (by rw [hw]; rfl) h
  ·rename_i b hw
   cases b
   ·have h' := J1 h
    rw [T7 hw] at h'
    exact skip (b := true) (by rw [hw]; rfl) h'
   ·have h' := J0 h
    rw [T7 hw] at h'
    exact go (by rw [hw]; rfl) h'
theorem fC {L : Nat->Prop} {κ : Ker} {s : AS} {a : Act} {w : World} (r : RRel ds gl M W0 n np κ0 L κ s a w) (x : Operand) (hx : ∀ t,x = .tmp t->t < 2 ^ DE) : VRel κ (aeval s.env x) (a.eval x) := by
 cases x with
 | tmp t => exact r.env t (hx t rfl)
 | const v => exact d0k κ v
 | global g => exact ⟨g,0,r.grho g,rfl⟩
 | func f => exact ⟨#[],#[],rfl,rfl,rfl⟩
theorem A6 {L : Nat->Prop} {κ : Ker} {s : AS} {a : Act} {w : World} (r : RRel ds gl M W0 n np κ0 L κ s a w) : ∀ xs : List Operand,(∀ t,Operand.tmp t ∈ xs->t < 2 ^ DE)->VRels κ (xs.map (aeval s.env)) (xs.map a.eval)
 | [],_ => rfl
 | x::xs,h => ⟨_,_,rfl,fC r x (fun t ht => h t (by simp [ht])),A6 r xs (fun t ht => h t (by simp [ht]))⟩
theorem A7 {L : Nat->Prop} {κ : Ker} {s : AS} {a : Act} {w : World} (r : RRel ds gl M W0 n np κ0 L κ s a w) (hs : uI ops = true) {o : Oper} {b : Bool} (h : (wantA ops o s.env).is b) :
  Region.wanted o (yielded ops a.tmps) = b := by
 unfold wantA at h
 unfold Region.wanted
 split at h
 ·rename_i hg; simp only [Want.is] at h; subst h; simp [hg]
 ·rename_i j want hg
  simp only [hg]
  split at h
  ·rename_i d hd
   have hlt : d < 2 ^ DE := by
    simp only [Option.bind_eq_some_iff] at hd
    obtain ⟨o2,ho2,hdst⟩ := hd
    exact (jT hs ho2).2 d hdst
   split at h
   ·rename_i bb he
    have hv := r.env d hlt
    rw [he] at hv
    simp only [VRel] at hv
    have hy : yielded ops a.tmps j = some bb := by
     unfold yielded
     simp only [hd,Option.bind_some]
     have : a.tmps[d]? = some (.bool bb) := by
      rcases Nat.lt_or_ge d a.tmps.size with h' | h'
      ·simp [Array.getD,h'] at hv
       simp [h',hv]
      ·simp [Array.getD,Nat.not_lt.2 h',undef] at hv
     simp [this]
    rw [hy]
    clear he hv hy
    cases want
    ·simp only [Want.is] at h
     subst h
     cases bb <;> rfl
    ·simp only [Want.is] at h
     subst h
     cases b <;> rfl
   ·rename_i he
    have hv := r.env d hlt
    rw [he] at hv
    simp only [VRel] at hv
    obtain ⟨vs,hv,hvs⟩ := hv
    have hy : yielded ops a.tmps j = none := by
     unfold yielded
     simp only [hd,Option.bind_some]
     cases hat : a.tmps[d]? with
     | none => rfl
     | some x =>
      have hx : x = .tuple vs := by
       rw [<- hv]
       simp [Array.getD_eq_getD_getElem?,hat]
      rw [hx]
    rw [hy]
    simp only [Want.is] at h
    subst h
    rfl
   ·simp [Want.is] at h
  ·simp [Want.is] at h
def mG (o : Oper) : Bool := match o.op with | .defer _ => false | _ => true
theorem J2 {rd : Option Nat} {dp : Nat} {o : Oper} {a : Act} {w : World} {Post : Value->World->Prop} {K : Act->World->Prop} {Q : Exit->Act->World->Prop} (hnd : mG o = true) (h : OpPost P w Post ((execOp a.eval o).run P w))
  (hK : ∀ x w',Post x w'->K (a.put o.dst x) w') : o.wpIn (FW rd) dp P a w K Q := by
 unfold Oper.wpIn
 refine ⟨fun _ _ => trivial,?_⟩
 rw [Oper.semAt_eq _ _ _ (fun c hc => by unfold mG at hnd; rw [hc] at hnd; cases hnd)]
 generalize (execOp a.eval o).run P w = r at h
 cases r with
 | ok nx w' =>
  cases nx <;> simp only [OpPost] at h <;> simp only [Oper.uponIn]
  ·exact hK _ _ h
  ·exact hK _ _ h
  ·obtain ⟨rfl,hc⟩ := h
   refine ⟨(fun h => by cases h),w1j (hc.mono ?_)⟩
   rintro e w'' ⟨x,rfl,hp⟩
   exact hK _ _ hp
 | halt x w' => simp only [OpPost] at h
theorem RRel.put {L L' : Nat->Prop} {κ κ' : Ker} {s s' : AS} {a : Act} {w w' : World} (r : RRel ds gl M W0 n np κ0 L κ s a w) (hMG : sC gl M) (hn : n<=2 ^ DE) {j : Nat} {dst : Option Tmp} {v : AV} {x : Value}
  (hle : κ.le κ') (hout : ∀ i,(i < s.nx + xI * j \/ s.nx + xI * j + xI<=i)->κ'.ρ i = κ.ρ i) (hv : VRel κ' v x) (hh : HRel M w' κ' s'.h.f) (ho : Only M w w') (hmm : ∀ x y,κ'.m x = some y->κ.m x = some y \/ M x.block)
  (hL : ∀ k,L' k->L k/\k ≠ j) (hp : putE n dst v s.env s'.env) (hx : s'.nx = s.nx) : RRel ds gl M W0 n np κ0 L' κ' s' (a.put dst x) w' := by
 have hfree : ∀ k,L' k->∀ i,s'.nx + xI * k<=i->i < s'.nx + xI * k + xI->i < GB->κ'.ρ i = none := by
  intro k hk i h1 h2 h3
  obtain ⟨hl,hne⟩ := hL k hk
  rw [hx] at h1 h2
  rw [hout i ?_]
  ·exact r.free k hl i h1 h2 h3
  ·unfold xI at *
   omega
 have hpin : ∀ i,i < np->(κ0.ρ i).isSome/\κ'.ρ i = κ0.ρ i/\κ'.cap i = κ0.cap i := by
  intro i hi
  obtain ⟨h1,h2,h3⟩ := r.pin i hi
  obtain ⟨p,hp⟩ := Option.isSome_iff_exists.1 h1
  rw [hp] at h2
  refine ⟨h1,by rw [hle.ρ i p h2,hp],?_⟩
  rw [hle.cap i (by rw [h2]; rfl),h3]
 have hvv : ∀ q x y,κ0.mem q x = some y->κ'.mem q x = some y := fun q x y h => hle.mem q x y (r.vv q x y h)
 have hmm' : ∀ x y,κ'.m x = some y->κ0.m x = some y \/ M x.block := by
  intro x y hxy
  rcases hmm x y hxy with h | h
  ·exact r.mm x y h
  ·exact .inr h
 cases dst with
 | none =>
  simp only [putE] at hp
  exact ⟨fun t ht => by rw [hp]; exact (r.env t ht).mono hle,r.size,r.defers,r.glob.only hMG ho,hh,r.only.trans ho,hfree,fun g => hle.ρ _ _ (r.grho g),hpin,hmm',hvv⟩
 | some d =>
  obtain ⟨hd,hp⟩ := hp
  refine ⟨?_,by simpa [Act.put] using r.size,r.defers,r.glob.only hMG ho,hh,r.only.trans ho,hfree,fun g => hle.ρ _ _ (r.grho g),hpin,hmm',hvv⟩
  intro t ht
  rw [hp,Env.at_set _ _ (Nat.lt_of_lt_of_le hd hn) ht]
  simp only [Act.put]
  split
  ·rename_i he
   subst he
   have : t < a.tmps.size := by rw [r.size]; exact hd
   simpa [Array.getD,this] using hv
  ·rename_i hne
   have : (a.tmps.setIfInBounds d x).getD t undef = a.tmps.getD t undef := by
    simp only [Array.getD_eq_getD_getElem?,Array.getElem?_setIfInBounds_ne (Ne.symm hne)]
   rw [this]
   exact (r.env t ht).mono hle
theorem tL {rd : Option Nat} {dp : Nat} {L L' : Nat->Prop} {κ : Ker} {s s' : AS} {a : Act} {w : World} {j : Nat} {fp : FP} {K' : Act->World->Prop} {Q : Exit->Act->World->Prop}
  (hΓ : COKs P gl Γ) (hMG : sC gl M) (hup : ∀ B,W0.heap.size<=B->M B) (hn : n<=2 ^ DE) (hs : uI ops = true) (hnd : ops.all mG = true)
  (r : RRel ds gl M W0 n np κ0 L κ s a w) (hLj : L j) (hL : ∀ k,L' k->L k/\k ≠ j)
  (h : StepR P Γ draw ops n j s s' fp) (hK : ∀ κ' a' w',RRel ds gl M W0 n np κ0 L' κ' s' a' w'->K' a' w') : wpOpIn (FW rd) dp P ops Q j K' a w := by
 obtain ⟨o,ho,h⟩ := h
 unfold wpOpIn
 simp only [ho]
 have hnd' : mG o = true := (Array.all_eq_true'.1 hnd) o (Array.mem_of_getElem? ho)
 rcases h with ⟨hw,he,hm,hx,_⟩ | ⟨hw,hb,rr,hsel,hob,hu,he,hm,hx,_⟩
 ·rw [A7 r hs hw]
  simp only [Bool.false_eq_true,if_false]
  refine ⟨fun _ _ => trivial,?_⟩
  exact hK κ _ w (r.put (j := j) hMG hn κ.le_refl (fun _ _ => rfl) (v := .tup []) ⟨#[],rfl,rfl⟩ (by rw [hm]; exact r.heap) (Only.refl _ _) (fun _ _ h => .inl h) hL he hx)
 ·rw [A7 r hs hw]
  simp only [if_true]
  have hfr : ∀ i,s.nx + xI * j<=i->i < s.nx + xI * j + xI->κ.ρ i = none := fun i h1 h2 => r.free j hLj i h1 h2 (by omega)
  have hvle : (tH draw o (xF s.env o) s.h.f).le s.h.f := by
   cases draw
   ·exact fun _ _ h => h
   ·exact y1k _ _
  have hargs := A6 r o.op.operands.toList (jT hs ho).1
  have hpost : OpPost P w (fun x w' => Good M w κ (s.nx + xI * j) rr.v (s.h.f.ups rr.up) x w') ((execOp a.eval o).run P w) := by
   have hN : ∀ {rr : R},(aopN P Γ o (xF s.env o) (s.nx + xI * j) (tH draw o (xF s.env o) s.h.f)).sel = some rr->zP rr.ob->OpPost P w (fun x w' => Good M w κ (s.nx + xI * j) rr.v (s.h.f.ups rr.up) x w') ((execOp a.eval o).run P w) := by
    intro rr hsel hob
    unfold aopN at hsel
    split at hsel
    ·rename_i ob v hp
     simp only [T.sel,Option.some.injEq] at hsel
     subst hsel
     obtain ⟨x,hx1,hrun⟩ := G5 (w := w) (ev := a.eval) (fun v => rfl) hp hob hargs r.heap.mem
     rw [hrun]
     exact Good.same r.heap hx1
    ·exact nY (ev := a.eval) (fun v => rfl) hargs hΓ r.glob hMG r.heap hvle (fun B hB => hup B (Nat.le_trans r.only.size hB)) hfr r.grho hb hsel hob
   have h1 : ∀ {rr : R},(aop1 P Γ o (xF s.env o) (s.nx + xI * j) (tH draw o (xF s.env o) s.h.f)).sel = some rr->zP rr.ob->OpPost P w (fun x w' => Good M w κ (s.nx + xI * j) rr.v (s.h.f.ups rr.up) x w') ((execOp a.eval o).run P w) := by
    intro rr hsel hob
    unfold aop1 at hsel
    split at hsel
    ·split at hsel
     ·rename_i t ht
      exact aopS_sound (ev := a.eval) (fun v => rfl) hargs hΓ r.glob hMG r.heap hvle (fun B hB => hup B (Nat.le_trans r.only.size hB)) hfr r.grho hb ht hsel hob
     ·exact hN hsel hob
    ·exact hN hsel hob
   unfold aop at hsel
   split at hsel
   ·obtain ⟨q,hq,rfl⟩ := T.mapR_sel hsel
    obtain ⟨o1,o2⟩ := y1j hob
    exact OpPost.weak (fun x w' g => g.frz hvle o2) (h1 hq o1)
   ·exact h1 hsel hob
  refine J2 hnd' hpost ?_
  rintro x w' ⟨κ',g1,g2,g3,g4,g5,g6⟩
  exact hK κ' _ w' (r.put hMG hn g1 g2 g3 (by rw [hm,HT.f_ups _ _ hu]; exact g4) g5 g6 hL he hx)
theorem w0q {rd : Option Nat} {dp : Nat} {Q' : Exit->Act->World->Prop} (hΓ : COKs P gl Γ) (hMG : sC gl M) (hup : ∀ B,W0.heap.size<=B->M B) (hn : n<=2 ^ DE) (hs : uI ops = true) (hnd : ops.all mG = true) {s2 : AS}
  (hQ : ∀ κ a w,RRel ds gl M W0 n np κ0 (fun j => ops.size<=j) κ s2 a w->Q' .normal a w) :
  ∀ (run : List (Nat × FP)) (k m : Nat) (κ : Ker) (s : AS) (a : Act) (w : World),run.map (·.1) = List.range' k m->k + m = ops.size->RRel ds gl M W0 n np κ0 (fun j => k<=j) κ s a w->LexRun P Γ draw ops n run s s2 ->
  wpOpsIn (FW rd) dp P ops Q' (List.range' k m) a w := by
 intro run
 induction run with
 | nil =>
  intro k m κ s a w hr hk r h
  cases m with
  | zero =>
   cases h
   exact hQ κ a w (by simpa [show k = ops.size by omega] using r)
  | succ m => simp [List.range'_succ] at hr
 | cons x run ih =>
  intro k m κ s a w hr hk r h
  cases m with
  | zero => simp at hr
  | succ m =>
   obtain ⟨i,fp⟩ := x
   simp only [List.map_cons,List.range'_succ,List.cons.injEq] at hr
   obtain ⟨rfl,hr⟩ := hr
   cases h with
   | cons h1 h2 =>
    rw [List.range'_succ,wpOpsIn_cons]
    exact tL (L' := fun j => i + 1<=j) hΓ hMG hup hn hs hnd r (Nat.le_refl _) (fun j hj => ⟨by omega,by omega⟩) h1 (fun κ' a' w' r' => ih (i + 1) m κ' _ a' w' hr (by omega) r' h2)
theorem v0q {rd : Option Nat} {dp : Nat} {Q : AS->Prop} {Q' : Exit->Act->World->Prop}
  (hΓ : COKs P gl Γ) (hMG : sC gl M) (hup : ∀ B,W0.heap.size<=B->M B) (hn : n<=2 ^ DE) (hs : uI ops = true) (hnd : ops.all mG = true)
  (hQ : ∀ κ s a w,Q s->RRel ds gl M W0 n np κ0 (fun j => ops.size<=j) κ s a w->Q' .normal a w) :
  ∀ (fuel : Nat) (listed : Array Bool) (κ : Ker) (s : AS) (a : Act) (w : World),listed.size = ops.size->RRel ds gl M W0 n np κ0 (fun j => listed.getD j false = false) κ s a w ->
  anyR P Γ ops n Q fuel listed s->wpAnyIn (FW rd) dp P .any ops Q' fuel listed a w := by
 have done : ∀ (listed : Array Bool) (κ : Ker) (s : AS) (a : Act) (w : World),listed.size = ops.size->RRel ds gl M W0 n np κ0 (fun j => listed.getD j false = false) κ s a w->Q s->Q' .normal a w := by
  intro listed κ s a w hsz r h
  refine hQ κ s a w h { r with free := fun j hj => r.free j ?_ }
  simp [Array.getD,hsz,Nat.not_lt.2 hj]
 intro fuel
 induction fuel with
 | zero => intro listed κ s a w hsz r h; exact ⟨h.1,done listed κ s a w hsz r h.2⟩
 | succ fuel ih =>
  intro listed κ s a w hsz r h
  refine ⟨fun h0 => done listed κ s a w hsz r (h.1 h0),fun i hi => ?_⟩
  obtain ⟨s',fp,h1,h2⟩ := h.2 i hi
  obtain ⟨hun,o,ho,_⟩ := mem_ready.1 hi
  have hlt : i < listed.size := by rw [hsz]; exact (Array.getElem?_eq_some_iff.1 ho).1
  refine tL (L' := fun j => (listed.setIfInBounds i true).getD j false = false) hΓ hMG hup hn hs hnd r ?_ ?_ h1 ?_
  ·simp [Array.getD,hlt] at hun ⊢
   exact hun
  ·intro k hk
   by_cases hki : i = k
   ·subst hki
    simp [Array.getD,hlt] at hk
   ·rw [getD_set_ne false hki] at hk
    exact ⟨hk,Ne.symm hki⟩
  ·intro κ' a' w' r'
   exact ih _ κ' s' a' w' (by simpa using hsz) r' h2
def AS.bump (s : AS) (k : Nat) : AS := ⟨s.env,s.h,s.nx + xI * k⟩
theorem RRel.bump {κ : Ker} {s : AS} {a : Act} {w : World} {k : Nat} (r : RRel ds gl M W0 n np κ0 (fun j => k<=j) κ s a w) : RRel ds gl M W0 n np κ0 (fun _ => True) κ (s.bump k) a w := by
 refine ⟨r.env,r.size,r.defers,r.glob,r.heap,r.only,?_,r.grho,r.pin,r.mm,r.vv⟩
 intro j _ i h1 h2 h3
 simp only [AS.bump] at h1 h2
 refine r.free (k + j) (by omega) i ?_ ?_ h3
 ·rw [Nat.mul_add]; omega
 ·rw [Nat.mul_add]; omega
def u1j (ops : Array Oper) (draw : Bool) : Bool := uI ops && ops.all mG && (match draw with | true => lO ops && Region.noSelect ops | false => true)
theorem cA {rd : Option Nat} {dp : Nat} {id : Nat} {Q : AS->Prop} {Q' : Exit->Act->World->Prop}
  (hΓ : COKs P gl Γ) (hMG : sC gl M) (hup : ∀ B,W0.heap.size<=B->M B) (hn : n<=2 ^ DE) (hmix : P.follows .mixedOrders = true) (hreg : u1j ops draw = true)
  (hQ : ∀ κ s a w,Q s->RRel ds gl M W0 n np κ0 (fun _ => True) κ s a w->Q' .normal a w)
  {κ : Ker} {s : AS} {a : Act} {w : World} (r : RRel ds gl M W0 n np κ0 (fun _ => True) κ s a w)
  (h : mS P Γ draw ops n ops.toList 0 [] s (fun s' => Q (s'.bump ops.size))) :
  (Code.region id ops draw).wpIn (FW rd) dp P Q' a w := by
 simp only [u1j,Bool.and_eq_true] at hreg
 obtain ⟨⟨hs,hnd⟩,hreg⟩ := hreg
 obtain ⟨run,s2,k1,k2,k3,k4⟩ := v1j ops.toList 0 [] s (by simp) h
 cases draw with
 | false =>
  refine wpIn_region ?_
  rw [List.range_eq_range']
  have := w0q (rd := rd) (dp := dp) (Q' := Q') hΓ hMG hup hn hs hnd (fun κ a w r' => hQ κ _ a w k2 r'.bump) run 0 ops.size κ s a w (by simpa using k3) (by simp) { r with free := fun j _ => r.free j trivial } k1
  exact this
 | true =>
  simp only [Bool.and_eq_true] at hreg
  obtain ⟨hord,hns⟩ := hreg
  obtain ⟨_,k5⟩ := k4 rfl
  refine wpIn_region_any hmix ?_
  have hlen : run.length = ops.size := by
   have := congrArg List.length k3
   simpa using this
  have hidx : ∀ i,i < ops.size->∃ fp,(i,fp) ∈ run := by
   intro i hi
   have : i ∈ run.map (·.1) := by rw [k3]; simp [List.mem_range']; exact hi
   obtain ⟨x,hx,rfl⟩ := List.mem_map.1 this
   exact ⟨x.2,hx⟩
  have hany := I9 (Q := fun s' => Q (s'.bump ops.size)) hs hord ops.size run hlen (Array.replicate ops.size false) s s2 (by simp)
   (by
    intro k ok hk hl
    exfalso
    rcases Nat.lt_or_ge k ops.size with h' | h'
    ·simp [Array.getD,h'] at hl
    ·simp [Array.getD,Nat.not_lt.2 h'] at hl)
   (by
    intro i hi
    constructor
    ·intro _; exact hidx i hi
    ·intro _; simp [Array.getD,hi])
   (by
    intro x hx
    have : x.1 ∈ run.map (·.1) := List.mem_map_of_mem hx
    rw [k3] at this
    simpa [List.mem_range'] using this)
   (by
    have : (run.map (·.1)).Pairwise (· < ·) := by
     rw [k3]; exact List.pairwise_lt_range'
    exact (List.pairwise_map.1 this))
   k5 k1 k2
  have r0 : RRel ds gl M W0 n np κ0 (fun _ => True) κ s a w.drew := { r with glob := r.glob,heap := r.heap.drawn,only := r.only.trans (Only.drew M w) }
  have := v0q (rd := rd) (dp := dp) (Q' := Q') hΓ hMG hup hn hs hnd (fun κ s a w h1 r1 => hQ κ _ a w h1 r1.bump) ops.size (Array.replicate ops.size false) κ s a w.drew (by simp)
   { r0 with free := fun j _ => r0.free j trivial } hany
  exact this
end
end Go.Sym
