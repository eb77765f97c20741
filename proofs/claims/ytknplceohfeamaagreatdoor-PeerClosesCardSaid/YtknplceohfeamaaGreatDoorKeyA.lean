/- Calls that only read; what is sealed, opened, shared, by rows of bytes; the cursor. -/
import Derived.Test.YtknplceohfeamaaGreatDoorSymC
import Derived.Test.YtknplceohfeamaaGreatDoorAeaB
import Derived.Test.YtknplceohfeamaaGreatDoorCurF
set_option linter.unusedVariables false
set_option linter.unusedSimpArgs false
namespace Go.Sym
def c0z (i : Nat) : T->T
 | .no => .no
 | .ok r => (match r.up.all (fun p => !(Nat.beq p.1 i) && (match p.2 with | some b => b.wr | none => true)) with | true => .ok r | false => .no)
 | .br b x y => .br b (c0z i x) (c0z i y)
theorem pF {i : Nat} {r : R} : ∀ {t : T},(c0z i t).sel = some r->t.sel = some r/\∀ p ∈ r.up,p.1 ≠ i/\∀ b,p.2 = some b->b.wr = true
 | .no,h => by cases h
 | .ok q,h => by
  unfold c0z at h
  split at h
  ·rename_i hc
   cases h
   refine ⟨rfl,fun p hp => ?_⟩
   have := List.all_eq_true.1 hc p hp
   simp only [Bool.and_eq_true,Bool.not_eq_true'] at this
   refine ⟨fun e => ?_,fun b e => ?_⟩
   ·rw [e,Nat.beq_refl] at this; cases this.1
   ·have h2 := this.2; rw [e] at h2; exact h2
  ·cases h
 | .br b x y,h => by
  cases b
  ·exact pF (t := y) h
  ·exact pF (t := x) h
def roF (F : lZ) : lZ := fun h zs fr => match zs with
 | .ptr i _ _ _::_ => (match h i with
  | some ⟨c,true,0⟩ => (match c.isMap with | true => .no | false => c0z i (F (upd h i (some ⟨c,false,0⟩)) zs fr))
  | _ => .no)
 | _ => .no
theorem iK (i : Nat) (x : Option ABlk) : ∀ (l : List (Nat × Option ABlk)) (h : H),(∀ p ∈ l,p.1 ≠ i)->(upd h i x).ups l = upd (h.ups l) i x
 | [],h,_ => rfl
 | (j,b)::l,h,hn => by
  have h1 : j ≠ i := hn (j,b) (List.mem_cons_self ..)
  simp only [H.ups]
  rw [pX h x b (Ne.symm h1),iK i x l _ (fun p hp => hn p (List.mem_cons_of_mem _ hp))]
section
variable {P : Program} {κ : Ker} {w : World} {M : Nat->Prop} {h : H} {gl : Gl}
theorem HRel.shrink {i B0 O0 : Nat} {c : Con} (hr : HRel M w κ h) (hi : h i = some ⟨c,true,0⟩) (hm : c.isMap = false) (hρ : κ.ρ i = some (B0,O0)) : HRel (fun B => M B/\(LiveB κ i ⟨c,true,0⟩->B ≠ B0)) w κ (upd h i (some ⟨c,false,0⟩)) := by
 have r1 : HRel M w κ (upd h i (some ⟨c,false,0⟩)) := hr.wk (b' := ⟨c,false,0⟩) hi (fun _ _ h => h) rfl rfl (fun h => by rw [hm] at h)
 refine ⟨fun j b hj => ?_,r1.sep,r1.own,r1.mem,r1.mp.of (Ker.le_refl κ) (fun k b hk _ => .inl hk) (fun B es ck hB he => ⟨hB,fun hl e => ?_⟩) fun _ _ _ _ _ _ _ _ _ h => h⟩
 ·obtain ⟨B,O,e1,e2,e3⟩ := r1.blk j b hj
  refine ⟨B,O,e1,fun hw hl => ?_,e3⟩
  obtain ⟨m1,m2⟩ := e2 hw hl
  refine ⟨⟨m1,fun hl0 => ?_⟩,m2⟩
  unfold upd at hj
  split at hj
  ·rename_i he
   subst he
   simp only [Option.some.injEq] at hj
   subst hj
   cases hw
  ·rename_i hne
   exact hr.sep j i b _ B O B0 O0 hj hi hne hw hl hl0 e1 hρ
 ·rcases hl with ⟨o,a,ha⟩ | ⟨h1,_⟩
  ·obtain ⟨⟨y,hy,_⟩,_⟩ := hr.cells hi hρ ha
   subst e
   unfold World.cell? at hy
   rw [he] at hy
   cases hy
  ·cases h1
theorem HRel.hard {M' : Nat->Prop} {i B0 O0 : Nat} {c : Con} (r : HRel M' w κ h) (hMM : ∀ B,M' B->M B) (hi : h i = some ⟨c,false,0⟩) (hm : c.isMap = false) (hρ : κ.ρ i = some (B0,O0))
  (h1 : LiveB κ i ⟨c,true,0⟩->M B0/\B0 < w.heap.size/\Marked w B0/\∀ a x,κ.v a = some x->a.block ≠ B0) (h2 : ∀ off a,c.at off = some a->w.frozen? ⟨B0,O0 + off,none⟩ = false)
  (h3 : LiveB κ i ⟨c,true,0⟩->∀ j b B O,j ≠ i->h j = some b->LiveB κ j b->κ.ρ j = some (B,O)->B ≠ B0) : HRel M w κ (upd h i (some ⟨c,true,0⟩)) := by
 have out : ∀ j b,upd h i (some ⟨c,true,0⟩) j = some b->(j = i/\b = ⟨c,true,0⟩) \/ (j ≠ i/\h j = some b) := by
  intro j b hj
  unfold upd at hj
  split at hj
  ·rename_i he
   simp only [Option.some.injEq] at hj
   exact .inl ⟨he,hj.symm⟩
  ·rename_i he
   exact .inr ⟨he,hj⟩
 refine ⟨fun j b hj => ?_,fun j k b b' B O B' O' hj hk hne hw hl hl' e1 e2 => ?_,fun j b B O hj ho e1 => ?_,r.mem,r.mp.of (Ker.le_refl κ) (fun j b hj _ => ?_) (fun B es ck hB _ => hMM B hB) fun _ _ _ _ _ _ _ _ _ h => h⟩
 ·rcases out j b hj with ⟨rfl,rfl⟩ | ⟨hne,hj'⟩
  ·obtain ⟨B,O,e1,e2,e3⟩ := r.blk j _ hi
   rw [hρ] at e1
   simp only [Option.some.injEq,Prod.mk.injEq] at e1
   obtain ⟨rfl,rfl⟩ := e1
   exact ⟨B0,O0,hρ,fun _ hl => h1 hl,fun off a ha => ⟨(e3 off a ha).1,fun _ => h2 off a ha⟩⟩
  ·obtain ⟨B,O,e1,e2,e3⟩ := r.blk j b hj'
   exact ⟨B,O,e1,fun hw hl => ⟨hMM B (e2 hw hl).1,(e2 hw hl).2⟩,e3⟩
 ·rcases out j b hj with ⟨rfl,rfl⟩ | ⟨hj1,hj'⟩
  ·rcases out k b' hk with ⟨rfl,rfl⟩ | ⟨hk1,hk'⟩
   ·exact absurd rfl hne
   ·rw [hρ] at e1
    simp only [Option.some.injEq,Prod.mk.injEq] at e1
    obtain ⟨rfl,rfl⟩ := e1
    exact Ne.symm (h3 hl k b' B' O' hk1 hk' hl' e2)
  ·rcases out k b' hk with ⟨rfl,rfl⟩ | ⟨hk1,hk'⟩
   ·rw [hρ] at e2
    simp only [Option.some.injEq,Prod.mk.injEq] at e2
    obtain ⟨rfl,rfl⟩ := e2
    exact h3 hl' j b B O hj1 hj' hl e1
   ·exact r.sep j k b b' B O B' O' hj' hk' hne hw hl hl' e1 e2
 ·rcases out j b hj with ⟨rfl,rfl⟩ | ⟨hj1,hj'⟩
  ·cases ho
  ·exact r.own j b B O hj' ho e1
 ·rcases out j b hj with ⟨rfl,rfl⟩ | ⟨hj1,hj'⟩
  ·exact .inr ⟨_,hi,rfl⟩
  ·exact .inl hj'
theorem b2q {f : FuncId} {F : lZ} (hF : COKv P gl f F) : COK P gl f (roF F) := by
 refine .inl ⟨hF.1,fun M w κ hs hh zs vals fr r hG hMG hr hle hup hfr hgrho hfrG hvs hsel hob => ?_⟩
 unfold roF at hsel
 split at hsel
 ·rename_i i x sz n l
  split at hsel
  ·rename_i c hsi
   split at hsel
   ·cases hsel
   ·rename_i hm
    obtain ⟨hsel,hno⟩ := pF hsel
    have hi : hh i = some ⟨c,true,0⟩ := hle _ _ hsi
    obtain ⟨B0,O0,hρ,hw0,hc0⟩ := hr.blk i _ hi
    have hle' : (upd hs i (some ⟨c,false,0⟩)).le (upd hh i (some ⟨c,false,0⟩)) := by
     intro j b hj
     unfold upd at hj ⊢
     split
     ·rename_i he; rw [if_pos he] at hj; exact hj
     ·rename_i he; rw [if_neg he] at hj; exact hle j b hj
    have k := hF.2 (fun B => M B/\(LiveB κ i ⟨c,true,0⟩->B ≠ B0)) w κ _ _ _ vals fr r hG (fun g hg hm => hMG g hg hm.1) (hr.shrink hi hm hρ) hle' (fun B hB => ⟨hup B hB,fun hl e => by have := (hw0 rfl hl).2.1; omega⟩) hfr hgrho hfrG hvs hsel hob
    refine k.mono fun e w' ⟨y,hy,g⟩ => ⟨y,hy,?_⟩
    obtain ⟨κ',k1,k2,k3,k4,k5,k6,k7⟩ := g
    have hρ' := k1.ρ _ _ hρ
    have hlv : LiveB κ' i ⟨c,true,0⟩->LiveB κ i ⟨c,true,0⟩ := by
     rintro (h1 | ⟨h1,_⟩)
     ·exact .inl h1
     ·cases h1
    have hblk : LiveB κ i ⟨c,true,0⟩->w'.heap[B0]? = w.heap[B0]? := fun hl => k5.block B0 (hw0 rfl hl).2.1 (fun hM => hM.2 hl rfl)
    have e1 : hh.ups r.up = upd ((upd hh i (some ⟨c,false,0⟩)).ups r.up) i (some ⟨c,true,0⟩) := by
     rw [<- iK i _ r.up _ (fun p hp => (hno p hp).1),jB,z6 hh i _ hi]
    have hio : ((upd hh i (some ⟨c,false,0⟩)).ups r.up) i = some ⟨c,false,0⟩ := by
     rw [iK i _ r.up _ (fun p hp => (hno p hp).1)]
     simp [upd]
    refine ⟨κ',k1,k2,k3,?_,k5.mono (fun _ _ h => h.1),fun a y h => (k6 a y h).imp id (·.1)⟩
    rw [e1]
    refine k4.hard (fun B h => h.1) hio hm hρ' (fun hl => ?_) (fun off a ha => ?_) (fun hl j b B O hne hj hlj hρj => ?_)
    ·obtain ⟨m1,m2,m3,m4⟩ := hw0 rfl (hlv hl)
     refine ⟨m1,Nat.lt_of_lt_of_le m2 k5.size,m3.same (hblk (hlv hl)),fun a x ha => ?_⟩
     rcases k7 a x ha with h1 | h1
     ·exact m4 a x h1
     ·exact h1.2 (hlv hl)
    ·have hl : LiveB κ i ⟨c,true,0⟩ := .inl ⟨off,a,ha⟩
     rw [World.frozen?_of_block (w := w) (a := ⟨B0,O0 + off,none⟩) (hblk hl)]
     exact (hc0 off a ha).2 rfl
    ·have hl := hlv hl
     rcases ups_cases _ _ _ _ hj with h1 | ⟨h1,h2⟩
     ·have hw := (hno _ h1).2 b rfl
      obtain ⟨B1,O1,q1,q2,_⟩ := k4.blk j b hj
      rw [hρj] at q1
      simp only [Option.some.injEq,Prod.mk.injEq] at q1
      obtain ⟨rfl,rfl⟩ := q1
      exact (q2 hw hlj).1.2 hl
     ·have h1 : hh j = some b := by
       unfold upd at h1
       rw [if_neg hne] at h1
       exact h1
      obtain ⟨p,hp⟩ := hr.named h1
      have := k1.ρ _ _ hp
      rw [hρj] at this
      simp only [Option.some.injEq] at this
      subst this
      have hlj' : LiveB κ j b := by
       rcases hlj with h3 | ⟨h3,h4⟩
       ·exact .inl h3
       ·exact .inr ⟨h3,by rw [k1.cap j (by rw [hp]; rfl)] at h4; exact h4⟩
      exact Ne.symm (hr.sep i j _ b B0 O0 B O hi h1 (Ne.symm hne) rfl hl hlj' hρ hp)
  ·cases hsel
 ·cases hsel
end
def Ctx.exeR (Γ : Ctx) (P : Program) (gl : Gl) (fuel : Nat) (f : FuncId) (fn : Func) : Ctx := Γ.add f (roF (mkF (bS P Γ gl [] fuel fn.params.size fn)))
theorem COKs.exeR {P : Program} {gl : Gl} {Γ : Ctx} (h : COKs P gl Γ) (fuel : Nat) {f : FuncId} {fn : Func} (hf : P.funcs[f]? = some fn) (hok : rR P Γ gl [] fuel fn.params.size fn = true) (hmix : P.follows .mixedOrders = true)
  (hcall : ∀ args w,(callFunc f args).run P w = .ok (.enter f args) w) : COKs P gl (Γ.exeR P gl fuel f fn) := h.add (b2q (lN [] fuel fn.params.size hf hok h hmix hcall))
end Go.Sym
namespace Go.Sym
theorem gM {P : Program} {f : FuncId} {fn : Func} {c : Code} (hf : P.funcs[f]? = some fn) (hname : (fn.name == "runtime.NumGoroutine") = false) (hb : fn.body = some c) (args : Array Value) (w : World) :
  (callFunc f args).run P w = .ok (.enter f args) w := by
 have h1 : fn.name ≠ "runtime.NumGoroutine" := by simpa using hname
 simp [callFunc,hf,h1,hb]
def exeS (P : Program) (gl : Gl) (fuel : Nat) : List (Nat × Func)->Ctx->Ctx
 | [],Γ => Γ
 | (f,fn)::l,Γ => exeS P gl fuel l (Γ.exe P gl [] fuel (fn.params.size + fn.nfree) f fn)
def okS (P : Program) (gl : Gl) (fuel : Nat) : List (Nat × Func)->Ctx->Bool
 | [],_ => true
 | (f, fn) :: l, Γ => !(fn.name == "runtime.NumGoroutine") && (rR P Γ gl [] fuel (fn.params.size + fn.nfree) fn && okS P gl fuel l (Γ.exe P gl [] fuel (fn.params.size + fn.nfree) f fn))
theorem COKs.exeS {P : Program} {gl : Gl} (fuel : Nat) (hmix : P.follows .mixedOrders = true) : ∀ (l : List (Nat × Func)) {Γ : Ctx},COKs P gl Γ->l.map (fun p => P.funcs[p.1]?) = l.map (fun p => some p.2)->okS P gl fuel l Γ = true->COKs P gl (exeS P gl fuel l Γ)
 | [],_,h,_,_ => h
 | (f,fn)::l,Γ,h,hf,ho => by
  simp only [List.map_cons,List.cons.injEq] at hf
  simp only [okS,Bool.and_eq_true,Bool.not_eq_true'] at ho
  refine COKs.exeS fuel hmix l ?_ hf.2 ho.2.2
  have hb : ∃ c,fn.body = some c := by
   have := ho.2.1
   unfold rR at this
   cases hb : fn.body with
   | none => rw [hb] at this; cases this
   | some c => exact ⟨c,rfl⟩
  obtain ⟨c,hb⟩ := hb
  exact h.exe [] fuel _ hf.1 ho.2.1 hmix fun args w => gM hf.1 ho.1 hb args w
theorem f1q {P : Program} {gl : Gl} {Γ : Ctx} {f : FuncId} {fn : Func} {sp : Spec} (fuel : Nat) (hG : sp.G = jR P Γ gl [] fuel fn) (hf : P.funcs[f]? = some fn) (hok : (match fn.body with | some c => fI fn sp [] c | none => false) = true) (hΓ : COKs P gl Γ) (hmix : P.follows .mixedOrders = true)
  (hn : (fn.name == "runtime.NumGoroutine") = false) : COK P gl f (mkF sp) := by
 cases hb : fn.body with
 | none => rw [hb] at hok; cases hok
 | some c =>
  rw [hb] at hok
  refine I4 [] fuel hf hb hok hΓ hmix (fun args w => gM hf hn hb args w) fun xs bs r hsel hob => ?_
  rw [hG] at hsel
  unfold jR at hsel
  rw [hb] at hsel
  simp only [kC] at hsel
  have h1 := TX.toTL_sel _ _ _ (fun m hm => hm) hsel hob
  exact ⟨_,dU,dS (np := bs.length) _ _ _ _ _ h1⟩
def Ctx.exeK (Γ : Ctx) (P : Program) (gl : Gl) (fuel : Nat) (ks : List Kd) (f : FuncId) (fn : Func) : Ctx := Γ.add f (mkF ⟨ks,fun _ _ => [],fun _ _ => [],jR P Γ gl [] fuel fn⟩)
theorem COKs.exeK {P : Program} {gl : Gl} {Γ : Ctx} (h : COKs P gl Γ) (fuel : Nat) (ks : List Kd) (hmix : P.follows .mixedOrders = true) {f : FuncId} {fn : Func} (hf : P.funcs[f]? = some fn) (hn : (fn.name == "runtime.NumGoroutine") = false)
  (hok : (match fn.body with | some c => fI fn ⟨ks,fun _ _ => [],fun _ _ => [],jR P Γ gl [] fuel fn⟩ [] c | Option.none => false) = true) : COKs P gl (Γ.exeK P gl fuel ks f fn) := h.add (f1q fuel rfl hf hok h hmix hn)
theorem COKs.exeRn {P : Program} {gl : Gl} {Γ : Ctx} (h : COKs P gl Γ) (fuel : Nat) (hmix : P.follows .mixedOrders = true) {f : FuncId} {fn : Func} (hf : P.funcs[f]? = some fn) (hn : (fn.name == "runtime.NumGoroutine") = false) (hok : rR P Γ gl [] fuel fn.params.size fn = true) : COKs P gl (Γ.exeR P gl fuel f fn) := by
 have hb : ∃ c,fn.body = some c := by
  have := hok
  unfold rR at this
  cases hb : fn.body with
  | none => rw [hb] at this; cases this
  | some c => exact ⟨c,rfl⟩
 obtain ⟨c,hb⟩ := hb
 exact h.exeR fuel hf hok hmix fun args w => gM hf hn hb args w
end Go.Sym
namespace Go.Spec
open Go.Sym
noncomputable def wY (k iv : By) (q : BitVec 64) (t : Int) (b : By) : F8 := mQ fun i => (bW (fun j => k.getD j 0) (fun j => iv.getD j 0) q t b).getD i 0
theorem a2q (k iv : F8) (q : BitVec 64) (t : Int) (b : By) : bW (fun j => (rg 32 k).getD j 0) (fun j => (rg 12 iv).getD j 0) q t b = bW k iv q t b := by
 unfold bW
 rw [K5]
 rfl
theorem i5 (k iv : F8) (q : BitVec 64) (t : Int) (b : By) : (bW k iv q t b).length = b.length + 17 := by
 unfold bW
 rw [wF]
 simp
theorem iL (k iv : F8) (q : BitVec 64) (t : Int) (b : By) : rg (b.length + 17) (wY (rg 32 k) (rg 12 iv) q t b) = bW k iv q t b := by
 unfold wY
 rw [vQ,a2q]
 exact nR 0 (i5 k iv q t b)
noncomputable def P2 (s p : By) : By := rg 32 (eR (uM s) (uM p))
noncomputable def lW (s p : By) : Bool := okB (eR (uM s) (uM p))
noncomputable def b0z (s : By) : F8 := eR (uM s) (uM (9#8::List.replicate 31 0#8))
end Go.Spec
namespace Go.Sym
open Go.Proofs Go.Spec
noncomputable def a1k (xs : List AV) (bs : List ABlk) : TL := match xs,bs with
 | [.agg cs,.u64 q,.int .i64 t,.rb false b .unk,.int .i64 (.ofNat 0)],[] => asK cs fun k iv => .ok ⟨[20<=t/\t<=23/\b.length<=256],.tup [.slice 0 0 1 (b.length + 22) .ow .unk,.int .i64 0],[],[⟨.bytes (hdL (b.length + 17)++rg (b.length + 17) (wY (rg 32 k) (rg 12 iv) q t b)),true,1⟩]⟩
 | _,_ => .no
theorem cSeal : COK Tryz.prog gl0 89 (mkF ⟨[.kp,.kp,.kp,.by0,.kp],fun _ _ => [],fun _ _ => [],a1k⟩) := by
 refine yY (fn := Tryz.f89) [] 3000 (by kernel_rfl) (by kernel_rfl) okL29 (by kernel_rfl) (fun args w => by kernel_rfl) fun xs bs r hs ho => ?_
 simp only [a1k] at hs
 split at hs
 ·obtain ⟨k,iv,e,hs⟩ := iD hs
  cases hs
  rw [e]
  have o := zA.1 ho
  rw [iL]
  exact ⟨_,bSl _ _ _ _ _ o.1 o.2.1 o.2.2⟩
 ·cases hs
noncomputable def z1v (x : By) (t : Int) (xs : List AV) (bs : List ABlk) : TL := match xs,bs with
 | [.agg cs,.u64 q,.rb false b .unk],[] => asK cs fun k iv => .ok ⟨[b = rg (x.length + 17) (wY (rg 32 k) (rg 12 iv) q t x)/\20<=t/\t<=23/\x.length<=256],.tup [.int .i64 t,.slice 0 0 1 x.length (.kn x.length) .unk,.int .i64 0],[],[⟨.bytes (x++[BitVec.ofInt 8 t]),true,1⟩]⟩
 | _,_ => .no
theorem cOpen (x : By) (t : Int) : COK Tryz.prog gl0 100 (mkF ⟨[.kp,.kp,.by0],fun _ _ => [],fun _ _ => [],z1v x t⟩) := by
 refine yY (fn := Tryz.f100) [] 3000 (by kernel_rfl) (by kernel_rfl) (okL32.withSym [40,48]) (by kernel_rfl) (fun args w => by kernel_rfl) fun xs bs r hs ho => ?_
 simp only [z1v] at hs
 split at hs
 ·obtain ⟨k,iv,e,hs⟩ := iD hs
  cases hs
  rw [e]
  have o := zA.1 ho
  exact ⟨_,bRo _ _ _ _ _ _ o.2.1 o.2.2.1 o.2.2.2 (o.1.trans (iL k iv _ t x))⟩
 ·cases hs
noncomputable def a0z (xs : List AV) (bs : List ABlk) : TL := match xs,bs with
 | [.rb false a .unk,.rb false b .unk],[] => .ok ⟨[a.length < 4611686018427387904/\a = b],.bool true,[],[]⟩
 | _,_ => .no
theorem cSame : COK Tryz.prog gl0 143 (mkF ⟨[.by0,.by0],fun _ _ => [],fun _ _ => [],a0z⟩) := by
 refine yY (fn := Tryz.f143) [] 3000 (by kernel_rfl) (by kernel_rfl) okB5 (by kernel_rfl) (fun args w => by kernel_rfl) fun xs bs r hs ho => ?_
 simp only [a0z] at hs
 split at hs
 ·cases hs
  have o := zA.1 ho
  rw [show true = decide (_ = _) from (decide_eq_true o.2).symm]
  exact ⟨_,b17 _ _ o.1⟩
 ·cases hs
noncomputable def gShd (S : F8) (xs : List AV) : TL := match xs with | [.agg cs,.agg ds] => bE 32 cs fun s => bE 32 ds fun p => .ok ⟨[P2 (rg 32 s) (rg 32 p) = rg 32 S/\lW (rg 32 s) (rg 32 p) = true],.tup [aggB 32 S,.bool true],[],[]⟩ | _ => .no
theorem iM (s : F8) : aggB 32 (uM (rg 32 s)) = aggB 32 s := by kernel_rfl
theorem z2z {s t : F8} (h : rg 32 s = rg 32 t) : aggB 32 s = aggB 32 t := by
 rw [<- iM s,<- iM t,h]
theorem cShd (S : F8) : COK Tryz.prog gl0 161 (mkF (qL 2 (gShd S))) := by
 refine yY (fn := Tryz.f161) [] 3000 (by kernel_rfl) (by kernel_rfl) (okV6.withSym [27,28]) (by kernel_rfl) (fun args w => by kernel_rfl) fun xs bs r hs ho => ?_
 obtain ⟨rfl,hs0⟩ := yS hs
 clear hs
 rename (TL.sel _ = _) => hs
 unfold gShd at hs
 split at hs
 ·obtain ⟨x,e,hs⟩ := yZ hs
  obtain ⟨y,e2,hs⟩ := yZ hs
  cases hs
  have o := zA.1 ho
  have h := bshr (uM (rg 32 x)) (uM (rg 32 y))
  rw [<- D7,show okB (eR (uM (rg 32 x)) (uM (rg 32 y))) = true from o.2,z2z (s := eR (uM (rg 32 x)) (uM (rg 32 y))) (t := S) o.1] at h
  rw [e,e2,<- iM x,<- iM y]
  exact ⟨_,h⟩
 ·cases hs
end Go.Sym
namespace Go.Spec
open Go.Sym Go.Num
theorem z0x (n j : Nat) : (List.replicate n (0#8 : BitVec 8)).getD j 0 = 0#8 := by
 rw [List.getD_eq_getElem?_getD,List.getElem?_replicate]
 split <;> rfl
theorem E6 (t : By) : ∃ m,Is (uM (rg 32 (b0z t))) (1 * m)/\m = vl (claL (uM t)) 255 := by
 have h9 : Is (uM (9#8::List.replicate 31 0#8)) 1 := is_9 rfl fun i h0 h1 => by
  obtain ⟨j,rfl⟩ : ∃ j,i = j + 1 := ⟨i - 1,by omega⟩
  exact z0x 31 j
 exact ⟨_,(Is.sh (uM t) h9).congr (fun i hi => gP _ _ _ _ hi),rfl⟩
theorem y2z (s t : By) : P2 s (rg 32 (b0z t)) = P2 t (rg 32 (b0z s)) := by
 obtain ⟨m,h1,e1⟩ := E6 t
 obtain ⟨k,h2,e2⟩ := E6 s
 unfold P2
 rw [Is.eq (s := uM s) (t := uM t) h1 h2 (by rw [e1,e2,Nat.one_mul,Nat.one_mul,Nat.mul_comm])]
theorem okT_eq (s t : By) : lW s (rg 32 (b0z t)) = true := by
 obtain ⟨m,h1,e1⟩ := E6 t
 exact (Is.sh (uM s) h1).ok
end Go.Spec
namespace Go.Sym
open Go.Proofs Go.Spec
def clA (l : By) : RL := ⟨[l.length < 1099511627776],.slice 0 0 1 l.length .ow .unk,[],[⟨.bytes l,true,1⟩]⟩
set_option maxRecDepth 100000 in
theorem vClo (p b : Bool) (l M : By) (L : Nat) : bq V8 Tryz.f70 0 [.rb p l (.is b)] [] ⟨[],.slice 0 0 1 L .ow .unk,[],[⟨.bytes M,true,1⟩]⟩ = (
@Bool.rec (fun _ => Prop) (0 = 0/\zD 0 (List.length l) 1/\0 = 0/\0 = 0/\0 = 0/\L = 0 + List.length l/\M = []++l/\True) (L = 0/\M = []/\True) b : Prop) := by kernel_rfl
theorem bClo (p b : Bool) (l : By) (hb : b = true->l = []) (hl : l.length < 1099511627776) : Must (bq V8 Tryz.f70 0 [.rb p l (.is b)] [] ⟨[],.slice 0 0 1 l.length .ow .unk,[],[⟨.bytes l,true,1⟩]⟩) := by
 constructor
 rw [vClo]
 refine yE (fun h => ?_) (fun h => ?_)
 ·rw [hb h]; exact ⟨rfl,rfl,trivial⟩
 ·exact ⟨rfl,by unfold zD; omega,rfl,rfl,rfl,by omega,rfl,trivial⟩
theorem cClo : COK Tryz.prog gl0 70 (mkF (uN clA)) := by
 refine COK.unk ?_
 refine yY (fn := Tryz.f70) [] 3000 (by kernel_rfl) (by kernel_rfl) okV8 (by kernel_rfl) (fun args w => by kernel_rfl) fun xs bs r hs ho => ?_
 replace hs : (nilG clA xs bs).sel = some r := hs
 unfold nilG at hs
 split at hs
 ·simp only [TL.sel,Option.some.injEq] at hs
  subst hs
  obtain ⟨h1,h2⟩ := zJ.1 ho
  exact ⟨_,bClo _ _ _ h1 (zA.1 h2)⟩
 ·simp [TL.sel] at hs
noncomputable def N0 : Ctx := exeS Tryz.prog gl0 3000 [(118,Tryz.f118),(93,Tryz.f93)] (V8.add 70 (mkF (uN clA)))
theorem okN0 : COKs Tryz.prog gl0 N0 := (okV8.add cClo).exeS 3000 (by kernel_rfl) _ (by kernel_rfl) (by kernel_rfl)
set_option maxRecDepth 100000 in
theorem vPu1 (b M : By) (n : Int) (L : Nat) : bq N0 Tryz.f94 0 [.rb false b .unk,.int .i64 n,.int .i64 1] [] ⟨[],.slice 0 0 1 L .ow (.is false),[],[⟨.bytes M,true,1⟩]⟩ = (
@Bool.rec (fun _ => Prop) (Bool.false = Bool.true/\L = 0/\M = []/\True) ((0 : Int)<=Int.ofNat 8/\@Bool.rec (fun _ => Prop) (List.length b < 1099511627776/\(0 : Int)<=Int.ofNat 0/\1 = [BitVec.ofInt 8 (n.fdiv (Int.ofNat 1))].length/\List.length b = List.length b/\zD (List.length b) [BitVec.ofInt 8 (n.fdiv (Int.ofNat 1))].length 1/\Bool.false = Bool.false/\0 < List.length b + [BitVec.ofInt 8 (n.fdiv (Int.ofNat 1))].length/\0 = 0/\0 = 0/\0 = 0/\L = List.length b + [BitVec.ofInt 8 (n.fdiv (Int.ofNat 1))].length/\M = b++[BitVec.ofInt 8 (n.fdiv (Int.ofNat 1))]/\True) (Bool.false = Bool.true/\L = 0/\M = []/\True) !decide (n.fdiv (Int.ofNat 256) = (0 : Int))) !decide (n < (0 : Int)) : Prop) := by kernel_rfl
set_option maxRecDepth 100000 in
theorem vPu2 (b M : By) (n : Int) (L : Nat) : bq N0 Tryz.f94 0 [.rb false b .unk,.int .i64 n,.int .i64 2] [] ⟨[],.slice 0 0 1 L .ow (.is false),[],[⟨.bytes M,true,1⟩]⟩ = (
let x1 := [BitVec.ofInt 8 (n.fdiv (Int.ofNat 256))]; @Bool.rec (fun _ => Prop) (Bool.false = Bool.true/\L = 0/\M = []/\True) ((0 : Int)<=Int.ofNat 16/\@Bool.rec (fun _ => Prop) (List.length b < 1099511627776/\(0 : Int)<=Int.ofNat 8/\1 = x1.length/\List.length b = List.length b/\zD (List.length b) x1.length 1/\(0 : Int)<=Int.ofNat 0/\1 = [BitVec.ofInt 8 (n.fdiv (Int.ofNat 1))].length/\List.length b + x1.length = (b++x1).length/\zD (List.length b + x1.length) [BitVec.ofInt 8 (n.fdiv (Int.ofNat 1))].length 1/\Bool.false = Bool.false/\0 < List.length b + x1.length + [BitVec.ofInt 8 (n.fdiv (Int.ofNat 1))].length/\0 = 0/\0 = 0/\0 = 0/\L = List.length b + x1.length + [BitVec.ofInt 8 (n.fdiv (Int.ofNat 1))].length/\M = b++x1++[BitVec.ofInt 8 (n.fdiv (Int.ofNat 1))]/\True) (Bool.false = Bool.true/\L = 0/\M = []/\True) !decide (n.fdiv (Int.ofNat 65536) = (0 : Int))) !decide (n < (0 : Int)) : Prop) := by kernel_rfl
set_option maxRecDepth 100000 in
theorem vPu3 (b M : By) (n : Int) (L : Nat) : bq N0 Tryz.f94 0 [.rb false b .unk,.int .i64 n,.int .i64 3] [] ⟨[],.slice 0 0 1 L .ow (.is false),[],[⟨.bytes M,true,1⟩]⟩ = (
let x1 := [BitVec.ofInt 8 (n.fdiv (Int.ofNat 65536))]; let x2 := [BitVec.ofInt 8 (n.fdiv (Int.ofNat 256))]; @Bool.rec (fun _ => Prop) (Bool.false = Bool.true/\L = 0/\M = []/\True) ((0 : Int)<=Int.ofNat 24/\@Bool.rec (fun _ => Prop) (List.length b < 1099511627776/\(0 : Int)<=Int.ofNat 16/\1 = x1.length/\List.length b = List.length b/\zD (List.length b) x1.length 1/\(0 : Int)<=Int.ofNat 8/\1 = x2.length/\List.length b + x1.length = (b++x1).length/\zD (List.length b + x1.length) x2.length 1/\(0 : Int)<=Int.ofNat 0/\1 = [BitVec.ofInt 8 (n.fdiv (Int.ofNat 1))].length/\List.length b + x1.length + x2.length = (b++x1++x2).length/\zD (List.length b + x1.length + x2.length) [BitVec.ofInt 8 (n.fdiv (Int.ofNat 1))].length 1/\Bool.false = Bool.false/\0 < List.length b + x1.length + x2.length + [BitVec.ofInt 8 (n.fdiv (Int.ofNat 1))].length/\0 = 0/\0 = 0/\0 = 0/\L = List.length b + x1.length + x2.length + [BitVec.ofInt 8 (n.fdiv (Int.ofNat 1))].length/\M = b++x1++x2++[BitVec.ofInt 8 (n.fdiv (Int.ofNat 1))]/\True) (Bool.false = Bool.true/\L = 0/\M = []/\True) !decide (n.fdiv (Int.ofNat 16777216) = (0 : Int))) !decide (n < (0 : Int)) : Prop) := by kernel_rfl
set_option maxRecDepth 100000 in
theorem vPu4 (b M : By) (n : Int) (L : Nat) : bq N0 Tryz.f94 0 [.rb false b .unk,.int .i64 n,.int .i64 4] [] ⟨[],.slice 0 0 1 L .ow (.is false),[],[⟨.bytes M,true,1⟩]⟩ = (
let x1 := [BitVec.ofInt 8 (n.fdiv (Int.ofNat 16777216))]; let x2 := [BitVec.ofInt 8 (n.fdiv (Int.ofNat 65536))]; let x3 := [BitVec.ofInt 8 (n.fdiv (Int.ofNat 256))]; @Bool.rec (fun _ => Prop) (Bool.false = Bool.true/\L = 0/\M = []/\True) ((0 : Int)<=Int.ofNat 32/\@Bool.rec (fun _ => Prop) (List.length b < 1099511627776/\(0 : Int)<=Int.ofNat 24/\1 = x1.length/\List.length b = List.length b/\zD (List.length b) x1.length 1/\(0 : Int)<=Int.ofNat 16/\1 = x2.length/\List.length b + x1.length = (b++x1).length/\zD (List.length b + x1.length) x2.length 1/\(0 : Int)<=Int.ofNat 8/\1 = x3.length/\List.length b + x1.length + x2.length = (b++x1++x2).length/\zD (List.length b + x1.length + x2.length) x3.length 1/\(0 : Int)<=Int.ofNat 0/\1 = [BitVec.ofInt 8 (n.fdiv (Int.ofNat 1))].length/\List.length b + x1.length + x2.length + x3.length = (b++x1++x2++x3).length/\zD (List.length b + x1.length + x2.length + x3.length) [BitVec.ofInt 8 (n.fdiv (Int.ofNat 1))].length 1/\Bool.false = Bool.false/\0 < List.length b + x1.length + x2.length + x3.length + [BitVec.ofInt 8 (n.fdiv (Int.ofNat 1))].length/\0 = 0/\0 = 0/\0 = 0/\L = List.length b + x1.length + x2.length + x3.length + [BitVec.ofInt 8 (n.fdiv (Int.ofNat 1))].length/\M = b++x1++x2++x3++[BitVec.ofInt 8 (n.fdiv (Int.ofNat 1))]/\True) (Bool.false = Bool.true/\L = 0/\M = []/\True) !decide (n.fdiv (Int.ofNat 4294967296) = (0 : Int))) !decide (n < (0 : Int)) : Prop) := by kernel_rfl
end Go.Sym
namespace Go.Spec
def be (w : Nat) (n : Int) : By := match w with
 | 1 => [BitVec.ofInt 8 (n.fdiv (Int.ofNat 1))]
 | 2 => [BitVec.ofInt 8 (n.fdiv (Int.ofNat 256)),BitVec.ofInt 8 (n.fdiv (Int.ofNat 1))]
 | 3 => [BitVec.ofInt 8 (n.fdiv (Int.ofNat 65536)),BitVec.ofInt 8 (n.fdiv (Int.ofNat 256)),BitVec.ofInt 8 (n.fdiv (Int.ofNat 1))]
 | _ => [BitVec.ofInt 8 (n.fdiv (Int.ofNat 16777216)),BitVec.ofInt 8 (n.fdiv (Int.ofNat 65536)),BitVec.ofInt 8 (n.fdiv (Int.ofNat 256)),BitVec.ofInt 8 (n.fdiv (Int.ofNat 1))]
end Go.Spec
namespace Go.Sym
open Go.Proofs Go.Spec
theorem fd0 {n m : Int} (h0 : 0<=n) (h1 : n < m) : n.fdiv m = 0 := by rw [Int.fdiv_eq_ediv_of_nonneg _ (by omega)]; exact Int.ediv_eq_zero_of_lt h0 h1
def sP (b : By) (w : Nat) (n : Int) : RL := ⟨[],.slice 0 0 1 (b.length + w) .ow (.is false),[],[⟨.bytes (b++be w n),true,1⟩]⟩
theorem bPu1 (b : By) (n : Int) (h0 : 0<=n) (h1 : n < 256) (hb : b.length < 1000000000000) : Must (bq N0 Tryz.f94 0 [.rb false b .unk,.int .i64 n,.int .i64 1] [] (sP b 1 n)) := by
 constructor
 unfold sP
 rw [vPu1]
 refine yE (fun _ => ⟨by decide,yE (fun g => absurd (fd0 h0 h1) (by simpa using g)) (fun _ => ?_)⟩) (fun g => absurd h0 (by simpa using g))
 repeat refine And.intro (by first | rfl | omega | (simp; done) | (unfold zD; simp <;> omega) | (simp; omega)) ?_
 first | trivial | simp [be]
theorem bPu2 (b : By) (n : Int) (h0 : 0<=n) (h1 : n < 65536) (hb : b.length < 1000000000000) : Must (bq N0 Tryz.f94 0 [.rb false b .unk,.int .i64 n,.int .i64 2] [] (sP b 2 n)) := by
 constructor
 unfold sP
 rw [vPu2]
 dsimp only
 refine yE (fun _ => ⟨by decide,yE (fun g => absurd (fd0 h0 h1) (by simpa using g)) (fun _ => ?_)⟩) (fun g => absurd h0 (by simpa using g))
 repeat refine And.intro (by first | rfl | omega | (simp; done) | (unfold zD; simp <;> omega) | (simp [be]; done) | (simp; omega)) ?_
 trivial
theorem bPu3 (b : By) (n : Int) (h0 : 0<=n) (h1 : n < 16777216) (hb : b.length < 1000000000000) : Must (bq N0 Tryz.f94 0 [.rb false b .unk,.int .i64 n,.int .i64 3] [] (sP b 3 n)) := by
 constructor
 unfold sP
 rw [vPu3]
 dsimp only
 refine yE (fun _ => ⟨by decide,yE (fun g => absurd (fd0 h0 h1) (by simpa using g)) (fun _ => ?_)⟩) (fun g => absurd h0 (by simpa using g))
 repeat refine And.intro (by first | rfl | omega | (simp; done) | (unfold zD; simp <;> omega) | (simp [be]; done) | (simp; omega)) ?_
 trivial
theorem bPu4 (b : By) (n : Int) (h0 : 0<=n) (h1 : n < 4294967296) (hb : b.length < 1000000000000) : Must (bq N0 Tryz.f94 0 [.rb false b .unk,.int .i64 n,.int .i64 4] [] (sP b 4 n)) := by
 constructor
 unfold sP
 rw [vPu4]
 dsimp only
 refine yE (fun _ => ⟨by decide,yE (fun g => absurd (fd0 h0 h1) (by simpa using g)) (fun _ => ?_)⟩) (fun g => absurd h0 (by simpa using g))
 repeat refine And.intro (by first | rfl | omega | (simp; done) | (unfold zD; simp <;> omega) | (simp [be]; done) | (simp; omega)) ?_
 trivial
def gPu (xs : List AV) (bs : List ABlk) : TL := match xs,bs with
 | [.rb false b .unk,.int .i64 n,.int .i64 (.ofNat w)],[] => (match w with
  | 1 => .ok ⟨[0<=n/\n < 256/\b.length < 1000000000000],(sP b 1 n).v,[],(sP b 1 n).nw⟩
  | 2 => .ok ⟨[0<=n/\n < 65536/\b.length < 1000000000000],(sP b 2 n).v,[],(sP b 2 n).nw⟩
  | 3 => .ok ⟨[0<=n/\n < 16777216/\b.length < 1000000000000],(sP b 3 n).v,[],(sP b 3 n).nw⟩
  | 4 => .ok ⟨[0<=n/\n < 4294967296/\b.length < 1000000000000],(sP b 4 n).v,[],(sP b 4 n).nw⟩
  | _ => .no)
 | _,_ => .no
theorem cPu : COK Tryz.prog gl0 94 (mkF ⟨[.by0,.kp,.kp],fun _ _ => [],fun _ _ => [],gPu⟩) := by
 refine yY (fn := Tryz.f94) [] 3000 (by kernel_rfl) (by kernel_rfl) okN0 (by kernel_rfl) (fun args w => by kernel_rfl) fun xs bs r hs ho => ?_
 simp only [gPu] at hs
 split at hs
 ·split at hs <;> first | (cases hs; done) | skip
  ·cases hs; have o := zA.1 ho; exact ⟨_,bPu1 _ _ o.1 o.2.1 o.2.2⟩
  ·cases hs; have o := zA.1 ho; exact ⟨_,bPu2 _ _ o.1 o.2.1 o.2.2⟩
  ·cases hs; have o := zA.1 ho; exact ⟨_,bPu3 _ _ o.1 o.2.1 o.2.2⟩
  ·cases hs; have o := zA.1 ho; exact ⟨_,bPu4 _ _ o.1 o.2.1 o.2.2⟩
 ·cases hs
noncomputable def N1 : Ctx := N0.add 94 (mkF ⟨[.by0,.kp,.kp],fun _ _ => [],fun _ _ => [],gPu⟩)
theorem okN1 : COKs Tryz.prog gl0 N1 := okN0.add cPu
set_option maxRecDepth 100000 in
theorem vPv1 (b v M : By) (L : Nat) : bq N1 Tryz.f95 0 [.rb false b .unk,.rb false v .unk,.int .i64 1] [] ⟨[],.slice 0 0 1 L .ow (.is false),[],[⟨.bytes M,true,1⟩]⟩ = (
((0 : Int)<=(↑(List.length v) : Int)/\(↑(List.length v) : Int) < (256 : Int)/\List.length b < 1000000000000)/\List.length b + 1 = List.length (b++be 1 (↑(List.length v) : Int))/\zD (List.length b + 1) (List.length v) 1/\Bool.false = (Bool.false && decide (List.length v = 0))/\0 = 0/\0 = 0/\0 = 0/\L = List.length b + 1 + List.length v/\M = b++be 1 (↑(List.length v) : Int)++v/\True : Prop) := by kernel_rfl
set_option maxRecDepth 100000 in
theorem vPv2 (b v M : By) (L : Nat) : bq N1 Tryz.f95 0 [.rb false b .unk,.rb false v .unk,.int .i64 2] [] ⟨[],.slice 0 0 1 L .ow (.is false),[],[⟨.bytes M,true,1⟩]⟩ = (
((0 : Int)<=(↑(List.length v) : Int)/\(↑(List.length v) : Int) < (65536 : Int)/\List.length b < 1000000000000)/\List.length b + 2 = List.length (b++be 2 (↑(List.length v) : Int))/\zD (List.length b + 2) (List.length v) 1/\Bool.false = (Bool.false && decide (List.length v = 0))/\0 = 0/\0 = 0/\0 = 0/\L = List.length b + 2 + List.length v/\M = b++be 2 (↑(List.length v) : Int)++v/\True : Prop) := by kernel_rfl
set_option maxRecDepth 100000 in
theorem vPv3 (b v M : By) (L : Nat) : bq N1 Tryz.f95 0 [.rb false b .unk,.rb false v .unk,.int .i64 3] [] ⟨[],.slice 0 0 1 L .ow (.is false),[],[⟨.bytes M,true,1⟩]⟩ = (
((0 : Int)<=(↑(List.length v) : Int)/\(↑(List.length v) : Int) < (16777216 : Int)/\List.length b < 1000000000000)/\List.length b + 3 = List.length (b++be 3 (↑(List.length v) : Int))/\zD (List.length b + 3) (List.length v) 1/\Bool.false = (Bool.false && decide (List.length v = 0))/\0 = 0/\0 = 0/\0 = 0/\L = List.length b + 3 + List.length v/\M = b++be 3 (↑(List.length v) : Int)++v/\True : Prop) := by kernel_rfl
theorem e1q (n : Int) : (be 1 n).length = 1 := rfl
theorem d1q (n : Int) : (be 2 n).length = 2 := rfl
theorem c1q (n : Int) : (be 3 n).length = 3 := rfl
def E7 (b v : By) (w : Nat) : RL := ⟨[],.slice 0 0 1 (b.length + w + v.length) .ow (.is false),[],[⟨.bytes (b++be w v.length++v),true,1⟩]⟩
theorem bPv1 (b v : By) (h1 : v.length < 256) (hb : b.length < 1000000000000) : Must (bq N1 Tryz.f95 0 [.rb false b .unk,.rb false v .unk,.int .i64 1] [] (E7 b v 1)) := by
 constructor
 unfold E7
 rw [vPv1]
 exact ⟨⟨by omega,by omega,hb⟩,by rw [List.length_append,e1q],by unfold zD; omega,rfl,rfl,rfl,rfl,rfl,rfl,trivial⟩
theorem bPv2 (b v : By) (h1 : v.length < 65536) (hb : b.length < 1000000000000) : Must (bq N1 Tryz.f95 0 [.rb false b .unk,.rb false v .unk,.int .i64 2] [] (E7 b v 2)) := by
 constructor
 unfold E7
 rw [vPv2]
 exact ⟨⟨by omega,by omega,hb⟩,by rw [List.length_append,d1q],by unfold zD; omega,rfl,rfl,rfl,rfl,rfl,rfl,trivial⟩
theorem bPv3 (b v : By) (h1 : v.length < 16777216) (hb : b.length < 1000000000000) : Must (bq N1 Tryz.f95 0 [.rb false b .unk,.rb false v .unk,.int .i64 3] [] (E7 b v 3)) := by
 constructor
 unfold E7
 rw [vPv3]
 exact ⟨⟨by omega,by omega,hb⟩,by rw [List.length_append,c1q],by unfold zD; omega,rfl,rfl,rfl,rfl,rfl,rfl,trivial⟩
def gPv (xs : List AV) (bs : List ABlk) : TL := match xs,bs with
 | [.rb false b .unk,.rb false v .unk,.int .i64 (.ofNat w)],[] => (match w with
  | 1 => .ok ⟨[v.length < 256/\b.length < 1000000000000],(E7 b v 1).v,[],(E7 b v 1).nw⟩
  | 2 => .ok ⟨[v.length < 65536/\b.length < 1000000000000],(E7 b v 2).v,[],(E7 b v 2).nw⟩
  | 3 => .ok ⟨[v.length < 16777216/\b.length < 1000000000000],(E7 b v 3).v,[],(E7 b v 3).nw⟩
  | _ => .no)
 | _,_ => .no
theorem cPv : COK Tryz.prog gl0 95 (mkF ⟨[.by0,.by0,.kp],fun _ _ => [],fun _ _ => [],gPv⟩) := by
 refine yY (fn := Tryz.f95) [] 3000 (by kernel_rfl) (by kernel_rfl) okN1 (by kernel_rfl) (fun args w => by kernel_rfl) fun xs bs r hs ho => ?_
 simp only [gPv] at hs
 split at hs
 ·split at hs <;> first | (cases hs; done) | skip
  ·cases hs; have o := zA.1 ho; exact ⟨_,bPv1 _ _ o.1 o.2⟩
  ·cases hs; have o := zA.1 ho; exact ⟨_,bPv2 _ _ o.1 o.2⟩
  ·cases hs; have o := zA.1 ho; exact ⟨_,bPv3 _ _ o.1 o.2⟩
 ·cases hs
noncomputable def N2 : Ctx := exeS Tryz.prog gl0 3000 [(122,Tryz.f122),(125,Tryz.f125),(148,Tryz.f148),(126,Tryz.f126),(210,Tryz.f210),(209,Tryz.f209)] (N1.add 95 (mkF ⟨[.by0,.by0,.kp],fun _ _ => [],fun _ _ => [],gPv⟩))
theorem okN2 : COKs Tryz.prog gl0 N2 := (okN1.add cPv).exeS 3000 (by kernel_rfl) _ (by kernel_rfl) (by kernel_rfl)
set_option maxRecDepth 100000 in
theorem vBy0 (l M : By) (n m L o' n' : Nat) : bq N2 Tryz.f124 2 [.ptr 0 0 0 0,.int .i64 (m : Int)] [⟨.cells [.slice 1 0 1 n .ow .unk,.int .i64 0],true,0⟩,⟨.bytes l,true,1⟩] ⟨[],.slice 2 0 1 L .ow .unk,[some (some ⟨.cells [.slice 1 o' 1 n' .ox .unk,.int .i64 0],true,0⟩),some (some ⟨.bytes l,true,1⟩)],[⟨.bytes M,true,1⟩]⟩ = (
@Bool.rec (fun _ => Prop) ((0 : Int)<=(↑m : Int)/\(↑m : Int).toNat<=n/\0 + (↑m : Int).toNat<=List.length l/\(List.take (↑m : Int).toNat l).length < 1099511627776/\(0 : Int)<=(↑m : Int)/\(↑m : Int).toNat<=n/\0 = 0/\0 = 0/\0 = 0/\L = (List.take (↑m : Int).toNat l).length/\o' = (↑m : Int).toNat/\0 = 0/\o' = (↑m : Int).toNat/\n' = kE n (↑m : Int).toNat/\(0 : Int) = (0 : Int)/\l = l/\M = List.take (↑m : Int).toNat l/\True) (L = 0/\o' = 0/\0 = 0/\o' = 0/\n' = n/\(0 : Int) = (2 : Int)/\l = l/\M = []/\True) (decide ((↑n : Int) < (↑m : Int))) : Prop) := by kernel_rfl
set_option maxRecDepth 100000 in
theorem vBy1 (l M : By) (o n m L o' n' : Nat) : bq N2 Tryz.f124 2 [.ptr 0 0 0 0,.int .i64 (m : Int)] [⟨.cells [.slice 1 o 1 n .ox .unk,.int .i64 0],true,0⟩,⟨.bytes l,true,1⟩] ⟨[],.slice 2 0 1 L .ow .unk,[some (some ⟨.cells [.slice 1 o' 1 n' .ox .unk,.int .i64 0],true,0⟩),some (some ⟨.bytes l,true,1⟩)],[⟨.bytes M,true,1⟩]⟩ = (
@Bool.rec (fun _ => Prop) ((0 : Int)<=(↑m : Int)/\(↑m : Int).toNat<=n/\vZ o 0 + (↑m : Int).toNat<=List.length l/\(List.take (↑m : Int).toNat (mN (vZ o 0) l)).length < 1099511627776/\(0 : Int)<=(↑m : Int)/\(↑m : Int).toNat<=n/\0 = 0/\0 = 0/\0 = 0/\L = (List.take (↑m : Int).toNat (mN (vZ o 0) l)).length/\o' = vZ o (↑m : Int).toNat/\0 = 0/\o' = vZ o (↑m : Int).toNat/\n' = kE n (↑m : Int).toNat/\(0 : Int) = (0 : Int)/\l = l/\M = List.take (↑m : Int).toNat (mN (vZ o 0) l)/\True) (L = 0/\o' = o/\0 = 0/\o' = o/\n' = n/\(0 : Int) = (2 : Int)/\l = l/\M = []/\True) (decide ((↑n : Int) < (↑m : Int))) : Prop) := by kernel_rfl
def bY (o n : Nat) (c : Cap) : ABlk := ⟨.cells [.slice 1 o 1 n c .unk,.int .i64 0],true,0⟩
def bZ (l : By) : ABlk := ⟨.bytes l,true,1⟩
def rBy (l : By) (o n m : Nat) : RL := ⟨[],.slice 2 0 1 m .ow .unk,[some (some (bY (o + m) (n - m) .ox)),some (some (bZ l))],[⟨.bytes ((l.drop o).take m),true,1⟩]⟩
theorem bBy0 (l : By) (n m : Nat) (h1 : m<=n) (h2 : m<=l.length) (h3 : l.length < 1000000000000) : Must (bq N2 Tryz.f124 2 [.ptr 0 0 0 0,.int .i64 (m : Int)] [bY 0 n .ow,bZ l] (rBy l 0 n m)) := by
 constructor
 unfold rBy bY bZ
 rw [vBy0]
 simp only [uE,kH,kI,Int.toNat_natCast,List.drop_zero,Nat.zero_add,List.length_take]
 refine yE (fun g => absurd (aO.1 g) (by omega)) (fun _ => ?_)
 repeat refine And.intro (by first | exact True.intro | omega | rfl) ?_
 trivial
theorem bBy1 (l : By) (o n m : Nat) (h1 : m<=n) (h2 : o + m<=l.length) (h3 : l.length < 1000000000000) : Must (bq N2 Tryz.f124 2 [.ptr 0 0 0 0,.int .i64 (m : Int)] [bY o n .ox,bZ l] (rBy l o n m)) := by
 constructor
 unfold rBy bY bZ
 rw [vBy1]
 simp only [uE,kH,kI,Int.toNat_natCast,Nat.add_zero,List.length_take,List.length_drop]
 refine yE (fun g => absurd (aO.1 g) (by omega)) (fun _ => ?_)
 repeat refine And.intro (by first | exact True.intro | omega | rfl) ?_
 trivial
def P3 (k : By->Nat->Nat->TL) (bs : List ABlk) : TL := match bs with
 | [⟨.cells [.slice 1 o 1 n c .unk,.int .i64 (.ofNat 0)],true,0⟩,⟨.bytes l,true,1⟩] => (match c with
  | .ow => (match o with | 0 => k l 0 n | _ => .no)
  | .ox => k l o n
  | _ => .no)
 | _ => .no
theorem iN {k : By->Nat->Nat->TL} {bs : List ABlk} {r : RL} (h : (P3 k bs).sel = some r) : ∃ l o n,(bs = [bY 0 n .ow,bZ l]/\o = 0 \/ bs = [bY o n .ox,bZ l])/\(k l o n).sel = some r := by
 unfold P3 at h
 split at h
 ·split at h
  ·split at h
   ·exact ⟨_,_,_,.inl ⟨rfl,rfl⟩,h⟩
   ·cases h
  ·exact ⟨_,_,_,.inr rfl,h⟩
  ·cases h
 ·cases h
def lX (g : List AV->List ABlk->TL) (n : Nat) : Spec := ⟨List.replicate n .kp,fun xs h => mA h 200 (jS xs) [],T5,g⟩
def gBy (xs : List AV) (bs : List ABlk) : TL := match xs with
 | [.ptr 0 0 0 0,.int .i64 (.ofNat m)] => P3 (fun l o n => .ok ⟨[m<=n/\o + m<=l.length/\l.length < 1000000000000],(rBy l o n m).v,(rBy l o n m).io,(rBy l o n m).nw⟩) bs
 | _ => .no
theorem cBy : COK Tryz.prog gl0 124 (mkF (lX gBy 2)) := by
 refine yY (fn := Tryz.f124) [] 3000 (by kernel_rfl) (by kernel_rfl) okN2 (by kernel_rfl) (fun args w => by kernel_rfl) fun xs bs r hs ho => ?_
 simp only [lX,gBy] at hs
 split at hs
 ·obtain ⟨l,o,n,e,hs⟩ := iN hs
  cases hs
  have q := zA.1 ho
  rcases e with ⟨e,rfl⟩ | e
  ·subst e; exact ⟨_,bBy0 _ _ _ q.1 (by have := q.2.1; omega) q.2.2⟩
  ·subst e; exact ⟨_,bBy1 _ _ _ _ q.1 q.2.1 q.2.2⟩
 ·cases hs
noncomputable def N3 : Ctx := N2.add 124 (mkF (lX gBy 2))
theorem okN3 : COKs Tryz.prog gl0 N3 := okN2.add cBy
end Go.Sym
namespace Go.Spec
def mJ (l : By) : Nat := l.foldl (fun n x => n * 256 + x.toNat) 0
theorem i6 (l : By) (x : BitVec 8) : mJ (l++[x]) = mJ l * 256 + x.toNat := by simp [mJ]
theorem E8 : ∀ (n : Nat) (l : By),l.length = n->mJ l < 256 ^ n
 | 0,l,h => by
  have : l = [] := List.eq_nil_of_length_eq_zero h
  subst this
  decide
 | n + 1,l,h => by
  obtain ⟨m,x,rfl⟩ : ∃ m x,l = m++[x] := ⟨l.dropLast,l.getLast (by intro h0; subst h0; cases h),(List.dropLast_concat_getLast _).symm⟩
  have h1 := E8 n m (by simpa using h)
  have h2 := x.isLt
  rw [i6,Nat.pow_succ]
  omega
theorem i7 (l : By) (i : Nat) (h : i < l.length) : mJ (l.take (i + 1)) = mJ (l.take i) * 256 + (l.getD i 0).toNat := by
 rw [List.take_add_one,List.getElem?_eq_getElem h]
 simp only [Option.toList,i6,List.getD,List.getElem?_eq_getElem h,Option.getD]
end Go.Spec
namespace Go.Sym
open Go.Proofs Go.Spec
theorem or64 (a : Nat) (b : BitVec 8) (h : a < 4294967296) : IntKind.i64.wrap ((BitVec.ofInt 64 (IntKind.i64.wrap ((a : Int) * 2 ^ 8)) ||| BitVec.ofInt 64 (b.toNat : Int)).toNat : Int) = ((a * 256 + b.toNat : Nat) : Int) := by
 have hb := b.isLt
 have e1 : IntKind.i64.wrap ((a : Int) * 2 ^ 8) = ((a * 256 : Nat) : Int) := zU _ (by omega) (by omega)
 have e2 : (BitVec.ofInt 64 ((a * 256 : Nat) : Int) ||| BitVec.ofInt 64 ((b.toNat : Nat) : Int)).toNat = a * 256 + b.toNat := by
  rw [BitVec.toNat_or,BitVec.ofInt_natCast,BitVec.ofInt_natCast,BitVec.toNat_ofNat,BitVec.toNat_ofNat,Nat.mod_eq_of_lt (by omega),Nat.mod_eq_of_lt (by omega)]
  have := Nat.shiftLeft_add_eq_or_of_lt (i := 8) (b := b.toNat) (by omega) a
  rw [Nat.shiftLeft_eq] at this
  simp only [Nat.reducePow] at this
  omega
 rw [e1,e2]
 exact zU _ rfl (by omega)
def lsUi (l B : By) (o n : Nat) : LS := ⟨Nat,fun i => [(5,.int .i64 (mJ (B.take i))),(15,.rb false B .unk),(16,.int .i64 B.length),(17,.int .i64 i)],
 fun i => [(0,bY o n .ox),(1,bZ l)],1000,fun i => B.length - i,fun i => i<=B.length,fun _ => []⟩
set_option maxRecDepth 100000 in
theorem vUi0 (l B : By) (n w o' n' : Nat) (v : Int) : bg N3 [] [(7,lsUi l B o' n')] Tryz.f123 2 [.ptr 0 0 0 0,.int .i64 (w : Int)] [bY 0 n .ow,bZ l] ⟨[],.int .i64 v,[some (some (bY o' n' .ox)),some (some (bZ l))],[]⟩ = (
let x1 := v = (0 : Int)/\o' = 0/\0 = 0/\o' = 0/\n' = n/\(0 : Int) = (3 : Int)/\l = l/\True; @Bool.rec (fun _ => Prop) x1 (@Bool.rec (fun _ => Prop) ((w<=n/\0 + w<=List.length l/\List.length l < 1000000000000)/\(∃ (x : Nat),x.le (List.length B)/\(↑(mJ (List.take x B)) : Int) = (0 : Int)/\w = (List.take w (List.drop 0 l)).length/\B = List.take w (List.drop 0 l)/\w = List.length B/\(↑(List.length B) : Int) = (↑w : Int)/\(↑x : Int) = (0 : Int)/\o' = 0 + w/\0 = 0/\o' = 0 + w/\n' = n - w/\(0 : Int) = (0 : Int)/\l = l/\True)/\∀ (x : Nat),x.le (List.length B)->@Bool.rec (fun _ => Prop) (v = (↑(mJ (List.take x B)) : Int)/\o' = o'/\0 = 0/\o' = o'/\n' = n'/\(0 : Int) = (0 : Int)/\l = l/\True) ((0 : Int)<=(↑x : Int)/\(↑x : Int).toNat < List.length B/\∃ (y : Nat),List.length B - y < List.length B - x/\y.le (List.length B)/\(↑(mJ (List.take y B)) : Int) = IntKind.i64.wrap (↑(BitVec.ofInt 64 (IntKind.i64.wrap ((↑(mJ (List.take x B)) : Int) * Int.ofNat 256)) ||| BitVec.ofInt 64 (↑(List.getD B (↑x : Int).toNat (0 : BitVec 8)).toNat : Int)).toNat : Int)/\B = B/\(↑(List.length B) : Int) = (↑(List.length B) : Int)/\(↑y : Int) = IntKind.i64.wrap ((↑x : Int) + (1 : Int))/\o' = o'/\0 = 0/\o' = o'/\n' = n'/\(0 : Int) = (0 : Int)/\l = l/\True) (decide ((↑x : Int) < (↑(List.length B) : Int)))) x1 !decide ((↑w : Int)<=(4 : Int))) (decide ((1 : Int)<=(↑w : Int))) : Prop) := by kernel_rfl
set_option maxRecDepth 100000 in
theorem vUi1 (l B : By) (o n w o' n' : Nat) (v : Int) : bg N3 [] [(7,lsUi l B o' n')] Tryz.f123 2 [.ptr 0 0 0 0,.int .i64 (w : Int)] [bY o n .ox,bZ l] ⟨[],.int .i64 v,[some (some (bY o' n' .ox)),some (some (bZ l))],[]⟩ = (
let x1 := v = (0 : Int)/\o' = o/\0 = 0/\o' = o/\n' = n/\(0 : Int) = (3 : Int)/\l = l/\True; @Bool.rec (fun _ => Prop) x1 (@Bool.rec (fun _ => Prop) ((w<=n/\o + w<=List.length l/\List.length l < 1000000000000)/\(∃ (x : Nat),x.le (List.length B)/\(↑(mJ (List.take x B)) : Int) = (0 : Int)/\w = (List.take w (List.drop o l)).length/\B = List.take w (List.drop o l)/\w = List.length B/\(↑(List.length B) : Int) = (↑w : Int)/\(↑x : Int) = (0 : Int)/\o' = o + w/\0 = 0/\o' = o + w/\n' = n - w/\(0 : Int) = (0 : Int)/\l = l/\True)/\∀ (x : Nat),x.le (List.length B)->@Bool.rec (fun _ => Prop) (v = (↑(mJ (List.take x B)) : Int)/\o' = o'/\0 = 0/\o' = o'/\n' = n'/\(0 : Int) = (0 : Int)/\l = l/\True) ((0 : Int)<=(↑x : Int)/\(↑x : Int).toNat < List.length B/\∃ (y : Nat),List.length B - y < List.length B - x/\y.le (List.length B)/\(↑(mJ (List.take y B)) : Int) = IntKind.i64.wrap (↑(BitVec.ofInt 64 (IntKind.i64.wrap ((↑(mJ (List.take x B)) : Int) * Int.ofNat 256)) ||| BitVec.ofInt 64 (↑(List.getD B (↑x : Int).toNat (0 : BitVec 8)).toNat : Int)).toNat : Int)/\B = B/\(↑(List.length B) : Int) = (↑(List.length B) : Int)/\(↑y : Int) = IntKind.i64.wrap ((↑x : Int) + (1 : Int))/\o' = o'/\0 = 0/\o' = o'/\n' = n'/\(0 : Int) = (0 : Int)/\l = l/\True) (decide ((↑x : Int) < (↑(List.length B) : Int)))) x1 !decide ((↑w : Int)<=(4 : Int))) (decide ((1 : Int)<=(↑w : Int))) : Prop) := by kernel_rfl
def rUi (l : By) (o n w : Nat) : RL := ⟨[],.int .i64 (Int.ofNat (mJ ((l.drop o).take w))),[some (some (bY (o + w) (n - w) .ox)),some (some (bZ l))],[]⟩
theorem bUi0 (l : By) (n w : Nat) (h1 : w<=n) (h2 : w<=l.length) (h3 : l.length < 1000000000000) (h4 : 1<=w) (h5 : w<=4) : Must (bg N3 [] [(7,lsUi l ((l.drop 0).take w) (0 + w) (n - w))] Tryz.f123 2 [.ptr 0 0 0 0,.int .i64 (w : Int)] [bY 0 n .ow,bZ l] (rUi l 0 n w)) := by
 constructor
 unfold rUi
 rw [vUi0]
 dsimp only
 have hB : (List.take w (List.drop 0 l)).length = w := by rw [List.length_take,List.length_drop]; omega
 have hw : w<=4 := h5
 refine yE (fun _ => yE (fun g => absurd (show (w : Int)<=4 by omega) (by simpa using g)) (fun _ => ?_)) (fun g => absurd h4 (by have := ndle.1 g; omega))
 refine ⟨⟨h1,by omega,h3⟩,⟨0,Nat.zero_le _,rfl,by rw [hB],rfl,by rw [hB],by rw [hB],rfl,by omega,rfl,by omega,rfl,rfl,rfl,trivial⟩,fun x hx => ?_⟩
 generalize hb : List.take w (List.drop 0 l) = b at *
 have hx : x<=b.length := hx
 refine yE (fun g => ?_) (fun g => ?_)
 ·have g : x < b.length := by have := aO.1 g; omega
  refine ⟨by omega,by rw [Int.toNat_natCast]; exact g,x + 1,by omega,g,?_,rfl,rfl,(zU (x + 1) (by omega) (by omega)).symm,rfl,rfl,rfl,rfl,rfl,rfl,trivial⟩
  rw [Int.toNat_natCast,i7 _ _ g]
  have h6 := E8 x (b.take x) (by rw [List.length_take]; omega)
  have h7 : 256 ^ x<=256 ^ 3 := Nat.pow_le_pow_right (by decide) (by omega)
  exact (or64 _ _ (by omega)).symm
 ·have g : x = b.length := by have := mR.1 g; omega
  subst g
  rw [List.take_length]
  exact ⟨rfl,rfl,rfl,rfl,rfl,rfl,rfl,trivial⟩
theorem bUi1 (l : By) (o n w : Nat) (h1 : w<=n) (h2 : o + w<=l.length) (h3 : l.length < 1000000000000) (h4 : 1<=w) (h5 : w<=4) : Must (bg N3 [] [(7,lsUi l ((l.drop o).take w) (o + w) (n - w))] Tryz.f123 2 [.ptr 0 0 0 0,.int .i64 (w : Int)] [bY o n .ox,bZ l] (rUi l o n w)) := by
 constructor
 unfold rUi
 rw [vUi1]
 dsimp only
 have hB : (List.take w (List.drop o l)).length = w := by rw [List.length_take,List.length_drop]; omega
 have hw : w<=4 := h5
 refine yE (fun _ => yE (fun g => absurd (show (w : Int)<=4 by omega) (by simpa using g)) (fun _ => ?_)) (fun g => absurd h4 (by have := ndle.1 g; omega))
 refine ⟨⟨h1,by omega,h3⟩,⟨0,Nat.zero_le _,rfl,by rw [hB],rfl,by rw [hB],by rw [hB],rfl,by omega,rfl,by omega,rfl,rfl,rfl,trivial⟩,fun x hx => ?_⟩
 generalize hb : List.take w (List.drop o l) = b at *
 have hx : x<=b.length := hx
 refine yE (fun g => ?_) (fun g => ?_)
 ·have g : x < b.length := by have := aO.1 g; omega
  refine ⟨by omega,by rw [Int.toNat_natCast]; exact g,x + 1,by omega,g,?_,rfl,rfl,(zU (x + 1) (by omega) (by omega)).symm,rfl,rfl,rfl,rfl,rfl,rfl,trivial⟩
  rw [Int.toNat_natCast,i7 _ _ g]
  have h6 := E8 x (b.take x) (by rw [List.length_take]; omega)
  have h7 : 256 ^ x<=256 ^ 3 := Nat.pow_le_pow_right (by decide) (by omega)
  exact (or64 _ _ (by omega)).symm
 ·have g : x = b.length := by have := mR.1 g; omega
  subst g
  rw [List.take_length]
  exact ⟨rfl,rfl,rfl,rfl,rfl,rfl,rfl,trivial⟩
def gUi (xs : List AV) (bs : List ABlk) : TL := match xs with
 | [.ptr 0 0 0 0,.int .i64 (.ofNat w)] => P3 (fun l o n => .ok ⟨[w<=n/\o + w<=l.length/\l.length < 1000000000000/\1<=w/\w<=4],(rUi l o n w).v,(rUi l o n w).io,[]⟩) bs
 | _ => .no
theorem cUi : COK Tryz.prog gl0 123 (mkF (lX gUi 2)) := by
 refine yY (fn := Tryz.f123) [] 3000 (by kernel_rfl) (by kernel_rfl) okN3 (by kernel_rfl) (fun args w => by kernel_rfl) fun xs bs r hs ho => ?_
 simp only [lX,gUi] at hs
 split at hs
 ·obtain ⟨l,o,n,e,hs⟩ := iN hs
  cases hs
  have q := zA.1 ho
  rcases e with ⟨e,rfl⟩ | e
  ·subst e; exact ⟨_,bUi0 _ _ _ q.1 (by have := q.2.1; omega) q.2.2.1 q.2.2.2.1 q.2.2.2.2⟩
  ·subst e; exact ⟨_,bUi1 _ _ _ _ q.1 q.2.1 q.2.2.1 q.2.2.2.1 q.2.2.2.2⟩
 ·cases hs
noncomputable def N4 : Ctx := N3.add 123 (mkF (lX gUi 2))
theorem okN4 : COKs Tryz.prog gl0 N4 := okN3.add cUi
set_option maxRecDepth 100000 in
theorem vVe0 (l M : By) (n w L o' n' : Nat) (a b : Int) : bq N4 Tryz.f237 2 [.ptr 0 0 0 0,.int .i64 (w : Int),.int .i64 a,.int .i64 b] [bY 0 n .ow,bZ l] ⟨[],.slice 2 0 1 L .ow .unk,[some (some (bY o' n' .ox)),some (some (bZ l))],[⟨.bytes M,true,1⟩]⟩ = (
let x1 := 0 + w + mJ (List.take w (List.drop 0 l)); let x2 := L = 0/\o' = x1/\0 = 0/\o' = x1/\n' = n - w - mJ (List.take w (List.drop 0 l))/\(0 : Int) = (3 : Int)/\l = l/\M = []/\True; (w<=n/\0 + w<=List.length l/\List.length l < 1000000000000/\1<=w/\w<=4)/\(mJ (List.take w (List.drop 0 l))<=n - w/\x1<=List.length l/\List.length l < 1000000000000)/\@Bool.rec (fun _ => Prop) x2 (@Bool.rec (fun _ => Prop) (0 = 0/\0 = 0/\0 = 0/\L = mJ (List.take w (List.drop 0 l))/\o' = x1/\0 = 0/\o' = x1/\n' = n - w - mJ (List.take w (List.drop 0 l))/\(0 : Int) = (0 : Int)/\l = l/\M = List.take (mJ (List.take w (List.drop 0 l))) (List.drop (0 + w) l)/\True) x2 (decide (b < (↑(mJ (List.take w (List.drop 0 l))) : Int)))) !decide ((↑(mJ (List.take w (List.drop 0 l))) : Int) < a) : Prop) := by kernel_rfl
set_option maxRecDepth 100000 in
theorem vVe1 (l M : By) (o n w L o' n' : Nat) (a b : Int) : bq N4 Tryz.f237 2 [.ptr 0 0 0 0,.int .i64 (w : Int),.int .i64 a,.int .i64 b] [bY o n .ox,bZ l] ⟨[],.slice 2 0 1 L .ow .unk,[some (some (bY o' n' .ox)),some (some (bZ l))],[⟨.bytes M,true,1⟩]⟩ = (
let x1 := L = 0/\o' = o + w + mJ (List.take w (List.drop o l))/\0 = 0/\o' = o + w + mJ (List.take w (List.drop o l))/\n' = n - w - mJ (List.take w (List.drop o l))/\(0 : Int) = (3 : Int)/\l = l/\M = []/\True; (w<=n/\o + w<=List.length l/\List.length l < 1000000000000/\1<=w/\w<=4)/\(mJ (List.take w (List.drop o l))<=n - w/\o + w + mJ (List.take w (List.drop o l))<=List.length l/\List.length l < 1000000000000)/\@Bool.rec (fun _ => Prop) x1 (@Bool.rec (fun _ => Prop) (0 = 0/\0 = 0/\0 = 0/\L = mJ (List.take w (List.drop o l))/\o' = o + w + mJ (List.take w (List.drop o l))/\0 = 0/\o' = o + w + mJ (List.take w (List.drop o l))/\n' = n - w - mJ (List.take w (List.drop o l))/\(0 : Int) = (0 : Int)/\l = l/\M = List.take (mJ (List.take w (List.drop o l))) (List.drop (o + w) l)/\True) x1 (decide (b < (↑(mJ (List.take w (List.drop o l))) : Int)))) !decide ((↑(mJ (List.take w (List.drop o l))) : Int) < a) : Prop) := by kernel_rfl
def fU (l : By) (o w : Nat) : Nat := mJ ((l.drop o).take w)
def rVe (l : By) (o n w : Nat) : RL := ⟨[],.slice 2 0 1 (fU l o w) .ow .unk,[some (some (bY (o + w + fU l o w) (n - w - fU l o w) .ox)),some (some (bZ l))],[⟨.bytes ((l.drop (o + w)).take (fU l o w)),true,1⟩]⟩
theorem bVe0 (l : By) (n w : Nat) (a b : Int) (h0 : w<=n) (h1 : fU l 0 w<=n - w) (h2 : 0 + w + fU l 0 w<=l.length) (h3 : l.length < 1000000000000) (h4 : 1<=w) (h5 : w<=4) (h6 : a<=fU l 0 w) (h7 : fU l 0 w<=b) : Must (bq N4 Tryz.f237 2 [.ptr 0 0 0 0,.int .i64 (w : Int),.int .i64 a,.int .i64 b] [bY 0 n .ow,bZ l] (rVe l 0 n w)) := by
 unfold fU at h1 h2 h6 h7
 constructor
 unfold rVe
 rw [vVe0]
 dsimp only
 refine ⟨⟨by omega,by omega,h3,h4,h5⟩,⟨h1,h2,h3⟩,yE (fun _ => yE (fun g => absurd (aO.1 g) (by omega)) (fun _ => ?_)) (fun g => absurd h6 (by simpa using g))⟩
 exact ⟨rfl,rfl,rfl,rfl,rfl,rfl,rfl,rfl,rfl,rfl,rfl,trivial⟩
theorem bVe1 (l : By) (o n w : Nat) (a b : Int) (h0 : w<=n) (h1 : fU l o w<=n - w) (h2 : o + w + fU l o w<=l.length) (h3 : l.length < 1000000000000) (h4 : 1<=w) (h5 : w<=4) (h6 : a<=fU l o w) (h7 : fU l o w<=b) : Must (bq N4 Tryz.f237 2 [.ptr 0 0 0 0,.int .i64 (w : Int),.int .i64 a,.int .i64 b] [bY o n .ox,bZ l] (rVe l o n w)) := by
 unfold fU at h1 h2 h6 h7
 constructor
 unfold rVe
 rw [vVe1]
 dsimp only
 refine ⟨⟨by omega,by omega,h3,h4,h5⟩,⟨h1,h2,h3⟩,yE (fun _ => yE (fun g => absurd (aO.1 g) (by omega)) (fun _ => ?_)) (fun g => absurd h6 (by simpa using g))⟩
 exact ⟨rfl,rfl,rfl,rfl,rfl,rfl,rfl,rfl,rfl,rfl,rfl,trivial⟩
def gVe (xs : List AV) (bs : List ABlk) : TL := match xs with
 | [.ptr 0 0 0 0,.int .i64 (.ofNat w),.int .i64 a,.int .i64 b] => P3 (fun l o n => .ok ⟨[w<=n/\fU l o w<=n - w/\o + w + fU l o w<=l.length/\l.length < 1000000000000/\1<=w/\w<=4/\a<=fU l o w/\fU l o w<=b],(rVe l o n w).v,(rVe l o n w).io,(rVe l o n w).nw⟩) bs
 | _ => .no
theorem cVe : COK Tryz.prog gl0 237 (mkF (lX gVe 4)) := by
 refine yY (fn := Tryz.f237) [] 3000 (by kernel_rfl) (by kernel_rfl) okN4 (by kernel_rfl) (fun args w => by kernel_rfl) fun xs bs r hs ho => ?_
 simp only [lX,gVe] at hs
 split at hs
 ·obtain ⟨l,o,n,e,hs⟩ := iN hs
  cases hs
  obtain ⟨q0,q1,q2,q3,q4,q5,q6,q7⟩ := zA.1 ho
  rcases e with ⟨e,rfl⟩ | e
  ·subst e; exact ⟨_,bVe0 _ _ _ _ _ q0 q1 q2 q3 q4 q5 q6 q7⟩
  ·subst e; exact ⟨_,bVe1 _ _ _ _ _ _ q0 q1 q2 q3 q4 q5 q6 q7⟩
 ·cases hs
noncomputable def N5 : Ctx := N4.add 237 (mkF (lX gVe 4))
theorem okN5 : COKs Tryz.prog gl0 N5 := okN4.add cVe
set_option maxRecDepth 100000 in
theorem vLab (s f : F8) (nm c : By) : bq N5 Tryz.f67 0 [aggB 32 s,.str nm,.rb false c .unk] [] ⟨[],aggB 32 f,[],[]⟩ = (
let x1 := [BitVec.ofNat 8 0,BitVec.ofNat 8 32,BitVec.ofInt 8 (IntKind.i64.wrap ((6 : Int) + (↑(List.length nm) : Int)))]++[BitVec.ofNat 8 116,BitVec.ofNat 8 108,BitVec.ofNat 8 115,BitVec.ofNat 8 49,BitVec.ofNat 8 51,BitVec.ofNat 8 32]++nm++[BitVec.ofInt 8 (↑(List.length c) : Int)]; let x2 := IntKind.i64.wrap (IntKind.i64.wrap (Int.ofNat 0 + (↑(9 + List.length nm + [BitVec.ofInt 8 (↑(List.length c) : Int)].length + List.length c) : Int)) + Int.ofNat 1); let x3 := List.take 0 (List.replicate x2.toNat (0 : BitVec 8))++[]++(x1++c)++[BitVec.ofNat 8 1]; let x4 := [BitVec.ofNat 8 0,BitVec.ofNat 8 32,BitVec.ofInt 8 (IntKind.i64.wrap ((6 : Int) + (↑(List.length nm) : Int)))]++[BitVec.ofNat 8 116,BitVec.ofNat 8 108,BitVec.ofNat 8 115,BitVec.ofNat 8 49,BitVec.ofNat 8 51,BitVec.ofNat 8 32]; let x5 := 9 + List.length nm + [BitVec.ofInt 8 (↑(List.length c) : Int)].length; @Bool.rec (fun _ => Prop) (zG (fun (i : Nat) => f i = BitVec.ofNat 8 0) 0 32 True) (@Bool.rec (fun _ => Prop) (zG (fun (i : Nat) => f i = BitVec.ofNat 8 0) 0 32 True) (@Bool.rec (fun _ => Prop) (@Bool.rec (fun _ => Prop) (@Bool.rec (fun _ => Prop) (3 = [BitVec.ofNat 8 0,BitVec.ofNat 8 32,BitVec.ofInt 8 (IntKind.i64.wrap ((6 : Int) + (↑(List.length nm) : Int)))].length/\zD 3 6 1/\9 = x4.length/\zD 9 (List.length nm) 1/\1 = [BitVec.ofInt 8 (↑(List.length c) : Int)].length/\9 + List.length nm = (x4++nm).length/\zD (9 + List.length nm) [BitVec.ofInt 8 (↑(List.length c) : Int)].length 1/\x5 = x1.length/\zD x5 (List.length c) 1/\(0 : Int)<=(0 : Int)/\0 < 3/\(0 : Int)<=Int.ofNat 1/\1 < 3/\(0 : Int)<=Int.ofNat 2/\2 < 3/\((0 : Int) < x2/\x2 < (1099511627776 : Int))/\(0 : Int)<=(0 : Int)/\0 < 3/\0<=(List.replicate x2.toNat (0 : BitVec 8)).length/\0 = (List.take 0 (List.replicate x2.toNat (0 : BitVec 8))).length/\zD 0 0 1/\(0 : Int)<=Int.ofNat 1/\1 < 3/\x5 + List.length c = (x1++c).length/\0 = (List.take 0 (List.replicate x2.toNat (0 : BitVec 8))++[]).length/\zD 0 (x1++c).length 1/\(0 : Int)<=Int.ofNat 2/\2 < 3/\1 = 1/\0 + (x1++c).length = (List.take 0 (List.replicate x2.toNat (0 : BitVec 8))++[]++(x1++c)).length/\zD (0 + (x1++c).length) 1 1/\0 + (x1++c).length + 1 = x3.length/\((rg 32 s).length < 4611686018427387904/\x3.length < 4611686018427387904)/\zD 0 (rg 32 (kD (rg 32 s) x3)).length 1/\(0 : Int)<=(32 : Int)/\(0 : Int)<=(32 : Int)/\32<=32/\32<=(rg 32 (kD (rg 32 s) x3)).length/\32<=(rg 32 (kD (rg 32 s) x3)).length/\zG (fun (i : Nat) => f i = if i < (List.take 32 (rg 32 (kD (rg 32 s) x3))).length then (List.take 32 (rg 32 (kD (rg 32 s) x3))).getD i (0 : BitVec 8) else BitVec.ofNat 8 0) 0 32 True) False (decide (x2 < (0 : Int)))) False (decide (IntKind.i64.wrap (Int.ofNat 0 + (↑(x5 + List.length c) : Int)) < (0 : Int)))) (zG (fun (i : Nat) => f i = BitVec.ofNat 8 0) 0 32 True) (decide ((255 : Int) < (↑(List.length c) : Int)))) !decide ((249 : Int) < (↑(List.length nm) : Int))) !decide ((↑(List.length nm) : Int) < (1 : Int)) : Prop) := by kernel_rfl
end Go.Sym
namespace Go.Spec
def W9 (nm c : By) : By := [0#8,32#8,BitVec.ofInt 8 ((nm.length + 6 : Nat) : Int)]++[116#8,108#8,115#8,49#8,51#8,32#8]++nm++[BitVec.ofInt 8 (c.length : Int)]++c++[1#8]
noncomputable def xG (s nm c : By) : F8 := kD s (W9 nm c)
end Go.Spec
namespace Go.Sym
open Go.Proofs Go.Spec
theorem bLab (s : F8) (nm c : By) (h1 : 1<=nm.length) (h2 : nm.length<=200) (h3 : c.length<=255) : Must (bq N5 Tryz.f67 0 [aggB 32 s,.str nm,.rb false c .unk] [] ⟨[],aggB 32 (xG (rg 32 s) nm c),[],[]⟩) := by
 constructor
 rw [vLab]
 have w6 : IntKind.i64.wrap ((6 : Int) + (nm.length : Int)) = ((nm.length + 6 : Nat) : Int) := zU _ (by omega) (by omega)
 have wa : ∀ k : Nat,k < 10000->IntKind.i64.wrap (Int.ofNat 0 + (k : Int)) = (k : Int) := fun k hk => zU _ (by simp) (by omega)
 have wb : ∀ k : Nat,k < 10000->IntKind.i64.wrap ((k : Int) + Int.ofNat 1) = ((k + 1 : Nat) : Int) := fun k hk => zU _ (by simp) (by omega)
 have e3 : ∀ r : By,List.take 0 r++[]++([0#8,32#8,BitVec.ofInt 8 ((nm.length + 6 : Nat) : Int)]++[116#8,108#8,115#8,49#8,51#8,32#8]++nm++[BitVec.ofInt 8 (c.length : Int)]++c)++[BitVec.ofNat 8 1] = W9 nm c := fun r => by simp [W9]
 have l3 : (W9 nm c).length = nm.length + c.length + 11 := by simp [W9]; omega
 set_option simprocs false in dsimp only
 rw [w6,wa (9 + nm.length + [BitVec.ofInt 8 (c.length : Int)].length + c.length) (by simp; omega),wb (9 + nm.length + [BitVec.ofInt 8 (c.length : Int)].length + c.length) (by simp; omega),e3]
 refine yE (fun _ => yE (fun _ => yE (fun g => absurd (aO.1 g) (by omega)) (fun _ => ?_)) (fun g => absurd (show ¬ (249 : Int) < nm.length by omega) (by simpa using g))) (fun g => absurd (show ¬ (nm.length : Int) < 1 by omega) (by simpa using g))
 have dk : ∀ k : Nat,decide ((k : Int) < 0) = false := fun k => decide_eq_false (by omega)
 rw [dk,dk]
 simp only [wM,l3,List.length_append,List.length_cons,List.length_nil,List.length_take,List.length_replicate,Int.toNat_natCast,zD]
 repeat refine And.intro (by first | exact True.intro | omega | rfl | (constructor <;> omega)) ?_
 exact zS (fun i _ hi => by
  have hi : i < 32 := by omega
  rw [if_pos (by omega)]
  show _ = List.getD (List.take 32 (rg 32 (kD (rg 32 s) (W9 nm c)))) i 0
  rw [List.take_of_length_le (by rw [wM]; omega),gP _ _ _ _ hi]
  rfl) trivial
def ckT (b : Bool) (t : TL) : TL := match b with | true => t | false => .no
theorem eU {b : Bool} {t : TL} {r : RL} (h : (ckT b t).sel = some r) : b = true/\t.sel = some r := by
 cases b
 ·cases h
 ·exact ⟨rfl,h⟩
noncomputable def gLab (xs : List AV) (bs : List ABlk) : TL := match xs,bs with
 | [.agg cs,.str nm,.rb false c .unk],[] => bE 32 cs fun s => ckT (Nat.ble 1 nm.length && Nat.ble nm.length 200 && Nat.ble c.length 255) (.ok ⟨[],aggB 32 (xG (rg 32 s) nm c),[],[]⟩)
 | _,_ => .no
theorem cLab : COK Tryz.prog gl0 67 (mkF ⟨[.kp,.kp,.by0],fun _ _ => [],fun _ _ => [],gLab⟩) := by
 refine yY (fn := Tryz.f67) [] 3000 (by kernel_rfl) (by kernel_rfl) okN5 (by kernel_rfl) (fun args w => by kernel_rfl) fun xs bs r hs ho => ?_
 simp only [gLab] at hs
 split at hs
 ·obtain ⟨s,e,hs⟩ := yZ hs
  obtain ⟨q,hs⟩ := eU hs
  cases hs
  simp only [Bool.and_eq_true,Nat.ble_eq] at q
  rw [e]
  exact ⟨_,bLab _ _ _ q.1.1 q.1.2 q.2⟩
 ·cases hs
noncomputable def N6 : Ctx := N5.add 67 (mkF ⟨[.kp,.kp,.by0],fun _ _ => [],fun _ _ => [],gLab⟩)
theorem okN6 : COKs Tryz.prog gl0 N6 := okN5.add cLab
end Go.Sym
