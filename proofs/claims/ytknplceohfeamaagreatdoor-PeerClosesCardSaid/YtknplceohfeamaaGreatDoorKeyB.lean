/- The secrets of a connection, step by step. -/
import Derived.Test.YtknplceohfeamaaGreatDoorKeyA
import Derived.Test.YtknplceohfeamaaGreatDoorSymC
set_option linter.unusedVariables false
set_option linter.unusedSimpArgs false
namespace Go.Sym
theorem iO (f : RL->T) {q : R} : ∀ (t : TL),(t.toT f).sel = some q->∃ r,t.sel = some r/\(f r).sel = some q
 | .no,h => by cases h
 | .ok r,h => ⟨r,rfl,h⟩
 | .br b x y,h => by
  cases b
  ·exact iO f y h
  ·exact iO f x h
theorem iP (f : RL->T) {r : RL} : ∀ (t : TL),t.sel = some r->(t.toT f).sel = (f r).sel
 | .no,h => by cases h
 | .ok r',h => by cases h; rfl
 | .br b x y,h => by
  cases b
  ·exact iP f y h
  ·exact iP f x h
theorem P4 {sp : Spec} {G : List AV->List ABlk->TL} (hG : ∀ xs bs r',(G xs bs).sel = some r'->zP r'.ob->∃ r,(sp.G xs bs).sel = some r/\zP r.ob/\r.v = r'.v/\r.io = r'.io/\r.nw = r'.nw) (hs : H) (xs : List AV) (fr : Nat) (q : R)
  (h : (mkF { sp with G := G } hs xs fr).sel = some q) (ho : zP q.ob) : ∃ p,(mkF sp hs xs fr).sel = some p/\zP p.ob/\p.v = q.v/\p.up = q.up := by
 unfold mkF at h ⊢
 rw [wH] at h ⊢
 split at h
 ·rename_i hc
  rw [if_pos hc]
  split at h
  ·rename_i o1 as2 e1
   rw [e1]
   dsimp only at h ⊢
   split at h
   ·rename_i o2 bs2 e2
    obtain ⟨r',k1,k2⟩ := iO _ _ h
    unfold rlT at k2
    split at k2
    ·rename_i hk
     cases k2
     obtain ⟨r,k3,k4,k5,k6,k7⟩ := hG _ _ _ k1 (zE.1 ho).2
     rw [iP _ _ k3]
     unfold rlT
     rw [k5,k6,k7,if_pos hk]
     exact ⟨_,rfl,zE.2 ⟨(zE.1 ho).1,k4⟩,rfl,rfl⟩
    ·cases k2
   ·cases h
  ·cases h
 ·cases h
theorem COK.chk {P : Program} {gl : Gl} {f : FuncId} {sp : Spec} {G : List AV->List ABlk->TL} (hG : ∀ xs bs r',(G xs bs).sel = some r'->zP r'.ob->∃ r,(sp.G xs bs).sel = some r/\zP r.ob/\r.v = r'.v/\r.io = r'.io/\r.nw = r'.nw) (h : COK P gl f (mkF sp)) : COK P gl f (mkF { sp with G := G }) := by
 rcases h with h | h
 ·refine .inl ⟨h.1,fun M w κ hs h' zs vals fr r a1 a2 a3 a4 a5 a6 a7 a8 hv hsel ho => ?_⟩
  obtain ⟨p,k1,k2,k3,k4⟩ := P4 hG hs zs fr r hsel ho
  have := h.2 M w κ hs h' zs vals fr p a1 a2 a3 a4 a5 a6 a7 a8 hv k1 k2
  rw [k3,k4] at this
  exact this
 ·refine .inr fun M w κ hs h' zs vals fr r a1 a2 hv hsel ho => ?_
  obtain ⟨p,k1,k2,k3,k4⟩ := P4 hG hs zs fr r hsel ho
  have := h M w κ hs h' zs vals fr p a1 a2 hv k1 k2
  rw [k3,k4] at this
  exact this
open Go.Proofs Go.Spec
def X4 (b : Bool) (r : RL) : TL := match b with | true => .ok ⟨[],r.v,r.io,r.nw⟩ | false => .no
theorem gN {b : Bool} {r q : RL} (h : (X4 b r).sel = some q) : b = true/\r.v = q.v/\r.io = q.io/\r.nw = q.nw := by
 cases b
 ·cases h
 ·cases h; exact ⟨rfl,rfl,rfl,rfl⟩
def y0x (xs : List AV) (bs : List ABlk) : TL := match xs,bs with
 | [.rb p l .unk],[] => X4 (Nat.blt l.length 1099511627776) (clA l)
 | _,_ => .no
theorem kClo : COK Tryz.prog gl0 70 (mkF { uN clA with G := y0x }) := cClo.chk fun xs bs r hs _ => by
 unfold y0x at hs
 split at hs
 ·obtain ⟨o,h⟩ := gN hs
  exact ⟨_,rfl,zA.2 (Nat.blt_eq ▸ o),h⟩
 ·cases hs
def x0x (xs : List AV) (bs : List ABlk) : TL := match xs,bs with
 | [.rb false b .unk,.int .i64 n,.int .i64 (.ofNat w)],[] => (match w with
  | 1 => X4 (decide (0<=n) && decide (n < 256) && Nat.blt b.length 1000000000000) (sP b 1 n)
  | 2 => X4 (decide (0<=n) && decide (n < 65536) && Nat.blt b.length 1000000000000) (sP b 2 n)
  | 3 => X4 (decide (0<=n) && decide (n < 16777216) && Nat.blt b.length 1000000000000) (sP b 3 n)
  | 4 => X4 (decide (0<=n) && decide (n < 4294967296) && Nat.blt b.length 1000000000000) (sP b 4 n)
  | _ => .no)
 | _,_ => .no
theorem kPu : COK Tryz.prog gl0 94 (mkF ⟨[.by0,.kp,.kp],fun _ _ => [],fun _ _ => [],x0x⟩) := cPu.chk fun xs bs r hs _ => by
 unfold x0x at hs
 split at hs
 ·split at hs <;> first | (cases hs; done) | skip
  all_goals
   obtain ⟨o,h⟩ := gN hs
   simp only [Bool.and_eq_true,decide_eq_true_eq,Nat.blt_eq] at o
   exact ⟨_,rfl,zA.2 ⟨o.1.1,o.1.2,o.2⟩,h⟩
 ·cases hs
def w0x (xs : List AV) (bs : List ABlk) : TL := match xs,bs with
 | [.rb false b .unk,.rb false v .unk,.int .i64 (.ofNat w)],[] => (match w with
  | 1 => X4 (Nat.blt v.length 256 && Nat.blt b.length 1000000000000) (E7 b v 1)
  | 2 => X4 (Nat.blt v.length 65536 && Nat.blt b.length 1000000000000) (E7 b v 2)
  | 3 => X4 (Nat.blt v.length 16777216 && Nat.blt b.length 1000000000000) (E7 b v 3)
  | _ => .no)
 | _,_ => .no
theorem kPv : COK Tryz.prog gl0 95 (mkF ⟨[.by0,.by0,.kp],fun _ _ => [],fun _ _ => [],w0x⟩) := cPv.chk fun xs bs r hs _ => by
 unfold w0x at hs
 split at hs
 ·split at hs <;> first | (cases hs; done) | skip
  all_goals
   obtain ⟨o,h⟩ := gN hs
   simp only [Bool.and_eq_true,Nat.blt_eq] at o
   exact ⟨_,rfl,zA.2 ⟨o.1,o.2⟩,h⟩
 ·cases hs
theorem pG {k k' : By->Nat->Nat->TL} {bs : List ABlk} {r : RL} (h : (P3 k bs).sel = some r) : ∃ l o n,P3 k' bs = k' l o n/\(k l o n).sel = some r := by
 unfold P3 at h
 split at h
 ·split at h
  ·split at h
   ·exact ⟨_,_,_,rfl,h⟩
   ·cases h
  ·exact ⟨_,_,_,rfl,h⟩
  ·cases h
 ·cases h
def v0x (xs : List AV) (bs : List ABlk) : TL := match xs with
 | [.ptr 0 0 0 0,.int .i64 (.ofNat m)] => P3 (fun l o n => X4 (Nat.ble m n && Nat.ble (o + m) l.length && Nat.blt l.length 1000000000000) (rBy l o n m)) bs
 | _ => .no
theorem kBy : COK Tryz.prog gl0 124 (mkF (lX v0x 2)) := cBy.chk fun xs bs r hs _ => by
 unfold v0x at hs
 split at hs
 ·obtain ⟨l,o,n,e,hs⟩ := pG (k' := fun l o n => .ok ⟨[_<=n/\o + _<=l.length/\l.length < 1000000000000],(rBy l o n _).v,(rBy l o n _).io,(rBy l o n _).nw⟩) hs
  obtain ⟨q,h⟩ := gN hs
  simp only [Bool.and_eq_true,Nat.ble_eq,Nat.blt_eq] at q
  refine ⟨_,(congrArg TL.sel e).trans rfl,zA.2 ⟨q.1.1,q.1.2,q.2⟩,h⟩
 ·cases hs
def u0x (xs : List AV) (bs : List ABlk) : TL := match xs with
 | [.ptr 0 0 0 0,.int .i64 (.ofNat w)] => P3 (fun l o n => X4 (Nat.ble w n && Nat.ble (o + w) l.length && Nat.blt l.length 1000000000000 && Nat.ble 1 w && Nat.ble w 4) (rUi l o n w)) bs
 | _ => .no
theorem kUi : COK Tryz.prog gl0 123 (mkF (lX u0x 2)) := cUi.chk fun xs bs r hs _ => by
 unfold u0x at hs
 split at hs
 ·rename_i w
  obtain ⟨l,o,n,e,hs⟩ := pG (k' := fun l o n => .ok ⟨[w<=n/\o + w<=l.length/\l.length < 1000000000000/\1<=w/\w<=4],(rUi l o n w).v,(rUi l o n w).io,[]⟩) hs
  obtain ⟨q,h⟩ := gN hs
  simp only [Bool.and_eq_true,Nat.ble_eq,Nat.blt_eq] at q
  obtain ⟨⟨⟨⟨q1,q2⟩,q3⟩,q4⟩,q5⟩ := q
  exact ⟨_,(congrArg TL.sel e).trans rfl,zA.2 ⟨q1,q2,q3,q4,q5⟩,h⟩
 ·cases hs
def k0x (xs : List AV) (bs : List ABlk) : TL := match xs with
 | [.ptr 0 0 0 0,.int .i64 (.ofNat w),.int .i64 a,.int .i64 b] => P3 (fun l o n => X4 (Nat.ble w n && Nat.ble (fU l o w) (n - w) && Nat.ble (o + w + fU l o w) l.length && Nat.blt l.length 1000000000000 && Nat.ble 1 w && Nat.ble w 4 && decide (a<=fU l o w) && decide (fU l o w<=b)) (rVe l o n w)) bs
 | _ => .no
theorem kVe : COK Tryz.prog gl0 237 (mkF (lX k0x 4)) := cVe.chk fun xs bs r hs _ => by
 unfold k0x at hs
 split at hs
 ·rename_i w a b
  obtain ⟨l,o,n,e,hs⟩ := pG (k' := fun l o n => .ok ⟨[w<=n/\fU l o w<=n - w/\o + w + fU l o w<=l.length/\l.length < 1000000000000/\1<=w/\w<=4/\a<=fU l o w/\fU l o w<=b],(rVe l o n w).v,(rVe l o n w).io,(rVe l o n w).nw⟩) hs
  obtain ⟨q,h⟩ := gN hs
  simp only [Bool.and_eq_true,Nat.ble_eq,Nat.blt_eq,decide_eq_true_eq] at q
  obtain ⟨⟨⟨⟨⟨⟨⟨q0,q1⟩,q2⟩,q3⟩,q4⟩,q5⟩,q6⟩,q7⟩ := q
  exact ⟨_,(congrArg TL.sel e).trans rfl,zA.2 ⟨q0,q1,q2,q3,q4,q5,q6,q7⟩,h⟩
 ·cases hs
noncomputable def N7 : Ctx := (((((N6.add 70 (mkF { uN clA with G := y0x })).add 94 (mkF ⟨[.by0,.kp,.kp],fun _ _ => [],fun _ _ => [],x0x⟩)).add 95 (mkF ⟨[.by0,.by0,.kp],fun _ _ => [],fun _ _ => [],w0x⟩)).add 124 (mkF (lX v0x 2))).add 123 (mkF (lX u0x 2))).add 237 (mkF (lX k0x 4))
theorem okN7 : COKs Tryz.prog gl0 N7 := (((((okN6.add kClo).add kPu).add kPv).add kBy).add kUi).add kVe
def yF {α : Type} : By->(By->α)->α
 | [],k => k []
 | x::l,k => yF l fun l' => k (x::l')
theorem yI {α : Type} : ∀ (l : By) (k : By->α),yF l k = k l
 | [],_ => rfl
 | x::l,k => by simp only [yF]; rw [yI]
def jL {α : Type} : By->(By->α)->α
 | [],k => k []
 | x::l,k => yQ x.toNat fun q => jL l fun l' => k (BitVec.ofNat 8 q::l')
theorem gO {α : Type} : ∀ (l : By) (k : By->α),jL l k = k l
 | [],_ => rfl
 | x::l,k => by simp only [jL]; rw [yH,gO]; simp
def j0x : By->Nat->Nat
 | [],n => n
 | _::l,n => j0x l (n + 1)
theorem i8 : ∀ (l : By) (n : Nat),j0x l n = l.length + n
 | [],n => by simp [j0x]
 | _::l,n => by simp only [j0x,i8 l (n + 1),List.length_cons]; omega
def wO (l : By) : Nat := j0x l 0
theorem uX (l : By) : wO l = l.length := i8 l 0
def tT (b : Bool) (t : TL) : TL := match b with | true => t | false => .no
theorem cH (b : Bool) (r : RL) : X4 b r = tT b (.ok ⟨[],r.v,r.io,r.nw⟩) := by cases b <;> rfl
def gPuF (xs : List AV) (bs : List ABlk) : TL := match xs,bs with
 | [.rb false b .unk,.int .i64 n,.int .i64 (.ofNat w)],[] => (match w with
  | 1 => tT (decide (0<=n) && decide (n < 256) && Nat.blt (wO b) 1000000000000) (yQ ((wO b) + 1) fun L => jL (be 1 n) fun q => yF (b++q) fun m => .ok ⟨[],.slice 0 0 1 L .ow (.is false),[],[⟨.bytes m,true,1⟩]⟩)
  | 2 => tT (decide (0<=n) && decide (n < 65536) && Nat.blt (wO b) 1000000000000) (yQ ((wO b) + 2) fun L => jL (be 2 n) fun q => yF (b++q) fun m => .ok ⟨[],.slice 0 0 1 L .ow (.is false),[],[⟨.bytes m,true,1⟩]⟩)
  | 3 => tT (decide (0<=n) && decide (n < 16777216) && Nat.blt (wO b) 1000000000000) (yQ ((wO b) + 3) fun L => jL (be 3 n) fun q => yF (b++q) fun m => .ok ⟨[],.slice 0 0 1 L .ow (.is false),[],[⟨.bytes m,true,1⟩]⟩)
  | 4 => tT (decide (0<=n) && decide (n < 4294967296) && Nat.blt (wO b) 1000000000000) (yQ ((wO b) + 4) fun L => jL (be 4 n) fun q => yF (b++q) fun m => .ok ⟨[],.slice 0 0 1 L .ow (.is false),[],[⟨.bytes m,true,1⟩]⟩)
  | _ => .no)
 | _,_ => .no
theorem b1q : gPuF = x0x := by
 funext xs bs
 unfold gPuF x0x
 simp only [yH,gO,yI,cH,uX]
 rfl
def gPvF (xs : List AV) (bs : List ABlk) : TL := match xs,bs with
 | [.rb false b .unk,.rb false v .unk,.int .i64 (.ofNat w)],[] => (match w with
  | 1 => tT (Nat.blt (wO v) 256 && Nat.blt (wO b) 1000000000000) (yQ ((wO b) + 1 + (wO v)) fun L => jL (be 1 (wO v)) fun q => yF (b++q++v) fun m => .ok ⟨[],.slice 0 0 1 L .ow (.is false),[],[⟨.bytes m,true,1⟩]⟩)
  | 2 => tT (Nat.blt (wO v) 65536 && Nat.blt (wO b) 1000000000000) (yQ ((wO b) + 2 + (wO v)) fun L => jL (be 2 (wO v)) fun q => yF (b++q++v) fun m => .ok ⟨[],.slice 0 0 1 L .ow (.is false),[],[⟨.bytes m,true,1⟩]⟩)
  | 3 => tT (Nat.blt (wO v) 16777216 && Nat.blt (wO b) 1000000000000) (yQ ((wO b) + 3 + (wO v)) fun L => jL (be 3 (wO v)) fun q => yF (b++q++v) fun m => .ok ⟨[],.slice 0 0 1 L .ow (.is false),[],[⟨.bytes m,true,1⟩]⟩)
  | _ => .no)
 | _,_ => .no
theorem a1q : gPvF = w0x := by
 funext xs bs
 unfold gPvF w0x
 simp only [yH,gO,yI,cH,uX]
 rfl
def sQ (xs : List AV) (bs : List ABlk) : TL := match xs,bs with
 | [.rb p l .unk],[] => tT (Nat.blt (wO l) 1099511627776) (yQ (wO l) fun L => yF l fun m => .ok ⟨[],.slice 0 0 1 L .ow .unk,[],[⟨.bytes m,true,1⟩]⟩)
 | _,_ => .no
theorem i9 : sQ = y0x := by
 funext xs bs
 unfold sQ y0x
 simp only [yH,yI,cH,uX]
 rfl
def gByF (xs : List AV) (bs : List ABlk) : TL := match xs with
 | [.ptr 0 0 0 0,.int .i64 (.ofNat m)] => P3 (fun l o n => tT (Nat.ble m n && Nat.ble (o + m) (wO l) && Nat.blt (wO l) 1000000000000) (yQ m fun m' => yQ (o + m) fun o' => yQ (n - m) fun n' => yF ((l.drop o).take m) fun b => .ok ⟨[],.slice 2 0 1 m' .ow .unk,[some (some (bY o' n' .ox)),some (some (bZ l))],[⟨.bytes b,true,1⟩]⟩)) bs
 | _ => .no
theorem z1z : gByF = v0x := by
 funext xs bs
 unfold gByF v0x
 simp only [yH,yI,cH,uX]
 rfl
def gUiF (xs : List AV) (bs : List ABlk) : TL := match xs with
 | [.ptr 0 0 0 0,.int .i64 (.ofNat w)] => P3 (fun l o n => tT (Nat.ble w n && Nat.ble (o + w) (wO l) && Nat.blt (wO l) 1000000000000 && Nat.ble 1 w && Nat.ble w 4) (yQ (mJ ((l.drop o).take w)) fun v => yQ (o + w) fun o' => yQ (n - w) fun n' => .ok ⟨[],.int .i64 (Int.ofNat v),[some (some (bY o' n' .ox)),some (some (bZ l))],[]⟩)) bs
 | _ => .no
theorem y1z : gUiF = u0x := by
 funext xs bs
 unfold gUiF u0x
 simp only [yH,yI,cH,uX]
 rfl
def gVeF (xs : List AV) (bs : List ABlk) : TL := match xs with
 | [.ptr 0 0 0 0,.int .i64 (.ofNat w),.int .i64 a,.int .i64 b] => P3 (fun l o n => tT (Nat.ble w n && Nat.ble (fU l o w) (n - w) && Nat.ble (o + w + fU l o w) (wO l) && Nat.blt (wO l) 1000000000000 && Nat.ble 1 w && Nat.ble w 4 && decide (a<=fU l o w) && decide (fU l o w<=b)) (yQ (fU l o w) fun v => yQ (o + w + v) fun o' => yQ (n - w - v) fun n' => yF ((l.drop (o + w)).take v) fun m => .ok ⟨[],.slice 2 0 1 v .ow .unk,[some (some (bY o' n' .ox)),some (some (bZ l))],[⟨.bytes m,true,1⟩]⟩)) bs
 | _ => .no
theorem x1z : gVeF = k0x := by
 funext xs bs
 unfold gVeF k0x
 simp only [yH,yI,cH,uX]
 rfl
noncomputable def N8 : Ctx := (((((N6.add 70 (mkF { uN clA with G := sQ })).add 94 (mkF ⟨[.by0,.kp,.kp],fun _ _ => [],fun _ _ => [],gPuF⟩)).add 95 (mkF ⟨[.by0,.by0,.kp],fun _ _ => [],fun _ _ => [],gPvF⟩)).add 124 (mkF (lX gByF 2))).add 123 (mkF (lX gUiF 2))).add 237 (mkF (lX gVeF 4))
theorem okN8 : COKs Tryz.prog gl0 N8 := by
 unfold N8
 rw [i9,b1q,a1q,z1z,y1z,x1z]
 exact okN7
end Go.Sym
namespace Go.Spec
def hrr : By := [72#8,101#8,108#8,108#8,111#8,82#8,101#8,116#8,114#8,121#8,82#8,101#8,113#8,117#8,101#8,115#8,116#8]
def hrrL : By := [0xcf#8,0x21#8,0xad#8,0x74#8,0xe5#8,0x9a#8,0x61#8,0x11#8,0xbe#8,0x1d#8,0x8c#8,0x02#8,0x1e#8,0x65#8,0xb8#8,0x91#8,0xc2#8,0xa2#8,0x11#8,0x16#8,0x7a#8,0xbb#8,0x8c#8,0x5e#8,0x07#8,0x9e#8,0x09#8,0xe2#8,0xc8#8,0xa8#8,0x33#8,0x9c#8]
theorem x2z : rg 32 (zL hrr) = hrrL := by rw [Q2]; kernel_rfl
end Go.Spec
namespace Go.Sym
open Go.Proofs Go.Spec
set_option maxRecDepth 100000 in
theorem vHr (f : F8) : bq N8 Tryz.f275 0 [] [] ⟨[],aggB 32 f,[],[]⟩ = (
0 < 17/\0 < 17/\17 = 17/\17 < 4611686018427387904/\zG (fun (i : Nat) => f i = zL hrr i) 0 32 True : Prop) := by kernel_rfl
theorem w2z (i : Nat) (h : i < 32) : hrrL.getD i 0 = zL hrr i := by
 rw [<- x2z]
 exact gP _ _ _ _ h
theorem bHr : Must (bq N8 Tryz.f275 0 [] [] ⟨[],aggB 32 (uM hrrL),[],[]⟩) := by
 constructor
 rw [vHr]
 exact ⟨by omega,by omega,rfl,by omega,zS (fun i _ h => w2z i (by omega)) trivial⟩
def gHr (xs : List AV) (bs : List ABlk) : TL := match xs,bs with
 | [],[] => .ok ⟨[],aggB 32 (uM hrrL),[],[]⟩
 | _,_ => .no
theorem cHr : COK Tryz.prog gl0 275 (mkF ⟨[],fun _ _ => [],fun _ _ => [],gHr⟩) := by
 refine yY (fn := Tryz.f275) [] 3000 (by kernel_rfl) (by kernel_rfl) okN8 (by kernel_rfl) (fun args w => by kernel_rfl) fun xs bs r hs ho => ?_
 simp only [gHr] at hs
 split at hs
 ·cases hs
  exact ⟨_,bHr⟩
 ·cases hs
end Go.Sym
namespace Go.Spec
open Go.Sym
def hrD (f : F8) : By->Nat->Bool
 | [],_ => true
 | x::l,i => decide (f i = x) && hrD f l (i + 1)
def tU : By := List.replicate 32 0#8
def derL : By := [100#8,101#8,114#8,105#8,118#8,101#8,100#8]
def finL : By := [102#8,105#8,110#8,105#8,115#8,104#8,101#8,100#8]
def resL : By := [114#8,101#8,115#8,32#8,98#8,105#8,110#8,100#8,101#8,114#8]
def sgnL : By := List.replicate 64 32#8++[84#8,76#8,83#8,32#8,49#8,46#8,51#8,44#8,32#8,115#8,101#8,114#8,118#8,101#8,114#8,32#8,67#8,101#8,114#8,116#8,105#8,102#8,105#8,99#8,97#8,116#8,101#8,86#8,101#8,114#8,105#8,102#8,121#8,0#8]
noncomputable def kX (p : By) : F8 := kD tU (match p with | [] => tU | _::_ => p)
noncomputable def uK (s p : By) : F8 := kD (rg 32 (xG s derL (rg 32 (zL [])))) p
noncomputable def j0 (s h : By) : F8 := kD (rg 32 (xG s finL [])) h
noncomputable def C1 (k h : By) : F8 := kD k (sgnL++h)
noncomputable def biF (p h : By) : F8 := j0 (rg 32 (xG (rg 32 (kX p)) resL (rg 32 (zL [])))) h
end Go.Spec
namespace Go.Sym
open Go.Proofs Go.Spec
def z8 (n : Nat) : List AV := List.replicate n (.u8 0)
def asL (n : Nat) (cs : List AV) (g : By->TL) : TL := match qO cs with | some l => (match Nat.beq l.length n with | true => g l | false => .no) | none => .no
theorem vO {n : Nat} {cs : List AV} {g : By->TL} {r : RL} (h : (asL n cs g).sel = some r) : ∃ f : F8,AV.agg cs = aggB n f/\(g (rg n f)).sel = some r := by
 unfold asL at h
 split at h
 ·rename_i l hl
  split at h
  ·rename_i hn
   have hn : l.length = n := by simpa using hn
   refine ⟨uM l,C7 hl (by simpa using hn),?_⟩
   rw [show rg n (uM l) = l from nR 0 hn]
   exact h
  ·simp [TL.sel] at h
 ·simp [TL.sel] at h
theorem jZ {b : Bool} {t : TL} {r : RL} (h : (tT b t).sel = some r) : b = true/\t.sel = some r := by
 cases b
 ·cases h
 ·exact ⟨rfl,h⟩
def cj : List Nat->Prop->Prop
 | 0::a::l,p => a = a/\cj l p
 | 1::a::b::l,p => a < b/\cj l p
 | 2::a::b::l,p => a<=b/\cj l p
 | 3::a::b::c::l,p => zD a b c/\cj l p
 | 4::a::l,p => Int.ofNat a = Int.ofNat a/\cj l p
 | 5::a::b::l,p => Int.ofNat a<=Int.ofNat b/\cj l p
 | _,p => p
def cjB : List Nat->Bool
 | 0::_::l => cjB l
 | 1::a::b::l => Nat.blt a b && cjB l
 | 2::a::b::l => Nat.ble a b && cjB l
 | 3::a::b::c::l => Nat.ble ((a + b) * (2 * c)) 281474976710656 && cjB l
 | 4::_::l => cjB l
 | 5::a::b::l => Nat.ble a b && cjB l
 | _ => true
theorem cj_ok {p : Prop} (h : p) : ∀ l,cjB l = true->cj l p := by
 intro l
 fun_induction cj l p <;> intro k <;> simp only [cjB,Bool.and_eq_true,Nat.blt_eq,Nat.ble_eq] at k
 ·rename_i ih; exact ⟨rfl,ih h k⟩
 ·rename_i ih; exact ⟨k.1,ih h k.2⟩
 ·rename_i ih; exact ⟨k.1,ih h k.2⟩
 ·rename_i ih; exact ⟨k.1,ih h k.2⟩
 ·rename_i ih; exact ⟨rfl,ih h k⟩
 ·rename_i ih; exact ⟨Int.ofNat_le.2 k.1,ih h k.2⟩
 ·exact h
theorem ck {l : List Nat} {p : Prop} (k : cjB l = true) (h : p) : cj l p := cj_ok h l k
noncomputable def Z0 : Ctx := exeS Tryz.prog gl0 3000 [(168,Tryz.f168),(169,Tryz.f169),(136,Tryz.f136),(240,Tryz.f240),(255,Tryz.f255),(300,Tryz.f300),(278,Tryz.f278),(301,Tryz.f301),(279,Tryz.f279),(239,Tryz.f239)] N8
theorem okZ0 : COKs Tryz.prog gl0 Z0 := okN8.exeS 3000 (by kernel_rfl) _ (by kernel_rfl) (by kernel_rfl)
set_option maxRecDepth 100000 in
theorem vSc0 (f : F8) : bq Z0 Tryz.f135 0 [.rb false [] .unk] [] ⟨[],.agg (yD 32 f++z8 64),[],[]⟩ = (
32<=32/\32<=281474976710656/\32<=9223372036854775807/\32<=32/\32<=281474976710656/\32<=9223372036854775807/\32 = 32/\32 = 32/\(32 < 4611686018427387904/\32 < 4611686018427387904)/\zG (fun (i : Nat) => f i = kD (List.replicate 32 (0 : BitVec 8)) (List.replicate 32 (0 : BitVec 8)) i) 0 32 (zG (fun (i : Nat) => (0 : BitVec 8) = BitVec.ofNat 8 0) 0 64 True) : Prop) := by kernel_rfl
set_option maxRecDepth 100000 in
theorem vSc1 (p f : F8) : bq Z0 Tryz.f135 0 [.rb false (rg 32 p) .unk] [] ⟨[],.agg (yD 32 f++z8 64),[],[]⟩ = (
32<=32/\32<=281474976710656/\32<=9223372036854775807/\32 = 32/\(32 < 4611686018427387904/\(rg 32 p).length < 4611686018427387904)/\zG (fun (i : Nat) => f i = kD (List.replicate 32 (0 : BitVec 8)) (rg 32 p) i) 0 32 (zG (fun (i : Nat) => (0 : BitVec 8) = BitVec.ofNat 8 0) 0 64 True) : Prop) := by kernel_rfl
set_option maxRecDepth 100000 in
theorem vSc2 (p q a b c : F8) : bq Z0 Tryz.f206 0 [aggB 96 p,aggB 32 q] [] ⟨[],.agg (yD 32 a++yD 32 b++yD 32 c),[],[]⟩ = (
let x1 := rg 32 (xG (rg 32 fun (i : Nat) => (rg 32 p).getD i (0 : BitVec 8)) [BitVec.ofNat 8 100,BitVec.ofNat 8 101,BitVec.ofNat 8 114,BitVec.ofNat 8 105,BitVec.ofNat 8 118,BitVec.ofNat 8 101,BitVec.ofNat 8 100] (rg 32 (zL []))); 0 < 4611686018427387904/\(x1.length < 4611686018427387904/\(rg 32 q).length < 4611686018427387904)/\zG (fun (i : Nat) => a i = p i) 0 32 (zG (fun (i : Nat) => b i = kD x1 (rg 32 q) i) 0 32 (c 0 = p 64/\c 1 = p 65/\c 2 = p 66/\c 3 = p 67/\c 4 = p 68/\c 5 = p 69/\c 6 = p 70/\c 7 = p 71/\c 8 = p 72/\c 9 = p 73/\c 10 = p 74/\c 11 = p 75/\c 12 = p 76/\c 13 = p 77/\c 14 = p 78/\c 15 = p 79/\c 16 = p 80/\c 17 = p 81/\c 18 = p 82/\c 19 = p 83/\c 20 = p 84/\c 21 = p 85/\c 22 = p 86/\c 23 = p 87/\c 24 = p 88/\c 25 = p 89/\c 26 = p 90/\c 27 = p 91/\c 28 = p 92/\c 29 = p 93/\c 30 = p 94/\c 31 = p 95/\True)) : Prop) := by kernel_rfl
set_option maxRecDepth 100000 in
theorem vSc3 (p a b c : F8) : bq Z0 Tryz.f189 0 [aggB 96 p] [] ⟨[],.agg (yD 32 a++yD 32 b++yD 32 c),[],[]⟩ = (
let x1 := rg 32 (xG (rg 32 fun (i : Nat) => (zY p 32 32 []).getD i (0 : BitVec 8)) [BitVec.ofNat 8 100,BitVec.ofNat 8 101,BitVec.ofNat 8 114,BitVec.ofNat 8 105,BitVec.ofNat 8 118,BitVec.ofNat 8 101,BitVec.ofNat 8 100] (rg 32 (zL []))); 0 < 4611686018427387904/\32<=32/\32<=281474976710656/\32<=9223372036854775807/\32 = 32/\(x1.length < 4611686018427387904/\32 < 4611686018427387904)/\zG (fun (i : Nat) => a i = p i) 0 32 (b 0 = p 32/\b 1 = p 33/\b 2 = p 34/\b 3 = p 35/\b 4 = p 36/\b 5 = p 37/\b 6 = p 38/\b 7 = p 39/\b 8 = p 40/\b 9 = p 41/\b 10 = p 42/\b 11 = p 43/\b 12 = p 44/\b 13 = p 45/\b 14 = p 46/\b 15 = p 47/\b 16 = p 48/\b 17 = p 49/\b 18 = p 50/\b 19 = p 51/\b 20 = p 52/\b 21 = p 53/\b 22 = p 54/\b 23 = p 55/\b 24 = p 56/\b 25 = p 57/\b 26 = p 58/\b 27 = p 59/\b 28 = p 60/\b 29 = p 61/\b 30 = p 62/\b 31 = p 63/\zG (fun (i : Nat) => c i = kD x1 (List.replicate 32 (0 : BitVec 8)) i) 0 32 True) : Prop) := by kernel_rfl
set_option maxRecDepth 100000 in
theorem vSc4 (p q f : F8) : bq Z0 Tryz.f134 0 [aggB 32 p,aggB 32 q] [] ⟨[],aggB 32 f,[],[]⟩ = (
let x1 := rg 32 (xG (rg 32 fun (i : Nat) => (rg 32 p).getD i (0 : BitVec 8)) [BitVec.ofNat 8 102,BitVec.ofNat 8 105,BitVec.ofNat 8 110,BitVec.ofNat 8 105,BitVec.ofNat 8 115,BitVec.ofNat 8 104,BitVec.ofNat 8 101,BitVec.ofNat 8 100] []); (x1.length < 4611686018427387904/\(rg 32 q).length < 4611686018427387904)/\zG (fun (i : Nat) => f i = kD x1 (rg 32 q) i) 0 32 True : Prop) := by kernel_rfl
set_option maxRecDepth 100000 in
theorem vSc5 (p q f : F8) : bq Z0 Tryz.f188 0 [aggB 32 p,aggB 32 q] [] ⟨[],.slice 0 0 1 32 (.kn 32) (.is false),[],[⟨.cells (yD 32 f),true,0⟩]⟩ = (
let x1 := List.take 0 (List.replicate 130 (0 : BitVec 8))++(List.take 64 (List.replicate 128 (BitVec.ofNat 8 32))++[BitVec.ofNat 8 84,BitVec.ofNat 8 76,BitVec.ofNat 8 83,BitVec.ofNat 8 32,BitVec.ofNat 8 49,BitVec.ofNat 8 46,BitVec.ofNat 8 51,BitVec.ofNat 8 44,BitVec.ofNat 8 32,BitVec.ofNat 8 115,BitVec.ofNat 8 101,BitVec.ofNat 8 114,BitVec.ofNat 8 118,BitVec.ofNat 8 101,BitVec.ofNat 8 114,BitVec.ofNat 8 32,BitVec.ofNat 8 67,BitVec.ofNat 8 101,BitVec.ofNat 8 114,BitVec.ofNat 8 116,BitVec.ofNat 8 105,BitVec.ofNat 8 102,BitVec.ofNat 8 105,BitVec.ofNat 8 99,BitVec.ofNat 8 97,BitVec.ofNat 8 116,BitVec.ofNat 8 101,BitVec.ofNat 8 86,BitVec.ofNat 8 101,BitVec.ofNat 8 114,BitVec.ofNat 8 105,BitVec.ofNat 8 102,BitVec.ofNat 8 121])++[BitVec.ofNat 8 0]++rg 32 q; 0 < 1/\(0 : Int)<=Int.ofNat 1/\1<=128/\(0 : Int)<=Int.ofNat 64/\64<=128/\97<=9223372036854775807/\(0 : Int)<=(0 : Int)/\0 < 3/\(0 : Int)<=Int.ofNat 1/\1 < 3/\(0 : Int)<=Int.ofNat 2/\2 < 3/\((0 : Int) < Int.ofNat 130/\Int.ofNat 130 < (1099511627776 : Int))/\(0 : Int)<=(0 : Int)/\0 < 3/\0<=130/\97 = 97/\0 = 0/\zD 0 97 1/\(0 : Int)<=Int.ofNat 1/\1 < 3/\1 = 1/\97 = 97/\zD 97 1 1/\(0 : Int)<=Int.ofNat 2/\2 < 3/\98 = 98/\zD 98 (rg 32 q).length 1/\98 + (rg 32 q).length = x1.length/\((rg 32 p).length < 4611686018427387904/\x1.length < 4611686018427387904)/\Bool.false = Bool.false/\32 = 32/\0 = 0/\0 = 0/\32 = 32/\zG (fun (i : Nat) => f i = kD (rg 32 p) x1 i) 0 32 True : Prop) := by kernel_rfl
set_option maxRecDepth 100000
theorem y1v (p : By) (h : p = [] \/ ∃ f : F8,p = rg 32 f) : Must (bq Z0 Tryz.f135 0 [.rb false p .unk] [] ⟨[],.agg (yD 32 (kX p)++z8 64),[],[]⟩) := by
 constructor
 rcases h with rfl | ⟨f,rfl⟩
 ·rw [vSc0]
  repeat first | exact True.intro | refine And.intro (by first | omega | rfl | (unfold zD; exact of_decide_eq_true (by kernel_rfl)) | exact ⟨of_decide_eq_true (by kernel_rfl),of_decide_eq_true (by kernel_rfl)⟩ | exact of_decide_eq_true (by kernel_rfl)) ?_ | refine zS (fun i _ h => by first | rfl | exact Int.natCast_nonneg _) ?_
 ·rw [vSc1]
  repeat first | exact True.intro | refine And.intro (by first | omega | rfl | (unfold zD; exact of_decide_eq_true (by kernel_rfl)) | exact ⟨of_decide_eq_true (by kernel_rfl),of_decide_eq_true (by kernel_rfl)⟩ | exact of_decide_eq_true (by kernel_rfl)) ?_ | refine zS (fun i _ h => by first | rfl | exact Int.natCast_nonneg _) ?_
theorem skbMx (p q : F8) : Must (bq Z0 Tryz.f206 0 [aggB 96 p,aggB 32 q] [] ⟨[],.agg (yD 32 p++yD 32 (uK (rg 32 p) (rg 32 q))++yD 32 fun i => p (64 + i)),[],[]⟩) := by
 constructor
 rw [vSc2]
 set_option simprocs false in dsimp only
 repeat first | exact True.intro | refine And.intro (by first | omega | rfl | (unfold zD; exact of_decide_eq_true (by kernel_rfl)) | exact ⟨of_decide_eq_true (by kernel_rfl),of_decide_eq_true (by kernel_rfl)⟩ | exact of_decide_eq_true (by kernel_rfl)) ?_ | refine zS (fun i _ h => by first | rfl | exact Int.natCast_nonneg _) ?_
theorem skbFi (p : F8) : Must (bq Z0 Tryz.f189 0 [aggB 96 p] [] ⟨[],.agg (yD 32 p++yD 32 (fun i => p (32 + i))++yD 32 (uK (rg 32 fun i => p (32 + i)) tU)),[],[]⟩) := by
 constructor
 rw [vSc3]
 set_option simprocs false in dsimp only
 repeat first | exact True.intro | refine And.intro (by first | omega | rfl | (unfold zD; exact of_decide_eq_true (by kernel_rfl)) | exact ⟨of_decide_eq_true (by kernel_rfl),of_decide_eq_true (by kernel_rfl)⟩ | exact of_decide_eq_true (by kernel_rfl)) ?_ | refine zS (fun i _ h => by first | rfl | exact Int.natCast_nonneg _) ?_
theorem skbVf (p q : F8) : Must (bq Z0 Tryz.f134 0 [aggB 32 p,aggB 32 q] [] ⟨[],aggB 32 (j0 (rg 32 p) (rg 32 q)),[],[]⟩) := by
 constructor
 rw [vSc4]
 set_option simprocs false in dsimp only
 repeat first | exact True.intro | refine And.intro (by first | omega | rfl | (unfold zD; exact of_decide_eq_true (by kernel_rfl)) | exact ⟨of_decide_eq_true (by kernel_rfl),of_decide_eq_true (by kernel_rfl)⟩ | exact of_decide_eq_true (by kernel_rfl)) ?_ | refine zS (fun i _ h => by first | rfl | exact Int.natCast_nonneg _) ?_
theorem skbSg (p q : F8) : Must (bq Z0 Tryz.f188 0 [aggB 32 p,aggB 32 q] [] ⟨[],.slice 0 0 1 32 (.kn 32) (.is false),[],[⟨.cells (yD 32 (C1 (rg 32 p) (rg 32 q))),true,0⟩]⟩) := by
 constructor
 rw [vSc5]
 set_option simprocs false in dsimp only
 repeat first | exact True.intro | refine And.intro (by first | omega | rfl | (unfold zD; exact of_decide_eq_true (by kernel_rfl)) | exact ⟨of_decide_eq_true (by kernel_rfl),of_decide_eq_true (by kernel_rfl)⟩ | exact of_decide_eq_true (by kernel_rfl)) ?_ | refine zS (fun i _ h => by first | rfl | exact Int.natCast_nonneg _) ?_
noncomputable def skSt (xs : List AV) (bs : List ABlk) : TL := match xs,bs with
 | [.rb false p .unk],[] => (match p with | [] => .ok ⟨[],.agg (yD 32 (kX [])++z8 64),[],[]⟩ | x::l => tT (Nat.beq l.length 31) (yF (x::l) fun p => .ok ⟨[],.agg (yD 32 (kX p)++z8 64),[],[]⟩))
 | _,_ => .no
theorem x1v : COK Tryz.prog gl0 135 (mkF ⟨[.by0],fun _ _ => [],fun _ _ => [],skSt⟩) := by
 refine yY (fn := Tryz.f135) [] 3000 (by kernel_rfl) (by kernel_rfl) okZ0 (by kernel_rfl) (fun args w => by kernel_rfl) fun xs bs r hs ho => ?_
 simp only [skSt] at hs
 split at hs
 ·split at hs
  ·cases hs; exact ⟨_,y1v [] (.inl rfl)⟩
  ·rename_i x l
   obtain ⟨q,hs⟩ := jZ hs
   rw [yI] at hs
   cases hs
   refine ⟨_,y1v (x::l) (.inr ⟨uM (x::l),(nR 0 ?_).symm⟩)⟩
   simpa using q
 ·cases hs
noncomputable def skMx (xs : List AV) (bs : List ABlk) : TL := match xs,bs with
 | [.agg cs,.agg ds],[] => asL 96 cs fun p => asL 32 ds fun q => yF (p.take 32) fun a => yF (p.drop 64) fun c => .ok ⟨[],.agg (a.map .u8++yD 32 (uK a q)++c.map .u8),[],[]⟩
 | _,_ => .no
theorem skcMx : COK Tryz.prog gl0 206 (mkF ⟨[.kp,.kp],fun _ _ => [],fun _ _ => [],skMx⟩) := by
 refine yY (fn := Tryz.f206) [] 3000 (by kernel_rfl) (by kernel_rfl) okZ0 (by kernel_rfl) (fun args w => by kernel_rfl) fun xs bs r hs ho => ?_
 simp only [skMx] at hs
 split at hs
 ·obtain ⟨p,e,hs⟩ := vO hs
  obtain ⟨q,e2,hs⟩ := vO hs
  rw [yI,yI] at hs
  cases hs
  rw [e,e2]
  exact ⟨_,skbMx p q⟩
 ·cases hs
noncomputable def skFi (xs : List AV) (bs : List ABlk) : TL := match xs,bs with
 | [.agg cs],[] => asL 96 cs fun p => yF (p.take 32) fun a => yF ((p.drop 32).take 32) fun b => .ok ⟨[],.agg (a.map .u8++b.map .u8++yD 32 (uK b tU)),[],[]⟩
 | _,_ => .no
theorem skcFi : COK Tryz.prog gl0 189 (mkF ⟨[.kp],fun _ _ => [],fun _ _ => [],skFi⟩) := by
 refine yY (fn := Tryz.f189) [] 3000 (by kernel_rfl) (by kernel_rfl) okZ0 (by kernel_rfl) (fun args w => by kernel_rfl) fun xs bs r hs ho => ?_
 simp only [skFi] at hs
 split at hs
 ·obtain ⟨p,e,hs⟩ := vO hs
  rw [yI,yI] at hs
  cases hs
  rw [e]
  exact ⟨_,skbFi p⟩
 ·cases hs
noncomputable def skVf (xs : List AV) (bs : List ABlk) : TL := match xs,bs with
 | [.agg cs,.agg ds],[] => asL 32 cs fun p => asL 32 ds fun q => .ok ⟨[],aggB 32 (j0 p q),[],[]⟩
 | _,_ => .no
theorem w1v : COK Tryz.prog gl0 134 (mkF ⟨[.kp,.kp],fun _ _ => [],fun _ _ => [],skVf⟩) := by
 refine yY (fn := Tryz.f134) [] 3000 (by kernel_rfl) (by kernel_rfl) okZ0 (by kernel_rfl) (fun args w => by kernel_rfl) fun xs bs r hs ho => ?_
 simp only [skVf] at hs
 split at hs
 ·obtain ⟨p,e,hs⟩ := vO hs
  obtain ⟨q,e2,hs⟩ := vO hs
  cases hs
  rw [e,e2]
  exact ⟨_,skbVf p q⟩
 ·cases hs
noncomputable def skSg (xs : List AV) (bs : List ABlk) : TL := match xs,bs with
 | [.agg cs,.agg ds],[] => asL 32 cs fun p => asL 32 ds fun q => .ok ⟨[],.slice 0 0 1 32 (.kn 32) (.is false),[],[⟨.cells (yD 32 (C1 p q)),true,0⟩]⟩
 | _,_ => .no
theorem skcSg : COK Tryz.prog gl0 188 (mkF ⟨[.kp,.kp],fun _ _ => [],fun _ _ => [],skSg⟩) := by
 refine yY (fn := Tryz.f188) [] 3000 (by kernel_rfl) (by kernel_rfl) okZ0 (by kernel_rfl) (fun args w => by kernel_rfl) fun xs bs r hs ho => ?_
 simp only [skSg] at hs
 split at hs
 ·obtain ⟨p,e,hs⟩ := vO hs
  obtain ⟨q,e2,hs⟩ := vO hs
  cases hs
  rw [e,e2]
  exact ⟨_,skbSg p q⟩
 ·cases hs
noncomputable def Z1 : Ctx := ((Z0.add 135 (mkF ⟨[.by0],fun _ _ => [],fun _ _ => [],skSt⟩)).add 134 (mkF ⟨[.kp,.kp],fun _ _ => [],fun _ _ => [],skVf⟩))
theorem okZ1 : COKs Tryz.prog gl0 Z1 := (okZ0.add x1v).add w1v
set_option maxRecDepth 100000 in
theorem vSc6 (p q f : F8) : bq Z1 Tryz.f110 0 [.rb false (rg 32 p) .unk,aggB 32 q] [] ⟨[],aggB 32 f,[],[]⟩ = (
0 < 4611686018427387904/\zG (fun (i : Nat) => f i = j0 (rg 32 (xG (rg 32 fun (i : Nat) => (rg 32 (kX (rg 32 p))).getD i (0 : BitVec 8)) [BitVec.ofNat 8 114,BitVec.ofNat 8 101,BitVec.ofNat 8 115,BitVec.ofNat 8 32,BitVec.ofNat 8 98,BitVec.ofNat 8 105,BitVec.ofNat 8 110,BitVec.ofNat 8 100,BitVec.ofNat 8 101,BitVec.ofNat 8 114] (rg 32 (zL [])))) (rg 32 q) i) 0 32 True : Prop) := by kernel_rfl
theorem skbBi (p q : F8) : Must (bq Z1 Tryz.f110 0 [.rb false (rg 32 p) .unk,aggB 32 q] [] ⟨[],aggB 32 (biF (rg 32 p) (rg 32 q)),[],[]⟩) := by
 constructor
 rw [vSc6]
 repeat first | exact True.intro | refine And.intro (by first | omega | rfl | (unfold zD; exact of_decide_eq_true (by kernel_rfl)) | exact ⟨of_decide_eq_true (by kernel_rfl),of_decide_eq_true (by kernel_rfl)⟩ | exact of_decide_eq_true (by kernel_rfl)) ?_ | refine zS (fun i _ h => by first | rfl | exact Int.natCast_nonneg _) ?_
noncomputable def skBi (xs : List AV) (bs : List ABlk) : TL := match xs,bs with
 | [.rb false p .unk,.agg ds],[] => tT (Nat.beq p.length 32) (asL 32 ds fun q => .ok ⟨[],aggB 32 (biF p q),[],[]⟩)
 | _,_ => .no
theorem skcBi : COK Tryz.prog gl0 110 (mkF ⟨[.by0,.kp],fun _ _ => [],fun _ _ => [],skBi⟩) := by
 refine yY (fn := Tryz.f110) [] 3000 (by kernel_rfl) (by kernel_rfl) okZ1 (by kernel_rfl) (fun args w => by kernel_rfl) fun xs bs r hs ho => ?_
 simp only [skBi] at hs
 split at hs
 ·obtain ⟨h,hs⟩ := jZ hs
  obtain ⟨q,e2,hs⟩ := vO hs
  cases hs
  rename_i p ds _
  rw [e2]
  have e : p = rg 32 (uM p) := (nR 0 (by simpa using h)).symm
  rw [e]
  exact ⟨_,skbBi _ q⟩
 ·cases hs
theorem P5 {P : Program} {gl : Gl} {f : FuncId} {fn : Func} {c : Code} {sp : Spec} (gs : List Nat) (fuel : Nat) (hf : P.funcs[f]? = some fn) (hb : fn.body = some c) (hok : fI fn sp gs c = true) (hmix : P.follows .mixedOrders = true)
  (hcall : ∀ args w,(callFunc f args).run P w = .ok (.enter f args) w)
  (h : ∀ zs bs r,(sp.G zs bs).sel = some r->zP r.ob->∃ Γ,COKs P gl Γ/\∃ Q,m0j P gl fn bs.length r Q/\wW P Γ fn.ntmps bs.length fuel c [] Q (I3 gl gs zs bs)) :
  COKv P gl f (mkF sp) := by
 refine ⟨hcall,?_⟩
 intro M w κ hs hh zs vals fr r hG hMG hr hle hup hfr hgrho hfrG hvs hsel hobr
 unfold mkF at hsel
 rw [wH] at hsel
 split at hsel
 ·rename_i hc
  obtain ⟨hc1,hc2,hc3⟩ := hc
  split at hsel
  ·rename_i o1 as2 hi1
   split at hsel
   ·rename_i o2 bs2 hi2
    obtain ⟨q,hq1,hq2⟩ := TL.toT_sel hsel
    unfold rlT at hq2
    split at hq2
    ·rename_i hl
     simp only [T.sel,Option.some.injEq] at hq2
     subst hq2
     obtain ⟨hoo,hoq⟩ := zE.1 hobr
     obtain ⟨ho1,ho2⟩ := zE.1 hoo
     have hSG : xI<=GB := by unfold xI GB; omega
     obtain ⟨hl1,hl2⟩ : bs2.length = (sp.io zs hs).length/\(sp.io zs hs).length = (sp.bk hs (sp.io zs hs)).length := by
      obtain ⟨κ2,vr,_⟩ := gC (hr.le hle) (xD (sp.io zs hs))
      obtain ⟨k1,k2,_⟩ := gT (hr.le hle) vr (by omega) _ _ bs2 o2 hi2 ho2
      exact ⟨k1,k2⟩
     obtain ⟨Γ,hΓ,Q,hE,hw⟩ := h as2 bs2 q hq1 hoq
     rw [hl1] at hw hE
     exact cY hf hb hok hΓ hmix hG hMG hr hle hup hfr hgrho hfrG hvs hc1 hc2 hc3 hi1 hi2 ho1 ho2 hl.1 hl.2.1 hl.2.2 hE hw
    ·simp [T.sel] at hq2
   ·simp [T.sel] at hsel
  ·simp [T.sel] at hsel
 ·simp [T.sel] at hsel
theorem pH {P : Program} {gl : Gl} {f : FuncId} {fn : Func} {sp : Spec} (gs : List Nat) (fuel : Nat) (hf : P.funcs[f]? = some fn) (hok : (match fn.body with | some c => fI fn sp gs c | none => false) = true) (hmix : P.follows .mixedOrders = true)
  (hcall : ∀ args w,(callFunc f args).run P w = .ok (.enter f args) w)
  (h : ∀ zs bs r,(sp.G zs bs).sel = some r->zP r.ob->∃ Γ,COKs P gl Γ/\∃ ls,Must (xQ P Γ gl gs ls fuel fn bs.length zs bs (vL P fn bs.length r))) :
  COK P gl f (mkF sp) := by
 cases hb : fn.body with
 | none => rw [hb] at hok; cases hok
 | some c =>
  rw [hb] at hok
  refine (P5 gs fuel hf hb hok hmix hcall fun zs bs r hs ho => ?_).cok
  obtain ⟨Γ,hΓ,ls,hm⟩ := h zs bs r hs ho
  exact ⟨Γ,hΓ,_,dP,gV hb hm.out⟩
end Go.Sym
