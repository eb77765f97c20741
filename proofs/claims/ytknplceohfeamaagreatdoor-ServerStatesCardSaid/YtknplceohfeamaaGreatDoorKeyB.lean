/- The secrets of a connection, step by step. -/
import Derived.Test.YtknplceohfeamaaGreatDoorKeyA
import Derived.Test.YtknplceohfeamaaGreatDoorSymC
set_option linter.unusedVariables false
set_option linter.unusedSimpArgs false
namespace Go.Sym
theorem toT_get (f : RL→T) {q : R} : ∀ (t : TL),(t.toT f).sel = some q→∃ r,t.sel = some r∧(f r).sel = some q
 | .no,h => by cases h
 | .ok r,h => ⟨r,rfl,h⟩
 | .br b x y,h => by
  cases b
  ·exact toT_get f y h
  ·exact toT_get f x h
theorem toT_put (f : RL→T) {r : RL} : ∀ (t : TL),t.sel = some r→(t.toT f).sel = (f r).sel
 | .no,h => by cases h
 | .ok r',h => by cases h; rfl
 | .br b x y,h => by
  cases b
  ·exact toT_put f y h
  ·exact toT_put f x h
theorem mkF_chk {sp : Spec} {G : List AV→List ABlk→TL} (hG : ∀ xs bs r',(G xs bs).sel = some r'→obsT r'.ob→∃ r,(sp.G xs bs).sel = some r∧obsT r.ob∧r.v = r'.v∧r.io = r'.io∧r.nw = r'.nw) (hs : H) (xs : List AV) (fr : Nat) (q : R)
  (h : (mkF { sp with G := G } hs xs fr).sel = some q) (ho : obsT q.ob) : ∃ p,(mkF sp hs xs fr).sel = some p∧obsT p.ob∧p.v = q.v∧p.up = q.up := by
 unfold mkF at h ⊢
 rw [forceLN_eq] at h ⊢
 split at h
 ·rename_i hc
  rw [if_pos hc]
  split at h
  ·rename_i o1 as2 e1
   rw [e1]
   dsimp only at h ⊢
   split at h
   ·rename_i o2 bs2 e2
    obtain ⟨r',k1,k2⟩ := toT_get _ _ h
    unfold rlT at k2
    split at k2
    ·rename_i hk
     cases k2
     obtain ⟨r,k3,k4,k5,k6,k7⟩ := hG _ _ _ k1 (obsT_append.1 ho).2
     rw [toT_put _ _ k3]
     unfold rlT
     rw [k5,k6,k7,if_pos hk]
     exact ⟨_,rfl,obsT_append.2 ⟨(obsT_append.1 ho).1,k4⟩,rfl,rfl⟩
    ·cases k2
   ·cases h
  ·cases h
 ·cases h
theorem COK.chk {P : Program} {gl : Gl} {f : FuncId} {sp : Spec} {G : List AV→List ABlk→TL} (hG : ∀ xs bs r',(G xs bs).sel = some r'→obsT r'.ob→∃ r,(sp.G xs bs).sel = some r∧obsT r.ob∧r.v = r'.v∧r.io = r'.io∧r.nw = r'.nw) (h : COK P gl f (mkF sp)) : COK P gl f (mkF { sp with G := G }) := by
 rcases h with h | h
 ·refine .inl ⟨h.1,fun M w κ hs h' zs vals fr r a1 a2 a3 a4 a5 a6 a7 a8 hv hsel ho => ?_⟩
  obtain ⟨p,k1,k2,k3,k4⟩ := mkF_chk hG hs zs fr r hsel ho
  have := h.2 M w κ hs h' zs vals fr p a1 a2 a3 a4 a5 a6 a7 a8 hv k1 k2
  rw [k3,k4] at this
  exact this
 ·refine .inr fun M w κ hs h' zs vals fr r a1 a2 hv hsel ho => ?_
  obtain ⟨p,k1,k2,k3,k4⟩ := mkF_chk hG hs zs fr r hsel ho
  have := h M w κ hs h' zs vals fr p a1 a2 hv k1 k2
  rw [k3,k4] at this
  exact this
open Go.Proofs Go.Spec
def ckR (b : Bool) (r : RL) : TL := match b with | true => .ok ⟨[],r.v,r.io,r.nw⟩ | false => .no
theorem ckR_sel {b : Bool} {r q : RL} (h : (ckR b r).sel = some q) : b = true∧r.v = q.v∧r.io = q.io∧r.nw = q.nw := by
 cases b
 ·cases h
 ·cases h; exact ⟨rfl,rfl,rfl,rfl⟩
def gClo (xs : List AV) (bs : List ABlk) : TL := match xs,bs with
 | [.rb p l .unk],[] => ckR (Nat.blt l.length 1099511627776) (clA l)
 | _,_ => .no
theorem kClo : COK Tryz.prog gl0 70 (mkF { unkSp clA with G := gClo }) := cClo.chk fun xs bs r hs _ => by
 unfold gClo at hs
 split at hs
 ·obtain ⟨o,h⟩ := ckR_sel hs
  exact ⟨_,rfl,obsT_one.2 (Nat.blt_eq ▸ o),h⟩
 ·cases hs
def gPuC (xs : List AV) (bs : List ABlk) : TL := match xs,bs with
 | [.rb false b .unk,.int .i64 n,.int .i64 (.ofNat w)],[] => (match w with
  | 1 => ckR (decide (0≤n) && decide (n < 256) && Nat.blt b.length 1000000000000) (rPu b 1 n)
  | 2 => ckR (decide (0≤n) && decide (n < 65536) && Nat.blt b.length 1000000000000) (rPu b 2 n)
  | 3 => ckR (decide (0≤n) && decide (n < 16777216) && Nat.blt b.length 1000000000000) (rPu b 3 n)
  | 4 => ckR (decide (0≤n) && decide (n < 4294967296) && Nat.blt b.length 1000000000000) (rPu b 4 n)
  | _ => .no)
 | _,_ => .no
theorem kPu : COK Tryz.prog gl0 94 (mkF ⟨[.by0,.kp,.kp],fun _ _ => [],fun _ _ => [],gPuC⟩) := cPu.chk fun xs bs r hs _ => by
 unfold gPuC at hs
 split at hs
 ·split at hs <;> first | (cases hs; done) | skip
  all_goals
   obtain ⟨o,h⟩ := ckR_sel hs
   simp only [Bool.and_eq_true,decide_eq_true_eq,Nat.blt_eq] at o
   exact ⟨_,rfl,obsT_one.2 ⟨o.1.1,o.1.2,o.2⟩,h⟩
 ·cases hs
def gPvC (xs : List AV) (bs : List ABlk) : TL := match xs,bs with
 | [.rb false b .unk,.rb false v .unk,.int .i64 (.ofNat w)],[] => (match w with
  | 1 => ckR (Nat.blt v.length 256 && Nat.blt b.length 1000000000000) (rPv b v 1)
  | 2 => ckR (Nat.blt v.length 65536 && Nat.blt b.length 1000000000000) (rPv b v 2)
  | 3 => ckR (Nat.blt v.length 16777216 && Nat.blt b.length 1000000000000) (rPv b v 3)
  | _ => .no)
 | _,_ => .no
theorem kPv : COK Tryz.prog gl0 95 (mkF ⟨[.by0,.by0,.kp],fun _ _ => [],fun _ _ => [],gPvC⟩) := cPv.chk fun xs bs r hs _ => by
 unfold gPvC at hs
 split at hs
 ·split at hs <;> first | (cases hs; done) | skip
  all_goals
   obtain ⟨o,h⟩ := ckR_sel hs
   simp only [Bool.and_eq_true,Nat.blt_eq] at o
   exact ⟨_,rfl,obsT_one.2 ⟨o.1,o.2⟩,h⟩
 ·cases hs
theorem rdr_sel2 {k k' : By→Nat→Nat→TL} {bs : List ABlk} {r : RL} (h : (rdr k bs).sel = some r) : ∃ l o n,rdr k' bs = k' l o n∧(k l o n).sel = some r := by
 unfold rdr at h
 split at h
 ·split at h
  ·split at h
   ·exact ⟨_,_,_,rfl,h⟩
   ·cases h
  ·exact ⟨_,_,_,rfl,h⟩
  ·cases h
 ·cases h
def gByC (xs : List AV) (bs : List ABlk) : TL := match xs with
 | [.ptr 0 0 0 0,.int .i64 (.ofNat m)] => rdr (fun l o n => ckR (Nat.ble m n && Nat.ble (o + m) l.length && Nat.blt l.length 1000000000000) (rBy l o n m)) bs
 | _ => .no
theorem kBy : COK Tryz.prog gl0 124 (mkF (reS gByC 2)) := cBy.chk fun xs bs r hs _ => by
 unfold gByC at hs
 split at hs
 ·obtain ⟨l,o,n,e,hs⟩ := rdr_sel2 (k' := fun l o n => .ok ⟨[_≤n∧o + _≤l.length∧l.length < 1000000000000],(rBy l o n _).v,(rBy l o n _).io,(rBy l o n _).nw⟩) hs
  obtain ⟨q,h⟩ := ckR_sel hs
  simp only [Bool.and_eq_true,Nat.ble_eq,Nat.blt_eq] at q
  refine ⟨_,(congrArg TL.sel e).trans rfl,obsT_one.2 ⟨q.1.1,q.1.2,q.2⟩,h⟩
 ·cases hs
def gUiC (xs : List AV) (bs : List ABlk) : TL := match xs with
 | [.ptr 0 0 0 0,.int .i64 (.ofNat w)] => rdr (fun l o n => ckR (Nat.ble w n && Nat.ble (o + w) l.length && Nat.blt l.length 1000000000000 && Nat.ble 1 w && Nat.ble w 4) (rUi l o n w)) bs
 | _ => .no
theorem kUi : COK Tryz.prog gl0 123 (mkF (reS gUiC 2)) := cUi.chk fun xs bs r hs _ => by
 unfold gUiC at hs
 split at hs
 ·rename_i w
  obtain ⟨l,o,n,e,hs⟩ := rdr_sel2 (k' := fun l o n => .ok ⟨[w≤n∧o + w≤l.length∧l.length < 1000000000000∧1≤w∧w≤4],(rUi l o n w).v,(rUi l o n w).io,[]⟩) hs
  obtain ⟨q,h⟩ := ckR_sel hs
  simp only [Bool.and_eq_true,Nat.ble_eq,Nat.blt_eq] at q
  obtain ⟨⟨⟨⟨q1,q2⟩,q3⟩,q4⟩,q5⟩ := q
  exact ⟨_,(congrArg TL.sel e).trans rfl,obsT_one.2 ⟨q1,q2,q3,q4,q5⟩,h⟩
 ·cases hs
def gVeC (xs : List AV) (bs : List ABlk) : TL := match xs with
 | [.ptr 0 0 0 0,.int .i64 (.ofNat w),.int .i64 a,.int .i64 b] => rdr (fun l o n => ckR (Nat.ble w n && Nat.ble (cnV l o w) (n - w) && Nat.ble (o + w + cnV l o w) l.length && Nat.blt l.length 1000000000000 && Nat.ble 1 w && Nat.ble w 4 && decide (a≤cnV l o w) && decide (cnV l o w≤b)) (rVe l o n w)) bs
 | _ => .no
theorem kVe : COK Tryz.prog gl0 237 (mkF (reS gVeC 4)) := cVe.chk fun xs bs r hs _ => by
 unfold gVeC at hs
 split at hs
 ·rename_i w a b
  obtain ⟨l,o,n,e,hs⟩ := rdr_sel2 (k' := fun l o n => .ok ⟨[w≤n∧cnV l o w≤n - w∧o + w + cnV l o w≤l.length∧l.length < 1000000000000∧1≤w∧w≤4∧a≤cnV l o w∧cnV l o w≤b],(rVe l o n w).v,(rVe l o n w).io,(rVe l o n w).nw⟩) hs
  obtain ⟨q,h⟩ := ckR_sel hs
  simp only [Bool.and_eq_true,Nat.ble_eq,Nat.blt_eq,decide_eq_true_eq] at q
  obtain ⟨⟨⟨⟨⟨⟨⟨q0,q1⟩,q2⟩,q3⟩,q4⟩,q5⟩,q6⟩,q7⟩ := q
  exact ⟨_,(congrArg TL.sel e).trans rfl,obsT_one.2 ⟨q0,q1,q2,q3,q4,q5,q6,q7⟩,h⟩
 ·cases hs
noncomputable def N7 : Ctx := (((((N6.add 70 (mkF { unkSp clA with G := gClo })).add 94 (mkF ⟨[.by0,.kp,.kp],fun _ _ => [],fun _ _ => [],gPuC⟩)).add 95 (mkF ⟨[.by0,.by0,.kp],fun _ _ => [],fun _ _ => [],gPvC⟩)).add 124 (mkF (reS gByC 2))).add 123 (mkF (reS gUiC 2))).add 237 (mkF (reS gVeC 4))
theorem okN7 : COKs Tryz.prog gl0 N7 := (((((okN6.add kClo).add kPu).add kPv).add kBy).add kUi).add kVe
def forceBy {α : Type} : By→(By→α)→α
 | [],k => k []
 | x::l,k => forceBy l fun l' => k (x::l')
theorem forceBy_eq {α : Type} : ∀ (l : By) (k : By→α),forceBy l k = k l
 | [],_ => rfl
 | x::l,k => by simp only [forceBy]; rw [forceBy_eq]
def forceU {α : Type} : By→(By→α)→α
 | [],k => k []
 | x::l,k => forceN x.toNat fun q => forceU l fun l' => k (BitVec.ofNat 8 q::l')
theorem forceU_eq {α : Type} : ∀ (l : By) (k : By→α),forceU l k = k l
 | [],_ => rfl
 | x::l,k => by simp only [forceU]; rw [forceN_eq,forceU_eq]; simp
def lenA : By→Nat→Nat
 | [],n => n
 | _::l,n => lenA l (n + 1)
theorem lenA_add : ∀ (l : By) (n : Nat),lenA l n = l.length + n
 | [],n => by simp [lenA]
 | _::l,n => by simp only [lenA,lenA_add l (n + 1),List.length_cons]; omega
def len0 (l : By) : Nat := lenA l 0
theorem len0_eq (l : By) : len0 l = l.length := lenA_add l 0
def outT (b : Bool) (v : AV) (io : List (Option (Option ABlk))) (nw : List ABlk) : TL := match b with | true => .ok ⟨[],v,io,nw⟩ | false => .no
theorem ckR_out (b : Bool) (r : RL) : ckR b r = outT b r.v r.io r.nw := by cases b <;> rfl
theorem outT_fN (b : Bool) (n : Nat) (v : Nat→AV) (io : Nat→List (Option (Option ABlk))) (nw : Nat→List ABlk) : (forceN n fun m => outT b (v m) (io m) (nw m)) = outT b (v n) (io n) (nw n) := by rw [forceN_eq]
def onT (b : Bool) (t : TL) : TL := match b with | true => t | false => .no
theorem ckR_on (b : Bool) (r : RL) : ckR b r = onT b (.ok ⟨[],r.v,r.io,r.nw⟩) := by cases b <;> rfl
def gPuF (xs : List AV) (bs : List ABlk) : TL := match xs,bs with
 | [.rb false b .unk,.int .i64 n,.int .i64 (.ofNat w)],[] => (match w with
  | 1 => onT (decide (0≤n) && decide (n < 256) && Nat.blt (len0 b) 1000000000000) (forceN ((len0 b) + 1) fun L => forceU (be 1 n) fun q => forceBy (b++q) fun m => .ok ⟨[],.slice 0 0 1 L .ow (.is false),[],[⟨.bytes m,true,1⟩]⟩)
  | 2 => onT (decide (0≤n) && decide (n < 65536) && Nat.blt (len0 b) 1000000000000) (forceN ((len0 b) + 2) fun L => forceU (be 2 n) fun q => forceBy (b++q) fun m => .ok ⟨[],.slice 0 0 1 L .ow (.is false),[],[⟨.bytes m,true,1⟩]⟩)
  | 3 => onT (decide (0≤n) && decide (n < 16777216) && Nat.blt (len0 b) 1000000000000) (forceN ((len0 b) + 3) fun L => forceU (be 3 n) fun q => forceBy (b++q) fun m => .ok ⟨[],.slice 0 0 1 L .ow (.is false),[],[⟨.bytes m,true,1⟩]⟩)
  | 4 => onT (decide (0≤n) && decide (n < 4294967296) && Nat.blt (len0 b) 1000000000000) (forceN ((len0 b) + 4) fun L => forceU (be 4 n) fun q => forceBy (b++q) fun m => .ok ⟨[],.slice 0 0 1 L .ow (.is false),[],[⟨.bytes m,true,1⟩]⟩)
  | _ => .no)
 | _,_ => .no
theorem gPuF_eq : gPuF = gPuC := by
 funext xs bs
 unfold gPuF gPuC
 simp only [forceN_eq,forceU_eq,forceBy_eq,ckR_on,len0_eq]
 rfl
def gPvF (xs : List AV) (bs : List ABlk) : TL := match xs,bs with
 | [.rb false b .unk,.rb false v .unk,.int .i64 (.ofNat w)],[] => (match w with
  | 1 => onT (Nat.blt (len0 v) 256 && Nat.blt (len0 b) 1000000000000) (forceN ((len0 b) + 1 + (len0 v)) fun L => forceU (be 1 (len0 v)) fun q => forceBy (b++q++v) fun m => .ok ⟨[],.slice 0 0 1 L .ow (.is false),[],[⟨.bytes m,true,1⟩]⟩)
  | 2 => onT (Nat.blt (len0 v) 65536 && Nat.blt (len0 b) 1000000000000) (forceN ((len0 b) + 2 + (len0 v)) fun L => forceU (be 2 (len0 v)) fun q => forceBy (b++q++v) fun m => .ok ⟨[],.slice 0 0 1 L .ow (.is false),[],[⟨.bytes m,true,1⟩]⟩)
  | 3 => onT (Nat.blt (len0 v) 16777216 && Nat.blt (len0 b) 1000000000000) (forceN ((len0 b) + 3 + (len0 v)) fun L => forceU (be 3 (len0 v)) fun q => forceBy (b++q++v) fun m => .ok ⟨[],.slice 0 0 1 L .ow (.is false),[],[⟨.bytes m,true,1⟩]⟩)
  | _ => .no)
 | _,_ => .no
theorem gPvF_eq : gPvF = gPvC := by
 funext xs bs
 unfold gPvF gPvC
 simp only [forceN_eq,forceU_eq,forceBy_eq,ckR_on,len0_eq]
 rfl
def gCloF (xs : List AV) (bs : List ABlk) : TL := match xs,bs with
 | [.rb p l .unk],[] => onT (Nat.blt (len0 l) 1099511627776) (forceN (len0 l) fun L => forceBy l fun m => .ok ⟨[],.slice 0 0 1 L .ow .unk,[],[⟨.bytes m,true,1⟩]⟩)
 | _,_ => .no
theorem gCloF_eq : gCloF = gClo := by
 funext xs bs
 unfold gCloF gClo
 simp only [forceN_eq,forceBy_eq,ckR_on,len0_eq]
 rfl
def gByF (xs : List AV) (bs : List ABlk) : TL := match xs with
 | [.ptr 0 0 0 0,.int .i64 (.ofNat m)] => rdr (fun l o n => onT (Nat.ble m n && Nat.ble (o + m) (len0 l) && Nat.blt (len0 l) 1000000000000) (forceN m fun m' => forceN (o + m) fun o' => forceN (n - m) fun n' => forceBy ((l.drop o).take m) fun b => .ok ⟨[],.slice 2 0 1 m' .ow .unk,[some (some (rdB o' n' .ox)),some (some (blB l))],[⟨.bytes b,true,1⟩]⟩)) bs
 | _ => .no
theorem gByF_eq : gByF = gByC := by
 funext xs bs
 unfold gByF gByC
 simp only [forceN_eq,forceBy_eq,ckR_on,len0_eq]
 rfl
def gUiF (xs : List AV) (bs : List ABlk) : TL := match xs with
 | [.ptr 0 0 0 0,.int .i64 (.ofNat w)] => rdr (fun l o n => onT (Nat.ble w n && Nat.ble (o + w) (len0 l) && Nat.blt (len0 l) 1000000000000 && Nat.ble 1 w && Nat.ble w 4) (forceN (beN ((l.drop o).take w)) fun v => forceN (o + w) fun o' => forceN (n - w) fun n' => .ok ⟨[],.int .i64 (Int.ofNat v),[some (some (rdB o' n' .ox)),some (some (blB l))],[]⟩)) bs
 | _ => .no
theorem gUiF_eq : gUiF = gUiC := by
 funext xs bs
 unfold gUiF gUiC
 simp only [forceN_eq,forceBy_eq,ckR_on,len0_eq]
 rfl
def gVeF (xs : List AV) (bs : List ABlk) : TL := match xs with
 | [.ptr 0 0 0 0,.int .i64 (.ofNat w),.int .i64 a,.int .i64 b] => rdr (fun l o n => onT (Nat.ble w n && Nat.ble (cnV l o w) (n - w) && Nat.ble (o + w + cnV l o w) (len0 l) && Nat.blt (len0 l) 1000000000000 && Nat.ble 1 w && Nat.ble w 4 && decide (a≤cnV l o w) && decide (cnV l o w≤b)) (forceN (cnV l o w) fun v => forceN (o + w + v) fun o' => forceN (n - w - v) fun n' => forceBy ((l.drop (o + w)).take v) fun m => .ok ⟨[],.slice 2 0 1 v .ow .unk,[some (some (rdB o' n' .ox)),some (some (blB l))],[⟨.bytes m,true,1⟩]⟩)) bs
 | _ => .no
theorem gVeF_eq : gVeF = gVeC := by
 funext xs bs
 unfold gVeF gVeC
 simp only [forceN_eq,forceBy_eq,ckR_on,len0_eq]
 rfl
noncomputable def N8 : Ctx := (((((N6.add 70 (mkF { unkSp clA with G := gCloF })).add 94 (mkF ⟨[.by0,.kp,.kp],fun _ _ => [],fun _ _ => [],gPuF⟩)).add 95 (mkF ⟨[.by0,.by0,.kp],fun _ _ => [],fun _ _ => [],gPvF⟩)).add 124 (mkF (reS gByF 2))).add 123 (mkF (reS gUiF 2))).add 237 (mkF (reS gVeF 4))
theorem okN8 : COKs Tryz.prog gl0 N8 := by
 unfold N8
 rw [gCloF_eq,gPuF_eq,gPvF_eq,gByF_eq,gUiF_eq,gVeF_eq]
 exact okN7
def chooT : List Bool→TL→TL
 | _,.no => .no
 | _,.ok r => .ok r
 | [],.br b x y => .br b x y
 | true::p,.br b x y => (match chooT p x with | .ok r => .ok ⟨(b = true)::r.ob,r.v,r.io,r.nw⟩ | _ => .no)
 | false::p,.br b x y => (match chooT p y with | .ok r => .ok ⟨(b = false)::r.ob,r.v,r.io,r.nw⟩ | _ => .no)
theorem chooT_sel : ∀ (p : List Bool) (t : TL) {r : RL},(chooT p t).sel = some r→obsT r.ob→∃ q,t.sel = some q∧obsT q.ob∧q.v = r.v∧q.io = r.io∧q.nw = r.nw
 | p,.no,r,h,_ => by cases p with | nil => cases h | cons b p => cases b <;> cases h
 | p,.ok q,r,h,ho => by
  have h : some q = some r := by cases p with | nil => exact h | cons b p => cases b <;> exact h
  cases h
  exact ⟨_,rfl,ho,rfl,rfl,rfl⟩
 | [],.br b x y,r,h,ho => ⟨r,h,ho,rfl,rfl,rfl⟩
 | true::p,.br b x y,r,h,ho => by
  simp only [chooT] at h
  split at h
  ·rename_i q e
   cases h
   obtain ⟨h1,h2⟩ := obsT_cons.1 ho
   obtain ⟨q',k1,k2⟩ := chooT_sel p x (r := q) (by rw [e]; rfl) h2
   exact ⟨q',by rw [h1]; exact k1,k2⟩
  ·cases h
 | false::p,.br b x y,r,h,ho => by
  simp only [chooT] at h
  split at h
  ·rename_i q e
   cases h
   obtain ⟨h1,h2⟩ := obsT_cons.1 ho
   obtain ⟨q',k1,k2⟩ := chooT_sel p y (r := q) (by rw [e]; rfl) h2
   exact ⟨q',by rw [h1]; exact k1,k2⟩
  ·cases h
def Ctx.exeP (Γ : Ctx) (P : Program) (gl : Gl) (fuel : Nat) (p : List Bool) (f : FuncId) (fn : Func) : Ctx := Γ.add f (mkF { exeSp P Γ gl [] fuel (fn.params.size + fn.nfree) fn with G := fun xs bs => chooT p (exeG P Γ gl [] fuel fn xs bs) })
theorem COKs.exeP {P : Program} {gl : Gl} {Γ : Ctx} (h : COKs P gl Γ) (fuel : Nat) (p : List Bool) (hmix : P.follows .mixedOrders = true) {f : FuncId} {fn : Func} (hf : P.funcs[f]? = some fn) (hn : (fn.name == "runtime.NumGoroutine") = false) (hok : exeOK P Γ gl [] fuel (fn.params.size + fn.nfree) fn = true) : COKs P gl (Γ.exeP P gl fuel p f fn) := by
 have h1 := h.exeS fuel hmix [(f,fn)] (by simp [hf]) (by simp [okS,hn,hok])
 have hb := h1 f (mkF (exeSp P Γ gl [] fuel (fn.params.size + fn.nfree) fn)) (by show (match Nat.beq f f with | true => some _ | false => Γ.fn f) = _; rw [Nat.beq_refl])
 exact h.add (hb.chk fun xs bs r hs ho => chooT_sel p _ hs ho)
end Go.Sym
namespace Go.Spec
def hrr : By := [72#8,101#8,108#8,108#8,111#8,82#8,101#8,116#8,114#8,121#8,82#8,101#8,113#8,117#8,101#8,115#8,116#8]
def hrrL : By := [0xcf#8,0x21#8,0xad#8,0x74#8,0xe5#8,0x9a#8,0x61#8,0x11#8,0xbe#8,0x1d#8,0x8c#8,0x02#8,0x1e#8,0x65#8,0xb8#8,0x91#8,0xc2#8,0xa2#8,0x11#8,0x16#8,0x7a#8,0xbb#8,0x8c#8,0x5e#8,0x07#8,0x9e#8,0x09#8,0xe2#8,0xc8#8,0xa8#8,0x33#8,0x9c#8]
theorem hrr_rg : rg 32 (shaB hrr) = hrrL := by rw [shaB_eq]; kernel_rfl
end Go.Spec
namespace Go.Sym
open Go.Proofs Go.Spec
set_option maxRecDepth 100000 in
theorem vHr (f : F8) : bodyP Tryz.prog N8 gl0 [] [] 3000 Tryz.f275 0 [] [] (retQ Tryz.prog Tryz.f275 0 ⟨[],aggB 32 f,[],[]⟩) = (
0 < 17∧0 < 17∧17 = 17∧17 < 4611686018427387904∧allP (fun (i : Nat) => f i = shaB hrr i) 0 32 True : Prop) := by kernel_rfl
theorem hrr_at (i : Nat) (h : i < 32) : hrrL.getD i 0 = shaB hrr i := by
 rw [← hrr_rg]
 exact rg_getD _ _ _ _ h
theorem bHr : Must (bodyP Tryz.prog N8 gl0 [] [] 3000 Tryz.f275 0 [] [] (retQ Tryz.prog Tryz.f275 0 ⟨[],aggB 32 (fn8 hrrL),[],[]⟩)) := by
 constructor
 rw [vHr]
 exact ⟨by omega,by omega,rfl,by omega,allP_in (fun i _ h => hrr_at i (by omega)) trivial⟩
def gHr (xs : List AV) (bs : List ABlk) : TL := match xs,bs with
 | [],[] => .ok ⟨[],aggB 32 (fn8 hrrL),[],[]⟩
 | _,_ => .no
theorem cHr : COK Tryz.prog gl0 275 (mkF ⟨[],fun _ _ => [],fun _ _ => [],gHr⟩) := by
 refine ctrE (fn := Tryz.f275) [] 3000 (by kernel_rfl) (by kernel_rfl) okN8 (by kernel_rfl) (fun args w => by kernel_rfl) fun xs bs r hs ho => ?_
 simp only [gHr] at hs
 split at hs
 ·cases hs
  exact ⟨_,bHr⟩
 ·cases hs
end Go.Sym
namespace Go.Spec
open Go.Sym
def hrD (f : F8) : By→Nat→Bool
 | [],_ => true
 | x::l,i => decide (f i = x) && hrD f l (i + 1)
def z32 : By := List.replicate 32 0#8
def derL : By := [100#8,101#8,114#8,105#8,118#8,101#8,100#8]
def finL : By := [102#8,105#8,110#8,105#8,115#8,104#8,101#8,100#8]
def resL : By := [114#8,101#8,115#8,32#8,98#8,105#8,110#8,100#8,101#8,114#8]
def sgnL : By := List.replicate 64 32#8++[84#8,76#8,83#8,32#8,49#8,46#8,51#8,44#8,32#8,115#8,101#8,114#8,118#8,101#8,114#8,32#8,67#8,101#8,114#8,116#8,105#8,102#8,105#8,99#8,97#8,116#8,101#8,86#8,101#8,114#8,105#8,102#8,121#8,0#8]
noncomputable def eaF (p : By) : F8 := macB z32 (match p with | [] => z32 | _::_ => p)
noncomputable def xtF (s p : By) : F8 := macB (rg 32 (labF s derL (rg 32 (shaB [])))) p
noncomputable def vfF (s h : By) : F8 := macB (rg 32 (labF s finL [])) h
noncomputable def sgF (k h : By) : F8 := macB k (sgnL++h)
noncomputable def biF (p h : By) : F8 := vfF (rg 32 (labF (rg 32 (eaF p)) resL (rg 32 (shaB [])))) h
end Go.Spec
namespace Go.Sym
open Go.Proofs Go.Spec
def z8 (n : Nat) : List AV := List.replicate n (.u8 0)
def asL (n : Nat) (cs : List AV) (g : By→TL) : TL := match rdU8 cs with | some l => (match Nat.beq l.length n with | true => g l | false => .no) | none => .no
theorem asL_sel {n : Nat} {cs : List AV} {g : By→TL} {r : RL} (h : (asL n cs g).sel = some r) : ∃ f : F8,AV.agg cs = aggB n f∧(g (rg n f)).sel = some r := by
 unfold asL at h
 split at h
 ·rename_i l hl
  split at h
  ·rename_i hn
   have hn : l.length = n := by simpa using hn
   refine ⟨fn8 l,agB_of hl (by simpa using hn),?_⟩
   rw [show rg n (fn8 l) = l from rg_self 0 hn]
   exact h
  ·simp [TL.sel] at h
 ·simp [TL.sel] at h
theorem onT_sel {b : Bool} {t : TL} {r : RL} (h : (onT b t).sel = some r) : b = true∧t.sel = some r := by
 cases b
 ·cases h
 ·exact ⟨rfl,h⟩
def cj : List Nat→Prop→Prop
 | 0::a::l,p => a = a∧cj l p
 | 1::a::b::l,p => a < b∧cj l p
 | 2::a::b::l,p => a≤b∧cj l p
 | 3::a::b::c::l,p => roomFor a b c∧cj l p
 | 4::a::l,p => Int.ofNat a = Int.ofNat a∧cj l p
 | 5::a::b::l,p => Int.ofNat a≤Int.ofNat b∧cj l p
 | _,p => p
def cjB : List Nat→Bool
 | 0::_::l => cjB l
 | 1::a::b::l => Nat.blt a b && cjB l
 | 2::a::b::l => Nat.ble a b && cjB l
 | 3::a::b::c::l => Nat.ble ((a + b) * (2 * c)) 281474976710656 && cjB l
 | 4::_::l => cjB l
 | 5::a::b::l => Nat.ble a b && cjB l
 | _ => true
theorem cj_ok {p : Prop} (h : p) : ∀ l,cjB l = true→cj l p := by
 intro l
 fun_induction cj l p <;> intro k <;> simp only [cjB,Bool.and_eq_true,Nat.blt_eq,Nat.ble_eq] at k
 ·rename_i ih; exact ⟨rfl,ih h k⟩
 ·rename_i ih; exact ⟨k.1,ih h k.2⟩
 ·rename_i ih; exact ⟨k.1,ih h k.2⟩
 ·rename_i ih; exact ⟨k.1,ih h k.2⟩
 ·rename_i ih; exact ⟨rfl,ih h k⟩
 ·rename_i ih; exact ⟨Int.ofNat_le.2 k.1,ih h k.2⟩
 ·exact h
theorem ck {l : List Nat} {p : Prop} (k : cjB l = true) (h : p) : cj l p := cj_ok h l k
noncomputable def Z0 : Ctx := exeS Tryz.prog gl0 3000 [(168,Tryz.f168),(169,Tryz.f169),(136,Tryz.f136),(240,Tryz.f240),(255,Tryz.f255),(300,Tryz.f300),(278,Tryz.f278),(301,Tryz.f301),(279,Tryz.f279),(239,Tryz.f239)] N8
theorem okZ0 : COKs Tryz.prog gl0 Z0 := okN8.exeS 3000 (by kernel_rfl) _ (by kernel_rfl) (by kernel_rfl)
set_option maxRecDepth 100000 in
theorem vSc0 (f : F8) : bodyP Tryz.prog Z0 gl0 [] [] 3000 Tryz.f135 0 [.rb false [] .unk] [] (retQ Tryz.prog Tryz.f135 0 ⟨[],.agg (row8 32 f++z8 64),[],[]⟩) = (
32≤32∧32≤281474976710656∧32≤9223372036854775807∧32≤32∧32≤281474976710656∧32≤9223372036854775807∧32 = 32∧32 = 32∧(32 < 4611686018427387904∧32 < 4611686018427387904)∧allP (fun (i : Nat) => f i = macB (List.replicate 32 (0 : BitVec 8)) (List.replicate 32 (0 : BitVec 8)) i) 0 32 (allP (fun (i : Nat) => (0 : BitVec 8) = BitVec.ofNat 8 0) 0 64 True) : Prop) := by kernel_rfl
set_option maxRecDepth 100000 in
theorem vSc1 (p f : F8) : bodyP Tryz.prog Z0 gl0 [] [] 3000 Tryz.f135 0 [.rb false (rg 32 p) .unk] [] (retQ Tryz.prog Tryz.f135 0 ⟨[],.agg (row8 32 f++z8 64),[],[]⟩) = (
32≤32∧32≤281474976710656∧32≤9223372036854775807∧32 = 32∧(32 < 4611686018427387904∧(rg 32 p).length < 4611686018427387904)∧allP (fun (i : Nat) => f i = macB (List.replicate 32 (0 : BitVec 8)) (rg 32 p) i) 0 32 (allP (fun (i : Nat) => (0 : BitVec 8) = BitVec.ofNat 8 0) 0 64 True) : Prop) := by kernel_rfl
set_option maxRecDepth 100000 in
theorem vSc2 (p q a b c : F8) : bodyP Tryz.prog Z0 gl0 [] [] 3000 Tryz.f206 0 [aggB 96 p,aggB 32 q] [] (retQ Tryz.prog Tryz.f206 0 ⟨[],.agg (row8 32 a++row8 32 b++row8 32 c),[],[]⟩) = (
let x1 := rg 32 (labF (rg 32 fun (i : Nat) => (rg 32 p).getD i (0 : BitVec 8)) [BitVec.ofNat 8 100,BitVec.ofNat 8 101,BitVec.ofNat 8 114,BitVec.ofNat 8 105,BitVec.ofNat 8 118,BitVec.ofNat 8 101,BitVec.ofNat 8 100] (rg 32 (shaB []))); 0 < 4611686018427387904∧(x1.length < 4611686018427387904∧(rg 32 q).length < 4611686018427387904)∧allP (fun (i : Nat) => a i = p i) 0 32 (allP (fun (i : Nat) => b i = macB x1 (rg 32 q) i) 0 32 (c 0 = p 64∧c 1 = p 65∧c 2 = p 66∧c 3 = p 67∧c 4 = p 68∧c 5 = p 69∧c 6 = p 70∧c 7 = p 71∧c 8 = p 72∧c 9 = p 73∧c 10 = p 74∧c 11 = p 75∧c 12 = p 76∧c 13 = p 77∧c 14 = p 78∧c 15 = p 79∧c 16 = p 80∧c 17 = p 81∧c 18 = p 82∧c 19 = p 83∧c 20 = p 84∧c 21 = p 85∧c 22 = p 86∧c 23 = p 87∧c 24 = p 88∧c 25 = p 89∧c 26 = p 90∧c 27 = p 91∧c 28 = p 92∧c 29 = p 93∧c 30 = p 94∧c 31 = p 95∧True)) : Prop) := by kernel_rfl
set_option maxRecDepth 100000 in
theorem vSc3 (p a b c : F8) : bodyP Tryz.prog Z0 gl0 [] [] 3000 Tryz.f189 0 [aggB 96 p] [] (retQ Tryz.prog Tryz.f189 0 ⟨[],.agg (row8 32 a++row8 32 b++row8 32 c),[],[]⟩) = (
let x1 := rg 32 (labF (rg 32 fun (i : Nat) => (rgA p 32 32 []).getD i (0 : BitVec 8)) [BitVec.ofNat 8 100,BitVec.ofNat 8 101,BitVec.ofNat 8 114,BitVec.ofNat 8 105,BitVec.ofNat 8 118,BitVec.ofNat 8 101,BitVec.ofNat 8 100] (rg 32 (shaB []))); 0 < 4611686018427387904∧32≤32∧32≤281474976710656∧32≤9223372036854775807∧32 = 32∧(x1.length < 4611686018427387904∧32 < 4611686018427387904)∧allP (fun (i : Nat) => a i = p i) 0 32 (b 0 = p 32∧b 1 = p 33∧b 2 = p 34∧b 3 = p 35∧b 4 = p 36∧b 5 = p 37∧b 6 = p 38∧b 7 = p 39∧b 8 = p 40∧b 9 = p 41∧b 10 = p 42∧b 11 = p 43∧b 12 = p 44∧b 13 = p 45∧b 14 = p 46∧b 15 = p 47∧b 16 = p 48∧b 17 = p 49∧b 18 = p 50∧b 19 = p 51∧b 20 = p 52∧b 21 = p 53∧b 22 = p 54∧b 23 = p 55∧b 24 = p 56∧b 25 = p 57∧b 26 = p 58∧b 27 = p 59∧b 28 = p 60∧b 29 = p 61∧b 30 = p 62∧b 31 = p 63∧allP (fun (i : Nat) => c i = macB x1 (List.replicate 32 (0 : BitVec 8)) i) 0 32 True) : Prop) := by kernel_rfl
set_option maxRecDepth 100000 in
theorem vSc4 (p q f : F8) : bodyP Tryz.prog Z0 gl0 [] [] 3000 Tryz.f134 0 [aggB 32 p,aggB 32 q] [] (retQ Tryz.prog Tryz.f134 0 ⟨[],aggB 32 f,[],[]⟩) = (
let x1 := rg 32 (labF (rg 32 fun (i : Nat) => (rg 32 p).getD i (0 : BitVec 8)) [BitVec.ofNat 8 102,BitVec.ofNat 8 105,BitVec.ofNat 8 110,BitVec.ofNat 8 105,BitVec.ofNat 8 115,BitVec.ofNat 8 104,BitVec.ofNat 8 101,BitVec.ofNat 8 100] []); (x1.length < 4611686018427387904∧(rg 32 q).length < 4611686018427387904)∧allP (fun (i : Nat) => f i = macB x1 (rg 32 q) i) 0 32 True : Prop) := by kernel_rfl
set_option maxRecDepth 100000 in
theorem vSc5 (p q f : F8) : bodyP Tryz.prog Z0 gl0 [] [] 3000 Tryz.f188 0 [aggB 32 p,aggB 32 q] [] (retQ Tryz.prog Tryz.f188 0 ⟨[],.slice 0 0 1 32 (.kn 32) (.is false),[],[⟨.cells (row8 32 f),true,0⟩]⟩) = (
let x1 := List.take 0 (List.replicate 130 (0 : BitVec 8))++(List.take 64 (List.replicate 128 (BitVec.ofNat 8 32))++[BitVec.ofNat 8 84,BitVec.ofNat 8 76,BitVec.ofNat 8 83,BitVec.ofNat 8 32,BitVec.ofNat 8 49,BitVec.ofNat 8 46,BitVec.ofNat 8 51,BitVec.ofNat 8 44,BitVec.ofNat 8 32,BitVec.ofNat 8 115,BitVec.ofNat 8 101,BitVec.ofNat 8 114,BitVec.ofNat 8 118,BitVec.ofNat 8 101,BitVec.ofNat 8 114,BitVec.ofNat 8 32,BitVec.ofNat 8 67,BitVec.ofNat 8 101,BitVec.ofNat 8 114,BitVec.ofNat 8 116,BitVec.ofNat 8 105,BitVec.ofNat 8 102,BitVec.ofNat 8 105,BitVec.ofNat 8 99,BitVec.ofNat 8 97,BitVec.ofNat 8 116,BitVec.ofNat 8 101,BitVec.ofNat 8 86,BitVec.ofNat 8 101,BitVec.ofNat 8 114,BitVec.ofNat 8 105,BitVec.ofNat 8 102,BitVec.ofNat 8 121])++[BitVec.ofNat 8 0]++rg 32 q; 0 < 1∧(0 : Int)≤Int.ofNat 1∧1≤128∧(0 : Int)≤Int.ofNat 64∧64≤128∧97≤9223372036854775807∧(0 : Int)≤(0 : Int)∧0 < 3∧(0 : Int)≤Int.ofNat 1∧1 < 3∧(0 : Int)≤Int.ofNat 2∧2 < 3∧((0 : Int) < Int.ofNat 130∧Int.ofNat 130 < (1099511627776 : Int))∧(0 : Int)≤(0 : Int)∧0 < 3∧0≤130∧97 = 97∧0 = 0∧roomFor 0 97 1∧(0 : Int)≤Int.ofNat 1∧1 < 3∧1 = 1∧97 = 97∧roomFor 97 1 1∧(0 : Int)≤Int.ofNat 2∧2 < 3∧98 = 98∧roomFor 98 (rg 32 q).length 1∧98 + (rg 32 q).length = x1.length∧((rg 32 p).length < 4611686018427387904∧x1.length < 4611686018427387904)∧Bool.false = Bool.false∧32 = 32∧0 = 0∧0 = 0∧32 = 32∧allP (fun (i : Nat) => f i = macB (rg 32 p) x1 i) 0 32 True : Prop) := by kernel_rfl
set_option maxRecDepth 100000
theorem skbSt (p : By) (h : p = [] ∨ ∃ f : F8,p = rg 32 f) : Must (bodyP Tryz.prog Z0 gl0 [] [] 3000 Tryz.f135 0 [.rb false p .unk] [] (retQ Tryz.prog Tryz.f135 0 ⟨[],.agg (row8 32 (eaF p)++z8 64),[],[]⟩)) := by
 constructor
 rcases h with rfl | ⟨f,rfl⟩
 ·rw [vSc0]
  repeat first | exact True.intro | refine And.intro (by first | omega | rfl | (unfold roomFor; exact of_decide_eq_true (by kernel_rfl)) | exact ⟨of_decide_eq_true (by kernel_rfl),of_decide_eq_true (by kernel_rfl)⟩ | exact of_decide_eq_true (by kernel_rfl)) ?_ | refine allP_in (fun i _ h => by first | rfl | exact Int.natCast_nonneg _) ?_
 ·rw [vSc1]
  repeat first | exact True.intro | refine And.intro (by first | omega | rfl | (unfold roomFor; exact of_decide_eq_true (by kernel_rfl)) | exact ⟨of_decide_eq_true (by kernel_rfl),of_decide_eq_true (by kernel_rfl)⟩ | exact of_decide_eq_true (by kernel_rfl)) ?_ | refine allP_in (fun i _ h => by first | rfl | exact Int.natCast_nonneg _) ?_
theorem skbMx (p q : F8) : Must (bodyP Tryz.prog Z0 gl0 [] [] 3000 Tryz.f206 0 [aggB 96 p,aggB 32 q] [] (retQ Tryz.prog Tryz.f206 0 ⟨[],.agg (row8 32 p++row8 32 (xtF (rg 32 p) (rg 32 q))++row8 32 fun i => p (64 + i)),[],[]⟩)) := by
 constructor
 rw [vSc2]
 set_option simprocs false in dsimp only
 repeat first | exact True.intro | refine And.intro (by first | omega | rfl | (unfold roomFor; exact of_decide_eq_true (by kernel_rfl)) | exact ⟨of_decide_eq_true (by kernel_rfl),of_decide_eq_true (by kernel_rfl)⟩ | exact of_decide_eq_true (by kernel_rfl)) ?_ | refine allP_in (fun i _ h => by first | rfl | exact Int.natCast_nonneg _) ?_
theorem skbFi (p : F8) : Must (bodyP Tryz.prog Z0 gl0 [] [] 3000 Tryz.f189 0 [aggB 96 p] [] (retQ Tryz.prog Tryz.f189 0 ⟨[],.agg (row8 32 p++row8 32 (fun i => p (32 + i))++row8 32 (xtF (rg 32 fun i => p (32 + i)) z32)),[],[]⟩)) := by
 constructor
 rw [vSc3]
 set_option simprocs false in dsimp only
 repeat first | exact True.intro | refine And.intro (by first | omega | rfl | (unfold roomFor; exact of_decide_eq_true (by kernel_rfl)) | exact ⟨of_decide_eq_true (by kernel_rfl),of_decide_eq_true (by kernel_rfl)⟩ | exact of_decide_eq_true (by kernel_rfl)) ?_ | refine allP_in (fun i _ h => by first | rfl | exact Int.natCast_nonneg _) ?_
theorem skbVf (p q : F8) : Must (bodyP Tryz.prog Z0 gl0 [] [] 3000 Tryz.f134 0 [aggB 32 p,aggB 32 q] [] (retQ Tryz.prog Tryz.f134 0 ⟨[],aggB 32 (vfF (rg 32 p) (rg 32 q)),[],[]⟩)) := by
 constructor
 rw [vSc4]
 set_option simprocs false in dsimp only
 repeat first | exact True.intro | refine And.intro (by first | omega | rfl | (unfold roomFor; exact of_decide_eq_true (by kernel_rfl)) | exact ⟨of_decide_eq_true (by kernel_rfl),of_decide_eq_true (by kernel_rfl)⟩ | exact of_decide_eq_true (by kernel_rfl)) ?_ | refine allP_in (fun i _ h => by first | rfl | exact Int.natCast_nonneg _) ?_
theorem skbSg (p q : F8) : Must (bodyP Tryz.prog Z0 gl0 [] [] 3000 Tryz.f188 0 [aggB 32 p,aggB 32 q] [] (retQ Tryz.prog Tryz.f188 0 ⟨[],.slice 0 0 1 32 (.kn 32) (.is false),[],[⟨.cells (row8 32 (sgF (rg 32 p) (rg 32 q))),true,0⟩]⟩)) := by
 constructor
 rw [vSc5]
 set_option simprocs false in dsimp only
 repeat first | exact True.intro | refine And.intro (by first | omega | rfl | (unfold roomFor; exact of_decide_eq_true (by kernel_rfl)) | exact ⟨of_decide_eq_true (by kernel_rfl),of_decide_eq_true (by kernel_rfl)⟩ | exact of_decide_eq_true (by kernel_rfl)) ?_ | refine allP_in (fun i _ h => by first | rfl | exact Int.natCast_nonneg _) ?_
noncomputable def skSt (xs : List AV) (bs : List ABlk) : TL := match xs,bs with
 | [.rb false p .unk],[] => (match p with | [] => .ok ⟨[],.agg (row8 32 (eaF [])++z8 64),[],[]⟩ | x::l => onT (Nat.beq l.length 31) (forceBy (x::l) fun p => .ok ⟨[],.agg (row8 32 (eaF p)++z8 64),[],[]⟩))
 | _,_ => .no
theorem skcSt : COK Tryz.prog gl0 135 (mkF ⟨[.by0],fun _ _ => [],fun _ _ => [],skSt⟩) := by
 refine ctrE (fn := Tryz.f135) [] 3000 (by kernel_rfl) (by kernel_rfl) okZ0 (by kernel_rfl) (fun args w => by kernel_rfl) fun xs bs r hs ho => ?_
 simp only [skSt] at hs
 split at hs
 ·split at hs
  ·cases hs; exact ⟨_,skbSt [] (.inl rfl)⟩
  ·rename_i x l
   obtain ⟨q,hs⟩ := onT_sel hs
   rw [forceBy_eq] at hs
   cases hs
   refine ⟨_,skbSt (x::l) (.inr ⟨fn8 (x::l),(rg_self 0 ?_).symm⟩)⟩
   simpa using q
 ·cases hs
noncomputable def skMx (xs : List AV) (bs : List ABlk) : TL := match xs,bs with
 | [.agg cs,.agg ds],[] => asL 96 cs fun p => asL 32 ds fun q => forceBy (p.take 32) fun a => forceBy (p.drop 64) fun c => .ok ⟨[],.agg (a.map .u8++row8 32 (xtF a q)++c.map .u8),[],[]⟩
 | _,_ => .no
theorem skcMx : COK Tryz.prog gl0 206 (mkF ⟨[.kp,.kp],fun _ _ => [],fun _ _ => [],skMx⟩) := by
 refine ctrE (fn := Tryz.f206) [] 3000 (by kernel_rfl) (by kernel_rfl) okZ0 (by kernel_rfl) (fun args w => by kernel_rfl) fun xs bs r hs ho => ?_
 simp only [skMx] at hs
 split at hs
 ·obtain ⟨p,e,hs⟩ := asL_sel hs
  obtain ⟨q,e2,hs⟩ := asL_sel hs
  rw [forceBy_eq,forceBy_eq] at hs
  cases hs
  rw [e,e2]
  exact ⟨_,skbMx p q⟩
 ·cases hs
noncomputable def skFi (xs : List AV) (bs : List ABlk) : TL := match xs,bs with
 | [.agg cs],[] => asL 96 cs fun p => forceBy (p.take 32) fun a => forceBy ((p.drop 32).take 32) fun b => .ok ⟨[],.agg (a.map .u8++b.map .u8++row8 32 (xtF b z32)),[],[]⟩
 | _,_ => .no
theorem skcFi : COK Tryz.prog gl0 189 (mkF ⟨[.kp],fun _ _ => [],fun _ _ => [],skFi⟩) := by
 refine ctrE (fn := Tryz.f189) [] 3000 (by kernel_rfl) (by kernel_rfl) okZ0 (by kernel_rfl) (fun args w => by kernel_rfl) fun xs bs r hs ho => ?_
 simp only [skFi] at hs
 split at hs
 ·obtain ⟨p,e,hs⟩ := asL_sel hs
  rw [forceBy_eq,forceBy_eq] at hs
  cases hs
  rw [e]
  exact ⟨_,skbFi p⟩
 ·cases hs
noncomputable def skVf (xs : List AV) (bs : List ABlk) : TL := match xs,bs with
 | [.agg cs,.agg ds],[] => asL 32 cs fun p => asL 32 ds fun q => .ok ⟨[],aggB 32 (vfF p q),[],[]⟩
 | _,_ => .no
theorem skcVf : COK Tryz.prog gl0 134 (mkF ⟨[.kp,.kp],fun _ _ => [],fun _ _ => [],skVf⟩) := by
 refine ctrE (fn := Tryz.f134) [] 3000 (by kernel_rfl) (by kernel_rfl) okZ0 (by kernel_rfl) (fun args w => by kernel_rfl) fun xs bs r hs ho => ?_
 simp only [skVf] at hs
 split at hs
 ·obtain ⟨p,e,hs⟩ := asL_sel hs
  obtain ⟨q,e2,hs⟩ := asL_sel hs
  cases hs
  rw [e,e2]
  exact ⟨_,skbVf p q⟩
 ·cases hs
noncomputable def skSg (xs : List AV) (bs : List ABlk) : TL := match xs,bs with
 | [.agg cs,.agg ds],[] => asL 32 cs fun p => asL 32 ds fun q => .ok ⟨[],.slice 0 0 1 32 (.kn 32) (.is false),[],[⟨.cells (row8 32 (sgF p q)),true,0⟩]⟩
 | _,_ => .no
theorem skcSg : COK Tryz.prog gl0 188 (mkF ⟨[.kp,.kp],fun _ _ => [],fun _ _ => [],skSg⟩) := by
 refine ctrE (fn := Tryz.f188) [] 3000 (by kernel_rfl) (by kernel_rfl) okZ0 (by kernel_rfl) (fun args w => by kernel_rfl) fun xs bs r hs ho => ?_
 simp only [skSg] at hs
 split at hs
 ·obtain ⟨p,e,hs⟩ := asL_sel hs
  obtain ⟨q,e2,hs⟩ := asL_sel hs
  cases hs
  rw [e,e2]
  exact ⟨_,skbSg p q⟩
 ·cases hs
noncomputable def Z1 : Ctx := ((Z0.add 135 (mkF ⟨[.by0],fun _ _ => [],fun _ _ => [],skSt⟩)).add 134 (mkF ⟨[.kp,.kp],fun _ _ => [],fun _ _ => [],skVf⟩))
theorem okZ1 : COKs Tryz.prog gl0 Z1 := (okZ0.add skcSt).add skcVf
set_option maxRecDepth 100000 in
theorem vSc6 (p q f : F8) : bodyP Tryz.prog Z1 gl0 [] [] 3000 Tryz.f110 0 [.rb false (rg 32 p) .unk,aggB 32 q] [] (retQ Tryz.prog Tryz.f110 0 ⟨[],aggB 32 f,[],[]⟩) = (
0 < 4611686018427387904∧allP (fun (i : Nat) => f i = vfF (rg 32 (labF (rg 32 fun (i : Nat) => (rg 32 (eaF (rg 32 p))).getD i (0 : BitVec 8)) [BitVec.ofNat 8 114,BitVec.ofNat 8 101,BitVec.ofNat 8 115,BitVec.ofNat 8 32,BitVec.ofNat 8 98,BitVec.ofNat 8 105,BitVec.ofNat 8 110,BitVec.ofNat 8 100,BitVec.ofNat 8 101,BitVec.ofNat 8 114] (rg 32 (shaB [])))) (rg 32 q) i) 0 32 True : Prop) := by kernel_rfl
theorem skbBi (p q : F8) : Must (bodyP Tryz.prog Z1 gl0 [] [] 3000 Tryz.f110 0 [.rb false (rg 32 p) .unk,aggB 32 q] [] (retQ Tryz.prog Tryz.f110 0 ⟨[],aggB 32 (biF (rg 32 p) (rg 32 q)),[],[]⟩)) := by
 constructor
 rw [vSc6]
 repeat first | exact True.intro | refine And.intro (by first | omega | rfl | (unfold roomFor; exact of_decide_eq_true (by kernel_rfl)) | exact ⟨of_decide_eq_true (by kernel_rfl),of_decide_eq_true (by kernel_rfl)⟩ | exact of_decide_eq_true (by kernel_rfl)) ?_ | refine allP_in (fun i _ h => by first | rfl | exact Int.natCast_nonneg _) ?_
noncomputable def skBi (xs : List AV) (bs : List ABlk) : TL := match xs,bs with
 | [.rb false p .unk,.agg ds],[] => onT (Nat.beq p.length 32) (asL 32 ds fun q => .ok ⟨[],aggB 32 (biF p q),[],[]⟩)
 | _,_ => .no
theorem skcBi : COK Tryz.prog gl0 110 (mkF ⟨[.by0,.kp],fun _ _ => [],fun _ _ => [],skBi⟩) := by
 refine ctrE (fn := Tryz.f110) [] 3000 (by kernel_rfl) (by kernel_rfl) okZ1 (by kernel_rfl) (fun args w => by kernel_rfl) fun xs bs r hs ho => ?_
 simp only [skBi] at hs
 split at hs
 ·obtain ⟨h,hs⟩ := onT_sel hs
  obtain ⟨q,e2,hs⟩ := asL_sel hs
  cases hs
  rename_i p ds _
  rw [e2]
  have e : p = rg 32 (fn8 p) := (rg_self 0 (by simpa using h)).symm
  rw [e]
  exact ⟨_,skbBi _ q⟩
 ·cases hs
theorem ctr_ok2 {P : Program} {gl : Gl} {f : FuncId} {fn : Func} {c : Code} {sp : Spec} (gs : List Nat) (fuel : Nat) (hf : P.funcs[f]? = some fn) (hb : fn.body = some c) (hok : fnOK fn sp gs c = true) (hmix : P.follows .mixedOrders = true)
  (hcall : ∀ args w,(callFunc f args).run P w = .ok (.enter f args) w)
  (h : ∀ zs bs r,(sp.G zs bs).sel = some r→obsT r.ob→∃ Γ,COKs P gl Γ∧∃ Q,Ends P gl fn bs.length r Q∧awp P Γ fn.ntmps bs.length fuel c [] Q (entS gl gs zs bs)) :
  COKv P gl f (mkF sp) := by
 refine ⟨hcall,?_⟩
 intro M w κ hs hh zs vals fr r hG hMG hr hle hup hfr hgrho hfrG hvs hsel hobr
 unfold mkF at hsel
 rw [forceLN_eq] at hsel
 split at hsel
 ·rename_i hc
  obtain ⟨hc1,hc2,hc3⟩ := hc
  split at hsel
  ·rename_i o1 as2 hi1
   split at hsel
   ·rename_i o2 bs2 hi2
    obtain ⟨q,hq1,hq2⟩ := TL.toT_sel hsel
    unfold rlT at hq2
    split at hq2
    ·rename_i hl
     simp only [T.sel,Option.some.injEq] at hq2
     subst hq2
     obtain ⟨hoo,hoq⟩ := obsT_append.1 hobr
     obtain ⟨ho1,ho2⟩ := obsT_append.1 hoo
     have hSG : STR≤GB := by unfold STR GB; omega
     obtain ⟨hl1,hl2⟩ : bs2.length = (sp.io zs hs).length∧(sp.io zs hs).length = (sp.bk hs (sp.io zs hs)).length := by
      obtain ⟨κ2,vr,_⟩ := view_ker (hr.le hle) (callV (sp.io zs hs))
      obtain ⟨k1,k2,_⟩ := impBs_cls (hr.le hle) vr (by omega) _ _ bs2 o2 hi2 ho2
      exact ⟨k1,k2⟩
     obtain ⟨Γ,hΓ,Q,hE,hw⟩ := h as2 bs2 q hq1 hoq
     rw [hl1] at hw hE
     exact call_core hf hb hok hΓ hmix hG hMG hr hle hup hfr hgrho hfrG hvs hc1 hc2 hc3 hi1 hi2 ho1 ho2 hl.1 hl.2.1 hl.2.2 hE hw
    ·simp [T.sel] at hq2
   ·simp [T.sel] at hsel
  ·simp [T.sel] at hsel
 ·simp [T.sel] at hsel
theorem ctrE2 {P : Program} {gl : Gl} {f : FuncId} {fn : Func} {sp : Spec} (gs : List Nat) (fuel : Nat) (hf : P.funcs[f]? = some fn) (hok : (match fn.body with | some c => fnOK fn sp gs c | none => false) = true) (hmix : P.follows .mixedOrders = true)
  (hcall : ∀ args w,(callFunc f args).run P w = .ok (.enter f args) w)
  (h : ∀ zs bs r,(sp.G zs bs).sel = some r→obsT r.ob→∃ Γ,COKs P gl Γ∧∃ ls,Must (bodyP P Γ gl gs ls fuel fn bs.length zs bs (retQ P fn bs.length r))) :
  COK P gl f (mkF sp) := by
 cases hb : fn.body with
 | none => rw [hb] at hok; cases hok
 | some c =>
  rw [hb] at hok
  refine (ctr_ok2 gs fuel hf hb hok hmix hcall fun zs bs r hs ho => ?_).cok
  obtain ⟨Γ,hΓ,ls,hm⟩ := h zs bs r hs ho
  exact ⟨Γ,hΓ,_,ends_ret,bodyP_awp hb hm.out⟩
end Go.Sym
