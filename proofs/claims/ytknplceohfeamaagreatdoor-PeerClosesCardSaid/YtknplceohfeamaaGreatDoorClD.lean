/- A text in parts, sealed and opened; records at the begin of bytes. -/
import Derived.Test.YtknplceohfeamaaGreatDoorClA
import Derived.Test.YtknplceohfeamaaGreatDoorClC
set_option linter.unusedVariables false
set_option linter.unusedSimpArgs false
namespace Go.Spec
open Go.Sym
noncomputable def rcD (k : F8) (q : BitVec 64) (t : Int) (x : By) : By := hdL (x.length + 17)++rg (x.length + 17) (wY (rg 32 (aA (rg 32 k))) (rg 12 (aB (rg 32 k))) q t x)
def alM : By := [1#8,0#8]
def x0f (ps : List By) (q : Nat) : By := ps.getD q alM
def y0y : List By->Nat->Int
 | [],_ => 21
 | _::_,0 => 23
 | _::l,n + 1 => y0y l n
end Go.Spec
namespace Go.Sym
open Go.Proofs Go.Spec
noncomputable def h0g (xs : List AV) (bs : List ABlk) : TL := match xs,bs with
 | [.agg cs,.u64 q,.int .i64 t,.rb false b .unk,.int .i64 (.ofNat 0)],[] => asL 44 cs fun l => yF (l.take 32) fun k => yF (l.drop 32) fun iv => .ok ⟨[20<=t/\t<=23/\b.length<=256],.tup [.slice 0 0 1 (b.length + 22) .ow .unk,.int .i64 0],[],[⟨.bytes (hdL (b.length + 17)++rg (b.length + 17) (wY k iv q t b)),true,1⟩]⟩
 | _,_ => .no
theorem h0f : COK Tryz.prog gl0 89 (mkF ⟨[.kp,.kp,.kp,.by0,.kp],fun _ _ => [],fun _ _ => [],h0g⟩) := cSeal.chk fun xs bs r hs ho => by
 unfold h0g at hs
 split at hs
 ·rename_i cs qq t b
  refine v1v hs (fun k iv => .ok ⟨[20<=t/\t<=23/\b.length<=256],.tup [.slice 0 0 1 (b.length + 22) .ow .unk,.int .i64 0],[],[⟨.bytes (hdL (b.length + 17)++rg (b.length + 17) (wY (rg 32 k) (rg 12 iv) qq t b)),true,1⟩]⟩) fun f hk => ?_
  simp only [yI,m0x,h0x] at hk
  cases hk
  exact ⟨_,rfl,ho,rfl,rfl,rfl⟩
 ·cases hs
noncomputable def n0y (cl : Bool) (ps : List By) (xs : List AV) (bs : List ABlk) : TL := match xs,bs with
 | [.agg cs,.u64 q,.rb false b .unk],[] => tT (cl || Nat.blt q.toNat ps.length) <| asL 44 cs fun l => yF (l.take 32) fun k => yF (l.drop 32) fun iv => .ok ⟨[b = rg ((x0f ps q.toNat).length + 17) (wY k iv q (y0y ps q.toNat) (x0f ps q.toNat))/\20<=y0y ps q.toNat/\y0y ps q.toNat<=23/\(x0f ps q.toNat).length<=256],.tup [.int .i64 (y0y ps q.toNat),.slice 0 0 1 (x0f ps q.toNat).length (.kn (x0f ps q.toNat).length) .unk,.int .i64 0],[],[⟨.bytes (x0f ps q.toNat++[BitVec.ofInt 8 (y0y ps q.toNat)]),true,1⟩]⟩
 | _,_ => .no
theorem h0d (cl : Bool) (ps : List By) : COK Tryz.prog gl0 100 (mkF ⟨[.kp,.kp,.by0],fun _ _ => [],fun _ _ => [],n0y cl ps⟩) := by
 refine yY (fn := Tryz.f100) [] 3000 (by kernel_rfl) (by kernel_rfl) (okL32.withSym [40,48]) (by kernel_rfl) (fun args w => by kernel_rfl) fun xs bs r hs ho => ?_
 replace hs : (n0y cl ps xs bs).sel = some r := hs
 unfold n0y at hs
 split at hs
 ·rename_i cs qq b
  obtain ⟨_,hs⟩ := jZ hs
  obtain ⟨q,hq,oq,e1,e2,e3⟩ := v1v hs (fun k iv => .ok ⟨[b = rg ((x0f ps qq.toNat).length + 17) (wY (rg 32 k) (rg 12 iv) qq (y0y ps qq.toNat) (x0f ps qq.toNat))/\20<=y0y ps qq.toNat/\y0y ps qq.toNat<=23/\(x0f ps qq.toNat).length<=256],.tup [.int .i64 (y0y ps qq.toNat),.slice 0 0 1 (x0f ps qq.toNat).length (.kn (x0f ps qq.toNat).length) .unk,.int .i64 0],[],[⟨.bytes (x0f ps qq.toNat++[BitVec.ofInt 8 (y0y ps qq.toNat)]),true,1⟩]⟩) fun f hk => by
    simp only [yI,m0x,h0x] at hk
    cases hk
    exact ⟨_,rfl,ho,rfl,rfl,rfl⟩
  obtain ⟨k,iv,e,hs⟩ := iD hq
  cases hs
  rw [e]
  have o := zA.1 oq
  obtain ⟨rb,rv,rio,rnw⟩ := r
  cases e1; cases e2; cases e3
  exact ⟨_,bRo _ _ _ _ _ _ o.2.1 o.2.2.1 o.2.2.2 (o.1.trans (iL k iv _ _ _))⟩
 ·cases hs
def n0h (X : By) (ps : List By) : Prop := X.length < 1048576/\ps.length = P6 X.length 256/\∀ y,y < ps.length->ckB X 256 y = ps.getD y []
def n0g (X : By) (ps : List By) (xs : List AV) (bs : List ABlk) : TL := match xs,bs with
 | [.rb true l _],[] => .ok ⟨[l = X],.slice 0 0 1 ps.length .ow .unk,[],[⟨.rows 1 ps.length (fun j => [.rb true (ps.getD j []) .unk]),true,1⟩]⟩
 | _,_ => .no
theorem cPaP {X : By} {ps : List By} (h : n0h X ps) : COK Tryz.prog gl0 61 (mkF ⟨[.kp],fun _ _ => [],fun _ _ => [],n0g X ps⟩) := by
 refine yY (fn := Tryz.f61) [] 3000 (by kernel_rfl) (by kernel_rfl) okY1p (by kernel_rfl) (fun args w => by kernel_rfl) fun xs bs r hs ho => ?_
 replace hs : (n0g X ps xs bs).sel = some r := hs
 unfold n0g at hs
 split at hs
 ·cases hs
  obtain rfl := zA.1 ho
  exact ⟨_,bPar _ _ _ _ h.1 h.2.1 (fun y hy => by rw [h.2.2 y hy])⟩
 ·cases hs
def gUt (xs : List AV) (bs : List ABlk) : TL := match xs,bs with
 | [.int .i64 e,.rp _ [.ros false 1 60 g _]],[] => .ok ⟨[g = r64,0<=e,e < 60],.int .i64 64,[],[]⟩
 | _,_ => .no
theorem vUt (e : Int) (p : Bool) (u : NL) : bq (N8.add 87 (mkF ⟨[.r 1,.kp],fun _ _ => [],fun _ _ => [],gRs⟩)) Tryz.f86 0 [.int .i64 e,.rp p [.ros false 1 60 r64 u]] [] ⟨[],.int .i64 64,[],[]⟩ = (r64 = r64/\(0 : Int)<=e/\e < 60/\(64 : Int) = 64/\True) := by kernel_rfl
theorem bUt (e : Int) (p : Bool) (u : NL) (h1 : 0<=e) (h2 : e < 60) : Must (bq (N8.add 87 (mkF ⟨[.r 1,.kp],fun _ _ => [],fun _ _ => [],gRs⟩)) Tryz.f86 0 [.int .i64 e,.rp p [.ros false 1 60 r64 u]] [] ⟨[],.int .i64 64,[],[]⟩) := ⟨by rw [vUt]; exact ⟨rfl,h1,h2,rfl,trivial⟩⟩
theorem cUt : COK Tryz.prog gl0 86 (mkF ⟨[.kp,.p [.r 1]],fun _ _ => [],fun _ _ => [],gUt⟩) := by
 refine yY (fn := Tryz.f86) [] 3000 (by kernel_rfl) (by kernel_rfl) (okN8.add cRs) (by kernel_rfl) (fun args w => by kernel_rfl) fun xs bs r hs ho => ?_
 replace hs : (gUt xs bs).sel = some r := hs
 unfold gUt at hs
 split at hs
 ·cases hs
  obtain ⟨h0,h1⟩ := zJ.1 ho
  obtain ⟨h1,h2⟩ := zJ.1 h1
  rw [h0]
  exact ⟨_,bUt _ _ _ h1 (zA.1 h2)⟩
 ·cases hs
noncomputable def Wk0 (X : By) (ps : List By) (cl : Bool) : Ctx := (((((((((((Y8 (fun _ => 0) [] 22).add 86 (mkF ⟨[.kp,.p [.r 1]],fun _ _ => [],fun _ _ => [],gUt⟩)).add 12 (mkF ⟨[],fun _ _ => [],fun _ _ => [],n0d⟩)).add 87 (mkF ⟨[.r 1,.kp],fun _ _ => [],fun _ _ => [],gRs⟩)).add 89 (mkF ⟨[.kp,.kp,.kp,.by0,.kp],fun _ _ => [],fun _ _ => [],h0g⟩)).add 100 (mkF ⟨[.kp,.kp,.by0],fun _ _ => [],fun _ _ => [],n0y cl ps⟩)).add 61 (mkF ⟨[.kp],fun _ _ => [],fun _ _ => [],n0g X ps⟩)).add 42 (mkF (reSp 1 gs64))).add 41 (mkF fsSp)).add 40 (mkF ⟨[.by0],fun _ _ => [],fun _ _ => [],q0d⟩)).add 70 (mkF (uN clA)))
theorem g0y {X : By} {ps : List By} {cl : Bool} (h : n0h X ps) : COKs Tryz.prog gl0 (Wk0 X ps cl) := (((((((((((e0k _ _ _).add cUt).add cAl2).add cRs).add h0f).add (h0d _ _)).add (cPaP h)).add cs64).add cs66).add cs69).add cClo)
noncomputable def WkE (X : By) (ps : List By) (cl : Bool) : Ctx := exeS Tryz.prog gl0 3000 [(62,Tryz.f62)] (Wk0 X ps cl)
theorem u0y {X : By} {ps : List By} {cl : Bool} (h : n0h X ps) : COKs Tryz.prog gl0 (WkE X ps cl) := (g0y h).exeS 3000 (by kernel_rfl) _ (by kernel_rfl) (by kernel_rfl)
def peK (sh : Bool) (nt : Nat) (ps : F8) (r : F8) (n : Nat) (c : List AV) (i o ie oe : Int) (rt rs : Bool) (d : Nat) : AV := .agg (plA sh (.slice 0 0 1 nt .ow .unk) ps++[.int .i64 4]++yD 64 r++[.slice 1 0 1 n .ow .unk]++c++[.int .i64 i,.int .i64 o,.int .i64 ie,.int .i64 oe,.int .i64 0,.bool rt,.bool rs,.nils,.slice 2 0 1 0 .ow .unk,.slice 3 0 1 d .ow .unk,.nils,.int .i64 0])
def svD (ph : Int) (n : Nat) (c : List AV) (i o ie oe : Int) (sl : Bool) (u : Nat) (al : Int) : AV := .agg ([.int .i64 ph,.slice 0 0 1 n .ow .unk]++c++[.int .i64 i,.int .i64 o,.int .i64 ie,.int .i64 oe,.bool sl,.slice 1 0 1 0 .ow .unk,.slice 2 0 1 u .ow .unk,.int .i64 al])
def v0d : By->List By->Prop
 | X,[] => X = []
 | X,[x] => X = x/\0 < x.length/\x.length<=256
 | X,[x,y] => X = x++y/\x.length = 256/\0 < y.length/\y.length<=256
 | _,_ => False
theorem v0h : ∀ {X : By} {ps : List By},v0d X ps->n0h X ps
 | X,[],h => by
  obtain rfl : X = [] := h
  exact ⟨by decide,rfl,fun y hy => absurd hy (Nat.not_lt_zero _)⟩
 | X,[x],h => by
  obtain ⟨rfl,h1,h2⟩ : X = x/\0 < x.length/\x.length<=256 := h
  refine ⟨by omega,?_,fun y hy => ?_⟩
  ·show 1 = (X.length + 256 - 1) / 256
   omega
  ·obtain rfl : y = 0 := by have : y < 1 := hy; omega
   show (X.drop 0).take 256 = X
   rw [List.drop_zero,List.take_of_length_le h2]
 | X,[x,z],h => by
  obtain ⟨rfl,h1,h2,h3⟩ : X = x++z/\x.length = 256/\0 < z.length/\z.length<=256 := h
  refine ⟨by rw [List.length_append]; omega,?_,fun y hy => ?_⟩
  ·show 2 = ((x++z).length + 256 - 1) / 256
   rw [List.length_append]
   omega
  ·have hy : y < 2 := hy
   rcases Nat.lt_or_ge y 1 with c | c
   ·obtain rfl : y = 0 := by omega
    show ((x++z).drop 0).take 256 = x
    rw [List.drop_zero,<- h1,List.take_left]
   ·obtain rfl : y = 1 := by omega
    show ((x++z).drop 256).take 256 = z
    rw [<- h1,List.drop_left,List.take_of_length_le (by omega)]
 | X,_::_::_::_,h => h.elim
structure KP where
 su : F8
 ea : F8
 ha : F8
 ma : F8
 la : F8
 ka : F8
 kb : F8
 lg : By
 us : By
def KP.ok (K : KP) : Prop := K.lg.length < 1099511627776/\K.us.length < 1099511627776
def u0d (K : KP) (m : Nat) (q1 q2 : AV) : ABlk := ⟨.cells ([.int .i64 3,.slice 1 0 1 K.lg.length .ow .unk]++iV (yD 32 K.su) K.ea K.ha K.ma K.ka K.kb K.la++[.int .i64 0,.int .i64 0,.int .i64 2,.int .i64 2,.bool true,.slice 2 0 1 0 .ow .unk,.slice 3 0 1 K.us.length .ow .unk,.int .i64 (-1)]++yD 32 K.kb++[.int .i64 2,.int .i64 m,q1,q2,.fn 86 [] [.ptr 4 0 0 0],.nils,.nils]),true,0⟩
def bxU : ABlk := ⟨.cells [.slice 5 0 1 60 .ow .unk],true,0⟩
def rwU : ABlk := ⟨.rows 1 60 r64,true,1⟩
def j0d (kb : F8) : Nat->List AV
 | 0 => []
 | n + 1 => j0d kb n++yD 32 kb++[.int .i64 2,.int .i64 n]
theorem x0d (y : Nat) (_ : y < 60) : zT false [AV.int .i64 64] = true := rfl
theorem w0y (y : Nat) (_ : y < 60) : gD true [AV.int .i64 64] = true := rfl
theorem u0h (y : Nat) (_ : y < 60) : zT false [AV.int .i64 64] = true/\[AV.int .i64 64].length<=1 := ⟨rfl,Nat.le_refl 1⟩
theorem g0h (y : Nat) (_ : y < 60) : zT false [AV.int .i64 64] = true/\[AV.int .i64 64] = [AV.int .i64 64] := ⟨rfl,rfl⟩
end Go.Sym
namespace Go.Spec
open Go.Sym
theorem k0y (n : Nat) (h : n < 65536) : (BitVec.ofInt 8 ((n : Int).fdiv 256)).toNat * 256 + (BitVec.ofInt 8 (n : Int)).toNat = n := by
 have e : ((n : Int).fdiv 256) = ((n / 256 : Nat) : Int) := by rw [Int.fdiv_eq_ediv_of_nonneg _ (by decide)]; rfl
 rw [e,BitVec.ofInt_natCast,BitVec.ofInt_natCast,BitVec.toNat_ofNat,BitVec.toNat_ofNat]; omega
theorem q0y (n : Nat) (h : n < 65536) (R : By) : stN (hdL n++R) = n := k0y n h
theorem k0h (n : Nat) : (hdL n).length = 5 := rfl
theorem g0g {n : Nat} {B R : By} (hB : B.length = n) (hn : n<=273) : stF (hdL n++(B++R)) = 0/\stO (hdL n++(B++R)) = true/\stX (hdL n++(B++R)) = n + 5/\stK (hdL n++(B++R)) = 23/\stB (hdL n++(B++R)) = B/\(hdL n++(B++R)).drop (n + 5) = R := by
 have hN := q0y n (by omega) (B++R)
 have hl : (hdL n++(B++R)).length = 5 + (n + R.length) := by rw [List.length_append,List.length_append,k0h,hB]
 have h0 : (hdL n++(B++R)).getD 0 0 = 23#8 := rfl
 have h1 : (hdL n++(B++R)).getD 1 0 = 3#8 := rfl
 have hF : stF (hdL n++(B++R)) = 0 := by
  unfold stF
  rw [h0,h1,hl,hN,if_neg,if_neg]
  ·intro h
   have := h.2
   rw [if_pos (by decide)] at this
   omega
  ·intro h
   rcases h with ⟨_,h⟩ | ⟨_,h⟩
   ·exact h (by decide)
   ·exact h (by decide)
 have z0f : stO (hdL n++(B++R)) = true := by
  unfold stO
  rw [hF,hl,hN,decide_eq_true (show 5<=5 + (n + R.length) by omega),decide_eq_true (show n + 5<=5 + (n + R.length) by omega)]
  rfl
 refine ⟨hF,z0f,?_,?_,?_,?_⟩
 ·unfold stX; rw [if_pos z0f,hN]; omega
 ·unfold stK; rw [if_pos z0f,h0]; rfl
 ·unfold stB; rw [if_pos z0f,hN]
  show (B++R).take n = B
  rw [<- hB,List.take_left]
 ·show (B++R).drop n = R
  rw [<- hB,List.drop_left]
theorem w0h (k : F8) (q : BitVec 64) (t : Int) (x : By) : (rcD k q t x).length = x.length + 22 := by
 unfold rcD
 rw [List.length_append,k0h,wM]; omega
theorem v0g (k : F8) (q : BitVec 64) (t : Int) (x R : By) (h : x.length<=256) : stF (rcD k q t x++R) = 0/\stO (rcD k q t x++R) = true/\stX (rcD k q t x++R) = x.length + 22/\stK (rcD k q t x++R) = 23/\stB (rcD k q t x++R) = rg (x.length + 17) (wY (rg 32 (aA (rg 32 k))) (rg 12 (aB (rg 32 k))) q t x)/\(rcD k q t x++R).drop (x.length + 22) = R := by
 unfold rcD
 rw [List.append_assoc]
 exact g0g (wM _ _) (by omega)
noncomputable def daS (k : F8) : List By->Nat->By
 | [],_ => []
 | x::l,q => rcD k (BitVec.ofNat 64 q) 23 x++daS k l (q + 1)
noncomputable def clS (k : F8) (q : Nat) : By := rcD k (BitVec.ofNat 64 q) 21 alM
end Go.Spec
