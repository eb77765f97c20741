/- Records of one part; keys. -/
import Derived.Test.YtknplceohfeamaaGreatDoorShaA
import Derived.Test.YtknplceohfeamaaGreatDoorKeyB
import Derived.RangeFuncBox
import Derived.Shelf.Abstract
import Derived.WalkKit
import Derived.OwnWalkIn
import Derived.TacticsInMore
import Derived.LoopNIn
import Derived.LoopIn
import Derived.Test.YtknplceohfeamaaGreatDoorProg
set_option linter.unusedVariables false
set_option linter.unusedSimpArgs false
namespace Go.Sym
open Go.Proofs Go.RowKit Go.Shelf
attribute [local go_sem] Oper.semAt_some
set_option maxRecDepth 100000 in
set_option maxHeartbeats 4000000 in
theorem q0x (F : Fence) (n : Nat) (hF : F.fn 112) (hro : F.round = none) (hn : 1<=n) (l Bs Os Bn On b off len cap c : Nat) (hc1 : 1<=c) (hc2 : c < 2147483648) (hlen : len < 4611686018427387904) (hlc : len<=cap)
  (J : Nat->World->Prop) (Jx : World->Prop) (hJd : ∀ k W,J k W->J k W.drew)
  (hY : ∀ k W,J k W->k * c < len->YieldAt F (n - 1) Tryz.prog l #[.slice (some ⟨b,off + k * c,none⟩) (min c (len - k * c)) (min c (len - k * c))] W fun e W' =>
   (e = .returned (.bool true)/\J (k + 1) W'/\(∀ ad x,(ad = ⟨Bs,Os,none⟩ \/ ad = ⟨Bn,On,none⟩)->W.cell? ad = some x->W'.cell? ad = some x)) \/ (e = .returned (.bool false)/\Jx W'))
  (W : World) (hs : W.cell? ⟨Bs,Os,none⟩ = some (.slice (some ⟨b,off,none⟩) len cap)) (hcn : W.cell? ⟨Bn,On,none⟩ = some (.int .i64 c)) (h0 : J 0 W) :
  CallsIn F n Tryz.prog 112 #[.func (.yield l) #[] #[],.pointer (some ⟨Bs,Os,none⟩),.pointer (some ⟨Bn,On,none⟩)] W fun e W' => (∃ v,e = .returned v) /\
   ((∃ k,J k W'/\len<=k * c/\(∀ j,j < k->j * c < len)) \/ Jx W') := by
 refine callsIn_of_wp Tryz.func112 rfl hF ?_ hro
 simp only [Tryz.ntmps112,List.size_toArray,List.length_cons,List.length_nil,Nat.reduceAdd,Nat.reduceSub,Array.replicate_succ,Array.replicate_zero,List.push_toArray,List.append_toArray,List.nil_append,List.cons_append]
 gi_wp2
 gi_loopw [4] (fun i wr => ∃ k : Nat,i = .int .i64 ((k * c : Nat) : Int)/\J k wr/\(∀ j,j < k->j * c < len)/\wr.cell? ⟨Bs,Os,none⟩ = some (.slice (some ⟨b,off,none⟩) len cap)/\wr.cell? ⟨Bn,On,none⟩ = some (.int .i64 c))
  (fun i _ => len + c - (intOf i).toNat)
 case atStart => exact ⟨0,by simp,h0,fun j hj => absurd hj (Nat.not_lt_zero j),hs,hcn⟩
 case round =>
  obtain ⟨k,rfl,hJs,hlt,hs1,hn1⟩ := hrel
  by_cases hk : k * c < len
  ·have hki : ((k * c : Nat) : Int) < (len : Int) := by omega
   have hmix : Tryz.prog.follows .mixedOrders = true := by kernel_rfl
   have h1 : (0 : Int)<=((k * c : Nat) : Int) := Int.natCast_nonneg _
   gi_wp2
   rename_i K1 hK1 K2 hK2
   have he : (if len - k * c < c then ((len - k * c : Nat) : Int) else (c : Int)) = ((min c (len - k * c) : Nat) : Int) := by split <;> omega
   have hkc : (k : Int) * (c : Int) < (len : Int) := by have := hki; simpa using this
   have hm1 := Nat.min_le_left c (len - k * c)
   have hm2 := Nat.min_le_right c (len - k * c)
   obtain ⟨fn,tmps,assign,body,hy,hR⟩ := hY k wr.drew (hJd _ _ hJs) hk
   have hs2 : wr.drew.cell? ⟨Bs,Os,none⟩ = some (.slice (some ⟨b,off,none⟩) len cap) := hs1
   have hn2 : wr.drew.cell? ⟨Bn,On,none⟩ = some (.int .i64 c) := hn1
   generalize hmm : min c (len - k * c) = mm at *
   gi_region
   all_goals
    refine hK2 _ _ ?_
    gi_wp2
    refine hR.mono ?_
    rintro e W3 (⟨rfl,hJ3,hk3⟩ | ⟨rfl,hJx3⟩)
    ·have hs3 := hk3 _ _ (.inl rfl) hs2
     have hn3 := hk3 _ _ (.inr rfl) hn2
     gi_wp2
     go_roundw
     case rel =>
      refine ⟨k + 1,?_,hJ3,fun j hj => ?_,hs3,hn3⟩
      ·simp [Nat.add_mul]
      ·rcases Nat.lt_or_ge j k with h | h
       ·exact hlt j h
       ·obtain rfl : j = k := by omega
        exact hk
     case measure => simp [intOf]; omega
    ·gi_wp2
     refine bodyPost_ret (results_none rfl _ _ _) rfl ?_
     exact ⟨⟨_,rfl⟩,.inr hJx3⟩
  ·have hki : ¬ ((k * c : Nat) : Int) < (len : Int) := by omega
   gi_wp2
   go_end0
   exact ⟨⟨_,rfl⟩,.inl ⟨k,hJs,by omega,hlt⟩⟩
end Go.Sym
namespace Go.Sym
open Go.Proofs Go.RowKit Go.Shelf
attribute [local go_sem] Oper.semAt_some
def P6 (len c : Nat) : Nat := (len + c - 1) / c
def ckB (l : List (BitVec 8)) (c k : Nat) : List (BitVec 8) := (l.drop (k * c)).take c
def aJ : IT := fun cs => match cs with
 | [.rb p l _,.int .i64 c] => some ([1<=c,c < 2147483648,l.length < 4611686018427387904],P6 l.length c.toNat,fun k => [.rb p (ckB l c.toNat k) (.is false)])
 | _ => none
theorem E9 {k c len : Nat} (hc : 1<=c) : k < P6 len c ↔ k * c < len := by
 unfold P6
 rw [<- Nat.succ_le_iff,Nat.le_div_iff_mul_le (by omega),Nat.succ_mul]
 omega
theorem iQ (l : List (BitVec 8)) (c k : Nat) : (ckB l c k).length = min c (l.length - k * c) := by simp [ckB]
theorem P7 (r : Option Nat) (x : Nat) : (FW r).room x := fun d hd => by cases hd
theorem X5 {r : Option Nat} {a b l : Nat} {P : Program} {f : FuncId} {tmps : Array Value} {assign body : Code} {w : World} {R : Ending->World->Prop} (h : RoundIn (FW r) a P l f tmps assign body w R) : RoundIn (FW r) b P l f tmps assign body w R :=
 ⟨h.1,fun c cs _ => h.2 c cs (P7 r _)⟩
theorem sR {r : Option Nat} {a b : Nat} {P : Program} {f : FuncId} {args : Array Value} {w : World} {R : Ending->World->Prop} (h : CallsIn (FW r) a P f args w R) : CallsIn (FW r) b P f args w R :=
 ⟨h.1,fun cs _ => h.2 cs (P7 r _)⟩
theorem Turns.drew (B : Nat) (W : World) : Turns B W W.drew := ⟨none,⟨rfl,rfl,rfl,Nat.le_refl _,fun _ _ _ => rfl⟩,fun r e => by cases e⟩
theorem sS {w : World} {ad : Addr} {x : Value} (h : w.cell? ad = some x) : ad = ⟨ad.block,ad.off,none⟩ := by
 obtain ⟨b,o,s⟩ := ad
 cases s with
 | none => rfl
 | some s =>
  unfold World.cell? at h
  split at h
  ·simp at h
  ·cases h
set_option maxRecDepth 100000 in
set_option maxHeartbeats 2000000 in
theorem X6 (F : Fence) (n : Nat) (hF : F.fn 112) (hro : F.round = none) (hn : 1<=n) (l Bs Os Bn On cap : Nat) (sa : Option Addr) (R : World->Prop) (W : World) (hs : W.cell? ⟨Bs,Os,none⟩ = some (.slice sa 0 cap)) (h0 : R W) :
  CallsIn F n Tryz.prog 112 #[.func (.yield l) #[] #[],.pointer (some ⟨Bs,Os,none⟩),.pointer (some ⟨Bn,On,none⟩)] W fun e W' => (∃ v,e = .returned v)/\R W' := by
 refine callsIn_of_wp Tryz.func112 rfl hF ?_ hro
 simp only [Tryz.ntmps112,List.size_toArray,List.length_cons,List.length_nil,Nat.reduceAdd,Nat.reduceSub,Array.replicate_succ,Array.replicate_zero,List.push_toArray,List.append_toArray,List.nil_append,List.cons_append]
 gi_wp2
 gi_loopw [4] (fun i wr => i = .int .i64 0/\R wr/\wr.cell? ⟨Bs,Os,none⟩ = some (.slice sa 0 cap)) (fun _ _ => 0)
 case atStart => exact ⟨rfl,h0,hs⟩
 case round =>
  obtain ⟨rfl,hR,hs1⟩ := hrel
  gi_wp2
  go_end0
  exact ⟨⟨_,rfl⟩,hR⟩
theorem n0x : ITok Tryz.prog 112 aJ := by
 refine ⟨fun args w => by kernel_rfl,fun cs ob N el h ho => ?_⟩
 unfold aJ at h
 split at h
 ·rename_i p l nl c
  simp only [Option.some.injEq,Prod.mk.injEq] at h
  obtain ⟨rfl,rfl,rfl⟩ := h
  obtain ⟨hc1,ho⟩ := zJ.1 ho
  obtain ⟨hc2,ho⟩ := zJ.1 ho
  have hlen := zA.1 ho
  obtain ⟨n,rfl⟩ : ∃ n : Nat,c = n := ⟨c.toNat,by omega⟩
  simp only [Int.toNat_natCast]
  have hn1 : 1<=n := by omega
  refine ⟨fun k => by simp [zT,AV.data],fun κ w ads xs hm hv hl hcell => ?_⟩
  obtain ⟨x1,xs,rfl,⟨a,kk,rfl,hkk,_,hmem⟩,x2,xs,rfl,hx2,hnil⟩ := hv
  simp only [VRels] at hnil
  subst hnil
  have hx2 : x2 = .int .i64 n := hx2
  subst hx2
  obtain ⟨ad1,ad2,rfl⟩ : ∃ ad1 ad2,ads = [ad1,ad2] := by
   match ads,hl with
   | [a,b],_ => exact ⟨a,b,rfl⟩
  have h1 := hcell 0 ad1 _ rfl rfl
  have h2 := hcell 1 ad2 _ rfl rfl
  have e1 := sS h1
  have e2 := sS h2
  obtain ⟨Bs,Os,s1⟩ := ad1
  obtain ⟨Bn,On,s2⟩ := ad2
  simp only [Addr.mk.injEq,true_and] at e1 e2
  subst e1 e2
  have below : ∀ {W : World},Below w.heap.size w W->∀ {ad : Addr} {x : Value},w.cell? ad = some x->W.cell? ad = some x := by
   intro W hb ad x hx
   have hlt : ad.block < w.heap.size := by
    obtain ⟨o,ho,_⟩ := t7 hx
    exact (Array.getElem?_eq_some_iff.1 ho).1
   rw [World.cell?_of_block (hb.block _ hlt)]
   exact hx
  by_cases hz : l.length = 0
  ·have hl0 : l = [] := List.eq_nil_of_length_eq_zero hz
   subst hl0
   have hN : P6 (([] : List (BitVec 8)).length) n = 0 := by
    show (0 + n - 1) / n = 0
    exact Nat.div_eq_of_lt (by omega)
   rw [hN]
   refine ⟨fun _ => #[],fun k hk => absurd hk (Nat.not_lt_zero k),fun m l' J Jx W hb hJ hJx hY h0 => ?_⟩
   exact sR ((X6 (FW none) (m + 1) trivial rfl (by omega) l' Bs Os Bn On kk a (J 0) W (below hb h1) h0).mono fun e W' ⟨he,hr⟩ => ⟨he,.inl hr⟩)
  ·rcases hmem with hl0 | ⟨B,O,rfl,hmem⟩
   ·subst hl0; exact absurd rfl hz
   refine ⟨fun k => #[.slice (some ⟨B,O + k * n,none⟩) (min n (l.length - k * n)) (min n (l.length - k * n))],fun k hk => ?_,fun m l' J Jx W hb hJ hJx hY h0 => ?_⟩
   ·refine ⟨_,[],rfl,⟨some ⟨B,O + k * n,none⟩,min n (l.length - k * n),by rw [iQ],by rw [iQ]; exact Nat.le_refl _,rfl,.inr ⟨B,O + k * n,rfl,fun j b hj => ?_⟩⟩,rfl⟩
    rw [Nat.add_assoc]
    refine hmem _ b ?_
    unfold ckB at hj
    rw [List.getElem?_take] at hj
    split at hj
    ·rw [List.getElem?_drop] at hj; exact hj
    ·cases hj
   ·refine sR ((q0x (FW none) (m + 1) trivial rfl (by omega) l' Bs Os Bn On B O l.length kk n hn1 (by omega) hlen hkk J Jx (fun k W1 h => hJ k _ _ h (Turns.drew _ _)) (fun k W1 hj hk => ?_) W (below hb h1) (below hb h2) h0).mono ?_)
    ·have := hY k W1 hj ((E9 hn1).2 hk)
     obtain ⟨fn,tmps,assign,body,k1,k2⟩ := this
     refine ⟨fn,tmps,assign,body,k1,(X5 k2).mono ?_⟩
     rintro e W' (⟨he,hj',hkp⟩ | h)
     ·exact .inl ⟨he,hj',fun ad x had hx => hkp ad (by rcases had with rfl | rfl <;> simp) x hx⟩
     ·exact .inr h
    ·rintro e W' ⟨he,⟨k,hj,h3,h4⟩ | h⟩
     ·refine ⟨he,.inl ?_⟩
      have : k = P6 l.length n := by
       have h5 : ¬ k < P6 l.length n := fun h => by have := (E9 hn1).1 h; omega
       rcases Nat.lt_or_ge (P6 l.length n) k with h6 | h6
       ·have h7 := h4 _ h6
        exact absurd ((E9 hn1).2 h7) (Nat.lt_irrefl _)
       ·omega
      rw [<- this]; exact hj
     ·exact ⟨he,.inr h⟩
 ·cases h
end Go.Sym
namespace Go.Sym
open Go.Proofs Go.Spec
def Ctx.withIt (Γ : Ctx) (f : FuncId) (it : IT) : Ctx := ⟨Γ.fn,Γ.keep,Γ.sym,Γ.frz,fun g => match Nat.beq g f with | true => some it | false => Γ.its g⟩
theorem COKs.withIt {P : Program} {gl : Gl} {Γ : Ctx} (h : COKs P gl Γ) (f : FuncId) (it : IT) : COKs P gl (Γ.withIt f it) := h
noncomputable def Y1 : Ctx := exeS Tryz.prog gl0 3000 [(88,Tryz.f88)] N6
theorem okY1 : COKs Tryz.prog gl0 Y1 := okN6.exeS 3000 (by kernel_rfl) _ (by kernel_rfl) (by kernel_rfl)
noncomputable def Y1p : Ctx := (Y1.withFrz [(10,[.by8])]).withIt 112 aJ
theorem okY1p : COKs Tryz.prog gl0 Y1p := (okY1.withFrz _).withIt _ _
def pkE (l : By) : LS := ⟨Nat,fun k => [(3,.ptr 0 0 0 0)],fun k => [(0,⟨.cells [.slice 100 0 1 k .ow .unk],true,0⟩),(100,⟨.rows 1 k (fun j => [.rb true (ckB l 256 j) .unk]),true,1⟩)],1001,fun k => k,fun k => k<=P6 l.length 256,fun _ => []⟩
set_option maxRecDepth 100000 in
theorem vPar (u : NL) (l : By) (N : Nat) (g : Nat->List AV) : bg Y1p [] [(5,pkE l)] Tryz.f61 0 [.rb true l u] [] ⟨[],.slice 0 0 1 N .ow .unk,[],[⟨.rows 1 N g,true,1⟩]⟩ = (
let x1 := (List.length l + 256 - 1) / 256; (1 : Int)<=(256 : Int)/\(256 : Int) < (2147483648 : Int)/\List.length l < 4611686018427387904/\ITok Go.Proofs.Tryz.prog 112 aJ/\(∀ (k : Nat),k < x1->[AV.rb Bool.true (List.take 256 (List.drop (k * 256) l)) (NL.is Bool.false)].length = 1)/\(∃ (x : Nat),x.le x1/\x = 0/\(Bool.true && (List.range 1).all fun (i : Nat) => [(0,({ con := Con.cells [AV.slice 100 0 1 x Cap.ow NL.unk],wr := Bool.true,own := 0 } : ABlk)),(100,({ con := Con.rows 1 x fun (j : Nat) => [AV.rb Bool.true (List.take 256 (List.drop (j * 256) l)) NL.unk],wr := Bool.true,own := 1 } : ABlk))].any fun (p : Nat × ABlk) => p.fst.beq (0 + i)) = Bool.true/\0 = 0/\x = 0/\x = 0/\True)/\(∀ (x : Nat),x.le x1->Bool.true = Bool.true)/\(∀ (x : Nat),x.le x1->x < x1->(List.take 256 (List.drop (x * 256) l)).length < 1099511627776/\(List.take 256 (List.drop (x * 256) l)).length = (List.take 256 (List.drop (x * 256) l)).length/\x = x/\zD x 1 24/\∃ (y : Nat),y.le x1/\y = x + 1/\0 = 0/\0 = 0/\0 = 0/\0 = 0/\y = x + 1/\y = x + 1/\(∀ (y_1 : Nat),y_1 < y->zT Bool.false [AV.rb Bool.true (List.take 256 (List.drop (y_1 * 256) l)) NL.unk] = Bool.true/\lB (fun (j : Nat) => [AV.rb Bool.true (List.take 256 (List.drop (j * 256) l)) NL.unk]) x (cut 1 (List.take 1 (List.drop 0 [AV.rb Bool.true (List.take 256 (List.drop (x * 256) l)) NL.unk]))) y_1 = [AV.rb Bool.true (List.take 256 (List.drop (y_1 * 256) l)) NL.unk])/\True)/\∀ (x : Nat),x.le x1->x = x1->(∀ (y : Nat),y < N->gD Bool.true (g y) = Bool.true)/\0 = 0/\0 = 0/\0 = 0/\N = x/\N = x/\(∀ (y : Nat),y < N->zT Bool.false (g y) = Bool.true/\[AV.rb Bool.true (List.take 256 (List.drop (y * 256) l)) NL.unk] = g y)/\True : Prop) := by kernel_rfl
theorem v2z (n : Nat) : P6 n 256<=n := by unfold P6; omega
theorem w1z (l : By) (x y : Nat) (hy : y < x + 1) : lB (fun (j : Nat) => [AV.rb true (ckB l 256 j) NL.unk]) x (cut 1 (List.take 1 (List.drop 0 [AV.rb true (ckB l 256 x) NL.unk]))) y = [AV.rb true (ckB l 256 y) NL.unk] := by
 unfold lB
 by_cases c : y < x
 ·simp only [if_pos c]
 ·simp only [if_neg c]
  have : y = x := by omega
  subst this
  rw [Nat.sub_self]
  rfl
set_option maxRecDepth 100000 in
theorem bPar (u : NL) (l : By) (N : Nat) (g : Nat->List AV) (hl : l.length < 1048576) (hN : N = P6 l.length 256) (hg : ∀ y,y < N->g y = [.rb true (ckB l 256 y) .unk]) : Must (bg Y1p [] [(5,pkE l)] Tryz.f61 0 [.rb true l u] [] ⟨[],.slice 0 0 1 N .ow .unk,[],[⟨.rows 1 N g,true,1⟩]⟩) := by
 constructor
 rw [vPar]
 set_option simprocs false in dsimp only
 have hM := v2z l.length
 have hk : ∀ k,(ckB l 256 k).length < 1099511627776 := fun k => by rw [iQ]; omega
 refine ⟨by omega,by omega,by omega,n0x,fun _ _ => rfl,⟨0,Nat.zero_le _,rfl,rfl,rfl,rfl,rfl,trivial⟩,fun _ _ => rfl,fun x h1 h2 => ⟨hk x,rfl,rfl,?_,x + 1,h2,rfl,rfl,rfl,rfl,rfl,rfl,rfl,fun y hy => ⟨rfl,w1z l x y hy⟩,trivial⟩,fun x h1 h2 => ?_⟩
 ·have h2 : x < P6 l.length 256 := h2
  unfold zD; omega
 ·have h2 : x = P6 l.length 256 := h2
  have e : x = N := by rw [h2,hN]
  exact ⟨fun y hy => by rw [hg y hy]; rfl,rfl,rfl,rfl,e.symm,e.symm,fun y hy => ⟨by rw [hg y hy]; rfl,(hg y hy).symm⟩,trivial⟩
def gPaO (xs : List AV) (bs : List ABlk) : TL := match xs,bs with
 | [.rb true l _],[] => ckT (Nat.ble 1 l.length && Nat.ble l.length 256) (.ok ⟨[],.slice 0 0 1 1 .ow .unk,[],[⟨.rows 1 1 (fun _ => [.rb true l .unk]),true,1⟩]⟩)
 | _,_ => .no
theorem cPaO : COK Tryz.prog gl0 61 (mkF ⟨[.kp],fun _ _ => [],fun _ _ => [],gPaO⟩) := by
 refine yY (fn := Tryz.f61) [] 3000 (by kernel_rfl) (by kernel_rfl) okY1p (by kernel_rfl) (fun args w => by kernel_rfl) fun xs bs r hs ho => ?_
 replace hs : (gPaO xs bs).sel = some r := hs
 unfold gPaO at hs
 split at hs
 ·obtain ⟨q,hs⟩ := eU hs
  cases hs
  simp only [Bool.and_eq_true,Nat.ble_eq] at q
  refine ⟨_,bPar _ _ _ _ (by omega) (by unfold P6; omega) (fun y hy => ?_)⟩
  obtain rfl : y = 0 := by omega
  unfold ckB
  rw [Nat.zero_mul,List.drop_zero,List.take_of_length_le q.2]
 ·cases hs
noncomputable def gSuC (xs : List AV) (bs : List ABlk) : TL := match xs,bs with
 | [.rb false l .unk],[] => ckT (Nat.blt l.length 4611686018427387904) (.ok ⟨[],aggB 32 (zL l),[],[]⟩)
 | _,_ => .no
theorem kSu : COK Tryz.prog gl0 138 (mkF { X9 with G := gSuC }) := c13.chk fun xs bs r hs _ => by
 unfold gSuC at hs
 split at hs
 ·obtain ⟨o,h⟩ := eU hs
  cases h
  exact ⟨_,rfl,zA.2 (Nat.blt_eq ▸ o),rfl,rfl,rfl⟩
 ·cases hs
noncomputable def gMaC (xs : List AV) (bs : List ABlk) : TL := match xs,bs with
 | [.rb false key .unk,.rb false b .unk],[] => ckT (Nat.blt key.length 4611686018427387904 && Nat.blt b.length 4611686018427387904) (.ok ⟨[],aggB 32 (kD key b),[],[]⟩)
 | _,_ => .no
theorem kMa : COK Tryz.prog gl0 142 (mkF { g0k with G := gMaC }) := c15.chk fun xs bs r hs _ => by
 unfold gMaC at hs
 split at hs
 ·obtain ⟨o,h⟩ := eU hs
  cases h
  simp only [Bool.and_eq_true,Nat.blt_eq] at o
  exact ⟨_,rfl,zA.2 ⟨o.1,o.2⟩,rfl,rfl,rfl⟩
 ·cases hs
noncomputable def gSeC (xs : List AV) (bs : List ABlk) : TL := match xs,bs with
 | [.agg cs,.u64 q,.int .i64 t,.rb false b .unk,.int .i64 (.ofNat 0)],[] => ckT (decide (20<=t) && decide (t<=23) && Nat.ble b.length 256) (asK cs fun k iv => .ok ⟨[],.tup [.slice 0 0 1 (b.length + 22) .ow .unk,.int .i64 0],[],[⟨.bytes (hdL (b.length + 17)++rg (b.length + 17) (wY (rg 32 k) (rg 12 iv) q t b)),true,1⟩]⟩)
 | _,_ => .no
theorem v1z {cs : List AV} {g g' : F8->F8->TL} {r : RL} (h : (asK cs g).sel = some r) (hg : ∀ k iv,(g k iv).sel = some r->∃ q,(g' k iv).sel = some q/\zP q.ob/\q.v = r.v/\q.io = r.io/\q.nw = r.nw) : ∃ q,(asK cs g').sel = some q/\zP q.ob/\q.v = r.v/\q.io = r.io/\q.nw = r.nw := by
 unfold asK at h ⊢
 split at h
 ·split at h
  ·exact hg _ _ h
  ·cases h
 ·cases h
theorem kSe : COK Tryz.prog gl0 89 (mkF ⟨[.kp,.kp,.kp,.by0,.kp],fun _ _ => [],fun _ _ => [],gSeC⟩) := cSeal.chk fun xs bs r hs _ => by
 unfold gSeC at hs
 split at hs
 ·rename_i cs qq t b
  obtain ⟨o,h⟩ := eU hs
  simp only [Bool.and_eq_true,decide_eq_true_eq,Nat.ble_eq] at o
  refine v1z (g' := fun k iv => .ok ⟨[20<=t/\t<=23/\b.length<=256],.tup [.slice 0 0 1 (b.length + 22) .ow .unk,.int .i64 0],[],[⟨.bytes (hdL (b.length + 17)++rg (b.length + 17) (wY (rg 32 k) (rg 12 iv) qq t b)),true,1⟩]⟩) h fun k iv hk => ?_
  cases hk
  exact ⟨_,rfl,zA.2 ⟨o.1.1,o.1.2,o.2⟩,rfl,rfl,rfl⟩
 ·cases hs
noncomputable def Y2 : Ctx := (((((((exeS Tryz.prog gl0 3000 [(122,Tryz.f122),(125,Tryz.f125),(148,Tryz.f148),(126,Tryz.f126),(210,Tryz.f210),(209,Tryz.f209),(132,Tryz.f132)] N8).add 61 (mkF ⟨[.kp],fun _ _ => [],fun _ _ => [],gPaO⟩)).add 138 (mkF { X9 with G := gSuC })).add 142 (mkF { g0k with G := gMaC })).add 89 (mkF ⟨[.kp,.kp,.kp,.by0,.kp],fun _ _ => [],fun _ _ => [],gSeC⟩)).add 143 (mkF ⟨[.by0,.by0],fun _ _ => [],fun _ _ => [],a0z⟩)).add 275 (mkF ⟨[],fun _ _ => [],fun _ _ => [],gHr⟩))
theorem okY2 : COKs Tryz.prog gl0 Y2 := ((((((okN8.exeS 3000 (by kernel_rfl) _ (by kernel_rfl) (by kernel_rfl)).add cPaO).add kSu).add kMa).add kSe).add cSame).add cHr
end Go.Sym
namespace Go.Spec
open Go.Sym
noncomputable def aA (l : By) : F8 := drK (uM l)
noncomputable def aB (l : By) : F8 := drI (uM l)
end Go.Spec
namespace Go.Sym
open Go.Proofs Go.Spec
noncomputable def skDe (xs : List AV) (bs : List ABlk) : TL := match xs,bs with
 | [.agg cs],[] => asL 32 cs fun l => .ok ⟨[],.agg (yD 32 (aA l)++yD 12 (aB l)),[],[]⟩
 | _,_ => .no
theorem skcDe : COK Tryz.prog gl0 90 (mkF ⟨[.kp],fun _ _ => [],fun _ _ => [],skDe⟩) := by
 refine yY (fn := Tryz.f90) [] 3000 (by kernel_rfl) (by kernel_rfl) okL28 (by kernel_rfl) (fun args w => by kernel_rfl) fun xs bs r hs ho => ?_
 simp only [skDe] at hs
 split at hs
 ·rename_i cs
  unfold asL at hs
  split at hs
  ·rename_i l hl
   split at hs
   ·rename_i hn
    cases hs
    rw [C7 hl (by simpa using hn)]
    exact ⟨_,bDe (uM l)⟩
   ·cases hs
  ·cases hs
 ·cases hs
theorem v1v {cs : List AV} {g : By->TL} {r : RL} (h : (asL 44 cs g).sel = some r) (g' : F8->F8->TL) (hg : ∀ f : F8,(g (rg 44 f)).sel = some r->∃ q,(g' f fun i => f (32 + i)).sel = some q/\zP q.ob/\q.v = r.v/\q.io = r.io/\q.nw = r.nw) : ∃ q,(asK cs g').sel = some q/\zP q.ob/\q.v = r.v/\q.io = r.io/\q.nw = r.nw := by
 unfold asL at h
 unfold asK
 split at h
 ·rename_i l hl
  split at h
  ·rename_i hn
   have hn : l.length = 44 := by simpa using hn
   rw [hl]
   dsimp only
   rw [show (l.length == 44) = true from by simp [hn]]
   refine hg (uM l) ?_
   rw [show rg 44 (uM l) = l from nR 0 hn]
   exact h
  ·cases h
 ·cases h
noncomputable def skSe (xs : List AV) (bs : List ABlk) : TL := match xs,bs with
 | [.agg cs,.u64 q,.int .i64 t,.rb false b .unk,.int .i64 (.ofNat 0)],[] => tT (decide (20<=t) && decide (t<=23) && Nat.ble (wO b) 256) (asL 44 cs fun l => yF (l.take 32) fun k => yF (l.drop 32) fun iv => yF b fun b' => yQ (wO b + 17) fun n => yQ (n + 5) fun m => jL (hdL n) fun hd => .ok ⟨[],.tup [.slice 0 0 1 m .ow .unk,.int .i64 0],[],[⟨.bytes (hd++rg n (wY k iv q t b')),true,1⟩]⟩)
 | _,_ => .no
theorem m0x (f : F8) : (rg 44 f).take 32 = rg 32 f := rfl
theorem h0x (f : F8) : (rg 44 f).drop 32 = rg 12 fun i => f (32 + i) := by kernel_rfl
theorem skcSe : COK Tryz.prog gl0 89 (mkF ⟨[.kp,.kp,.kp,.by0,.kp],fun _ _ => [],fun _ _ => [],skSe⟩) := cSeal.chk fun xs bs r hs _ => by
 unfold skSe at hs
 split at hs
 ·rename_i cs qq t b
  obtain ⟨o,h⟩ := jZ hs
  simp only [Bool.and_eq_true,decide_eq_true_eq,Nat.ble_eq,uX] at o
  refine v1v h (fun k iv => .ok ⟨[20<=t/\t<=23/\b.length<=256],.tup [.slice 0 0 1 (b.length + 22) .ow .unk,.int .i64 0],[],[⟨.bytes (hdL (b.length + 17)++rg (b.length + 17) (wY (rg 32 k) (rg 12 iv) qq t b)),true,1⟩]⟩) fun f hk => ?_
  simp only [yI,yH,gO,uX,m0x,h0x] at hk
  cases hk
  exact ⟨_,rfl,zA.2 ⟨o.1.1,o.1.2,o.2⟩,rfl,rfl,rfl⟩
 ·cases hs
noncomputable def skOp (x : By) (t : Int) (xs : List AV) (bs : List ABlk) : TL := match xs,bs with
 | [.agg cs,.u64 q,.rb false b .unk],[] => tT (decide (20<=t) && decide (t<=23) && Nat.ble (wO x) 256) (asL 44 cs fun l => yF (l.take 32) fun k => yF (l.drop 32) fun iv => yF x fun x' => yQ (wO x) fun n => yQ (n + 17) fun m => yF (x'++[BitVec.ofInt 8 t]) fun y => .ok ⟨[b = rg m (wY k iv q t x')],.tup [.int .i64 t,.slice 0 0 1 n (.kn n) .unk,.int .i64 0],[],[⟨.bytes y,true,1⟩]⟩)
 | _,_ => .no
theorem u1v (x : By) (t : Int) : COK Tryz.prog gl0 100 (mkF ⟨[.kp,.kp,.by0],fun _ _ => [],fun _ _ => [],skOp x t⟩) := (cOpen x t).chk fun xs bs r hs ho => by
 unfold skOp at hs
 split at hs
 ·rename_i cs qq b
  obtain ⟨o,h⟩ := jZ hs
  simp only [Bool.and_eq_true,decide_eq_true_eq,Nat.ble_eq,uX] at o
  refine v1v h (fun k iv => .ok ⟨[b = rg (x.length + 17) (wY (rg 32 k) (rg 12 iv) qq t x)/\20<=t/\t<=23/\x.length<=256],.tup [.int .i64 t,.slice 0 0 1 x.length (.kn x.length) .unk,.int .i64 0],[],[⟨.bytes (x++[BitVec.ofInt 8 t]),true,1⟩]⟩) fun f hk => ?_
  simp only [yI,yH,uX,m0x,h0x] at hk
  cases hk
  exact ⟨_,rfl,zA.2 ⟨zA.1 ho,o.1.1,o.1.2,o.2⟩,rfl,rfl,rfl⟩
 ·cases hs
theorem k1v : COK Tryz.prog gl0 70 (mkF { uN clA with G := sQ }) := by rw [i9]; exact kClo
noncomputable def Y2s : Ctx := ((Y2.add 90 (mkF ⟨[.kp],fun _ _ => [],fun _ _ => [],skDe⟩)).add 89 (mkF ⟨[.kp,.kp,.kp,.by0,.kp],fun _ _ => [],fun _ _ => [],skSe⟩)).add 138 (mkF X9)
theorem okY2s : COKs Tryz.prog gl0 Y2s := ((okY2.add skcDe).add skcSe).add c13
noncomputable def Y3_1 : Ctx := exeS Tryz.prog gl0 3000 [(69,Tryz.f69),(87,Tryz.f87),(86,Tryz.f86)] Y2s
theorem okY3_1 : COKs Tryz.prog gl0 Y3_1 := okY2s.exeS 3000 (by kernel_rfl) _ (by kernel_rfl) (by kernel_rfl)
noncomputable def Y3_2 : Ctx := Y3_1.exeK Tryz.prog gl0 3000 [.kp,.by0] 104 Tryz.f104
theorem okY3_2 : COKs Tryz.prog gl0 Y3_2 := okY3_1.exeK 3000 _ (by kernel_rfl) (by kernel_rfl) (by kernel_rfl) (by kernel_rfl)
noncomputable def Y3_3 : Ctx := exeS Tryz.prog gl0 3000 [(91,Tryz.f91)] Y3_2
theorem okY3_3 : COKs Tryz.prog gl0 Y3_3 := okY3_2.exeS 3000 (by kernel_rfl) _ (by kernel_rfl) (by kernel_rfl)
noncomputable def Y3_4 : Ctx := Y3_3.exeK Tryz.prog gl0 3000 [.kp,.by0] 63 Tryz.f63
theorem okY3_4 : COKs Tryz.prog gl0 Y3_4 := okY3_3.exeK 3000 _ (by kernel_rfl) (by kernel_rfl) (by kernel_rfl) (by kernel_rfl)
noncomputable def Y3_5 : Ctx := exeS Tryz.prog gl0 3000 [(64,Tryz.f64),(65,Tryz.f65),(62,Tryz.f62),(35,Tryz.f35),(77,Tryz.f77),(33,Tryz.f33),(105,Tryz.f105),(241,Tryz.f241),(243,Tryz.f243),(242,Tryz.f242),(285,Tryz.f285),(284,Tryz.f284),(287,Tryz.f287),(286,Tryz.f286),(289,Tryz.f289),(288,Tryz.f288),(246,Tryz.f246),(245,Tryz.f245),(244,Tryz.f244),(191,Tryz.f191)] Y3_4
theorem okY3_5 : COKs Tryz.prog gl0 Y3_5 := okY3_4.exeS 3000 (by kernel_rfl) _ (by kernel_rfl) (by kernel_rfl)
noncomputable def Y3_6 : Ctx := Y3_5.exeK Tryz.prog gl0 3000 [.by0] 157 Tryz.f157
theorem u2z : COKs Tryz.prog gl0 Y3_6 := okY3_5.exeK 3000 _ (by kernel_rfl) (by kernel_rfl) (by kernel_rfl) (by kernel_rfl)
noncomputable def Y3 : Ctx := Y3_6
theorem okY3 : COKs Tryz.prog gl0 Y3 := u2z
end Go.Sym
