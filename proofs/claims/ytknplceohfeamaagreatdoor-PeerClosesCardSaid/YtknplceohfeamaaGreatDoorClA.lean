/- All numbers are reserved; secrets that follow. -/
import Derived.Test.YtknplceohfeamaaGreatDoorSteps
import Derived.Test.YtknplceohfeamaaGreatDoorKeyB
set_option linter.unusedVariables false
set_option linter.unusedSimpArgs false
namespace Go.Sym
open Go.Proofs Go.Spec
inductive Iu : Type 1 where
 | e {α : Type} (a : α)
 | z (n : Nat)
 | n (k : Nat)
 | r {α : Type} (F : Nat->α) (k n : Nat)
 | d (p : Prop) (i : Decidable p)
 | p {P : Prop} (h : P)
def zqQ (q : Prop) : Nat->Prop
 | 0 => q
 | n + 1 => 0 = 0/\zqQ q n
def okU : List Iu->Prop
 | [] => True
 | .e a::l => a = a/\okU l
 | .z n::l => zqQ (okU l) n
 | .n k::l => k = k/\okU l
 | .r F k n::l => zG (fun i => F i = F i) k n (okU l)
 | .d p _::l => p/\okU l
 | .p (P := P) _::l => P/\okU l
def ckU : List Iu->Bool
 | [] => true
 | .d p i::l => @decide p i && ckU l
 | _::l => ckU l
theorem J3 {q : Prop} (h : q) : ∀ n,zqQ q n
 | 0 => h
 | n + 1 => ⟨rfl,J3 h n⟩
theorem eJ : ∀ (l : List Iu),ckU l = true->okU l
 | [],_ => trivial
 | .e _::l,h => ⟨rfl,eJ l h⟩
 | .z n::l,h => J3 (eJ l h) n
 | .n k::l,h => ⟨rfl,eJ l h⟩
 | .r _ _ _::l,h => zS (fun _ _ _ => rfl) (eJ l h)
 | .d p i::l,h => by
  simp only [ckU,Bool.and_eq_true] at h
  exact ⟨@of_decide_eq_true p i h.1,eJ l h.2⟩
 | .p h::l,k => ⟨h,eJ l k⟩
abbrev Iu.c (p : Prop) [i : Decidable p] : Iu := .d p i
theorem J4 {P : Prop} (l : List Iu) (h : ckU l = true) (e : okU l = P) : P := e ▸ eJ l h
def r64 : Nat->List AV := fun _ => [.int .i64 64]
def lsAl : LS := ⟨Nat,fun k => [(1,.slice 100 0 1 k .ow .unk),(2,.int .i64 k)],fun k => [(100,⟨.rows 1 k r64,true,1⟩)],1000,fun k => 60 - k,fun k => k<=60,fun _ => []⟩
noncomputable def Vr1 : Ctx := N8.withSym [15,16]
theorem n0f : COKs Tryz.prog gl0 Vr1 := okN8.withSym _
set_option maxHeartbeats 0
set_option maxRecDepth 100000 in
theorem vAl2 (g : Nat->List AV) : bg N8 [] [(4,lsAl)] Tryz.f12 0 [] [] ⟨[],.slice 0 0 1 60 .ow .unk,[],[⟨.rows 1 60 g,true,1⟩]⟩ = (
(∃ (x : Nat),x.le 60/\x = 0/\(↑x : Int) = (0 : Int)/\x = 0/\True)/\∀ (x : Nat),x.le 60->@Bool.rec (fun _ => Prop) ((∀ (y : Nat),y < 60->gD Bool.true (g y) = Bool.true)/\0 = 0/\0 = 0/\0 = 0/\60 = x/\60 = x/\(∀ (y : Nat),y < 60->zT Bool.false (g y) = Bool.true/\[AV.int IntKind.i64 (64 : Int)] = g y)/\True) (x = x/\zD x 1 8/\∃ (y : Nat),60 - y < 60 - x/\y.le 60/\0 = 0/\0 = 0/\0 = 0/\y = x + 1/\(↑y : Int) = IntKind.i64.wrap ((↑x : Int) + (1 : Int))/\y = x + 1/\(∀ (y_1 : Nat),y_1 < y->zT Bool.false [AV.int IntKind.i64 (64 : Int)] = Bool.true/\lB (fun (x : Nat) => [AV.int IntKind.i64 (64 : Int)]) x (cut 1 (List.take 1 (List.drop 0 [AV.int IntKind.i64 (64 : Int)]))) y_1 = [AV.int IntKind.i64 (64 : Int)])/\True) (decide ((↑x : Int) < (60 : Int))) : Prop) := by kernel_rfl
set_option maxRecDepth 100000 in
theorem vRs (e v : Int) (u : NL) : bq Vr1 Tryz.f87 0 [.ros false 1 60 r64 u,.int .i64 e] [] ⟨[],.int .i64 v,[],[]⟩ = (
@Bool.rec (fun _ => Prop) (v = (0 : Int)/\True) (@Bool.rec (fun _ => Prop) ((0 : Int)<=e/\e.toNat < 60/\v = Int.ofNat 64/\True) (v = (0 : Int)/\True) (decide (Int.ofNat 60<=e))) !decide (e < (0 : Int)) : Prop) := by kernel_rfl
theorem bAl2 : Must (bg N8 [] [(4,lsAl)] Tryz.f12 0 [] [] ⟨[],.slice 0 0 1 60 .ow .unk,[],[⟨.rows 1 60 r64,true,1⟩]⟩) := by
 constructor
 rw [vAl2]
 refine ⟨⟨0,Nat.zero_le _,rfl,rfl,rfl,trivial⟩,fun x hx => ?_⟩
 have hx : x<=60 := hx
 refine yE (fun c => ?_) (fun c => ?_)
 ·have c := of_decide_eq_true c
  refine ⟨rfl,by unfold zD; omega,x + 1,by omega,show x + 1<=60 by omega,rfl,rfl,rfl,rfl,(zU _ rfl (by omega)).symm,rfl,fun y _ => ⟨rfl,?_⟩,trivial⟩
  unfold lB
  split
  ·rfl
  ·have : y = x := by omega
   subst this
   rw [Nat.sub_self]
   rfl
 ·have c := of_decide_eq_false c
  have e : 60 = x := by omega
  exact ⟨fun _ _ => rfl,rfl,rfl,rfl,e,e,fun _ _ => ⟨rfl,rfl⟩,trivial⟩
def n0d (xs : List AV) (bs : List ABlk) : TL := match xs,bs with
 | [],[] => .ok ⟨[],.slice 0 0 1 60 .ow .unk,[],[⟨.rows 1 60 r64,true,1⟩]⟩
 | _,_ => .no
theorem cAl2 : COK Tryz.prog gl0 12 (mkF ⟨[],fun _ _ => [],fun _ _ => [],n0d⟩) := by
 refine yY (fn := Tryz.f12) [] 3000 (by kernel_rfl) (by kernel_rfl) okN8 (by kernel_rfl) (fun args w => by kernel_rfl) fun xs bs r hs ho => ?_
 simp only [n0d] at hs
 split at hs
 ·cases hs; exact ⟨_,bAl2⟩
 ·cases hs
theorem bRs (e : Int) (u : NL) (h1 : 0<=e) (h2 : e < 60) : Must (bq Vr1 Tryz.f87 0 [.ros false 1 60 r64 u,.int .i64 e] [] ⟨[],.int .i64 64,[],[]⟩) := by
 constructor
 rw [vRs]
 exact yE (fun _ => yE (fun d => absurd (show (60 : Int)<=e from of_decide_eq_true d) (by omega)) (fun _ => ⟨h1,by omega,rfl,trivial⟩)) (fun c => absurd (show e < 0 by simpa using c) (by omega))
def gRs (xs : List AV) (bs : List ABlk) : TL := match xs,bs with
 | [.ros false 1 60 g _,.int .i64 e],[] => .ok ⟨[g = r64,0<=e,e < 60],.int .i64 64,[],[]⟩
 | _,_ => .no
theorem cRs : COK Tryz.prog gl0 87 (mkF ⟨[.r 1,.kp],fun _ _ => [],fun _ _ => [],gRs⟩) := by
 refine yY (fn := Tryz.f87) [] 3000 (by kernel_rfl) (by kernel_rfl) n0f (by kernel_rfl) (fun args w => by kernel_rfl) fun xs bs r hs ho => ?_
 replace hs : (gRs xs bs).sel = some r := hs
 unfold gRs at hs
 split at hs
 ·rename_i g u e
  cases hs
  obtain ⟨h0,h1⟩ := zJ.1 ho
  obtain ⟨h1,h2⟩ := zJ.1 h1
  rw [h0]
  exact ⟨_,bRs e u h1 (zA.1 h2)⟩
 ·cases hs
end Go.Sym
namespace Go.Spec
open Go.Sym
end Go.Spec
namespace Go.Sym
open Go.Proofs Go.Spec
end Go.Sym
namespace Go.Spec
open Go.Sym
end Go.Spec
namespace Go.Sym
open Go.Proofs Go.Spec
def svT (ph : Int) (lg : By) (c : List AV) (i o ie oe : Int) (sl : Bool) (us : By) : AV := .agg ([.int .i64 ph,.rb false lg .unk]++c++[.int .i64 i,.int .i64 o,.int .i64 ie,.int .i64 oe,.bool sl,.rb false [] .unk,.rb false us .unk,.int .i64 (-1)])
def kSw : List Kd := [.kp,.by0]++List.replicate 229 .kp++[.by0,.by0,.kp]
end Go.Sym
