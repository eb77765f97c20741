/- A key update: the next secret, what is opened, what is reserved. -/
import Derived.Test.YtknplceohfeamaaGreatDoorSteps
import Derived.Test.YtknplceohfeamaaGreatDoorKeyB
set_option linter.unusedVariables false
set_option linter.unusedSimpArgs false
namespace Go.Sym
open Go.Proofs Go.Spec
inductive Iu : Type 1 where
 | e {α : Type} (a : α)
 | z (n : Nat)
 | n (k : Nat)
 | r {α : Type} (F : Nat→α) (k n : Nat)
 | d (p : Prop) (i : Decidable p)
 | p {P : Prop} (h : P)
def zqQ (q : Prop) : Nat→Prop
 | 0 => q
 | n + 1 => 0 = 0∧zqQ q n
def okU : List Iu→Prop
 | [] => True
 | .e a::l => a = a∧okU l
 | .z n::l => zqQ (okU l) n
 | .n k::l => k = k∧okU l
 | .r F k n::l => zG (fun i => F i = F i) k n (okU l)
 | .d p _::l => p∧okU l
 | .p (P := P) _::l => P∧okU l
def ckU : List Iu→Bool
 | [] => true
 | .d p i::l => @decide p i && ckU l
 | _::l => ckU l
theorem J3 {q : Prop} (h : q) : ∀ n,zqQ q n
 | 0 => h
 | n + 1 => ⟨rfl,J3 h n⟩
theorem eJ : ∀ (l : List Iu),ckU l = true→okU l
 | [],_ => trivial
 | .e _::l,h => ⟨rfl,eJ l h⟩
 | .z n::l,h => J3 (eJ l h) n
 | .n k::l,h => ⟨rfl,eJ l h⟩
 | .r _ _ _::l,h => zS (fun _ _ _ => rfl) (eJ l h)
 | .d p i::l,h => by
  simp only [ckU,Bool.and_eq_true] at h
  exact ⟨@of_decide_eq_true p i h.1,eJ l h.2⟩
 | .p h::l,k => ⟨h,eJ l k⟩
abbrev Iu.c (p : Prop) [i : Decidable p] : Iu := .d p i
theorem J4 {P : Prop} (l : List Iu) (h : ckU l = true) (e : okU l = P) : P := e ▸ eJ l h
def r64 : Nat→List AV := fun _ => [.int .i64 64]
def lsAl : LS := ⟨Nat,fun k => [(1,.slice 100 0 1 k .ow .unk),(2,.int .i64 k)],fun k => [(100,⟨.rows 1 k r64,true,1⟩)],1000,fun k => 60 - k,fun k => k≤60,fun _ => []⟩
noncomputable def Vr1 : Ctx := N8.withSym [15,16]
theorem okVr1 : COKs Tryz.prog gl0 Vr1 := okN8.withSym _
set_option maxHeartbeats 0
set_option maxRecDepth 100000 in
theorem vAl2 (g : Nat→List AV) : bg N8 [] [(4,lsAl)] Tryz.f12 0 [] [] ⟨[],.slice 0 0 1 60 .ow .unk,[],[⟨.rows 1 60 g,true,1⟩]⟩ = (
(∃ (x : Nat),x.le 60∧x = 0∧(↑x : Int) = (0 : Int)∧x = 0∧True)∧∀ (x : Nat),x.le 60→@Bool.rec (fun _ => Prop) ((∀ (y : Nat),y < 60→gD Bool.true (g y) = Bool.true)∧0 = 0∧0 = 0∧0 = 0∧60 = x∧60 = x∧(∀ (y : Nat),y < 60→zT Bool.false (g y) = Bool.true∧[AV.int IntKind.i64 (64 : Int)] = g y)∧True) (x = x∧zD x 1 8∧∃ (y : Nat),60 - y < 60 - x∧y.le 60∧0 = 0∧0 = 0∧0 = 0∧y = x + 1∧(↑y : Int) = IntKind.i64.wrap ((↑x : Int) + (1 : Int))∧y = x + 1∧(∀ (y_1 : Nat),y_1 < y→zT Bool.false [AV.int IntKind.i64 (64 : Int)] = Bool.true∧lB (fun (x : Nat) => [AV.int IntKind.i64 (64 : Int)]) x (cut 1 (List.take 1 (List.drop 0 [AV.int IntKind.i64 (64 : Int)]))) y_1 = [AV.int IntKind.i64 (64 : Int)])∧True) (decide ((↑x : Int) < (60 : Int))) : Prop) := by kernel_rfl
set_option maxRecDepth 100000 in
theorem vRs (e v : Int) (u : NL) : bq Vr1 Tryz.f87 0 [.ros false 1 60 r64 u,.int .i64 e] [] ⟨[],.int .i64 v,[],[]⟩ = (
@Bool.rec (fun _ => Prop) (v = (0 : Int)∧True) (@Bool.rec (fun _ => Prop) ((0 : Int)≤e∧e.toNat < 60∧v = Int.ofNat 64∧True) (v = (0 : Int)∧True) (decide (Int.ofNat 60≤e))) !decide (e < (0 : Int)) : Prop) := by kernel_rfl
theorem bAl2 : Must (bg N8 [] [(4,lsAl)] Tryz.f12 0 [] [] ⟨[],.slice 0 0 1 60 .ow .unk,[],[⟨.rows 1 60 r64,true,1⟩]⟩) := by
 constructor
 rw [vAl2]
 refine ⟨⟨0,Nat.zero_le _,rfl,rfl,rfl,trivial⟩,fun x hx => ?_⟩
 have hx : x≤60 := hx
 refine yE (fun c => ?_) (fun c => ?_)
 ·have c := of_decide_eq_true c
  refine ⟨rfl,by unfold zD; omega,x + 1,by omega,show x + 1≤60 by omega,rfl,rfl,rfl,rfl,(zU _ rfl (by omega)).symm,rfl,fun y _ => ⟨rfl,?_⟩,trivial⟩
  unfold lB
  split
  ·rfl
  ·have : y = x := by omega
   subst this
   rw [Nat.sub_self]
   rfl
 ·have c := of_decide_eq_false c
  have e : 60 = x := by omega
  exact ⟨fun _ _ => rfl,rfl,rfl,rfl,e,e,fun _ _ => ⟨rfl,rfl⟩,trivial⟩
def gAl2 (xs : List AV) (bs : List ABlk) : TL := match xs,bs with
 | [],[] => .ok ⟨[],.slice 0 0 1 60 .ow .unk,[],[⟨.rows 1 60 r64,true,1⟩]⟩
 | _,_ => .no
theorem cAl2 : COK Tryz.prog gl0 12 (mkF ⟨[],fun _ _ => [],fun _ _ => [],gAl2⟩) := by
 refine yY (fn := Tryz.f12) [] 3000 (by kernel_rfl) (by kernel_rfl) okN8 (by kernel_rfl) (fun args w => by kernel_rfl) fun xs bs r hs ho => ?_
 simp only [gAl2] at hs
 split at hs
 ·cases hs; exact ⟨_,bAl2⟩
 ·cases hs
theorem bRs (e : Int) (u : NL) (h1 : 0≤e) (h2 : e < 60) : Must (bq Vr1 Tryz.f87 0 [.ros false 1 60 r64 u,.int .i64 e] [] ⟨[],.int .i64 64,[],[]⟩) := by
 constructor
 rw [vRs]
 exact yE (fun _ => yE (fun d => absurd (show (60 : Int)≤e from of_decide_eq_true d) (by omega)) (fun _ => ⟨h1,by omega,rfl,trivial⟩)) (fun c => absurd (show e < 0 by simpa using c) (by omega))
def gRs (xs : List AV) (bs : List ABlk) : TL := match xs,bs with
 | [.ros false 1 60 g _,.int .i64 e],[] => .ok ⟨[g = r64,0≤e,e < 60],.int .i64 64,[],[]⟩
 | _,_ => .no
theorem cRs : COK Tryz.prog gl0 87 (mkF ⟨[.r 1,.kp],fun _ _ => [],fun _ _ => [],gRs⟩) := by
 refine yY (fn := Tryz.f87) [] 3000 (by kernel_rfl) (by kernel_rfl) okVr1 (by kernel_rfl) (fun args w => by kernel_rfl) fun xs bs r hs ho => ?_
 replace hs : (gRs xs bs).sel = some r := hs
 unfold gRs at hs
 split at hs
 ·rename_i g u e
  cases hs
  obtain ⟨h0,h1⟩ := zJ.1 ho
  obtain ⟨h1,h2⟩ := zJ.1 h1
  rw [h0]
  exact ⟨_,bRs e u h1 (zA.1 h2)⟩
 ·cases hs
set_option maxRecDepth 100000 in
theorem vNx (s k : F8) : bq (Y8 (fun _ => 0) [] 22) Tryz.f65 0 [aggB 32 s] [] ⟨[],aggB 32 k,[],[]⟩ = (
let x1 := rg 32 (kD (rg 32 s) (List.take 0 (List.replicate 22 (0 : BitVec 8))++[]++([BitVec.ofNat 8 0,BitVec.ofNat 8 32,BitVec.ofNat 8 17]++[BitVec.ofNat 8 116,BitVec.ofNat 8 108,BitVec.ofNat 8 115,BitVec.ofNat 8 49,BitVec.ofNat 8 51,BitVec.ofNat 8 32]++[BitVec.ofNat 8 116,BitVec.ofNat 8 114,BitVec.ofNat 8 97,BitVec.ofNat 8 102,BitVec.ofNat 8 102,BitVec.ofNat 8 105,BitVec.ofNat 8 99,BitVec.ofNat 8 32,BitVec.ofNat 8 117,BitVec.ofNat 8 112,BitVec.ofNat 8 100]++[BitVec.ofNat 8 0]++[])++[BitVec.ofNat 8 1])); 3 = 3∧zD 3 6 1∧9 = 9∧zD 9 11 1∧1 = 1∧20 = 20∧zD 20 1 1∧21 = 21∧zD 21 0 1∧(0 : Int)≤(0 : Int)∧0 < 3∧(0 : Int)≤Int.ofNat 1∧1 < 3∧(0 : Int)≤Int.ofNat 2∧2 < 3∧((0 : Int) < Int.ofNat 22∧Int.ofNat 22 < (1099511627776 : Int))∧(0 : Int)≤(0 : Int)∧0 < 3∧0≤22∧0 = 0∧zD 0 0 1∧(0 : Int)≤Int.ofNat 1∧1 < 3∧21 = 21∧0 = 0∧zD 0 21 1∧(0 : Int)≤Int.ofNat 2∧2 < 3∧1 = 1∧21 = 21∧zD 21 1 1∧22 = 22∧((rg 32 s).length < 4611686018427387904∧22 < 4611686018427387904)∧zD 0 x1.length 1∧(0 : Int)≤(32 : Int)∧(0 : Int)≤(32 : Int)∧32≤32∧32≤x1.length∧32≤x1.length∧zG (fun (i : Nat) => k i = if i < (List.take 32 x1).length then (List.take 32 x1).getD i (0 : BitVec 8) else BitVec.ofNat 8 0) 0 32 True : Prop) := by kernel_rfl
end Go.Sym
namespace Go.Spec
open Go.Sym
noncomputable def nxF (l : By) : F8 := kD l [0,32,17,116,108,115,49,51,32,116,114,97,102,102,105,99,32,117,112,100,0,1]
def upM (a : Bool) : By := [24#8,0#8,0#8,1#8,(match a with | true => 1#8 | false => 0#8)]
end Go.Spec
namespace Go.Sym
open Go.Proofs Go.Spec
theorem x1k {n i : Nat} (f : F8) (h : i < n) : (List.take n (rg n f)).getD i (0 : BitVec 8) = f i := by
 rw [List.take_of_length_le (by rw [wM]; omega),gP _ _ _ _ h]
theorem bNx (s : F8) : Must (bq (Y8 (fun _ => 0) [] 22) Tryz.f65 0 [aggB 32 s] [] ⟨[],aggB 32 (nxF (rg 32 s)),[],[]⟩) := by
 constructor
 rw [vNx]
 dsimp only
 simp only [wM,zD]
 repeat refine And.intro (by first | rfl | omega | decide) ?_
 refine zS (fun i _ h => ?_) trivial
 have h : i < 32 := by omega
 rw [if_pos (by rw [List.length_take,wM]; omega),x1k _ h]
 rfl
noncomputable def gNx (xs : List AV) (bs : List ABlk) : TL := match xs,bs with
 | [.agg cs],[] => asL 32 cs fun l => .ok ⟨[],aggB 32 (nxF l),[],[]⟩
 | _,_ => .no
theorem cNx : COK Tryz.prog gl0 65 (mkF ⟨[.kp],fun _ _ => [],fun _ _ => [],gNx⟩) := by
 refine yY (fn := Tryz.f65) [] 3000 (by kernel_rfl) (by kernel_rfl) (e0k (fun _ => 0) [] 22) (by kernel_rfl) (fun args w => by kernel_rfl) fun xs bs r hs ho => ?_
 simp only [gNx] at hs
 split at hs
 ·obtain ⟨f,e,hs⟩ := vO hs
  cases hs
  rw [e]
  exact ⟨_,bNx f⟩
 ·cases hs
end Go.Sym
namespace Go.Spec
open Go.Sym
noncomputable def upB (k : F8) (t : Bool) : F8 := wY (rg 32 (aA (rg 32 k))) (rg 12 (aB (rg 32 k))) 0#64 22 (upM t)
noncomputable def upR (k : F8) (t : Bool) : By := [23#8,3#8,3#8,0#8,22#8]++rg 22 (upB k t)
noncomputable def zZ (k : F8) : F8 := nxF (rg 32 k)
end Go.Spec
namespace Go.Sym
open Go.Proofs Go.Spec
noncomputable def Wu0 (t : Bool) : Ctx := ((((Y8 (fun _ => 0) [] 22).add 12 (mkF ⟨[],fun _ _ => [],fun _ _ => [],gAl2⟩)).add 87 (mkF ⟨[.r 1,.kp],fun _ _ => [],fun _ _ => [],gRs⟩)).add 65 (mkF ⟨[.kp],fun _ _ => [],fun _ _ => [],gNx⟩)).add 100 (mkF ⟨[.kp,.kp,.by0],fun _ _ => [],fun _ _ => [],skOp (upM t) 22⟩)
theorem okWu0 (t : Bool) : COKs Tryz.prog gl0 (Wu0 t) := ((((e0k _ _ _).add cAl2).add cRs).add cNx).add (u1v _ _)
noncomputable def Wu1 (t : Bool) : Ctx := exeS Tryz.prog gl0 3000 [(86,Tryz.f86),(62,Tryz.f62),(35,Tryz.f35),(79,Tryz.f79),(131,Tryz.f131),(106,Tryz.f106),(83,Tryz.f83),(53,Tryz.f53),(52,Tryz.f52),(34,Tryz.f34),(31,Tryz.f31),(13,Tryz.f13),(23,Tryz.f23),(73,Tryz.f73),(150,Tryz.f150),(127,Tryz.f127),(103,Tryz.f103),(76,Tryz.f76),(45,Tryz.f45),(48,Tryz.f48),(47,Tryz.f47)] (Wu0 t)
theorem cB (t : Bool) : COKs Tryz.prog gl0 (Wu1 t) := (okWu0 t).exeS 3000 (by kernel_rfl) _ (by kernel_rfl) (by kernel_rfl)
def svT (ph : Int) (lg : By) (c : List AV) (i o ie oe : Int) (sl : Bool) (us : By) : AV := .agg ([.int .i64 ph,.rb false lg .unk]++c++[.int .i64 i,.int .i64 o,.int .i64 ie,.int .i64 oe,.bool sl,.rb false [] .unk,.rb false us .unk,.int .i64 (-1)])
def svB (ph : Int) (n : Nat) (c : List AV) (i o ie oe : Int) (sl : Bool) (u : Nat) : AV := .agg ([.int .i64 ph,.slice 101 0 1 n .ow .unk]++c++[.int .i64 i,.int .i64 o,.int .i64 ie,.int .i64 oe,.bool sl,.slice 108 0 1 0 .ow .unk,.slice 102 0 1 u .ow .unk,.int .i64 (-1)])
def kSw : List Kd := [.kp,.by0]++List.replicate 229 .kp++[.by0,.by0,.kp]
end Go.Sym
