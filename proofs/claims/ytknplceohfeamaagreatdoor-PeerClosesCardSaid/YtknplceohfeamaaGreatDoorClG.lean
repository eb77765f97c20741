/- What the law calls, of one connection. -/
import Derived.Test.YtknplceohfeamaaGreatDoorClE
import Derived.Test.YtknplceohfeamaaGreatDoorClF
set_option linter.unusedVariables false
set_option linter.unusedSimpArgs false
namespace Go.Sym
open Go.Proofs Go.Spec
noncomputable def kpW (a b e : Bool) (s : BitVec 8) : KP := ⟨C6 a b e s,J5 b e,J6 b e s,J7 b e s,laW a b e s,laW a b e s,soW a b e s,wX a b e s,eK b e⟩
theorem w0d (a b e : Bool) (s : BitVec 8) : (kpW a b e s).ok := ⟨mI a b e s,lS b e⟩
section
variable (mk : List AV->List AV->Nat->Prop) (X : By) (ps : List By) (a b e : Bool) (s : BitVec 8)
noncomputable def rTz : RL := ⟨[],.tup [peK a (qY b e).length (psW b e) (zX s) (wX a b e s).length (aD (C6 a b e s) (J5 b e) (J6 b e s) (J7 b e s) (soW a b e s) (laW a b e s)) (ps.length + 1 : Nat) 0 2 2 (!a) (pkW b e) X.length,.nils,.int .i64 0],[],[bk (qY b e),bk (wX a b e s),bk [],bk X]⟩
noncomputable def rGz (x : By) : RL := ⟨[],.tup [.agg ((cellsOf (svD 3 (wX a b e s).length (iV (yD 32 (C6 a b e s)) (J5 b e) (J6 b e s) (J7 b e s) (laW a b e s) (soW a b e s) (laW a b e s)) (ps.length : Nat) 0 2 2 true (eK b e).length (-1))).map (Y9 1)++[.nils]),.str X,.bool true],[some (some (bk x))],[bk (wX a b e s),bk [],bk (eK b e)]⟩
noncomputable def gTz (xs : List AV) (bs : List ABlk) : TL := match xs,bs with
 | [.agg l,.rb false x .unk],[] => .ok ⟨[mk xs [peU a b e s (laW a b e s) (soW a b e s) 2 2,.rb false x .unk] 1,x = daS (soW a b e s) ps 0++clS (soW a b e s) ps.length],(rTz X ps a b e s).v,[],(rTz X ps a b e s).nw⟩
 | _,_ => .no
noncomputable def gGz (xs : List AV) (bs : List ABlk) : TL := match xs,bs with
 | [.agg l,.slice 0 0 1 n .ow (.is c)],[⟨.bytes x,true,1⟩] => (match ps with | [] => .no | _::_ => .ok ⟨[mk xs [svU a b e s (laW a b e s) (soW a b e s) 2 2,.slice 0 0 1 n .ow (.is c)] 2,x = daS (laW a b e s) ps 0/\n = x.length],(rGz X ps a b e s x).v,[some (some (bk x))],(rGz X ps a b e s x).nw⟩)
 | _,_ => .no
noncomputable def spTz : Spec := ⟨[.a kPe,.by0],fun _ _ => [],fun _ _ => [],gTz mk X ps a b e s⟩
noncomputable def spGz : Spec := ⟨[.a kSw,.kp],fun xs h => mA h 200 (jS (xs.drop 1)) [],T5,gGz mk X ps a b e s⟩
noncomputable def ctGz : lZ := orF noFd (mkF (bS Tryz.prog (Wk3 (kpW a b e s) X ps true) gl0 [] 3000 2 Tryz.f20)) (mkF (spGz mk X ps a b e s))
noncomputable def Uk : Ctx := (((((Wk3 (kpW a b e s) X ps true).add 17 (mkF (spTz mk X ps a b e s))).add 20 (ctGz mk X ps a b e s)).add 9 (mkF ⟨[.kp,.kp],fun _ _ => [],fun _ _ => [],m0h⟩)).add 15 (mkF ⟨[],fun _ _ => [],fun _ _ => [],yesU⟩)).withFrz [(91,[.is false])]
end
end Go.Sym
namespace Go.Sym
open Go.Proofs Go.Spec
def y0h (x : By) : By := List.take (min (x.length : Int) 500).toNat x
def psX (x : By) : List By := match P6 (y0h x).length 256 with | 0 => [] | 1 => [y0h x] | _ => [ckB (y0h x) 256 0,ckB (y0h x) 256 1]
theorem f0g (x : By) : (y0h x).length<=500 := by
 unfold y0h
 rw [List.length_take]
 omega
theorem k0g (x : By) : v0d (y0h x) (psX x) := by
 have hl := f0g x
 generalize z0d : y0h x = X at *
 have e : psX x = (match P6 X.length 256 with | 0 => [] | 1 => [X] | _ => [ckB X 256 0,ckB X 256 1]) := by unfold psX; rw [z0d]
 rw [e]
 have hc : P6 X.length 256 = (X.length + 256 - 1) / 256 := rfl
 split
 ·rename_i h
  show X = []
  exact List.length_eq_zero_iff.1 (by omega)
 ·rename_i h
  exact ⟨rfl,by omega,by omega⟩
 ·rename_i h0 h1
  have a : P6 X.length 256 ≠ 0 := h0
  have b : P6 X.length 256 ≠ 1 := h1
  have e0 : ckB X 256 0 = X.take 256 := rfl
  have e1 : ckB X 256 1 = (X.drop 256).take 256 := rfl
  rw [e0,e1]
  have l : (X.drop 256).take 256 = X.drop 256 := List.take_of_length_le (by rw [List.length_drop]; omega)
  rw [l]
  exact ⟨(List.take_append_drop 256 X).symm,by rw [List.length_take]; omega,by rw [List.length_drop]; omega,by rw [List.length_drop]; omega⟩
section
variable (a b e : Bool) (s : BitVec 8)
theorem k0d {K : KP} (hK : K.ok) {X : By} {ps : List By} (h : v0d X ps) : COKs Tryz.prog gl0 (Wk4 K X ps true) := (u0g hK h).withFrz _
theorem q0g {K : KP} (hK : K.ok) {X : By} {ps : List By} (h : v0d X ps) : COKs Tryz.prog gl0 (Wk5 K X ps false) := (u0g hK h).withFrz _
theorem cTz {X : By} {ps : List By} (hp : v0d X ps) : COK Tryz.prog gl0 17 (mkF (spTz lY X ps a b e s)) := by
 refine pH (fn := Tryz.f17) [] 3000 (by kernel_rfl) (by kernel_rfl) (by kernel_rfl) (fun args w => by kernel_rfl) fun xs bs r hs ho => ?_
 replace hs : (gTz lY X ps a b e s xs bs).sel = some r := hs
 unfold gTz at hs
 split at hs
 ·rename_i l x
  cases hs
  obtain ⟨h1,h2⟩ := zJ.1 ho
  have h1 : [AV.agg l,.rb false x .unk] = [peU a b e s (laW a b e s) (soW a b e s) 2 2,.rb false x .unk] := h1
  have h2 := zA.1 h2
  rw [h1]
  match ps,hp,h2 with
  | [],hp,h2 => exact ⟨_,k0d (w0d a b e s) hp,_,bTz0 _ _ _ _ _ _ _ _ _ _ _ _ _ _ _ _ (mI a b e s) (tM b e) hp h2⟩
  | [x1],hp,h2 =>
   obtain ⟨rfl,p1,p2⟩ := hp
   exact ⟨_,k0d (ps := [X]) (w0d a b e s) ⟨rfl,p1,p2⟩,_,bTz1 _ _ _ _ _ _ _ _ _ _ _ _ _ _ _ _ (mI a b e s) (tM b e) p2 rfl h2⟩
  | [x1,x2],hp,h2 => exact ⟨_,k0d (w0d a b e s) hp,_,bTz2 _ _ _ _ _ _ _ _ _ _ _ _ _ _ _ _ _ _ (mI a b e s) (tM b e) (by have := hp.2.1; omega) hp.2.2.2 hp.1 h2⟩
  | _::_::_::_,hp,h2 => exact hp.elim
 ·cases hs
end
end Go.Sym
