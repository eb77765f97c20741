/- A text is sent. -/
import Derived.Test.YtknplceohfeamaaGreatDoorClD
import Derived.Test.YtknplceohfeamaaGreatDoorClA
import Derived.Test.YtknplceohfeamaaGreatDoorKeyB
import Derived.Test.YtknplceohfeamaaGreatDoorClB
set_option linter.unusedVariables false
set_option linter.unusedSimpArgs false
namespace Go.Sym
open Go.Proofs Go.Spec
set_option maxHeartbeats 0
set_option maxRecDepth 100000
noncomputable def q1K (K : KP) : List By->AV | [] => .nils | x::l => .slice 6 0 1 (daS K.kb (x::l) 0).length .ow .unk
def q2K : List By->AV | [] => .nils | x::l => .slice 7 0 34 (x::l).length .ow .unk
noncomputable def nwK (K : KP) : List By->List ABlk | [] => [] | x::l => [bk (daS K.kb (x::l) 0),⟨.cells (j0d K.kb (x::l).length),true,34⟩]
noncomputable def rTx (K : KP) (ps : List By) : RL := ⟨[],.int .i64 0,[some (some (u0d K ps.length (q1K K ps) (q2K ps))),some (some (bk K.lg)),some (some (bk [])),some (some (bk K.us)),some (some bxU),some (some rwU)],nwK K ps⟩
theorem bTx0 (K : KP) (X : By) (u : NL) (hl : K.lg.length < 1099511627776) (hu : K.us.length < 1099511627776)  : Must (bq (WkE X [] true) Tryz.f33 6 [.ptr 0 0 0 234,.int .i64 23,.rb true X u] [u0d K 0 .nils .nils,bk K.lg,bk [],bk K.us,bxU,rwU] (rTx K [])) := by
 obtain ⟨su,ea,ha,ma,la,ka,kb,lg,us⟩ := K
 exact ⟨J4 ([.e X,.p w0y,.e (0 : Int),.e (3 : Int),.z 3,.e (List.length lg),.r (su) 0 32,.r (ea) 0 32,.r (ha) 0 32,.r (ma) 0 32,.r (ka) 0 32,.r (kb) 0 32,.r (la) 0 32,.e (0 : Int),.e (0 : Int),.e (2 : Int),.e (2 : Int),.e true,.r (fun _ => (0 : Nat)) 0 7,.e (List.length us),.e (Int.negSucc 0),.r (kb) 0 32,.e (2 : Int),.e (Int.ofNat 0),.z 1,.e lg,.e ([] : By),.e us,.z 3,.n 60,.n 60,.p g0h]) (by kernel_rfl) (by kernel_rfl)⟩
theorem bTx1 (K : KP) (X X1 : By) (u : NL) (hl : K.lg.length < 1099511627776) (hu : K.us.length < 1099511627776) (hy0 : X1.length<=256) : Must (bq (WkE X [X1] true) Tryz.f33 6 [.ptr 0 0 0 234,.int .i64 23,.rb true X u] [u0d K 0 .nils .nils,bk K.lg,bk [],bk K.us,bxU,rwU] (rTx K [X1])) := by
 obtain ⟨su,ea,ha,ma,la,ka,kb,lg,us⟩ := K
 have v0 : X1.length + 22 = List.length (rcD kb (BitVec.ofNat 64 0) 23 X1) := by simp only [w0h,List.length_append,List.length_nil,List.nil_append,Nat.zero_add] <;> omega
 have v1 : (0 + (List.length (rcD kb (BitVec.ofNat 64 0) 23 X1))) * (2 * 1)<=281474976710656 := by simp only [w0h,List.length_append,List.length_nil,List.nil_append,Nat.zero_add] <;> omega
 have v2 : (daS kb [X1] 0).length = List.length (rcD kb (BitVec.ofNat 64 0) 23 X1) := by simp only [daS,List.append_nil,List.length_append]
 have v3 : daS kb [X1] 0 = (rcD kb (BitVec.ofNat 64 0) 23 X1) := by simp only [daS,List.append_nil]
 exact ⟨J4 ([.e X,.c ((0 : Int)<=(0 : Int)),.c (0 < [X1].length),.c (0 < [X1].length),.p x0d,.c (60<=60),.p u0h,.e r64,.c ((0 : Int)<=(2 : Int)),.c ((2 : Int) < (60 : Int)),.p (And.intro (show (20 : Int)<=23 by decide) (And.intro (show (23 : Int)<=23 by decide) hy0)),.p v0,.p v1,.c ((0 + 1) * (2 * 48)<=281474976710656),.p w0y,.p w0y,.e (0 : Int),.e (3 : Int),.z 3,.e (List.length lg),.r (su) 0 32,.r (ea) 0 32,.r (ha) 0 32,.r (ma) 0 32,.r (ka) 0 32,.r (kb) 0 32,.r (la) 0 32,.e (0 : Int),.e (0 : Int),.e (2 : Int),.e (2 : Int),.e true,.r (fun _ => (0 : Nat)) 0 7,.e (List.length us),.e (Int.negSucc 0),.r (kb) 0 32,.e (2 : Int),.e (Int.ofNat 1),.z 3,.p v2,.z 3,.n 1,.z 1,.e lg,.e ([] : By),.e us,.z 3,.n 60,.n 60,.p g0h,.p v3,.r (kb) 0 32,.e (2 : Int),.e (Int.ofNat 0)]) (by kernel_rfl) (by kernel_rfl)⟩
theorem bTx2 (K : KP) (X X1 X2 : By) (u : NL) (hl : K.lg.length < 1099511627776) (hu : K.us.length < 1099511627776) (hy0 : X1.length<=256) (hy1 : X2.length<=256) : Must (bq (WkE X [X1,X2] true) Tryz.f33 6 [.ptr 0 0 0 234,.int .i64 23,.rb true X u] [u0d K 0 .nils .nils,bk K.lg,bk [],bk K.us,bxU,rwU] (rTx K [X1,X2])) := by
 obtain ⟨su,ea,ha,ma,la,ka,kb,lg,us⟩ := K
 have v0 : X1.length + 22 = List.length (rcD kb (BitVec.ofNat 64 0) 23 X1) := by simp only [w0h,List.length_append,List.length_nil,List.nil_append,Nat.zero_add] <;> omega
 have v1 : (0 + (List.length (rcD kb (BitVec.ofNat 64 0) 23 X1))) * (2 * 1)<=281474976710656 := by simp only [w0h,List.length_append,List.length_nil,List.nil_append,Nat.zero_add] <;> omega
 have v2 : X2.length + 22 = List.length (rcD kb (BitVec.ofNat 64 1) 23 X2) := by simp only [w0h,List.length_append,List.length_nil,List.nil_append,Nat.zero_add] <;> omega
 have v3 : ((List.length (rcD kb (BitVec.ofNat 64 0) 23 X1)) + (List.length (rcD kb (BitVec.ofNat 64 1) 23 X2))) * (2 * 1)<=281474976710656 := by simp only [w0h,List.length_append,List.length_nil,List.nil_append,Nat.zero_add] <;> omega
 have y0g : (daS kb [X1,X2] 0).length = List.length (rcD kb (BitVec.ofNat 64 0) 23 X1) + List.length (rcD kb (BitVec.ofNat 64 1) 23 X2) := by simp only [daS,List.append_nil,List.length_append]
 have y0f : daS kb [X1,X2] 0 = (rcD kb (BitVec.ofNat 64 0) 23 X1)++(rcD kb (BitVec.ofNat 64 1) 23 X2) := by simp only [daS,List.append_nil]
 exact ⟨J4 ([.e X,.c ((0 : Int)<=(0 : Int)),.c (0 < [X1,X2].length),.c (0 < [X1,X2].length),.p x0d,.c (60<=60),.p u0h,.e r64,.c ((0 : Int)<=(2 : Int)),.c ((2 : Int) < (60 : Int)),.p (And.intro (show (20 : Int)<=23 by decide) (And.intro (show (23 : Int)<=23 by decide) hy0)),.p v0,.p v1,.c ((0 + 1) * (2 * 48)<=281474976710656),.p w0y,.c ((0 : Int)<=Int.ofNat 1),.c (1 < [X1,X2].length),.c (1 < [X1,X2].length),.p x0d,.c (60<=60),.p u0h,.e r64,.c ((0 : Int)<=(2 : Int)),.c ((2 : Int) < (60 : Int)),.p (And.intro (show (20 : Int)<=23 by decide) (And.intro (show (23 : Int)<=23 by decide) hy1)),.p v2,.e (List.length (rcD kb (BitVec.ofNat 64 0) 23 X1)),.p v3,.c ((1 + 1) * (2 * 48)<=281474976710656),.p w0y,.p w0y,.e (0 : Int),.e (3 : Int),.z 3,.e (List.length lg),.r (su) 0 32,.r (ea) 0 32,.r (ha) 0 32,.r (ma) 0 32,.r (ka) 0 32,.r (kb) 0 32,.r (la) 0 32,.e (0 : Int),.e (0 : Int),.e (2 : Int),.e (2 : Int),.e true,.r (fun _ => (0 : Nat)) 0 7,.e (List.length us),.e (Int.negSucc 0),.r (kb) 0 32,.e (2 : Int),.e (Int.ofNat 2),.z 3,.p y0g,.z 3,.c (2 = 1 + 1),.z 1,.e lg,.e ([] : By),.e us,.z 3,.n 60,.n 60,.p g0h,.p y0f,.r (kb) 0 32,.e (2 : Int),.e (Int.ofNat 0),.r (kb) 0 32,.e (2 : Int),.e (Int.ofNat 1)]) (by kernel_rfl) (by kernel_rfl)⟩
noncomputable def gTx (K : KP) (X : By) (ps : List By) (xs : List AV) (bs : List ABlk) : TL := match xs with
 | [.ptr 0 0 0 234,.int .i64 23,.rb true l u] => .ok ⟨[l = X,bs = [u0d K 0 .nils .nils,bk K.lg,bk [],bk K.us,bxU,rwU]],.int .i64 0,(rTx K ps).io,(rTx K ps).nw⟩
 | _ => .no
noncomputable def spTx (K : KP) (X : By) (ps : List By) : Spec := ⟨[.kp,.kp,.kp],fun xs h => mA h 200 (jS xs) [],T5,gTx K X ps⟩
def g0f (xs : List AV) : Bool := match xs with | .ptr _ _ _ 234::_ => false | _ => true
noncomputable def ctTx (K : KP) (X : By) (ps : List By) (cl : Bool) : lZ := orF g0f (mkF (bS Tryz.prog (WkE X ps cl) gl0 [] 3000 3 Tryz.f33)) (mkF (spTx K X ps))
theorem cTx {K : KP} (hK : K.ok) {X : By} {ps : List By} (h : v0d X ps) : COKv Tryz.prog gl0 33 (mkF (spTx K X ps)) := by
 refine f2x (fn := Tryz.f33) [] 3000 (by kernel_rfl) (by kernel_rfl) (by kernel_rfl) (fun args w => by kernel_rfl) fun xs bs r hs ho => ?_
 replace hs : (gTx K X ps xs bs).sel = some r := hs
 unfold gTx at hs
 split at hs
 ·rename_i l u
  cases hs
  obtain ⟨h1,h2⟩ := zJ.1 ho
  have h2 := zA.1 h2
  have h1 : l = X := h1
  subst h1
  rw [h2]
  have hi := v0h h
  match ps,h,hi with
  | [],h,hi => exact ⟨_,u0y (cl := true) hi,_,bTx0 K _ u hK.1 hK.2⟩
  | [x1],h,hi => exact ⟨_,u0y (cl := true) hi,_,bTx1 K _ _ u hK.1 hK.2 h.2.2⟩
  | [x1,x2],h,hi => exact ⟨_,u0y (cl := true) hi,_,bTx2 K _ _ _ u hK.1 hK.2 (by have := h.2.1; omega) h.2.2.2⟩
  | _::_::_::_,h,hi => exact h.elim
 ·cases hs
theorem q0h {K : KP} (hK : K.ok) {X : By} {ps : List By} {cl : Bool} (h : v0d X ps) : COK Tryz.prog gl0 33 (ctTx K X ps cl) := by
 refine (f0k ?_ (cTx hK h)).cok
 exact lN [] 3000 3 (by kernel_rfl) (by kernel_rfl) (u0y (v0h h)) (by kernel_rfl) (fun args w => by kernel_rfl)
noncomputable def WkT (K : KP) (X : By) (ps : List By) (cl : Bool) : Ctx := (WkE X ps cl).add 33 (ctTx K X ps cl)
theorem g0d {K : KP} (hK : K.ok) {X : By} {ps : List By} {cl : Bool} (h : v0d X ps) : COKs Tryz.prog gl0 (WkT K X ps cl) := (u0y (v0h h)).add (q0h hK h)
noncomputable def Wk1 (K : KP) (X : By) (ps : List By) (cl : Bool) : Ctx := exeS Tryz.prog gl0 3000 [(51,Tryz.f51),(80,Tryz.f80),(81,Tryz.f81),(82,Tryz.f82),(74,Tryz.f74),(75,Tryz.f75),(32,Tryz.f32),(84,Tryz.f84)] (WkT K X ps cl)
theorem f0y {K : KP} (hK : K.ok) {X : By} {ps : List By} {cl : Bool} (h : v0d X ps) : COKs Tryz.prog gl0 (Wk1 K X ps cl) := (g0d hK h).exeS 3000 (by kernel_rfl) _ (by kernel_rfl) (by kernel_rfl)
noncomputable def Wk2 (K : KP) (X : By) (ps : List By) (cl : Bool) : Ctx := (exeS Tryz.prog gl0 3000 [(53,Tryz.f53)] ((exeS Tryz.prog gl0 3000 [(79,Tryz.f79)] ((exeS Tryz.prog gl0 3000 [(73,Tryz.f73)] ((Wk1 K X ps cl).withFrz [(13,[.is false])])).withFrz [(13,[.is false])])).withFrz [(13,[.is false])])).withFrz []
theorem f0h {K : KP} (hK : K.ok) {X : By} {ps : List By} {cl : Bool} (h : v0d X ps) : COKs Tryz.prog gl0 (Wk2 K X ps cl) := (((((((f0y hK h).withFrz _).exeS 3000 (by kernel_rfl) _ (by kernel_rfl) (by kernel_rfl)).withFrz _).exeS 3000 (by kernel_rfl) _ (by kernel_rfl) (by kernel_rfl)).withFrz _).exeS 3000 (by kernel_rfl) _ (by kernel_rfl) (by kernel_rfl)).withFrz _
noncomputable def Wk3 (K : KP) (X : By) (ps : List By) (cl : Bool) : Ctx := exeS Tryz.prog gl0 3000 [(52,Tryz.f52),(31,Tryz.f31),(11,Tryz.f11),(54,Tryz.f54),(25,Tryz.f25),(23,Tryz.f23),(49,Tryz.f49),(50,Tryz.f50),(47,Tryz.f47),(21,Tryz.f21),(22,Tryz.f22),(45,Tryz.f45)] (Wk2 K X ps cl)
theorem u0g {K : KP} (hK : K.ok) {X : By} {ps : List By} {cl : Bool} (h : v0d X ps) : COKs Tryz.prog gl0 (Wk3 K X ps cl) := (f0h hK h).exeS 3000 (by kernel_rfl) _ (by kernel_rfl) (by kernel_rfl)
noncomputable def Wk4 (K : KP) (X : By) (ps : List By) (cl : Bool) : Ctx := (Wk3 K X ps cl).withFrz [(49,[.is false]),(56,[.is false])]
noncomputable def Wk5 (K : KP) (X : By) (ps : List By) (cl : Bool) : Ctx := (Wk3 K X ps cl).withFrz [(32,[.is false])]
end Go.Sym
