/- What a key update comes to; the states of the loop. -/
import Derived.Test.YtknplceohfeamaaGreatDoorUpA
import Derived.Test.YtknplceohfeamaaGreatDoorKeyB
import Derived.Test.YtknplceohfeamaaGreatDoorUpE
set_option linter.unusedVariables false
set_option linter.unusedSimpArgs false
namespace Go.Sym
open Go.Proofs Go.Spec
set_option maxRecDepth 100000
theorem f2x {P : Program} {gl : Gl} {f : FuncId} {fn : Func} {sp : Spec} (gs : List Nat) (fuel : Nat) (hf : P.funcs[f]? = some fn) (hok : (match fn.body with | some c => fI fn sp gs c | none => false) = true) (hmix : P.follows .mixedOrders = true)
  (hcall : ∀ args w,(callFunc f args).run P w = .ok (.enter f args) w)
  (h : ∀ as' bs r,(sp.G as' bs).sel = some r→zP r.ob→∃ Γ,COKs P gl Γ∧∃ ls,Must (xQ P Γ gl gs ls fuel fn bs.length as' bs (vL P fn bs.length r))) :
  COKv P gl f (mkF sp) := by
 cases hb : fn.body with
 | none => rw [hb] at hok; cases hok
 | some c =>
  rw [hb] at hok
  refine P5 gs fuel hf hb hok hmix hcall fun as' bs r hs ho => ?_
  obtain ⟨Γ,hΓ,ls,hm⟩ := h as' bs r hs ho
  exact ⟨Γ,hΓ,_,dP,gV hb hm.out⟩
def kP (l : List AV) (o : Nat) : Int := match l.getD o .nils with | .int .i64 e => e | _ => 0
section
variable (mk : List AV→List AV→Nat→Prop) (a b e : Bool) (s : BitVec 8)
noncomputable def svU (A B : F8) (ie oe : Int) : AV := svT 3 (wX a b e s) (iV (yD 32 (C6 a b e s)) (J5 b e) (J6 b e s) (J7 b e s) A B (laW a b e s)) 0 0 ie oe true (eK b e)
noncomputable def svV (A B : F8) (ie oe : Int) : AV := C2 3 (wX a b e s).length (iV (yD 32 (C6 a b e s)) (J5 b e) (J6 b e s) (J7 b e s) A B (laW a b e s)) 0 0 ie oe true (eK b e).length
noncomputable def peU (A B : F8) (ie oe : Int) : AV := l5 a (qY b e) (psW b e) 3 (zX s) (wX a b e s) (aD (C6 a b e s) (J5 b e) (J6 b e s) (J7 b e s) B A) 0 0 oe ie 0 (!a) (pkW b e)
noncomputable def peV (A B : F8) (ie oe : Int) : AV := tP a (qY b e).length (psW b e) 3 (zX s) (wX a b e s).length (aD (C6 a b e s) (J5 b e) (J6 b e s) (J7 b e s) B A) 0 0 oe ie 0 (!a) (pkW b e)
abbrev w1 (i : Int) : Int := IntKind.i64.wrap (i + 1)
noncomputable def rPx (A B : F8) (ie oe : Int) : RL := ⟨[],.tup [peV a b e s A B ie oe,.nils,.int .i64 0],[],[bk (qY b e),bk (wX a b e s),bk [],bk [],bk []]⟩
noncomputable def rPy (A B : F8) (ie oe : Int) : RL := ⟨[],.tup [peV a b e s (zZ A) (zZ B) (w1 ie) (w1 oe),.slice 5 0 1 27 .ow .unk,.int .i64 0],[],[bk (qY b e),bk (wX a b e s),bk [],bk [],bk [],bk (upR A false)]⟩
noncomputable def rP0' (A B : F8) (ie oe : Int) : RL := ⟨[],.tup [peV a b e s A (zZ B) ie (w1 oe),.nils,.int .i64 0],[],[bk (qY b e),bk (wX a b e s),bk [],bk [],bk []]⟩
noncomputable def rQ (A B : F8) (ie oe : Int) (t : Bool) : RL := ⟨[],.tup [peV a b e s (zZ A) B (w1 ie) oe,.slice 5 0 1 27 .ow .unk,.int .i64 0],[],[bk (qY b e),bk (wX a b e s),bk [],bk [],bk [],bk (upR A t)]⟩
noncomputable def rF1 (A B : F8) (ie oe : Int) (x : By) : RL := ⟨[],.tup [.agg ((cellsOf (svV a b e s (zZ A) (zZ B) (w1 ie) (w1 oe))).map (Y9 1)++[.slice 3 0 1 27 .ow .unk]),.str [],.bool true],[some (some (bk x))],[bk (wX a b e s),bk (eK b e),bk (upR B false)]⟩
noncomputable def rF0 (A B : F8) (ie oe : Int) (x : By) : RL := ⟨[],.tup [.agg ((cellsOf (svV a b e s (zZ A) B (w1 ie) oe)).map (Y9 1)++[.nils]),.str [],.bool true],[some (some (bk x))],[bk (wX a b e s),bk (eK b e)]⟩
noncomputable def tO (l : List AV) (o1 o2 : Nat) (g : F8→F8→TL) : TL := asL 32 ((l.drop o1).take 32) fun la => asL 32 ((l.drop o2).take 32) fun lb => g (uM la) (uM lb)
noncomputable def gPk (xs : List AV) (bs : List ABlk) : TL := match xs,bs with
 | [.agg l,.rb false x .unk],[] => tO l 292 260 fun A B => (match x with
  | [] => .ok ⟨[mk xs [peU a b e s A B (kP l 327) (kP l 326),.rb false [] .unk] 1],(rPx a b e s A B (kP l 327) (kP l 326)).v,[],(rPx a b e s A B (kP l 327) (kP l 326)).nw⟩
  | _::_ => .br (wV x (upR B true)) (.ok ⟨[mk xs [peU a b e s A B (kP l 327) (kP l 326),.rb false x .unk] 2],(rPy a b e s A B (kP l 327) (kP l 326)).v,[],(rPy a b e s A B (kP l 327) (kP l 326)).nw⟩)
   (.ok ⟨[mk xs [peU a b e s A B (kP l 327) (kP l 326),.rb false x .unk] 3,x = upR B false],(rP0' a b e s A B (kP l 327) (kP l 326)).v,[],(rP0' a b e s A B (kP l 327) (kP l 326)).nw⟩))
 | _,_ => .no
noncomputable def gQu (xs : List AV) (bs : List ABlk) : TL := match xs,bs with
 | [.agg l,.bool t],[] => tO l 292 260 fun A B => .ok ⟨[mk xs [peU a b e s A B (kP l 327) (kP l 326),.bool t] 4],(rQ a b e s A B (kP l 327) (kP l 326) t).v,[],(rQ a b e s A B (kP l 327) (kP l 326) t).nw⟩
 | _,_ => .no
noncomputable def gFu (xs : List AV) (bs : List ABlk) : TL := match xs,bs with
 | [.agg l,.slice 0 0 1 27 .ow .unk],[⟨.bytes x,true,1⟩] => tO l 130 162 fun A B => .br (wV x (upR A true))
   (.ok ⟨[mk xs [svU a b e s A B (kP l 228) (kP l 229),.slice 0 0 1 27 .ow .unk] 5,0≤kP l 229∧kP l 229 < 60],(rF1 a b e s A B (kP l 228) (kP l 229) x).v,[some (some (bk x))],(rF1 a b e s A B (kP l 228) (kP l 229) x).nw⟩)
   (.ok ⟨[mk xs [svU a b e s A B (kP l 228) (kP l 229),.slice 0 0 1 27 .ow .unk] 6,(0≤kP l 229∧kP l 229 < 60)∧x = upR A false],(rF0 a b e s A B (kP l 228) (kP l 229) x).v,[some (some (bk x))],(rF0 a b e s A B (kP l 228) (kP l 229) x).nw⟩)
 | _,_ => .no
noncomputable def spPu : Spec := ⟨[.a kPe,.by0],fun _ _ => [],fun _ _ => [],gPk mk a b e s⟩
noncomputable def spQu : Spec := ⟨[.a kPe,.kp],fun _ _ => [],fun _ _ => [],gQu mk a b e s⟩
noncomputable def spFu : Spec := ⟨[.a kSw,.kp],fun xs h => mA h 200 (jS (xs.drop 1)) [],T5,gFu mk a b e s⟩
def noFd (xs : List AV) : Bool := match xs with | [_,.nils] => true | _ => false
noncomputable def ctFu : lZ := orF noFd (mkF (bS Tryz.prog (Wu1 true) gl0 [] 3000 2 Tryz.f20)) (mkF (spFu mk a b e s))
noncomputable def U2 : Ctx := ((((Wu1 true).add 17 (mkF (spPu mk a b e s))).add 19 (mkF (spQu mk a b e s))).add 20 (ctFu mk a b e s)).add 9 (mkF ⟨[.kp,.kp],fun _ _ => [],fun _ _ => [],gCoW⟩)
end
def yesU (xs : List AV) (bs : List ABlk) : TL := match xs,bs with | [],[] => .ok ⟨[],.bool true,[],[]⟩ | _,_ => .no
end Go.Sym
namespace Go.Sym
open Go.Proofs Go.Spec
structure UP where
 ka : F8
 kb : F8
 ie : Int
 oe : Int
 i : Nat
def UP.ok (x : UP) : Prop := 2≤x.ie∧x.ie≤2 + x.i∧2≤x.oe∧x.oe≤2 + x.i∧x.i≤12
section
variable (mk : List AV→List AV→Nat→Prop) (a b e : Bool) (s : BitVec 8)
noncomputable def celU (x : UP) : List AV := cellsOf (svB 3 (wX a b e s).length (iV (yD 32 (C6 a b e s)) (J5 b e) (J6 b e s) (J7 b e s) x.ka x.kb (laW a b e s)) 0 0 x.ie x.oe true (eK b e).length)++(cellsOf (peV a b e s x.ka x.kb x.ie x.oe)).map (Y9 103)
noncomputable def blkU (x : UP) : List (Nat × ABlk) := [(100,⟨.cells (celU a b e s x),true,0⟩),(101,bk (wX a b e s)),(102,bk (eK b e)),(103,bk (qY b e)),(104,bk (wX a b e s)),(105,bk []),(106,bk []),(107,bk []),(108,bk [])]
noncomputable def lsU (n : Nat) (f : Nat→Bool) : LS := ⟨UP,fun x => [(1,.ros true 1 n (fun j => [.bool (f j)]) .unk),(5,.ptr 100 0 0 0),(7,.int .i64 x.i)],fun x => blkU a b e s x,1000,fun x => 12 - x.i,UP.ok,fun _ => []⟩
noncomputable def U3 : Ctx := (((exeS Tryz.prog gl0 3000 [(16,Tryz.f16)] ((U2 mk a b e s).withFrz [(20,[.is true]),(29,[.is true]),(38,[.is true]),(47,[.is true])])).withFrz []).add 15 (mkF ⟨[],fun _ _ => [],fun _ _ => [],yesU⟩)).withSym [63,64,92,93,101,102,118,119]
end
end Go.Sym
namespace Go.Sym
open Go.Proofs Go.Spec
set_option maxRecDepth 100000
theorem m1w (k : F8) (t : Bool) : rg 22 (upB k t) = bW (aA (rg 32 k)) (aB (rg 32 k)) 0#64 22 (upM t) := iL _ _ _ _ (upM t)
theorem e2x (k : F8) : upR k false ≠ upR k true := by
 intro h
 unfold upR at h
 have h := List.append_cancel_left h
 rw [m1w,m1w] at h
 have h := congrArg (fun l => kV (aA (rg 32 k)) (nonB (aB (rg 32 k)) 0#64) l (hdL 22)) h
 unfold bW at h
 have e : ∀ t,hdL ((upM t).length + 17) = hdL 22 := fun t => rfl
 simp only [e,aT] at h
 exact absurd h (by decide)
theorem sbU (k : F8) (t : Bool) : wV (upR k t) (upR k true) = t := by
 unfold wV
 rw [vQ]
 cases t
 ·exact decide_eq_false (e2x k)
 ·exact decide_eq_true rfl
def lE (l : By) : Prop := l.length = l.length
theorem wE (l : By) : lE l := rfl
def aE (g h : F8) : Prop := xM (fun i => decide (g i = h i)) 0 32 true = true
theorem iB (g : F8) : aE g g := (eV 32 0).2 ⟨fun _ _ _ => decide_eq_true rfl,rfl⟩
def fN (n : Nat) (f : Nat→Bool) : Prop := ∀ y,y < n→zT true [AV.bool (f y)] = true∧f y = f y∧True
theorem fN_of (n : Nat) (f : Nat→Bool) : fN n f := fun _ _ => ⟨rfl,rfl,trivial⟩
def oN : Prop := ∀ y,y < 60→gD true [AV.int .i64 64] = true
def eN : Prop := ∀ y,y < 60→zT false [AV.int .i64 64] = true∧[AV.int .i64 64].length≤1
def lT : Prop := ∀ y,y < 60→zT false [AV.int .i64 64] = true
theorem uO : oN := fun _ _ => rfl
theorem h1w : eN := fun _ _ => ⟨rfl,Nat.le_refl 1⟩
theorem wP : lT := fun _ _ => rfl
section
variable (a b e : Bool) (s : BitVec 8)
def aS : Prop := (xM (fun i => decide (J5 b e i = J5 b e i)) 0 32 true && (xM (fun i => decide (J6 b e s i = J6 b e s i)) 0 32 true && (xM (fun i => decide (J7 b e s i = J7 b e s i)) 0 32 true && true))) = true
theorem aS_of : aS b e s := by
 unfold aS
 rw [iB (J5 b e),iB (J6 b e s),iB (J7 b e s)]
 rfl
def qP (A B : F8) (ie oe : Int) (x : By) : Prop := [peU a b e s A B ie oe,.rb false x .unk] = [peU a b e s A B ie oe,.rb false x .unk]
def qQ (A B : F8) (ie oe : Int) (t : Bool) : Prop := [peU a b e s A B ie oe,.bool t] = [peU a b e s A B ie oe,.bool t]
def qS (A B : F8) (ie oe : Int) : Prop := [svU a b e s A B ie oe,.slice 0 0 1 27 .ow .unk] = [svU a b e s A B ie oe,.slice 0 0 1 27 .ow .unk]
end
end Go.Sym
namespace Go.Sym
open Go.Proofs Go.Spec
set_option maxHeartbeats 0
set_option maxRecDepth 100000
def ldU (a b e : Bool) (s : BitVec 8) (n : Nat) (f : Nat→Bool) (z : Nat) (y1 y2 : F8) (y3 y4 : Int) (j : Nat) (k1 k2 : F8) (i3 i4 iv : Int) : Prop := n = n∧fN n f∧0 = 0∧(j : Int) = iv∧(3 : Int) = (3 : Int)∧0 = 0∧0 = 0∧0 = 0∧List.length (wX a b e s) = List.length (wX a b e s)∧zG (fun (i : Nat) => C6 a b e s i = C6 a b e s i) 0 32 (zG (fun (i : Nat) => J5 b e i = J5 b e i) 0 32 (zG (fun (i : Nat) => J6 b e s i = J6 b e s i) 0 32 (zG (fun (i : Nat) => J7 b e s i = J7 b e s i) 0 32 (zG (fun (i : Nat) => y1 i = k1 i) 0 32 (zG (fun (i : Nat) => y2 i = k2 i) 0 32 (zG (fun (i : Nat) => laW a b e s i = laW a b e s i) 0 32 ((0 : Int) = (0 : Int)∧(0 : Int) = (0 : Int)∧y3 = i3∧y4 = i4∧true = true∧zqQ ((List.length (eK b e) = List.length (eK b e))∧Int.negSucc 0 = Int.negSucc 0∧(7#8 = 7#8)∧zG (fun (i : Nat) => 0#8 = 0#8) 0 31 (a = a∧0 = 0∧0 = 0∧0 = 0∧(List.length (qY b e) = List.length (qY b e))∧zG (fun (i : Nat) => psW b e i = psW b e i) 0 32 ((3 : Int) = (3 : Int)∧zG (fun (i : Nat) => zX s i = zX s i) 0 64 (0 = 0∧0 = 0∧0 = 0∧List.length (wX a b e s) = List.length (wX a b e s)∧zG (fun (i : Nat) => C6 a b e s i = C6 a b e s i) 0 32 (zG (fun (i : Nat) => J5 b e i = J5 b e i) 0 32 (zG (fun (i : Nat) => J6 b e s i = J6 b e s i) 0 32 (zG (fun (i : Nat) => J7 b e s i = J7 b e s i) 0 32 (zG (fun (i : Nat) => y2 i = k2 i) 0 32 (zG (fun (i : Nat) => y1 i = k1 i) 0 32 ((0 : Int) = (0 : Int)∧(0 : Int) = (0 : Int)∧y4 = i4∧y3 = i3∧((0 : Int) = (0 : Int)∧(!a) = !a∧pkW b e = pkW b e∧zG (fun (i : Nat) => 0 = 0) 0 12 (Int.negSucc 0 = Int.negSucc 0∧(wX a b e s) = (wX a b e s)∧eK b e = eK b e∧qY b e = qY b e∧(wX a b e s) = (wX a b e s)∧([] : By) = []∧([] : By) = []∧([] : By) = []∧([] : By) = []∧True)))))))))))) z)))))))
theorem k1j (a b e : Bool) (s : BitVec 8) (n : Nat) (f : Nat→Bool) (z : Nat) (k1 k2 : F8) (i3 i4 iv : Int) (j : Nat) (hv : (j : Int) = iv) : ldU a b e s n f z k1 k2 i3 i4 j k1 k2 i3 i4 iv := by
 unfold ldU
 refine ⟨rfl,fN_of n f,rfl,hv,rfl,rfl,rfl,rfl,rfl,?_⟩
 refine al ?_
 refine al ?_
 refine al ?_
 refine al ?_
 refine al ?_
 refine al ?_
 refine al ?_
 refine ⟨rfl,rfl,rfl,rfl,rfl,?_⟩
 refine J3 ?_ z
 refine ⟨rfl,rfl,rfl,?_⟩
 refine al ?_
 refine ⟨rfl,rfl,rfl,rfl,rfl,?_⟩
 refine al ?_
 refine ⟨rfl,?_⟩
 refine al ?_
 refine ⟨rfl,rfl,rfl,rfl,?_⟩
 refine al ?_
 refine al ?_
 refine al ?_
 refine al ?_
 refine al ?_
 refine al ?_
 refine ⟨rfl,rfl,rfl,rfl,rfl,rfl,rfl,?_⟩
 refine al ?_
 refine ⟨rfl,rfl,rfl,rfl,rfl,rfl,rfl,rfl,rfl,?_⟩
 trivial
def A8 (a b e : Bool) (s : BitVec 8) (n : Nat) (f : Nat→Bool) (z : Nat) (x : UP) (k1 k2 : F8) (i3 i4 : Int) : Prop := ∃ (y : UP),12 - y.5 < 12 - x.5∧((2 : Int)≤y.3∧y.3≤(2 : Int) + (↑y.5 : Int)∧(2 : Int)≤y.4∧y.4≤(2 : Int) + (↑y.5 : Int)∧y.5≤12)∧ldU a b e s n f z y.1 y.2 y.3 y.4 y.5 k1 k2 i3 i4 (IntKind.i64.wrap ((↑x.5 : Int) + (1 : Int)))
theorem lU {a b e : Bool} {s : BitVec 8} {n : Nat} {f : Nat→Bool} {z : Nat} {x : UP} {k1 k2 : F8} {i3 i4 : Int} (h0 : x.5 < 12) (h1 : 2≤i3) (h2 : i3≤3 + (x.5 : Int)) (h3 : 2≤i4) (h4 : i4≤3 + (x.5 : Int)) : A8 a b e s n f z x k1 k2 i3 i4 := by
 have ei : IntKind.i64.wrap ((x.5 : Int) + 1) = (x.5 : Int) + 1 := wK (by omega) (by omega)
 refine ⟨⟨k1,k2,i3,i4,x.5 + 1⟩,?_,⟨h1,?_,h3,?_,?_⟩,k1j _ _ _ _ _ _ _ _ _ _ _ _ _ (by rw [ei]; rfl)⟩
 ·show 12 - (x.5 + 1) < 12 - x.5; omega
 ·show i3≤2 + ((x.5 + 1 : Nat) : Int); omega
 ·show i4≤2 + ((x.5 + 1 : Nat) : Int); omega
 ·show x.5 + 1≤12; omega
def b6 (a b e : Bool) (s : BitVec 8) (a1 b1 a2 b2 a3 b3 a4 b4 : Int) (g1 g2 g3 g4 : F8) (q : Prop) : Prop := @Bool.rec (fun _ => Prop) (true = false∧True) (@Bool.rec (fun _ => Prop) (true = false∧True) (@Bool.rec (fun _ => Prop) (aE (C6 a b e s) (C6 a b e s)∧aS b e s∧aE g1 g2∧aE g3 g4∧true = false∧True) (aE (C6 a b e s) (C6 a b e s)∧aS b e s∧aE g1 g2∧aE g3 g4∧@Bool.rec (fun _ => Prop) q (true = false∧True) (!decide (a4 = b4))) (decide (a3 = b3))) (!!decide (a2 = b2))) (!!decide (a1 = b1))
theorem lV {a b e : Bool} {s : BitVec 8} {a1 a2 a3 a4 : Int} {g1 g3 : F8} {q : Prop} (h : q) : b6 a b e s a1 a1 a2 a2 a3 a3 a4 a4 g1 g1 g3 g3 q := by
 unfold b6
 refine yE (fun _ => ?_) (fun h => absurd h (by simp))
 refine yE (fun _ => ?_) (fun h => absurd h (by simp))
 refine yE (fun _ => ⟨iB _,aS_of b e s,iB _,iB _,?_⟩) (fun h => absurd h (by simp))
 exact yE (fun h => absurd h (by simp)) (fun _ => h)
def stU (a b e : Bool) (s : BitVec 8) (n : Nat) (f : Nat→Bool) : Prop := ∃ (x : UP),((2 : Int)≤x.3∧x.3≤(2 : Int) + (↑x.5 : Int)∧(2 : Int)≤x.4∧x.4≤(2 : Int) + (↑x.5 : Int)∧x.5≤12)∧ldU a b e s n f 4 x.1 x.2 x.3 x.4 x.5 (laW a b e s) (soW a b e s) 2 2 0
theorem d2x (a b e : Bool) (s : BitVec 8) (n : Nat) (f : Nat→Bool) : stU a b e s n f := ⟨⟨laW a b e s,soW a b e s,2,2,0⟩,⟨Int.le_refl _,Int.le_refl _,Int.le_refl _,Int.le_refl _,Nat.zero_le _⟩,k1j _ _ _ _ _ _ _ _ _ _ _ _ _ rfl⟩
end Go.Sym
