/- A server and its peer that are open, by names. -/
import Derived.Test.YtknplceohfeamaaGreatDoorSteps
import Derived.Test.YtknplceohfeamaaGreatDoorCon
import Derived.Test.YtknplceohfeamaaGreatDoorClA
import Derived.Test.YtknplceohfeamaaGreatDoorKeyB
set_option linter.unusedVariables false
set_option linter.unusedSimpArgs false
namespace Go.Sym
open Go.Proofs Go.Spec
section
variable (a b c : Bool) (s : BitVec 8)
noncomputable def qY : By := mQ (C3 b c)
noncomputable def pkW : Bool := mQ (vF (C3 b c))
noncomputable def eK : By := mQ (F4 (C3 b c))
noncomputable def psW : F8 := mQ (tV (C3 b c))
noncomputable def wX : By := mQ (mM (yC a (C3 b c) s) (vF (C3 b c)) s)
noncomputable def C6 : F8 := mQ (hH (yC a (C3 b c) s) (vF (C3 b c)) s)
noncomputable def J5 : F8 := mQ (qZ (vF (C3 b c)))
noncomputable def J6 : F8 := mQ (qA (vF (C3 b c)) s)
noncomputable def J7 : F8 := mQ (qN (vF (C3 b c)) s)
noncomputable def laW : F8 := mQ (jF (yC a (C3 b c) s) (vF (C3 b c)) s)
noncomputable def soW : F8 := mQ (nE (yC a (C3 b c) s) (vF (C3 b c)) s)
noncomputable def m0y : RL := ⟨[],.tup [prA (C2 3 (wX a b c s).length (iV (yD 32 (C6 a b c s)) (J5 b c) (J6 b c s) (J7 b c s) (laW a b c s) (soW a b c s) (laW a b c s)) 0 0 2 2 true (eK b c).length)
 (tP a (qY b c).length (psW b c) 3 (zX s) (wX a b c s).length (aD (C6 a b c s) (J5 b c) (J6 b c s) (J7 b c s) (soW a b c s) (laW a b c s)) 0 0 2 2 0 (!a) (pkW b c)),.bool true],[],[bk (wX a b c s),bk (eK b c),bk (qY b c),bk (wX a b c s),bk [],bk [],bk []]⟩
theorem w1k : m0y a b c s = rCo a (C3 b c) s := by
 unfold m0y qY pkW eK psW wX C6 J5 J6 J7 laW soW
 simp only [vQ]
 rfl
end
noncomputable def m0h (xs : List AV) (bs : List ABlk) : TL := match xs,bs with
 | [.agg [.bool a,.bool b,.bool c,.u8 s],.int .i64 (.ofNat 3)],[] => .ok (m0y a b c s)
 | _,_ => .no
theorem tM (b c : Bool) : (qY b c).length < 1099511627776 := by
 unfold qY; rw [vQ]; cases b <;> cases c <;> decide
theorem lS (b c : Bool) : (eK b c).length < 1099511627776 := by
 unfold eK; rw [vQ]; cases b <;> cases c <;> decide
theorem mI (a b c : Bool) (s : BitVec 8) : (wX a b c s).length < 1099511627776 := by
 unfold wX; rw [vQ]; cases a <;> cases b <;> cases c <;> exact dN (by kernel_rfl)
end Go.Sym
namespace Go.Sym
open Go.Proofs Go.Spec
theorem cCoW : COK Tryz.prog gl0 9 (mkF ⟨[.kp,.kp],fun _ _ => [],fun _ _ => [],m0h⟩) := cCo.chk fun xs bs r hs _ => by
 unfold m0h at hs
 split at hs
 ·rename_i a b c s
  cases hs
  rw [w1k]
  cases a <;> cases b <;> cases c <;> exact ⟨_,rfl,trivial,rfl,rfl,rfl⟩
 ·cases hs
end Go.Sym
namespace Go.Sym
open Go.Proofs Go.Spec
set_option maxRecDepth 100000
theorem f2x {P : Program} {gl : Gl} {f : FuncId} {fn : Func} {sp : Spec} (gs : List Nat) (fuel : Nat) (hf : P.funcs[f]? = some fn) (hok : (match fn.body with | some c => fI fn sp gs c | none => false) = true) (hmix : P.follows .mixedOrders = true)
  (hcall : ∀ args w,(callFunc f args).run P w = .ok (.enter f args) w)
  (h : ∀ as' bs r,(sp.G as' bs).sel = some r->zP r.ob->∃ Γ,COKs P gl Γ/\∃ ls,Must (xQ P Γ gl gs ls fuel fn bs.length as' bs (vL P fn bs.length r))) :
  COKv P gl f (mkF sp) := by
 cases hb : fn.body with
 | none => rw [hb] at hok; cases hok
 | some c =>
  rw [hb] at hok
  refine P5 gs fuel hf hb hok hmix hcall fun as' bs r hs ho => ?_
  obtain ⟨Γ,hΓ,ls,hm⟩ := h as' bs r hs ho
  exact ⟨Γ,hΓ,_,dP,gV hb hm.out⟩
section
variable (mk : List AV->List AV->Nat->Prop) (a b e : Bool) (s : BitVec 8)
noncomputable def svU (A B : F8) (ie oe : Int) : AV := svT 3 (wX a b e s) (iV (yD 32 (C6 a b e s)) (J5 b e) (J6 b e s) (J7 b e s) A B (laW a b e s)) 0 0 ie oe true (eK b e)
noncomputable def peU (A B : F8) (ie oe : Int) : AV := l5 a (qY b e) (psW b e) 3 (zX s) (wX a b e s) (aD (C6 a b e s) (J5 b e) (J6 b e s) (J7 b e s) B A) 0 0 oe ie 0 (!a) (pkW b e)
abbrev w1 (i : Int) : Int := IntKind.i64.wrap (i + 1)
def noFd (xs : List AV) : Bool := match xs with | [_,.nils] => true | _ => false
end
def yesU (xs : List AV) (bs : List ABlk) : TL := match xs,bs with | [],[] => .ok ⟨[],.bool true,[],[]⟩ | _,_ => .no
end Go.Sym
