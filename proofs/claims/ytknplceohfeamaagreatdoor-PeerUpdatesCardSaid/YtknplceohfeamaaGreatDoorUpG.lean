/- The calls of a key update. -/
import Derived.Test.YtknplceohfeamaaGreatDoorUpF
import Derived.Test.YtknplceohfeamaaGreatDoorUpB
import Derived.Test.YtknplceohfeamaaGreatDoorUpC
import Derived.Test.YtknplceohfeamaaGreatDoorUpD
import Derived.Test.YtknplceohfeamaaGreatDoorUpE
set_option linter.unusedVariables false
set_option linter.unusedSimpArgs false
namespace Go.Sym
open Go.Proofs Go.Spec
set_option maxRecDepth 100000
theorem A9 {a b : By} (h : wV a b = true) : a = b := by unfold wV at h; rw [vQ] at h; exact of_decide_eq_true h
theorem eL {l : List AV} {o1 o2 : Nat} {g : F8→F8→TL} {r : RL} (h : (tO l o1 o2 g).sel = some r) : ∃ A B : F8,(g A B).sel = some r := by
 unfold tO at h
 obtain ⟨f1,_,h⟩ := vO h
 obtain ⟨f2,_,h⟩ := vO h
 exact ⟨_,_,h⟩
section
variable (a b e : Bool) (s : BitVec 8)
theorem cPz : COK Tryz.prog gl0 17 (mkF (spPu lY a b e s)) := by
 refine pH (fn := Tryz.f17) [] 3000 (by kernel_rfl) (by kernel_rfl) (by kernel_rfl) (fun args w => by kernel_rfl) fun xs bs r hs ho => ?_
 replace hs : (gPk lY a b e s xs bs).sel = some r := hs
 unfold gPk at hs
 split at hs
 ·rename_i l x
  obtain ⟨A,B,hs⟩ := eL hs
  split at hs
  ·cases hs
   have h := zA.1 ho
   have h : [AV.agg l,.rb false [] .unk] = [peU a b e s A B (kP l 327) (kP l 326),.rb false [] .unk] := h
   rw [h]
   exact ⟨_,cB true,_,bPyx _ _ _ _ _ _ _ _ _ _ _ _ _ _ _ (mI a b e s) (tM b e)⟩
  ·rename_i y ys h0
   clear h0
   simp only [TL.sel] at hs
   split at hs
   ·rename_i ht
    cases hs
    have h := zA.1 ho
    have h : [AV.agg l,.rb false (y::ys) .unk] = [peU a b e s A B (kP l 327) (kP l 326),.rb false (y::ys) .unk] := h
    rw [h,A9 ht]
    exact ⟨_,cB true,_,bPy1 _ _ _ _ _ _ _ _ _ _ _ _ _ _ _ (mI a b e s) (tM b e)⟩
   ·cases hs
    obtain ⟨h,ho⟩ := zJ.1 ho
    have h : [AV.agg l,.rb false (y::ys) .unk] = [peU a b e s A B (kP l 327) (kP l 326),.rb false (y::ys) .unk] := h
    rw [h,zA.1 ho]
    exact ⟨_,cB false,_,bPy0 _ _ _ _ _ _ _ _ _ _ _ _ _ _ _ (mI a b e s) (tM b e)⟩
 ·cases hs
theorem cQz : COK Tryz.prog gl0 19 (mkF (spQu lY a b e s)) := by
 refine pH (fn := Tryz.f19) [] 3000 (by kernel_rfl) (by kernel_rfl) (by kernel_rfl) (fun args w => by kernel_rfl) fun xs bs r hs ho => ?_
 replace hs : (gQu lY a b e s xs bs).sel = some r := hs
 unfold gQu at hs
 split at hs
 ·rename_i l t
  obtain ⟨A,B,hs⟩ := eL hs
  cases hs
  have h := zA.1 ho
  have h : [AV.agg l,.bool t] = [peU a b e s A B (kP l 327) (kP l 326),.bool t] := h
  rw [h]
  cases t
  ·exact ⟨_,cB false,_,bQy0 _ _ _ _ _ _ _ _ _ _ _ _ _ _ _ (mI a b e s) (tM b e)⟩
  ·exact ⟨_,cB true,_,bQy1 _ _ _ _ _ _ _ _ _ _ _ _ _ _ _ (mI a b e s) (tM b e)⟩
 ·cases hs
theorem cFz : COKv Tryz.prog gl0 20 (mkF (spFu lY a b e s)) := by
 refine f2x (fn := Tryz.f20) [] 3000 (by kernel_rfl) (by kernel_rfl) (by kernel_rfl) (fun args w => by kernel_rfl) fun xs bs r hs ho => ?_
 replace hs : (gFu lY a b e s xs bs).sel = some r := hs
 unfold gFu at hs
 split at hs
 ·rename_i l x
  obtain ⟨A,B,hs⟩ := eL hs
  simp only [TL.sel] at hs
  split at hs
  ·rename_i ht
   cases hs
   obtain ⟨h,ho⟩ := zJ.1 ho
   have h : [AV.agg l,.slice 0 0 1 27 .ow .unk] = [svU a b e s A B (kP l 228) (kP l 229),.slice 0 0 1 27 .ow .unk] := h
   have h2 := zA.1 ho
   rw [h,A9 ht]
   exact ⟨_,cB true,_,bFy1 _ _ _ _ _ _ _ _ _ _ _ (mI a b e s) (lS b e) h2.1 h2.2⟩
  ·cases hs
   obtain ⟨h,ho⟩ := zJ.1 ho
   have h : [AV.agg l,.slice 0 0 1 27 .ow .unk] = [svU a b e s A B (kP l 228) (kP l 229),.slice 0 0 1 27 .ow .unk] := h
   have h2 := zA.1 ho
   rw [h,h2.2]
   exact ⟨_,cB false,_,bFy0 _ _ _ _ _ _ _ _ _ _ _ (mI a b e s) (lS b e) h2.1.1 h2.1.2⟩
 ·cases hs
theorem c2x : COK Tryz.prog gl0 20 (ctFu lY a b e s) := by
 refine (f0k ?_ (cFz a b e s)).cok
 exact lN [] 3000 2 (by kernel_rfl) (by kernel_rfl) (cB true) (by kernel_rfl) (fun args w => by kernel_rfl)
theorem okU2 : COKs Tryz.prog gl0 (U2 lY a b e s) := ((((cB true).add (cPz a b e s)).add (cQz a b e s)).add (c2x a b e s)).add cCoW
end
end Go.Sym
