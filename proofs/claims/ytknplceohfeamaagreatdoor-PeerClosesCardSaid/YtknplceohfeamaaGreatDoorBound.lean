/- What the card ties. -/
import Derived.Test.YtknplceohfeamaaGreatDoorShaB
import Derived.Test.YtknplceohfeamaaGreatDoorRows
import Derived.Test.YtknplceohfeamaaGreatDoorCards
import Derived.Test.YtknplceohfeamaaGreatDoorTie
import Derived.WalkKit
import Derived.ProofKit
import Derived.OpenShut
import Derived.ChangeOld
import Derived.Below
import Derived.Carry
import Derived.Lay
import Derived.LaidMore
import Derived.Stop.Joined
import Derived.SevenTiedAt
set_option linter.unusedVariables false
set_option linter.unusedSimpArgs false
namespace Go.Proofs.YtknplceohfeamaaGreatDoor
open Go.ChangeShapes Go.WideShapes Go.ChangeAt Go.WideMaps Go.WideElems Go.RowKit
theorem own : ownKnob Tryz.prog.godebug = none := by kernel_rfl
theorem m0q : laidOutB Tryz.prog = true := by kernel_rfl
theorem h0q : Tryz.prog.cellsOf 207 = 1 := by kernel_rfl
theorem gBegin : Tryz.prog.globalNamed "relay/sha.begin" = some 0 := by kernel_rfl
theorem gRounds : Tryz.prog.globalNamed "relay/sha.rounds" = some 1 := by kernel_rfl
theorem tBegin : (Tryz.prog.globals[0]?).map (·.type) = some 238 := by kernel_rfl
theorem tRounds : (Tryz.prog.globals[1]?).map (·.type) = some 331 := by kernel_rfl
theorem K7 {H : Type} {enc : TypeId × Value->H} {P : Program} {w : World} {base : Nat} {spare : Nat->Bool} {held : Bool} {fuel : Nat} {t e : TypeId} {n : Nat} {cs : List Value} {L : List Int} {p : List MemPlace}
  (ht : P.underlying t = some (.array n e)) (he : P.underlying e = some (.int .u32)) (hc : P.cellsOf e = 1) (h : DataW.trod enc P w base spare held fuel t cs = some (.agg (L.map fun x => .lit (.int .u32 x)),p)) :
  ∀ (i : Nat) v,(L.map fun x => Value.int .u32 x)[i]? = some v->cs[i]? = some v := by
 obtain ⟨xs,m,_,hx,_,hn,hel⟩ := DataW.trod_array ht h
 simp only [Prod.mk.injEq,DataW.agg.injEq] at hx
 intro i v hv
 have hlen : L.length = n := by
  have := congrArg List.length hx.1
  simp at this
  omega
 have hi : i < n := by
  have := (List.getElem?_eq_some_iff.1 hv).1
  simp at this
  omega
 have h1 := hel i hi
 rw [hc,Nat.mul_one] at h1
 have h2 : xs[i]? = some xs[i] := List.getElem?_eq_getElem (by omega)
 rw [h2] at h1
 obtain ⟨k,e1,e2,_⟩ := DataW.trod_int he h1
 have h3 : (L.map fun x => (DataW.lit (.int .u32 x) : DataW H))[i]? = (xs.map (·.1))[i]? := by rw [hx.1]
 rw [List.getElem?_map,List.getElem?_map,h2,e2] at h3
 rw [List.getElem?_map] at hv
 cases hL : L[i]? with
 | none => rw [hL] at hv; simp at hv
 | some a =>
  rw [hL] at h3 hv
  simp at h3 hv
  have e3 : (cs.drop i)[0]? = some (.int .u32 k) := by
   have := congrArg (fun l => l[0]?) e1
   simp only [List.getElem?_take,List.getElem?_cons_zero] at this
   simpa using this
  rw [List.getElem?_drop] at e3
  rw [<- hv,h3]
  simpa using e3
abbrev d9 : List (String × DataW Unit) := [("relay/sha.begin", Rows.laid_relay_sha_begin), ("relay/sha.rounds", Rows.laid_relay_sha_rounds), ("unicode/utf8.acceptRanges", Rows.laid_unicode_utf8_acceptRanges), ("unicode/utf8.first", Rows.laid_unicode_utf8_first)]
theorem g0q {W : World} (h : laidMetH Tryz.prog d9 W) : Go.Sym.GW Go.Sym.gl0 W := by
 rw [MakeChecks.laidMetH_plain _ _ _ (by kernel_rfl)] at h
 obtain ⟨ps,⟨g0,t0,cs0,f0,p0,q0,hg0,ht0,hv0,hd0,⟨g1,t1,cs1,f1,p1,q1,hg1,ht1,hv1,hd1,_,_⟩,_⟩,_,_⟩ := h
 obtain rfl := Option.some.inj (gBegin.symm.trans hg0)
 obtain rfl := Option.some.inj (gRounds.symm.trans hg1)
 obtain rfl := Option.some.inj (tBegin.symm.trans ht0)
 obtain rfl := Option.some.inj (tRounds.symm.trans ht1)
 intro g i v hv
 match g with
 | 0 =>
  have := World.var?_cell hg0 hv0 i
  rw [this]
  have h1 := K7 (L := Go.Spec.shaBegin.map fun x => (x.toNat : Int)) Tryz.underlying238 Tryz.underlying207 h0q hd0 i v (by
   rw [List.map_map]; exact hv)
  simpa using h1
 | 1 =>
  have := World.var?_cell hg1 hv1 i
  rw [this]
  have h1 := K7 (L := Go.Spec.shaK.map fun x => (x.toNat : Int)) Tryz.underlying331 Tryz.underlying207 h0q hd1 i v (by
   rw [List.map_map]; exact hv)
  simpa using h1
 | g + 2 => simp [Go.Sym.gl0] at hv
end Go.Proofs.YtknplceohfeamaaGreatDoor
