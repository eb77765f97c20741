/- CurveShares: of all secrets and publics, what is shared is what the arithmetic of the document tells, and whether it is nought. No conditions. -/
import Derived.Test.YtmpgpbbaloiniaaCurI
import Derived.Test.YtmpgpbbaloiniaaCurE
import Derived.Test.YtmpgpbbaloiniaaCurA
import Derived.Test.YtmpgpbbaloiniaaRows
import Derived.WalkKit
import Derived.ProofKit
import Derived.OpenShut
import Derived.ChangeOld
import Derived.Below
import Derived.Carry
namespace Go.Spec
open Go.Sym
theorem shR_S (s p : F8) (j : Nat) (hj : j < 32) : shR s p j = shS s p j := by
  have h : Rz _ (shV (claL s) (vN (numS p 255) % PZ)) := sha_I (s := claR s) (s' := claL s) (fun i _ => by rw [bitRV, claRL]) (unp_R p)
  obtain ⟨l, e⟩ := pk_val h
  rw [shS_eq, shr_V s p (num_R p)]
  refine pk_byte l e ?_ j hj
  have : vN (numS p 255) % PZ < PZ := Nat.mod_lt _ (by decide)
  exact Nat.mod_lt _ (by decide)
end Go.Spec
namespace Go.Sym
open Go.Proofs Go.Spec
set_option linter.unusedVariables false
theorem agg_congr {a b : F8} (h : ∀ j, j < 32 → a j = b j) : aggB 32 a = aggB 32 b := by
  unfold aggB
  congr 1
  exact List.map_congr_left fun i hi => by rw [h i (List.mem_range.mp hi)]
theorem andP_congr {p q : Nat → Bool} {r : Bool} : ∀ (n s : Nat), (∀ j, s ≤ j → j < s + n → p j = q j) → andP p s n r = andP q s n r
  | 0, _, _ => rfl
  | n + 1, s, h => by
    simp only [andP]
    rw [h s (Nat.le_refl _) (by omega), andP_congr n (s + 1) (fun j h1 h2 => h j (by omega) (by omega))]
theorem nzR_S (s p : F8) : nzR (shR s p) = okB (shS s p) := by
  unfold nzR okB
  rw [andP_congr 32 0 (fun j _ hj => by rw [shR_S s p j (by omega)])]
theorem brS9 (s p : F8) : Must (bodyP Try.prog W4 gl0 [] [(7, lsSr s p)] 3000 Try.f9 0 [aggB 32 s, aggB 32 p] [] (retQ Try.prog Try.f9 0 ⟨[], .tup [aggB 32 (shS s p), .bool (okB (shS s p))], [], []⟩)) := by
  rw [← nzR_S, ← agg_congr (shR_S s p)]
  exact brShr s p
theorem csh9 : COK Try.prog gl0 9 (mkF (spK 2 gShr)) := by
  refine ctrE (fn := Try.f9) [] 3000 (by kernel_rfl) (by kernel_rfl) okW4 (by kernel_rfl) (fun args w => by kernel_rfl) fun xs bs r hs ho => ?_
  obtain ⟨rfl, hs0⟩ := spK_sel hs
  clear hs
  rename (TL.sel _ = _) => hs
  unfold gShr at hs
  split at hs
  · obtain ⟨x, e, hs⟩ := asB_sel hs
    obtain ⟨y, e2, hs⟩ := asB_sel hs
    simp only [TL.sel, Option.some.injEq] at hs
    subst hs
    rw [e, e2]
    exact ⟨_, brS9 x y⟩
  · simp [TL.sel] at hs
noncomputable def W10 : Ctx := V10.add 9 (mkF (spK 2 gShr))
theorem okW10 : COKs Try.prog gl0 W10 := okV10.add csh9
end Go.Sym

namespace Go.Sym
open Go.Proofs Go.Spec
set_option linter.unusedVariables false
set_option maxRecDepth 100000 in
theorem vshares (s p : F8) : bodyP Try.prog W10 gl0 [] [] 3000 Try.f3 0 [aggB 32 s, aggB 32 p] [] (retQ Try.prog Try.f3 0 ⟨[], .bool true, [], []⟩) = (
  @Bool.rec (fun _ => Prop) (Bool.true = Bool.false ∧ True) (Bool.true = decide (okB (shS (l32 s) (l32 p)) = okB (shS (l32 s) (l32 p))) ∧ True) (andP (fun (i : Nat) => decide (shS (l32 s) (l32 p) i = shS (l32 s) (l32 p) i)) 0 32 Bool.true)) := by kernel_rfl
theorem bshares (s p : F8) : Must (bodyP Try.prog W10 gl0 [] [] 3000 Try.f3 0 [aggB 32 s, aggB 32 p] [] (retQ Try.prog Try.f3 0 ⟨[], .bool true, [], []⟩)) := by
  constructor
  rw [vshares]
  simp only [decide_true, andP_tt]
  exact ⟨trivial, trivial⟩
end Go.Sym

namespace Go.Sym
open Go.Spec
theorem sh_by {n : Nat} {avs : List AV} (h : shAll (List.replicate n (.i .u8)) avs) : ∃ k : F8, avs = (List.range n).map fun i => .u8 (k i) := by
  obtain ⟨l, hl, rfl⟩ := sh_u8 h
  refine ⟨fun i => l.getD i 0, ?_⟩
  apply List.ext_getElem
  · simp [hl]
  · intro i h1 h2
    have : i < l.length := by simpa using h1
    simp [List.getD, this]
end Go.Sym

/- CurveShares: of all secrets and publics, what is shared is what the document's own arithmetic tells, and whether it is nought. No conditions. -/
namespace Go.Sym
open Go.Proofs Go.Spec
theorem w3 (W : World) (v0 : Value) (s : Nat → BitVec 8) (h0 : VRel (κW W) (aggB 32 s) v0) (v1 : Value) (k : Nat → BitVec 8) (h1 : VRel (κW W) (aggB 32 k) v1) :
    Calls Try.prog 3 #[v0, v1] W fun e w' => e = .returned (.bool true) ∧ RowKit.Below W.heap.size W w' := by
  have hv : VRels (κW W) [aggB 32 s, aggB 32 k] [v0, v1] := by
    simp only [VRels]
    exact ⟨_, _, rfl, h0, _, _, rfl, h1, rfl⟩
  refine law_walk (gl := gl0) (Γ := W10) (fn := Try.f3) (av := [aggB 32 s, aggB 32 k]) (ls := []) [] 3000 (by kernel_rfl) (by kernel_rfl) okW10 (by kernel_rfl) (GW.nil W) (by kernel_rfl) hv ?_
  exact bshares s k
end Go.Sym
namespace Go.Proofs.Ytmpgpbbaloiniaa.curveShares
open Go.ChangeShapes Go.WideShapes Go.ChangeAt Go.RowKit
set_option linter.unusedVariables false

theorem own : ownKnob Try.prog.godebug = none := by kernel_rfl
theorem laid : laidOutB Try.prog = true := by kernel_rfl

set_option maxRecDepth 100000 in
theorem lifted (os : Os) (started : os.Started) (H : Type) (enc : TypeId × Value → H) :
    ReturnsInHanded {} Try.checked os 3 .any (Rows.curveSharesSpec.pre6 enc Try.prog Try.f3 Rows.curveSharesRow.domain false) (Rows.curveSharesSpec.post enc Try.prog Try.f3 false true false false) := by
  refine returnsInHanded_of_change (C := Try.checked) own started (by kernel_rfl) Try.func3
    (ChangeSpec.witness6 (enc := enc) (C := Try.checked) false ⟨#[], #[.agg (Array.replicate 32 (.int .u8 0)), .agg (Array.replicate 32 (.int .u8 0))], []⟩ 8 (by kernel_rfl) (by kernel_rfl) (by kernel_rfl) (by kernel_rfl)) ?_
  intro W base args ds gs before hval0 hW hcnd _
  have hval : ∀ (j : Nat) t v, Try.f3.params[j]? = some t → args[j]? = some v → Value.okWide Try.prog W .any base t v := hval0
  have hW' := hW
  obtain ⟨p, q, hA0, hV, rfl, hfz, hnd⟩ := hW
  have hA : DataW.TrodAll enc Try.prog W 0 (fun _ => true) true Try.f3.params.toList args.toList ds p := hA0
  rw [Try.params3] at hA hval
  obtain ⟨v0, vs0, d0, ds0, p0, q0, hargs, rfl, rfl, h0, r0⟩ := trodAll_cons hA
  obtain ⟨v1, vs1, d1, ds1, p1, q1, rfl, rfl, rfl, h1, r1⟩ := trodAll_cons r0
  obtain ⟨rfl, rfl, rfl⟩ := trodAll_nil r1
  obtain rfl : args = #[v0, v1] := by cases args; simp_all
  obtain ⟨rfl, rfl⟩ := trodVars_none hV
  clear hA0 hval0
  have hlt0 : ∀ x ∈ p0, x.block < W.heap.size := fun x hx => hW'.lt x (by simp [hx])
  obtain ⟨fuel0, hf0⟩ := h0
  obtain ⟨avs0, hs0, hd0, hr0⟩ := Go.Sym.rd_flat 9 22 (List.replicate 32 (.i .u8)) _ _ _ (by kernel_rfl) hf0
  obtain ⟨s, rfl⟩ := Go.Sym.sh_by hs0
  have hu0 := Go.Sym.agg_of_cells hr0 (by simp)
  have hlt1 : ∀ x ∈ p1, x.block < W.heap.size := fun x hx => hW'.lt x (by simp [hx])
  obtain ⟨fuel1, hf1⟩ := h1
  obtain ⟨avs1, hs1, hd1, hr1⟩ := Go.Sym.rd_flat 9 22 (List.replicate 32 (.i .u8)) _ _ _ (by kernel_rfl) hf1
  obtain ⟨k, rfl⟩ := Go.Sym.sh_by hs1
  have hu1 := Go.Sym.agg_of_cells hr1 (by simp)
  refine (Go.Sym.w3 W v0 s hu0 v1 k hu1).mono fun e W' ⟨he, bel⟩ => ?_
  subst he
  exact ⟨_, rfl, _, _, _, [], _, [], hW', trodAll_mk1 (shut_bool Try.underlying4 _), (trodAll_cons_mk (Below.trod laid (by kernel_rfl) (of_decide_eq_true (by kernel_rfl)) ⟨fuel0, hf0⟩ bel hlt0) (trodAll_cons_mk (Below.trod laid (by kernel_rfl) (of_decide_eq_true (by kernel_rfl)) ⟨fuel1, hf1⟩ bel hlt1) trodAll_mk0)), rfl, bel.frame _, fun h => by cases h⟩

theorem over : Rows.curveSharesRow.holds Try.pinned (OpenSpec.ofChange Rows.curveSharesSpec) :=
  OpenClaim.holds_of_wide 3 Try.f3 rfl rfl rfl rfl rfl rfl rfl ⟨rfl, rfl, rfl, rfl, rfl⟩ rfl rfl rfl rfl rfl (by kernel_rfl) Try.func3 (by kernel_rfl)
    (of_decide_eq_true (by kernel_rfl)) (by unfold Func.isWrapper; first | (rw [if_pos (by decide +kernel)]; kernel_rfl) | (rw [if_neg (by decide +kernel)]; exact ⟨rfl, rfl⟩))
    (fun os started H enc _ => lifted os started H enc)

theorem proved : Rows.CurveSharesSaid :=
  over
#print axioms proved
end Go.Proofs.Ytmpgpbbaloiniaa.curveShares
