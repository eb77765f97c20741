/- CurveChains: of all three secrets, the order in which they are put together doesn't count, and what comes isn't nought. No conditions. -/
import Derived.Test.YtafnckepekfjcaaCurI
import Derived.Test.YtafnckepekfjcaaCurE
import Derived.Test.YtafnckepekfjcaaCurK
import Derived.Test.YtafnckepekfjcaaCurA
import Derived.Test.YtafnckepekfjcaaRows
import Derived.WalkKit
import Derived.ProofKit
import Derived.OpenShut
import Derived.ChangeOld
import Derived.Below
import Derived.Carry
namespace Go.Spec
open Go.Sym
theorem shR_S (s p : F8) (j : Nat) (hj : j < 32) : shR s p j = shS s p j := by
  have h : Rz _ (shV (claL s) (vN (numS p 255) % PZ)) := sha_I (s := claR s) (s' := claL s) (fun i _ => by rw [bitRV, claRL]) (unp_R p)
  obtain ⟨l, e⟩ := pk_val h
  rw [shS_eq, shr_V s p (num_R p)]
  refine pk_byte l e ?_ j hj
  have : vN (numS p 255) % PZ < PZ := Nat.mod_lt _ (by decide)
  exact Nat.mod_lt _ (by decide)
end Go.Spec
namespace Go.Sym
open Go.Proofs Go.Spec
set_option linter.unusedVariables false
theorem agg_congr {a b : F8} (h : ∀ j, j < 32 → a j = b j) : aggB 32 a = aggB 32 b := by
  unfold aggB
  congr 1
  exact List.map_congr_left fun i hi => by rw [h i (List.mem_range.mp hi)]
theorem andP_congr {p q : Nat → Bool} {r : Bool} : ∀ (n s : Nat), (∀ j, s ≤ j → j < s + n → p j = q j) → andP p s n r = andP q s n r
  | 0, _, _ => rfl
  | n + 1, s, h => by
    simp only [andP]
    rw [h s (Nat.le_refl _) (by omega), andP_congr n (s + 1) (fun j h1 h2 => h j (by omega) (by omega))]
theorem nzR_S (s p : F8) : nzR (shR s p) = okB (shS s p) := by
  unfold nzR okB
  rw [andP_congr 32 0 (fun j _ hj => by rw [shR_S s p j (by omega)])]
theorem brS9 (s p : F8) : Must (bodyP Try.prog W4 gl0 [] [(7, lsSr s p)] 3000 Try.f7 0 [aggB 32 s, aggB 32 p] [] (retQ Try.prog Try.f7 0 ⟨[], .tup [aggB 32 (shS s p), .bool (okB (shS s p))], [], []⟩)) := by
  rw [← nzR_S, ← agg_congr (shR_S s p)]
  exact brShr s p
theorem csh9 : COK Try.prog gl0 7 (mkF (spK 2 gShr)) := by
  refine ctrE (fn := Try.f7) [] 3000 (by kernel_rfl) (by kernel_rfl) okW4 (by kernel_rfl) (fun args w => by kernel_rfl) fun xs bs r hs ho => ?_
  obtain ⟨rfl, hs0⟩ := spK_sel hs
  clear hs
  rename (TL.sel _ = _) => hs
  unfold gShr at hs
  split at hs
  · obtain ⟨x, e, hs⟩ := asB_sel hs
    obtain ⟨y, e2, hs⟩ := asB_sel hs
    simp only [TL.sel, Option.some.injEq] at hs
    subst hs
    rw [e, e2]
    exact ⟨_, brS9 x y⟩
  · simp [TL.sel] at hs
noncomputable def W10 : Ctx := V10.add 7 (mkF (spK 2 gShr))
theorem okW10 : COKs Try.prog gl0 W10 := okV10.add csh9
end Go.Sym

namespace Go.Sym
open Go.Proofs Go.Spec
set_option linter.unusedVariables false
set_option maxRecDepth 100000 in
theorem vtwo (s p : F8) : bodyP Try.prog W10 gl0 [] [] 3000 Try.f3 0 [aggB 32 s, aggB 32 p] [] (retQ Try.prog Try.f3 0 ⟨[], .bool true, [], []⟩) = (
let x1 := fun (i : Nat) => (BitVec.ofNat 8 9 :: List.replicate 31 (BitVec.ofNat 8 0)).getD i (0 : BitVec 8); let x2 := fun (i : Nat) => (rg 32 s).getD i (0 : BitVec 8); @Bool.rec (fun _ => Prop) (Bool.true = Bool.false ∧ True) (@Bool.rec (fun _ => Prop) (Bool.true = Bool.false ∧ True) (@Bool.rec (fun _ => Prop) (Bool.true = Bool.false ∧ True) (Bool.true = andP (fun (i : Nat) => decide (shS x2 x1 i = shS x2 x1 i)) 0 32 Bool.true ∧ True) (okB (shS (fun (i : Nat) => (rg 32 p).getD i (0 : BitVec 8)) fun (i : Nat) => (rg 32 (shS x2 x1)).getD i (0 : BitVec 8)))) (okB (shS x2 fun (i : Nat) => (rg 32 (shS (fun (i : Nat) => (rg 32 p).getD i (0 : BitVec 8)) x1)).getD i (0 : BitVec 8)))) (andP (fun (i : Nat) => decide (shS x2 (fun (i : Nat) => (rg 32 (shS (fun (i : Nat) => (rg 32 p).getD i (0 : BitVec 8)) x1)).getD i (0 : BitVec 8)) i = shS (fun (i : Nat) => (rg 32 p).getD i (0 : BitVec 8)) (fun (i : Nat) => (rg 32 (shS x2 x1)).getD i (0 : BitVec 8)) i)) 0 32 Bool.true) : Prop) := by kernel_rfl
set_option maxRecDepth 100000 in
theorem vchains (s p q : F8) : bodyP Try.prog W10 gl0 [] [] 3000 Try.f4 0 [aggB 32 s, aggB 32 p, aggB 32 q] [] (retQ Try.prog Try.f4 0 ⟨[], .bool true, [], []⟩) = (
let x1 := fun (i : Nat) => (BitVec.ofNat 8 9 :: List.replicate 31 (BitVec.ofNat 8 0)).getD i (0 : BitVec 8); let x2 := fun (i : Nat) => (rg 32 (shS (fun (i : Nat) => (rg 32 p).getD i (0 : BitVec 8)) fun (i : Nat) => (rg 32 (shS (fun (i : Nat) => (rg 32 s).getD i (0 : BitVec 8)) x1)).getD i (0 : BitVec 8))).getD i (0 : BitVec 8); let x3 := fun (i : Nat) => (rg 32 (shS (fun (i : Nat) => (rg 32 s).getD i (0 : BitVec 8)) fun (i : Nat) => (rg 32 (shS (fun (i : Nat) => (rg 32 q).getD i (0 : BitVec 8)) x1)).getD i (0 : BitVec 8))).getD i (0 : BitVec 8); @Bool.rec (fun _ => Prop) (Bool.true = Bool.false ∧ True) (@Bool.rec (fun _ => Prop) (Bool.true = Bool.false ∧ True) (Bool.true = andP (fun (i : Nat) => decide (shS (fun (i : Nat) => (rg 32 q).getD i (0 : BitVec 8)) x2 i = shS (fun (i : Nat) => (rg 32 p).getD i (0 : BitVec 8)) x3 i)) 0 32 Bool.true ∧ True) (okB (shS (fun (i : Nat) => (rg 32 p).getD i (0 : BitVec 8)) x3))) (okB (shS (fun (i : Nat) => (rg 32 q).getD i (0 : BitVec 8)) x2)) : Prop) := by kernel_rfl
end Go.Sym

namespace Go.Num
open Go.Spec
theorem Is.lst {p : Nat → BitVec 8} {m : Nat} (h : Is p m) : Is (Go.Spec.l32 p) m := h.congr fun i hi => Go.Spec.l32_at p i hi
end Go.Num
namespace Go.Sym
open Go.Proofs Go.Spec Go.Num
set_option linter.unusedVariables false
def b9 : F8 := fun (i : Nat) => (BitVec.ofNat 8 9 :: List.replicate 31 (BitVec.ofNat 8 0)).getD i (0 : BitVec 8)
theorem b9_all : ∀ i : Fin 31, b9 (i.val + 1) = 0#8 := by decide +kernel
theorem b9_is : Is b9 1 := is_9 rfl fun i h0 h1 => by
  obtain ⟨j, rfl⟩ : ∃ j, i = j + 1 := ⟨i - 1, by omega⟩
  exact b9_all ⟨j, by omega⟩
theorem btwo (s p : F8) : Must (bodyP Try.prog W10 gl0 [] [] 3000 Try.f3 0 [aggB 32 s, aggB 32 p] [] (retQ Try.prog Try.f3 0 ⟨[], .bool true, [], []⟩)) := by
  constructor
  rw [vtwo]
  intro x1 x2
  have i1 : Is (shS (Go.Spec.l32 p) b9) (1 * vl (claL (Go.Spec.l32 p)) 255) := b9_is.sh _
  have i2 : Is (shS x2 b9) (1 * vl (claL x2) 255) := b9_is.sh _
  have e' : shS x2 (fun (i : Nat) => (rg 32 (shS (fun (i : Nat) => (rg 32 p).getD i (0 : BitVec 8)) x1)).getD i (0 : BitVec 8)) = shS (fun (i : Nat) => (rg 32 p).getD i (0 : BitVec 8)) (fun (i : Nat) => (rg 32 (shS x2 x1)).getD i (0 : BitVec 8)) := i1.lst.eq i2.lst (by rw [Nat.one_mul, Nat.one_mul, Nat.mul_comm]; rfl)
  have o1' : okB (shS x2 (fun (i : Nat) => (rg 32 (shS (fun (i : Nat) => (rg 32 p).getD i (0 : BitVec 8)) x1)).getD i (0 : BitVec 8))) = true := (i1.lst.sh _).ok
  have o2 : okB (shS (Go.Spec.l32 p) (Go.Spec.l32 (shS x2 b9))) = true := Is.ok (i2.lst.sh (Go.Spec.l32 p))
  have o2' : okB (shS (fun (i : Nat) => (rg 32 p).getD i (0 : BitVec 8)) (fun (i : Nat) => (rg 32 (shS x2 x1)).getD i (0 : BitVec 8))) = true := o2
  clear_value x1 x2
  rw [e', o2']
  simp only [decide_true, andP_tt]
  exact ⟨trivial, trivial⟩
theorem bchains (s p q : F8) : Must (bodyP Try.prog W10 gl0 [] [] 3000 Try.f4 0 [aggB 32 s, aggB 32 p, aggB 32 q] [] (retQ Try.prog Try.f4 0 ⟨[], .bool true, [], []⟩)) := by
  constructor
  rw [vchains]
  intro x1 x2 x3
  have a1 : Is (shS (Go.Spec.l32 s) b9) (1 * vl (claL (Go.Spec.l32 s)) 255) := b9_is.sh _
  have a2 : Is (shS (Go.Spec.l32 q) b9) (1 * vl (claL (Go.Spec.l32 q)) 255) := b9_is.sh _
  have c1 : Is x2 (1 * vl (claL (Go.Spec.l32 s)) 255 * vl (claL (Go.Spec.l32 p)) 255) := (a1.lst.sh _).lst
  have c2 : Is x3 (1 * vl (claL (Go.Spec.l32 q)) 255 * vl (claL (Go.Spec.l32 s)) 255) := (a2.lst.sh _).lst
  have e' : shS (fun (i : Nat) => (rg 32 q).getD i (0 : BitVec 8)) x2 = shS (fun (i : Nat) => (rg 32 p).getD i (0 : BitVec 8)) x3 := c1.eq c2 (by
    show _ * vl (claL (Go.Spec.l32 q)) 255 = _ * vl (claL (Go.Spec.l32 p)) 255
    generalize vl (claL (Go.Spec.l32 s)) 255 = a
    generalize vl (claL (Go.Spec.l32 p)) 255 = b
    generalize vl (claL (Go.Spec.l32 q)) 255 = c
    rw [Nat.one_mul, Nat.one_mul, Nat.mul_comm (a * b), Nat.mul_assoc])
  have o1 : okB (shS (fun (i : Nat) => (rg 32 p).getD i (0 : BitVec 8)) x3) = true := (c2.sh _).ok
  clear_value x1 x2 x3
  rw [e', o1]
  simp only [decide_true, andP_tt]
  exact ⟨trivial, trivial⟩
end Go.Sym

namespace Go.Sym
open Go.Spec
theorem sh_by {n : Nat} {avs : List AV} (h : shAll (List.replicate n (.i .u8)) avs) : ∃ k : F8, avs = (List.range n).map fun i => .u8 (k i) := by
  obtain ⟨l, hl, rfl⟩ := sh_u8 h
  refine ⟨fun i => l.getD i 0, ?_⟩
  apply List.ext_getElem
  · simp [hl]
  · intro i h1 h2
    have : i < l.length := by simpa using h1
    simp [List.getD, this]
end Go.Sym

/- CurveChains: of all three secrets, the order in which they are put together doesn't count, and what comes isn't nought. No conditions. -/
namespace Go.Sym
open Go.Proofs Go.Spec
theorem w4 (W : World) (v0 : Value) (s : Nat → BitVec 8) (h0 : VRel (κW W) (aggB 32 s) v0) (v1 : Value) (k : Nat → BitVec 8) (h1 : VRel (κW W) (aggB 32 k) v1) (v2 : Value) (q9 : Nat → BitVec 8) (h2 : VRel (κW W) (aggB 32 q9) v2) :
    Calls Try.prog 4 #[v0, v1, v2] W fun e w' => e = .returned (.bool true) ∧ RowKit.Below W.heap.size W w' := by
  have hv : VRels (κW W) [aggB 32 s, aggB 32 k, aggB 32 q9] [v0, v1, v2] := by
    simp only [VRels]
    exact ⟨_, _, rfl, h0, _, _, rfl, h1, _, _, rfl, h2, rfl⟩
  refine law_walk (gl := gl0) (Γ := W10) (fn := Try.f4) (av := [aggB 32 s, aggB 32 k, aggB 32 q9]) (ls := []) [] 3000 (by kernel_rfl) (by kernel_rfl) okW10 (by kernel_rfl) (GW.nil W) (by kernel_rfl) hv ?_
  exact bchains s k q9
end Go.Sym
namespace Go.Proofs.Ytafnckepekfjcaa.curveChains
open Go.ChangeShapes Go.WideShapes Go.ChangeAt Go.RowKit
set_option linter.unusedVariables false

theorem own : ownKnob Try.prog.godebug = none := by kernel_rfl
theorem laid : laidOutB Try.prog = true := by kernel_rfl

set_option maxRecDepth 100000 in
theorem lifted (os : Os) (started : os.Started) (H : Type) (enc : TypeId × Value → H) :
    ReturnsInHanded {} Try.checked os 4 .any (Rows.curveChainsSpec.pre6 enc Try.prog Try.f4 Rows.curveChainsRow.domain false) (Rows.curveChainsSpec.post enc Try.prog Try.f4 false true false false) := by
  refine returnsInHanded_of_change (C := Try.checked) own started (by kernel_rfl) Try.func4
    (ChangeSpec.witness6 (enc := enc) (C := Try.checked) false ⟨#[], #[.agg (Array.replicate 32 (.int .u8 0)), .agg (Array.replicate 32 (.int .u8 0)), .agg (Array.replicate 32 (.int .u8 0))], []⟩ 8 (by kernel_rfl) (by kernel_rfl) (by kernel_rfl) (by kernel_rfl)) ?_
  intro W base args ds gs before hval0 hW hcnd _
  have hval : ∀ (j : Nat) t v, Try.f4.params[j]? = some t → args[j]? = some v → Value.okWide Try.prog W .any base t v := hval0
  have hW' := hW
  obtain ⟨p, q, hA0, hV, rfl, hfz, hnd⟩ := hW
  have hA : DataW.TrodAll enc Try.prog W 0 (fun _ => true) true Try.f4.params.toList args.toList ds p := hA0
  rw [Try.params4] at hA hval
  obtain ⟨v0, vs0, d0, ds0, p0, q0, hargs, rfl, rfl, h0, r0⟩ := trodAll_cons hA
  obtain ⟨v1, vs1, d1, ds1, p1, q1, rfl, rfl, rfl, h1, r1⟩ := trodAll_cons r0
  obtain ⟨v2, vs2, d2, ds2, p2, q2, rfl, rfl, rfl, h2, r2⟩ := trodAll_cons r1
  obtain ⟨rfl, rfl, rfl⟩ := trodAll_nil r2
  obtain rfl : args = #[v0, v1, v2] := by cases args; simp_all
  obtain ⟨rfl, rfl⟩ := trodVars_none hV
  clear hA0 hval0
  have hlt0 : ∀ x ∈ p0, x.block < W.heap.size := fun x hx => hW'.lt x (by simp [hx])
  obtain ⟨fuel0, hf0⟩ := h0
  obtain ⟨avs0, hs0, hd0, hr0⟩ := Go.Sym.rd_flat 9 22 (List.replicate 32 (.i .u8)) _ _ _ (by kernel_rfl) hf0
  obtain ⟨s, rfl⟩ := Go.Sym.sh_by hs0
  have hu0 := Go.Sym.agg_of_cells hr0 (by simp)
  have hlt1 : ∀ x ∈ p1, x.block < W.heap.size := fun x hx => hW'.lt x (by simp [hx])
  obtain ⟨fuel1, hf1⟩ := h1
  obtain ⟨avs1, hs1, hd1, hr1⟩ := Go.Sym.rd_flat 9 22 (List.replicate 32 (.i .u8)) _ _ _ (by kernel_rfl) hf1
  obtain ⟨k, rfl⟩ := Go.Sym.sh_by hs1
  have hu1 := Go.Sym.agg_of_cells hr1 (by simp)
  have hlt2 : ∀ x ∈ p2, x.block < W.heap.size := fun x hx => hW'.lt x (by simp [hx])
  obtain ⟨fuel2, hf2⟩ := h2
  obtain ⟨avs2, hs2, hd2, hr2⟩ := Go.Sym.rd_flat 9 22 (List.replicate 32 (.i .u8)) _ _ _ (by kernel_rfl) hf2
  obtain ⟨q9, rfl⟩ := Go.Sym.sh_by hs2
  have hu2 := Go.Sym.agg_of_cells hr2 (by simp)
  refine (Go.Sym.w4 W v0 s hu0 v1 k hu1 v2 q9 hu2).mono fun e W' ⟨he, bel⟩ => ?_
  subst he
  exact ⟨_, rfl, _, _, _, [], _, [], hW', trodAll_mk1 (shut_bool Try.underlying4 _), (trodAll_cons_mk (Below.trod laid (by kernel_rfl) (of_decide_eq_true (by kernel_rfl)) ⟨fuel0, hf0⟩ bel hlt0) (trodAll_cons_mk (Below.trod laid (by kernel_rfl) (of_decide_eq_true (by kernel_rfl)) ⟨fuel1, hf1⟩ bel hlt1) (trodAll_cons_mk (Below.trod laid (by kernel_rfl) (of_decide_eq_true (by kernel_rfl)) ⟨fuel2, hf2⟩ bel hlt2) trodAll_mk0))), rfl, bel.frame _, fun h => by cases h⟩

theorem over : Rows.curveChainsRow.holds Try.pinned (OpenSpec.ofChange Rows.curveChainsSpec) :=
  OpenClaim.holds_of_wide 4 Try.f4 rfl rfl rfl rfl rfl rfl rfl ⟨rfl, rfl, rfl, rfl, rfl⟩ rfl rfl rfl rfl rfl (by kernel_rfl) Try.func4 (by kernel_rfl)
    (of_decide_eq_true (by kernel_rfl)) (by unfold Func.isWrapper; first | (rw [if_pos (by decide +kernel)]; kernel_rfl) | (rw [if_neg (by decide +kernel)]; exact ⟨rfl, rfl⟩))
    (fun os started H enc _ => lifted os started H enc)

theorem proved : Rows.CurveChainsSaid :=
  over
#print axioms proved
end Go.Proofs.Ytafnckepekfjcaa.curveChains
