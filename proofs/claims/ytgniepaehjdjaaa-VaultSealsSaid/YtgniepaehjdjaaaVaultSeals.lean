/- VaultSeals: of all keys, notes and snapshots what is sealed is the document's, or that it can't be; it is opened again. No conditions. -/
import Derived.Test.YtgniepaehjdjaaaVauB
import Derived.Test.YtgniepaehjdjaaaAeadB
import Derived.Test.YtgniepaehjdjaaaRows
import Derived.WalkKit
import Derived.ProofKit
import Derived.OpenShut
import Derived.ChangeOld
import Derived.Below
import Derived.Carry
namespace Go.Sym
open Go.Proofs Go.Spec
set_option linter.unusedVariables false
set_option maxRecDepth 100000 in
theorem vv8 (k : F8) (c o g : Int) (b : By) (d : Bool) : bodyP Try.prog V14 gl0 [] [] 3000 Try.f8 0 [aggB 32 k, vN c o g, .rb true b (.is d)] [] (retQ Try.prog Try.f8 0 ⟨[], .bool true, [], []⟩) = (
let x1 := vaM (fun (i : Nat) => (rg 32 k).getD i (0 : BitVec 8)) c o g (List.take (Min.min (↑(List.length b) : Int) (400 : Int)).toNat b); let x2 := fun (i : Nat) => (rg 32 k).getD i (0 : BitVec 8); let x3 := List.take (Min.min (↑(List.length b) : Int) (400 : Int)).toNat b; (0 : Int) ≤ Min.min (↑(List.length b) : Int) (400 : Int) ∧ (Min.min (↑(List.length b) : Int) (400 : Int)).toNat ≤ List.length b ∧ x3.length + 512 < 1099511627776 ∧ x3.length + 512 < 1099511627776 ∧ @Bool.rec (fun _ => Prop) (Bool.true = Bool.false ∧ True) (List.length x1 = List.length x1 ∧ List.length x1 = List.length x1 ∧ @Bool.rec (fun _ => Prop) (Bool.true = Bool.false ∧ True) (@Bool.rec (fun _ => Prop) (@Bool.rec (fun _ => Prop) (List.length x1 = List.length x1 ∧ List.length x1 + 512 < 1099511627776 ∧ List.length x1 = List.length x1 ∧ @Bool.rec (fun _ => Prop) (Bool.true = Bool.false ∧ True) (@Bool.rec (fun _ => Prop) (Bool.true = Bool.false ∧ True) (@Bool.rec (fun _ => Prop) (Bool.true = Bool.false ∧ True) (@Bool.rec (fun _ => Prop) (Bool.true = Bool.false ∧ True) (List.length (voM x2 x1) = List.length (voM x2 x1) ∧ Bool.true = decide (voM x2 x1 = x3) ∧ True) (decide (vrC x1 = voC x2 x1) && (decide (vrO x1 = voO x2 x1) && (decide (vrG x1 = voG x2 x1) && Bool.true)))) (decide (voC x2 x1 = c) && (decide (voO x2 x1 = o) && (decide (voG x2 x1 = g) && Bool.true)))) (decide (vrE x1 = (0 : Int)))) (decide (voE x2 x1 = (0 : Int)))) (Bool.true = decide (vaE c o g x3 = (1 : Int)) ∧ True) !decide (vaE c o g x3 = (0 : Int))) (Bool.true = Bool.false ∧ True) !decide (x3 = x3)) !!decide (x1 = x1)) !!decide (decide (vaE c o g x3 = (0 : Int)) = vaK c o g x3) : Prop) := by kernel_rfl
end Go.Sym

set_option linter.unusedSimpArgs false
namespace Go.Sym
open Go.Proofs Go.Spec
set_option linter.unusedVariables false
theorem bv8 (k : F8) (c o g : Int) (b : By) (d : Bool) : Must (bodyP Try.prog V14 gl0 [] [] 3000 Try.f8 0 [aggB 32 k, vN c o g, .rb true b (.is d)] [] (retQ Try.prog Try.f8 0 ⟨[], .bool true, [], []⟩)) := by
  constructor
  rw [vv8]
  intro x1 x2 x3
  have hx : x3.length ≤ 400 := by
    show (b.take (min (b.length : Int) 400).toNat).length ≤ 400
    rw [List.length_take]; omega
  refine ⟨by omega, by omega, by omega, by omega, ?_⟩
  have hd : decide (decide (vaE c o g x3 = (0 : Int)) = vaK c o g x3) = true := by
    unfold vaE
    cases vaK c o g x3 <;> rfl
  rw [hd, decide_eq_true (rfl : x1 = x1), decide_eq_true (rfl : x3 = x3)]
  refine ⟨rfl, rfl, ?_⟩
  cases hK : vaK c o g x3
  · have hE : vaE c o g x3 = 1 := by unfold vaE; rw [hK]; rfl
    rw [hE]
    exact ⟨rfl, trivial⟩
  · have hE : vaE c o g x3 = 0 := by unfold vaE; rw [hK]; rfl
    have hM : x1 = vaS x2 c o g x3 := by show vaM x2 c o g x3 = _; unfold vaM; rw [if_pos hK]
    obtain ⟨a1, a2, a3, a4, a5⟩ := voE_S (k := x2) hK
    obtain ⟨c1, c2, c3, c4⟩ := vrE_S (k := x2) hK
    have hl := vaS_len x2 c o g x3
    rw [hE, hM, a1, a2, a3, a4, a5, c1, c2, c3, c4]
    refine ⟨rfl, by omega, rfl, ?_⟩
    rw [decide_eq_true (rfl : c = c), decide_eq_true (rfl : o = o), decide_eq_true (rfl : g = g)]
    exact ⟨rfl, (decide_eq_true rfl).symm, trivial⟩
end Go.Sym

/- VaultSeals: of all keys, notes and snapshots what is sealed is the document's, or that it can't be; it is opened again. No conditions. -/
namespace Go.Sym
open Go.Proofs Go.Spec
theorem w8 (W : World) (v0 : Value) (k : F8) (h0 : VRel (κW W) (aggB 32 k) v0) (v1 : Value) (c o g : Int) (h1 : VRel (κW W) (.agg [.int .i64 c, .int .i64 o, .int .i64 g]) v1) (v2 : Value) (l2 : List (BitVec 8)) (c2 : Bool) (h2 : VRel (κW W) (.rb true l2 (.is c2)) v2) (_k2 : l2.length ≤ maxLen) :
    Calls Try.prog 8 #[v0, v1, v2] W fun e w' => e = .returned (.bool true) ∧ RowKit.Below W.heap.size W w' := by
  have hv : VRels (κW W) [aggB 32 k, .agg [.int .i64 c, .int .i64 o, .int .i64 g], .rb true l2 (.is c2)] [v0, v1, v2] := by
    simp only [VRels]
    exact ⟨_, _, rfl, h0, _, _, rfl, h1, _, _, rfl, h2, rfl⟩
  refine law_walk (gl := gl0) (Γ := V14) (fn := Try.f8) (av := [aggB 32 k, .agg [.int .i64 c, .int .i64 o, .int .i64 g], .rb true l2 (.is c2)]) (ls := []) [] 3000 (by kernel_rfl) (by kernel_rfl) okV14 (by kernel_rfl) (GW.nil W) (by kernel_rfl) hv ?_
  exact bv8 k c o g l2 c2
end Go.Sym
namespace Go.Proofs.Ytgniepaehjdjaaa.vaultSeals
open Go.ChangeShapes Go.WideShapes Go.ChangeAt Go.RowKit
set_option linter.unusedVariables false

theorem own : ownKnob Try.prog.godebug = none := by kernel_rfl
theorem laid : laidOutB Try.prog = true := by kernel_rfl

set_option maxRecDepth 100000 in
theorem lifted (os : Os) (started : os.Started) (H : Type) (enc : TypeId × Value → H) :
    ReturnsInHanded {} Try.checked os 8 .any (Rows.vaultSealsSpec.pre6 enc Try.prog Try.f8 Rows.vaultSealsRow.domain false) (Rows.vaultSealsSpec.post enc Try.prog Try.f8 false true false false) := by
  refine returnsInHanded_of_change (C := Try.checked) own started (by kernel_rfl) Try.func8
    (ChangeSpec.witness6 (enc := enc) (C := Try.checked) false ⟨#[], #[.agg (Array.replicate 32 (.int .u8 0)), .agg #[.int .i64 0, .int .i64 0, .int .i64 0], .slice none 0 0], []⟩ 8 (by kernel_rfl) (by kernel_rfl) (by kernel_rfl) (by kernel_rfl)) ?_
  intro W base args ds gs before hval0 hW hcnd _
  have hval : ∀ (j : Nat) t v, Try.f8.params[j]? = some t → args[j]? = some v → Value.okWide Try.prog W .any base t v := hval0
  have hW' := hW
  obtain ⟨p, q, hA0, hV, rfl, hfz, hnd⟩ := hW
  have hA : DataW.TrodAll enc Try.prog W 0 (fun _ => true) true Try.f8.params.toList args.toList ds p := hA0
  rw [Try.params8] at hA hval
  obtain ⟨v0, vs0, d0, ds0, p0, q0, hargs, rfl, rfl, h0, r0⟩ := trodAll_cons hA
  obtain ⟨v1, vs1, d1, ds1, p1, q1, rfl, rfl, rfl, h1, r1⟩ := trodAll_cons r0
  obtain ⟨v2, vs2, d2, ds2, p2, q2, rfl, rfl, rfl, h2, r2⟩ := trodAll_cons r1
  obtain ⟨rfl, rfl, rfl⟩ := trodAll_nil r2
  obtain rfl : args = #[v0, v1, v2] := by cases args; simp_all
  obtain ⟨rfl, rfl⟩ := trodVars_none hV
  clear hA0 hval0
  have hlt0 : ∀ x ∈ p0, x.block < W.heap.size := fun x hx => hW'.lt x (by simp [hx])
  obtain ⟨fuel0, hf0⟩ := h0
  obtain ⟨avs0, hs0, hd0, hr0⟩ := Go.Sym.rd_flat 9 75 (List.replicate 32 (.i .u8)) _ _ _ (by kernel_rfl) hf0
  obtain ⟨k, rfl⟩ := Go.Sym.sh_by hs0
  have hu0 := Go.Sym.agg_of_cells hr0 (by simp)
  have hlt1 : ∀ x ∈ p1, x.block < W.heap.size := fun x hx => hW'.lt x (by simp [hx])
  obtain ⟨fuel1, hf1⟩ := h1
  obtain ⟨avs1, hs1, hd1, hr1⟩ := Go.Sym.rd_flat 9 77 ([.i .i64, .i .i64, .i .i64]) _ _ _ (by kernel_rfl) hf1
  obtain ⟨c, o, g, rfl⟩ := Go.Sym.sh_ints3 hs1
  have hu1 := Go.Sym.agg_of_cells hr1 (by simp)
  have hlt2 : ∀ x ∈ p2, x.block < W.heap.size := fun x hx => hW'.lt x (by simp [hx])
  obtain ⟨fuel2, hf2⟩ := h2
  obtain ⟨u2, l2, c2, hc2, hcl2, hll2, hu2⟩ := Go.Sym.rd_bytes Try.underlying22 Try.underlying5 (by kernel_rfl) hf2
  have hv2 : v2 = u2 := Go.Sym.cells_slice Try.underlying22 (hval 2 22 v2 rfl rfl) hc2
  subst hv2
  refine (Go.Sym.w8 W v0 k hu0 v1 c o g hu1 v2 l2 c2 hu2 hll2).mono fun e W' ⟨he, bel⟩ => ?_
  subst he
  exact ⟨_, rfl, _, _, _, [], _, [], hW', trodAll_mk1 (shut_bool Try.underlying4 _), (trodAll_cons_mk (Below.trod laid (by kernel_rfl) (of_decide_eq_true (by kernel_rfl)) ⟨fuel0, hf0⟩ bel hlt0) (trodAll_cons_mk (Below.trod laid (by kernel_rfl) (of_decide_eq_true (by kernel_rfl)) ⟨fuel1, hf1⟩ bel hlt1) (trodAll_cons_mk (Below.trod laid (by kernel_rfl) (of_decide_eq_true (by kernel_rfl)) ⟨fuel2, hf2⟩ bel hlt2) trodAll_mk0))), rfl, bel.frame _, fun h => by cases h⟩

theorem over : Rows.vaultSealsRow.holds Try.pinned (OpenSpec.ofChange Rows.vaultSealsSpec) :=
  OpenClaim.holds_of_wide 8 Try.f8 rfl rfl rfl rfl rfl rfl rfl ⟨rfl, rfl, rfl, rfl, rfl⟩ rfl rfl rfl rfl rfl (by kernel_rfl) Try.func8 (by kernel_rfl)
    (of_decide_eq_true (by kernel_rfl)) (by unfold Func.isWrapper; first | (rw [if_pos (by decide +kernel)]; kernel_rfl) | (rw [if_neg (by decide +kernel)]; exact ⟨rfl, rfl⟩))
    (fun os started H enc _ => lifted os started H enc)

theorem proved : Rows.VaultSealsSaid :=
  over
#print axioms proved
end Go.Proofs.Ytgniepaehjdjaaa.vaultSeals
