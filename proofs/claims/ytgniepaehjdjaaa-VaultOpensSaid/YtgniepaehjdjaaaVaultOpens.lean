/- VaultOpens: of all bytes that a bend makes of what is sealed, the snapshot is told, or the error. No conditions. -/
import Derived.Test.YtgniepaehjdjaaaVauB
import Derived.Test.YtgniepaehjdjaaaAeadB
import Derived.Test.YtgniepaehjdjaaaRows
import Derived.WalkKit
import Derived.ProofKit
import Derived.OpenShut
import Derived.ChangeOld
import Derived.Below
import Derived.Carry
namespace Go.Sym
open Go.Proofs Go.Spec
set_option linter.unusedVariables false
set_option maxRecDepth 100000 in
theorem vv8 (k : F8) (c o g : Int) (b : By) (d : Bool) : bodyP Try.prog V14 gl0 [] [] 3000 Try.f8 0 [aggB 32 k, vN c o g, .rb true b (.is d)] [] (retQ Try.prog Try.f8 0 ⟨[], .bool true, [], []⟩) = (
let x1 := vaM (fun (i : Nat) => (rg 32 k).getD i (0 : BitVec 8)) c o g (List.take (Min.min (↑(List.length b) : Int) (400 : Int)).toNat b); let x2 := fun (i : Nat) => (rg 32 k).getD i (0 : BitVec 8); let x3 := List.take (Min.min (↑(List.length b) : Int) (400 : Int)).toNat b; (0 : Int) ≤ Min.min (↑(List.length b) : Int) (400 : Int) ∧ (Min.min (↑(List.length b) : Int) (400 : Int)).toNat ≤ List.length b ∧ x3.length + 512 < 1099511627776 ∧ x3.length + 512 < 1099511627776 ∧ @Bool.rec (fun _ => Prop) (Bool.true = Bool.false ∧ True) (List.length x1 = List.length x1 ∧ List.length x1 = List.length x1 ∧ @Bool.rec (fun _ => Prop) (Bool.true = Bool.false ∧ True) (@Bool.rec (fun _ => Prop) (@Bool.rec (fun _ => Prop) (List.length x1 = List.length x1 ∧ List.length x1 + 512 < 1099511627776 ∧ List.length x1 = List.length x1 ∧ @Bool.rec (fun _ => Prop) (Bool.true = Bool.false ∧ True) (@Bool.rec (fun _ => Prop) (Bool.true = Bool.false ∧ True) (@Bool.rec (fun _ => Prop) (Bool.true = Bool.false ∧ True) (@Bool.rec (fun _ => Prop) (Bool.true = Bool.false ∧ True) (List.length (voM x2 x1) = List.length (voM x2 x1) ∧ Bool.true = decide (voM x2 x1 = x3) ∧ True) (decide (vrC x1 = voC x2 x1) && (decide (vrO x1 = voO x2 x1) && (decide (vrG x1 = voG x2 x1) && Bool.true)))) (decide (voC x2 x1 = c) && (decide (voO x2 x1 = o) && (decide (voG x2 x1 = g) && Bool.true)))) (decide (vrE x1 = (0 : Int)))) (decide (voE x2 x1 = (0 : Int)))) (Bool.true = decide (vaE c o g x3 = (1 : Int)) ∧ True) !decide (vaE c o g x3 = (0 : Int))) (Bool.true = Bool.false ∧ True) !decide (x3 = x3)) !!decide (x1 = x1)) !!decide (decide (vaE c o g x3 = (0 : Int)) = vaK c o g x3) : Prop) := by kernel_rfl
end Go.Sym

set_option linter.unusedSimpArgs false
namespace Go.Sym
open Go.Proofs Go.Spec
set_option linter.unusedVariables false
theorem bv8 (k : F8) (c o g : Int) (b : By) (d : Bool) : Must (bodyP Try.prog V14 gl0 [] [] 3000 Try.f8 0 [aggB 32 k, vN c o g, .rb true b (.is d)] [] (retQ Try.prog Try.f8 0 ⟨[], .bool true, [], []⟩)) := by
  constructor
  rw [vv8]
  intro x1 x2 x3
  have hx : x3.length ≤ 400 := by
    show (b.take (min (b.length : Int) 400).toNat).length ≤ 400
    rw [List.length_take]; omega
  refine ⟨by omega, by omega, by omega, by omega, ?_⟩
  have hd : decide (decide (vaE c o g x3 = (0 : Int)) = vaK c o g x3) = true := by
    unfold vaE
    cases vaK c o g x3 <;> rfl
  rw [hd, decide_eq_true (rfl : x1 = x1), decide_eq_true (rfl : x3 = x3)]
  refine ⟨rfl, rfl, ?_⟩
  cases hK : vaK c o g x3
  · have hE : vaE c o g x3 = 1 := by unfold vaE; rw [hK]; rfl
    rw [hE]
    exact ⟨rfl, trivial⟩
  · have hE : vaE c o g x3 = 0 := by unfold vaE; rw [hK]; rfl
    have hM : x1 = vaS x2 c o g x3 := by show vaM x2 c o g x3 = _; unfold vaM; rw [if_pos hK]
    obtain ⟨a1, a2, a3, a4, a5⟩ := voE_S (k := x2) hK
    obtain ⟨c1, c2, c3, c4⟩ := vrE_S (k := x2) hK
    have hl := vaS_len x2 c o g x3
    rw [hE, hM, a1, a2, a3, a4, a5, c1, c2, c3, c4]
    refine ⟨rfl, by omega, rfl, ?_⟩
    rw [decide_eq_true (rfl : c = c), decide_eq_true (rfl : o = o), decide_eq_true (rfl : g = g)]
    exact ⟨rfl, (decide_eq_true rfl).symm, trivial⟩
end Go.Sym

namespace Go.Sym
open Go.Proofs Go.Spec
set_option linter.unusedVariables false
set_option maxRecDepth 100000 in
theorem vv9 (k : F8) (c o g x y z : Int) : bodyP Try.prog V14 gl0 [] [] 3000 Try.f9 0 [aggB 32 k, vN c o g, .agg [.int .i64 x, .int .i64 y, .int .i64 z]] [] (retQ Try.prog Try.f9 0 ⟨[], .bool true, [], []⟩) = (
let x1 := vaM (fun (i : Nat) => (rg 32 k).getD i (0 : BitVec 8)) c o g (List.replicate (IntKind.i64.wrap (↑(BitVec.ofInt 64 z % BitVec.ofNat 64 60).toNat : Int)).toNat (0 : BitVec 8)); let x2 := (IntKind.i64.wrap (↑(BitVec.ofInt 64 x % BitVec.ofInt 64 (↑(List.length x1) : Int)).toNat : Int)).toNat; let x3 := List.set x1 x2 (List.getD x1 x2 (0 : BitVec 8) ^^^ BitVec.ofInt 8 y); let x4 := fun (i : Nat) => (rg 32 k).getD i (0 : BitVec 8); let x5 := IntKind.i64.wrap (↑(BitVec.ofInt 64 z % BitVec.ofNat 64 60).toNat : Int); let x6 := @Bool.rec (fun _ => Prop) (Bool.true = Bool.false ∧ True) (@Bool.rec (fun _ => Prop) (Bool.true = Bool.false ∧ True) (Bool.true = (decide (vrC (List.take x2 x1) = voC x4 (List.take x2 x1)) && (decide (vrO (List.take x2 x1) = voO x4 (List.take x2 x1)) && (decide (vrG (List.take x2 x1) = voG x4 (List.take x2 x1)) && Bool.true))) ∧ True) (decide (vrE (List.take x2 x1) = (0 : Int)))) (decide (voE x4 (List.take x2 x1) = (0 : Int))); let x7 := @Bool.rec (fun _ => Prop) (Bool.true = Bool.false ∧ True) (@Bool.rec (fun _ => Prop) (Bool.true = Bool.false ∧ True) (Bool.true = (decide (vrC x3 = voC x4 x3) && (decide (vrO x3 = voO x4 x3) && (decide (vrG x3 = voG x4 x3) && Bool.true))) ∧ True) (decide (vrE x3 = (0 : Int)))) (decide (voE x4 x3 = (0 : Int))); let x8 := (0 : Int) ≤ IntKind.i64.wrap (↑(BitVec.ofInt 64 x % BitVec.ofInt 64 (↑(List.length x1) : Int)).toNat : Int); (0 : Int) ≤ x5 ∧ (0 : Int) ≤ x5 ∧ x5.toNat ≤ x5.toNat ∧ 1 * x5.toNat ≤ 281474976710656 ∧ x5.toNat ≤ 9223372036854775807 ∧ x5.toNat = (List.replicate x5.toNat (0 : BitVec 8)).length ∧ (List.replicate x5.toNat (0 : BitVec 8)).length + 512 < 1099511627776 ∧ @Bool.rec (fun _ => Prop) ((BitVec.ofInt 64 (↑(List.length x1) : Int)).toNat ≠ 0 ∧ @Bool.rec (fun _ => Prop) (x8 ∧ x2 < List.length x1 ∧ x2 < List.length x1 ∧ x8 ∧ x2 < List.length x1 ∧ x2 < List.length x1 ∧ List.length x1 = x3.length ∧ x3.length + 512 < 1099511627776 ∧ List.length x1 = x3.length ∧ x3.length + 512 < 1099511627776 ∧ List.length x1 = x3.length ∧ @Bool.rec (fun _ => Prop) (Bool.true = Bool.false ∧ True) (@Bool.rec (fun _ => Prop) (Bool.true = Bool.false ∧ True) (List.length (voM x4 x3) = List.length (voM x4 x3) ∧ List.length (voM x4 x3) = List.length (voM x4 x3) ∧ @Bool.rec (fun _ => Prop) (@Bool.rec (fun _ => Prop) (Bool.true = Bool.true ∧ True) (@Bool.rec (fun _ => Prop) x7 (@Bool.rec (fun _ => Prop) (Bool.true = Bool.true ∧ True) x7 !decide (vrE x3 = (0 : Int))) (decide (voE x4 x3 = (4 : Int)))) !decide (vrE x3 = voE x4 x3)) (Bool.true = Bool.false ∧ True) !decide (voM x4 x3 = voM x4 x3)) !!(decide (voC x4 x3 = voC x4 x3) && (decide (voO x4 x3 = voO x4 x3) && (decide (voG x4 x3 = voG x4 x3) && Bool.true)))) !!decide (voE x4 x3 = voE x4 x3)) (x8 ∧ x2 ≤ List.length x1 ∧ 0 + x2 ≤ List.length x1 ∧ (List.take x2 x1).length + 512 < 1099511627776 ∧ 0 + x2 ≤ List.length x1 ∧ (List.take x2 x1).length + 512 < 1099511627776 ∧ 0 + x2 ≤ List.length x1 ∧ @Bool.rec (fun _ => Prop) (Bool.true = Bool.false ∧ True) (@Bool.rec (fun _ => Prop) (Bool.true = Bool.false ∧ True) (List.length (voM x4 (List.take x2 x1)) = List.length (voM x4 (List.take x2 x1)) ∧ List.length (voM x4 (List.take x2 x1)) = List.length (voM x4 (List.take x2 x1)) ∧ @Bool.rec (fun _ => Prop) (@Bool.rec (fun _ => Prop) (Bool.true = Bool.true ∧ True) (@Bool.rec (fun _ => Prop) x6 (@Bool.rec (fun _ => Prop) (Bool.true = Bool.true ∧ True) x6 !decide (vrE (List.take x2 x1) = (0 : Int))) (decide (voE x4 (List.take x2 x1) = (4 : Int)))) !decide (vrE (List.take x2 x1) = voE x4 (List.take x2 x1))) (Bool.true = Bool.false ∧ True) !decide (voM x4 (List.take x2 x1) = voM x4 (List.take x2 x1))) !!(decide (voC x4 (List.take x2 x1) = voC x4 (List.take x2 x1)) && (decide (voO x4 (List.take x2 x1) = voO x4 (List.take x2 x1)) && (decide (voG x4 (List.take x2 x1) = voG x4 (List.take x2 x1)) && Bool.true)))) !!decide (voE x4 (List.take x2 x1) = voE x4 (List.take x2 x1))) (decide (y.tmod (5 : Int) = (4 : Int)))) (Bool.true = Bool.true ∧ True) !vaK c o g (List.replicate x5.toNat (0 : BitVec 8)) : Prop) := by kernel_rfl
end Go.Sym

set_option linter.unusedSimpArgs false
namespace Go.Sym
open Go.Proofs Go.Spec
set_option linter.unusedVariables false
theorem ix_lt (x : Int) (L : Nat) (h : 0 < L) (h2 : L < 1099511627776) : (BitVec.ofInt 64 (L : Int)).toNat ≠ 0 ∧ 0 ≤ IntKind.i64.wrap (↑(BitVec.ofInt 64 x % BitVec.ofInt 64 (L : Int)).toNat : Int) ∧ (IntKind.i64.wrap (↑(BitVec.ofInt 64 x % BitVec.ofInt 64 (L : Int)).toNat : Int)).toNat < L := by
  have he : (BitVec.ofInt 64 (L : Int)).toNat = L := by
    rw [BitVec.ofInt_natCast, BitVec.toNat_ofNat]
    exact Nat.mod_eq_of_lt (by omega)
  have hl : (BitVec.ofInt 64 x % BitVec.ofInt 64 (L : Int)).toNat < L := by
    rw [BitVec.toNat_umod, he]
    exact Nat.mod_lt _ h
  have w : IntKind.i64.wrap (↑(BitVec.ofInt 64 x % BitVec.ofInt 64 (L : Int)).toNat : Int) = ((BitVec.ofInt 64 x % BitVec.ofInt 64 (L : Int)).toNat : Int) := wrap_nat _ rfl (by omega)
  rw [w]
  omega
/-- What the law asks of the bytes that it bent. -/
def t9X (k : F8) (B : By) : Prop := @Bool.rec (fun _ => Prop) (Bool.true = Bool.false ∧ True) (@Bool.rec (fun _ => Prop) (Bool.true = Bool.false ∧ True) (Bool.true = (decide (vrC B = voC k B) && (decide (vrO B = voO k B) && (decide (vrG B = voG k B) && Bool.true))) ∧ True) (decide (vrE B = (0 : Int)))) (decide (voE k B = (0 : Int)))
def t9P (k : F8) (B : By) : Prop := @Bool.rec (fun _ => Prop) (Bool.true = Bool.false ∧ True) (@Bool.rec (fun _ => Prop) (Bool.true = Bool.false ∧ True) (List.length (voM k B) = List.length (voM k B) ∧ List.length (voM k B) = List.length (voM k B) ∧ @Bool.rec (fun _ => Prop) (@Bool.rec (fun _ => Prop) (Bool.true = Bool.true ∧ True) (@Bool.rec (fun _ => Prop) (t9X k B) (@Bool.rec (fun _ => Prop) (Bool.true = Bool.true ∧ True) (t9X k B) !decide (vrE B = (0 : Int))) (decide (voE k B = (4 : Int)))) !decide (vrE B = voE k B)) (Bool.true = Bool.false ∧ True) !decide (voM k B = voM k B)) !!(decide (voC k B = voC k B) && (decide (voO k B = voO k B) && (decide (voG k B = voG k B) && Bool.true)))) !!decide (voE k B = voE k B)
theorem t9 (k : F8) (B : By) : t9P k B := by
  unfold t9P
  rw [decide_eq_true (rfl : voE k B = voE k B), decide_eq_true (rfl : voC k B = voC k B), decide_eq_true (rfl : voO k B = voO k B), decide_eq_true (rfl : voG k B = voG k B), decide_eq_true (rfl : voM k B = voM k B)]
  refine ⟨rfl, rfl, ?_⟩
  by_cases h : vrE B = voE k B
  · rw [decide_eq_true h]; exact ⟨rfl, trivial⟩
  · rw [decide_eq_false h]
    by_cases h0 : vrE B = 0
    · obtain ⟨l1, l2, l3⟩ := vrE_ok h0
      have h4 : voE k B = 4 := by
        have hv : voE k B = openE k (vnN (beN (B.take 4))) (B.drop 10) (B.take 10) := by unfold voE; rw [if_pos h0]
        rw [hv]
        exact openE_4 (by rw [List.length_drop]; omega) (by rw [← hv]; omega)
      rw [decide_eq_true h4, decide_eq_true h0]
      exact ⟨rfl, trivial⟩
    · exact absurd (by unfold voE; rw [if_neg h0]) h
theorem bv9 (k : F8) (c o g x y z : Int) : Must (bodyP Try.prog V14 gl0 [] [] 3000 Try.f9 0 [aggB 32 k, vN c o g, .agg [.int .i64 x, .int .i64 y, .int .i64 z]] [] (retQ Try.prog Try.f9 0 ⟨[], .bool true, [], []⟩)) := by
  constructor
  rw [vv9]
  intro x1 x2 x3 x4 x5 x6 x7 x8
  have h5 : 0 ≤ x5 ∧ x5 ≤ 59 := by
    have hr : (BitVec.ofInt 64 z % BitVec.ofNat 64 60).toNat < 60 := by
      rw [BitVec.toNat_umod]; exact Nat.mod_lt _ (by decide)
    show 0 ≤ IntKind.i64.wrap _ ∧ IntKind.i64.wrap _ ≤ _
    rw [wrap_i64 (by omega) (by omega)]
    omega
  have hr := List.length_replicate (n := x5.toNat) (a := (0 : BitVec 8))
  have e1 : x1 = vaM x4 c o g (List.replicate x5.toNat 0) := rfl
  refine ⟨by omega, by omega, by omega, by omega, by omega, hr.symm, by omega, ?_⟩
  cases hK : vaK c o g (List.replicate x5.toNat 0)
  · exact ⟨rfl, trivial⟩
  have hM : x1 = vaS x4 c o g (List.replicate x5.toNat 0) := by rw [e1]; unfold vaM; rw [if_pos hK]
  have hl : x1.length ≤ 85 ∧ 26 ≤ x1.length := by rw [hM, vaS_len, hr]; omega
  obtain ⟨i1, i2, i3⟩ := ix_lt x x1.length (by omega) (by omega)
  have i4 : x2 < x1.length := i3
  have hs : x3.length = x1.length := List.length_set ..
  have ht : (x1.take x2).length = x2 := by rw [List.length_take]; omega
  refine ⟨i1, ?_⟩
  cases decide (y.tmod (5 : Int) = (4 : Int))
  · exact ⟨i2, i4, i4, i2, i4, i4, hs.symm, by omega, hs.symm, by omega, hs.symm, t9 x4 x3⟩
  · exact ⟨i2, by omega, by omega, by omega, by omega, by omega, by omega, t9 x4 (x1.take x2)⟩
end Go.Sym

/- VaultOpens: of all bytes that a bend makes of what is sealed, the snapshot is told, or the error. No conditions. -/
namespace Go.Sym
open Go.Proofs Go.Spec
theorem w9 (W : World) (v0 : Value) (k : F8) (h0 : VRel (κW W) (aggB 32 k) v0) (v1 : Value) (c o g : Int) (h1 : VRel (κW W) (.agg [.int .i64 c, .int .i64 o, .int .i64 g]) v1) (v2 : Value) (x y z : Int) (h2 : VRel (κW W) (.agg [.int .i64 x, .int .i64 y, .int .i64 z]) v2) :
    Calls Try.prog 9 #[v0, v1, v2] W fun e w' => e = .returned (.bool true) ∧ RowKit.Below W.heap.size W w' := by
  have hv : VRels (κW W) [aggB 32 k, .agg [.int .i64 c, .int .i64 o, .int .i64 g], .agg [.int .i64 x, .int .i64 y, .int .i64 z]] [v0, v1, v2] := by
    simp only [VRels]
    exact ⟨_, _, rfl, h0, _, _, rfl, h1, _, _, rfl, h2, rfl⟩
  refine law_walk (gl := gl0) (Γ := V14) (fn := Try.f9) (av := [aggB 32 k, .agg [.int .i64 c, .int .i64 o, .int .i64 g], .agg [.int .i64 x, .int .i64 y, .int .i64 z]]) (ls := []) [] 3000 (by kernel_rfl) (by kernel_rfl) okV14 (by kernel_rfl) (GW.nil W) (by kernel_rfl) hv ?_
  exact bv9 k c o g x y z
end Go.Sym
namespace Go.Proofs.Ytgniepaehjdjaaa.vaultOpens
open Go.ChangeShapes Go.WideShapes Go.ChangeAt Go.RowKit
set_option linter.unusedVariables false

theorem own : ownKnob Try.prog.godebug = none := by kernel_rfl
theorem laid : laidOutB Try.prog = true := by kernel_rfl

set_option maxRecDepth 100000 in
theorem lifted (os : Os) (started : os.Started) (H : Type) (enc : TypeId × Value → H) :
    ReturnsInHanded {} Try.checked os 9 .any (Rows.vaultOpensSpec.pre6 enc Try.prog Try.f9 Rows.vaultOpensRow.domain false) (Rows.vaultOpensSpec.post enc Try.prog Try.f9 false true false false) := by
  refine returnsInHanded_of_change (C := Try.checked) own started (by kernel_rfl) Try.func9
    (ChangeSpec.witness6 (enc := enc) (C := Try.checked) false ⟨#[], #[.agg (Array.replicate 32 (.int .u8 0)), .agg #[.int .i64 0, .int .i64 0, .int .i64 0], .agg #[.int .i64 0, .int .i64 0, .int .i64 0]], []⟩ 8 (by kernel_rfl) (by kernel_rfl) (by kernel_rfl) (by kernel_rfl)) ?_
  intro W base args ds gs before hval0 hW hcnd _
  have hval : ∀ (j : Nat) t v, Try.f9.params[j]? = some t → args[j]? = some v → Value.okWide Try.prog W .any base t v := hval0
  have hW' := hW
  obtain ⟨p, q, hA0, hV, rfl, hfz, hnd⟩ := hW
  have hA : DataW.TrodAll enc Try.prog W 0 (fun _ => true) true Try.f9.params.toList args.toList ds p := hA0
  rw [Try.params9] at hA hval
  obtain ⟨v0, vs0, d0, ds0, p0, q0, hargs, rfl, rfl, h0, r0⟩ := trodAll_cons hA
  obtain ⟨v1, vs1, d1, ds1, p1, q1, rfl, rfl, rfl, h1, r1⟩ := trodAll_cons r0
  obtain ⟨v2, vs2, d2, ds2, p2, q2, rfl, rfl, rfl, h2, r2⟩ := trodAll_cons r1
  obtain ⟨rfl, rfl, rfl⟩ := trodAll_nil r2
  obtain rfl : args = #[v0, v1, v2] := by cases args; simp_all
  obtain ⟨rfl, rfl⟩ := trodVars_none hV
  clear hA0 hval0
  have hlt0 : ∀ x ∈ p0, x.block < W.heap.size := fun x hx => hW'.lt x (by simp [hx])
  obtain ⟨fuel0, hf0⟩ := h0
  obtain ⟨avs0, hs0, hd0, hr0⟩ := Go.Sym.rd_flat 9 75 (List.replicate 32 (.i .u8)) _ _ _ (by kernel_rfl) hf0
  obtain ⟨k, rfl⟩ := Go.Sym.sh_by hs0
  have hu0 := Go.Sym.agg_of_cells hr0 (by simp)
  have hlt1 : ∀ x ∈ p1, x.block < W.heap.size := fun x hx => hW'.lt x (by simp [hx])
  obtain ⟨fuel1, hf1⟩ := h1
  obtain ⟨avs1, hs1, hd1, hr1⟩ := Go.Sym.rd_flat 9 77 ([.i .i64, .i .i64, .i .i64]) _ _ _ (by kernel_rfl) hf1
  obtain ⟨c, o, g, rfl⟩ := Go.Sym.sh_ints3 hs1
  have hu1 := Go.Sym.agg_of_cells hr1 (by simp)
  have hlt2 : ∀ x ∈ p2, x.block < W.heap.size := fun x hx => hW'.lt x (by simp [hx])
  obtain ⟨fuel2, hf2⟩ := h2
  obtain ⟨avs2, hs2, hd2, hr2⟩ := Go.Sym.rd_flat 9 87 ([.i .i64, .i .i64, .i .i64]) _ _ _ (by kernel_rfl) hf2
  obtain ⟨x, y, z, rfl⟩ := Go.Sym.sh_ints3 hs2
  have hu2 := Go.Sym.agg_of_cells hr2 (by simp)
  refine (Go.Sym.w9 W v0 k hu0 v1 c o g hu1 v2 x y z hu2).mono fun e W' ⟨he, bel⟩ => ?_
  subst he
  exact ⟨_, rfl, _, _, _, [], _, [], hW', trodAll_mk1 (shut_bool Try.underlying4 _), (trodAll_cons_mk (Below.trod laid (by kernel_rfl) (of_decide_eq_true (by kernel_rfl)) ⟨fuel0, hf0⟩ bel hlt0) (trodAll_cons_mk (Below.trod laid (by kernel_rfl) (of_decide_eq_true (by kernel_rfl)) ⟨fuel1, hf1⟩ bel hlt1) (trodAll_cons_mk (Below.trod laid (by kernel_rfl) (of_decide_eq_true (by kernel_rfl)) ⟨fuel2, hf2⟩ bel hlt2) trodAll_mk0))), rfl, bel.frame _, fun h => by cases h⟩

theorem over : Rows.vaultOpensRow.holds Try.pinned (OpenSpec.ofChange Rows.vaultOpensSpec) :=
  OpenClaim.holds_of_wide 9 Try.f9 rfl rfl rfl rfl rfl rfl rfl ⟨rfl, rfl, rfl, rfl, rfl⟩ rfl rfl rfl rfl rfl (by kernel_rfl) Try.func9 (by kernel_rfl)
    (of_decide_eq_true (by kernel_rfl)) (by unfold Func.isWrapper; first | (rw [if_pos (by decide +kernel)]; kernel_rfl) | (rw [if_neg (by decide +kernel)]; exact ⟨rfl, rfl⟩))
    (fun os started H enc _ => lifted os started H enc)

theorem proved : Rows.VaultOpensSaid :=
  over
#print axioms proved
end Go.Proofs.Ytgniepaehjdjaaa.vaultOpens
