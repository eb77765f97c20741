/- GateEnds: of all epochs and counts of uses reservations end where the law says. No conditions. -/
import Derived.Test.YtgojgoebmembfaaGateA
import Derived.Test.YtgojgoebmembfaaRows
import Derived.WalkKit
import Derived.ProofKit
import Derived.OpenShut
import Derived.ChangeOld
import Derived.Below
import Derived.Carry
namespace Go.Sym
open Go.Proofs Go.Spec
set_option linter.unusedVariables false
theorem b5 (a b : Int) : Must (bodyP Try.prog D10 gl0 [] [(5, lsE (max (IntKind.i64.wrap ((BitVec.ofInt 64 a % 1000#64).toNat : Int)) 0) (IntKind.i64.wrap ((BitVec.ofInt 64 b % 70#64).toNat : Int)))] 300 Try.f5 0 [.int .i64 a, .int .i64 b] [] (retQ Try.prog Try.f5 0 (ret (.bool true)))) := by
  constructor
  rw [vc5]
  generalize hE0 : max (IntKind.i64.wrap ((BitVec.ofInt 64 a % 1000#64).toNat : Int)) 0 = E
  have hE : 0 ≤ E := by omega
  have h70 : (BitVec.ofInt 64 b % 70#64).toNat < 70 := by rw [BitVec.toNat_umod]; exact Nat.mod_lt _ (by decide)
  have hN : 0 ≤ IntKind.i64.wrap ((BitVec.ofInt 64 b % 70#64).toNat : Int) := by rw [wrap_nat _ rfl (by omega)]; omega
  generalize IntKind.i64.wrap ((BitVec.ofInt 64 b % 70#64).toNat : Int) = N at *
  clear hE0
  refine ⟨?_, fun x ⟨hx, hxN⟩ => ?_⟩
  · exact ⟨0, by simp [hN]⟩
  refine brec (fun h1 => ?_) (fun h1 => by simp)
  replace h1 := dlt.1 h1
  have hR : rightG E x ((x + 7) / 8 * 8 : Nat) = true := rightG_iff.2 (by omega)
  have hW : wantsG E x ((x + 7) / 8 * 8 : Nat) 1 = ((min ((x / 8 + 1) * 8) 64 : Nat) : Int) := by
    unfold wantsG
    rw [if_pos hR]
    omega
  rw [hW]
  have hR2 : rightG E x ((min ((x / 8 + 1) * 8) 64 : Nat) : Int) = true := rightG_iff.2 (by omega)
  have hS : resG E x ((x + 7) / 8 * 8 : Nat) ((min ((x / 8 + 1) * 8) 64 : Nat) : Int) = true := by
    unfold resG
    have := rightG_iff.1 hR2
    have hend : endG ((min ((x / 8 + 1) * 8) 64 : Nat) : Int) = true := by
      unfold rightG at hR2
      simp only [Bool.and_eq_true] at hR2
      exact hR2.1.1.2
    rw [hR, hend]
    simp
    omega
  rw [hS]
  have hq : ((x : Int)).tdiv 8 = ((x / 8 : Nat) : Int) := tdiv_nat x 8
  have w1 : IntKind.i64.wrap ((x / 8 : Nat) : Int) = ((x / 8 : Nat) : Int) := wrap_nat _ rfl (by omega)
  have w2 : IntKind.i64.wrap (((x / 8 : Nat) : Int) + 1) = ((x / 8 + 1 : Nat) : Int) := wrap_nat _ (by simp) (by omega)
  have w3 : IntKind.i64.wrap (((x / 8 + 1 : Nat) : Int) * 8) = (((x / 8 + 1) * 8 : Nat) : Int) := wrap_nat _ (by simp) (by omega)
  have w4 : min ((((x / 8 + 1) * 8 : Nat) : Int)) 64 = ((min ((x / 8 + 1) * 8) 64 : Nat) : Int) := by omega
  have w5 : IntKind.i64.wrap (63 - (x : Int)) = 63 - (x : Int) := wrap_i64 (by omega) (by omega)
  have w6 : IntKind.i64.wrap ((x : Int) + 1) = ((x + 1 : Nat) : Int) := wrap_nat _ (by simp) (by omega)
  simp only [hq, w1, w2, w3, w4, w5, w6]
  by_cases h64 : x = 64
  · subst h64
    have e1 : useE E (64 : Nat) ((min ((64 / 8 + 1) * 8) 64 : Nat) : Int) = 8 := by
      unfold useE; rw [if_pos hR2]; simp
    have e2 : useG E (64 : Nat) ((min ((64 / 8 + 1) * 8) 64 : Nat) : Int) = false := by
      unfold useG; rw [e1]; simp
    have e3 : leftG E (64 : Nat) ((min ((64 / 8 + 1) * 8) 64 : Nat) : Int) = 0 := by
      unfold leftG; rw [if_pos hR2]; simp
    rw [e1, e2, e3]
    simp
  · have e1 : useE E x ((min ((x / 8 + 1) * 8) 64 : Nat) : Int) = 0 := by
      unfold useE; rw [if_pos hR2, if_neg (by omega), if_neg (by omega)]
    have e2 : useG E x ((min ((x / 8 + 1) * 8) 64 : Nat) : Int) = true := by
      unfold useG; rw [e1]; simp
    have hR3 : rightG E ((x : Int) + 1) ((min ((x / 8 + 1) * 8) 64 : Nat) : Int) = true := rightG_iff.2 (by omega)
    have e3 : leftG E ((x : Int) + 1) ((min ((x / 8 + 1) * 8) 64 : Nat) : Int) = 63 - (x : Int) := by
      unfold leftG; rw [if_pos hR3]; omega
    have d : decide ((x : Int) = 64) = false := by simp; omega
    rw [e1, e2, e3, d]
    simp only [decide_true, Bool.not_true, Bool.not_false]
    refine ⟨x + 1, by omega, ⟨by omega, by omega⟩, ?_⟩
    simp
    omega
end Go.Sym

/- GateEnds: of all epochs and counts of uses reservations end where the law says. No conditions. -/
namespace Go.Sym
open Go.Proofs
theorem w5 (W : World) (n0 : Int) (n1 : Int) :
    Calls Try.prog 5 #[.int .i64 n0, .int .i64 n1] W fun e w' => e = .returned (.bool true) ∧ RowKit.Below W.heap.size W w' := by
  have hv : VRels (κW W) [.int .i64 n0, .int .i64 n1] [.int .i64 n0, .int .i64 n1] := by
    simp only [VRels]
    exact ⟨_, _, rfl, rfl, _, _, rfl, rfl, rfl⟩
  refine law_walk (gl := gl0) (Γ := D10) (fn := Try.f5) (av := [.int .i64 n0, .int .i64 n1]) (ls := [(5, lsE (max (IntKind.i64.wrap ((BitVec.ofInt 64 n0 % 1000#64).toNat : Int)) 0) (IntKind.i64.wrap ((BitVec.ofInt 64 n1 % 70#64).toNat : Int)))]) [] 300 (by kernel_rfl) (by kernel_rfl) okD10 (by kernel_rfl) (GW.nil W) (by kernel_rfl) hv ?_
  exact b5 n0 n1
end Go.Sym
namespace Go.Proofs.Ytgojgoebmembfaa.gateEnds
open Go.ChangeShapes Go.WideShapes Go.ChangeAt Go.RowKit
set_option linter.unusedVariables false

theorem own : ownKnob Try.prog.godebug = none := by kernel_rfl
theorem laid : laidOutB Try.prog = true := by kernel_rfl

set_option maxRecDepth 100000 in
theorem lifted (os : Os) (started : os.Started) (H : Type) (enc : TypeId × Value → H) :
    ReturnsInHanded {} Try.checked os 5 .any (Rows.gateEndsSpec.pre6 enc Try.prog Try.f5 Rows.gateEndsRow.domain false) (Rows.gateEndsSpec.post enc Try.prog Try.f5 false true false false) := by
  refine returnsInHanded_of_change (C := Try.checked) own started (by kernel_rfl) Try.func5
    (ChangeSpec.witness6 (enc := enc) (C := Try.checked) false ⟨#[], #[.int .i64 0, .int .i64 0], []⟩ 8 (by kernel_rfl) (by kernel_rfl) (by kernel_rfl) (by kernel_rfl)) ?_
  intro W base args ds gs before hval0 hW hcnd _
  have hval : ∀ (j : Nat) t v, Try.f5.params[j]? = some t → args[j]? = some v → Value.okWide Try.prog W .any base t v := hval0
  have hW' := hW
  obtain ⟨p, q, hA0, hV, rfl, hfz, hnd⟩ := hW
  have hA : DataW.TrodAll enc Try.prog W 0 (fun _ => true) true Try.f5.params.toList args.toList ds p := hA0
  rw [Try.params5] at hA hval
  obtain ⟨v0, vs0, d0, ds0, p0, q0, hargs, rfl, rfl, h0, r0⟩ := trodAll_cons hA
  obtain ⟨v1, vs1, d1, ds1, p1, q1, rfl, rfl, rfl, h1, r1⟩ := trodAll_cons r0
  obtain ⟨rfl, rfl, rfl⟩ := trodAll_nil r1
  obtain rfl : args = #[v0, v1] := by cases args; simp_all
  obtain ⟨rfl, rfl⟩ := trodVars_none hV
  obtain ⟨a0, rfl, rfl, rfl, w0⟩ := open_int Try.underlying3 (hval 0 3 v0 rfl rfl) h0
  obtain ⟨a1, rfl, rfl, rfl, w1⟩ := open_int Try.underlying3 (hval 1 3 v1 rfl rfl) h1
  clear hA0 hval0
  refine (Go.Sym.w5 W a0 a1).mono fun e W' ⟨he, bel⟩ => ?_
  subst he
  exact ⟨_, rfl, _, _, _, [], _, [], hW', trodAll_mk1 (shut_bool Try.underlying4 _), (trodAll_cons_mk (shut_int Try.underlying3 w0) (trodAll_cons_mk (shut_int Try.underlying3 w1) trodAll_mk0)), rfl, bel.frame _, fun h => by cases h⟩

theorem over : Rows.gateEndsRow.holds Try.pinned (OpenSpec.ofChange Rows.gateEndsSpec) :=
  OpenClaim.holds_of_wide 5 Try.f5 rfl rfl rfl rfl rfl rfl rfl ⟨rfl, rfl, rfl, rfl, rfl⟩ rfl rfl rfl rfl rfl (by kernel_rfl) Try.func5 (by kernel_rfl)
    (of_decide_eq_true (by kernel_rfl)) (by unfold Func.isWrapper; first | (rw [if_pos (by decide +kernel)]; kernel_rfl) | (rw [if_neg (by decide +kernel)]; exact ⟨rfl, rfl⟩))
    (fun os started H enc _ => lifted os started H enc)

theorem proved : Rows.GateEndsSaid :=
  over
#print axioms proved
end Go.Proofs.Ytgojgoebmembfaa.gateEnds
