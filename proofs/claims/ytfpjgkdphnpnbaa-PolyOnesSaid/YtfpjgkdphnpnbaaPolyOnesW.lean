/- The walk of PolyOnes: it answers true, and writes nothing that was there. -/
import Derived.Test.YtfpjgkdphnpnbaaPolyKit
namespace Go.Sym
open Go.Proofs
set_option linter.unusedVariables false
set_option maxRecDepth 20000
noncomputable def P8 : Ctx := P7.add 19 (.n true (pureF [1, 1] (autoG Try.prog gl0 P7 100 Try.f19)))
theorem p8 : OKs Try.prog gl0 P8 := p7.auto 100 (f := 19) (by kernel_rfl) rfl (by decide) (by decide) (by kernel_rfl) (fun args w => by kernel_rfl)
theorem v18 : evalFn Try.prog P8 100 Try.f18 (entry gl0 []) = some (.bool true) := by kernel_rfl
def G18 : List DA → Option AV := fun _ => some (.bool true)
theorem c18 : CtrOK Try.prog gl0 18 (.n true (pureF [] G18)) := by
  refine nok_pure (Γ := P8) (fn := Try.f18) (by kernel_rfl) rfl (by decide) (by decide) p8 (by kernel_rfl) (fun args w => by kernel_rfl) ?_
  intro ds v hl hg _
  obtain rfl : ds = [] := List.eq_nil_of_length_eq_zero hl
  simp only [G18, Option.some.injEq] at hg
  subst hg
  exact awp_of_evalFn rfl v18
noncomputable def P9 : Ctx := P8.add 18 (.n true (pureF [] G18))
theorem p9 : OKs Try.prog gl0 P9 := p8.add c18
def sndC : Code → Code | .seq _ b => b | c => c
noncomputable def run10 (E : Env) (h : H) (i j : Nat) : Option AV :=
  endV Try.prog Try.f10 (arun Try.prog P9 Try.f10.ntmps 100 (sndC (sndC (Try.f10.body.getD .skip))) ⟨((E.put 5 (.int .i64 i)).put 6 (.int .i64 j)), h, 49152⟩)
def isT : Option AV → Bool
  | some (.bool true) => true
  | _ => false
theorem isT_eq {r : Option AV} (h : isT r = true) : r = some (.bool true) := by
  unfold isT at h
  split at h
  · rfl
  · cases h
theorem all10b (E : Env) (h : H) : ((List.range 6).all fun i => (List.range 16).all fun j => isT (run10 E h i j)) = true := by kernel_rfl
theorem all10 (E : Env) (h : H) (i j : Nat) (hi : i < 6) (hj : j < 16) : run10 E h i j = some (.bool true) := by
  have h1 := List.all_eq_true.1 (all10b E h) i (List.mem_range.2 hi)
  have h2 := List.all_eq_true.1 h1 j (List.mem_range.2 hj)
  exact isT_eq h2

theorem env_two {e : Env} {t u : Nat} {v x : AV} (h : e t = v) (k : e u = x) : e = (e.put t v).put u x := by
  funext s
  unfold Env.put
  split
  · subst_vars; rfl
  · split
    · subst_vars; rfl
    · rfl

theorem wrap_nat (n : Nat) (h : n < 9223372036854775808) : IntKind.i64.wrap (n : Int) = n := by
  simp [IntKind.wrap, IntKind.signed, IntKind.bits]
  rw [if_neg (by omega)]
  omega

theorem awp10 (a0 a1 : Int) : awp Try.prog P9 Try.f10.ntmps (Try.f10.body.getD .skip) (retPure Try.prog Try.f10 (.bool true)) (entry gl0 [.sc (.int .i64 a0), .sc (.int .i64 a1)]) := by
  have hr : isRun (runTo Try.prog P9 Try.f10.ntmps 100 100 2 (Try.f10.body.getD .skip) (entry gl0 [.sc (.int .i64 a0), .sc (.int .i64 a1)])) = true := by kernel_rfl
  have hc : rcode (runTo Try.prog P9 Try.f10.ntmps 100 100 2 (Try.f10.body.getD .skip) (entry gl0 [.sc (.int .i64 a0), .sc (.int .i64 a1)])) = sndC (sndC (Try.f10.body.getD .skip)) := by kernel_rfl
  have h5 : (rst (runTo Try.prog P9 Try.f10.ntmps 100 100 2 (Try.f10.body.getD .skip) (entry gl0 [.sc (.int .i64 a0), .sc (.int .i64 a1)]))).env 5 = .int .i64 (IntKind.i64.wrap ((BitVec.ofInt 64 a0 % 6#64).toNat : Int)) := by kernel_rfl
  have h6 : (rst (runTo Try.prog P9 Try.f10.ntmps 100 100 2 (Try.f10.body.getD .skip) (entry gl0 [.sc (.int .i64 a0), .sc (.int .i64 a1)]))).env 6 = .int .i64 (IntKind.i64.wrap ((BitVec.ofInt 64 a1 % 16#64).toNat : Int)) := by kernel_rfl
  have hn : (rst (runTo Try.prog P9 Try.f10.ntmps 100 100 2 (Try.f10.body.getD .skip) (entry gl0 [.sc (.int .i64 a0), .sc (.int .i64 a1)]))).nx = 49152 := by kernel_rfl
  refine awp_to 100 100 2 hr ?_
  rewrite [hc]
  revert h5 h6 hn
  generalize rst (runTo Try.prog P9 Try.f10.ntmps 100 100 2 (Try.f10.body.getD .skip) (entry gl0 [.sc (.int .i64 a0), .sc (.int .i64 a1)])) = s
  intro h5 h6 hn
  obtain ⟨e, h, nx⟩ := s
  simp only at h5 h6 hn
  have b0 : (BitVec.ofInt 64 a0 % 6#64).toNat < 6 := by rw [BitVec.toNat_umod]; exact Nat.mod_lt _ (by decide)
  have b1 : (BitVec.ofInt 64 a1 % 16#64).toNat < 16 := by rw [BitVec.toNat_umod]; exact Nat.mod_lt _ (by decide)
  rw [wrap_nat _ (by omega)] at h5 h6
  subst hn
  refine awp_end (fn := Try.f10) 100 ?_
  have hh := all10 e h _ _ b0 b1
  unfold run10 at hh
  rw [← env_two h5 h6] at hh
  exact hh

theorem w10 (a0 a1 : Int) (w : World) : Calls Try.prog 10 #[.int .i64 a0, .int .i64 a1] w fun e w' => e = .returned (.bool true) ∧ RowKit.Below w.heap.size w w' := by
  refine walk_of_awp (gl := gl0) (Γ := P9) (fn := Try.f10) (ds := [.sc (.int .i64 a0), .sc (.int .i64 a1)]) (by kernel_rfl) (c := Try.f10.body.getD .skip) (by kernel_rfl) (by simp [Try.f10]) (by simp [STR]) p9 (by kernel_rfl) (GW.nil w) rfl ?_ (awp10 a0 a1)
  intro t d x hd hx
  match t with
  | 0 => simp at hd hx; subst hd; subst hx; exact ⟨rfl, rfl⟩
  | 1 => simp at hd hx; subst hd; subst hx; exact ⟨rfl, rfl⟩
  | t + 2 => simp at hd
end Go.Sym
