/- What is sealed, and opened again. -/
import Derived.Test.YtiebadbcdheldaaDoorAeadA
import Derived.Test.YtiebadbcdheldaaDoorShaA
import Derived.Test.YtiebadbcdheldaaDoorShaB
namespace Go.Sym
open Go.Proofs Go.Spec
set_option linter.unusedVariables false
set_option maxRecDepth 100000 in
theorem vc20 (k n f : F8) (b more : By) : bodyP Tryd.prog X2 gl0 [] [] 3000 Tryd.f51 0 [aggB 32 k, aggB 12 n, .rb false b .unk, .rb false more .unk] [] (retQ Tryd.prog Tryd.f51 0 (rt (aggB 16 f))) = (
List.length more < 1099511627776 ∧ (List.length (filled more) = List.length (filled more) ∧ List.length (filled more) + List.length b < 1099511627776) ∧ (List.length (filled (filled more ++ b)) = List.length (filled (filled more ++ b)) ∧ List.length (filled (filled more ++ b)) < 1099511627776 ∧ List.length more < 1099511627776) ∧ (List.length (cnt (filled (filled more ++ b)) (List.length more)) = List.length (cnt (filled (filled more ++ b)) (List.length more)) ∧ List.length (cnt (filled (filled more ++ b)) (List.length more)) < 1099511627776 ∧ List.length b < 1099511627776) ∧ 32 ≤ 64 ∧ 32 ≤ 32 ∧ List.length (cnt (cnt (filled (filled more ++ b)) (List.length more)) (List.length b)) = List.length (cnt (cnt (filled (filled more ++ b)) (List.length more)) (List.length b)) ∧ List.length (cnt (cnt (filled (filled more ++ b)) (List.length more)) (List.length b)) < 1099511627776 ∧ allP (fun (i : Nat) => f i = tagS (fun (i : Nat) => (rg 32 (chaB (fun (i : Nat) => (rg 32 k).getD i (0 : BitVec 8)) (BitVec.ofNat 32 0) fun (i : Nat) => (rg 12 n).getD i (0 : BitVec 8))).getD i (0 : BitVec 8)) (cnt (cnt (filled (filled more ++ b)) (List.length more)) (List.length b)) i) 0 16 True : Prop) := by kernel_rfl
end Go.Sym

namespace Go.Spec
theorem re32_rg (k : F8) : re32 k = fun i => (rg 32 k).getD i 0 := rfl
theorem re12_rg (k : F8) : re12 k = fun i => (rg 12 k).getD i 0 := rfl
theorem tagTxt_length (b more : By) : (tagTxt b more).length = more.length + fillN more.length + b.length + fillN (filled more ++ b).length + 16 := by
  unfold tagTxt
  rw [cnt_length, cnt_length, filled_length, List.length_append, filled_length]
end Go.Spec
namespace Go.Sym
open Go.Proofs Go.Spec
set_option linter.unusedVariables false
theorem b20 (k n : F8) (b more : By) (hb : b.length + more.length + 128 < 1099511627776) : Must (bodyP Tryd.prog X2 gl0 [] [] 3000 Tryd.f51 0 [aggB 32 k, aggB 12 n, .rb false b .unk, .rb false more .unk] [] (retQ Tryd.prog Tryd.f51 0 (rt (aggB 16 (tagS (ownK k n) (tagTxt b more)))))) := by
  constructor
  rw [vc20]
  have hf := fillN_lt more.length
  have hf2 := fillN_lt (filled more ++ b).length
  have h1 := filled_length more
  have h2 := filled_length (filled more ++ b)
  have h3 : (filled more ++ b).length = more.length + fillN more.length + b.length := by rw [List.length_append, h1]
  have h4 := cnt_length (filled (filled more ++ b)) more.length
  have h5 := cnt_length (cnt (filled (filled more ++ b)) more.length) b.length
  refine ⟨by omega, ⟨rfl, by omega⟩, ⟨rfl, by omega, by omega⟩, ⟨rfl, by omega, by omega⟩, by omega, by omega, rfl, by omega, ?_⟩
  refine allP_of _ _ (fun j _ _ => ?_) trivial
  unfold tagTxt ownK
  rw [re32_rg, re32_rg, re12_rg]
noncomputable def g20 (xs : List AV) (bs : List ABlk) : TL := match xs, bs with
  | [.agg ks, .agg ns, .rb false b .unk, .rb false more .unk], [] => asB 32 ks fun k => asB 12 ns fun n => .ok ⟨[b.length + more.length + 128 < 1099511627776], aggB 16 (tagS (ownK k n) (tagTxt b more)), [], []⟩
  | _, _ => .no
noncomputable def sp20 : Spec := ⟨[.kp, .kp, .by0, .by0], fun _ _ => [], fun _ _ => [], g20⟩
theorem c20 : COK Tryd.prog gl0 51 (mkF sp20) := by
  refine ctrE (fn := Tryd.f51) [] 3000 (by kernel_rfl) (by kernel_rfl) okX2 (by kernel_rfl) (fun args w => by kernel_rfl) fun xs bs r hs ho => ?_
  simp only [sp20, g20] at hs
  split at hs
  · obtain ⟨k, e, hs⟩ := asB_sel hs
    obtain ⟨n, e2, hs⟩ := asB_sel hs
    simp only [TL.sel, Option.some.injEq] at hs
    subst hs
    rw [e, e2]
    exact ⟨_, b20 k n _ _ (obsT_one.1 ho)⟩
  · simp [TL.sel] at hs
theorem c23q : COK Tryd.prog gl0 53 (mkF sp20) := by
  refine ctrE (fn := Tryd.f53) [] 3000 (by kernel_rfl) (by kernel_rfl) okT1 (by kernel_rfl) (fun args w => by kernel_rfl) fun xs bs r hs ho => ?_
  simp only [sp20, g20] at hs
  split at hs
  · obtain ⟨k, e, hs⟩ := asB_sel hs
    obtain ⟨n, e2, hs⟩ := asB_sel hs
    simp only [TL.sel, Option.some.injEq] at hs
    subst hs
    rw [e, e2]
    have h := obsT_one.1 ho
    exact ⟨_, b38 k n _ _ (by omega)⟩
  · simp [TL.sel] at hs
noncomputable def X3 : Ctx := X2.add 51 (mkF sp20)
noncomputable def X4 : Ctx := X3.add 53 (mkF sp20)
theorem okX4 : COKs Tryd.prog gl0 X4 := (okX2.add c20).add c23q
end Go.Sym

namespace Go.Spec
/-- What is sealed: the text under the stream, its tag behind. -/
noncomputable def txtS (k n : F8) (t : By) : By := strL (re32 k) 1#32 (re12 n) t
noncomputable def tagL (k n : F8) (b more : By) : By := rg 16 (tagS (ownK (re32 k) (re12 n)) (tagTxt b more))
noncomputable def sealL (k n : F8) (t more : By) : By := txtS k n t ++ tagL k n (txtS k n t) more
end Go.Spec
namespace Go.Sym
open Go.Proofs Go.Spec
set_option linter.unusedVariables false
def row8 (n : Nat) (f : F8) : List AV := (List.range n).map fun i => .u8 (f i)
def rB (L : Nat) (M : By) : RL := ⟨[], .slice 0 0 1 L .ow .unk, [], [⟨.bytes M, true, 1⟩]⟩
end Go.Sym

namespace Go.Sym
open Go.Proofs Go.Spec
set_option linter.unusedVariables false
set_option maxRecDepth 100000 in
theorem vc7 (k n : F8) (b more M : By) (L : Nat) : bodyP Tryd.prog X4 gl0 [] [] 3000 Tryd.f32 0 [aggB 32 k, aggB 12 n, .rb false b .unk, .rb false more .unk] [] (retQ Tryd.prog Tryd.f32 0 (rB L M)) = (
List.length b < 1099511627776 ∧ List.length b = List.length (strL (fun (i : Nat) => (rg 32 k).getD i (0 : BitVec 8)) (BitVec.ofNat 32 1) (fun (i : Nat) => (rg 12 n).getD i (0 : BitVec 8)) b) ∧ List.length (strL (fun (i : Nat) => (rg 32 k).getD i (0 : BitVec 8)) (BitVec.ofNat 32 1) (fun (i : Nat) => (rg 12 n).getD i (0 : BitVec 8)) b) + List.length more + 128 < 1099511627776 ∧ List.length b = List.length (strL (fun (i : Nat) => (rg 32 k).getD i (0 : BitVec 8)) (BitVec.ofNat 32 1) (fun (i : Nat) => (rg 12 n).getD i (0 : BitVec 8)) b) ∧ roomFor (List.length b) (rg 16 (tagS (ownK (fun (i : Nat) => (rg 32 k).getD i (0 : BitVec 8)) fun (i : Nat) => (rg 12 n).getD i (0 : BitVec 8)) (tagTxt (strL (fun (i : Nat) => (rg 32 k).getD i (0 : BitVec 8)) (BitVec.ofNat 32 1) (fun (i : Nat) => (rg 12 n).getD i (0 : BitVec 8)) b) more))).length 1 ∧ 0 = 0 ∧ 0 = 0 ∧ 0 = 0 ∧ L = List.length b + (rg 16 (tagS (ownK (fun (i : Nat) => (rg 32 k).getD i (0 : BitVec 8)) fun (i : Nat) => (rg 12 n).getD i (0 : BitVec 8)) (tagTxt (strL (fun (i : Nat) => (rg 32 k).getD i (0 : BitVec 8)) (BitVec.ofNat 32 1) (fun (i : Nat) => (rg 12 n).getD i (0 : BitVec 8)) b) more))).length ∧ M = strL (fun (i : Nat) => (rg 32 k).getD i (0 : BitVec 8)) (BitVec.ofNat 32 1) (fun (i : Nat) => (rg 12 n).getD i (0 : BitVec 8)) b ++ rg 16 (tagS (ownK (fun (i : Nat) => (rg 32 k).getD i (0 : BitVec 8)) fun (i : Nat) => (rg 12 n).getD i (0 : BitVec 8)) (tagTxt (strL (fun (i : Nat) => (rg 32 k).getD i (0 : BitVec 8)) (BitVec.ofNat 32 1) (fun (i : Nat) => (rg 12 n).getD i (0 : BitVec 8)) b) more)) ∧ True : Prop) := by kernel_rfl
set_option maxRecDepth 100000 in
theorem vc10 (k n : F8) (b more M : By) (L : Nat) : bodyP Tryd.prog X4 gl0 [] [] 3000 Tryd.f36 0 [aggB 32 k, aggB 12 n, .rb false b .unk, .rb false more .unk] [] (retQ Tryd.prog Tryd.f36 0 (rB L M)) = (
List.length b < 1099511627776 ∧ List.length b = List.length (strL (fun (i : Nat) => (rg 32 k).getD i (0 : BitVec 8)) (BitVec.ofNat 32 1) (fun (i : Nat) => (rg 12 n).getD i (0 : BitVec 8)) b) ∧ List.length (strL (fun (i : Nat) => (rg 32 k).getD i (0 : BitVec 8)) (BitVec.ofNat 32 1) (fun (i : Nat) => (rg 12 n).getD i (0 : BitVec 8)) b) + List.length more + 128 < 1099511627776 ∧ List.length b = List.length (strL (fun (i : Nat) => (rg 32 k).getD i (0 : BitVec 8)) (BitVec.ofNat 32 1) (fun (i : Nat) => (rg 12 n).getD i (0 : BitVec 8)) b) ∧ roomFor (List.length b) (rg 16 (tagS (ownK (fun (i : Nat) => (rg 32 k).getD i (0 : BitVec 8)) fun (i : Nat) => (rg 12 n).getD i (0 : BitVec 8)) (tagTxt (strL (fun (i : Nat) => (rg 32 k).getD i (0 : BitVec 8)) (BitVec.ofNat 32 1) (fun (i : Nat) => (rg 12 n).getD i (0 : BitVec 8)) b) more))).length 1 ∧ 0 = 0 ∧ 0 = 0 ∧ 0 = 0 ∧ L = List.length b + (rg 16 (tagS (ownK (fun (i : Nat) => (rg 32 k).getD i (0 : BitVec 8)) fun (i : Nat) => (rg 12 n).getD i (0 : BitVec 8)) (tagTxt (strL (fun (i : Nat) => (rg 32 k).getD i (0 : BitVec 8)) (BitVec.ofNat 32 1) (fun (i : Nat) => (rg 12 n).getD i (0 : BitVec 8)) b) more))).length ∧ M = strL (fun (i : Nat) => (rg 32 k).getD i (0 : BitVec 8)) (BitVec.ofNat 32 1) (fun (i : Nat) => (rg 12 n).getD i (0 : BitVec 8)) b ++ rg 16 (tagS (ownK (fun (i : Nat) => (rg 32 k).getD i (0 : BitVec 8)) fun (i : Nat) => (rg 12 n).getD i (0 : BitVec 8)) (tagTxt (strL (fun (i : Nat) => (rg 32 k).getD i (0 : BitVec 8)) (BitVec.ofNat 32 1) (fun (i : Nat) => (rg 12 n).getD i (0 : BitVec 8)) b) more)) ∧ True : Prop) := by kernel_rfl
end Go.Sym

namespace Go.Spec
theorem sealL_length (k n : F8) (t more : By) : (sealL k n t more).length = t.length + 16 := by
  unfold sealL tagL txtS
  rw [List.length_append, strL_length, rg_length]
end Go.Spec
namespace Go.Sym
open Go.Proofs Go.Spec
set_option linter.unusedVariables false
theorem b7 (k n : F8) (b more : By) (hb : b.length + more.length + 256 < 1099511627776) : Must (bodyP Tryd.prog X4 gl0 [] [] 3000 Tryd.f32 0 [aggB 32 k, aggB 12 n, .rb false b .unk, .rb false more .unk] [] (retQ Tryd.prog Tryd.f32 0 (rB (b.length + 16) (sealL k n b more)))) := by
  constructor
  rw [vc7, ← re32_rg, ← re12_rg]
  have hl := strL_length (re32 k) (BitVec.ofNat 32 1) (re12 n) b
  refine ⟨by omega, hl.symm, by omega, hl.symm, by unfold roomFor; rw [rg_length]; omega, rfl, rfl, rfl, by rw [rg_length], rfl, trivial⟩
theorem b10 (k n : F8) (b more : By) (hb : b.length + more.length + 256 < 1099511627776) : Must (bodyP Tryd.prog X4 gl0 [] [] 3000 Tryd.f36 0 [aggB 32 k, aggB 12 n, .rb false b .unk, .rb false more .unk] [] (retQ Tryd.prog Tryd.f36 0 (rB (b.length + 16) (sealL k n b more)))) := by
  constructor
  rw [vc10, ← re32_rg, ← re12_rg]
  have hl := strL_length (re32 k) (BitVec.ofNat 32 1) (re12 n) b
  refine ⟨by omega, hl.symm, by omega, hl.symm, by unfold roomFor; rw [rg_length]; omega, rfl, rfl, rfl, by rw [rg_length], rfl, trivial⟩
noncomputable def g7 (xs : List AV) (bs : List ABlk) : TL := match xs, bs with
  | [.agg ks, .agg ns, .rb false b .unk, .rb false more .unk], [] => asB 32 ks fun k => asB 12 ns fun n => .ok ⟨[b.length + more.length + 256 < 1099511627776], .slice 0 0 1 (b.length + 16) .ow .unk, [], [⟨.bytes (sealL k n b more), true, 1⟩]⟩
  | _, _ => .no
noncomputable def sp7 : Spec := ⟨[.kp, .kp, .by0, .by0], fun _ _ => [], fun _ _ => [], g7⟩
theorem c7 : COK Tryd.prog gl0 32 (mkF sp7) := by
  refine ctrE (fn := Tryd.f32) [] 3000 (by kernel_rfl) (by kernel_rfl) okX4 (by kernel_rfl) (fun args w => by kernel_rfl) fun xs bs r hs ho => ?_
  simp only [sp7, g7] at hs
  split at hs
  · obtain ⟨k, e, hs⟩ := asB_sel hs
    obtain ⟨n, e2, hs⟩ := asB_sel hs
    simp only [TL.sel, Option.some.injEq] at hs
    subst hs
    rw [e, e2]
    exact ⟨_, b7 k n _ _ (obsT_one.1 ho)⟩
  · simp [TL.sel] at hs
theorem c10 : COK Tryd.prog gl0 36 (mkF sp7) := by
  refine ctrE (fn := Tryd.f36) [] 3000 (by kernel_rfl) (by kernel_rfl) okX4 (by kernel_rfl) (fun args w => by kernel_rfl) fun xs bs r hs ho => ?_
  simp only [sp7, g7] at hs
  split at hs
  · obtain ⟨k, e, hs⟩ := asB_sel hs
    obtain ⟨n, e2, hs⟩ := asB_sel hs
    simp only [TL.sel, Option.some.injEq] at hs
    subst hs
    rw [e, e2]
    exact ⟨_, b10 k n _ _ (obsT_one.1 ho)⟩
  · simp [TL.sel] at hs
noncomputable def Y1 : Ctx := X4.add 32 (mkF sp7)
noncomputable def Y2 : Ctx := Y1.add 36 (mkF sp7)
noncomputable def Y3 : Ctx := Y2.add 54 (mkF spSm)
theorem okY2 : COKs Tryd.prog gl0 Y2 := (okX4.add c7).add c10
theorem okY3 : COKs Tryd.prog gl0 Y3 := okY2.add c17
end Go.Sym

namespace Go.Spec
/-- Is what is sealed somebody's? -/
def openB (k n : F8) (b more : By) : Prop := tagL k n (b.take (b.length - 16)) more = b.drop (b.length - 16)
open Classical in
noncomputable def openE (k n : F8) (b more : By) : Int := if b.length < 16 then 2 else if openB k n b more then 0 else 4
open Classical in
noncomputable def openK (k n : F8) (b more : By) : Bool := if b.length < 16 then false else if openB k n b more then true else false
open Classical in
noncomputable def openM (k n : F8) (b more : By) : By := if b.length < 16 then [] else if openB k n b more then txtS k n (b.take (b.length - 16)) else []
end Go.Spec
namespace Go.Sym
open Go.Proofs Go.Spec
set_option linter.unusedVariables false
def rO (v : AV) (L : Nat) (M : By) : RL := ⟨[], .tup [.slice 0 0 1 L .ow .unk, v], [], [⟨.bytes M, true, 1⟩]⟩
end Go.Sym

namespace Go.Sym
open Go.Proofs Go.Spec
set_option linter.unusedVariables false
set_option maxRecDepth 100000 in
theorem vc8 (k n : F8) (b more : By) (M : By) (L : Nat) (e : Int) : bodyP Tryd.prog Y3 gl0 [] [] 3000 Tryd.f38 0 [aggB 32 k, aggB 12 n, .rb false b .unk, .rb false more .unk] [] (retQ Tryd.prog Tryd.f38 0 (rO (.int .i64 e) L M)) = (
@Bool.rec (fun _ => Prop) ((0 : Int) ≤ IntKind.i64.wrap ((↑(List.length b) : Int) - (16 : Int)) ∧ (IntKind.i64.wrap ((↑(List.length b) : Int) - (16 : Int))).toNat ≤ List.length b ∧ (List.take (IntKind.i64.wrap ((↑(List.length b) : Int) - (16 : Int))).toNat b).length + List.length more + 128 < 1099511627776 ∧ (0 : Int) ≤ IntKind.i64.wrap ((↑(List.length b) : Int) - (16 : Int)) ∧ (IntKind.i64.wrap ((↑(List.length b) : Int) - (16 : Int))).toNat ≤ List.length b ∧ (rg 16 (tagS (ownK (fun (i : Nat) => (rg 32 k).getD i (0 : BitVec 8)) fun (i : Nat) => (rg 12 n).getD i (0 : BitVec 8)) (tagTxt (List.take (IntKind.i64.wrap ((↑(List.length b) : Int) - (16 : Int))).toNat b) more))).length < 4611686018427387904 ∧ @Bool.rec (fun _ => Prop) ((0 : Int) ≤ IntKind.i64.wrap ((↑(List.length b) : Int) - (16 : Int)) ∧ (IntKind.i64.wrap ((↑(List.length b) : Int) - (16 : Int))).toNat ≤ List.length b ∧ (List.take (IntKind.i64.wrap ((↑(List.length b) : Int) - (16 : Int))).toNat b).length < 1099511627776 ∧ 0 = 0 ∧ 0 = 0 ∧ 0 = 0 ∧ L = (List.take (IntKind.i64.wrap ((↑(List.length b) : Int) - (16 : Int))).toNat b).length ∧ e = (0 : Int) ∧ M = strL (fun (i : Nat) => (rg 32 k).getD i (0 : BitVec 8)) (BitVec.ofNat 32 1) (fun (i : Nat) => (rg 12 n).getD i (0 : BitVec 8)) (List.take (IntKind.i64.wrap ((↑(List.length b) : Int) - (16 : Int))).toNat b) ∧ True) (L = 0 ∧ e = (4 : Int) ∧ M = [] ∧ True) !sameB (rg 16 (tagS (ownK (fun (i : Nat) => (rg 32 k).getD i (0 : BitVec 8)) fun (i : Nat) => (rg 12 n).getD i (0 : BitVec 8)) (tagTxt (List.take (IntKind.i64.wrap ((↑(List.length b) : Int) - (16 : Int))).toNat b) more))) (List.drop (IntKind.i64.wrap ((↑(List.length b) : Int) - (16 : Int))).toNat b)) (L = 0 ∧ e = (2 : Int) ∧ M = [] ∧ True) (decide (IntKind.i64.wrap ((↑(List.length b) : Int) - (16 : Int)) < (0 : Int))) : Prop) := by kernel_rfl
set_option maxRecDepth 100000 in
theorem vc11 (k n : F8) (b more : By) (M : By) (L : Nat) (e : Bool) : bodyP Tryd.prog Y3 gl0 [] [] 3000 Tryd.f40 0 [aggB 32 k, aggB 12 n, .rb false b .unk, .rb false more .unk] [] (retQ Tryd.prog Tryd.f40 0 (rO (.bool e) L M)) = (
@Bool.rec (fun _ => Prop) ((0 : Int) ≤ IntKind.i64.wrap ((↑(List.length b) : Int) - (16 : Int)) ∧ (IntKind.i64.wrap ((↑(List.length b) : Int) - (16 : Int))).toNat ≤ List.length b ∧ 0 = 0 ∧ roomFor 0 (List.take (IntKind.i64.wrap ((↑(List.length b) : Int) - (16 : Int))).toNat b).length 1 ∧ 0 + (List.take (IntKind.i64.wrap ((↑(List.length b) : Int) - (16 : Int))).toNat b).length = ([] ++ List.take (IntKind.i64.wrap ((↑(List.length b) : Int) - (16 : Int))).toNat b).length ∧ ([] ++ List.take (IntKind.i64.wrap ((↑(List.length b) : Int) - (16 : Int))).toNat b).length + List.length more + 128 < 1099511627776 ∧ (0 : Int) ≤ IntKind.i64.wrap ((↑(List.length b) : Int) - (16 : Int)) ∧ (IntKind.i64.wrap ((↑(List.length b) : Int) - (16 : Int))).toNat ≤ List.length b ∧ @Bool.rec (fun _ => Prop) (0 + (List.take (IntKind.i64.wrap ((↑(List.length b) : Int) - (16 : Int))).toNat b).length = ([] ++ List.take (IntKind.i64.wrap ((↑(List.length b) : Int) - (16 : Int))).toNat b).length ∧ ([] ++ List.take (IntKind.i64.wrap ((↑(List.length b) : Int) - (16 : Int))).toNat b).length < 1099511627776 ∧ 0 = 0 ∧ 0 = 0 ∧ 0 = 0 ∧ L = ([] ++ List.take (IntKind.i64.wrap ((↑(List.length b) : Int) - (16 : Int))).toNat b).length ∧ e = Bool.true ∧ M = strL (fun (i : Nat) => (rg 32 k).getD i (0 : BitVec 8)) (BitVec.ofNat 32 1) (fun (i : Nat) => (rg 12 n).getD i (0 : BitVec 8)) ([] ++ List.take (IntKind.i64.wrap ((↑(List.length b) : Int) - (16 : Int))).toNat b) ∧ True) (L = 0 ∧ e = Bool.false ∧ M = [] ∧ True) !decide (rg 16 (tagS (ownK (fun (i : Nat) => (rg 32 k).getD i (0 : BitVec 8)) fun (i : Nat) => (rg 12 n).getD i (0 : BitVec 8)) (tagTxt ([] ++ List.take (IntKind.i64.wrap ((↑(List.length b) : Int) - (16 : Int))).toNat b) more)) = List.drop (IntKind.i64.wrap ((↑(List.length b) : Int) - (16 : Int))).toNat b)) (L = 0 ∧ e = Bool.false ∧ M = [] ∧ True) (decide ((↑(List.length b) : Int) < (16 : Int))) : Prop) := by kernel_rfl
end Go.Sym

namespace Go.Sym
open Go.Proofs Go.Spec
set_option linter.unusedVariables false
theorem wr16 {n : Nat} (h : 16 ≤ n) (h2 : n < 1099511627776) : IntKind.i64.wrap ((n : Int) - 16) = ((n - 16 : Nat) : Int) := wrap_nat _ (by omega) (by omega)
theorem wr16' {n : Nat} (h : n < 16) : IntKind.i64.wrap ((n : Int) - 16) = (n : Int) - 16 := wrap_i64 (by omega) (by omega)
theorem b8 (k n : F8) (b more : By) (hb : b.length + more.length + 256 < 1099511627776) : Must (bodyP Tryd.prog Y3 gl0 [] [] 3000 Tryd.f38 0 [aggB 32 k, aggB 12 n, .rb false b .unk, .rb false more .unk] [] (retQ Tryd.prog Tryd.f38 0 (rO (.int .i64 (openE k n b more)) (openM k n b more).length (openM k n b more)))) := by
  constructor
  rw [vc8, ← re32_rg, ← re12_rg]
  have hd : rg 16 (tagS (ownK (re32 k) (re12 n)) (tagTxt (b.take (b.length - 16)) more)) = tagL k n (b.take (b.length - 16)) more := rfl
  refine brec (fun h => ?_) (fun h => ?_)
  · have hl : b.length < 16 := by
      rcases Nat.lt_or_ge b.length 16 with g | g
      · exact g
      · rw [wr16 g (by omega)] at h
        have := dlt.1 h
        omega
    unfold openE openM
    simp only [if_pos hl, List.length_nil, and_self]
  · have hl : 16 ≤ b.length := by
      rcases Nat.lt_or_ge b.length 16 with g | g
      · rw [wr16' g] at h
        have := ndlt.1 h
        omega
      · exact g
    have hn : ¬ b.length < 16 := by omega
    have ht : (List.take (b.length - 16) b).length = b.length - 16 := by simp
    have hs := strL_length (re32 k) (BitVec.ofNat 32 1) (re12 n) (List.take (b.length - 16) b)
    have htl : (tagL k n (List.take (b.length - 16) b) more).length = 16 := rg_length _ _
    rw [wr16 hl (by omega), Int.toNat_natCast, hd, sameB_eq, htl, ht]
    refine ⟨by omega, by omega, by omega, by omega, by omega, by omega, ?_⟩
    refine brec (fun g => ?_) (fun g => ?_)
    · have hg : ¬ openB k n b more := by simpa [openB] using g
      unfold openE openM
      simp only [if_neg hn, if_neg hg, List.length_nil, and_self]
    · have hg : openB k n b more := by simpa [openB] using g
      unfold openE openM
      simp only [if_neg hn, if_pos hg, and_true, true_and]
      refine ⟨by omega, by omega, by omega, by rw [txtS, hs, ht], rfl⟩
theorem b11 (k n : F8) (b more : By) (hb : b.length + more.length + 256 < 1099511627776) : Must (bodyP Tryd.prog Y3 gl0 [] [] 3000 Tryd.f40 0 [aggB 32 k, aggB 12 n, .rb false b .unk, .rb false more .unk] [] (retQ Tryd.prog Tryd.f40 0 (rO (.bool (openK k n b more)) (openM k n b more).length (openM k n b more)))) := by
  constructor
  rw [vc11, ← re32_rg, ← re12_rg]
  have hd : rg 16 (tagS (ownK (re32 k) (re12 n)) (tagTxt (b.take (b.length - 16)) more)) = tagL k n (b.take (b.length - 16)) more := rfl
  refine brec (fun h => ?_) (fun h => ?_)
  · have hl : b.length < 16 := by have := dlt.1 h; omega
    unfold openK openM
    simp only [if_pos hl, List.length_nil, and_self]
  · have hl : 16 ≤ b.length := by have := ndlt.1 h; omega
    have hn : ¬ b.length < 16 := by omega
    have ht : (List.take (b.length - 16) b).length = b.length - 16 := by simp
    have hs := strL_length (re32 k) (BitVec.ofNat 32 1) (re12 n) (List.take (b.length - 16) b)
    rw [wr16 hl (by omega), Int.toNat_natCast]
    simp only [List.nil_append, hd, ht]
    refine ⟨by omega, by omega, trivial, by unfold roomFor; omega, by omega, by omega, by omega, by omega, ?_⟩
    refine brec (fun g => ?_) (fun g => ?_)
    · have hg : ¬ openB k n b more := by simpa [openB] using g
      unfold openK openM
      simp only [if_neg hn, if_neg hg, List.length_nil, and_self]
    · have hg : openB k n b more := by simpa [openB] using g
      unfold openK openM
      simp only [if_neg hn, if_pos hg, and_true, true_and]
      refine ⟨by omega, by omega, by rw [txtS, hs, ht], rfl⟩
noncomputable def g8 (xs : List AV) (bs : List ABlk) : TL := match xs, bs with
  | [.agg ks, .agg ns, .rb false b .unk, .rb false more .unk], [] => asB 32 ks fun k => asB 12 ns fun n => .ok ⟨[b.length + more.length + 256 < 1099511627776], .tup [.slice 0 0 1 (openM k n b more).length .ow .unk, .int .i64 (openE k n b more)], [], [⟨.bytes (openM k n b more), true, 1⟩]⟩
  | _, _ => .no
noncomputable def sp8 : Spec := ⟨[.kp, .kp, .by0, .by0], fun _ _ => [], fun _ _ => [], g8⟩
noncomputable def g11 (xs : List AV) (bs : List ABlk) : TL := match xs, bs with
  | [.agg ks, .agg ns, .rb false b .unk, .rb false more .unk], [] => asB 32 ks fun k => asB 12 ns fun n => .ok ⟨[b.length + more.length + 256 < 1099511627776], .tup [.slice 0 0 1 (openM k n b more).length .ow .unk, .bool (openK k n b more)], [], [⟨.bytes (openM k n b more), true, 1⟩]⟩
  | _, _ => .no
noncomputable def sp11 : Spec := ⟨[.kp, .kp, .by0, .by0], fun _ _ => [], fun _ _ => [], g11⟩
theorem c8q : COK Tryd.prog gl0 38 (mkF sp8) := by
  refine ctrE (fn := Tryd.f38) [] 3000 (by kernel_rfl) (by kernel_rfl) okY3 (by kernel_rfl) (fun args w => by kernel_rfl) fun xs bs r hs ho => ?_
  simp only [sp8, g8] at hs
  split at hs
  · obtain ⟨k, e, hs⟩ := asB_sel hs
    obtain ⟨n, e2, hs⟩ := asB_sel hs
    simp only [TL.sel, Option.some.injEq] at hs
    subst hs
    rw [e, e2]
    exact ⟨_, b8 k n _ _ (obsT_one.1 ho)⟩
  · simp [TL.sel] at hs
theorem c11 : COK Tryd.prog gl0 40 (mkF sp11) := by
  refine ctrE (fn := Tryd.f40) [] 3000 (by kernel_rfl) (by kernel_rfl) okY3 (by kernel_rfl) (fun args w => by kernel_rfl) fun xs bs r hs ho => ?_
  simp only [sp11, g11] at hs
  split at hs
  · obtain ⟨k, e, hs⟩ := asB_sel hs
    obtain ⟨n, e2, hs⟩ := asB_sel hs
    simp only [TL.sel, Option.some.injEq] at hs
    subst hs
    rw [e, e2]
    exact ⟨_, b11 k n _ _ (obsT_one.1 ho)⟩
  · simp [TL.sel] at hs
noncomputable def Y4 : Ctx := Y3.add 38 (mkF sp8)
noncomputable def Y5 : Ctx := Y4.add 40 (mkF sp11)
theorem okY5 : COKs Tryd.prog gl0 Y5 := (okY3.add c8q).add c11
end Go.Sym

namespace Go.Spec
theorem re32_re (k : F8) (f : Nat → BitVec 8) (h : ∀ i, i < 32 → f i = k i) : rg 32 f = rg 32 k := rg_congr h
theorem txt_txt (k n : F8) (t : By) : txtS k n (txtS k n t) = t := strL_twice _ _ _ _
theorem txtS_length (k n : F8) (t : By) : (txtS k n t).length = t.length := strL_length _ _ _ _
theorem tagL_length (k n : F8) (t m : By) : (tagL k n t m).length = 16 := rg_length _ _
theorem seal_take (k n : F8) (t m : By) : (sealL k n t m).take ((sealL k n t m).length - 16) = txtS k n t := by
  rw [sealL_length, Nat.add_sub_cancel]
  unfold sealL
  rw [List.take_append_of_le_length (by rw [txtS_length]; omega), List.take_of_length_le (by rw [txtS_length]; omega)]
theorem seal_drop (k n : F8) (t m : By) : (sealL k n t m).drop ((sealL k n t m).length - 16) = tagL k n (txtS k n t) m := by
  rw [sealL_length, Nat.add_sub_cancel]
  unfold sealL
  rw [List.drop_append_of_le_length (by rw [txtS_length]; omega), List.drop_eq_nil_of_le (by rw [txtS_length]; omega), List.nil_append]
theorem openB_seal (k n : F8) (t m : By) : openB k n (sealL k n t m) m := by
  unfold openB
  rw [seal_take, seal_drop]
theorem openE_seal (k n : F8) (t m : By) : openE k n (sealL k n t m) m = 0 := by
  unfold openE
  rw [if_neg (by rw [sealL_length]; omega), if_pos (openB_seal k n t m)]
theorem openK_seal (k n : F8) (t m : By) : openK k n (sealL k n t m) m = true := by
  unfold openK
  rw [if_neg (by rw [sealL_length]; omega), if_pos (openB_seal k n t m)]
theorem openM_seal (k n : F8) (t m : By) : openM k n (sealL k n t m) m = t := by
  unfold openM
  rw [if_neg (by rw [sealL_length]; omega), if_pos (openB_seal k n t m), seal_take, txt_txt]
def k1 : F8 := fun i => (BitVec.ofNat 8 1 :: List.replicate 31 (BitVec.ofNat 8 0)).getD i 0
def n2 : F8 := fun i => (BitVec.ofNat 8 2 :: List.replicate 11 (BitVec.ofNat 8 0)).getD i 0
def aText : By := [116#8, 101#8, 120#8, 116#8]
def aMore : By := [109#8, 111#8, 114#8, 101#8]
def aLess : By := [108#8, 101#8, 115#8, 115#8]
set_option maxRecDepth 100000 in
theorem key_txt : txtS k1 n2 aText = [244#8, 15#8, 198#8, 225#8] := by kernel_rfl
set_option maxRecDepth 100000 in
theorem tag_more : tagS (ownK (re32 k1) (re12 n2)) (tagTxt [244#8, 15#8, 198#8, 225#8] aMore) 0 = 49#8 := by kernel_rfl
set_option maxRecDepth 100000 in
theorem tag_less : tagS (ownK (re32 k1) (re12 n2)) (tagTxt [244#8, 15#8, 198#8, 225#8] aLess) 0 = 244#8 := by kernel_rfl
end Go.Spec
