/- PolyEdges: near the modulus, too, the tag is the document's. No conditions. -/
import Derived.Test.YtplbacakdlomeaaPolyC
import Derived.Test.YtplbacakdlomeaaChaC
import Derived.Test.YtplbacakdlomeaaRows
import Derived.WalkKit
import Derived.ProofKit
import Derived.OpenShut
import Derived.ChangeOld
import Derived.Below
import Derived.Carry
namespace Go.Sym
open Go.Proofs Go.Spec
set_option linter.unusedVariables false
set_option maxRecDepth 100000 in
theorem vc17  : bodyP Try.prog T1 gl0 [] [] 3000 Try.f17 0 [] [] (retQ Try.prog Try.f17 0 (rt (.bool true))) = (
1 = 1 ∧ 1 < 1099511627776 ∧ 0 < 3 ∧ 0 < 3 ∧ 3 = 3 ∧ 3 < 1099511627776 ∧ Bool.true = Bool.true ∧ True : Prop) := by kernel_rfl
set_option maxRecDepth 100000 in
theorem vc7 (k : F8) (b : By) (nl : Bool) : bodyP Try.prog T2 gl0 [] [] 3000 Try.f7 0 [aggB 32 k, .rb true b (.is nl)] [] (retQ Try.prog Try.f7 0 (rt (.bool true))) = (
(0 : Int) ≤ Min.min (↑(List.length b) : Int) (200 : Int) ∧
 (Min.min (↑(List.length b) : Int) (200 : Int)).toNat ≤ List.length b ∧
 (List.take (Min.min (↑(List.length b) : Int) (200 : Int)).toNat b).length < 1099511627776 ∧
 (List.take (Min.min (↑(List.length b) : Int) (200 : Int)).toNat b).length < 1099511627776 ∧
 @Bool.rec (fun _ => Prop) (Bool.true = Bool.false ∧
 True) (Bool.true = decide (List.take (Min.min (↑(List.length b) : Int) (200 : Int)).toNat b = List.take (Min.min (↑(List.length b) : Int) (200 : Int)).toNat b) ∧
 True) (decide (tagS (re32 k) (List.take (Min.min (↑(List.length b) : Int) (200 : Int)).toNat b) 0 = tagS (re32 k) (List.take (Min.min (↑(List.length b) : Int) (200 : Int)).toNat b) 0) && (decide (tagS (re32 k) (List.take (Min.min (↑(List.length b) : Int) (200 : Int)).toNat b) 1 = tagS (re32 k) (List.take (Min.min (↑(List.length b) : Int) (200 : Int)).toNat b) 1) && (decide (tagS (re32 k) (List.take (Min.min (↑(List.length b) : Int) (200 : Int)).toNat b) 2 = tagS (re32 k) (List.take (Min.min (↑(List.length b) : Int) (200 : Int)).toNat b) 2) && (decide (tagS (re32 k) (List.take (Min.min (↑(List.length b) : Int) (200 : Int)).toNat b) 3 = tagS (re32 k) (List.take (Min.min (↑(List.length b) : Int) (200 : Int)).toNat b) 3) && (decide (tagS (re32 k) (List.take (Min.min (↑(List.length b) : Int) (200 : Int)).toNat b) 4 = tagS (re32 k) (List.take (Min.min (↑(List.length b) : Int) (200 : Int)).toNat b) 4) && (decide (tagS (re32 k) (List.take (Min.min (↑(List.length b) : Int) (200 : Int)).toNat b) 5 = tagS (re32 k) (List.take (Min.min (↑(List.length b) : Int) (200 : Int)).toNat b) 5) && (decide (tagS (re32 k) (List.take (Min.min (↑(List.length b) : Int) (200 : Int)).toNat b) 6 = tagS (re32 k) (List.take (Min.min (↑(List.length b) : Int) (200 : Int)).toNat b) 6) && (decide (tagS (re32 k) (List.take (Min.min (↑(List.length b) : Int) (200 : Int)).toNat b) 7 = tagS (re32 k) (List.take (Min.min (↑(List.length b) : Int) (200 : Int)).toNat b) 7) && (decide (tagS (re32 k) (List.take (Min.min (↑(List.length b) : Int) (200 : Int)).toNat b) 8 = tagS (re32 k) (List.take (Min.min (↑(List.length b) : Int) (200 : Int)).toNat b) 8) && (decide (tagS (re32 k) (List.take (Min.min (↑(List.length b) : Int) (200 : Int)).toNat b) 9 = tagS (re32 k) (List.take (Min.min (↑(List.length b) : Int) (200 : Int)).toNat b) 9) && (decide (tagS (re32 k) (List.take (Min.min (↑(List.length b) : Int) (200 : Int)).toNat b) 10 = tagS (re32 k) (List.take (Min.min (↑(List.length b) : Int) (200 : Int)).toNat b) 10) && (decide (tagS (re32 k) (List.take (Min.min (↑(List.length b) : Int) (200 : Int)).toNat b) 11 = tagS (re32 k) (List.take (Min.min (↑(List.length b) : Int) (200 : Int)).toNat b) 11) && (decide (tagS (re32 k) (List.take (Min.min (↑(List.length b) : Int) (200 : Int)).toNat b) 12 = tagS (re32 k) (List.take (Min.min (↑(List.length b) : Int) (200 : Int)).toNat b) 12) && (decide (tagS (re32 k) (List.take (Min.min (↑(List.length b) : Int) (200 : Int)).toNat b) 13 = tagS (re32 k) (List.take (Min.min (↑(List.length b) : Int) (200 : Int)).toNat b) 13) && (decide (tagS (re32 k) (List.take (Min.min (↑(List.length b) : Int) (200 : Int)).toNat b) 14 = tagS (re32 k) (List.take (Min.min (↑(List.length b) : Int) (200 : Int)).toNat b) 14) && (decide (tagS (re32 k) (List.take (Min.min (↑(List.length b) : Int) (200 : Int)).toNat b) 15 = tagS (re32 k) (List.take (Min.min (↑(List.length b) : Int) (200 : Int)).toNat b) 15) && Bool.true)))))))))))))))) : Prop) := by kernel_rfl
end Go.Sym

namespace Go.Sym
open Go.Proofs Go.Spec
set_option linter.unusedVariables false
theorem b17 : Must (bodyP Try.prog T1 gl0 [] [] 3000 Try.f17 0 [] [] (retQ Try.prog Try.f17 0 (rt (.bool true)))) := by
  constructor
  rw [vc17]
  exact ⟨rfl, by omega, by omega, by omega, rfl, by omega, rfl, trivial⟩
theorem okT2 : COKs Try.prog gl0 T2 := okT1.add <| by
  refine ctrE (fn := Try.f17) [] 3000 (by kernel_rfl) (by kernel_rfl) okT1 (by kernel_rfl) (fun args w => by kernel_rfl) fun xs bs r hs ho => ?_
  obtain ⟨rfl, h2⟩ := spK_sel hs
  clear hs
  have hs := h2
  clear h2
  unfold g12 at hs
  split at hs
  · simp only [TL.sel, Option.some.injEq] at hs
    subst hs
    exact ⟨_, b17⟩
  · simp [TL.sel] at hs
theorem b7 (k : F8) (b : By) (nl : Bool) : Must (bodyP Try.prog T2 gl0 [] [] 3000 Try.f7 0 [aggB 32 k, .rb true b (.is nl)] [] (retQ Try.prog Try.f7 0 (rt (.bool true)))) := by
  constructor
  rw [vc7]
  have hM : (List.take (min (b.length : Int) 200).toNat b).length ≤ 200 := by simp; omega
  have h0 : 0 ≤ min (b.length : Int) 200 ∧ (min (b.length : Int) 200).toNat ≤ b.length := by omega
  generalize List.take (min (b.length : Int) 200).toNat b = M at *
  generalize (min (b.length : Int) 200) = m at *
  generalize re32 k = k
  simp only [decide_true, Bool.and_self, and_self, and_true]
  exact ⟨h0.1, h0.2, by omega⟩
end Go.Sym

namespace Go.Spec
/-- The blocks, while they are filled with 255. -/
def ffL (n i : Nat) : By := List.replicate i 255 ++ List.replicate (n - i) 0
/-- The key that it lays: 16 times the one, then 16 times the other; the first byte is another. -/
def keyE (r e : F8) : F8 := fun i => if i = 0 then r 1 else if i < 16 then r 0 else e 1
end Go.Spec
namespace Go.Sym
open Go.Proofs Go.Spec
set_option linter.unusedVariables false
noncomputable def ls8 (k : F8) (e : BitVec 8) (N : Nat) : LS := ⟨Nat, fun x => [(7, .u8 e), (9, .ptr 101 0 0 0), (12, .slice 100 0 1 N .ow .unk), (13, .int .i64 x)],
  fun x => [(100, ⟨.bytes (ffL N x), true, 1⟩), (101, ⟨.cells (cl 32 k), true, 0⟩)], 1000, fun x => N + 1 - x, fun x => x ≤ N, fun _ => []⟩
end Go.Sym

namespace Go.Sym
open Go.Proofs Go.Spec
set_option linter.unusedVariables false
set_option maxRecDepth 100000 in
theorem vc8 (r e : F8) (m : Int) (N : Nat) : bodyP Try.prog T2 gl0 [] [(13, ls8 (keyE r e) (e 0) N)] 3000 Try.f8 0 [aggB 2 r, .int .i64 m, aggB 2 e] [] (retQ Try.prog Try.f8 0 (rt (.bool true))) = (
(0 : Int) ≤ (0 : Int) ∧
 (0 : Int) ≤ Int.ofNat 16 ∧
 (0 : Int) ≤ Int.ofNat 1 ∧
 (0 : Int) ≤ Int.ofNat 17 ∧
 (0 : Int) ≤ Int.ofNat 2 ∧
 (0 : Int) ≤ Int.ofNat 18 ∧
 (0 : Int) ≤ Int.ofNat 3 ∧
 (0 : Int) ≤ Int.ofNat 19 ∧
 (0 : Int) ≤ Int.ofNat 4 ∧
 (0 : Int) ≤ Int.ofNat 20 ∧
 (0 : Int) ≤ Int.ofNat 5 ∧
 (0 : Int) ≤ Int.ofNat 21 ∧
 (0 : Int) ≤ Int.ofNat 6 ∧
 (0 : Int) ≤ Int.ofNat 22 ∧
 (0 : Int) ≤ Int.ofNat 7 ∧
 (0 : Int) ≤ Int.ofNat 23 ∧
 (0 : Int) ≤ Int.ofNat 8 ∧
 (0 : Int) ≤ Int.ofNat 24 ∧
 (0 : Int) ≤ Int.ofNat 9 ∧
 (0 : Int) ≤ Int.ofNat 25 ∧
 (0 : Int) ≤ Int.ofNat 10 ∧
 (0 : Int) ≤ Int.ofNat 26 ∧
 (0 : Int) ≤ Int.ofNat 11 ∧
 (0 : Int) ≤ Int.ofNat 27 ∧
 (0 : Int) ≤ Int.ofNat 12 ∧
 (0 : Int) ≤ Int.ofNat 28 ∧
 (0 : Int) ≤ Int.ofNat 13 ∧
 (0 : Int) ≤ Int.ofNat 29 ∧
 (0 : Int) ≤ Int.ofNat 14 ∧
 (0 : Int) ≤ Int.ofNat 30 ∧
 (0 : Int) ≤ Int.ofNat 15 ∧
 (0 : Int) ≤ Int.ofNat 31 ∧
 (0 : Int) ≤ IntKind.i64.wrap ((16 : Int) * IntKind.i64.wrap ((1 : Int) + IntKind.i64.wrap (↑(BitVec.ofInt 64 m % BitVec.ofNat 64 5).toNat : Int))) ∧
 (0 : Int) ≤ IntKind.i64.wrap ((16 : Int) * IntKind.i64.wrap ((1 : Int) + IntKind.i64.wrap (↑(BitVec.ofInt 64 m % BitVec.ofNat 64 5).toNat : Int))) ∧
 (IntKind.i64.wrap ((16 : Int) * IntKind.i64.wrap ((1 : Int) + IntKind.i64.wrap (↑(BitVec.ofInt 64 m % BitVec.ofNat 64 5).toNat : Int)))).toNat ≤ (IntKind.i64.wrap ((16 : Int) * IntKind.i64.wrap ((1 : Int) + IntKind.i64.wrap (↑(BitVec.ofInt 64 m % BitVec.ofNat 64 5).toNat : Int)))).toNat ∧
 1 * (IntKind.i64.wrap ((16 : Int) * IntKind.i64.wrap ((1 : Int) + IntKind.i64.wrap (↑(BitVec.ofInt 64 m % BitVec.ofNat 64 5).toNat : Int)))).toNat ≤ 281474976710656 ∧
 (IntKind.i64.wrap ((16 : Int) * IntKind.i64.wrap ((1 : Int) + IntKind.i64.wrap (↑(BitVec.ofInt 64 m % BitVec.ofNat 64 5).toNat : Int)))).toNat ≤ 9223372036854775807 ∧
 (∃ (x : Nat), x.le N ∧
 e 0 = e 0 ∧
 0 = 0 ∧
 0 = 0 ∧
 0 = 0 ∧
 0 = 0 ∧
 N = (IntKind.i64.wrap ((16 : Int) * IntKind.i64.wrap ((1 : Int) + IntKind.i64.wrap (↑(BitVec.ofInt 64 m % BitVec.ofNat 64 5).toNat : Int)))).toNat ∧
 (↑x : Int) = (0 : Int) ∧
 ffL N x = List.replicate (IntKind.i64.wrap ((16 : Int) * IntKind.i64.wrap ((1 : Int) + IntKind.i64.wrap (↑(BitVec.ofInt 64 m % BitVec.ofNat 64 5).toNat : Int)))).toNat (0 : BitVec 8) ∧
 keyE r e 0 = r 1 ∧
 keyE r e 1 = r 0 ∧
 keyE r e 2 = r 0 ∧
 keyE r e 3 = r 0 ∧
 keyE r e 4 = r 0 ∧
 keyE r e 5 = r 0 ∧
 keyE r e 6 = r 0 ∧
 keyE r e 7 = r 0 ∧
 keyE r e 8 = r 0 ∧
 keyE r e 9 = r 0 ∧
 keyE r e 10 = r 0 ∧
 keyE r e 11 = r 0 ∧
 keyE r e 12 = r 0 ∧
 keyE r e 13 = r 0 ∧
 keyE r e 14 = r 0 ∧
 keyE r e 15 = r 0 ∧
 keyE r e 16 = e 1 ∧
 keyE r e 17 = e 1 ∧
 keyE r e 18 = e 1 ∧
 keyE r e 19 = e 1 ∧
 keyE r e 20 = e 1 ∧
 keyE r e 21 = e 1 ∧
 keyE r e 22 = e 1 ∧
 keyE r e 23 = e 1 ∧
 keyE r e 24 = e 1 ∧
 keyE r e 25 = e 1 ∧
 keyE r e 26 = e 1 ∧
 keyE r e 27 = e 1 ∧
 keyE r e 28 = e 1 ∧
 keyE r e 29 = e 1 ∧
 keyE r e 30 = e 1 ∧
 keyE r e 31 = e 1 ∧
 True) ∧
 ∀ (x : Nat), x.le N → @Bool.rec (fun _ => Prop) ((0 : Int) ≤ IntKind.i64.wrap ((↑N : Int) - (16 : Int)) ∧
 (IntKind.i64.wrap ((↑N : Int) - (16 : Int))).toNat < N ∧
 (IntKind.i64.wrap ((↑N : Int) - (16 : Int))).toNat < List.length (ffL N x) ∧
 N = (List.set (ffL N x) (IntKind.i64.wrap ((↑N : Int) - (16 : Int))).toNat (e 0)).length ∧
 (List.set (ffL N x) (IntKind.i64.wrap ((↑N : Int) - (16 : Int))).toNat (e 0)).length < 1099511627776 ∧
 N = (List.set (ffL N x) (IntKind.i64.wrap ((↑N : Int) - (16 : Int))).toNat (e 0)).length ∧
 (List.set (ffL N x) (IntKind.i64.wrap ((↑N : Int) - (16 : Int))).toNat (e 0)).length < 1099511627776 ∧
 Bool.true = (decide (tagS ((re32 (keyE r e))) (List.set (ffL N x) (IntKind.i64.wrap ((↑N : Int) - (16 : Int))).toNat (e 0)) 0 = tagS ((re32 (keyE r e))) (List.set (ffL N x) (IntKind.i64.wrap ((↑N : Int) - (16 : Int))).toNat (e 0)) 0) && (decide (tagS ((re32 (keyE r e))) (List.set (ffL N x) (IntKind.i64.wrap ((↑N : Int) - (16 : Int))).toNat (e 0)) 1 = tagS ((re32 (keyE r e))) (List.set (ffL N x) (IntKind.i64.wrap ((↑N : Int) - (16 : Int))).toNat (e 0)) 1) && (decide (tagS ((re32 (keyE r e))) (List.set (ffL N x) (IntKind.i64.wrap ((↑N : Int) - (16 : Int))).toNat (e 0)) 2 = tagS ((re32 (keyE r e))) (List.set (ffL N x) (IntKind.i64.wrap ((↑N : Int) - (16 : Int))).toNat (e 0)) 2) && (decide (tagS ((re32 (keyE r e))) (List.set (ffL N x) (IntKind.i64.wrap ((↑N : Int) - (16 : Int))).toNat (e 0)) 3 = tagS ((re32 (keyE r e))) (List.set (ffL N x) (IntKind.i64.wrap ((↑N : Int) - (16 : Int))).toNat (e 0)) 3) && (decide (tagS ((re32 (keyE r e))) (List.set (ffL N x) (IntKind.i64.wrap ((↑N : Int) - (16 : Int))).toNat (e 0)) 4 = tagS ((re32 (keyE r e))) (List.set (ffL N x) (IntKind.i64.wrap ((↑N : Int) - (16 : Int))).toNat (e 0)) 4) && (decide (tagS ((re32 (keyE r e))) (List.set (ffL N x) (IntKind.i64.wrap ((↑N : Int) - (16 : Int))).toNat (e 0)) 5 = tagS ((re32 (keyE r e))) (List.set (ffL N x) (IntKind.i64.wrap ((↑N : Int) - (16 : Int))).toNat (e 0)) 5) && (decide (tagS ((re32 (keyE r e))) (List.set (ffL N x) (IntKind.i64.wrap ((↑N : Int) - (16 : Int))).toNat (e 0)) 6 = tagS ((re32 (keyE r e))) (List.set (ffL N x) (IntKind.i64.wrap ((↑N : Int) - (16 : Int))).toNat (e 0)) 6) && (decide (tagS ((re32 (keyE r e))) (List.set (ffL N x) (IntKind.i64.wrap ((↑N : Int) - (16 : Int))).toNat (e 0)) 7 = tagS ((re32 (keyE r e))) (List.set (ffL N x) (IntKind.i64.wrap ((↑N : Int) - (16 : Int))).toNat (e 0)) 7) && (decide (tagS ((re32 (keyE r e))) (List.set (ffL N x) (IntKind.i64.wrap ((↑N : Int) - (16 : Int))).toNat (e 0)) 8 = tagS ((re32 (keyE r e))) (List.set (ffL N x) (IntKind.i64.wrap ((↑N : Int) - (16 : Int))).toNat (e 0)) 8) && (decide (tagS ((re32 (keyE r e))) (List.set (ffL N x) (IntKind.i64.wrap ((↑N : Int) - (16 : Int))).toNat (e 0)) 9 = tagS ((re32 (keyE r e))) (List.set (ffL N x) (IntKind.i64.wrap ((↑N : Int) - (16 : Int))).toNat (e 0)) 9) && (decide (tagS ((re32 (keyE r e))) (List.set (ffL N x) (IntKind.i64.wrap ((↑N : Int) - (16 : Int))).toNat (e 0)) 10 = tagS ((re32 (keyE r e))) (List.set (ffL N x) (IntKind.i64.wrap ((↑N : Int) - (16 : Int))).toNat (e 0)) 10) && (decide (tagS ((re32 (keyE r e))) (List.set (ffL N x) (IntKind.i64.wrap ((↑N : Int) - (16 : Int))).toNat (e 0)) 11 = tagS ((re32 (keyE r e))) (List.set (ffL N x) (IntKind.i64.wrap ((↑N : Int) - (16 : Int))).toNat (e 0)) 11) && (decide (tagS ((re32 (keyE r e))) (List.set (ffL N x) (IntKind.i64.wrap ((↑N : Int) - (16 : Int))).toNat (e 0)) 12 = tagS ((re32 (keyE r e))) (List.set (ffL N x) (IntKind.i64.wrap ((↑N : Int) - (16 : Int))).toNat (e 0)) 12) && (decide (tagS ((re32 (keyE r e))) (List.set (ffL N x) (IntKind.i64.wrap ((↑N : Int) - (16 : Int))).toNat (e 0)) 13 = tagS ((re32 (keyE r e))) (List.set (ffL N x) (IntKind.i64.wrap ((↑N : Int) - (16 : Int))).toNat (e 0)) 13) && (decide (tagS ((re32 (keyE r e))) (List.set (ffL N x) (IntKind.i64.wrap ((↑N : Int) - (16 : Int))).toNat (e 0)) 14 = tagS ((re32 (keyE r e))) (List.set (ffL N x) (IntKind.i64.wrap ((↑N : Int) - (16 : Int))).toNat (e 0)) 14) && (decide (tagS ((re32 (keyE r e))) (List.set (ffL N x) (IntKind.i64.wrap ((↑N : Int) - (16 : Int))).toNat (e 0)) 15 = tagS ((re32 (keyE r e))) (List.set (ffL N x) (IntKind.i64.wrap ((↑N : Int) - (16 : Int))).toNat (e 0)) 15) && Bool.true)))))))))))))))) ∧
 True) ((0 : Int) ≤ (↑x : Int) ∧
 (↑x : Int).toNat < N ∧
 (↑x : Int).toNat < List.length (ffL N x) ∧
 ∃ (y : Nat), N + 1 - y < N + 1 - x ∧
 y.le N ∧
 e 0 = e 0 ∧
 0 = 0 ∧
 0 = 0 ∧
 0 = 0 ∧
 0 = 0 ∧
 N = N ∧
 (↑y : Int) = IntKind.i64.wrap ((↑x : Int) + (1 : Int)) ∧
 ffL N y = List.set (ffL N x) (↑x : Int).toNat (BitVec.ofNat 8 255) ∧
 keyE r e 0 = keyE r e 0 ∧
 keyE r e 1 = keyE r e 1 ∧
 keyE r e 2 = keyE r e 2 ∧
 keyE r e 3 = keyE r e 3 ∧
 keyE r e 4 = keyE r e 4 ∧
 keyE r e 5 = keyE r e 5 ∧
 keyE r e 6 = keyE r e 6 ∧
 keyE r e 7 = keyE r e 7 ∧
 keyE r e 8 = keyE r e 8 ∧
 keyE r e 9 = keyE r e 9 ∧
 keyE r e 10 = keyE r e 10 ∧
 keyE r e 11 = keyE r e 11 ∧
 keyE r e 12 = keyE r e 12 ∧
 keyE r e 13 = keyE r e 13 ∧
 keyE r e 14 = keyE r e 14 ∧
 keyE r e 15 = keyE r e 15 ∧
 keyE r e 16 = keyE r e 16 ∧
 keyE r e 17 = keyE r e 17 ∧
 keyE r e 18 = keyE r e 18 ∧
 keyE r e 19 = keyE r e 19 ∧
 keyE r e 20 = keyE r e 20 ∧
 keyE r e 21 = keyE r e 21 ∧
 keyE r e 22 = keyE r e 22 ∧
 keyE r e 23 = keyE r e 23 ∧
 keyE r e 24 = keyE r e 24 ∧
 keyE r e 25 = keyE r e 25 ∧
 keyE r e 26 = keyE r e 26 ∧
 keyE r e 27 = keyE r e 27 ∧
 keyE r e 28 = keyE r e 28 ∧
 keyE r e 29 = keyE r e 29 ∧
 keyE r e 30 = keyE r e 30 ∧
 keyE r e 31 = keyE r e 31 ∧
 True) (decide ((↑x : Int) < (↑N : Int))) : Prop) := by kernel_rfl
end Go.Sym

namespace Go.Spec
theorem ffL_len {n i : Nat} (h : i ≤ n) : (ffL n i).length = n := by simp [ffL]; omega
theorem ffL_set {n i : Nat} (h : i < n) : ffL n (i + 1) = (ffL n i).set i 255 := by
  unfold ffL
  obtain ⟨d, rfl⟩ : ∃ d, n = i + 1 + d := ⟨n - (i + 1), by omega⟩
  have e1 : i + 1 + d - (i + 1) = d := by omega
  have e2 : i + 1 + d - i = d + 1 := by omega
  rw [e1, e2, List.set_append_right _ _ (by simp)]
  rw [List.replicate_succ' (n := i), List.append_assoc]
  congr 1
  simp [List.replicate_succ (n := d)]
end Go.Spec
namespace Go.Sym
open Go.Proofs Go.Spec
set_option linter.unusedVariables false
def N8 (m : Int) : Nat := 16 * (1 + (BitVec.ofInt 64 m % BitVec.ofNat 64 5).toNat)
theorem b8 (r e : F8) (m : Int) : Must (bodyP Try.prog T2 gl0 [] [(13, ls8 (keyE r e) (e 0) (N8 m))] 3000 Try.f8 0 [aggB 2 r, .int .i64 m, aggB 2 e] [] (retQ Try.prog Try.f8 0 (rt (.bool true)))) := by
  constructor
  rw [vc8]
  have hq : (BitVec.ofInt 64 m % BitVec.ofNat 64 5).toNat < 5 := by
    rw [BitVec.toNat_umod]
    exact Nat.mod_lt _ (by decide)
  have hN : N8 m = 16 * (1 + (BitVec.ofInt 64 m % BitVec.ofNat 64 5).toNat) := rfl
  generalize N8 m = N at *
  generalize (BitVec.ofInt 64 m % BitVec.ofNat 64 5).toNat = q at *
  have w1 : IntKind.i64.wrap (q : Int) = (q : Int) := wrap_nat q rfl (by omega)
  have w2 : IntKind.i64.wrap (1 + (q : Int)) = ((1 + q : Nat) : Int) := wrap_nat _ (by omega) (by omega)
  have w3 : IntKind.i64.wrap (16 * ((1 + q : Nat) : Int)) = ((16 * (1 + q) : Nat) : Int) := wrap_nat _ (by omega) (by omega)
  rw [w1, w2, w3, ← hN]
  simp only [Int.toNat_natCast]
  repeat refine And.intro (by first | exact Int.natCast_nonneg _ | omega) ?_
  refine ⟨⟨0, Nat.zero_le _, (by first | exact rfl | exact trivial), (by first | exact rfl | exact trivial), (by first | exact rfl | exact trivial), (by first | exact rfl | exact trivial), (by first | exact rfl | exact trivial), (by first | exact rfl | exact trivial), (by first | exact rfl | exact trivial), ?_⟩, fun x hx => ?_⟩
  · refine ⟨by simp [ffL], ?_⟩
    repeat refine And.intro (by first | exact rfl | exact trivial) ?_
    trivial
  · replace hx : x ≤ N := hx
    refine brec (fun h => ?_) (fun h => ?_)
    · have w4 : IntKind.i64.wrap ((x : Int) + 1) = ((x + 1 : Nat) : Int) := wrap_nat _ (by omega) (by omega)
      have hl := ffL_len hx
      replace h : x < N := by have := dlt.1 h; omega
      refine ⟨by omega, h, by rw [hl]; exact h, x + 1, by omega, h, (by first | exact rfl | exact trivial), (by first | exact rfl | exact trivial), (by first | exact rfl | exact trivial), (by first | exact rfl | exact trivial), (by first | exact rfl | exact trivial), (by first | exact rfl | exact trivial), w4.symm, ?_⟩
      refine ⟨ffL_set h, ?_⟩
      repeat refine And.intro (by first | exact rfl | exact trivial) ?_
      trivial
    · have w5 : IntKind.i64.wrap ((N : Int) - 16) = ((N - 16 : Nat) : Int) := wrap_nat _ (by omega) (by omega)
      have hl := ffL_len hx
      rw [w5]
      simp only [Int.toNat_natCast]
      generalize re32 (keyE r e) = kk
      simp only [decide_true, Bool.and_self, and_self, and_true, List.length_set, hl]
      exact ⟨by omega, by omega, by omega, trivial, by omega, trivial, by omega⟩
end Go.Sym

/- PolyEdges: near the modulus, too, the tag is the document's. No conditions. -/
namespace Go.Sym
open Go.Proofs Go.Spec
theorem w8 (W : World) (v0 : Value) (r : F8) (h0 : VRel (κW W) (aggB 2 r) v0) (n1 : Int) (v2 : Value) (e : F8) (h2 : VRel (κW W) (aggB 2 e) v2) :
    Calls Try.prog 8 #[v0, .int .i64 n1, v2] W fun e w' => e = .returned (.bool true) ∧ RowKit.Below W.heap.size W w' := by
  have hv : VRels (κW W) [aggB 2 r, .int .i64 n1, aggB 2 e] [v0, .int .i64 n1, v2] := by
    simp only [VRels]
    exact ⟨_, _, rfl, h0, _, _, rfl, rfl, _, _, rfl, h2, rfl⟩
  refine law_walk (gl := gl0) (Γ := T2) (fn := Try.f8) (av := [aggB 2 r, .int .i64 n1, aggB 2 e]) (ls := [(13, ls8 (keyE r e) (e 0) (N8 n1))]) [] 3000 (by kernel_rfl) (by kernel_rfl) okT2 (by kernel_rfl) (GW.nil W) (by kernel_rfl) hv ?_
  exact b8 r e n1
end Go.Sym
namespace Go.Proofs.Ytplbacakdlomeaa.polyEdges
open Go.ChangeShapes Go.WideShapes Go.ChangeAt Go.RowKit
set_option linter.unusedVariables false

theorem own : ownKnob Try.prog.godebug = none := by kernel_rfl
theorem laid : laidOutB Try.prog = true := by kernel_rfl

set_option maxRecDepth 100000 in
theorem lifted (os : Os) (started : os.Started) (H : Type) (enc : TypeId × Value → H) :
    ReturnsInHanded {} Try.checked os 8 .any (Rows.polyEdgesSpec.pre6 enc Try.prog Try.f8 Rows.polyEdgesRow.domain false) (Rows.polyEdgesSpec.post enc Try.prog Try.f8 false true false false) := by
  refine returnsInHanded_of_change (C := Try.checked) own started (by kernel_rfl) Try.func8
    (ChangeSpec.witness6 (enc := enc) (C := Try.checked) false ⟨#[], #[.agg (Array.replicate 2 (.int .u8 0)), .int .i64 0, .agg (Array.replicate 2 (.int .u8 0))], []⟩ 8 (by kernel_rfl) (by kernel_rfl) (by kernel_rfl) (by kernel_rfl)) ?_
  intro W base args ds gs before hval0 hW hcnd _
  have hval : ∀ (j : Nat) t v, Try.f8.params[j]? = some t → args[j]? = some v → Value.okWide Try.prog W .any base t v := hval0
  have hW' := hW
  obtain ⟨p, q, hA0, hV, rfl, hfz, hnd⟩ := hW
  have hA : DataW.TrodAll enc Try.prog W 0 (fun _ => true) true Try.f8.params.toList args.toList ds p := hA0
  rw [Try.params8] at hA hval
  obtain ⟨v0, vs0, d0, ds0, p0, q0, hargs, rfl, rfl, h0, r0⟩ := trodAll_cons hA
  obtain ⟨v1, vs1, d1, ds1, p1, q1, rfl, rfl, rfl, h1, r1⟩ := trodAll_cons r0
  obtain ⟨v2, vs2, d2, ds2, p2, q2, rfl, rfl, rfl, h2, r2⟩ := trodAll_cons r1
  obtain ⟨rfl, rfl, rfl⟩ := trodAll_nil r2
  obtain rfl : args = #[v0, v1, v2] := by cases args; simp_all
  obtain ⟨rfl, rfl⟩ := trodVars_none hV
  obtain ⟨a1, rfl, rfl, rfl, w1⟩ := open_int Try.underlying3 (hval 1 3 v1 rfl rfl) h1
  clear hA0 hval0
  have hlt0 : ∀ x ∈ p0, x.block < W.heap.size := fun x hx => hW'.lt x (by simp [hx])
  obtain ⟨fuel0, hf0⟩ := h0
  obtain ⟨avs0, hs0, hd0, hr0⟩ := Go.Sym.rd_flat 9 38 (List.replicate 2 (.i .u8)) _ _ _ (by kernel_rfl) hf0
  obtain ⟨r, rfl⟩ := Go.Sym.sh_by hs0
  have hu0 := Go.Sym.agg_of_cells hr0 (by simp)
  have hlt2 : ∀ x ∈ p2, x.block < W.heap.size := fun x hx => hW'.lt x (by simp [hx])
  obtain ⟨fuel2, hf2⟩ := h2
  obtain ⟨avs2, hs2, hd2, hr2⟩ := Go.Sym.rd_flat 9 38 (List.replicate 2 (.i .u8)) _ _ _ (by kernel_rfl) hf2
  obtain ⟨e, rfl⟩ := Go.Sym.sh_by hs2
  have hu2 := Go.Sym.agg_of_cells hr2 (by simp)
  refine (Go.Sym.w8 W v0 r hu0 a1 v2 e hu2).mono fun e W' ⟨he, bel⟩ => ?_
  subst he
  exact ⟨_, rfl, _, _, _, [], _, [], hW', trodAll_mk1 (shut_bool Try.underlying4 _), (trodAll_cons_mk (Below.trod laid (by kernel_rfl) (of_decide_eq_true (by kernel_rfl)) ⟨fuel0, hf0⟩ bel hlt0) (trodAll_cons_mk (shut_int Try.underlying3 w1) (trodAll_cons_mk (Below.trod laid (by kernel_rfl) (of_decide_eq_true (by kernel_rfl)) ⟨fuel2, hf2⟩ bel hlt2) trodAll_mk0))), rfl, bel.frame _, fun h => by cases h⟩

theorem over : Rows.polyEdgesRow.holds Try.pinned (OpenSpec.ofChange Rows.polyEdgesSpec) :=
  OpenClaim.holds_of_wide 8 Try.f8 rfl rfl rfl rfl rfl rfl rfl ⟨rfl, rfl, rfl, rfl, rfl⟩ rfl rfl rfl rfl rfl (by kernel_rfl) Try.func8 (by kernel_rfl)
    (of_decide_eq_true (by kernel_rfl)) (by unfold Func.isWrapper; first | (rw [if_pos (by decide +kernel)]; kernel_rfl) | (rw [if_neg (by decide +kernel)]; exact ⟨rfl, rfl⟩))
    (fun os started H enc _ => lifted os started H enc)

theorem proved : Rows.PolyEdgesSaid :=
  over
#print axioms proved
end Go.Proofs.Ytplbacakdlomeaa.polyEdges
