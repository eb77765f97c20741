/- What is sealed, and opened again. -/
import Derived.Test.YtdenpaggdkfaeaaSymC
import Derived.Test.YtdenpaggdkfaeaaAeadA
import Derived.Test.YtdenpaggdkfaeaaChaC
/- Rows of like terms, by a function. -/
namespace Go.Spec
def rgA {α : Type} (F : Nat → α) : Nat → Nat → List α → List α
  | _, 0, r => r
  | s, n + 1, r => F s :: rgA F (s + 1) n r
def rg {α : Type} (n : Nat) (F : Nat → α) : List α := rgA F 0 n []
def allP (p : Nat → Prop) : Nat → Nat → Prop → Prop
  | _, 0, r => r
  | s, n + 1, r => p s ∧ allP p (s + 1) n r
def andP (p : Nat → Bool) : Nat → Nat → Bool → Bool
  | _, 0, r => r
  | s, n + 1, r => p s && andP p (s + 1) n r
theorem allP_of {p : Nat → Prop} {r : Prop} : ∀ (n s : Nat), (∀ j, s ≤ j → j < s + n → p j) → r → allP p s n r
  | 0, _, _, hr => hr
  | n + 1, s, h, hr => ⟨h s (Nat.le_refl _) (by omega), allP_of n (s + 1) (fun j h1 h2 => h j (by omega) (by omega)) hr⟩
theorem allP_rfl {α : Type} {f : Nat → α} {s n : Nat} {r : Prop} (hr : r) : allP (fun i => f i = f i) s n r := allP_of n s (fun _ _ _ => rfl) hr
theorem allP_tt {s n : Nat} {r : Prop} : allP (fun _ => True) s n r = r := by
  induction n generalizing s with
  | zero => rfl
  | succ n ih => simp only [allP, ih, true_and]
theorem andP_of {p : Nat → Bool} {r : Bool} : ∀ (n s : Nat), (∀ j, s ≤ j → j < s + n → p j = true) → r = true → andP p s n r = true
  | 0, _, _, hr => hr
  | n + 1, s, h, hr => by
    simp only [andP, h s (Nat.le_refl _) (by omega), Bool.true_and]
    exact andP_of n (s + 1) (fun j h1 h2 => h j (by omega) (by omega)) hr
theorem andP_tt {s n : Nat} {r : Bool} : andP (fun _ => true) s n r = r := by
  induction n generalizing s with
  | zero => rfl
  | succ n ih => simp only [andP, ih, Bool.true_and]
theorem andP_iff {p : Nat → Bool} {r : Bool} : ∀ (n s : Nat), andP p s n r = true ↔ (∀ j, s ≤ j → j < s + n → p j = true) ∧ r = true
  | 0, s => by simp only [andP]; exact ⟨fun h => ⟨fun j h1 h2 => by omega, h⟩, fun h => h.2⟩
  | n + 1, s => by
    simp only [andP, Bool.and_eq_true, andP_iff n (s + 1)]
    constructor
    · rintro ⟨h1, h2, h3⟩
      refine ⟨fun j hj hk => ?_, h3⟩
      rcases Nat.eq_or_lt_of_le hj with e | e
      · exact e ▸ h1
      · exact h2 j e (by omega)
    · rintro ⟨h1, h2⟩
      exact ⟨h1 s (Nat.le_refl _) (by omega), fun j hj hk => h1 j (by omega) (by omega), h2⟩
theorem rgA_eq {α : Type} (F : Nat → α) : ∀ (n s : Nat) (r : List α), rgA F s n r = ((List.range n).map fun i => F (s + i)) ++ r
  | 0, _, _ => rfl
  | n + 1, s, r => by
    rw [rgA, rgA_eq F n (s + 1) r, List.range_succ_eq_map, List.map_cons, List.map_map, List.cons_append]
    congr 2
    apply List.map_congr_left
    intro i _
    simp only [Function.comp_apply]
    congr 1
    omega
theorem rg_eq {α : Type} (n : Nat) (F : Nat → α) : rg n F = (List.range n).map F := by
  unfold rg
  rw [rgA_eq, List.append_nil]
  simp
theorem rg_length {α : Type} (n : Nat) (F : Nat → α) : (rg n F).length = n := by rw [rg_eq]; simp
theorem rg_getD {α : Type} (n : Nat) (F : Nat → α) (i : Nat) (d : α) (h : i < n) : (rg n F).getD i d = F i := by
  rw [rg_eq]
  simp [List.getD, h]
theorem rg_congr {α : Type} {n : Nat} {F G : Nat → α} (h : ∀ i, i < n → F i = G i) : rg n F = rg n G := by
  rw [rg_eq, rg_eq]
  apply List.map_congr_left
  intro i hi
  exact h i (by simpa using hi)
theorem rg_self {α : Type} {n : Nat} {l : List α} (d : α) (h : l.length = n) : rg n (fun i => l.getD i d) = l := by
  rw [rg_eq]
  apply List.ext_getElem
  · simp [h]
  · intro i h1 h2
    simp [List.getD, h2]
end Go.Spec

namespace Go.Sym
open Go.Proofs Go.Spec
set_option linter.unusedVariables false
set_option maxRecDepth 100000 in
theorem vc20 (k n f : F8) (b more : By) : bodyP Try.prog X2 gl0 [] [] 3000 Try.f20 0 [aggB 32 k, aggB 12 n, .rb false b .unk, .rb false more .unk] [] (retQ Try.prog Try.f20 0 (rt (aggB 16 f))) = (
List.length more < 1099511627776 ∧ (List.length (filled more) = List.length (filled more) ∧ List.length (filled more) + List.length b < 1099511627776) ∧ (List.length (filled (filled more ++ b)) = List.length (filled (filled more ++ b)) ∧ List.length (filled (filled more ++ b)) < 1099511627776 ∧ List.length more < 1099511627776) ∧ (List.length (cnt (filled (filled more ++ b)) (List.length more)) = List.length (cnt (filled (filled more ++ b)) (List.length more)) ∧ List.length (cnt (filled (filled more ++ b)) (List.length more)) < 1099511627776 ∧ List.length b < 1099511627776) ∧ 32 ≤ 64 ∧ 32 ≤ 32 ∧ List.length (cnt (cnt (filled (filled more ++ b)) (List.length more)) (List.length b)) = List.length (cnt (cnt (filled (filled more ++ b)) (List.length more)) (List.length b)) ∧ List.length (cnt (cnt (filled (filled more ++ b)) (List.length more)) (List.length b)) < 1099511627776 ∧ allP (fun (i : Nat) => f i = tagS (fun (i : Nat) => (rg 32 (chaB (fun (i : Nat) => (rg 32 k).getD i (0 : BitVec 8)) (BitVec.ofNat 32 0) fun (i : Nat) => (rg 12 n).getD i (0 : BitVec 8))).getD i (0 : BitVec 8)) (cnt (cnt (filled (filled more ++ b)) (List.length more)) (List.length b)) i) 0 16 True : Prop) := by kernel_rfl
end Go.Sym

namespace Go.Spec
theorem re32_rg (k : F8) : re32 k = fun i => (rg 32 k).getD i 0 := rfl
theorem re12_rg (k : F8) : re12 k = fun i => (rg 12 k).getD i 0 := rfl
theorem tagTxt_length (b more : By) : (tagTxt b more).length = more.length + fillN more.length + b.length + fillN (filled more ++ b).length + 16 := by
  unfold tagTxt
  rw [cnt_length, cnt_length, filled_length, List.length_append, filled_length]
end Go.Spec
namespace Go.Sym
open Go.Proofs Go.Spec
set_option linter.unusedVariables false
theorem b20 (k n : F8) (b more : By) (hb : b.length + more.length + 128 < 1099511627776) : Must (bodyP Try.prog X2 gl0 [] [] 3000 Try.f20 0 [aggB 32 k, aggB 12 n, .rb false b .unk, .rb false more .unk] [] (retQ Try.prog Try.f20 0 (rt (aggB 16 (tagS (ownK k n) (tagTxt b more)))))) := by
  constructor
  rw [vc20]
  have hf := fillN_lt more.length
  have hf2 := fillN_lt (filled more ++ b).length
  have h1 := filled_length more
  have h2 := filled_length (filled more ++ b)
  have h3 : (filled more ++ b).length = more.length + fillN more.length + b.length := by rw [List.length_append, h1]
  have h4 := cnt_length (filled (filled more ++ b)) more.length
  have h5 := cnt_length (cnt (filled (filled more ++ b)) more.length) b.length
  refine ⟨by omega, ⟨rfl, by omega⟩, ⟨rfl, by omega, by omega⟩, ⟨rfl, by omega, by omega⟩, by omega, by omega, rfl, by omega, ?_⟩
  refine allP_of _ _ (fun j _ _ => ?_) trivial
  unfold tagTxt ownK
  rw [re32_rg, re32_rg, re12_rg]
noncomputable def g20 (xs : List AV) (bs : List ABlk) : TL := match xs, bs with
  | [.agg ks, .agg ns, .rb false b .unk, .rb false more .unk], [] => asB 32 ks fun k => asB 12 ns fun n => .ok ⟨[b.length + more.length + 128 < 1099511627776], aggB 16 (tagS (ownK k n) (tagTxt b more)), [], []⟩
  | _, _ => .no
noncomputable def sp20 : Spec := ⟨[.kp, .kp, .by0, .by0], fun _ _ => [], fun _ _ => [], g20⟩
theorem c20 : COK Try.prog gl0 20 (mkF sp20) := by
  refine ctrE (fn := Try.f20) [] 3000 (by kernel_rfl) (by kernel_rfl) okX2 (by kernel_rfl) (fun args w => by kernel_rfl) fun xs bs r hs ho => ?_
  simp only [sp20, g20] at hs
  split at hs
  · obtain ⟨k, e, hs⟩ := asB_sel hs
    obtain ⟨n, e2, hs⟩ := asB_sel hs
    simp only [TL.sel, Option.some.injEq] at hs
    subst hs
    rw [e, e2]
    exact ⟨_, b20 k n _ _ (obsT_one.1 ho)⟩
  · simp [TL.sel] at hs
theorem c23 : COK Try.prog gl0 23 (mkF sp20) := by
  refine ctrE (fn := Try.f23) [] 3000 (by kernel_rfl) (by kernel_rfl) okT1 (by kernel_rfl) (fun args w => by kernel_rfl) fun xs bs r hs ho => ?_
  simp only [sp20, g20] at hs
  split at hs
  · obtain ⟨k, e, hs⟩ := asB_sel hs
    obtain ⟨n, e2, hs⟩ := asB_sel hs
    simp only [TL.sel, Option.some.injEq] at hs
    subst hs
    rw [e, e2]
    have h := obsT_one.1 ho
    exact ⟨_, b38 k n _ _ (by omega)⟩
  · simp [TL.sel] at hs
noncomputable def X3 : Ctx := X2.add 20 (mkF sp20)
noncomputable def X4 : Ctx := X3.add 23 (mkF sp20)
theorem okX4 : COKs Try.prog gl0 X4 := (okX2.add c20).add c23
end Go.Sym

namespace Go.Sym
open Go.Proofs Go.Spec
set_option linter.unusedVariables false
set_option linter.unusedSimpArgs false
def lsSm (a b : By) : LS := ⟨Nat, fun i => [(1, .rb false b .unk), (5, .u8 (orD a b i)), (13, .rb false a .unk), (14, .int .i64 a.length), (15, .int .i64 i)], fun _ => [], 100, fun i => a.length - i, fun i => i ≤ a.length, fun _ => []⟩
noncomputable def gSm (xs : List AV) (bs : List ABlk) : TL := match xs, bs with
  | [.rb false a .unk, .rb false b .unk], [] => .ok ⟨[a.length < 4611686018427387904], .bool (sameB a b), [], []⟩
  | _, _ => .no
noncomputable def spSm : Spec := ⟨[.by0, .by0], fun _ _ => [], fun _ _ => [], gSm⟩
set_option maxRecDepth 100000 in
theorem vc17s (a b : By) : bodyP Try.prog K0 gl0 [] [(6, lsSm a b)] 3000 Try.f21 0 [.rb false a .unk, .rb false b .unk] [] (retQ Try.prog Try.f21 0 ⟨[], .bool (decide (a = b)), [], []⟩) = (
Bool.rec ((∃ (x : Nat), x.le (List.length a) ∧ b = b ∧ orD a b x = BitVec.ofNat (8 : Nat) (0 : Nat) ∧ a = a ∧ (↑(List.length a) : Int) = (↑(List.length a) : Int) ∧ (↑x : Int) = (0 : Int) ∧ True) ∧ ∀ (x : Nat), x.le (List.length a) → Bool.rec (Decidable.decide (a = b) = Decidable.decide (orD a b x = BitVec.ofNat (8 : Nat) (0 : Nat)) ∧ True) ((0 : Int) ≤ (↑x : Int) ∧ (↑x : Int).toNat < List.length a ∧ (0 : Int) ≤ (↑x : Int) ∧ (↑x : Int).toNat < List.length b ∧ ∃ (y : Nat), List.length a - y < List.length a - x ∧ y.le (List.length a) ∧ b = b ∧ orD a b y = orD a b x ||| List.getD a (↑x : Int).toNat (0 : BitVec (8 : Nat)) ^^^ List.getD b (↑x : Int).toNat (0 : BitVec (8 : Nat)) ∧ a = a ∧ (↑(List.length a) : Int) = (↑(List.length a) : Int) ∧ (↑y : Int) = IntKind.i64.wrap ((↑x : Int) + (1 : Int)) ∧ True) (Decidable.decide ((↑x : Int) < (↑(List.length a) : Int)))) (Decidable.decide (a = b) = Bool.false ∧ True) !Decidable.decide ((↑(List.length a) : Int) = (↑(List.length b) : Int))) := by kernel_rfl
theorem b17s (a b : By) (ha : a.length < 4611686018427387904) : Must (bodyP Try.prog K0 gl0 [] [(6, lsSm a b)] 3000 Try.f21 0 [.rb false a .unk, .rb false b .unk] [] (retQ Try.prog Try.f21 0 ⟨[], .bool (decide (a = b)), [], []⟩)) := by
  constructor
  rw [vc17s]
  refine brec (fun h => ?_) (fun h => ?_)
  · have hl : a.length ≠ b.length := by
      simp at h; omega
    have : a ≠ b := fun e => hl (by rw [e])
    simp [this]
  · have hl : a.length = b.length := by
      simp at h; omega
    refine ⟨⟨0, Nat.zero_le _, by simp [orD]⟩, fun x hx => ?_⟩
    replace hx : x ≤ a.length := hx
    refine brec (fun h => ?_) (fun h => ?_)
    · replace h : x < a.length := by have := dlt.1 h; omega
      have e1 : IntKind.i64.wrap ((x : Int) + 1) = ((x + 1 : Nat) : Int) := wrap_nat _ (by omega) (by omega)
      simp only [e1, Int.toNat_natCast, true_and, and_true, Int.natCast_nonneg]
      refine ⟨h, by omega, x + 1, by omega, h, ?_⟩
      simp [orD]
    · replace h : x = a.length := by have := ndlt.1 h; omega
      subst h
      refine ⟨?_, trivial⟩
      rw [decide_eq_decide]
      exact (orD_same a b hl).symm
theorem c17s : COK Try.prog gl0 21 (mkF spSm) := by
  refine ctrE (fn := Try.f21) [] 3000 (by kernel_rfl) (by kernel_rfl) okK0 (by kernel_rfl) (fun args w => by kernel_rfl) ?_
  intro xs bs r hs ho
  simp only [spSm, gSm] at hs
  split at hs
  · simp only [TL.sel, Option.some.injEq] at hs
    subst hs
    rw [sameB_eq]
    exact ⟨_, b17s _ _ (obsT_one.1 ho)⟩
  · simp [TL.sel] at hs
end Go.Sym

namespace Go.Spec
/-- What is sealed: the text under the stream, its tag behind. -/
noncomputable def txtS (k n : F8) (t : By) : By := strL (re32 k) 1#32 (re12 n) t
noncomputable def tagL (k n : F8) (b more : By) : By := rg 16 (tagS (ownK (re32 k) (re12 n)) (tagTxt b more))
noncomputable def sealL (k n : F8) (t more : By) : By := txtS k n t ++ tagL k n (txtS k n t) more
end Go.Spec
namespace Go.Sym
open Go.Proofs Go.Spec
set_option linter.unusedVariables false
def row8 (n : Nat) (f : F8) : List AV := (List.range n).map fun i => .u8 (f i)
def rB (L : Nat) (M : By) : RL := ⟨[], .slice 0 0 1 L .ow .unk, [], [⟨.bytes M, true, 1⟩]⟩
end Go.Sym

namespace Go.Sym
open Go.Proofs Go.Spec
set_option linter.unusedVariables false
set_option maxRecDepth 100000 in
theorem vc7 (k n : F8) (b more M : By) (L : Nat) : bodyP Try.prog X4 gl0 [] [] 3000 Try.f7 0 [aggB 32 k, aggB 12 n, .rb false b .unk, .rb false more .unk] [] (retQ Try.prog Try.f7 0 (rB L M)) = (
List.length b < 1099511627776 ∧ List.length b = List.length (strL (fun (i : Nat) => (rg 32 k).getD i (0 : BitVec 8)) (BitVec.ofNat 32 1) (fun (i : Nat) => (rg 12 n).getD i (0 : BitVec 8)) b) ∧ List.length (strL (fun (i : Nat) => (rg 32 k).getD i (0 : BitVec 8)) (BitVec.ofNat 32 1) (fun (i : Nat) => (rg 12 n).getD i (0 : BitVec 8)) b) + List.length more + 128 < 1099511627776 ∧ List.length b = List.length (strL (fun (i : Nat) => (rg 32 k).getD i (0 : BitVec 8)) (BitVec.ofNat 32 1) (fun (i : Nat) => (rg 12 n).getD i (0 : BitVec 8)) b) ∧ roomFor (List.length b) (rg 16 (tagS (ownK (fun (i : Nat) => (rg 32 k).getD i (0 : BitVec 8)) fun (i : Nat) => (rg 12 n).getD i (0 : BitVec 8)) (tagTxt (strL (fun (i : Nat) => (rg 32 k).getD i (0 : BitVec 8)) (BitVec.ofNat 32 1) (fun (i : Nat) => (rg 12 n).getD i (0 : BitVec 8)) b) more))).length 1 ∧ 0 = 0 ∧ 0 = 0 ∧ 0 = 0 ∧ L = List.length b + (rg 16 (tagS (ownK (fun (i : Nat) => (rg 32 k).getD i (0 : BitVec 8)) fun (i : Nat) => (rg 12 n).getD i (0 : BitVec 8)) (tagTxt (strL (fun (i : Nat) => (rg 32 k).getD i (0 : BitVec 8)) (BitVec.ofNat 32 1) (fun (i : Nat) => (rg 12 n).getD i (0 : BitVec 8)) b) more))).length ∧ M = strL (fun (i : Nat) => (rg 32 k).getD i (0 : BitVec 8)) (BitVec.ofNat 32 1) (fun (i : Nat) => (rg 12 n).getD i (0 : BitVec 8)) b ++ rg 16 (tagS (ownK (fun (i : Nat) => (rg 32 k).getD i (0 : BitVec 8)) fun (i : Nat) => (rg 12 n).getD i (0 : BitVec 8)) (tagTxt (strL (fun (i : Nat) => (rg 32 k).getD i (0 : BitVec 8)) (BitVec.ofNat 32 1) (fun (i : Nat) => (rg 12 n).getD i (0 : BitVec 8)) b) more)) ∧ True : Prop) := by kernel_rfl
set_option maxRecDepth 100000 in
theorem vc10 (k n : F8) (b more M : By) (L : Nat) : bodyP Try.prog X4 gl0 [] [] 3000 Try.f10 0 [aggB 32 k, aggB 12 n, .rb false b .unk, .rb false more .unk] [] (retQ Try.prog Try.f10 0 (rB L M)) = (
List.length b < 1099511627776 ∧ List.length b = List.length (strL (fun (i : Nat) => (rg 32 k).getD i (0 : BitVec 8)) (BitVec.ofNat 32 1) (fun (i : Nat) => (rg 12 n).getD i (0 : BitVec 8)) b) ∧ List.length (strL (fun (i : Nat) => (rg 32 k).getD i (0 : BitVec 8)) (BitVec.ofNat 32 1) (fun (i : Nat) => (rg 12 n).getD i (0 : BitVec 8)) b) + List.length more + 128 < 1099511627776 ∧ List.length b = List.length (strL (fun (i : Nat) => (rg 32 k).getD i (0 : BitVec 8)) (BitVec.ofNat 32 1) (fun (i : Nat) => (rg 12 n).getD i (0 : BitVec 8)) b) ∧ roomFor (List.length b) (rg 16 (tagS (ownK (fun (i : Nat) => (rg 32 k).getD i (0 : BitVec 8)) fun (i : Nat) => (rg 12 n).getD i (0 : BitVec 8)) (tagTxt (strL (fun (i : Nat) => (rg 32 k).getD i (0 : BitVec 8)) (BitVec.ofNat 32 1) (fun (i : Nat) => (rg 12 n).getD i (0 : BitVec 8)) b) more))).length 1 ∧ 0 = 0 ∧ 0 = 0 ∧ 0 = 0 ∧ L = List.length b + (rg 16 (tagS (ownK (fun (i : Nat) => (rg 32 k).getD i (0 : BitVec 8)) fun (i : Nat) => (rg 12 n).getD i (0 : BitVec 8)) (tagTxt (strL (fun (i : Nat) => (rg 32 k).getD i (0 : BitVec 8)) (BitVec.ofNat 32 1) (fun (i : Nat) => (rg 12 n).getD i (0 : BitVec 8)) b) more))).length ∧ M = strL (fun (i : Nat) => (rg 32 k).getD i (0 : BitVec 8)) (BitVec.ofNat 32 1) (fun (i : Nat) => (rg 12 n).getD i (0 : BitVec 8)) b ++ rg 16 (tagS (ownK (fun (i : Nat) => (rg 32 k).getD i (0 : BitVec 8)) fun (i : Nat) => (rg 12 n).getD i (0 : BitVec 8)) (tagTxt (strL (fun (i : Nat) => (rg 32 k).getD i (0 : BitVec 8)) (BitVec.ofNat 32 1) (fun (i : Nat) => (rg 12 n).getD i (0 : BitVec 8)) b) more)) ∧ True : Prop) := by kernel_rfl
end Go.Sym

namespace Go.Spec
theorem sealL_length (k n : F8) (t more : By) : (sealL k n t more).length = t.length + 16 := by
  unfold sealL tagL txtS
  rw [List.length_append, strL_length, rg_length]
end Go.Spec
namespace Go.Sym
open Go.Proofs Go.Spec
set_option linter.unusedVariables false
theorem b7 (k n : F8) (b more : By) (hb : b.length + more.length + 256 < 1099511627776) : Must (bodyP Try.prog X4 gl0 [] [] 3000 Try.f7 0 [aggB 32 k, aggB 12 n, .rb false b .unk, .rb false more .unk] [] (retQ Try.prog Try.f7 0 (rB (b.length + 16) (sealL k n b more)))) := by
  constructor
  rw [vc7, ← re32_rg, ← re12_rg]
  have hl := strL_length (re32 k) (BitVec.ofNat 32 1) (re12 n) b
  refine ⟨by omega, hl.symm, by omega, hl.symm, by unfold roomFor; rw [rg_length]; omega, rfl, rfl, rfl, by rw [rg_length], rfl, trivial⟩
theorem b10 (k n : F8) (b more : By) (hb : b.length + more.length + 256 < 1099511627776) : Must (bodyP Try.prog X4 gl0 [] [] 3000 Try.f10 0 [aggB 32 k, aggB 12 n, .rb false b .unk, .rb false more .unk] [] (retQ Try.prog Try.f10 0 (rB (b.length + 16) (sealL k n b more)))) := by
  constructor
  rw [vc10, ← re32_rg, ← re12_rg]
  have hl := strL_length (re32 k) (BitVec.ofNat 32 1) (re12 n) b
  refine ⟨by omega, hl.symm, by omega, hl.symm, by unfold roomFor; rw [rg_length]; omega, rfl, rfl, rfl, by rw [rg_length], rfl, trivial⟩
noncomputable def g7 (xs : List AV) (bs : List ABlk) : TL := match xs, bs with
  | [.agg ks, .agg ns, .rb false b .unk, .rb false more .unk], [] => asB 32 ks fun k => asB 12 ns fun n => .ok ⟨[b.length + more.length + 256 < 1099511627776], .slice 0 0 1 (b.length + 16) .ow .unk, [], [⟨.bytes (sealL k n b more), true, 1⟩]⟩
  | _, _ => .no
noncomputable def sp7 : Spec := ⟨[.kp, .kp, .by0, .by0], fun _ _ => [], fun _ _ => [], g7⟩
theorem c7 : COK Try.prog gl0 7 (mkF sp7) := by
  refine ctrE (fn := Try.f7) [] 3000 (by kernel_rfl) (by kernel_rfl) okX4 (by kernel_rfl) (fun args w => by kernel_rfl) fun xs bs r hs ho => ?_
  simp only [sp7, g7] at hs
  split at hs
  · obtain ⟨k, e, hs⟩ := asB_sel hs
    obtain ⟨n, e2, hs⟩ := asB_sel hs
    simp only [TL.sel, Option.some.injEq] at hs
    subst hs
    rw [e, e2]
    exact ⟨_, b7 k n _ _ (obsT_one.1 ho)⟩
  · simp [TL.sel] at hs
theorem c10 : COK Try.prog gl0 10 (mkF sp7) := by
  refine ctrE (fn := Try.f10) [] 3000 (by kernel_rfl) (by kernel_rfl) okX4 (by kernel_rfl) (fun args w => by kernel_rfl) fun xs bs r hs ho => ?_
  simp only [sp7, g7] at hs
  split at hs
  · obtain ⟨k, e, hs⟩ := asB_sel hs
    obtain ⟨n, e2, hs⟩ := asB_sel hs
    simp only [TL.sel, Option.some.injEq] at hs
    subst hs
    rw [e, e2]
    exact ⟨_, b10 k n _ _ (obsT_one.1 ho)⟩
  · simp [TL.sel] at hs
noncomputable def Y1 : Ctx := X4.add 7 (mkF sp7)
noncomputable def Y2 : Ctx := Y1.add 10 (mkF sp7)
noncomputable def Y3 : Ctx := Y2.add 21 (mkF spSm)
theorem okY2 : COKs Try.prog gl0 Y2 := (okX4.add c7).add c10
theorem okY3 : COKs Try.prog gl0 Y3 := okY2.add c17s
end Go.Sym

namespace Go.Spec
/-- Is what is sealed somebody's? -/
def openB (k n : F8) (b more : By) : Prop := tagL k n (b.take (b.length - 16)) more = b.drop (b.length - 16)
open Classical in
noncomputable def openE (k n : F8) (b more : By) : Int := if b.length < 16 then 2 else if openB k n b more then 0 else 4
open Classical in
noncomputable def openK (k n : F8) (b more : By) : Bool := if b.length < 16 then false else if openB k n b more then true else false
open Classical in
noncomputable def openM (k n : F8) (b more : By) : By := if b.length < 16 then [] else if openB k n b more then txtS k n (b.take (b.length - 16)) else []
end Go.Spec
namespace Go.Sym
open Go.Proofs Go.Spec
set_option linter.unusedVariables false
def rO (v : AV) (L : Nat) (M : By) : RL := ⟨[], .tup [.slice 0 0 1 L .ow .unk, v], [], [⟨.bytes M, true, 1⟩]⟩
end Go.Sym

namespace Go.Sym
open Go.Proofs Go.Spec
set_option linter.unusedVariables false
set_option maxRecDepth 100000 in
theorem vc8 (k n : F8) (b more : By) (M : By) (L : Nat) (e : Int) : bodyP Try.prog Y3 gl0 [] [] 3000 Try.f8 0 [aggB 32 k, aggB 12 n, .rb false b .unk, .rb false more .unk] [] (retQ Try.prog Try.f8 0 (rO (.int .i64 e) L M)) = (
@Bool.rec (fun _ => Prop) ((0 : Int) ≤ IntKind.i64.wrap ((↑(List.length b) : Int) - (16 : Int)) ∧ (IntKind.i64.wrap ((↑(List.length b) : Int) - (16 : Int))).toNat ≤ List.length b ∧ (List.take (IntKind.i64.wrap ((↑(List.length b) : Int) - (16 : Int))).toNat b).length + List.length more + 128 < 1099511627776 ∧ (0 : Int) ≤ IntKind.i64.wrap ((↑(List.length b) : Int) - (16 : Int)) ∧ (IntKind.i64.wrap ((↑(List.length b) : Int) - (16 : Int))).toNat ≤ List.length b ∧ (rg 16 (tagS (ownK (fun (i : Nat) => (rg 32 k).getD i (0 : BitVec 8)) fun (i : Nat) => (rg 12 n).getD i (0 : BitVec 8)) (tagTxt (List.take (IntKind.i64.wrap ((↑(List.length b) : Int) - (16 : Int))).toNat b) more))).length < 4611686018427387904 ∧ @Bool.rec (fun _ => Prop) ((0 : Int) ≤ IntKind.i64.wrap ((↑(List.length b) : Int) - (16 : Int)) ∧ (IntKind.i64.wrap ((↑(List.length b) : Int) - (16 : Int))).toNat ≤ List.length b ∧ (List.take (IntKind.i64.wrap ((↑(List.length b) : Int) - (16 : Int))).toNat b).length < 1099511627776 ∧ 0 = 0 ∧ 0 = 0 ∧ 0 = 0 ∧ L = (List.take (IntKind.i64.wrap ((↑(List.length b) : Int) - (16 : Int))).toNat b).length ∧ e = (0 : Int) ∧ M = strL (fun (i : Nat) => (rg 32 k).getD i (0 : BitVec 8)) (BitVec.ofNat 32 1) (fun (i : Nat) => (rg 12 n).getD i (0 : BitVec 8)) (List.take (IntKind.i64.wrap ((↑(List.length b) : Int) - (16 : Int))).toNat b) ∧ True) (L = 0 ∧ e = (4 : Int) ∧ M = [] ∧ True) !sameB (rg 16 (tagS (ownK (fun (i : Nat) => (rg 32 k).getD i (0 : BitVec 8)) fun (i : Nat) => (rg 12 n).getD i (0 : BitVec 8)) (tagTxt (List.take (IntKind.i64.wrap ((↑(List.length b) : Int) - (16 : Int))).toNat b) more))) (List.drop (IntKind.i64.wrap ((↑(List.length b) : Int) - (16 : Int))).toNat b)) (L = 0 ∧ e = (2 : Int) ∧ M = [] ∧ True) (decide (IntKind.i64.wrap ((↑(List.length b) : Int) - (16 : Int)) < (0 : Int))) : Prop) := by kernel_rfl
set_option maxRecDepth 100000 in
theorem vc11 (k n : F8) (b more : By) (M : By) (L : Nat) (e : Bool) : bodyP Try.prog Y3 gl0 [] [] 3000 Try.f11 0 [aggB 32 k, aggB 12 n, .rb false b .unk, .rb false more .unk] [] (retQ Try.prog Try.f11 0 (rO (.bool e) L M)) = (
@Bool.rec (fun _ => Prop) ((0 : Int) ≤ IntKind.i64.wrap ((↑(List.length b) : Int) - (16 : Int)) ∧ (IntKind.i64.wrap ((↑(List.length b) : Int) - (16 : Int))).toNat ≤ List.length b ∧ 0 = 0 ∧ roomFor 0 (List.take (IntKind.i64.wrap ((↑(List.length b) : Int) - (16 : Int))).toNat b).length 1 ∧ 0 + (List.take (IntKind.i64.wrap ((↑(List.length b) : Int) - (16 : Int))).toNat b).length = ([] ++ List.take (IntKind.i64.wrap ((↑(List.length b) : Int) - (16 : Int))).toNat b).length ∧ ([] ++ List.take (IntKind.i64.wrap ((↑(List.length b) : Int) - (16 : Int))).toNat b).length + List.length more + 128 < 1099511627776 ∧ (0 : Int) ≤ IntKind.i64.wrap ((↑(List.length b) : Int) - (16 : Int)) ∧ (IntKind.i64.wrap ((↑(List.length b) : Int) - (16 : Int))).toNat ≤ List.length b ∧ @Bool.rec (fun _ => Prop) (0 + (List.take (IntKind.i64.wrap ((↑(List.length b) : Int) - (16 : Int))).toNat b).length = ([] ++ List.take (IntKind.i64.wrap ((↑(List.length b) : Int) - (16 : Int))).toNat b).length ∧ ([] ++ List.take (IntKind.i64.wrap ((↑(List.length b) : Int) - (16 : Int))).toNat b).length < 1099511627776 ∧ 0 = 0 ∧ 0 = 0 ∧ 0 = 0 ∧ L = ([] ++ List.take (IntKind.i64.wrap ((↑(List.length b) : Int) - (16 : Int))).toNat b).length ∧ e = Bool.true ∧ M = strL (fun (i : Nat) => (rg 32 k).getD i (0 : BitVec 8)) (BitVec.ofNat 32 1) (fun (i : Nat) => (rg 12 n).getD i (0 : BitVec 8)) ([] ++ List.take (IntKind.i64.wrap ((↑(List.length b) : Int) - (16 : Int))).toNat b) ∧ True) (L = 0 ∧ e = Bool.false ∧ M = [] ∧ True) !decide (rg 16 (tagS (ownK (fun (i : Nat) => (rg 32 k).getD i (0 : BitVec 8)) fun (i : Nat) => (rg 12 n).getD i (0 : BitVec 8)) (tagTxt ([] ++ List.take (IntKind.i64.wrap ((↑(List.length b) : Int) - (16 : Int))).toNat b) more)) = List.drop (IntKind.i64.wrap ((↑(List.length b) : Int) - (16 : Int))).toNat b)) (L = 0 ∧ e = Bool.false ∧ M = [] ∧ True) (decide ((↑(List.length b) : Int) < (16 : Int))) : Prop) := by kernel_rfl
end Go.Sym

namespace Go.Sym
open Go.Proofs Go.Spec
set_option linter.unusedVariables false
theorem wr16 {n : Nat} (h : 16 ≤ n) (h2 : n < 1099511627776) : IntKind.i64.wrap ((n : Int) - 16) = ((n - 16 : Nat) : Int) := wrap_nat _ (by omega) (by omega)
theorem wr16' {n : Nat} (h : n < 16) : IntKind.i64.wrap ((n : Int) - 16) = (n : Int) - 16 := wrap_i64 (by omega) (by omega)
theorem b8 (k n : F8) (b more : By) (hb : b.length + more.length + 256 < 1099511627776) : Must (bodyP Try.prog Y3 gl0 [] [] 3000 Try.f8 0 [aggB 32 k, aggB 12 n, .rb false b .unk, .rb false more .unk] [] (retQ Try.prog Try.f8 0 (rO (.int .i64 (openE k n b more)) (openM k n b more).length (openM k n b more)))) := by
  constructor
  rw [vc8, ← re32_rg, ← re12_rg]
  have hd : rg 16 (tagS (ownK (re32 k) (re12 n)) (tagTxt (b.take (b.length - 16)) more)) = tagL k n (b.take (b.length - 16)) more := rfl
  refine brec (fun h => ?_) (fun h => ?_)
  · have hl : b.length < 16 := by
      rcases Nat.lt_or_ge b.length 16 with g | g
      · exact g
      · rw [wr16 g (by omega)] at h
        have := dlt.1 h
        omega
    unfold openE openM
    simp only [if_pos hl, List.length_nil, and_self]
  · have hl : 16 ≤ b.length := by
      rcases Nat.lt_or_ge b.length 16 with g | g
      · rw [wr16' g] at h
        have := ndlt.1 h
        omega
      · exact g
    have hn : ¬ b.length < 16 := by omega
    have ht : (List.take (b.length - 16) b).length = b.length - 16 := by simp
    have hs := strL_length (re32 k) (BitVec.ofNat 32 1) (re12 n) (List.take (b.length - 16) b)
    have htl : (tagL k n (List.take (b.length - 16) b) more).length = 16 := rg_length _ _
    rw [wr16 hl (by omega), Int.toNat_natCast, hd, sameB_eq, htl, ht]
    refine ⟨by omega, by omega, by omega, by omega, by omega, by omega, ?_⟩
    refine brec (fun g => ?_) (fun g => ?_)
    · have hg : ¬ openB k n b more := by simpa [openB] using g
      unfold openE openM
      simp only [if_neg hn, if_neg hg, List.length_nil, and_self]
    · have hg : openB k n b more := by simpa [openB] using g
      unfold openE openM
      simp only [if_neg hn, if_pos hg, and_true, true_and]
      refine ⟨by omega, by omega, by omega, by rw [txtS, hs, ht], rfl⟩
theorem b11 (k n : F8) (b more : By) (hb : b.length + more.length + 256 < 1099511627776) : Must (bodyP Try.prog Y3 gl0 [] [] 3000 Try.f11 0 [aggB 32 k, aggB 12 n, .rb false b .unk, .rb false more .unk] [] (retQ Try.prog Try.f11 0 (rO (.bool (openK k n b more)) (openM k n b more).length (openM k n b more)))) := by
  constructor
  rw [vc11, ← re32_rg, ← re12_rg]
  have hd : rg 16 (tagS (ownK (re32 k) (re12 n)) (tagTxt (b.take (b.length - 16)) more)) = tagL k n (b.take (b.length - 16)) more := rfl
  refine brec (fun h => ?_) (fun h => ?_)
  · have hl : b.length < 16 := by have := dlt.1 h; omega
    unfold openK openM
    simp only [if_pos hl, List.length_nil, and_self]
  · have hl : 16 ≤ b.length := by have := ndlt.1 h; omega
    have hn : ¬ b.length < 16 := by omega
    have ht : (List.take (b.length - 16) b).length = b.length - 16 := by simp
    have hs := strL_length (re32 k) (BitVec.ofNat 32 1) (re12 n) (List.take (b.length - 16) b)
    rw [wr16 hl (by omega), Int.toNat_natCast]
    simp only [List.nil_append, hd, ht]
    refine ⟨by omega, by omega, trivial, by unfold roomFor; omega, by omega, by omega, by omega, by omega, ?_⟩
    refine brec (fun g => ?_) (fun g => ?_)
    · have hg : ¬ openB k n b more := by simpa [openB] using g
      unfold openK openM
      simp only [if_neg hn, if_neg hg, List.length_nil, and_self]
    · have hg : openB k n b more := by simpa [openB] using g
      unfold openK openM
      simp only [if_neg hn, if_pos hg, and_true, true_and]
      refine ⟨by omega, by omega, by rw [txtS, hs, ht], rfl⟩
noncomputable def g8 (xs : List AV) (bs : List ABlk) : TL := match xs, bs with
  | [.agg ks, .agg ns, .rb false b .unk, .rb false more .unk], [] => asB 32 ks fun k => asB 12 ns fun n => .ok ⟨[b.length + more.length + 256 < 1099511627776], .tup [.slice 0 0 1 (openM k n b more).length .ow .unk, .int .i64 (openE k n b more)], [], [⟨.bytes (openM k n b more), true, 1⟩]⟩
  | _, _ => .no
noncomputable def sp8 : Spec := ⟨[.kp, .kp, .by0, .by0], fun _ _ => [], fun _ _ => [], g8⟩
noncomputable def g11 (xs : List AV) (bs : List ABlk) : TL := match xs, bs with
  | [.agg ks, .agg ns, .rb false b .unk, .rb false more .unk], [] => asB 32 ks fun k => asB 12 ns fun n => .ok ⟨[b.length + more.length + 256 < 1099511627776], .tup [.slice 0 0 1 (openM k n b more).length .ow .unk, .bool (openK k n b more)], [], [⟨.bytes (openM k n b more), true, 1⟩]⟩
  | _, _ => .no
noncomputable def sp11 : Spec := ⟨[.kp, .kp, .by0, .by0], fun _ _ => [], fun _ _ => [], g11⟩
theorem c8 : COK Try.prog gl0 8 (mkF sp8) := by
  refine ctrE (fn := Try.f8) [] 3000 (by kernel_rfl) (by kernel_rfl) okY3 (by kernel_rfl) (fun args w => by kernel_rfl) fun xs bs r hs ho => ?_
  simp only [sp8, g8] at hs
  split at hs
  · obtain ⟨k, e, hs⟩ := asB_sel hs
    obtain ⟨n, e2, hs⟩ := asB_sel hs
    simp only [TL.sel, Option.some.injEq] at hs
    subst hs
    rw [e, e2]
    exact ⟨_, b8 k n _ _ (obsT_one.1 ho)⟩
  · simp [TL.sel] at hs
theorem c11 : COK Try.prog gl0 11 (mkF sp11) := by
  refine ctrE (fn := Try.f11) [] 3000 (by kernel_rfl) (by kernel_rfl) okY3 (by kernel_rfl) (fun args w => by kernel_rfl) fun xs bs r hs ho => ?_
  simp only [sp11, g11] at hs
  split at hs
  · obtain ⟨k, e, hs⟩ := asB_sel hs
    obtain ⟨n, e2, hs⟩ := asB_sel hs
    simp only [TL.sel, Option.some.injEq] at hs
    subst hs
    rw [e, e2]
    exact ⟨_, b11 k n _ _ (obsT_one.1 ho)⟩
  · simp [TL.sel] at hs
noncomputable def Y4 : Ctx := Y3.add 8 (mkF sp8)
noncomputable def Y5 : Ctx := Y4.add 11 (mkF sp11)
theorem okY5 : COKs Try.prog gl0 Y5 := (okY3.add c8).add c11
end Go.Sym

namespace Go.Sym
open Go.Proofs Go.Spec
set_option linter.unusedVariables false
set_option maxRecDepth 100000 in
theorem vc9  : bodyP Try.prog Y5 gl0 [] [] 3000 Try.f9 0 [] [] (retQ Try.prog Try.f9 0 (rt (.bool true))) = (
0 < 4 ∧
 0 < 4 ∧
 0 < 4 ∧
 0 < 4 ∧
 4 = 4 ∧
 4 = 4 ∧
 264 < 1099511627776 ∧
 0 < 4 ∧
 0 < 4 ∧
 20 = 20 ∧
 4 = 4 ∧
 280 < 1099511627776 ∧
 0 < 4 ∧
 0 < 4 ∧
 20 = 20 ∧
 4 = 4 ∧
 280 < 1099511627776 ∧
 @Bool.rec (fun _ => Prop) (Bool.true = Bool.false ∧
 True) (List.length (openM (fun (i : Nat) => (BitVec.ofNat 8 1 :: List.replicate 31 (BitVec.ofNat 8 0)).getD i (0 : BitVec 8)) (fun (i : Nat) => (BitVec.ofNat 8 2 :: List.replicate 11 (BitVec.ofNat 8 0)).getD i (0 : BitVec 8)) (sealL (fun (i : Nat) => (BitVec.ofNat 8 1 :: List.replicate 31 (BitVec.ofNat 8 0)).getD i (0 : BitVec 8)) (fun (i : Nat) => (BitVec.ofNat 8 2 :: List.replicate 11 (BitVec.ofNat 8 0)).getD i (0 : BitVec 8)) [BitVec.ofNat 8 116, BitVec.ofNat 8 101, BitVec.ofNat 8 120, BitVec.ofNat 8 116] [BitVec.ofNat 8 109, BitVec.ofNat 8 111, BitVec.ofNat 8 114, BitVec.ofNat 8 101]) [BitVec.ofNat 8 109, BitVec.ofNat 8 111, BitVec.ofNat 8 114, BitVec.ofNat 8 101]) = List.length (openM (fun (i : Nat) => (BitVec.ofNat 8 1 :: List.replicate 31 (BitVec.ofNat 8 0)).getD i (0 : BitVec 8)) (fun (i : Nat) => (BitVec.ofNat 8 2 :: List.replicate 11 (BitVec.ofNat 8 0)).getD i (0 : BitVec 8)) (sealL (fun (i : Nat) => (BitVec.ofNat 8 1 :: List.replicate 31 (BitVec.ofNat 8 0)).getD i (0 : BitVec 8)) (fun (i : Nat) => (BitVec.ofNat 8 2 :: List.replicate 11 (BitVec.ofNat 8 0)).getD i (0 : BitVec 8)) [BitVec.ofNat 8 116, BitVec.ofNat 8 101, BitVec.ofNat 8 120, BitVec.ofNat 8 116] [BitVec.ofNat 8 109, BitVec.ofNat 8 111, BitVec.ofNat 8 114, BitVec.ofNat 8 101]) [BitVec.ofNat 8 109, BitVec.ofNat 8 111, BitVec.ofNat 8 114, BitVec.ofNat 8 101]) ∧
 @Bool.rec (fun _ => Prop) (Bool.true = Bool.false ∧
 True) (Bool.true = decide (openE (fun (i : Nat) => (BitVec.ofNat 8 1 :: List.replicate 31 (BitVec.ofNat 8 0)).getD i (0 : BitVec 8)) (fun (i : Nat) => (BitVec.ofNat 8 2 :: List.replicate 11 (BitVec.ofNat 8 0)).getD i (0 : BitVec 8)) (sealL (fun (i : Nat) => (BitVec.ofNat 8 1 :: List.replicate 31 (BitVec.ofNat 8 0)).getD i (0 : BitVec 8)) (fun (i : Nat) => (BitVec.ofNat 8 2 :: List.replicate 11 (BitVec.ofNat 8 0)).getD i (0 : BitVec 8)) [BitVec.ofNat 8 116, BitVec.ofNat 8 101, BitVec.ofNat 8 120, BitVec.ofNat 8 116] [BitVec.ofNat 8 109, BitVec.ofNat 8 111, BitVec.ofNat 8 114, BitVec.ofNat 8 101]) [BitVec.ofNat 8 108, BitVec.ofNat 8 101, BitVec.ofNat 8 115, BitVec.ofNat 8 115] = (4 : Int)) ∧
 True) (decide (openM (fun (i : Nat) => (BitVec.ofNat 8 1 :: List.replicate 31 (BitVec.ofNat 8 0)).getD i (0 : BitVec 8)) (fun (i : Nat) => (BitVec.ofNat 8 2 :: List.replicate 11 (BitVec.ofNat 8 0)).getD i (0 : BitVec 8)) (sealL (fun (i : Nat) => (BitVec.ofNat 8 1 :: List.replicate 31 (BitVec.ofNat 8 0)).getD i (0 : BitVec 8)) (fun (i : Nat) => (BitVec.ofNat 8 2 :: List.replicate 11 (BitVec.ofNat 8 0)).getD i (0 : BitVec 8)) [BitVec.ofNat 8 116, BitVec.ofNat 8 101, BitVec.ofNat 8 120, BitVec.ofNat 8 116] [BitVec.ofNat 8 109, BitVec.ofNat 8 111, BitVec.ofNat 8 114, BitVec.ofNat 8 101]) [BitVec.ofNat 8 109, BitVec.ofNat 8 111, BitVec.ofNat 8 114, BitVec.ofNat 8 101] = [BitVec.ofNat 8 116, BitVec.ofNat 8 101, BitVec.ofNat 8 120, BitVec.ofNat 8 116]))) (decide (openE (fun (i : Nat) => (BitVec.ofNat 8 1 :: List.replicate 31 (BitVec.ofNat 8 0)).getD i (0 : BitVec 8)) (fun (i : Nat) => (BitVec.ofNat 8 2 :: List.replicate 11 (BitVec.ofNat 8 0)).getD i (0 : BitVec 8)) (sealL (fun (i : Nat) => (BitVec.ofNat 8 1 :: List.replicate 31 (BitVec.ofNat 8 0)).getD i (0 : BitVec 8)) (fun (i : Nat) => (BitVec.ofNat 8 2 :: List.replicate 11 (BitVec.ofNat 8 0)).getD i (0 : BitVec 8)) [BitVec.ofNat 8 116, BitVec.ofNat 8 101, BitVec.ofNat 8 120, BitVec.ofNat 8 116] [BitVec.ofNat 8 109, BitVec.ofNat 8 111, BitVec.ofNat 8 114, BitVec.ofNat 8 101]) [BitVec.ofNat 8 109, BitVec.ofNat 8 111, BitVec.ofNat 8 114, BitVec.ofNat 8 101] = (0 : Int))) : Prop) := by kernel_rfl
end Go.Sym

namespace Go.Spec
theorem re32_re (k : F8) (f : Nat → BitVec 8) (h : ∀ i, i < 32 → f i = k i) : rg 32 f = rg 32 k := rg_congr h
theorem txt_txt (k n : F8) (t : By) : txtS k n (txtS k n t) = t := strL_twice _ _ _ _
theorem txtS_length (k n : F8) (t : By) : (txtS k n t).length = t.length := strL_length _ _ _ _
theorem tagL_length (k n : F8) (t m : By) : (tagL k n t m).length = 16 := rg_length _ _
theorem seal_take (k n : F8) (t m : By) : (sealL k n t m).take ((sealL k n t m).length - 16) = txtS k n t := by
  rw [sealL_length, Nat.add_sub_cancel]
  unfold sealL
  rw [List.take_append_of_le_length (by rw [txtS_length]; omega), List.take_of_length_le (by rw [txtS_length]; omega)]
theorem seal_drop (k n : F8) (t m : By) : (sealL k n t m).drop ((sealL k n t m).length - 16) = tagL k n (txtS k n t) m := by
  rw [sealL_length, Nat.add_sub_cancel]
  unfold sealL
  rw [List.drop_append_of_le_length (by rw [txtS_length]; omega), List.drop_eq_nil_of_le (by rw [txtS_length]; omega), List.nil_append]
theorem openB_seal (k n : F8) (t m : By) : openB k n (sealL k n t m) m := by
  unfold openB
  rw [seal_take, seal_drop]
theorem openE_seal (k n : F8) (t m : By) : openE k n (sealL k n t m) m = 0 := by
  unfold openE
  rw [if_neg (by rw [sealL_length]; omega), if_pos (openB_seal k n t m)]
theorem openK_seal (k n : F8) (t m : By) : openK k n (sealL k n t m) m = true := by
  unfold openK
  rw [if_neg (by rw [sealL_length]; omega), if_pos (openB_seal k n t m)]
theorem openM_seal (k n : F8) (t m : By) : openM k n (sealL k n t m) m = t := by
  unfold openM
  rw [if_neg (by rw [sealL_length]; omega), if_pos (openB_seal k n t m), seal_take, txt_txt]
def k1 : F8 := fun i => (BitVec.ofNat 8 1 :: List.replicate 31 (BitVec.ofNat 8 0)).getD i 0
def n2 : F8 := fun i => (BitVec.ofNat 8 2 :: List.replicate 11 (BitVec.ofNat 8 0)).getD i 0
def aText : By := [116#8, 101#8, 120#8, 116#8]
def aMore : By := [109#8, 111#8, 114#8, 101#8]
def aLess : By := [108#8, 101#8, 115#8, 115#8]
set_option maxRecDepth 100000 in
theorem key_txt : txtS k1 n2 aText = [244#8, 15#8, 198#8, 225#8] := by kernel_rfl
set_option maxRecDepth 100000 in
theorem tag_more : tagS (ownK (re32 k1) (re12 n2)) (tagTxt [244#8, 15#8, 198#8, 225#8] aMore) 0 = 49#8 := by kernel_rfl
set_option maxRecDepth 100000 in
theorem tag_less : tagS (ownK (re32 k1) (re12 n2)) (tagTxt [244#8, 15#8, 198#8, 225#8] aLess) 0 = 244#8 := by kernel_rfl
end Go.Spec

namespace Go.Spec
theorem not_open : ¬ openB k1 n2 (sealL k1 n2 aText aMore) aLess := by
  unfold openB
  rw [seal_take, seal_drop, key_txt]
  intro h
  have h := congrArg (fun l => l.getD 0 0) h
  unfold tagL at h
  simp only [rg_getD _ _ _ _ (show 0 < 16 by omega), tag_more, tag_less] at h
  exact absurd h (by decide)
theorem openE_less : openE k1 n2 (sealL k1 n2 aText aMore) aLess = 4 := by
  unfold openE
  rw [if_neg (by rw [sealL_length]; omega), if_neg not_open]
end Go.Spec
namespace Go.Sym
open Go.Proofs Go.Spec
set_option linter.unusedVariables false
theorem b9 : Must (bodyP Try.prog Y5 gl0 [] [] 3000 Try.f9 0 [] [] (retQ Try.prog Try.f9 0 (rt (.bool true)))) := by
  constructor
  rw [vc9]
  have h4 : openE (fun (i : Nat) => (BitVec.ofNat 8 1 :: List.replicate 31 (BitVec.ofNat 8 0)).getD i (0 : BitVec 8)) (fun (i : Nat) => (BitVec.ofNat 8 2 :: List.replicate 11 (BitVec.ofNat 8 0)).getD i (0 : BitVec 8)) (sealL (fun (i : Nat) => (BitVec.ofNat 8 1 :: List.replicate 31 (BitVec.ofNat 8 0)).getD i (0 : BitVec 8)) (fun (i : Nat) => (BitVec.ofNat 8 2 :: List.replicate 11 (BitVec.ofNat 8 0)).getD i (0 : BitVec 8)) [BitVec.ofNat 8 116, BitVec.ofNat 8 101, BitVec.ofNat 8 120, BitVec.ofNat 8 116] [BitVec.ofNat 8 109, BitVec.ofNat 8 111, BitVec.ofNat 8 114, BitVec.ofNat 8 101]) [BitVec.ofNat 8 108, BitVec.ofNat 8 101, BitVec.ofNat 8 115, BitVec.ofNat 8 115] = 4 := openE_less
  simp only [openE_seal, openM_seal, h4, decide_true, and_true, true_and]
  omega
theorem c9 : COK Try.prog gl0 9 (mkF (spK 0 g12)) := by
  refine ctrE (fn := Try.f9) [] 3000 (by kernel_rfl) (by kernel_rfl) okY5 (by kernel_rfl) (fun args w => by kernel_rfl) fun xs bs r hs ho => ?_
  obtain ⟨rfl, h2⟩ := spK_sel hs
  clear hs
  have hs := h2
  clear h2
  unfold g12 at hs
  split at hs
  · simp only [TL.sel, Option.some.injEq] at hs
    subst hs
    exact ⟨_, b9⟩
  · simp [TL.sel] at hs
noncomputable def Y6 : Ctx := Y5.add 9 (mkF (spK 0 g12))
theorem okY6 : COKs Try.prog gl0 Y6 := okY5.add c9
end Go.Sym

namespace Go.Sym
open Go.Proofs Go.Spec
set_option linter.unusedVariables false
set_option maxRecDepth 100000 in
theorem vc3 (k n : F8) (t m : By) (c d : Bool) : bodyP Try.prog Y6 gl0 [] [] 3000 Try.f3 0 [.agg (row8 32 k ++ row8 12 n), .rb true t (.is c), .rb true m (.is d)] [] (retQ Try.prog Try.f3 0 (rt (.bool true))) = (
(0 : Int) ≤ Min.min (↑(List.length t) : Int) (200 : Int) ∧
 (Min.min (↑(List.length t) : Int) (200 : Int)).toNat ≤ List.length t ∧
 (0 : Int) ≤ Min.min (↑(List.length m) : Int) (60 : Int) ∧
 (Min.min (↑(List.length m) : Int) (60 : Int)).toNat ≤ List.length m ∧
 (List.take (Min.min (↑(List.length t) : Int) (200 : Int)).toNat t).length + (List.take (Min.min (↑(List.length m) : Int) (60 : Int)).toNat m).length ≤ 9223372036854775807 ∧
 (List.take (Min.min (↑(List.length t) : Int) (200 : Int)).toNat t).length + (List.take (Min.min (↑(List.length m) : Int) (60 : Int)).toNat m).length + 256 < 1099511627776 ∧
 (List.take (Min.min (↑(List.length t) : Int) (200 : Int)).toNat t).length + 16 = List.length (sealL (fun (i : Nat) => (rg 32 k).getD i (0 : BitVec 8)) (fun (i : Nat) => (rg 12 n).getD i (0 : BitVec 8)) (List.take (Min.min (↑(List.length t) : Int) (200 : Int)).toNat t) (List.take (Min.min (↑(List.length m) : Int) (60 : Int)).toNat m)) ∧
 List.length (sealL (fun (i : Nat) => (rg 32 k).getD i (0 : BitVec 8)) (fun (i : Nat) => (rg 12 n).getD i (0 : BitVec 8)) (List.take (Min.min (↑(List.length t) : Int) (200 : Int)).toNat t) (List.take (Min.min (↑(List.length m) : Int) (60 : Int)).toNat m)) + (List.take (Min.min (↑(List.length m) : Int) (60 : Int)).toNat m).length + 256 < 1099511627776 ∧
 (List.take (Min.min (↑(List.length t) : Int) (200 : Int)).toNat t).length + 16 = List.length (sealL (fun (i : Nat) => (rg 32 k).getD i (0 : BitVec 8)) (fun (i : Nat) => (rg 12 n).getD i (0 : BitVec 8)) (List.take (Min.min (↑(List.length t) : Int) (200 : Int)).toNat t) (List.take (Min.min (↑(List.length m) : Int) (60 : Int)).toNat m)) ∧
 (List.take (Min.min (↑(List.length t) : Int) (200 : Int)).toNat t).length + (List.take (Min.min (↑(List.length m) : Int) (60 : Int)).toNat m).length + 256 < 1099511627776 ∧
 (List.take (Min.min (↑(List.length t) : Int) (200 : Int)).toNat t).length + 16 = List.length (sealL (fun (i : Nat) => (rg 32 k).getD i (0 : BitVec 8)) (fun (i : Nat) => (rg 12 n).getD i (0 : BitVec 8)) (List.take (Min.min (↑(List.length t) : Int) (200 : Int)).toNat t) (List.take (Min.min (↑(List.length m) : Int) (60 : Int)).toNat m)) ∧
 @Bool.rec (fun _ => Prop) (Bool.true = Bool.false ∧
 True) (@Bool.rec (fun _ => Prop) (Bool.true = Bool.false ∧
 True) (List.length (openM (fun (i : Nat) => (rg 32 k).getD i (0 : BitVec 8)) (fun (i : Nat) => (rg 12 n).getD i (0 : BitVec 8)) (sealL (fun (i : Nat) => (rg 32 k).getD i (0 : BitVec 8)) (fun (i : Nat) => (rg 12 n).getD i (0 : BitVec 8)) (List.take (Min.min (↑(List.length t) : Int) (200 : Int)).toNat t) (List.take (Min.min (↑(List.length m) : Int) (60 : Int)).toNat m)) (List.take (Min.min (↑(List.length m) : Int) (60 : Int)).toNat m)) = List.length (openM (fun (i : Nat) => (rg 32 k).getD i (0 : BitVec 8)) (fun (i : Nat) => (rg 12 n).getD i (0 : BitVec 8)) (sealL (fun (i : Nat) => (rg 32 k).getD i (0 : BitVec 8)) (fun (i : Nat) => (rg 12 n).getD i (0 : BitVec 8)) (List.take (Min.min (↑(List.length t) : Int) (200 : Int)).toNat t) (List.take (Min.min (↑(List.length m) : Int) (60 : Int)).toNat m)) (List.take (Min.min (↑(List.length m) : Int) (60 : Int)).toNat m)) ∧
 @Bool.rec (fun _ => Prop) (Bool.true = Bool.false ∧
 True) ((List.take (Min.min (↑(List.length t) : Int) (200 : Int)).toNat t).length + (List.take (Min.min (↑(List.length m) : Int) (60 : Int)).toNat m).length ≤ 9223372036854775807 ∧
 Bool.true = decide (List.take (Min.min (↑(List.length t) : Int) (200 : Int)).toNat t ++ List.take (Min.min (↑(List.length m) : Int) (60 : Int)).toNat m = List.take (Min.min (↑(List.length t) : Int) (200 : Int)).toNat t ++ List.take (Min.min (↑(List.length m) : Int) (60 : Int)).toNat m) ∧
 True) (decide (openM (fun (i : Nat) => (rg 32 k).getD i (0 : BitVec 8)) (fun (i : Nat) => (rg 12 n).getD i (0 : BitVec 8)) (sealL (fun (i : Nat) => (rg 32 k).getD i (0 : BitVec 8)) (fun (i : Nat) => (rg 12 n).getD i (0 : BitVec 8)) (List.take (Min.min (↑(List.length t) : Int) (200 : Int)).toNat t) (List.take (Min.min (↑(List.length m) : Int) (60 : Int)).toNat m)) (List.take (Min.min (↑(List.length m) : Int) (60 : Int)).toNat m) = List.take (Min.min (↑(List.length t) : Int) (200 : Int)).toNat t))) (decide (openE (fun (i : Nat) => (rg 32 k).getD i (0 : BitVec 8)) (fun (i : Nat) => (rg 12 n).getD i (0 : BitVec 8)) (sealL (fun (i : Nat) => (rg 32 k).getD i (0 : BitVec 8)) (fun (i : Nat) => (rg 12 n).getD i (0 : BitVec 8)) (List.take (Min.min (↑(List.length t) : Int) (200 : Int)).toNat t) (List.take (Min.min (↑(List.length m) : Int) (60 : Int)).toNat m)) (List.take (Min.min (↑(List.length m) : Int) (60 : Int)).toNat m) = (0 : Int)))) (decide (sealL (fun (i : Nat) => (rg 32 k).getD i (0 : BitVec 8)) (fun (i : Nat) => (rg 12 n).getD i (0 : BitVec 8)) (List.take (Min.min (↑(List.length t) : Int) (200 : Int)).toNat t) (List.take (Min.min (↑(List.length m) : Int) (60 : Int)).toNat m) = sealL (fun (i : Nat) => (rg 32 k).getD i (0 : BitVec 8)) (fun (i : Nat) => (rg 12 n).getD i (0 : BitVec 8)) (List.take (Min.min (↑(List.length t) : Int) (200 : Int)).toNat t) (List.take (Min.min (↑(List.length m) : Int) (60 : Int)).toNat m))) : Prop) := by kernel_rfl
set_option maxRecDepth 100000 in
theorem vc4 (k n : F8) (t : By) (c : Bool) (x y : Int) : bodyP Try.prog Y6 gl0 [] [] 3000 Try.f4 0 [.agg (row8 32 k ++ row8 12 n), .rb true t (.is c), .agg [.int .i64 x, .int .i64 y]] [] (retQ Try.prog Try.f4 0 (rt (.bool true))) = (
(0 : Int) ≤ Min.min (↑(List.length t) : Int) (100 : Int) ∧
 (Min.min (↑(List.length t) : Int) (100 : Int)).toNat ≤ List.length t ∧
 (List.take (Min.min (↑(List.length t) : Int) (100 : Int)).toNat t).length + 0 + 256 < 1099511627776 ∧
 @Bool.rec (fun _ => Prop) (@Bool.rec (fun _ => Prop) ((List.take (Min.min (↑(List.length t) : Int) (100 : Int)).toNat t).length + 16 = List.length (sealL (fun (i : Nat) => (rg 32 k).getD i (0 : BitVec 8)) (fun (i : Nat) => (rg 12 n).getD i (0 : BitVec 8)) (List.take (Min.min (↑(List.length t) : Int) (100 : Int)).toNat t) []) ∧
 List.length (sealL (fun (i : Nat) => (rg 32 k).getD i (0 : BitVec 8)) (fun (i : Nat) => (rg 12 n).getD i (0 : BitVec 8)) (List.take (Min.min (↑(List.length t) : Int) (100 : Int)).toNat t) []) + 0 + 256 < 1099511627776 ∧
 (List.take (Min.min (↑(List.length t) : Int) (100 : Int)).toNat t).length + 16 = List.length (sealL (fun (i : Nat) => (rg 32 k).getD i (0 : BitVec 8)) (fun (i : Nat) => (rg 12 n).getD i (0 : BitVec 8)) (List.take (Min.min (↑(List.length t) : Int) (100 : Int)).toNat t) []) ∧
 List.length (sealL (fun (i : Nat) => (rg 32 k).getD i (0 : BitVec 8)) (fun (i : Nat) => (rg 12 n).getD i (0 : BitVec 8)) (List.take (Min.min (↑(List.length t) : Int) (100 : Int)).toNat t) []) + 0 + 256 < 1099511627776 ∧
 @Bool.rec (fun _ => Prop) (Bool.true = Bool.false ∧
 True) (List.length (openM (fun (i : Nat) => (rg 32 k).getD i (0 : BitVec 8)) (fun (i : Nat) => (rg 12 n).getD i (0 : BitVec 8)) (sealL (fun (i : Nat) => (rg 32 k).getD i (0 : BitVec 8)) (fun (i : Nat) => (rg 12 n).getD i (0 : BitVec 8)) (List.take (Min.min (↑(List.length t) : Int) (100 : Int)).toNat t) []) []) = List.length (openM (fun (i : Nat) => (rg 32 k).getD i (0 : BitVec 8)) (fun (i : Nat) => (rg 12 n).getD i (0 : BitVec 8)) (sealL (fun (i : Nat) => (rg 32 k).getD i (0 : BitVec 8)) (fun (i : Nat) => (rg 12 n).getD i (0 : BitVec 8)) (List.take (Min.min (↑(List.length t) : Int) (100 : Int)).toNat t) []) []) ∧
 List.length (openM (fun (i : Nat) => (rg 32 k).getD i (0 : BitVec 8)) (fun (i : Nat) => (rg 12 n).getD i (0 : BitVec 8)) (sealL (fun (i : Nat) => (rg 32 k).getD i (0 : BitVec 8)) (fun (i : Nat) => (rg 12 n).getD i (0 : BitVec 8)) (List.take (Min.min (↑(List.length t) : Int) (100 : Int)).toNat t) []) []) = List.length (openM (fun (i : Nat) => (rg 32 k).getD i (0 : BitVec 8)) (fun (i : Nat) => (rg 12 n).getD i (0 : BitVec 8)) (sealL (fun (i : Nat) => (rg 32 k).getD i (0 : BitVec 8)) (fun (i : Nat) => (rg 12 n).getD i (0 : BitVec 8)) (List.take (Min.min (↑(List.length t) : Int) (100 : Int)).toNat t) []) []) ∧
 @Bool.rec (fun _ => Prop) (Bool.true = Bool.false ∧
 True) (@Bool.rec (fun _ => Prop) (Bool.true = Bool.true ∧
 True) (@Bool.rec (fun _ => Prop) (Bool.true = Bool.false ∧
 True) (@Bool.rec (fun _ => Prop) (Bool.true = Bool.true ∧
 True) (Bool.true = decide (openE (fun (i : Nat) => (rg 32 k).getD i (0 : BitVec 8)) (fun (i : Nat) => (rg 12 n).getD i (0 : BitVec 8)) (sealL (fun (i : Nat) => (rg 32 k).getD i (0 : BitVec 8)) (fun (i : Nat) => (rg 12 n).getD i (0 : BitVec 8)) (List.take (Min.min (↑(List.length t) : Int) (100 : Int)).toNat t) []) [] = (4 : Int)) ∧
 True) !decide (openE (fun (i : Nat) => (rg 32 k).getD i (0 : BitVec 8)) (fun (i : Nat) => (rg 12 n).getD i (0 : BitVec 8)) (sealL (fun (i : Nat) => (rg 32 k).getD i (0 : BitVec 8)) (fun (i : Nat) => (rg 12 n).getD i (0 : BitVec 8)) (List.take (Min.min (↑(List.length t) : Int) (100 : Int)).toNat t) []) [] = (2 : Int))) (decide (decide (openE (fun (i : Nat) => (rg 32 k).getD i (0 : BitVec 8)) (fun (i : Nat) => (rg 12 n).getD i (0 : BitVec 8)) (sealL (fun (i : Nat) => (rg 32 k).getD i (0 : BitVec 8)) (fun (i : Nat) => (rg 12 n).getD i (0 : BitVec 8)) (List.take (Min.min (↑(List.length t) : Int) (100 : Int)).toNat t) []) [] = (2 : Int)) = decide ((↑((List.take (Min.min (↑(List.length t) : Int) (100 : Int)).toNat t).length + 16) : Int) < (16 : Int))))) !decide (openE (fun (i : Nat) => (rg 32 k).getD i (0 : BitVec 8)) (fun (i : Nat) => (rg 12 n).getD i (0 : BitVec 8)) (sealL (fun (i : Nat) => (rg 32 k).getD i (0 : BitVec 8)) (fun (i : Nat) => (rg 12 n).getD i (0 : BitVec 8)) (List.take (Min.min (↑(List.length t) : Int) (100 : Int)).toNat t) []) [] = (0 : Int))) (decide (openM (fun (i : Nat) => (rg 32 k).getD i (0 : BitVec 8)) (fun (i : Nat) => (rg 12 n).getD i (0 : BitVec 8)) (sealL (fun (i : Nat) => (rg 32 k).getD i (0 : BitVec 8)) (fun (i : Nat) => (rg 12 n).getD i (0 : BitVec 8)) (List.take (Min.min (↑(List.length t) : Int) (100 : Int)).toNat t) []) [] = openM (fun (i : Nat) => (rg 32 k).getD i (0 : BitVec 8)) (fun (i : Nat) => (rg 12 n).getD i (0 : BitVec 8)) (sealL (fun (i : Nat) => (rg 32 k).getD i (0 : BitVec 8)) (fun (i : Nat) => (rg 12 n).getD i (0 : BitVec 8)) (List.take (Min.min (↑(List.length t) : Int) (100 : Int)).toNat t) []) []))) (decide (decide (openE (fun (i : Nat) => (rg 32 k).getD i (0 : BitVec 8)) (fun (i : Nat) => (rg 12 n).getD i (0 : BitVec 8)) (sealL (fun (i : Nat) => (rg 32 k).getD i (0 : BitVec 8)) (fun (i : Nat) => (rg 12 n).getD i (0 : BitVec 8)) (List.take (Min.min (↑(List.length t) : Int) (100 : Int)).toNat t) []) [] = (0 : Int)) = openK (fun (i : Nat) => (rg 32 k).getD i (0 : BitVec 8)) (fun (i : Nat) => (rg 12 n).getD i (0 : BitVec 8)) (sealL (fun (i : Nat) => (rg 32 k).getD i (0 : BitVec 8)) (fun (i : Nat) => (rg 12 n).getD i (0 : BitVec 8)) (List.take (Min.min (↑(List.length t) : Int) (100 : Int)).toNat t) []) []))) ((BitVec.ofInt 64 (↑((List.take (Min.min (↑(List.length t) : Int) (100 : Int)).toNat t).length + 16) : Int)).toNat ≠ 0 ∧
 (0 : Int) ≤ IntKind.i64.wrap (↑(BitVec.ofInt 64 x % BitVec.ofInt 64 (↑((List.take (Min.min (↑(List.length t) : Int) (100 : Int)).toNat t).length + 16) : Int)).toNat : Int) ∧
 (IntKind.i64.wrap (↑(BitVec.ofInt 64 x % BitVec.ofInt 64 (↑((List.take (Min.min (↑(List.length t) : Int) (100 : Int)).toNat t).length + 16) : Int)).toNat : Int)).toNat < (List.take (Min.min (↑(List.length t) : Int) (100 : Int)).toNat t).length + 16 ∧
 (IntKind.i64.wrap (↑(BitVec.ofInt 64 x % BitVec.ofInt 64 (↑((List.take (Min.min (↑(List.length t) : Int) (100 : Int)).toNat t).length + 16) : Int)).toNat : Int)).toNat < List.length (sealL (fun (i : Nat) => (rg 32 k).getD i (0 : BitVec 8)) (fun (i : Nat) => (rg 12 n).getD i (0 : BitVec 8)) (List.take (Min.min (↑(List.length t) : Int) (100 : Int)).toNat t) []) ∧
 (0 : Int) ≤ IntKind.i64.wrap (↑(BitVec.ofInt 64 x % BitVec.ofInt 64 (↑((List.take (Min.min (↑(List.length t) : Int) (100 : Int)).toNat t).length + 16) : Int)).toNat : Int) ∧
 (IntKind.i64.wrap (↑(BitVec.ofInt 64 x % BitVec.ofInt 64 (↑((List.take (Min.min (↑(List.length t) : Int) (100 : Int)).toNat t).length + 16) : Int)).toNat : Int)).toNat < (List.take (Min.min (↑(List.length t) : Int) (100 : Int)).toNat t).length + 16 ∧
 (IntKind.i64.wrap (↑(BitVec.ofInt 64 x % BitVec.ofInt 64 (↑((List.take (Min.min (↑(List.length t) : Int) (100 : Int)).toNat t).length + 16) : Int)).toNat : Int)).toNat < List.length (sealL (fun (i : Nat) => (rg 32 k).getD i (0 : BitVec 8)) (fun (i : Nat) => (rg 12 n).getD i (0 : BitVec 8)) (List.take (Min.min (↑(List.length t) : Int) (100 : Int)).toNat t) []) ∧
 (List.take (Min.min (↑(List.length t) : Int) (100 : Int)).toNat t).length + 16 = (List.set (sealL (fun (i : Nat) => (rg 32 k).getD i (0 : BitVec 8)) (fun (i : Nat) => (rg 12 n).getD i (0 : BitVec 8)) (List.take (Min.min (↑(List.length t) : Int) (100 : Int)).toNat t) []) (IntKind.i64.wrap (↑(BitVec.ofInt 64 x % BitVec.ofInt 64 (↑((List.take (Min.min (↑(List.length t) : Int) (100 : Int)).toNat t).length + 16) : Int)).toNat : Int)).toNat (List.getD (sealL (fun (i : Nat) => (rg 32 k).getD i (0 : BitVec 8)) (fun (i : Nat) => (rg 12 n).getD i (0 : BitVec 8)) (List.take (Min.min (↑(List.length t) : Int) (100 : Int)).toNat t) []) (IntKind.i64.wrap (↑(BitVec.ofInt 64 x % BitVec.ofInt 64 (↑((List.take (Min.min (↑(List.length t) : Int) (100 : Int)).toNat t).length + 16) : Int)).toNat : Int)).toNat (0 : BitVec 8) ^^^ BitVec.ofInt 8 y)).length ∧
 (List.set (sealL (fun (i : Nat) => (rg 32 k).getD i (0 : BitVec 8)) (fun (i : Nat) => (rg 12 n).getD i (0 : BitVec 8)) (List.take (Min.min (↑(List.length t) : Int) (100 : Int)).toNat t) []) (IntKind.i64.wrap (↑(BitVec.ofInt 64 x % BitVec.ofInt 64 (↑((List.take (Min.min (↑(List.length t) : Int) (100 : Int)).toNat t).length + 16) : Int)).toNat : Int)).toNat (List.getD (sealL (fun (i : Nat) => (rg 32 k).getD i (0 : BitVec 8)) (fun (i : Nat) => (rg 12 n).getD i (0 : BitVec 8)) (List.take (Min.min (↑(List.length t) : Int) (100 : Int)).toNat t) []) (IntKind.i64.wrap (↑(BitVec.ofInt 64 x % BitVec.ofInt 64 (↑((List.take (Min.min (↑(List.length t) : Int) (100 : Int)).toNat t).length + 16) : Int)).toNat : Int)).toNat (0 : BitVec 8) ^^^ BitVec.ofInt 8 y)).length + 0 + 256 < 1099511627776 ∧
 (List.take (Min.min (↑(List.length t) : Int) (100 : Int)).toNat t).length + 16 = (List.set (sealL (fun (i : Nat) => (rg 32 k).getD i (0 : BitVec 8)) (fun (i : Nat) => (rg 12 n).getD i (0 : BitVec 8)) (List.take (Min.min (↑(List.length t) : Int) (100 : Int)).toNat t) []) (IntKind.i64.wrap (↑(BitVec.ofInt 64 x % BitVec.ofInt 64 (↑((List.take (Min.min (↑(List.length t) : Int) (100 : Int)).toNat t).length + 16) : Int)).toNat : Int)).toNat (List.getD (sealL (fun (i : Nat) => (rg 32 k).getD i (0 : BitVec 8)) (fun (i : Nat) => (rg 12 n).getD i (0 : BitVec 8)) (List.take (Min.min (↑(List.length t) : Int) (100 : Int)).toNat t) []) (IntKind.i64.wrap (↑(BitVec.ofInt 64 x % BitVec.ofInt 64 (↑((List.take (Min.min (↑(List.length t) : Int) (100 : Int)).toNat t).length + 16) : Int)).toNat : Int)).toNat (0 : BitVec 8) ^^^ BitVec.ofInt 8 y)).length ∧
 (List.set (sealL (fun (i : Nat) => (rg 32 k).getD i (0 : BitVec 8)) (fun (i : Nat) => (rg 12 n).getD i (0 : BitVec 8)) (List.take (Min.min (↑(List.length t) : Int) (100 : Int)).toNat t) []) (IntKind.i64.wrap (↑(BitVec.ofInt 64 x % BitVec.ofInt 64 (↑((List.take (Min.min (↑(List.length t) : Int) (100 : Int)).toNat t).length + 16) : Int)).toNat : Int)).toNat (List.getD (sealL (fun (i : Nat) => (rg 32 k).getD i (0 : BitVec 8)) (fun (i : Nat) => (rg 12 n).getD i (0 : BitVec 8)) (List.take (Min.min (↑(List.length t) : Int) (100 : Int)).toNat t) []) (IntKind.i64.wrap (↑(BitVec.ofInt 64 x % BitVec.ofInt 64 (↑((List.take (Min.min (↑(List.length t) : Int) (100 : Int)).toNat t).length + 16) : Int)).toNat : Int)).toNat (0 : BitVec 8) ^^^ BitVec.ofInt 8 y)).length + 0 + 256 < 1099511627776 ∧
 @Bool.rec (fun _ => Prop) (Bool.true = Bool.false ∧
 True) (List.length (openM (fun (i : Nat) => (rg 32 k).getD i (0 : BitVec 8)) (fun (i : Nat) => (rg 12 n).getD i (0 : BitVec 8)) (List.set (sealL (fun (i : Nat) => (rg 32 k).getD i (0 : BitVec 8)) (fun (i : Nat) => (rg 12 n).getD i (0 : BitVec 8)) (List.take (Min.min (↑(List.length t) : Int) (100 : Int)).toNat t) []) (IntKind.i64.wrap (↑(BitVec.ofInt 64 x % BitVec.ofInt 64 (↑((List.take (Min.min (↑(List.length t) : Int) (100 : Int)).toNat t).length + 16) : Int)).toNat : Int)).toNat (List.getD (sealL (fun (i : Nat) => (rg 32 k).getD i (0 : BitVec 8)) (fun (i : Nat) => (rg 12 n).getD i (0 : BitVec 8)) (List.take (Min.min (↑(List.length t) : Int) (100 : Int)).toNat t) []) (IntKind.i64.wrap (↑(BitVec.ofInt 64 x % BitVec.ofInt 64 (↑((List.take (Min.min (↑(List.length t) : Int) (100 : Int)).toNat t).length + 16) : Int)).toNat : Int)).toNat (0 : BitVec 8) ^^^ BitVec.ofInt 8 y)) []) = List.length (openM (fun (i : Nat) => (rg 32 k).getD i (0 : BitVec 8)) (fun (i : Nat) => (rg 12 n).getD i (0 : BitVec 8)) (List.set (sealL (fun (i : Nat) => (rg 32 k).getD i (0 : BitVec 8)) (fun (i : Nat) => (rg 12 n).getD i (0 : BitVec 8)) (List.take (Min.min (↑(List.length t) : Int) (100 : Int)).toNat t) []) (IntKind.i64.wrap (↑(BitVec.ofInt 64 x % BitVec.ofInt 64 (↑((List.take (Min.min (↑(List.length t) : Int) (100 : Int)).toNat t).length + 16) : Int)).toNat : Int)).toNat (List.getD (sealL (fun (i : Nat) => (rg 32 k).getD i (0 : BitVec 8)) (fun (i : Nat) => (rg 12 n).getD i (0 : BitVec 8)) (List.take (Min.min (↑(List.length t) : Int) (100 : Int)).toNat t) []) (IntKind.i64.wrap (↑(BitVec.ofInt 64 x % BitVec.ofInt 64 (↑((List.take (Min.min (↑(List.length t) : Int) (100 : Int)).toNat t).length + 16) : Int)).toNat : Int)).toNat (0 : BitVec 8) ^^^ BitVec.ofInt 8 y)) []) ∧
 List.length (openM (fun (i : Nat) => (rg 32 k).getD i (0 : BitVec 8)) (fun (i : Nat) => (rg 12 n).getD i (0 : BitVec 8)) (List.set (sealL (fun (i : Nat) => (rg 32 k).getD i (0 : BitVec 8)) (fun (i : Nat) => (rg 12 n).getD i (0 : BitVec 8)) (List.take (Min.min (↑(List.length t) : Int) (100 : Int)).toNat t) []) (IntKind.i64.wrap (↑(BitVec.ofInt 64 x % BitVec.ofInt 64 (↑((List.take (Min.min (↑(List.length t) : Int) (100 : Int)).toNat t).length + 16) : Int)).toNat : Int)).toNat (List.getD (sealL (fun (i : Nat) => (rg 32 k).getD i (0 : BitVec 8)) (fun (i : Nat) => (rg 12 n).getD i (0 : BitVec 8)) (List.take (Min.min (↑(List.length t) : Int) (100 : Int)).toNat t) []) (IntKind.i64.wrap (↑(BitVec.ofInt 64 x % BitVec.ofInt 64 (↑((List.take (Min.min (↑(List.length t) : Int) (100 : Int)).toNat t).length + 16) : Int)).toNat : Int)).toNat (0 : BitVec 8) ^^^ BitVec.ofInt 8 y)) []) = List.length (openM (fun (i : Nat) => (rg 32 k).getD i (0 : BitVec 8)) (fun (i : Nat) => (rg 12 n).getD i (0 : BitVec 8)) (List.set (sealL (fun (i : Nat) => (rg 32 k).getD i (0 : BitVec 8)) (fun (i : Nat) => (rg 12 n).getD i (0 : BitVec 8)) (List.take (Min.min (↑(List.length t) : Int) (100 : Int)).toNat t) []) (IntKind.i64.wrap (↑(BitVec.ofInt 64 x % BitVec.ofInt 64 (↑((List.take (Min.min (↑(List.length t) : Int) (100 : Int)).toNat t).length + 16) : Int)).toNat : Int)).toNat (List.getD (sealL (fun (i : Nat) => (rg 32 k).getD i (0 : BitVec 8)) (fun (i : Nat) => (rg 12 n).getD i (0 : BitVec 8)) (List.take (Min.min (↑(List.length t) : Int) (100 : Int)).toNat t) []) (IntKind.i64.wrap (↑(BitVec.ofInt 64 x % BitVec.ofInt 64 (↑((List.take (Min.min (↑(List.length t) : Int) (100 : Int)).toNat t).length + 16) : Int)).toNat : Int)).toNat (0 : BitVec 8) ^^^ BitVec.ofInt 8 y)) []) ∧
 @Bool.rec (fun _ => Prop) (Bool.true = Bool.false ∧
 True) (@Bool.rec (fun _ => Prop) (Bool.true = Bool.true ∧
 True) (@Bool.rec (fun _ => Prop) (Bool.true = Bool.false ∧
 True) (@Bool.rec (fun _ => Prop) (Bool.true = Bool.true ∧
 True) (Bool.true = decide (openE (fun (i : Nat) => (rg 32 k).getD i (0 : BitVec 8)) (fun (i : Nat) => (rg 12 n).getD i (0 : BitVec 8)) (List.set (sealL (fun (i : Nat) => (rg 32 k).getD i (0 : BitVec 8)) (fun (i : Nat) => (rg 12 n).getD i (0 : BitVec 8)) (List.take (Min.min (↑(List.length t) : Int) (100 : Int)).toNat t) []) (IntKind.i64.wrap (↑(BitVec.ofInt 64 x % BitVec.ofInt 64 (↑((List.take (Min.min (↑(List.length t) : Int) (100 : Int)).toNat t).length + 16) : Int)).toNat : Int)).toNat (List.getD (sealL (fun (i : Nat) => (rg 32 k).getD i (0 : BitVec 8)) (fun (i : Nat) => (rg 12 n).getD i (0 : BitVec 8)) (List.take (Min.min (↑(List.length t) : Int) (100 : Int)).toNat t) []) (IntKind.i64.wrap (↑(BitVec.ofInt 64 x % BitVec.ofInt 64 (↑((List.take (Min.min (↑(List.length t) : Int) (100 : Int)).toNat t).length + 16) : Int)).toNat : Int)).toNat (0 : BitVec 8) ^^^ BitVec.ofInt 8 y)) [] = (4 : Int)) ∧
 True) !decide (openE (fun (i : Nat) => (rg 32 k).getD i (0 : BitVec 8)) (fun (i : Nat) => (rg 12 n).getD i (0 : BitVec 8)) (List.set (sealL (fun (i : Nat) => (rg 32 k).getD i (0 : BitVec 8)) (fun (i : Nat) => (rg 12 n).getD i (0 : BitVec 8)) (List.take (Min.min (↑(List.length t) : Int) (100 : Int)).toNat t) []) (IntKind.i64.wrap (↑(BitVec.ofInt 64 x % BitVec.ofInt 64 (↑((List.take (Min.min (↑(List.length t) : Int) (100 : Int)).toNat t).length + 16) : Int)).toNat : Int)).toNat (List.getD (sealL (fun (i : Nat) => (rg 32 k).getD i (0 : BitVec 8)) (fun (i : Nat) => (rg 12 n).getD i (0 : BitVec 8)) (List.take (Min.min (↑(List.length t) : Int) (100 : Int)).toNat t) []) (IntKind.i64.wrap (↑(BitVec.ofInt 64 x % BitVec.ofInt 64 (↑((List.take (Min.min (↑(List.length t) : Int) (100 : Int)).toNat t).length + 16) : Int)).toNat : Int)).toNat (0 : BitVec 8) ^^^ BitVec.ofInt 8 y)) [] = (2 : Int))) (decide (decide (openE (fun (i : Nat) => (rg 32 k).getD i (0 : BitVec 8)) (fun (i : Nat) => (rg 12 n).getD i (0 : BitVec 8)) (List.set (sealL (fun (i : Nat) => (rg 32 k).getD i (0 : BitVec 8)) (fun (i : Nat) => (rg 12 n).getD i (0 : BitVec 8)) (List.take (Min.min (↑(List.length t) : Int) (100 : Int)).toNat t) []) (IntKind.i64.wrap (↑(BitVec.ofInt 64 x % BitVec.ofInt 64 (↑((List.take (Min.min (↑(List.length t) : Int) (100 : Int)).toNat t).length + 16) : Int)).toNat : Int)).toNat (List.getD (sealL (fun (i : Nat) => (rg 32 k).getD i (0 : BitVec 8)) (fun (i : Nat) => (rg 12 n).getD i (0 : BitVec 8)) (List.take (Min.min (↑(List.length t) : Int) (100 : Int)).toNat t) []) (IntKind.i64.wrap (↑(BitVec.ofInt 64 x % BitVec.ofInt 64 (↑((List.take (Min.min (↑(List.length t) : Int) (100 : Int)).toNat t).length + 16) : Int)).toNat : Int)).toNat (0 : BitVec 8) ^^^ BitVec.ofInt 8 y)) [] = (2 : Int)) = decide ((↑((List.take (Min.min (↑(List.length t) : Int) (100 : Int)).toNat t).length + 16) : Int) < (16 : Int))))) !decide (openE (fun (i : Nat) => (rg 32 k).getD i (0 : BitVec 8)) (fun (i : Nat) => (rg 12 n).getD i (0 : BitVec 8)) (List.set (sealL (fun (i : Nat) => (rg 32 k).getD i (0 : BitVec 8)) (fun (i : Nat) => (rg 12 n).getD i (0 : BitVec 8)) (List.take (Min.min (↑(List.length t) : Int) (100 : Int)).toNat t) []) (IntKind.i64.wrap (↑(BitVec.ofInt 64 x % BitVec.ofInt 64 (↑((List.take (Min.min (↑(List.length t) : Int) (100 : Int)).toNat t).length + 16) : Int)).toNat : Int)).toNat (List.getD (sealL (fun (i : Nat) => (rg 32 k).getD i (0 : BitVec 8)) (fun (i : Nat) => (rg 12 n).getD i (0 : BitVec 8)) (List.take (Min.min (↑(List.length t) : Int) (100 : Int)).toNat t) []) (IntKind.i64.wrap (↑(BitVec.ofInt 64 x % BitVec.ofInt 64 (↑((List.take (Min.min (↑(List.length t) : Int) (100 : Int)).toNat t).length + 16) : Int)).toNat : Int)).toNat (0 : BitVec 8) ^^^ BitVec.ofInt 8 y)) [] = (0 : Int))) (decide (openM (fun (i : Nat) => (rg 32 k).getD i (0 : BitVec 8)) (fun (i : Nat) => (rg 12 n).getD i (0 : BitVec 8)) (List.set (sealL (fun (i : Nat) => (rg 32 k).getD i (0 : BitVec 8)) (fun (i : Nat) => (rg 12 n).getD i (0 : BitVec 8)) (List.take (Min.min (↑(List.length t) : Int) (100 : Int)).toNat t) []) (IntKind.i64.wrap (↑(BitVec.ofInt 64 x % BitVec.ofInt 64 (↑((List.take (Min.min (↑(List.length t) : Int) (100 : Int)).toNat t).length + 16) : Int)).toNat : Int)).toNat (List.getD (sealL (fun (i : Nat) => (rg 32 k).getD i (0 : BitVec 8)) (fun (i : Nat) => (rg 12 n).getD i (0 : BitVec 8)) (List.take (Min.min (↑(List.length t) : Int) (100 : Int)).toNat t) []) (IntKind.i64.wrap (↑(BitVec.ofInt 64 x % BitVec.ofInt 64 (↑((List.take (Min.min (↑(List.length t) : Int) (100 : Int)).toNat t).length + 16) : Int)).toNat : Int)).toNat (0 : BitVec 8) ^^^ BitVec.ofInt 8 y)) [] = openM (fun (i : Nat) => (rg 32 k).getD i (0 : BitVec 8)) (fun (i : Nat) => (rg 12 n).getD i (0 : BitVec 8)) (List.set (sealL (fun (i : Nat) => (rg 32 k).getD i (0 : BitVec 8)) (fun (i : Nat) => (rg 12 n).getD i (0 : BitVec 8)) (List.take (Min.min (↑(List.length t) : Int) (100 : Int)).toNat t) []) (IntKind.i64.wrap (↑(BitVec.ofInt 64 x % BitVec.ofInt 64 (↑((List.take (Min.min (↑(List.length t) : Int) (100 : Int)).toNat t).length + 16) : Int)).toNat : Int)).toNat (List.getD (sealL (fun (i : Nat) => (rg 32 k).getD i (0 : BitVec 8)) (fun (i : Nat) => (rg 12 n).getD i (0 : BitVec 8)) (List.take (Min.min (↑(List.length t) : Int) (100 : Int)).toNat t) []) (IntKind.i64.wrap (↑(BitVec.ofInt 64 x % BitVec.ofInt 64 (↑((List.take (Min.min (↑(List.length t) : Int) (100 : Int)).toNat t).length + 16) : Int)).toNat : Int)).toNat (0 : BitVec 8) ^^^ BitVec.ofInt 8 y)) []))) (decide (decide (openE (fun (i : Nat) => (rg 32 k).getD i (0 : BitVec 8)) (fun (i : Nat) => (rg 12 n).getD i (0 : BitVec 8)) (List.set (sealL (fun (i : Nat) => (rg 32 k).getD i (0 : BitVec 8)) (fun (i : Nat) => (rg 12 n).getD i (0 : BitVec 8)) (List.take (Min.min (↑(List.length t) : Int) (100 : Int)).toNat t) []) (IntKind.i64.wrap (↑(BitVec.ofInt 64 x % BitVec.ofInt 64 (↑((List.take (Min.min (↑(List.length t) : Int) (100 : Int)).toNat t).length + 16) : Int)).toNat : Int)).toNat (List.getD (sealL (fun (i : Nat) => (rg 32 k).getD i (0 : BitVec 8)) (fun (i : Nat) => (rg 12 n).getD i (0 : BitVec 8)) (List.take (Min.min (↑(List.length t) : Int) (100 : Int)).toNat t) []) (IntKind.i64.wrap (↑(BitVec.ofInt 64 x % BitVec.ofInt 64 (↑((List.take (Min.min (↑(List.length t) : Int) (100 : Int)).toNat t).length + 16) : Int)).toNat : Int)).toNat (0 : BitVec 8) ^^^ BitVec.ofInt 8 y)) [] = (0 : Int)) = openK (fun (i : Nat) => (rg 32 k).getD i (0 : BitVec 8)) (fun (i : Nat) => (rg 12 n).getD i (0 : BitVec 8)) (List.set (sealL (fun (i : Nat) => (rg 32 k).getD i (0 : BitVec 8)) (fun (i : Nat) => (rg 12 n).getD i (0 : BitVec 8)) (List.take (Min.min (↑(List.length t) : Int) (100 : Int)).toNat t) []) (IntKind.i64.wrap (↑(BitVec.ofInt 64 x % BitVec.ofInt 64 (↑((List.take (Min.min (↑(List.length t) : Int) (100 : Int)).toNat t).length + 16) : Int)).toNat : Int)).toNat (List.getD (sealL (fun (i : Nat) => (rg 32 k).getD i (0 : BitVec 8)) (fun (i : Nat) => (rg 12 n).getD i (0 : BitVec 8)) (List.take (Min.min (↑(List.length t) : Int) (100 : Int)).toNat t) []) (IntKind.i64.wrap (↑(BitVec.ofInt 64 x % BitVec.ofInt 64 (↑((List.take (Min.min (↑(List.length t) : Int) (100 : Int)).toNat t).length + 16) : Int)).toNat : Int)).toNat (0 : BitVec 8) ^^^ BitVec.ofInt 8 y)) []))) (decide ((0 : Int) < (↑((List.take (Min.min (↑(List.length t) : Int) (100 : Int)).toNat t).length + 16) : Int)))) (0 = 0 ∧
 roomFor 0 (List.take (Min.min (↑(List.length t) : Int) (100 : Int)).toNat t).length 1 ∧
 @Bool.rec (fun _ => Prop) (0 + (List.take (Min.min (↑(List.length t) : Int) (100 : Int)).toNat t).length = ([] ++ List.take (Min.min (↑(List.length t) : Int) (100 : Int)).toNat t).length ∧
 ([] ++ List.take (Min.min (↑(List.length t) : Int) (100 : Int)).toNat t).length + 0 + 256 < 1099511627776 ∧
 0 + (List.take (Min.min (↑(List.length t) : Int) (100 : Int)).toNat t).length = ([] ++ List.take (Min.min (↑(List.length t) : Int) (100 : Int)).toNat t).length ∧
 ([] ++ List.take (Min.min (↑(List.length t) : Int) (100 : Int)).toNat t).length + 0 + 256 < 1099511627776 ∧
 @Bool.rec (fun _ => Prop) (Bool.true = Bool.false ∧
 True) (List.length (openM (fun (i : Nat) => (rg 32 k).getD i (0 : BitVec 8)) (fun (i : Nat) => (rg 12 n).getD i (0 : BitVec 8)) ([] ++ List.take (Min.min (↑(List.length t) : Int) (100 : Int)).toNat t) []) = List.length (openM (fun (i : Nat) => (rg 32 k).getD i (0 : BitVec 8)) (fun (i : Nat) => (rg 12 n).getD i (0 : BitVec 8)) ([] ++ List.take (Min.min (↑(List.length t) : Int) (100 : Int)).toNat t) []) ∧
 List.length (openM (fun (i : Nat) => (rg 32 k).getD i (0 : BitVec 8)) (fun (i : Nat) => (rg 12 n).getD i (0 : BitVec 8)) ([] ++ List.take (Min.min (↑(List.length t) : Int) (100 : Int)).toNat t) []) = List.length (openM (fun (i : Nat) => (rg 32 k).getD i (0 : BitVec 8)) (fun (i : Nat) => (rg 12 n).getD i (0 : BitVec 8)) ([] ++ List.take (Min.min (↑(List.length t) : Int) (100 : Int)).toNat t) []) ∧
 @Bool.rec (fun _ => Prop) (Bool.true = Bool.false ∧
 True) (@Bool.rec (fun _ => Prop) (Bool.true = Bool.true ∧
 True) (@Bool.rec (fun _ => Prop) (Bool.true = Bool.false ∧
 True) (@Bool.rec (fun _ => Prop) (Bool.true = Bool.true ∧
 True) (Bool.true = decide (openE (fun (i : Nat) => (rg 32 k).getD i (0 : BitVec 8)) (fun (i : Nat) => (rg 12 n).getD i (0 : BitVec 8)) ([] ++ List.take (Min.min (↑(List.length t) : Int) (100 : Int)).toNat t) [] = (4 : Int)) ∧
 True) !decide (openE (fun (i : Nat) => (rg 32 k).getD i (0 : BitVec 8)) (fun (i : Nat) => (rg 12 n).getD i (0 : BitVec 8)) ([] ++ List.take (Min.min (↑(List.length t) : Int) (100 : Int)).toNat t) [] = (2 : Int))) (decide (decide (openE (fun (i : Nat) => (rg 32 k).getD i (0 : BitVec 8)) (fun (i : Nat) => (rg 12 n).getD i (0 : BitVec 8)) ([] ++ List.take (Min.min (↑(List.length t) : Int) (100 : Int)).toNat t) [] = (2 : Int)) = decide ((↑(0 + (List.take (Min.min (↑(List.length t) : Int) (100 : Int)).toNat t).length) : Int) < (16 : Int))))) !decide (openE (fun (i : Nat) => (rg 32 k).getD i (0 : BitVec 8)) (fun (i : Nat) => (rg 12 n).getD i (0 : BitVec 8)) ([] ++ List.take (Min.min (↑(List.length t) : Int) (100 : Int)).toNat t) [] = (0 : Int))) (decide (openM (fun (i : Nat) => (rg 32 k).getD i (0 : BitVec 8)) (fun (i : Nat) => (rg 12 n).getD i (0 : BitVec 8)) ([] ++ List.take (Min.min (↑(List.length t) : Int) (100 : Int)).toNat t) [] = openM (fun (i : Nat) => (rg 32 k).getD i (0 : BitVec 8)) (fun (i : Nat) => (rg 12 n).getD i (0 : BitVec 8)) ([] ++ List.take (Min.min (↑(List.length t) : Int) (100 : Int)).toNat t) []))) (decide (decide (openE (fun (i : Nat) => (rg 32 k).getD i (0 : BitVec 8)) (fun (i : Nat) => (rg 12 n).getD i (0 : BitVec 8)) ([] ++ List.take (Min.min (↑(List.length t) : Int) (100 : Int)).toNat t) [] = (0 : Int)) = openK (fun (i : Nat) => (rg 32 k).getD i (0 : BitVec 8)) (fun (i : Nat) => (rg 12 n).getD i (0 : BitVec 8)) ([] ++ List.take (Min.min (↑(List.length t) : Int) (100 : Int)).toNat t) []))) ((BitVec.ofInt 64 (↑(0 + (List.take (Min.min (↑(List.length t) : Int) (100 : Int)).toNat t).length) : Int)).toNat ≠ 0 ∧
 (0 : Int) ≤ IntKind.i64.wrap (↑(BitVec.ofInt 64 x % BitVec.ofInt 64 (↑(0 + (List.take (Min.min (↑(List.length t) : Int) (100 : Int)).toNat t).length) : Int)).toNat : Int) ∧
 (IntKind.i64.wrap (↑(BitVec.ofInt 64 x % BitVec.ofInt 64 (↑(0 + (List.take (Min.min (↑(List.length t) : Int) (100 : Int)).toNat t).length) : Int)).toNat : Int)).toNat < 0 + (List.take (Min.min (↑(List.length t) : Int) (100 : Int)).toNat t).length ∧
 (IntKind.i64.wrap (↑(BitVec.ofInt 64 x % BitVec.ofInt 64 (↑(0 + (List.take (Min.min (↑(List.length t) : Int) (100 : Int)).toNat t).length) : Int)).toNat : Int)).toNat < ([] ++ List.take (Min.min (↑(List.length t) : Int) (100 : Int)).toNat t).length ∧
 (0 : Int) ≤ IntKind.i64.wrap (↑(BitVec.ofInt 64 x % BitVec.ofInt 64 (↑(0 + (List.take (Min.min (↑(List.length t) : Int) (100 : Int)).toNat t).length) : Int)).toNat : Int) ∧
 (IntKind.i64.wrap (↑(BitVec.ofInt 64 x % BitVec.ofInt 64 (↑(0 + (List.take (Min.min (↑(List.length t) : Int) (100 : Int)).toNat t).length) : Int)).toNat : Int)).toNat < 0 + (List.take (Min.min (↑(List.length t) : Int) (100 : Int)).toNat t).length ∧
 (IntKind.i64.wrap (↑(BitVec.ofInt 64 x % BitVec.ofInt 64 (↑(0 + (List.take (Min.min (↑(List.length t) : Int) (100 : Int)).toNat t).length) : Int)).toNat : Int)).toNat < ([] ++ List.take (Min.min (↑(List.length t) : Int) (100 : Int)).toNat t).length ∧
 0 + (List.take (Min.min (↑(List.length t) : Int) (100 : Int)).toNat t).length = (([] ++ List.take (Min.min (↑(List.length t) : Int) (100 : Int)).toNat t).set (IntKind.i64.wrap (↑(BitVec.ofInt 64 x % BitVec.ofInt 64 (↑(0 + (List.take (Min.min (↑(List.length t) : Int) (100 : Int)).toNat t).length) : Int)).toNat : Int)).toNat (([] ++ List.take (Min.min (↑(List.length t) : Int) (100 : Int)).toNat t).getD (IntKind.i64.wrap (↑(BitVec.ofInt 64 x % BitVec.ofInt 64 (↑(0 + (List.take (Min.min (↑(List.length t) : Int) (100 : Int)).toNat t).length) : Int)).toNat : Int)).toNat (0 : BitVec 8) ^^^ BitVec.ofInt 8 y)).length ∧
 (([] ++ List.take (Min.min (↑(List.length t) : Int) (100 : Int)).toNat t).set (IntKind.i64.wrap (↑(BitVec.ofInt 64 x % BitVec.ofInt 64 (↑(0 + (List.take (Min.min (↑(List.length t) : Int) (100 : Int)).toNat t).length) : Int)).toNat : Int)).toNat (([] ++ List.take (Min.min (↑(List.length t) : Int) (100 : Int)).toNat t).getD (IntKind.i64.wrap (↑(BitVec.ofInt 64 x % BitVec.ofInt 64 (↑(0 + (List.take (Min.min (↑(List.length t) : Int) (100 : Int)).toNat t).length) : Int)).toNat : Int)).toNat (0 : BitVec 8) ^^^ BitVec.ofInt 8 y)).length + 0 + 256 < 1099511627776 ∧
 0 + (List.take (Min.min (↑(List.length t) : Int) (100 : Int)).toNat t).length = (([] ++ List.take (Min.min (↑(List.length t) : Int) (100 : Int)).toNat t).set (IntKind.i64.wrap (↑(BitVec.ofInt 64 x % BitVec.ofInt 64 (↑(0 + (List.take (Min.min (↑(List.length t) : Int) (100 : Int)).toNat t).length) : Int)).toNat : Int)).toNat (([] ++ List.take (Min.min (↑(List.length t) : Int) (100 : Int)).toNat t).getD (IntKind.i64.wrap (↑(BitVec.ofInt 64 x % BitVec.ofInt 64 (↑(0 + (List.take (Min.min (↑(List.length t) : Int) (100 : Int)).toNat t).length) : Int)).toNat : Int)).toNat (0 : BitVec 8) ^^^ BitVec.ofInt 8 y)).length ∧
 (([] ++ List.take (Min.min (↑(List.length t) : Int) (100 : Int)).toNat t).set (IntKind.i64.wrap (↑(BitVec.ofInt 64 x % BitVec.ofInt 64 (↑(0 + (List.take (Min.min (↑(List.length t) : Int) (100 : Int)).toNat t).length) : Int)).toNat : Int)).toNat (([] ++ List.take (Min.min (↑(List.length t) : Int) (100 : Int)).toNat t).getD (IntKind.i64.wrap (↑(BitVec.ofInt 64 x % BitVec.ofInt 64 (↑(0 + (List.take (Min.min (↑(List.length t) : Int) (100 : Int)).toNat t).length) : Int)).toNat : Int)).toNat (0 : BitVec 8) ^^^ BitVec.ofInt 8 y)).length + 0 + 256 < 1099511627776 ∧
 @Bool.rec (fun _ => Prop) (Bool.true = Bool.false ∧
 True) (List.length (openM (fun (i : Nat) => (rg 32 k).getD i (0 : BitVec 8)) (fun (i : Nat) => (rg 12 n).getD i (0 : BitVec 8)) (([] ++ List.take (Min.min (↑(List.length t) : Int) (100 : Int)).toNat t).set (IntKind.i64.wrap (↑(BitVec.ofInt 64 x % BitVec.ofInt 64 (↑(0 + (List.take (Min.min (↑(List.length t) : Int) (100 : Int)).toNat t).length) : Int)).toNat : Int)).toNat (([] ++ List.take (Min.min (↑(List.length t) : Int) (100 : Int)).toNat t).getD (IntKind.i64.wrap (↑(BitVec.ofInt 64 x % BitVec.ofInt 64 (↑(0 + (List.take (Min.min (↑(List.length t) : Int) (100 : Int)).toNat t).length) : Int)).toNat : Int)).toNat (0 : BitVec 8) ^^^ BitVec.ofInt 8 y)) []) = List.length (openM (fun (i : Nat) => (rg 32 k).getD i (0 : BitVec 8)) (fun (i : Nat) => (rg 12 n).getD i (0 : BitVec 8)) (([] ++ List.take (Min.min (↑(List.length t) : Int) (100 : Int)).toNat t).set (IntKind.i64.wrap (↑(BitVec.ofInt 64 x % BitVec.ofInt 64 (↑(0 + (List.take (Min.min (↑(List.length t) : Int) (100 : Int)).toNat t).length) : Int)).toNat : Int)).toNat (([] ++ List.take (Min.min (↑(List.length t) : Int) (100 : Int)).toNat t).getD (IntKind.i64.wrap (↑(BitVec.ofInt 64 x % BitVec.ofInt 64 (↑(0 + (List.take (Min.min (↑(List.length t) : Int) (100 : Int)).toNat t).length) : Int)).toNat : Int)).toNat (0 : BitVec 8) ^^^ BitVec.ofInt 8 y)) []) ∧
 List.length (openM (fun (i : Nat) => (rg 32 k).getD i (0 : BitVec 8)) (fun (i : Nat) => (rg 12 n).getD i (0 : BitVec 8)) (([] ++ List.take (Min.min (↑(List.length t) : Int) (100 : Int)).toNat t).set (IntKind.i64.wrap (↑(BitVec.ofInt 64 x % BitVec.ofInt 64 (↑(0 + (List.take (Min.min (↑(List.length t) : Int) (100 : Int)).toNat t).length) : Int)).toNat : Int)).toNat (([] ++ List.take (Min.min (↑(List.length t) : Int) (100 : Int)).toNat t).getD (IntKind.i64.wrap (↑(BitVec.ofInt 64 x % BitVec.ofInt 64 (↑(0 + (List.take (Min.min (↑(List.length t) : Int) (100 : Int)).toNat t).length) : Int)).toNat : Int)).toNat (0 : BitVec 8) ^^^ BitVec.ofInt 8 y)) []) = List.length (openM (fun (i : Nat) => (rg 32 k).getD i (0 : BitVec 8)) (fun (i : Nat) => (rg 12 n).getD i (0 : BitVec 8)) (([] ++ List.take (Min.min (↑(List.length t) : Int) (100 : Int)).toNat t).set (IntKind.i64.wrap (↑(BitVec.ofInt 64 x % BitVec.ofInt 64 (↑(0 + (List.take (Min.min (↑(List.length t) : Int) (100 : Int)).toNat t).length) : Int)).toNat : Int)).toNat (([] ++ List.take (Min.min (↑(List.length t) : Int) (100 : Int)).toNat t).getD (IntKind.i64.wrap (↑(BitVec.ofInt 64 x % BitVec.ofInt 64 (↑(0 + (List.take (Min.min (↑(List.length t) : Int) (100 : Int)).toNat t).length) : Int)).toNat : Int)).toNat (0 : BitVec 8) ^^^ BitVec.ofInt 8 y)) []) ∧
 @Bool.rec (fun _ => Prop) (Bool.true = Bool.false ∧
 True) (@Bool.rec (fun _ => Prop) (Bool.true = Bool.true ∧
 True) (@Bool.rec (fun _ => Prop) (Bool.true = Bool.false ∧
 True) (@Bool.rec (fun _ => Prop) (Bool.true = Bool.true ∧
 True) (Bool.true = decide (openE (fun (i : Nat) => (rg 32 k).getD i (0 : BitVec 8)) (fun (i : Nat) => (rg 12 n).getD i (0 : BitVec 8)) (([] ++ List.take (Min.min (↑(List.length t) : Int) (100 : Int)).toNat t).set (IntKind.i64.wrap (↑(BitVec.ofInt 64 x % BitVec.ofInt 64 (↑(0 + (List.take (Min.min (↑(List.length t) : Int) (100 : Int)).toNat t).length) : Int)).toNat : Int)).toNat (([] ++ List.take (Min.min (↑(List.length t) : Int) (100 : Int)).toNat t).getD (IntKind.i64.wrap (↑(BitVec.ofInt 64 x % BitVec.ofInt 64 (↑(0 + (List.take (Min.min (↑(List.length t) : Int) (100 : Int)).toNat t).length) : Int)).toNat : Int)).toNat (0 : BitVec 8) ^^^ BitVec.ofInt 8 y)) [] = (4 : Int)) ∧
 True) !decide (openE (fun (i : Nat) => (rg 32 k).getD i (0 : BitVec 8)) (fun (i : Nat) => (rg 12 n).getD i (0 : BitVec 8)) (([] ++ List.take (Min.min (↑(List.length t) : Int) (100 : Int)).toNat t).set (IntKind.i64.wrap (↑(BitVec.ofInt 64 x % BitVec.ofInt 64 (↑(0 + (List.take (Min.min (↑(List.length t) : Int) (100 : Int)).toNat t).length) : Int)).toNat : Int)).toNat (([] ++ List.take (Min.min (↑(List.length t) : Int) (100 : Int)).toNat t).getD (IntKind.i64.wrap (↑(BitVec.ofInt 64 x % BitVec.ofInt 64 (↑(0 + (List.take (Min.min (↑(List.length t) : Int) (100 : Int)).toNat t).length) : Int)).toNat : Int)).toNat (0 : BitVec 8) ^^^ BitVec.ofInt 8 y)) [] = (2 : Int))) (decide (decide (openE (fun (i : Nat) => (rg 32 k).getD i (0 : BitVec 8)) (fun (i : Nat) => (rg 12 n).getD i (0 : BitVec 8)) (([] ++ List.take (Min.min (↑(List.length t) : Int) (100 : Int)).toNat t).set (IntKind.i64.wrap (↑(BitVec.ofInt 64 x % BitVec.ofInt 64 (↑(0 + (List.take (Min.min (↑(List.length t) : Int) (100 : Int)).toNat t).length) : Int)).toNat : Int)).toNat (([] ++ List.take (Min.min (↑(List.length t) : Int) (100 : Int)).toNat t).getD (IntKind.i64.wrap (↑(BitVec.ofInt 64 x % BitVec.ofInt 64 (↑(0 + (List.take (Min.min (↑(List.length t) : Int) (100 : Int)).toNat t).length) : Int)).toNat : Int)).toNat (0 : BitVec 8) ^^^ BitVec.ofInt 8 y)) [] = (2 : Int)) = decide ((↑(0 + (List.take (Min.min (↑(List.length t) : Int) (100 : Int)).toNat t).length) : Int) < (16 : Int))))) !decide (openE (fun (i : Nat) => (rg 32 k).getD i (0 : BitVec 8)) (fun (i : Nat) => (rg 12 n).getD i (0 : BitVec 8)) (([] ++ List.take (Min.min (↑(List.length t) : Int) (100 : Int)).toNat t).set (IntKind.i64.wrap (↑(BitVec.ofInt 64 x % BitVec.ofInt 64 (↑(0 + (List.take (Min.min (↑(List.length t) : Int) (100 : Int)).toNat t).length) : Int)).toNat : Int)).toNat (([] ++ List.take (Min.min (↑(List.length t) : Int) (100 : Int)).toNat t).getD (IntKind.i64.wrap (↑(BitVec.ofInt 64 x % BitVec.ofInt 64 (↑(0 + (List.take (Min.min (↑(List.length t) : Int) (100 : Int)).toNat t).length) : Int)).toNat : Int)).toNat (0 : BitVec 8) ^^^ BitVec.ofInt 8 y)) [] = (0 : Int))) (decide (openM (fun (i : Nat) => (rg 32 k).getD i (0 : BitVec 8)) (fun (i : Nat) => (rg 12 n).getD i (0 : BitVec 8)) (([] ++ List.take (Min.min (↑(List.length t) : Int) (100 : Int)).toNat t).set (IntKind.i64.wrap (↑(BitVec.ofInt 64 x % BitVec.ofInt 64 (↑(0 + (List.take (Min.min (↑(List.length t) : Int) (100 : Int)).toNat t).length) : Int)).toNat : Int)).toNat (([] ++ List.take (Min.min (↑(List.length t) : Int) (100 : Int)).toNat t).getD (IntKind.i64.wrap (↑(BitVec.ofInt 64 x % BitVec.ofInt 64 (↑(0 + (List.take (Min.min (↑(List.length t) : Int) (100 : Int)).toNat t).length) : Int)).toNat : Int)).toNat (0 : BitVec 8) ^^^ BitVec.ofInt 8 y)) [] = openM (fun (i : Nat) => (rg 32 k).getD i (0 : BitVec 8)) (fun (i : Nat) => (rg 12 n).getD i (0 : BitVec 8)) (([] ++ List.take (Min.min (↑(List.length t) : Int) (100 : Int)).toNat t).set (IntKind.i64.wrap (↑(BitVec.ofInt 64 x % BitVec.ofInt 64 (↑(0 + (List.take (Min.min (↑(List.length t) : Int) (100 : Int)).toNat t).length) : Int)).toNat : Int)).toNat (([] ++ List.take (Min.min (↑(List.length t) : Int) (100 : Int)).toNat t).getD (IntKind.i64.wrap (↑(BitVec.ofInt 64 x % BitVec.ofInt 64 (↑(0 + (List.take (Min.min (↑(List.length t) : Int) (100 : Int)).toNat t).length) : Int)).toNat : Int)).toNat (0 : BitVec 8) ^^^ BitVec.ofInt 8 y)) []))) (decide (decide (openE (fun (i : Nat) => (rg 32 k).getD i (0 : BitVec 8)) (fun (i : Nat) => (rg 12 n).getD i (0 : BitVec 8)) (([] ++ List.take (Min.min (↑(List.length t) : Int) (100 : Int)).toNat t).set (IntKind.i64.wrap (↑(BitVec.ofInt 64 x % BitVec.ofInt 64 (↑(0 + (List.take (Min.min (↑(List.length t) : Int) (100 : Int)).toNat t).length) : Int)).toNat : Int)).toNat (([] ++ List.take (Min.min (↑(List.length t) : Int) (100 : Int)).toNat t).getD (IntKind.i64.wrap (↑(BitVec.ofInt 64 x % BitVec.ofInt 64 (↑(0 + (List.take (Min.min (↑(List.length t) : Int) (100 : Int)).toNat t).length) : Int)).toNat : Int)).toNat (0 : BitVec 8) ^^^ BitVec.ofInt 8 y)) [] = (0 : Int)) = openK (fun (i : Nat) => (rg 32 k).getD i (0 : BitVec 8)) (fun (i : Nat) => (rg 12 n).getD i (0 : BitVec 8)) (([] ++ List.take (Min.min (↑(List.length t) : Int) (100 : Int)).toNat t).set (IntKind.i64.wrap (↑(BitVec.ofInt 64 x % BitVec.ofInt 64 (↑(0 + (List.take (Min.min (↑(List.length t) : Int) (100 : Int)).toNat t).length) : Int)).toNat : Int)).toNat (([] ++ List.take (Min.min (↑(List.length t) : Int) (100 : Int)).toNat t).getD (IntKind.i64.wrap (↑(BitVec.ofInt 64 x % BitVec.ofInt 64 (↑(0 + (List.take (Min.min (↑(List.length t) : Int) (100 : Int)).toNat t).length) : Int)).toNat : Int)).toNat (0 : BitVec 8) ^^^ BitVec.ofInt 8 y)) []))) (decide ((0 : Int) < (↑(0 + (List.take (Min.min (↑(List.length t) : Int) (100 : Int)).toNat t).length) : Int)))) (decide (y.tmod (3 : Int) = (0 : Int))) : Prop) := by kernel_rfl
end Go.Sym

namespace Go.Spec
theorem open_cases (k n : F8) (b m : By) : (b.length < 16 ∧ openE k n b m = 2 ∧ openK k n b m = false) ∨ (16 ≤ b.length ∧ openE k n b m = 0 ∧ openK k n b m = true) ∨ (16 ≤ b.length ∧ openE k n b m = 4 ∧ openK k n b m = false) := by
  rcases Nat.lt_or_ge b.length 16 with h | h
  · left
    unfold openE openK
    rw [if_pos h, if_pos h]
    exact ⟨h, rfl, rfl⟩
  · right
    have hn : ¬ b.length < 16 := by omega
    by_cases g : openB k n b m
    · left
      unfold openE openK
      rw [if_neg hn, if_neg hn, if_pos g, if_pos g]
      exact ⟨h, rfl, rfl⟩
    · right
      unfold openE openK
      rw [if_neg hn, if_neg hn, if_neg g, if_neg g]
      exact ⟨h, rfl, rfl⟩
end Go.Spec
namespace Go.Sym
open Go.Proofs Go.Spec
set_option linter.unusedVariables false
set_option linter.unusedSimpArgs false
theorem b3 (k n : F8) (t m : By) (c d : Bool) : Must (bodyP Try.prog Y6 gl0 [] [] 3000 Try.f3 0 [.agg (row8 32 k ++ row8 12 n), .rb true t (.is c), .rb true m (.is d)] [] (retQ Try.prog Try.f3 0 (rt (.bool true)))) := by
  constructor
  rw [vc3]
  have hT : (List.take (min (t.length : Int) 200).toNat t).length ≤ 200 := by simp; omega
  have hM : (List.take (min (m.length : Int) 60).toNat m).length ≤ 60 := by simp; omega
  have h0 : 0 ≤ min (t.length : Int) 200 ∧ (min (t.length : Int) 200).toNat ≤ t.length := by omega
  have h1 : 0 ≤ min (m.length : Int) 60 ∧ (min (m.length : Int) 60).toNat ≤ m.length := by omega
  generalize List.take (min (t.length : Int) 200).toNat t = T at *
  generalize List.take (min (m.length : Int) 60).toNat m = M at *
  generalize (min (t.length : Int) 200) = p at *
  generalize (min (m.length : Int) 60) = q at *
  simp only [openE_seal, openM_seal, sealL_length, decide_true, and_true, true_and]
  and_intros <;> first | exact h0.1 | exact h0.2 | exact h1.1 | exact h1.2 | omega
theorem fin4 (K N : F8) (B : By) (X : Int) (hX : X = (B.length : Int)) : @Bool.rec (fun _ => Prop) (Bool.true = Bool.false ∧ True) (List.length (openM K N B []) = List.length (openM K N B []) ∧ List.length (openM K N B []) = List.length (openM K N B []) ∧
   @Bool.rec (fun _ => Prop) (Bool.true = Bool.false ∧ True) (@Bool.rec (fun _ => Prop) (Bool.true = Bool.true ∧ True) (@Bool.rec (fun _ => Prop) (Bool.true = Bool.false ∧ True) (@Bool.rec (fun _ => Prop) (Bool.true = Bool.true ∧ True) (Bool.true = decide (openE K N B [] = (4 : Int)) ∧ True) !decide (openE K N B [] = (2 : Int))) (decide (decide (openE K N B [] = (2 : Int)) = decide (X < (16 : Int))))) !decide (openE K N B [] = (0 : Int))) (decide (openM K N B [] = openM K N B []))) (decide (decide (openE K N B [] = (0 : Int)) = openK K N B [])) := by
  subst hX
  rcases open_cases K N B [] with ⟨h1, h2, h3⟩ | ⟨h1, h2, h3⟩ | ⟨h1, h2, h3⟩
  · have e : decide ((B.length : Int) < 16) = true := decide_eq_true (by omega)
    rw [h2, h3, e]
    simp
  · rw [h2, h3]
    simp
  · have e : decide ((B.length : Int) < 16) = false := decide_eq_false (by omega)
    rw [h2, h3, e]
    simp
theorem ix_lt (x : Int) (L : Nat) (h : 0 < L) (h2 : L < 1099511627776) : (BitVec.ofInt 64 (L : Int)).toNat ≠ 0 ∧ 0 ≤ IntKind.i64.wrap (↑(BitVec.ofInt 64 x % BitVec.ofInt 64 (L : Int)).toNat : Int) ∧ (IntKind.i64.wrap (↑(BitVec.ofInt 64 x % BitVec.ofInt 64 (L : Int)).toNat : Int)).toNat < L := by
  have e : (BitVec.ofInt 64 (L : Int)).toNat = L := by
    rw [BitVec.ofInt_natCast, BitVec.toNat_ofNat]
    omega
  have hl : (BitVec.ofInt 64 x % BitVec.ofInt 64 (L : Int)).toNat < L := by
    rw [BitVec.toNat_umod, e]
    exact Nat.mod_lt _ h
  have w : IntKind.i64.wrap (↑(BitVec.ofInt 64 x % BitVec.ofInt 64 (L : Int)).toNat : Int) = ((BitVec.ofInt 64 x % BitVec.ofInt 64 (L : Int)).toNat : Int) := wrap_nat _ rfl (by omega)
  rw [w, e]
  exact ⟨by omega, Int.natCast_nonneg _, by rw [Int.toNat_natCast]; exact hl⟩
set_option maxRecDepth 100000 in
theorem b4 (k n : F8) (t : By) (c : Bool) (x y : Int) : Must (bodyP Try.prog Y6 gl0 [] [] 3000 Try.f4 0 [.agg (row8 32 k ++ row8 12 n), .rb true t (.is c), .agg [.int .i64 x, .int .i64 y]] [] (retQ Try.prog Try.f4 0 (rt (.bool true)))) := by
  constructor
  rw [vc4]
  have hT : (List.take (min (t.length : Int) 100).toNat t).length ≤ 100 := by simp; omega
  have h0 : 0 ≤ min (t.length : Int) 100 ∧ (min (t.length : Int) 100).toNat ≤ t.length := by omega
  generalize List.take (min (t.length : Int) 100).toNat t = T at *
  generalize (min (t.length : Int) 100) = p at *
  generalize (fun (i : Nat) => (rg 32 k).getD i (0 : BitVec 8)) = K
  generalize (fun (i : Nat) => (rg 12 n).getD i (0 : BitVec 8)) = N
  have hS := sealL_length K N T []
  generalize sealL K N T [] = S at *
  rw [List.nil_append, Nat.zero_add]
  refine ⟨h0.1, h0.2, by omega, brec (fun h => ?_) (fun h => ?_)⟩
  · refine ⟨rfl, by unfold roomFor; omega, brec (fun g => ?_) (fun g => ?_)⟩
    · have g : 0 < T.length := by have := dlt.1 g; omega
      obtain ⟨i1, i2, i3⟩ := ix_lt x T.length g (by omega)
      generalize IntKind.i64.wrap (↑(BitVec.ofInt 64 x % BitVec.ofInt 64 (↑T.length : Int)).toNat : Int) = J at *
      have hl : (T.set J.toNat (T.getD J.toNat (0 : BitVec 8) ^^^ BitVec.ofInt 8 y)).length = T.length := List.length_set
      generalize T.set J.toNat (T.getD J.toNat (0 : BitVec 8) ^^^ BitVec.ofInt 8 y) = B at *
      exact ⟨i1, i2, i3, i3, i2, i3, i3, hl.symm, by omega, hl.symm, by omega, fin4 K N B _ (by omega)⟩
    · exact ⟨rfl, by omega, rfl, by omega, fin4 K N T _ rfl⟩
  · refine brec (fun g => ?_) (fun g => ?_)
    · obtain ⟨i1, i2, i3⟩ := ix_lt x (T.length + 16) (by omega) (by omega)
      generalize IntKind.i64.wrap (↑(BitVec.ofInt 64 x % BitVec.ofInt 64 (↑(T.length + 16) : Int)).toNat : Int) = J at *
      have hl : (S.set J.toNat (S.getD J.toNat (0 : BitVec 8) ^^^ BitVec.ofInt 8 y)).length = S.length := List.length_set
      generalize S.set J.toNat (S.getD J.toNat (0 : BitVec 8) ^^^ BitVec.ofInt 8 y) = B at *
      exact ⟨i1, i2, i3, by omega, i2, i3, by omega, by omega, by omega, by omega, by omega, fin4 K N B _ (by omega)⟩
    · exact ⟨by omega, by omega, by omega, by omega, fin4 K N S _ (by omega)⟩
end Go.Sym

namespace Go.Sym
open Go.Spec
theorem shAll_split : ∀ {l m : List Sh} {avs : List AV}, shAll (l ++ m) avs → ∃ p q, avs = p ++ q ∧ shAll l p ∧ shAll m q
  | [], m, avs, h => ⟨[], avs, rfl, trivial, h⟩
  | a :: l, m, avs, h => by
    obtain ⟨x, xs, rfl, hx, hxs⟩ := sh_cons h
    obtain ⟨p, q, rfl, hp, hq⟩ := shAll_split hxs
    exact ⟨x :: p, q, rfl, ⟨hx, hp⟩, hq⟩
theorem sh_case {avs : List AV} (h : shAll (List.replicate 32 (.i .u8) ++ List.replicate 12 (.i .u8)) avs) : ∃ k n : F8, avs = row8 32 k ++ row8 12 n := by
  obtain ⟨p, q, rfl, hp, hq⟩ := shAll_split h
  obtain ⟨k, rfl⟩ := sh_by hp
  obtain ⟨n, rfl⟩ := sh_by hq
  exact ⟨k, n, rfl⟩
theorem sh_ints {avs : List AV} (h : shAll [.i .i64, .i .i64] avs) : ∃ x y : Int, avs = [.int .i64 x, .int .i64 y] := by
  obtain ⟨a, r, rfl, ha, hr⟩ := sh_cons h
  obtain ⟨b, r, rfl, hb, hr⟩ := sh_cons hr
  obtain rfl := sh_nil hr
  obtain ⟨x, rfl⟩ := sh_i64 ha
  obtain ⟨y, rfl⟩ := sh_i64 hb
  exact ⟨x, y, rfl⟩
end Go.Sym
