/- Sealed snapshots: the note, what is sealed, what is opened. -/
import Derived.Test.YtgniepaehjdjaaaAeadB
import Derived.Test.YtgniepaehjdjaaaCurW
set_option linter.unusedSimpArgs false
namespace Go.Spec
def vnOk (c o g : Int) : Bool := decide (0 ≤ c) && decide (c ≤ 2147483647) && decide (0 ≤ o) && decide (o ≤ 65535) && decide (0 ≤ g) && decide (g ≤ 2147483647)
/-- A note's bytes. -/
def vnH (c o g : Int) : By := puL c.toNat 4 ++ (puL o.toNat 2 ++ puL g.toNat 4)
/-- A note's nonce. -/
def vnN (c : Int) : F8 := fun i => (List.replicate 8 0#8 ++ puL c.toNat 4).getD i 0
end Go.Spec
namespace Go.Sym
open Go.Proofs Go.Spec
set_option linter.unusedVariables false
noncomputable def V1 : Ctx := Y5.add 24 (mkF spq24)
noncomputable def V2 : Ctx := V1.add 18 (mkF (reSp 2 gq18))
noncomputable def V3 : Ctx := V2.add 30 (mkF spt30)
theorem okV3 : COKs Try.prog gl0 V3 := ((okY5.add cq24).add cq18).add ct30
noncomputable def V4 : Ctx := V3.exe Try.prog gl0 [] 300 Try.f92.params.size 92 Try.f92
theorem okV4 : COKs Try.prog gl0 V4 := okV3.exe [] 300 _ (by kernel_rfl) (by kernel_rfl) (by kernel_rfl) (fun args w => by kernel_rfl)
def vN (c o g : Int) : AV := .agg [.int .i64 c, .int .i64 o, .int .i64 g]
end Go.Sym

namespace Go.Sym
open Go.Proofs Go.Spec
set_option linter.unusedVariables false
set_option maxRecDepth 100000 in
theorem vv77 (c o g : Int) (b : Bool) : bodyP Try.prog V4 gl0 [] [] 3000 Try.f77 0 [vN c o g] [] (retQ Try.prog Try.f77 0 ⟨[], .bool b, [], []⟩) = (
@Bool.rec (fun _ => Prop) (b = Bool.false ∧ True) (@Bool.rec (fun _ => Prop) (b = Bool.false ∧ True) (@Bool.rec (fun _ => Prop) (b = Bool.false ∧ True) (@Bool.rec (fun _ => Prop) (b = Bool.false ∧ True) (@Bool.rec (fun _ => Prop) (b = Bool.false ∧ True) (b = decide (g ≤ (2147483647 : Int)) ∧ True) (decide ((0 : Int) ≤ g))) (decide (o ≤ (65535 : Int)))) (decide ((0 : Int) ≤ o))) (decide (c ≤ (2147483647 : Int)))) (decide ((0 : Int) ≤ c)) : Prop) := by kernel_rfl
set_option maxRecDepth 100000 in
theorem vv78 (c o g : Int) (L : Nat) (B : By) : bodyP Try.prog V4 gl0 [] [] 3000 Try.f78 0 [vN c o g] [] (retQ Try.prog Try.f78 0 ⟨[], .slice 0 0 1 L .ow (.is false), [], [⟨.bytes B, true, 1⟩]⟩) = (
0 < 1099511627776 ∧ puBad c (4 : Int) = Bool.false ∧ 4 = List.length (puB [] c (4 : Int)) ∧ List.length (puB [] c (4 : Int)) < 1099511627776 ∧ puBad o (2 : Int) = Bool.false ∧ List.length (puB [] c (4 : Int)) + 2 = List.length (puB (puB [] c (4 : Int)) o (2 : Int)) ∧ List.length (puB (puB [] c (4 : Int)) o (2 : Int)) < 1099511627776 ∧ puBad g (4 : Int) = Bool.false ∧ Bool.false = Bool.false ∧ 0 = 0 ∧ 0 = 0 ∧ 0 = 0 ∧ L = List.length (puB (puB [] c (4 : Int)) o (2 : Int)) + 4 ∧ B = puB (puB (puB [] c (4 : Int)) o (2 : Int)) g (4 : Int) ∧ True : Prop) := by kernel_rfl
set_option maxRecDepth 100000 in
theorem vv80 (c o g : Int) (f : F8) : bodyP Try.prog V4 gl0 [] [] 3000 Try.f80 0 [vN c o g] [] (retQ Try.prog Try.f80 0 ⟨[], aggB 12 f, [], []⟩) = (
8 ≤ 8 ∧ 8 ≤ 281474976710656 ∧ 8 ≤ 9223372036854775807 ∧ 8 = 8 ∧ 8 < 1099511627776 ∧ puBad c (4 : Int) = Bool.false ∧ 12 ≤ 12 ∧ 12 ≤ List.length (puB (List.replicate 8 (0 : BitVec 8)) c (4 : Int)) ∧ allP (fun (i : Nat) => f i = List.getD (puB (List.replicate 8 (0 : BitVec 8)) c (4 : Int)) i (0 : BitVec 8)) 0 12 True : Prop) := by kernel_rfl
end Go.Sym

set_option linter.unusedSimpArgs false
namespace Go.Spec
theorem vnOk_iff {c o g : Int} : vnOk c o g = true ↔ 0 ≤ c ∧ c ≤ 2147483647 ∧ 0 ≤ o ∧ o ≤ 65535 ∧ 0 ≤ g ∧ g ≤ 2147483647 := by
  simp only [vnOk, Bool.and_eq_true, decide_eq_true_eq]
  omega
theorem vnH_len (c o g : Int) : (vnH c o g).length = 10 := by simp [vnH, puL_len]
theorem vn_bad {c o g : Int} (h : vnOk c o g = true) : puBad c 4 = false ∧ puBad o 2 = false ∧ puBad g 4 = false := by
  obtain ⟨h1, h2, h3, h4, h5, h6⟩ := vnOk_iff.1 h
  refine ⟨puBad_ok (by omega) (by omega) h1 ?_, puBad_ok (by omega) (by omega) h3 ?_, puBad_ok (by omega) (by omega) h5 ?_⟩
  · show c < (256 : Int) ^ 4; omega
  · show o < (256 : Int) ^ 2; omega
  · show g < (256 : Int) ^ 4; omega
end Go.Spec
namespace Go.Sym
open Go.Proofs Go.Spec
set_option linter.unusedVariables false
theorem bv77 (c o g : Int) : Must (bodyP Try.prog V4 gl0 [] [] 3000 Try.f77 0 [vN c o g] [] (retQ Try.prog Try.f77 0 ⟨[], .bool (vnOk c o g), [], []⟩)) := by
  constructor
  rw [vv77]
  unfold vnOk
  generalize decide (0 ≤ c) = a1, decide (c ≤ 2147483647) = a2, decide (0 ≤ o) = a3, decide (o ≤ 65535) = a4, decide (0 ≤ g) = a5, decide (g ≤ 2147483647) = a6
  cases a1
  · exact ⟨rfl, trivial⟩
  cases a2
  · exact ⟨rfl, trivial⟩
  cases a3
  · exact ⟨rfl, trivial⟩
  cases a4
  · exact ⟨rfl, trivial⟩
  cases a5
  · exact ⟨rfl, trivial⟩
  exact ⟨rfl, trivial⟩
theorem bv78 (c o g : Int) (h : vnOk c o g = true) : Must (bodyP Try.prog V4 gl0 [] [] 3000 Try.f78 0 [vN c o g] [] (retQ Try.prog Try.f78 0 ⟨[], .slice 0 0 1 10 .ow (.is false), [], [⟨.bytes (vnH c o g), true, 1⟩]⟩)) := by
  constructor
  rw [vv78]
  obtain ⟨k1, k2, k3⟩ := vn_bad h
  and_intros <;> first | exact trivial | exact k1 | exact k2 | exact k3 | rfl | omega | (simp [puB_len, puB, puL_len, vnH]; done)
theorem bv80 (c o g : Int) (h : vnOk c o g = true) : Must (bodyP Try.prog V4 gl0 [] [] 3000 Try.f80 0 [vN c o g] [] (retQ Try.prog Try.f80 0 ⟨[], aggB 12 (vnN c), [], []⟩)) := by
  constructor
  rw [vv80]
  obtain ⟨k1, k2, k3⟩ := vn_bad h
  have hl : (puB (List.replicate 8 (0 : BitVec 8)) c (4 : Int)).length = 12 := by rw [puB_len]; rfl
  refine ⟨by omega, by omega, by omega, by omega, by omega, k1, by omega, by rw [hl]; omega, ?_⟩
  exact allP_of _ _ (fun j _ _ => rfl) trivial
def gv77 (xs : List AV) (bs : List ABlk) : TL := match xs, bs with
  | [.agg [.int .i64 c, .int .i64 o, .int .i64 g]], [] => .ok ⟨[], .bool (vnOk c o g), [], []⟩
  | _, _ => .no
def gv78 (xs : List AV) (bs : List ABlk) : TL := match xs, bs with
  | [.agg [.int .i64 c, .int .i64 o, .int .i64 g]], [] => .ok ⟨[vnOk c o g = true], .slice 0 0 1 10 .ow (.is false), [], [⟨.bytes (vnH c o g), true, 1⟩]⟩
  | _, _ => .no
def gv80 (xs : List AV) (bs : List ABlk) : TL := match xs, bs with
  | [.agg [.int .i64 c, .int .i64 o, .int .i64 g]], [] => .ok ⟨[vnOk c o g = true], aggB 12 (vnN c), [], []⟩
  | _, _ => .no
theorem cv77 : COK Try.prog gl0 77 (mkF (reSp 1 gv77)) := by
  refine ctrE (fn := Try.f77) [] 3000 (by kernel_rfl) (by kernel_rfl) okV4 (by kernel_rfl) (fun args w => by kernel_rfl) fun xs bs r hs ho => ?_
  replace hs : (gv77 xs bs).sel = some r := hs
  unfold gv77 at hs
  split at hs
  · simp only [TL.sel, Option.some.injEq] at hs
    subst hs
    exact ⟨_, bv77 ..⟩
  · simp [TL.sel] at hs
theorem cv78 : COK Try.prog gl0 78 (mkF (reSp 1 gv78)) := by
  refine ctrE (fn := Try.f78) [] 3000 (by kernel_rfl) (by kernel_rfl) okV4 (by kernel_rfl) (fun args w => by kernel_rfl) fun xs bs r hs ho => ?_
  replace hs : (gv78 xs bs).sel = some r := hs
  unfold gv78 at hs
  split at hs
  · simp only [TL.sel, Option.some.injEq] at hs
    subst hs
    exact ⟨_, bv78 _ _ _ (obsT_one.1 ho)⟩
  · simp [TL.sel] at hs
theorem cv80 : COK Try.prog gl0 80 (mkF (reSp 1 gv80)) := by
  refine ctrE (fn := Try.f80) [] 3000 (by kernel_rfl) (by kernel_rfl) okV4 (by kernel_rfl) (fun args w => by kernel_rfl) fun xs bs r hs ho => ?_
  replace hs : (gv80 xs bs).sel = some r := hs
  unfold gv80 at hs
  split at hs
  · simp only [TL.sel, Option.some.injEq] at hs
    subst hs
    exact ⟨_, bv80 _ _ _ (obsT_one.1 ho)⟩
  · simp [TL.sel] at hs
noncomputable def V5 : Ctx := V4.add 77 (mkF (reSp 1 gv77))
noncomputable def V6 : Ctx := V5.add 78 (mkF (reSp 1 gv78))
noncomputable def V7 : Ctx := V6.add 80 (mkF (reSp 1 gv80))
theorem okV7 : COKs Try.prog gl0 V7 := ((okV4.add cv77).add cv78).add cv80
end Go.Sym

namespace Go.Spec
/-- What is sealed: the note, then the text under its nonce. -/
noncomputable def vaS (k : F8) (c o g : Int) (b : By) : By := vnH c o g ++ sealL k (vnN c) b (vnH c o g)
def vaK (c o g : Int) (b : By) : Bool := vnOk c o g && decide (b.length ≤ 30000)
noncomputable def vaM (k : F8) (c o g : Int) (b : By) : By := if vaK c o g b then vaS k c o g b else []
def vaE (c o g : Int) (b : By) : Int := if vaK c o g b then 0 else 1
/-- The note of sealed bytes. -/
def vrW (b : By) : Bool := vnOk (beN (b.take 4)) (beN ((b.drop 4).take 2)) (beN ((b.drop 6).take 4))
def vrE (b : By) : Int := if b.length < 26 then 2 else if 30026 < b.length then 3 else if vrW b then 0 else 3
def vrC (b : By) : Int := if vrE b = 0 then (beN (b.take 4) : Int) else 0
def vrO (b : By) : Int := if vrE b = 0 then (beN ((b.drop 4).take 2) : Int) else 0
def vrG (b : By) : Int := if vrE b = 0 then (beN ((b.drop 6).take 4) : Int) else 0
end Go.Spec
namespace Go.Sym
open Go.Proofs Go.Spec
set_option linter.unusedVariables false
def rT2 (v : AV) (L : Nat) (M : By) : RL := ⟨[], .tup [.slice 0 0 1 L .ow .unk, v], [], [⟨.bytes M, true, 1⟩]⟩
end Go.Sym

namespace Go.Sym
open Go.Proofs Go.Spec
set_option linter.unusedVariables false
set_option maxRecDepth 100000 in
theorem vv46 (k : F8) (c o g e : Int) (b M : By) (L : Nat) : bodyP Try.prog V7 gl0 [] [] 3000 Try.f46 0 [aggB 32 k, vN c o g, .rb false b .unk] [] (retQ Try.prog Try.f46 0 (rT2 (.int .i64 e) L M)) = (
let x1 := sealL (fun (i : Nat) => (rg 32 k).getD i (0 : BitVec 8)) (fun (i : Nat) => (rg 12 (vnN c)).getD i (0 : BitVec 8)) b (vnH c o g); @Bool.rec (fun _ => Prop) (L = 0 ∧ e = (1 : Int) ∧ M = [] ∧ True) (@Bool.rec (fun _ => Prop) (vnOk c o g = Bool.true ∧ vnOk c o g = Bool.true ∧ 10 = List.length (vnH c o g) ∧ List.length b + List.length (vnH c o g) + 256 < 1099511627776 ∧ List.length b + 16 = List.length x1 ∧ 10 = List.length (vnH c o g) ∧ roomFor 10 (List.length x1) 1 ∧ 0 = 0 ∧ 0 = 0 ∧ 0 = 0 ∧ L = 10 + List.length x1 ∧ e = (0 : Int) ∧ M = vnH c o g ++ x1 ∧ True) (L = 0 ∧ e = (1 : Int) ∧ M = [] ∧ True) (decide ((30000 : Int) < (↑(List.length b) : Int)))) !!vnOk c o g : Prop) := by kernel_rfl
set_option maxRecDepth 100000 in
theorem vv48 (k : F8) (c o g : Int) (d : Bool) (b M : By) (L : Nat) : bodyP Try.prog V7 gl0 [] [] 3000 Try.f48 0 [aggB 32 k, vN c o g, .rb false b .unk] [] (retQ Try.prog Try.f48 0 (rT2 (.bool d) L M)) = (
let x1 := [BitVec.ofInt 8 (c.fdiv (Int.ofNat 16777216)), BitVec.ofInt 8 (c.fdiv (Int.ofNat 65536)), BitVec.ofInt 8 (c.fdiv (Int.ofNat 256)), BitVec.ofInt 8 c, BitVec.ofInt 8 (o.fdiv (Int.ofNat 256)), BitVec.ofInt 8 o, BitVec.ofInt 8 (g.fdiv (Int.ofNat 16777216)), BitVec.ofInt 8 (g.fdiv (Int.ofNat 65536)), BitVec.ofInt 8 (g.fdiv (Int.ofNat 256)), BitVec.ofInt 8 g]; let x2 := sealL (fun (i : Nat) => (rg 32 k).getD i (0 : BitVec 8)) (fun (i : Nat) => (rgA (fun (i : Nat) => BitVec.ofNat 8 0) 0 8 [x1.getD 0 (0 : BitVec 8), x1.getD 1 (0 : BitVec 8), x1.getD 2 (0 : BitVec 8), x1.getD 3 (0 : BitVec 8)]).getD i (0 : BitVec 8)) b x1; let x3 := L = 0 ∧ d = Bool.false ∧ M = [] ∧ True; @Bool.rec (fun _ => Prop) x3 (@Bool.rec (fun _ => Prop) x3 (@Bool.rec (fun _ => Prop) x3 (@Bool.rec (fun _ => Prop) x3 (@Bool.rec (fun _ => Prop) x3 (@Bool.rec (fun _ => Prop) x3 (@Bool.rec (fun _ => Prop) (0 < 10 ∧ 0 < x1.length ∧ 1 < 10 ∧ 1 < x1.length ∧ 2 < 10 ∧ 2 < x1.length ∧ 3 < 10 ∧ 3 < x1.length ∧ 10 = x1.length ∧ 0 = 0 ∧ roomFor 0 x1.length 1 ∧ 10 = x1.length ∧ List.length b + x1.length + 256 < 1099511627776 ∧ List.length b + 16 = List.length x2 ∧ 0 + x1.length = ([] ++ x1).length ∧ roomFor (0 + x1.length) (List.length x2) 1 ∧ 0 = 0 ∧ 0 = 0 ∧ 0 = 0 ∧ L = 0 + x1.length + List.length x2 ∧ d = Bool.true ∧ M = [] ++ x1 ++ x2 ∧ True) x3 (decide ((30000 : Int) < (↑(List.length b) : Int)))) !decide ((2147483647 : Int) < g)) !decide (g < (0 : Int))) !decide ((65535 : Int) < o)) !decide (o < (0 : Int))) !decide ((2147483647 : Int) < c)) !decide (c < (0 : Int)) : Prop) := by kernel_rfl
set_option maxRecDepth 100000 in
theorem vv51 (c o g e : Int) (b : By) : bodyP Try.prog V7 gl0 [] [] 3000 Try.f51 0 [.rb false b .unk] [] (retQ Try.prog Try.f51 0 ⟨[], .tup [vN c o g, .int .i64 e], [], []⟩) = (
let x1 := uiX (List.take 10 b) 0 (0 : Int) (4 : Int); let x2 := uiE (List.take 10 b) 0 (0 : Int) (4 : Int); @Bool.rec (fun _ => Prop) (@Bool.rec (fun _ => Prop) (10 ≤ List.length b ∧ (List.take 10 b).length < 1099511627776 ∧ 0 + (List.take 10 b).length = (List.take 10 b).length ∧ (List.take 10 b).length < 1099511627776 ∧ x1 + ((List.take 10 b).length - x1) = (List.take 10 b).length ∧ (List.take 10 b).length < 1099511627776 ∧ uiX (List.take 10 b) x1 x2 (2 : Int) + ((List.take 10 b).length - uiX (List.take 10 b) x1 x2 (2 : Int)) = (List.take 10 b).length ∧ (List.take 10 b).length < 1099511627776 ∧ @Bool.rec (fun _ => Prop) (c = (↑(uiV (List.take 10 b) 0 (0 : Int) (4 : Int)) : Int) ∧ o = (↑(uiV (List.take 10 b) x1 x2 (2 : Int)) : Int) ∧ g = (↑(uiV (List.take 10 b) (uiX (List.take 10 b) x1 x2 (2 : Int)) (uiE (List.take 10 b) x1 x2 (2 : Int)) (4 : Int)) : Int) ∧ e = (0 : Int) ∧ True) (c = (0 : Int) ∧ o = (0 : Int) ∧ g = (0 : Int) ∧ e = (3 : Int) ∧ True) !vnOk (↑(uiV (List.take 10 b) 0 (0 : Int) (4 : Int)) : Int) (↑(uiV (List.take 10 b) x1 x2 (2 : Int)) : Int) (↑(uiV (List.take 10 b) (uiX (List.take 10 b) x1 x2 (2 : Int)) (uiE (List.take 10 b) x1 x2 (2 : Int)) (4 : Int)) : Int)) (c = (0 : Int) ∧ o = (0 : Int) ∧ g = (0 : Int) ∧ e = (3 : Int) ∧ True) (decide ((30026 : Int) < (↑(List.length b) : Int)))) (c = (0 : Int) ∧ o = (0 : Int) ∧ g = (0 : Int) ∧ e = (2 : Int) ∧ True) (decide ((↑(List.length b) : Int) < (26 : Int))) : Prop) := by kernel_rfl
end Go.Sym

namespace Go.Spec
noncomputable def voE (k : F8) (b : By) : Int := if vrE b = 0 then openE k (vnN (beN (b.take 4))) (b.drop 10) (b.take 10) else vrE b
noncomputable def voM (k : F8) (b : By) : By := if voE k b = 0 then openM k (vnN (beN (b.take 4))) (b.drop 10) (b.take 10) else []
noncomputable def voC (k : F8) (b : By) : Int := if voE k b = 0 then (beN (b.take 4) : Int) else 0
noncomputable def voO (k : F8) (b : By) : Int := if voE k b = 0 then (beN ((b.drop 4).take 2) : Int) else 0
noncomputable def voG (k : F8) (b : By) : Int := if voE k b = 0 then (beN ((b.drop 6).take 4) : Int) else 0
end Go.Spec
namespace Go.Sym
open Go.Proofs Go.Spec
set_option linter.unusedVariables false
noncomputable def gv46 (xs : List AV) (bs : List ABlk) : TL := match xs, bs with
  | [.agg ks, .agg [.int .i64 c, .int .i64 o, .int .i64 g], .rb false b .unk], [] => asB 32 ks fun k => .ok ⟨[b.length + 512 < 1099511627776], .tup [.slice 0 0 1 (vaM k c o g b).length .ow .unk, .int .i64 (vaE c o g b)], [], [⟨.bytes (vaM k c o g b), true, 1⟩]⟩
  | _, _ => .no
noncomputable def sp46 : Spec := ⟨[.kp, .kp, .by0], fun _ _ => [], fun _ _ => [], gv46⟩
noncomputable def gv48 (xs : List AV) (bs : List ABlk) : TL := match xs, bs with
  | [.agg ks, .agg [.int .i64 c, .int .i64 o, .int .i64 g], .rb false b .unk], [] => asB 32 ks fun k => .ok ⟨[b.length + 512 < 1099511627776], .tup [.slice 0 0 1 (vaM k c o g b).length .ow .unk, .bool (vaK c o g b)], [], [⟨.bytes (vaM k c o g b), true, 1⟩]⟩
  | _, _ => .no
noncomputable def sp48 : Spec := ⟨[.kp, .kp, .by0], fun _ _ => [], fun _ _ => [], gv48⟩
def gv51 (xs : List AV) (bs : List ABlk) : TL := match xs, bs with
  | [.rb false b .unk], [] => .ok ⟨[], .tup [.agg [.int .i64 (vrC b), .int .i64 (vrO b), .int .i64 (vrG b)], .int .i64 (vrE b)], [], []⟩
  | _, _ => .no
def sp51 : Spec := ⟨[.by0], fun _ _ => [], fun _ _ => [], gv51⟩
noncomputable def gv50 (xs : List AV) (bs : List ABlk) : TL := match xs, bs with
  | [.agg ks, .rb false b .unk], [] => asB 32 ks fun k => .ok ⟨[b.length + 512 < 1099511627776], .tup [.agg [.int .i64 (voC k b), .int .i64 (voO k b), .int .i64 (voG k b)], .slice 0 0 1 (voM k b).length .ow .unk, .int .i64 (voE k b)], [], [⟨.bytes (voM k b), true, 1⟩]⟩
  | _, _ => .no
noncomputable def sp50 : Spec := ⟨[.kp, .by0], fun _ _ => [], fun _ _ => [], gv50⟩
noncomputable def V8 : Ctx := V7.add 46 (mkF sp46)
noncomputable def V9 : Ctx := V8.add 48 (mkF sp48)
noncomputable def V10 : Ctx := V9.add 51 (mkF sp51)
noncomputable def V11 : Ctx := V10.add 50 (mkF sp50)
noncomputable def V12 : Ctx := V11.add 52 (mkF sp50)
noncomputable def V13 : Ctx := V12.exe Try.prog gl0 [] 300 Try.f47.params.size 47 Try.f47
def rT3 (c o g e : Int) (L : Nat) (M : By) : RL := ⟨[], .tup [.agg [.int .i64 c, .int .i64 o, .int .i64 g], .slice 0 0 1 L .ow .unk, .int .i64 e], [], [⟨.bytes M, true, 1⟩]⟩
end Go.Sym

namespace Go.Sym
open Go.Proofs Go.Spec
set_option linter.unusedVariables false
set_option maxRecDepth 100000 in
theorem vv50 (k : F8) (c o g e : Int) (b M : By) (L : Nat) : bodyP Try.prog V10 gl0 [] [] 3000 Try.f50 0 [aggB 32 k, .rb false b .unk] [] (retQ Try.prog Try.f50 0 (rT3 c o g e L M)) = (
@Bool.rec (fun _ => Prop) (vnOk (vrC b) (vrO b) (vrG b) = Bool.true ∧ 10 ≤ List.length b ∧ 10 ≤ List.length b ∧ (List.drop 10 b).length + (List.take 10 b).length + 256 < 1099511627776 ∧ @Bool.rec (fun _ => Prop) (c = vrC b ∧ o = vrO b ∧ g = vrG b ∧ 0 = 0 ∧ 0 = 0 ∧ 0 = 0 ∧ L = List.length (openM (fun (i : Nat) => (rg 32 k).getD i (0 : BitVec 8)) (fun (i : Nat) => (rg 12 (vnN (vrC b))).getD i (0 : BitVec 8)) (List.drop 10 b) (List.take 10 b)) ∧ e = (0 : Int) ∧ M = openM (fun (i : Nat) => (rg 32 k).getD i (0 : BitVec 8)) (fun (i : Nat) => (rg 12 (vnN (vrC b))).getD i (0 : BitVec 8)) (List.drop 10 b) (List.take 10 b) ∧ True) (c = (0 : Int) ∧ o = (0 : Int) ∧ g = (0 : Int) ∧ L = 0 ∧ e = openE (fun (i : Nat) => (rg 32 k).getD i (0 : BitVec 8)) (fun (i : Nat) => (rg 12 (vnN (vrC b))).getD i (0 : BitVec 8)) (List.drop 10 b) (List.take 10 b) ∧ M = [] ∧ True) !decide (openE (fun (i : Nat) => (rg 32 k).getD i (0 : BitVec 8)) (fun (i : Nat) => (rg 12 (vnN (vrC b))).getD i (0 : BitVec 8)) (List.drop 10 b) (List.take 10 b) = (0 : Int))) (c = (0 : Int) ∧ o = (0 : Int) ∧ g = (0 : Int) ∧ L = 0 ∧ e = vrE b ∧ M = [] ∧ True) !decide (vrE b = (0 : Int)) : Prop) := by kernel_rfl
set_option maxRecDepth 100000 in
theorem vv52 (k : F8) (c o g e : Int) (b M : By) (L : Nat) : bodyP Try.prog V10 gl0 [] [] 3000 Try.f52 0 [aggB 32 k, .rb false b .unk] [] (retQ Try.prog Try.f52 0 (rT3 c o g e L M)) = (
let x1 := fun (i : Nat) => (rgA (fun (i : Nat) => BitVec.ofNat 8 0) 0 8 [List.getD b 0 (0 : BitVec 8), List.getD b 1 (0 : BitVec 8), List.getD b 2 (0 : BitVec 8), List.getD b 3 (0 : BitVec 8)]).getD i (0 : BitVec 8); let x2 := c = (0 : Int) ∧ o = (0 : Int) ∧ g = (0 : Int) ∧ L = 0 ∧ e = (3 : Int) ∧ M = [] ∧ True; @Bool.rec (fun _ => Prop) (@Bool.rec (fun _ => Prop) x2 (0 < List.length b ∧ @Bool.rec (fun _ => Prop) x2 (6 < List.length b ∧ @Bool.rec (fun _ => Prop) (allP (fun (i : Nat) => i < List.length b) 0 10 (0 < List.length b ∧ 1 < List.length b ∧ 2 < List.length b ∧ 3 < List.length b ∧ 10 ≤ List.length b ∧ 10 ≤ List.length b ∧ (List.drop 10 b).length + (List.take 10 b).length + 256 < 1099511627776 ∧ @Bool.rec (fun _ => Prop) (c = IntKind.i64.wrap (IntKind.i64.wrap (IntKind.i64.wrap (IntKind.i64.wrap ((↑(List.getD b 0 (0 : BitVec 8)).toNat : Int) * Int.ofNat 16777216) + IntKind.i64.wrap ((↑(List.getD b 1 (0 : BitVec 8)).toNat : Int) * Int.ofNat 65536)) + IntKind.i64.wrap ((↑(List.getD b 2 (0 : BitVec 8)).toNat : Int) * Int.ofNat 256)) + (↑(List.getD b 3 (0 : BitVec 8)).toNat : Int)) ∧ o = IntKind.i64.wrap (IntKind.i64.wrap ((↑(List.getD b 4 (0 : BitVec 8)).toNat : Int) * Int.ofNat 256) + (↑(List.getD b 5 (0 : BitVec 8)).toNat : Int)) ∧ g = IntKind.i64.wrap (IntKind.i64.wrap (IntKind.i64.wrap (IntKind.i64.wrap ((↑(List.getD b 6 (0 : BitVec 8)).toNat : Int) * Int.ofNat 16777216) + IntKind.i64.wrap ((↑(List.getD b 7 (0 : BitVec 8)).toNat : Int) * Int.ofNat 65536)) + IntKind.i64.wrap ((↑(List.getD b 8 (0 : BitVec 8)).toNat : Int) * Int.ofNat 256)) + (↑(List.getD b 9 (0 : BitVec 8)).toNat : Int)) ∧ 0 = 0 ∧ 0 = 0 ∧ 0 = 0 ∧ L = List.length (openM (fun (i : Nat) => (rg 32 k).getD i (0 : BitVec 8)) x1 (List.drop 10 b) (List.take 10 b)) ∧ e = (0 : Int) ∧ M = openM (fun (i : Nat) => (rg 32 k).getD i (0 : BitVec 8)) x1 (List.drop 10 b) (List.take 10 b) ∧ True) (c = (0 : Int) ∧ o = (0 : Int) ∧ g = (0 : Int) ∧ L = 0 ∧ e = (4 : Int) ∧ M = [] ∧ True) !openK (fun (i : Nat) => (rg 32 k).getD i (0 : BitVec 8)) x1 (List.drop 10 b) (List.take 10 b))) x2 (decide (127 < (List.getD b 6 (0 : BitVec 8)).toNat))) !decide (127 < (List.getD b 0 (0 : BitVec 8)).toNat)) !decide ((30026 : Int) < (↑(List.length b) : Int))) (c = (0 : Int) ∧ o = (0 : Int) ∧ g = (0 : Int) ∧ L = 0 ∧ e = (2 : Int) ∧ M = [] ∧ True) (decide ((↑(List.length b) : Int) < (26 : Int))) : Prop) := by kernel_rfl
end Go.Sym

set_option linter.unusedSimpArgs false
namespace Go.Spec
theorem re_32 (k : F8) : re32 (fun i => (rg 32 k).getD i 0) = re32 k := rfl
theorem re_12 (k : F8) : re12 (fun i => (rg 12 k).getD i 0) = re12 k := rfl
theorem re12_congr {n m : F8} (h : ∀ i, i < 12 → n i = m i) : re12 n = re12 m := by rw [re12_rg, re12_rg, rg_congr h]
theorem sealL_cg {k k' n n' : F8} (h : re32 k = re32 k') (h2 : re12 n = re12 n') (b m : By) : sealL k n b m = sealL k' n' b m := by
  unfold sealL tagL txtS; rw [h, h2]
theorem openE_cg {k k' n n' : F8} (h : re32 k = re32 k') (h2 : re12 n = re12 n') (b m : By) : openE k n b m = openE k' n' b m := by
  unfold openE openB tagL; rw [h, h2]
theorem openK_cg {k k' n n' : F8} (h : re32 k = re32 k') (h2 : re12 n = re12 n') (b m : By) : openK k n b m = openK k' n' b m := by
  unfold openK openB tagL; rw [h, h2]
theorem openM_cg {k k' n n' : F8} (h : re32 k = re32 k') (h2 : re12 n = re12 n') (b m : By) : openM k n b m = openM k' n' b m := by
  unfold openM openB tagL txtS; rw [h, h2]
theorem puL_beN (l : By) : puL (beN l) l.length = l := by
  induction h : l.length generalizing l with
  | zero => cases l with
    | nil => rfl
    | cons => simp at h
  | succ w ih =>
    have hne : l ≠ [] := by intro e; rw [e] at h; simp at h
    have e := List.dropLast_concat_getLast hne
    have hl : l.dropLast.length = w := by simp [h]
    rw [← e, beN_snoc, puL_succ]
    have hx := (l.getLast hne).isLt
    have e1 : (beN l.dropLast * 256 + (l.getLast hne).toNat) / 256 = beN l.dropLast := by omega
    rw [e1, ih _ hl]
    congr 2
    apply BitVec.eq_of_toNat_eq
    rw [BitVec.toNat_ofNat]
    omega
theorem list10 (b : By) (h : 10 ≤ b.length) : ∃ b0 b1 b2 b3 b4 b5 b6 b7 b8 b9 r, b = b0 :: b1 :: b2 :: b3 :: b4 :: b5 :: b6 :: b7 :: b8 :: b9 :: r := by
  match b, h with
  | b0 :: b1 :: b2 :: b3 :: b4 :: b5 :: b6 :: b7 :: b8 :: b9 :: r, _ => exact ⟨_, _, _, _, _, _, _, _, _, _, _, rfl⟩
theorem vnN_beN (b0 b1 b2 b3 : BitVec 8) : vnN (beN [b0, b1, b2, b3]) = fun i => (List.replicate 8 0#8 ++ [b0, b1, b2, b3]).getD i 0 := by
  have h := puL_beN [b0, b1, b2, b3]
  funext i
  unfold vnN
  rw [Int.toNat_natCast, show (4 : Nat) = [b0, b1, b2, b3].length from rfl, h]
theorem by_div {c : Int} (h : 0 ≤ c) (m : Nat) : BitVec.ofInt 8 (c.fdiv (Int.ofNat m)) = BitVec.ofNat 8 (c.toNat / m) := by
  obtain ⟨n, rfl⟩ := Int.eq_ofNat_of_zero_le h
  have e : (n : Int).fdiv (Int.ofNat m) = ((n / m : Nat) : Int) := by
    rw [Int.ofNat_eq_natCast]; exact (Int.ofNat_fdiv n m).symm
  rw [e, BitVec.ofInt_natCast, Int.toNat_natCast]
theorem by_one {c : Int} (h : 0 ≤ c) : BitVec.ofInt 8 c = BitVec.ofNat 8 c.toNat := by
  obtain ⟨n, rfl⟩ := Int.eq_ofNat_of_zero_le h
  rw [BitVec.ofInt_natCast, Int.toNat_natCast]
theorem puL4 {c : Int} (h : 0 ≤ c) : puL c.toNat 4 = [BitVec.ofInt 8 (c.fdiv (Int.ofNat 16777216)), BitVec.ofInt 8 (c.fdiv (Int.ofNat 65536)), BitVec.ofInt 8 (c.fdiv (Int.ofNat 256)), BitVec.ofInt 8 c] := by
  rw [by_div h, by_div h, by_div h, by_one h]
  show [BitVec.ofNat 8 (c.toNat / 256 ^ 3), BitVec.ofNat 8 (c.toNat / 256 ^ 2), BitVec.ofNat 8 (c.toNat / 256 ^ 1), BitVec.ofNat 8 (c.toNat / 256 ^ 0)] = _
  simp only [Nat.pow_zero, Nat.div_one]
theorem puL2 {c : Int} (h : 0 ≤ c) : puL c.toNat 2 = [BitVec.ofInt 8 (c.fdiv (Int.ofNat 256)), BitVec.ofInt 8 c] := by
  rw [by_div h, by_one h]
  show [BitVec.ofNat 8 (c.toNat / 256 ^ 1), BitVec.ofNat 8 (c.toNat / 256 ^ 0)] = _
  simp only [Nat.pow_zero, Nat.div_one]
theorem vaS_len (k : F8) (c o g : Int) (b : By) : (vaS k c o g b).length = b.length + 26 := by
  unfold vaS; rw [List.length_append, vnH_len, sealL_length]; omega
end Go.Spec
namespace Go.Sym
open Go.Proofs Go.Spec
set_option linter.unusedVariables false
theorem bv46 (k : F8) (c o g : Int) (b : By) (hb : b.length + 512 < 1099511627776) : Must (bodyP Try.prog V7 gl0 [] [] 3000 Try.f46 0 [aggB 32 k, vN c o g, .rb false b .unk] [] (retQ Try.prog Try.f46 0 (rT2 (.int .i64 (vaE c o g b)) (vaM k c o g b).length (vaM k c o g b)))) := by
  constructor
  rw [vv46, sealL_cg (re_32 k) (re_12 (vnN c))]
  have hs := sealL_length k (vnN c) b (vnH c o g)
  have hh := vnH_len c o g
  cases h : vnOk c o g
  · have hK : vaK c o g b = false := by unfold vaK; rw [h]; rfl
    unfold vaE vaM
    rw [hK]
    exact ⟨rfl, rfl, rfl, trivial⟩
  · by_cases h2 : b.length ≤ 30000
    · have hK : vaK c o g b = true := by unfold vaK; rw [h, decide_eq_true h2]; rfl
      have hM : vaM k c o g b = vaS k c o g b := by unfold vaM; rw [if_pos hK]
      have hE : vaE c o g b = 0 := by unfold vaE; rw [if_pos hK]
      rw [hM, hE, decide_eq_false (by omega)]
      refine ⟨rfl, rfl, hh.symm, by omega, hs.symm, hh.symm, by unfold roomFor; rw [hs]; omega, rfl, rfl, rfl, ?_, rfl, rfl, trivial⟩
      rw [vaS_len, hs]; omega
    · have hK : vaK c o g b = false := by unfold vaK; rw [h, decide_eq_false h2]; rfl
      unfold vaE vaM
      rw [hK, decide_eq_true (by omega)]
      exact ⟨rfl, rfl, rfl, trivial⟩
end Go.Sym
