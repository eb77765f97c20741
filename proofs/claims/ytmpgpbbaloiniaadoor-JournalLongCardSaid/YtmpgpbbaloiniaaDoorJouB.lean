/- A slot, an entry, as bytes; which sectors are right slots. -/
import Derived.Test.YtmpgpbbaloiniaaDoorJouA
import Derived.KernelRfl
/- A slot; an entry. -/
namespace Go.Sym
open Go.Proofs Go.Spec
set_option linter.unusedVariables false
noncomputable def Q0 : Ctx := B5.exe Tryd.prog gl0 [] 3000 Tryd.f106.params.size 106 Tryd.f106
theorem okQ0 : COKs Tryd.prog gl0 Q0 := okB5.exe [] 3000 _ (by kernel_rfl) (by kernel_rfl) (by kernel_rfl) (fun args w => by kernel_rfl)
noncomputable def Q1 : Ctx := Q0.exe Tryd.prog gl0 [] 3000 Tryd.f138.params.size 138 Tryd.f138
theorem okQ1 : COKs Tryd.prog gl0 Q1 := okQ0.exe [] 3000 _ (by kernel_rfl) (by kernel_rfl) (by kernel_rfl) (fun args w => by kernel_rfl)
noncomputable def Q2 : Ctx := Q1.exe Tryd.prog gl0 [] 3000 Tryd.f105.params.size 105 Tryd.f105
theorem okQ2 : COKs Tryd.prog gl0 Q2 := okQ1.exe [] 3000 _ (by kernel_rfl) (by kernel_rfl) (by kernel_rfl) (fun args w => by kernel_rfl)
noncomputable def Q3 : Ctx := Q2.exe Tryd.prog gl0 [] 3000 Tryd.f24.params.size 24 Tryd.f24
theorem okQ3 : COKs Tryd.prog gl0 Q3 := okQ2.exe [] 3000 _ (by kernel_rfl) (by kernel_rfl) (by kernel_rfl) (fun args w => by kernel_rfl)
end Go.Sym

namespace Go.Sym
open Go.Proofs Go.Spec
set_option linter.unusedVariables false
set_option maxRecDepth 100000 in
theorem vjN (n e : Int) : bodyP Tryd.prog Q2 gl0 [] [] 3000 Tryd.f24 0 [.int .i64 n] [] (retQ Tryd.prog Tryd.f24 0 ⟨[], .int .i64 e, [], []⟩) = (
@Bool.rec (fun _ => Prop) (e = IntKind.i64.wrap ((IntKind.i64.wrap (IntKind.i64.wrap (IntKind.i64.wrap (n + (18 : Int)) + (64 : Int)) - (1 : Int))).tdiv (64 : Int)) ∧ True) (e = IntKind.i64.wrap (↑((BitVec.ofInt 64 n + BitVec.ofNat 64 18 + BitVec.ofNat 64 64 - BitVec.ofNat 64 1) / BitVec.ofNat 64 64).toNat : Int) ∧ True) (decide ((0 : Int) < n)) : Prop) := by kernel_rfl
set_option maxRecDepth 100000 in
theorem vjB (g : BitVec 64) (a : Int) (B : By) : bodyP Tryd.prog Q2 gl0 [] [] 3000 Tryd.f55 0 [.agg [.u64 g, .int .i64 a]] [] (retQ Tryd.prog Tryd.f55 0 ⟨[], .slice 0 0 1 64 .ow .unk, [], [⟨.bytes B, true, 1⟩]⟩) = (
let x1 := List.take 0 (List.replicate 13 (0 : BitVec 8)) ++ [BitVec.ofNat 8 82, BitVec.ofNat 8 76, BitVec.ofNat 8 65, BitVec.ofNat 8 89] ++ ((((((((List.replicate 8 (0 : BitVec 8)).set 0 (BitVec.setWidth 8 (g >>> 56))).set 1 (BitVec.setWidth 8 (g >>> 48))).set 2 (BitVec.setWidth 8 (g >>> 40))).set 3 (BitVec.setWidth 8 (g >>> 32))).set 4 (BitVec.setWidth 8 (g >>> 24))).set 5 (BitVec.setWidth 8 (g >>> 16))).set 6 (BitVec.setWidth 8 (g >>> 8))).set 7 (BitVec.setWidth 8 (g >>> 0)) ++ (List.replicate 1 (0 : BitVec 8)).set 0 (BitVec.setWidth 8 (BitVec.ofInt 64 a >>> 0)); let x2 := ((((((List.replicate 8 (0 : BitVec 8)).set 0 (BitVec.setWidth 8 (g >>> 56))).set 1 (BitVec.setWidth 8 (g >>> 48))).set 2 (BitVec.setWidth 8 (g >>> 40))).set 3 (BitVec.setWidth 8 (g >>> 32))).set 4 (BitVec.setWidth 8 (g >>> 24))).set 5 (BitVec.setWidth 8 (g >>> 16)); let x3 := List.take 0 (List.replicate 32 (0 : BitVec 8)) ++ (List.take 32 x1 ++ List.drop (0 + Min.min x1.length 32) (List.replicate 32 (0 : BitVec 8))); let x4 := (x2.set 6 (BitVec.setWidth 8 (g >>> 8))).set 7 (BitVec.setWidth 8 (g >>> 0)); let x5 := ((List.replicate 8 (0 : BitVec 8)).set 0 (BitVec.setWidth 8 (g >>> 56))).set 1 (BitVec.setWidth 8 (g >>> 48)); let x6 := ((List.replicate 1 (0 : BitVec 8)).set 0 (BitVec.setWidth 8 (BitVec.ofInt 64 a >>> 0))).length; 32 ≤ 32 ∧ 32 ≤ 281474976710656 ∧ 32 ≤ 9223372036854775807 ∧ 0 < 4 ∧ 0 < 4 ∧ (0 : Int) ≤ (8 : Int) ∧ (0 : Int) ≤ (8 : Int) ∧ 8 ≤ 8 ∧ 8 ≤ 281474976710656 ∧ 8 ≤ 9223372036854775807 ∧ (0 : Int) ≤ Int.ofNat 56 ∧ (0 : Int) ≤ (0 : Int) ∧ 0 < 8 ∧ 0 < 8 ∧ (0 : Int) ≤ Int.ofNat 48 ∧ (0 : Int) ≤ Int.ofNat 1 ∧ 1 < 8 ∧ 1 < ((List.replicate 8 (0 : BitVec 8)).set 0 (BitVec.setWidth 8 (g >>> 56))).length ∧ (0 : Int) ≤ Int.ofNat 40 ∧ (0 : Int) ≤ Int.ofNat 2 ∧ 2 < 8 ∧ 2 < x5.length ∧ (0 : Int) ≤ Int.ofNat 32 ∧ (0 : Int) ≤ Int.ofNat 3 ∧ 3 < 8 ∧ 3 < (x5.set 2 (BitVec.setWidth 8 (g >>> 40))).length ∧ (0 : Int) ≤ Int.ofNat 24 ∧ (0 : Int) ≤ Int.ofNat 4 ∧ 4 < 8 ∧ 4 < ((x5.set 2 (BitVec.setWidth 8 (g >>> 40))).set 3 (BitVec.setWidth 8 (g >>> 32))).length ∧ (0 : Int) ≤ Int.ofNat 16 ∧ (0 : Int) ≤ Int.ofNat 5 ∧ 5 < 8 ∧ 5 < (((x5.set 2 (BitVec.setWidth 8 (g >>> 40))).set 3 (BitVec.setWidth 8 (g >>> 32))).set 4 (BitVec.setWidth 8 (g >>> 24))).length ∧ (0 : Int) ≤ Int.ofNat 8 ∧ (0 : Int) ≤ Int.ofNat 6 ∧ 6 < 8 ∧ 6 < x2.length ∧ (0 : Int) ≤ Int.ofNat 0 ∧ (0 : Int) ≤ Int.ofNat 7 ∧ 7 < 8 ∧ 7 < (x2.set 6 (BitVec.setWidth 8 (g >>> 8))).length ∧ (0 : Int) ≤ (1 : Int) ∧ (0 : Int) ≤ (1 : Int) ∧ 1 ≤ 1 ∧ 1 ≤ 281474976710656 ∧ 1 ≤ 9223372036854775807 ∧ (0 : Int) ≤ Int.ofNat 0 ∧ (0 : Int) ≤ (0 : Int) ∧ 0 < 1 ∧ 0 < 1 ∧ (0 : Int) ≤ (0 : Int) ∧ 0 < 3 ∧ (0 : Int) ≤ Int.ofNat 1 ∧ 1 < 3 ∧ (0 : Int) ≤ Int.ofNat 2 ∧ 2 < 3 ∧ (0 : Int) ≤ (0 : Int) ∧ 0 ≤ 0 ∧ (0 : Int) ≤ Int.ofNat 13 ∧ Int.ofNat 13 < (9223372036854775808 : Int) ∧ roomFor 0 13 1 ∧ (0 : Int) ≤ (0 : Int) ∧ 0 ≤ 13 ∧ (0 : Int) ≤ (0 : Int) ∧ 0 < 3 ∧ 0 ≤ 13 ∧ 4 = 4 ∧ 0 = 0 ∧ roomFor 0 4 1 ∧ (0 : Int) ≤ Int.ofNat 1 ∧ 1 < 3 ∧ 8 = x4.length ∧ 4 = 4 ∧ roomFor 4 x4.length 1 ∧ (0 : Int) ≤ Int.ofNat 2 ∧ 2 < 3 ∧ 1 = x6 ∧ 4 + x4.length = (List.take 0 (List.replicate 13 (0 : BitVec 8)) ++ [BitVec.ofNat 8 82, BitVec.ofNat 8 76, BitVec.ofNat 8 65, BitVec.ofNat 8 89] ++ x4).length ∧ roomFor (4 + x4.length) x6 1 ∧ 4 + x4.length + x6 = x1.length ∧ 32 ≤ 32 ∧ 32 = x3.length ∧ x3.length < 4611686018427387904 ∧ 32 = x3.length ∧ roomFor 32 (rg 32 (shaB x3)).length 1 ∧ 0 = 0 ∧ 0 = 0 ∧ 0 = 0 ∧ 64 = 32 + (rg 32 (shaB x3)).length ∧ B = x3 ++ rg 32 (shaB x3) ∧ True : Prop) := by kernel_rfl
end Go.Sym

namespace Go.Spec
/-- A number in k bytes, the highest first. -/
def beB (n : BitVec 64) (k : Nat) : By := (List.range k).map fun i => (n >>> (8 * (k - 1 - i))).setWidth 8
/-- What a slot says; a slot. -/
def slH (g : BitVec 64) (a : Int) : By := [82, 76, 65, 89] ++ beB g 8 ++ beB (BitVec.ofInt 64 a) 1 ++ List.replicate 19 0
noncomputable def slB (g : BitVec 64) (a : Int) : By := slH g a ++ rg 32 (shaB (slH g a))
def needN (n : Nat) : Nat := (n + 81) / 64
end Go.Spec
namespace Go.Sym
open Go.Proofs Go.Spec
set_option linter.unusedVariables false
theorem bjN (n : Nat) (hn : n < 1099511627776) : Must (bodyP Tryd.prog Q2 gl0 [] [] 3000 Tryd.f24 0 [.int .i64 n] [] (retQ Tryd.prog Tryd.f24 0 ⟨[], .int .i64 (needN n), [], []⟩)) := by
  constructor
  rw [vjN]
  unfold needN
  refine brec (fun h => ?_) (fun h => ?_)
  · have h := dtr h
    refine ⟨?_, trivial⟩
    have e : ((BitVec.ofInt 64 (n : Int) + BitVec.ofNat 64 18 + BitVec.ofNat 64 64 - BitVec.ofNat 64 1) / BitVec.ofNat 64 64).toNat = (n + 81) / 64 := by
      have e0 : (BitVec.ofInt 64 (n : Int)).toNat = n := by rw [BitVec.toNat_ofInt]; omega
      have e1 : (BitVec.ofInt 64 (n : Int) + BitVec.ofNat 64 18 + BitVec.ofNat 64 64 - BitVec.ofNat 64 1).toNat = n + 81 := by
        rw [BitVec.toNat_sub, BitVec.toNat_add, BitVec.toNat_add, e0]
        simp only [BitVec.toNat_ofNat]
        omega
      rw [BitVec.toNat_udiv, e1]
      rfl
    rw [e, wrap_nat ((n + 81) / 64) rfl (by omega)]
  · have h := dfl h
    have : n = 0 := by omega
    subst this
    exact ⟨by decide, trivial⟩
theorem slH_len (g : BitVec 64) (a : Int) : (slH g a).length = 32 := rfl
theorem slB_len (g : BitVec 64) (a : Int) : (slB g a).length = 64 := by unfold slB; rw [List.length_append, slH_len, rg_length]
set_option maxRecDepth 100000 in
theorem bjB (g : BitVec 64) (a : Int) : Must (bodyP Tryd.prog Q2 gl0 [] [] 3000 Tryd.f55 0 [.agg [.u64 g, .int .i64 a]] [] (retQ Tryd.prog Tryd.f55 0 ⟨[], .slice 0 0 1 64 .ow .unk, [], [⟨.bytes (slB g a), true, 1⟩]⟩)) := by
  constructor
  rw [vjB]
  intro x1 x2 x3 x4 x5 x6
  have h3 : x3 = slH g a := by kernel_rfl
  have h6 : x6 = 1 := rfl
  have h4 : x4.length = 8 := rfl
  have h5 : x5.length = 8 := rfl
  have h2 : x2.length = 8 := rfl
  have h1 : x1.length = 13 := rfl
  rw [h3]
  have hs := slH_len g a
  clear_value x1 x2 x3 x4 x5 x6
  have hr : (rg 32 (shaB (slH g a))).length = 32 := rg_length _ _
  and_intros <;> first | omega | (unfold roomFor; omega) | (simp only [List.length_set, List.length_replicate, List.length_append, List.length_take, List.length_cons, List.length_nil]; omega) | (unfold roomFor; rw [rg_length]; omega) | rfl | trivial
noncomputable def gjN (xs : List AV) (bs : List ABlk) : TL := match xs, bs with
  | [.int .i64 n], [] => .ok ⟨[0 ≤ n, n < 1099511627776], .int .i64 (needN n.toNat), [], []⟩
  | _, _ => .no
noncomputable def spjN : Spec := ⟨[.kp], fun _ _ => [], fun _ _ => [], gjN⟩
theorem cjN : COK Tryd.prog gl0 24 (mkF spjN) := by
  refine ctrE (fn := Tryd.f24) [] 3000 (by kernel_rfl) (by kernel_rfl) okQ2 (by kernel_rfl) (fun args w => by kernel_rfl) fun xs bs r hs ho => ?_
  replace hs : (gjN xs bs).sel = some r := hs
  unfold gjN at hs
  split at hs
  · rename_i n
    simp only [TL.sel, Option.some.injEq] at hs
    subst hs
    obtain ⟨h1, ho⟩ := obsT_cons.1 ho
    have h2 := obsT_one.1 ho
    obtain ⟨m, rfl⟩ : ∃ m : Nat, n = m := ⟨n.toNat, by omega⟩
    exact ⟨_, bjN m (by omega)⟩
  · simp [TL.sel] at hs
noncomputable def gjB (xs : List AV) (bs : List ABlk) : TL := match xs, bs with
  | [.agg [.u64 g, .int .i64 a]], [] => .ok ⟨[], .slice 0 0 1 64 .ow .unk, [], [⟨.bytes (slB g a), true, 1⟩]⟩
  | _, _ => .no
noncomputable def spjB : Spec := ⟨[.kp], fun _ _ => [], fun _ _ => [], gjB⟩
theorem cjB : COK Tryd.prog gl0 55 (mkF spjB) := by
  refine ctrE (fn := Tryd.f55) [] 3000 (by kernel_rfl) (by kernel_rfl) okQ2 (by kernel_rfl) (fun args w => by kernel_rfl) fun xs bs r hs ho => ?_
  replace hs : (gjB xs bs).sel = some r := hs
  unfold gjB at hs
  split at hs
  · simp only [TL.sel, Option.some.injEq] at hs
    subst hs
    exact ⟨_, bjB _ _⟩
  · simp [TL.sel] at hs
noncomputable def Q4 : Ctx := (Q2.add 24 (mkF spjN)).add 55 (mkF spjB)
theorem okQ4 : COKs Tryd.prog gl0 Q4 := (okQ2.add cjN).add cjB
end Go.Sym

namespace Go.Sym
open Go.Proofs Go.Spec
set_option linter.unusedVariables false
noncomputable def Q5 : Ctx := Q4.exe Tryd.prog gl0 [] 3000 Tryd.f92.params.size 92 Tryd.f92
theorem okQ5 : COKs Tryd.prog gl0 Q5 := okQ4.exe [] 3000 _ (by kernel_rfl) (by kernel_rfl) (by kernel_rfl) (fun args w => by kernel_rfl)
end Go.Sym

namespace Go.Sym
open Go.Proofs Go.Spec
set_option linter.unusedVariables false
set_option maxRecDepth 100000 in
theorem vjO (s : Nat → BitVec 8) (g : BitVec 64) (a : Int) (z : Bool) : bodyP Tryd.prog Q5 gl0 [] [] 3000 Tryd.f100 0 [.rb false (rg 64 s) .unk] [] (retQ Tryd.prog Tryd.f100 0 ⟨[], .tup [.agg [.u64 g, .int .i64 a], .bool z], [], []⟩) = (
let x1 := (((((((BitVec.ofNat 64 0 ||| BitVec.setWidth 64 ((List.drop 4 (List.take 12 (rg 64 s))).getD 0 (0 : BitVec 8))) <<< 8 ||| BitVec.setWidth 64 ((List.drop 4 (List.take 12 (rg 64 s))).getD 1 (0 : BitVec 8))) <<< 8 ||| BitVec.setWidth 64 ((List.drop 4 (List.take 12 (rg 64 s))).getD 2 (0 : BitVec 8))) <<< 8 ||| BitVec.setWidth 64 ((List.drop 4 (List.take 12 (rg 64 s))).getD 3 (0 : BitVec 8))) <<< 8 ||| BitVec.setWidth 64 ((List.drop 4 (List.take 12 (rg 64 s))).getD 4 (0 : BitVec 8))) <<< 8 ||| BitVec.setWidth 64 ((List.drop 4 (List.take 12 (rg 64 s))).getD 5 (0 : BitVec 8))) <<< 8 ||| BitVec.setWidth 64 ((List.drop 4 (List.take 12 (rg 64 s))).getD 6 (0 : BitVec 8))) <<< 8 ||| BitVec.setWidth 64 ((List.drop 4 (List.take 12 (rg 64 s))).getD 7 (0 : BitVec 8)); let x2 := (List.drop 4 (List.take 12 (rg 64 s))).length; 12 < (rg 64 s).length ∧ 4 ≤ 12 ∧ 12 ≤ (rg 64 s).length ∧ (0 : Int) ≤ (0 : Int) ∧ 0 < x2 ∧ (0 : Int) ≤ Int.ofNat 1 ∧ 1 < x2 ∧ (0 : Int) ≤ Int.ofNat 2 ∧ 2 < x2 ∧ (0 : Int) ≤ Int.ofNat 3 ∧ 3 < x2 ∧ (0 : Int) ≤ Int.ofNat 4 ∧ 4 < x2 ∧ (0 : Int) ≤ Int.ofNat 5 ∧ 5 < x2 ∧ (0 : Int) ≤ Int.ofNat 6 ∧ 6 < x2 ∧ (0 : Int) ≤ Int.ofNat 7 ∧ 7 < x2 ∧ @Bool.rec (fun _ => Prop) (g = BitVec.ofNat 64 0 ∧ a = (0 : Int) ∧ z = Bool.false ∧ True) (64 = List.length (slB x1 (↑((rg 64 s).getD 12 (0 : BitVec 8)).toNat : Int)) ∧ @Bool.rec (fun _ => Prop) (g = x1 ∧ a = (↑((rg 64 s).getD 12 (0 : BitVec 8)).toNat : Int) ∧ z = Bool.true ∧ True) (g = BitVec.ofNat 64 0 ∧ a = (0 : Int) ∧ z = Bool.false ∧ True) !decide (rg 64 s = slB x1 (↑((rg 64 s).getD 12 (0 : BitVec 8)).toNat : Int))) !decide ((1 : Int) < (↑((rg 64 s).getD 12 (0 : BitVec 8)).toNat : Int)) : Prop) := by kernel_rfl
set_option maxRecDepth 100000 in
theorem vb8 (g : BitVec 64) (B : By) : bodyP Tryd.prog (Ctx.none []) gl0 [] [] 3000 Tryd.f106 0 [.u64 g, .int .i64 8] [] (retQ Tryd.prog Tryd.f106 0 ⟨[], .slice 0 0 1 8 .ow .unk, [], [⟨.bytes B, true, 1⟩]⟩) = (
let x1 := ((((List.replicate 8 (0 : BitVec 8)).set 0 (BitVec.setWidth 8 (g >>> 56))).set 1 (BitVec.setWidth 8 (g >>> 48))).set 2 (BitVec.setWidth 8 (g >>> 40))).set 3 (BitVec.setWidth 8 (g >>> 32)); let x2 := (x1.set 4 (BitVec.setWidth 8 (g >>> 24))).set 5 (BitVec.setWidth 8 (g >>> 16)); (0 : Int) ≤ (8 : Int) ∧ (0 : Int) ≤ (8 : Int) ∧ 8 ≤ 8 ∧ 8 ≤ 281474976710656 ∧ 8 ≤ 9223372036854775807 ∧ (0 : Int) ≤ Int.ofNat 56 ∧ (0 : Int) ≤ (0 : Int) ∧ 0 < 8 ∧ 0 < 8 ∧ (0 : Int) ≤ Int.ofNat 48 ∧ (0 : Int) ≤ Int.ofNat 1 ∧ 1 < 8 ∧ 1 < ((List.replicate 8 (0 : BitVec 8)).set 0 (BitVec.setWidth 8 (g >>> 56))).length ∧ (0 : Int) ≤ Int.ofNat 40 ∧ (0 : Int) ≤ Int.ofNat 2 ∧ 2 < 8 ∧ 2 < (((List.replicate 8 (0 : BitVec 8)).set 0 (BitVec.setWidth 8 (g >>> 56))).set 1 (BitVec.setWidth 8 (g >>> 48))).length ∧ (0 : Int) ≤ Int.ofNat 32 ∧ (0 : Int) ≤ Int.ofNat 3 ∧ 3 < 8 ∧ 3 < ((((List.replicate 8 (0 : BitVec 8)).set 0 (BitVec.setWidth 8 (g >>> 56))).set 1 (BitVec.setWidth 8 (g >>> 48))).set 2 (BitVec.setWidth 8 (g >>> 40))).length ∧ (0 : Int) ≤ Int.ofNat 24 ∧ (0 : Int) ≤ Int.ofNat 4 ∧ 4 < 8 ∧ 4 < x1.length ∧ (0 : Int) ≤ Int.ofNat 16 ∧ (0 : Int) ≤ Int.ofNat 5 ∧ 5 < 8 ∧ 5 < (x1.set 4 (BitVec.setWidth 8 (g >>> 24))).length ∧ (0 : Int) ≤ Int.ofNat 8 ∧ (0 : Int) ≤ Int.ofNat 6 ∧ 6 < 8 ∧ 6 < x2.length ∧ (0 : Int) ≤ Int.ofNat 0 ∧ (0 : Int) ≤ Int.ofNat 7 ∧ 7 < 8 ∧ 7 < (x2.set 6 (BitVec.setWidth 8 (g >>> 8))).length ∧ 0 = 0 ∧ 0 = 0 ∧ 0 = 0 ∧ 8 = 8 ∧ B = (x2.set 6 (BitVec.setWidth 8 (g >>> 8))).set 7 (BitVec.setWidth 8 (g >>> 0)) ∧ True : Prop) := by kernel_rfl
set_option maxRecDepth 100000 in
theorem vb4 (g : BitVec 64) (B : By) : bodyP Tryd.prog (Ctx.none []) gl0 [] [] 3000 Tryd.f106 0 [.u64 g, .int .i64 4] [] (retQ Tryd.prog Tryd.f106 0 ⟨[], .slice 0 0 1 4 .ow .unk, [], [⟨.bytes B, true, 1⟩]⟩) = (
let x1 := ((List.replicate 4 (0 : BitVec 8)).set 0 (BitVec.setWidth 8 (g >>> 24))).set 1 (BitVec.setWidth 8 (g >>> 16)); (0 : Int) ≤ (4 : Int) ∧ (0 : Int) ≤ (4 : Int) ∧ 4 ≤ 4 ∧ 4 ≤ 281474976710656 ∧ 4 ≤ 9223372036854775807 ∧ (0 : Int) ≤ Int.ofNat 24 ∧ (0 : Int) ≤ (0 : Int) ∧ 0 < 4 ∧ 0 < 4 ∧ (0 : Int) ≤ Int.ofNat 16 ∧ (0 : Int) ≤ Int.ofNat 1 ∧ 1 < 4 ∧ 1 < ((List.replicate 4 (0 : BitVec 8)).set 0 (BitVec.setWidth 8 (g >>> 24))).length ∧ (0 : Int) ≤ Int.ofNat 8 ∧ (0 : Int) ≤ Int.ofNat 2 ∧ 2 < 4 ∧ 2 < x1.length ∧ (0 : Int) ≤ Int.ofNat 0 ∧ (0 : Int) ≤ Int.ofNat 3 ∧ 3 < 4 ∧ 3 < (x1.set 2 (BitVec.setWidth 8 (g >>> 8))).length ∧ 0 = 0 ∧ 0 = 0 ∧ 0 = 0 ∧ 4 = 4 ∧ B = (x1.set 2 (BitVec.setWidth 8 (g >>> 8))).set 3 (BitVec.setWidth 8 (g >>> 0)) ∧ True : Prop) := by kernel_rfl
set_option maxRecDepth 100000 in
theorem vb2 (g : BitVec 64) (B : By) : bodyP Tryd.prog (Ctx.none []) gl0 [] [] 3000 Tryd.f106 0 [.u64 g, .int .i64 2] [] (retQ Tryd.prog Tryd.f106 0 ⟨[], .slice 0 0 1 2 .ow .unk, [], [⟨.bytes B, true, 1⟩]⟩) = (
(0 : Int) ≤ (2 : Int) ∧ (0 : Int) ≤ (2 : Int) ∧ 2 ≤ 2 ∧ 2 ≤ 281474976710656 ∧ 2 ≤ 9223372036854775807 ∧ (0 : Int) ≤ Int.ofNat 8 ∧ (0 : Int) ≤ (0 : Int) ∧ 0 < 2 ∧ 0 < 2 ∧ (0 : Int) ≤ Int.ofNat 0 ∧ (0 : Int) ≤ Int.ofNat 1 ∧ 1 < 2 ∧ 1 < ((List.replicate 2 (0 : BitVec 8)).set 0 (BitVec.setWidth 8 (g >>> 8))).length ∧ 0 = 0 ∧ 0 = 0 ∧ 0 = 0 ∧ 2 = 2 ∧ B = ((List.replicate 2 (0 : BitVec 8)).set 0 (BitVec.setWidth 8 (g >>> 8))).set 1 (BitVec.setWidth 8 (g >>> 0)) ∧ True : Prop) := by kernel_rfl
end Go.Sym

namespace Go.Spec
def genS (b : By) : BitVec 64 :=
  (((((((BitVec.ofNat 64 0 ||| BitVec.setWidth 64 (b.getD 4 0)) <<< 8 ||| BitVec.setWidth 64 (b.getD 5 0)) <<< 8 ||| BitVec.setWidth 64 (b.getD 6 0)) <<< 8 ||| BitVec.setWidth 64 (b.getD 7 0)) <<< 8 ||| BitVec.setWidth 64 (b.getD 8 0)) <<< 8 ||| BitVec.setWidth 64 (b.getD 9 0)) <<< 8 ||| BitVec.setWidth 64 (b.getD 10 0)) <<< 8 ||| BitVec.setWidth 64 (b.getD 11 0)
def areS (b : By) : Int := ((b.getD 12 0).toNat : Int)
/-- Whether a sector is a right slot. -/
noncomputable def okS (b : By) : Bool := decide (areS b ≤ 1 ∧ b = slB (genS b) (areS b))
theorem step8 (g : BitVec 64) (n : Nat) : (g >>> (n + 8)) <<< 8 ||| BitVec.setWidth 64 (BitVec.setWidth 8 (g >>> n)) = g >>> n := by
  apply BitVec.eq_of_getLsbD_eq
  intro i hi
  simp only [BitVec.getLsbD_or, BitVec.getLsbD_shiftLeft, BitVec.getLsbD_setWidth, BitVec.getLsbD_ushiftRight, decide_eq_true hi, Bool.true_and]
  by_cases c : i < 8
  · simp [c]
  · have e : n + 8 + (i - 8) = n + i := by omega
    simp [c, e]
theorem base8 (g : BitVec 64) : BitVec.ofNat 64 0 ||| BitVec.setWidth 64 (BitVec.setWidth 8 (g >>> 56)) = g >>> 56 := by
  apply BitVec.eq_of_getLsbD_eq
  intro i hi
  simp only [BitVec.getLsbD_or, BitVec.getLsbD_setWidth, BitVec.getLsbD_ushiftRight, decide_eq_true hi, Bool.true_and]
  by_cases c : i < 8
  · simp [c]
  · simp only [c, decide_false, Bool.false_and, Bool.or_false]
    rw [show (BitVec.ofNat 64 0).getLsbD i = false by simp]
    rw [BitVec.getLsbD_of_ge _ _ (by omega)]
theorem genS_slB (g : BitVec 64) (a : Int) : genS (slB g a) = g := by
  have e : genS (slB g a) = (((((((BitVec.ofNat 64 0 ||| BitVec.setWidth 64 (BitVec.setWidth 8 (g >>> 56))) <<< 8 ||| BitVec.setWidth 64 (BitVec.setWidth 8 (g >>> 48))) <<< 8 ||| BitVec.setWidth 64 (BitVec.setWidth 8 (g >>> 40))) <<< 8 ||| BitVec.setWidth 64 (BitVec.setWidth 8 (g >>> 32))) <<< 8 ||| BitVec.setWidth 64 (BitVec.setWidth 8 (g >>> 24))) <<< 8 ||| BitVec.setWidth 64 (BitVec.setWidth 8 (g >>> 16))) <<< 8 ||| BitVec.setWidth 64 (BitVec.setWidth 8 (g >>> 8))) <<< 8 ||| BitVec.setWidth 64 (BitVec.setWidth 8 (g >>> 0)) := by kernel_rfl
  rw [e, base8, step8 g 48, step8 g 40, step8 g 32, step8 g 24, step8 g 16, step8 g 8, step8 g 0]
  simp
theorem areS_slB (g : BitVec 64) {a : Int} (h : a = 0 ∨ a = 1) : areS (slB g a) = a := by
  rcases h with rfl | rfl <;> kernel_rfl
theorem okS_slB (g : BitVec 64) {a : Int} (h : a = 0 ∨ a = 1) : okS (slB g a) = true := by
  unfold okS
  rw [areS_slB g h, genS_slB]
  exact decide_eq_true ⟨by omega, rfl⟩
theorem slB_hd (g : BitVec 64) (a : Int) : (slB g a).getD 0 0 = 82 := by kernel_rfl
theorem okS_zero {b : By} (h : b.getD 0 0 = 0) : okS b = false := by
  unfold okS
  refine decide_eq_false fun c => ?_
  have := slB_hd (genS b) (areS b)
  rw [← c.2, h] at this
  exact absurd this (by decide)
theorem rg_of {b : By} {n : Nat} (h : b.length = n) : ∃ s : Nat → BitVec 8, b = rg n s := ⟨fun i => b.getD i 0, (rg_self 0 h).symm⟩
end Go.Spec
namespace Go.Sym
open Go.Proofs Go.Spec
set_option linter.unusedVariables false
set_option maxRecDepth 100000 in
theorem bjO (b : By) (hb : b.length = 64) : Must (bodyP Tryd.prog Q5 gl0 [] [] 3000 Tryd.f100 0 [.rb false b .unk] [] (retQ Tryd.prog Tryd.f100 0 ⟨[], .tup [.agg [.u64 (if okS b then genS b else 0), .int .i64 (if okS b then areS b else 0)], .bool (okS b)], [], []⟩)) := by
  obtain ⟨s, rfl⟩ := rg_of hb
  constructor
  rw [vjO]
  intro x1 x2
  have h1 : x1 = genS (rg 64 s) := by kernel_rfl
  have h2 : x2 = 8 := by kernel_rfl
  have ha : (↑((rg 64 s).getD 12 (0 : BitVec 8)).toNat : Int) = areS (rg 64 s) := rfl
  have hl : (rg 64 s).length = 64 := rg_length _ _
  have ha0 : 0 ≤ areS (rg 64 s) := Int.natCast_nonneg _
  rw [ha, h1, hl]
  clear_value x1 x2
  have hd : ∀ z : Bool, (decide (areS (rg 64 s) ≤ 1) = z ∧ True) → True := fun _ _ => trivial
  have fl : okS (rg 64 s) = false → (if okS (rg 64 s) = true then genS (rg 64 s) else 0) = BitVec.ofNat 64 0 ∧ (if okS (rg 64 s) = true then areS (rg 64 s) else 0) = (0 : Int) ∧ okS (rg 64 s) = false ∧ True := fun h => by
    rw [h]; exact ⟨rfl, rfl, rfl, trivial⟩
  have n0 : ∀ k : Nat, (0 : Int) ≤ Int.ofNat k := fun k => Int.natCast_nonneg k
  refine ⟨by omega, by omega, by omega, by omega, by omega, n0 _, by omega, n0 _, by omega, n0 _, by omega, n0 _, by omega, n0 _, by omega, n0 _, by omega, n0 _, by omega, ?_⟩
  refine brec (fun c => ?_) (fun c => ?_)
  · have c := ntr c
    rw [slB_len]
    refine ⟨rfl, brec (fun d => ?_) (fun d => ?_)⟩
    · refine fl ?_
      unfold okS
      exact decide_eq_false fun k => ntr d k.2
    · have : okS (rg 64 s) = true := by
        unfold okS
        exact decide_eq_true ⟨by omega, nfl d⟩
      rw [this]
      exact ⟨rfl, rfl, rfl, trivial⟩
  · have c := nfl c
    refine fl ?_
    unfold okS
    exact decide_eq_false fun k => by omega
noncomputable def gjO (xs : List AV) (bs : List ABlk) : TL := match xs, bs with
  | [.rb false b .unk], [] => .ok ⟨[b.length = 64], .tup [.agg [.u64 (if okS b then genS b else 0), .int .i64 (if okS b then areS b else 0)], .bool (okS b)], [], []⟩
  | _, _ => .no
noncomputable def spjO : Spec := ⟨[.by0], fun _ _ => [], fun _ _ => [], gjO⟩
theorem cjO : COK Tryd.prog gl0 100 (mkF spjO) := by
  refine ctrE (fn := Tryd.f100) [] 3000 (by kernel_rfl) (by kernel_rfl) okQ5 (by kernel_rfl) (fun args w => by kernel_rfl) fun xs bs r hs ho => ?_
  replace hs : (gjO xs bs).sel = some r := hs
  unfold gjO at hs
  split at hs
  · simp only [TL.sel, Option.some.injEq] at hs
    subst hs
    exact ⟨_, bjO _ (obsT_one.1 ho)⟩
  · simp [TL.sel] at hs
end Go.Sym

set_option linter.unusedSimpArgs false
namespace Go.Sym
open Go.Proofs Go.Spec
set_option linter.unusedVariables false
theorem bb8 (g : BitVec 64) : Must (bodyP Tryd.prog (Ctx.none []) gl0 [] [] 3000 Tryd.f106 0 [.u64 g, .int .i64 8] [] (retQ Tryd.prog Tryd.f106 0 ⟨[], .slice 0 0 1 8 .ow .unk, [], [⟨.bytes (beB g 8), true, 1⟩]⟩)) := by
  constructor
  rw [vb8]
  and_intros <;> first | rfl | decide | (simp only [List.length_set, List.length_replicate]; decide) | trivial
theorem bb4 (g : BitVec 64) : Must (bodyP Tryd.prog (Ctx.none []) gl0 [] [] 3000 Tryd.f106 0 [.u64 g, .int .i64 4] [] (retQ Tryd.prog Tryd.f106 0 ⟨[], .slice 0 0 1 4 .ow .unk, [], [⟨.bytes (beB g 4), true, 1⟩]⟩)) := by
  constructor
  rw [vb4]
  and_intros <;> first | rfl | decide | (simp only [List.length_set, List.length_replicate]; decide) | trivial
theorem bb2 (g : BitVec 64) : Must (bodyP Tryd.prog (Ctx.none []) gl0 [] [] 3000 Tryd.f106 0 [.u64 g, .int .i64 2] [] (retQ Tryd.prog Tryd.f106 0 ⟨[], .slice 0 0 1 2 .ow .unk, [], [⟨.bytes (beB g 2), true, 1⟩]⟩)) := by
  constructor
  rw [vb2]
  and_intros <;> first | rfl | decide | (simp only [List.length_set, List.length_replicate]; decide) | trivial
def gb8 (xs : List AV) (bs : List ABlk) : TL := match xs, bs with
  | [.u64 g, .int .i64 (.ofNat 8)], [] => .ok ⟨[], .slice 0 0 1 8 .ow .unk, [], [⟨.bytes (beB g 8), true, 1⟩]⟩
  | [.u64 g, .int .i64 (.ofNat 4)], [] => .ok ⟨[], .slice 0 0 1 4 .ow .unk, [], [⟨.bytes (beB g 4), true, 1⟩]⟩
  | [.u64 g, .int .i64 (.ofNat 2)], [] => .ok ⟨[], .slice 0 0 1 2 .ow .unk, [], [⟨.bytes (beB g 2), true, 1⟩]⟩
  | _, _ => .no
def spb8 : Spec := ⟨[.kp, .kp], fun _ _ => [], fun _ _ => [], gb8⟩
theorem cb8 : COK Tryd.prog gl0 106 (mkF spb8) := by
  refine ctrE (fn := Tryd.f106) [] 3000 (by kernel_rfl) (by kernel_rfl) (COKs.none (keep := [])) (by kernel_rfl) (fun args w => by kernel_rfl) fun xs bs r hs ho => ?_
  replace hs : (gb8 xs bs).sel = some r := hs
  unfold gb8 at hs
  split at hs
  · simp only [TL.sel, Option.some.injEq] at hs
    subst hs
    exact ⟨_, bb8 _⟩
  · simp only [TL.sel, Option.some.injEq] at hs
    subst hs
    exact ⟨_, bb4 _⟩
  · simp only [TL.sel, Option.some.injEq] at hs
    subst hs
    exact ⟨_, bb2 _⟩
  · simp [TL.sel] at hs
noncomputable def Q6 : Ctx := (Q2.add 106 (mkF spb8)).add 24 (mkF spjN)
theorem okQ6 : COKs Tryd.prog gl0 Q6 := (okQ2.add cb8).add cjN
end Go.Sym

namespace Go.Sym
open Go.Proofs Go.Spec
set_option linter.unusedVariables false
set_option maxRecDepth 100000 in
theorem vjE (g : BitVec 64) (a p : Int) (b B : By) (m : Nat) : bodyP Tryd.prog Q6 gl0 [] [] 3000 Tryd.f61 0 [.agg [.u64 g, .int .i64 a], .int .i64 p, .rb false b .unk] [] (retQ Tryd.prog Tryd.f61 0 ⟨[], .slice 0 0 1 m .ow .unk, [], [⟨.bytes B, true, 1⟩]⟩) = (
let x1 := List.take 0 (List.replicate (IntKind.i64.wrap (IntKind.i64.wrap (Int.ofNat 14 + (↑(List.length b) : Int)) - Int.ofNat 0)).toNat (0 : BitVec 8)) ++ beB g 8 ++ beB (BitVec.ofInt 64 p) 4 ++ beB (BitVec.ofInt 64 (↑(List.length b) : Int)) 2 ++ b; let x2 := beB (BitVec.ofInt 64 (↑(List.length b) : Int)) 2; let x3 := IntKind.i64.wrap ((↑(needN (↑(List.length b) : Int).toNat) : Int) * (64 : Int)); let x4 := rg 16 (shaB (beB g 8 ++ beB (BitVec.ofInt 64 p) 4 ++ x2 ++ b)); let x5 := IntKind.i64.wrap (IntKind.i64.wrap (Int.ofNat 18 + (↑(List.length b) : Int)) - Int.ofNat 0); let x6 := IntKind.i64.wrap (IntKind.i64.wrap (Int.ofNat 14 + (↑(List.length b) : Int)) - Int.ofNat 0); let x7 := List.length (beB (BitVec.ofInt 64 p) 4); let x8 := List.take 0 (List.replicate x5.toNat (0 : BitVec 8)); @Bool.rec (fun _ => Prop) (@Bool.rec (fun _ => Prop) (@Bool.rec (fun _ => Prop) ((0 : Int) ≤ (0 : Int) ∧ 0 < 4 ∧ (0 : Int) ≤ Int.ofNat 1 ∧ 1 < 4 ∧ (0 : Int) ≤ Int.ofNat 2 ∧ 2 < 4 ∧ (0 : Int) ≤ Int.ofNat 3 ∧ 3 < 4 ∧ (0 : Int) ≤ (0 : Int) ∧ 0 < 4 ∧ 8 = List.length (beB g 8) ∧ roomFor 0 (List.length (beB g 8)) 1 ∧ (0 : Int) ≤ Int.ofNat 1 ∧ 1 < 4 ∧ 4 = x7 ∧ List.length (beB g 8) = List.length (beB g 8) ∧ roomFor (List.length (beB g 8)) x7 1 ∧ (0 : Int) ≤ Int.ofNat 2 ∧ 2 < 4 ∧ 2 = List.length x2 ∧ List.length (beB g 8) + x7 = (beB g 8 ++ beB (BitVec.ofInt 64 p) 4).length ∧ roomFor (List.length (beB g 8) + x7) (List.length x2) 1 ∧ (0 : Int) ≤ Int.ofNat 3 ∧ 3 < 4 ∧ List.length (beB g 8) + x7 + List.length x2 = (beB g 8 ++ beB (BitVec.ofInt 64 p) 4 ++ x2).length ∧ roomFor (List.length (beB g 8) + x7 + List.length x2) (List.length b) 1 ∧ List.length (beB g 8) + x7 + List.length x2 + List.length b = (beB g 8 ++ beB (BitVec.ofInt 64 p) 4 ++ x2 ++ b).length ∧ (beB g 8 ++ beB (BitVec.ofInt 64 p) 4 ++ x2 ++ b).length < 4611686018427387904 ∧ (0 : Int) ≤ (↑(List.length b) : Int) ∧ (↑(List.length b) : Int) < (1099511627776 : Int) ∧ (0 : Int) ≤ x3 ∧ (0 : Int) ≤ x3 ∧ x3.toNat ≤ x3.toNat ∧ 1 * x3.toNat ≤ 281474976710656 ∧ x3.toNat ≤ 9223372036854775807 ∧ 16 ≤ 32 ∧ @Bool.rec (fun _ => Prop) (@Bool.rec (fun _ => Prop) (@Bool.rec (fun _ => Prop) ((0 : Int) ≤ (0 : Int) ∧ 0 < 3 ∧ (0 : Int) ≤ Int.ofNat 1 ∧ 1 < 3 ∧ (0 : Int) ≤ Int.ofNat 2 ∧ 2 < 3 ∧ (0 : Int) ≤ (0 : Int) ∧ 0 < 3 ∧ roomFor 0 x4.length 1 ∧ (0 : Int) ≤ Int.ofNat 1 ∧ 1 < 3 ∧ 2 = List.length x2 ∧ x4.length = x4.length ∧ roomFor x4.length (List.length x2) 1 ∧ (0 : Int) ≤ Int.ofNat 2 ∧ 2 < 3 ∧ x4.length + List.length x2 = (x4 ++ x2).length ∧ roomFor (x4.length + List.length x2) (List.length b) 1 ∧ x4.length + List.length x2 + List.length b = (x4 ++ x2 ++ b).length ∧ 0 + x3.toNat ≤ (List.replicate x3.toNat (0 : BitVec 8)).length ∧ 0 = 0 ∧ 0 = 0 ∧ 0 = 0 ∧ m = x3.toNat ∧ B = List.take 0 (List.replicate x3.toNat (0 : BitVec 8)) ++ (List.take x3.toNat (x4 ++ x2 ++ b) ++ List.drop (0 + Min.min (x4 ++ x2 ++ b).length x3.toNat) (List.replicate x3.toNat (0 : BitVec 8))) ∧ True) ((0 : Int) ≤ (0 : Int) ∧ 0 < 3 ∧ (0 : Int) ≤ Int.ofNat 1 ∧ 1 < 3 ∧ (0 : Int) ≤ Int.ofNat 2 ∧ 2 < 3 ∧ (0 : Int) ≤ (0 : Int) ∧ 0 ≤ 0 ∧ (0 : Int) ≤ x5 ∧ x5 < (9223372036854775808 : Int) ∧ roomFor 0 (List.replicate x5.toNat (0 : BitVec 8)).length 1 ∧ (0 : Int) ≤ (0 : Int) ∧ 0 ≤ (List.replicate x5.toNat (0 : BitVec 8)).length ∧ (0 : Int) ≤ (0 : Int) ∧ 0 < 3 ∧ 0 ≤ (List.replicate x5.toNat (0 : BitVec 8)).length ∧ 0 = x8.length ∧ roomFor 0 x4.length 1 ∧ (0 : Int) ≤ Int.ofNat 1 ∧ 1 < 3 ∧ 2 = List.length x2 ∧ 0 + x4.length = (x8 ++ x4).length ∧ roomFor (0 + x4.length) (List.length x2) 1 ∧ (0 : Int) ≤ Int.ofNat 2 ∧ 2 < 3 ∧ 0 + x4.length + List.length x2 = (x8 ++ x4 ++ x2).length ∧ roomFor (0 + x4.length + List.length x2) (List.length b) 1 ∧ 0 + x4.length + List.length x2 + List.length b = (x8 ++ x4 ++ x2 ++ b).length ∧ 0 + x3.toNat ≤ (List.replicate x3.toNat (0 : BitVec 8)).length ∧ 0 = 0 ∧ 0 = 0 ∧ 0 = 0 ∧ m = x3.toNat ∧ B = List.take 0 (List.replicate x3.toNat (0 : BitVec 8)) ++ (List.take x3.toNat (x8 ++ x4 ++ x2 ++ b) ++ List.drop (0 + Min.min (x8 ++ x4 ++ x2 ++ b).length x3.toNat) (List.replicate x3.toNat (0 : BitVec 8))) ∧ True) (decide ((0 : Int) < x5))) False (decide (IntKind.i64.wrap (Int.ofNat 18 + (↑(List.length b) : Int)) < (0 : Int)))) False (decide (IntKind.i64.wrap (Int.ofNat 18 + (↑(List.length b) : Int)) < (0 : Int)))) ((0 : Int) ≤ (0 : Int) ∧ 0 < 4 ∧ (0 : Int) ≤ Int.ofNat 1 ∧ 1 < 4 ∧ (0 : Int) ≤ Int.ofNat 2 ∧ 2 < 4 ∧ (0 : Int) ≤ Int.ofNat 3 ∧ 3 < 4 ∧ (0 : Int) ≤ (0 : Int) ∧ 0 ≤ 0 ∧ (0 : Int) ≤ x6 ∧ x6 < (9223372036854775808 : Int) ∧ roomFor 0 (List.replicate x6.toNat (0 : BitVec 8)).length 1 ∧ (0 : Int) ≤ (0 : Int) ∧ 0 ≤ (List.replicate x6.toNat (0 : BitVec 8)).length ∧ (0 : Int) ≤ (0 : Int) ∧ 0 < 4 ∧ 0 ≤ (List.replicate x6.toNat (0 : BitVec 8)).length ∧ 8 = List.length (beB g 8) ∧ 0 = (List.take 0 (List.replicate x6.toNat (0 : BitVec 8))).length ∧ roomFor 0 (List.length (beB g 8)) 1 ∧ (0 : Int) ≤ Int.ofNat 1 ∧ 1 < 4 ∧ 4 = x7 ∧ 0 + List.length (beB g 8) = (List.take 0 (List.replicate x6.toNat (0 : BitVec 8)) ++ beB g 8).length ∧ roomFor (0 + List.length (beB g 8)) x7 1 ∧ (0 : Int) ≤ Int.ofNat 2 ∧ 2 < 4 ∧ 2 = List.length x2 ∧ 0 + List.length (beB g 8) + x7 = (List.take 0 (List.replicate x6.toNat (0 : BitVec 8)) ++ beB g 8 ++ beB (BitVec.ofInt 64 p) 4).length ∧ roomFor (0 + List.length (beB g 8) + x7) (List.length x2) 1 ∧ (0 : Int) ≤ Int.ofNat 3 ∧ 3 < 4 ∧ 0 + List.length (beB g 8) + x7 + List.length x2 = (List.take 0 (List.replicate x6.toNat (0 : BitVec 8)) ++ beB g 8 ++ beB (BitVec.ofInt 64 p) 4 ++ x2).length ∧ roomFor (0 + List.length (beB g 8) + x7 + List.length x2) (List.length b) 1 ∧ 0 + List.length (beB g 8) + x7 + List.length x2 + List.length b = x1.length ∧ x1.length < 4611686018427387904 ∧ (0 : Int) ≤ (↑(List.length b) : Int) ∧ (↑(List.length b) : Int) < (1099511627776 : Int) ∧ (0 : Int) ≤ x3 ∧ (0 : Int) ≤ x3 ∧ x3.toNat ≤ x3.toNat ∧ 1 * x3.toNat ≤ 281474976710656 ∧ x3.toNat ≤ 9223372036854775807 ∧ 16 ≤ 32 ∧ @Bool.rec (fun _ => Prop) (@Bool.rec (fun _ => Prop) (@Bool.rec (fun _ => Prop) ((0 : Int) ≤ (0 : Int) ∧ 0 < 3 ∧ (0 : Int) ≤ Int.ofNat 1 ∧ 1 < 3 ∧ (0 : Int) ≤ Int.ofNat 2 ∧ 2 < 3 ∧ (0 : Int) ≤ (0 : Int) ∧ 0 < 3 ∧ roomFor 0 (rg 16 (shaB x1)).length 1 ∧ (0 : Int) ≤ Int.ofNat 1 ∧ 1 < 3 ∧ 2 = List.length x2 ∧ (rg 16 (shaB x1)).length = (rg 16 (shaB x1)).length ∧ roomFor (rg 16 (shaB x1)).length (List.length x2) 1 ∧ (0 : Int) ≤ Int.ofNat 2 ∧ 2 < 3 ∧ (rg 16 (shaB x1)).length + List.length x2 = (rg 16 (shaB x1) ++ x2).length ∧ roomFor ((rg 16 (shaB x1)).length + List.length x2) (List.length b) 1 ∧ (rg 16 (shaB x1)).length + List.length x2 + List.length b = (rg 16 (shaB x1) ++ x2 ++ b).length ∧ 0 + x3.toNat ≤ (List.replicate x3.toNat (0 : BitVec 8)).length ∧ 0 = 0 ∧ 0 = 0 ∧ 0 = 0 ∧ m = x3.toNat ∧ B = List.take 0 (List.replicate x3.toNat (0 : BitVec 8)) ++ (List.take x3.toNat (rg 16 (shaB x1) ++ x2 ++ b) ++ List.drop (0 + Min.min (rg 16 (shaB x1) ++ x2 ++ b).length x3.toNat) (List.replicate x3.toNat (0 : BitVec 8))) ∧ True) ((0 : Int) ≤ (0 : Int) ∧ 0 < 3 ∧ (0 : Int) ≤ Int.ofNat 1 ∧ 1 < 3 ∧ (0 : Int) ≤ Int.ofNat 2 ∧ 2 < 3 ∧ (0 : Int) ≤ (0 : Int) ∧ 0 ≤ 0 ∧ (0 : Int) ≤ x5 ∧ x5 < (9223372036854775808 : Int) ∧ roomFor 0 (List.replicate x5.toNat (0 : BitVec 8)).length 1 ∧ (0 : Int) ≤ (0 : Int) ∧ 0 ≤ (List.replicate x5.toNat (0 : BitVec 8)).length ∧ (0 : Int) ≤ (0 : Int) ∧ 0 < 3 ∧ 0 ≤ (List.replicate x5.toNat (0 : BitVec 8)).length ∧ 0 = x8.length ∧ roomFor 0 (rg 16 (shaB x1)).length 1 ∧ (0 : Int) ≤ Int.ofNat 1 ∧ 1 < 3 ∧ 2 = List.length x2 ∧ 0 + (rg 16 (shaB x1)).length = (x8 ++ rg 16 (shaB x1)).length ∧ roomFor (0 + (rg 16 (shaB x1)).length) (List.length x2) 1 ∧ (0 : Int) ≤ Int.ofNat 2 ∧ 2 < 3 ∧ 0 + (rg 16 (shaB x1)).length + List.length x2 = (x8 ++ rg 16 (shaB x1) ++ x2).length ∧ roomFor (0 + (rg 16 (shaB x1)).length + List.length x2) (List.length b) 1 ∧ 0 + (rg 16 (shaB x1)).length + List.length x2 + List.length b = (x8 ++ rg 16 (shaB x1) ++ x2 ++ b).length ∧ 0 + x3.toNat ≤ (List.replicate x3.toNat (0 : BitVec 8)).length ∧ 0 = 0 ∧ 0 = 0 ∧ 0 = 0 ∧ m = x3.toNat ∧ B = List.take 0 (List.replicate x3.toNat (0 : BitVec 8)) ++ (List.take x3.toNat (x8 ++ rg 16 (shaB x1) ++ x2 ++ b) ++ List.drop (0 + Min.min (x8 ++ rg 16 (shaB x1) ++ x2 ++ b).length x3.toNat) (List.replicate x3.toNat (0 : BitVec 8))) ∧ True) (decide ((0 : Int) < x5))) False (decide (IntKind.i64.wrap (Int.ofNat 18 + (↑(List.length b) : Int)) < (0 : Int)))) False (decide (IntKind.i64.wrap (Int.ofNat 18 + (↑(List.length b) : Int)) < (0 : Int)))) (decide ((0 : Int) < x6))) False (decide (IntKind.i64.wrap (Int.ofNat 14 + (↑(List.length b) : Int)) < (0 : Int)))) False (decide (IntKind.i64.wrap (Int.ofNat 14 + (↑(List.length b) : Int)) < (0 : Int))) : Prop) := by kernel_rfl
end Go.Sym

set_option linter.unusedSimpArgs false
namespace Go.Spec
/-- What an entry's sum is of; an entry's sectors. -/
def enM (g : BitVec 64) (p : Int) (b : By) : By := beB g 8 ++ beB (BitVec.ofInt 64 p) 4 ++ beB (BitVec.ofInt 64 (b.length : Int)) 2 ++ b
noncomputable def enH (g : BitVec 64) (p : Int) (b : By) : By := rg 16 (shaB (enM g p b)) ++ beB (BitVec.ofInt 64 (b.length : Int)) 2 ++ b
noncomputable def enB (g : BitVec 64) (p : Int) (b : By) : By := enH g p b ++ List.replicate (needN b.length * 64 - (b.length + 18)) 0
theorem enH_len (g : BitVec 64) (p : Int) (b : By) : (enH g p b).length = b.length + 18 := by
  unfold enH
  rw [List.length_append, List.length_append, rg_length]
  show 16 + 2 + b.length = _
  omega
theorem needN_ge (n : Nat) : n + 18 ≤ needN n * 64 := by unfold needN; omega
theorem enB_len (g : BitVec 64) (p : Int) (b : By) : (enB g p b).length = needN b.length * 64 := by
  unfold enB
  rw [List.length_append, enH_len, List.length_replicate]
  have := needN_ge b.length
  omega
end Go.Spec
namespace Go.Sym
open Go.Proofs Go.Spec
set_option linter.unusedVariables false
theorem enM_len (g : BitVec 64) (p : Int) (b : By) : (enM g p b).length = b.length + 14 := by
  unfold enM
  rw [List.length_append, List.length_append, List.length_append]
  show 8 + 4 + 2 + b.length = _
  omega
set_option maxRecDepth 100000 in
theorem bjE (g : BitVec 64) (a p : Int) (b : By) (hb : b.length < 1099511627776) : Must (bodyP Tryd.prog Q6 gl0 [] [] 3000 Tryd.f61 0 [.agg [.u64 g, .int .i64 a], .int .i64 p, .rb false b .unk] [] (retQ Tryd.prog Tryd.f61 0 ⟨[], .slice 0 0 1 (needN b.length * 64) .ow .unk, [], [⟨.bytes (enB g p b), true, 1⟩]⟩)) := by
  constructor
  rw [vjE]
  intro x1 x2 x3 x4 x5 x6 x7 x8
  have n0 : ∀ k : Nat, (0 : Int) ≤ Int.ofNat k := fun k => Int.natCast_nonneg k
  have h8 : (beB g 8).length = 8 := rfl
  have h7 : x7 = 4 := rfl
  have h4p : (beB (BitVec.ofInt 64 p) 4).length = 4 := rfl
  have h2 : x2.length = 2 := rfl
  have h4 : x4.length = 16 := rg_length _ _
  have hnd := needN_ge b.length
  have hnu : needN b.length * 64 ≤ b.length + 81 := by unfold needN; omega
  have e14 : IntKind.i64.wrap (Int.ofNat 14 + (b.length : Int)) = (b.length : Int) + 14 := by
    have o : Int.ofNat 14 = 14 := rfl
    rw [o, wrap_i64 (by omega) (by omega)]; omega
  have e18 : IntKind.i64.wrap (Int.ofNat 18 + (b.length : Int)) = (b.length : Int) + 18 := by
    have o : Int.ofNat 18 = 18 := rfl
    rw [o, wrap_i64 (by omega) (by omega)]; omega
  have h5 : x5 = (b.length : Int) + 18 := by
    show IntKind.i64.wrap (IntKind.i64.wrap (Int.ofNat 18 + (b.length : Int)) - Int.ofNat 0) = _
    have o : Int.ofNat 0 = 0 := rfl
    rw [e18, o, wrap_i64 (by omega) (by omega)]; omega
  have h6 : x6 = (b.length : Int) + 14 := by
    show IntKind.i64.wrap (IntKind.i64.wrap (Int.ofNat 14 + (b.length : Int)) - Int.ofNat 0) = _
    have o : Int.ofNat 0 = 0 := rfl
    rw [e14, o, wrap_i64 (by omega) (by omega)]; omega
  have h3 : x3 = ((needN b.length * 64 : Nat) : Int) := by
    show IntKind.i64.wrap ((needN (b.length : Int).toNat : Int) * 64) = _
    rw [Int.toNat_natCast, wrap_nat (needN b.length * 64) (by omega) (by omega)]
  have e3 : x3.toNat = needN b.length * 64 := by omega
  have hX4 : x4 = rg 16 (shaB (enM g p b)) ∨ True := .inr trivial
  have hB : ∀ y1 : By, y1 = enH g p b → enB g p b = List.take 0 (List.replicate x3.toNat (0 : BitVec 8)) ++ (List.take x3.toNat y1 ++ List.drop (0 + min y1.length x3.toNat) (List.replicate x3.toNat 0)) := by
    rintro y1 rfl
    have hl := enH_len g p b
    rw [List.take_zero, List.nil_append, List.take_of_length_le (by omega), List.drop_replicate]
    unfold enB
    congr 2
    omega
  rw [e14, e18]
  have d14 : decide ((b.length : Int) + 14 < 0) = false := decide_eq_false (by omega)
  have d18 : decide ((b.length : Int) + 18 < 0) = false := decide_eq_false (by omega)
  have d6 : decide (0 < x6) = true := decide_eq_true (by omega)
  have d5 : decide (0 < x5) = true := decide_eq_true (by omega)
  rw [d14, d18, d6, d5]
  set_option simprocs false in dsimp only
  have hx1 : x1 = enM g p b := rfl
  have hx8 : x8 = [] := rfl
  have hy : x8 ++ rg 16 (shaB x1) ++ x2 ++ b = enH g p b := rfl
  have hl16 : (rg 16 (shaB x1)).length = 16 := rg_length _ _
  have hM := enM_len g p b
  have hx1l : x1.length = b.length + 14 := hM
  have hyl := enH_len g p b
  have hl1 : (x8 ++ rg 16 (shaB x1)).length = 16 := hl16
  have hl2 : (x8 ++ rg 16 (shaB x1) ++ x2).length = 18 := by rw [List.length_append, hl1, h2]
  have hB2 := hB _ hy
  clear_value x1 x2 x3 x4 x5 x6 x7 x8
  and_intros
  all_goals first | omega | exact n0 _ | (unfold roomFor; omega) | trivial | rfl | (rw [List.length_replicate]; omega) | (unfold roomFor; rw [List.length_replicate]; omega) | (rw [hx8]; rfl) | (rw [hy]; omega) | (simp only [List.take_zero, List.nil_append, List.length_append]; omega)
noncomputable def gjE (xs : List AV) (bs : List ABlk) : TL := match xs, bs with
  | [.agg [.u64 g, .int .i64 _], .int .i64 p, .rb false b .unk], [] => .ok ⟨[b.length < 1099511627776], .slice 0 0 1 (needN b.length * 64) .ow .unk, [], [⟨.bytes (enB g p b), true, 1⟩]⟩
  | _, _ => .no
noncomputable def spjE : Spec := ⟨[.kp, .kp, .by0], fun _ _ => [], fun _ _ => [], gjE⟩
theorem cjE : COK Tryd.prog gl0 61 (mkF spjE) := by
  refine ctrE (fn := Tryd.f61) [] 3000 (by kernel_rfl) (by kernel_rfl) okQ6 (by kernel_rfl) (fun args w => by kernel_rfl) fun xs bs r hs ho => ?_
  replace hs : (gjE xs bs).sel = some r := hs
  unfold gjE at hs
  split at hs
  · simp only [TL.sel, Option.some.injEq] at hs
    subst hs
    exact ⟨_, bjE _ _ _ _ (obsT_one.1 ho)⟩
  · simp [TL.sel] at hs
end Go.Sym
