/- An empty journal; one entry more. -/
import Derived.Test.YtmpgpbbaloiniaaDoorJouD
namespace Go.Sym
open Go.Proofs Go.Spec
set_option linter.unusedVariables false
set_option maxRecDepth 100000 in
theorem vjF (sz : Nat) (w w2 a s z : Int) (g : BitVec 64) (L L2 : By) : bodyP Tryd.prog (W6.withFrz [(31, [.by8]), (56, [.by8])]) gl0 [] [] 3000 Tryd.f27 2 [.ptr 0 0 0 0] [dkA sz w, dkL L] (retQ Tryd.prog Tryd.f27 2 ⟨[], .tup [.ptr 2 0 0 0, .int .i64 0], [some (some (dkA sz w2)), some (some (dkL L2))], [jnL g a s z]⟩) = (
let x1 := IntKind.i64.wrap (↑((lkG L + BitVec.ofNat 64 1) % BitVec.ofNat 64 2).toNat : Int); let x2 := dPut L (IntKind.i64.wrap ((1 : Int) - x1)).toNat (List.replicate 64 (0 : BitVec 8)); let x3 := lkG L + BitVec.ofNat 64 1; List.length L = sz * 64 ∧ 4 ≤ sz ∧ sz < 1099511627776 ∧ 64 ≤ 64 ∧ 64 ≤ 281474976710656 ∧ 64 ≤ 9223372036854775807 ∧ 64 = 64 ∧ List.length L = sz * 64 ∧ (0 : Int) ≤ IntKind.i64.wrap ((1 : Int) - x1) ∧ 0 = 0 ∧ IntKind.i64.wrap ((1 : Int) - x1) * (64 : Int) + Int.ofNat 64 ≤ (↑sz : Int) * (64 : Int) ∧ 64 < 1099511627776 ∧ (0 : Int) ≤ w ∧ w < (2305843009213693952 : Int) ∧ sz < 1099511627776 ∧ List.length x2 = sz * 64 ∧ ((0 : Int) < arZ sz → (0 : Int) ≤ plJ (0 : Int) (arZ sz) (0 : Int) ∧ plJ (0 : Int) (arZ sz) (0 : Int) < (↑sz : Int) ∧ nqS (jSec (0 : Int) (arZ sz) (0 : Int) x2) ≤ (46 : Int)) ∧ rdN x3 (arZ sz) (0 : Int) (0 : Int) (jSec (0 : Int) (arZ sz) (0 : Int) x2) = Bool.true ∧ 64 = List.length (slB x3 (0 : Int)) ∧ List.length x2 = sz * 64 ∧ (0 : Int) ≤ x1 ∧ List.length (slB x3 (0 : Int)) % 64 = 0 ∧ x1 * (64 : Int) + (↑(List.length (slB x3 (0 : Int))) : Int) ≤ (↑sz : Int) * (64 : Int) ∧ List.length (slB x3 (0 : Int)) < 1099511627776 ∧ (0 : Int) ≤ w + Int.ofNat 1 ∧ w + Int.ofNat 1 < (2305843009213693952 : Int) ∧ sz < 1099511627776 ∧ 0 = 0 ∧ (0 : Int) = (0 : Int) ∧ Bool.false = Bool.false ∧ 0 = 0 ∧ 0 = 0 ∧ 0 = 0 ∧ sz = sz ∧ Bool.true = Bool.true ∧ w2 = w + Int.ofNat 1 + (↑(List.length (slB x3 (0 : Int)) / 64) : Int) ∧ Int.negSucc 0 = Int.negSucc 0 ∧ (0 : Int) = (0 : Int) ∧ L2 = dPut x2 x1.toNat (slB x3 (0 : Int)) ∧ 0 = 0 ∧ g = x3 ∧ a = (0 : Int) ∧ s = x1 ∧ z = arZ sz ∧ Bool.false = Bool.false ∧ True : Prop) := by kernel_rfl
end Go.Sym

namespace Go.Sym
open Go.Proofs Go.Spec
set_option linter.unusedVariables false
set_option maxRecDepth 100000 in
theorem vjA0 (sz M : Nat) (w w2 a s z : Int) (g : BitVec 64) (L L2 b : By) (F : Nat → By) : bodyP Tryd.prog (W6.withFrz [(61, [.by8]), (74, [.by8])]) gl0 [] [] 3000 Tryd.f28 3 [.ptr 0 0 0 0, .rb false b .unk] [jnN g a s z, dkB sz w, dkL L] (retQ Tryd.prog Tryd.f28 3 ⟨[], .int .i64 0, [some (some (jnA g a s z M)), some (some (dkB sz w2)), some (some (dkL L2))], [enR M F]⟩) = (
let x1 := 0 = 0 ∧ g = g ∧ a = a ∧ s = s ∧ z = z ∧ M = 0 ∧ Bool.false = Bool.false ∧ Bool.false = Bool.false ∧ 0 = 0 ∧ 0 = 0 ∧ 0 = 0 ∧ sz = sz ∧ Bool.true = Bool.true ∧ w2 = w ∧ Int.negSucc 0 = Int.negSucc 0 ∧ (0 : Int) = (0 : Int) ∧ L2 = L ∧ M = 0 ∧ True; let x2 := IntKind.i64.wrap ((0 : Int) + (↑(needN (↑(List.length b) : Int).toNat) : Int)); let x3 := ∀ (y : Nat), y < M → outs Bool.true [AV.rb Bool.true (F y) NL.unk] = Bool.true; @Bool.rec (fun _ => Prop) (x3 ∧ (0 : Int) = (1 : Int) ∧ x1) (@Bool.rec (fun _ => Prop) ((0 : Int) ≤ (↑(List.length b) : Int) ∧ (↑(List.length b) : Int) < (1099511627776 : Int) ∧ @Bool.rec (fun _ => Prop) ((0 : Int) ≤ (↑(List.length b) : Int) ∧ (↑(List.length b) : Int) < (1099511627776 : Int) ∧ List.length L = sz * 64 ∧ (x2 < z → (0 : Int) ≤ plJ a z x2 ∧ plJ a z x2 < (↑sz : Int) ∧ nqS (jSec a z x2 L) ≤ (46 : Int)) ∧ rdN g z x2 (Int.ofNat 1) (jSec a z x2 L) = Bool.true ∧ List.length b < 1099511627776 ∧ needN (List.length b) * 64 = List.length (enB g (0 : Int) b) ∧ List.length L = sz * 64 ∧ (0 : Int) ≤ plJ a z (0 : Int) ∧ List.length (enB g (0 : Int) b) % 64 = 0 ∧ plJ a z (0 : Int) * (64 : Int) + (↑(List.length (enB g (0 : Int) b)) : Int) ≤ (↑sz : Int) * (64 : Int) ∧ List.length (enB g (0 : Int) b) < 1099511627776 ∧ (0 : Int) ≤ w ∧ w < (2305843009213693952 : Int) ∧ sz < 1099511627776 ∧ List.length b < 1099511627776 ∧ List.length b = List.length b ∧ roomFor 0 1 24 ∧ x3 ∧ (0 : Int) = (0 : Int) ∧ 0 = 0 ∧ g = g ∧ a = a ∧ s = s ∧ z = z ∧ 0 = 0 ∧ 0 = 0 ∧ 0 = 0 ∧ M = 1 ∧ Bool.false = Bool.false ∧ Bool.false = Bool.false ∧ 0 = 0 ∧ 0 = 0 ∧ 0 = 0 ∧ sz = sz ∧ Bool.true = Bool.true ∧ w2 = w + (↑(List.length (enB g (0 : Int) b) / 64) : Int) ∧ Int.negSucc 0 = Int.negSucc 0 ∧ (0 : Int) = (0 : Int) ∧ L2 = dPut L (plJ a z (0 : Int)).toNat (enB g (0 : Int) b) ∧ M * 1 = [AV.rb Bool.true b NL.unk].length ∧ (∀ (y : Nat), y < M → datas Bool.false [AV.rb Bool.true (F y) NL.unk] = Bool.true ∧ cut 1 [AV.rb Bool.true b NL.unk] y = [AV.rb Bool.true (F y) NL.unk]) ∧ True) (x3 ∧ (0 : Int) = (5 : Int) ∧ x1) (decide (IntKind.i64.wrap (z - (0 : Int)) < (↑(needN (↑(List.length b) : Int).toNat) : Int)))) (x3 ∧ (0 : Int) = (1 : Int) ∧ x1) !decide ((↑(List.length b) : Int) ≤ (4096 : Int))) (decide ((1 : Int) ≤ (↑(List.length b) : Int))) : Prop) := by kernel_rfl
end Go.Sym

set_option linter.unusedSimpArgs false
namespace Go.Spec
def noL (sz : Nat) : By := List.replicate (sz * 64) 0
theorem noL_get {sz i : Nat} (h : i < sz) : dGet (noL sz) i = List.replicate 64 0 := by
  unfold dGet noL
  rw [List.drop_replicate, List.take_replicate]
  congr 1
  omega
theorem noL_put {sz i : Nat} (h : i < sz) : dPut (noL sz) i (List.replicate 64 0) = noL sz := by
  unfold dPut noL
  rw [List.take_replicate, List.drop_replicate, List.length_replicate, List.replicate_append_replicate, List.replicate_append_replicate]
  congr 1
  omega
theorem ok_no : okS (List.replicate 64 0) = false := okS_zero rfl
theorem nq_no : nqS (List.replicate 64 0) = 0 := by decide
theorem rdN_no (g : BitVec 64) (z at' num : Int) : rdN g z at' num (List.replicate 64 0) = true := by
  unfold rdN
  rw [nq_no]
  exact decide_eq_true (.inr (.inl (by omega)))
theorem plJ_eq {a z at' : Int} (ha : a = 0 ∨ a = 1) (hz : 0 ≤ z) (hz2 : z < 1099511627776) (h : 0 ≤ at') (h2 : at' < 1099511627776) : plJ a z at' = 2 + a * z + at' := by
  unfold plJ
  have e : IntKind.i64.wrap (a * z) = a * z := by rcases ha with rfl | rfl <;> exact Go.Sym.wrap_i64 (by omega) (by omega)
  have r : 0 ≤ a * z ∧ a * z ≤ z := by rcases ha with rfl | rfl <;> omega
  rw [e, Go.Sym.wrap_i64 (x := 2 + a * z) (by omega) (by omega), Go.Sym.wrap_i64 (by omega) (by omega)]
end Go.Spec
namespace Go.Sym
open Go.Proofs Go.Spec
set_option linter.unusedVariables false
noncomputable def W7 : Ctx := W6.withFrz [(31, [.by8]), (56, [.by8])]
theorem bjF (sz : Nat) (w : Int) (h4 : 4 ≤ sz) (hs : sz < 1099511627776) (hw : 0 ≤ w) (hw2 : w < 1152921504606846976) : Must (bodyP Tryd.prog (W6.withFrz [(31, [.by8]), (56, [.by8])]) gl0 [] [] 3000 Tryd.f27 2 [.ptr 0 0 0 0] [dkA sz w, dkL (noL sz)] (retQ Tryd.prog Tryd.f27 2 ⟨[], .tup [.ptr 2 0 0 0, .int .i64 0], [some (some (dkA sz (w + 2))), some (some (dkL (dPut (noL sz) 1 (slB 1 0))))], [jnL 1 0 1 (arZ sz)]⟩)) := by
  constructor
  rw [vjF]
  have g0 := noL_get (sz := sz) (i := 0) (by omega)
  have g1 := noL_get (sz := sz) (i := 1) (by omega)
  have hG : lkG (noL sz) = 0 := by
    unfold lkG lkU
    rw [g0, g1, ok_no]
    rfl
  intro x1 x2 x3
  have h3 : x3 = 1 := by show lkG (noL sz) + BitVec.ofNat 64 1 = 1; rw [hG]; rfl
  have h1 : x1 = 1 := by
    show IntKind.i64.wrap (((lkG (noL sz) + BitVec.ofNat 64 1) % BitVec.ofNat 64 2).toNat : Int) = 1
    rw [hG]; rfl
  have h10 : IntKind.i64.wrap (1 - x1) = 0 := by rw [h1]; rfl
  have h2 : x2 = noL sz := by
    show dPut (noL sz) (IntKind.i64.wrap (1 - x1)).toNat (List.replicate 64 0) = _
    rw [h10]
    exact noL_put (by omega)
  have hl : (noL sz).length = sz * 64 := List.length_replicate
  have hS := slB_len 1 0
  have hz0 : 0 ≤ arZ sz := Int.natCast_nonneg _
  have hz1 : arZ sz < 1099511627776 := by unfold arZ; omega
  have hp : plJ 0 (arZ sz) 0 = 2 := by rw [plJ_eq (.inl rfl) hz0 hz1 (by omega) (by omega)]; omega
  have hj : jSec 0 (arZ sz) 0 (noL sz) = List.replicate 64 0 := by unfold jSec; rw [hp]; exact noL_get (by omega)
  rw [h10, h2, h3, h1, hS, hp, hj, nq_no]
  have n64 : Int.ofNat 64 = 64 := rfl
  have n1 : Int.ofNat 1 = 1 := rfl
  rw [n64, n1]
  clear_value x1 x2 x3
  refine ⟨hl, h4, hs, by omega, by omega, by omega, rfl, hl, by omega, rfl, by omega, by omega, hw, by omega, hs, hl, fun _ => ⟨by omega, by omega, by omega⟩, rdN_no _ _ _ _, rfl, hl, by omega, by omega, by omega, by omega, by omega, by omega, hs, rfl, rfl, rfl, rfl, rfl, rfl, rfl, rfl, ?_, rfl, rfl, rfl, rfl, rfl, rfl, rfl, rfl, rfl, trivial⟩
  omega
noncomputable def gjF (xs : List AV) (bs : List ABlk) : TL := match xs, bs with
  | [.ptr 0 0 0 0], [⟨.cells [.slice 1 0 64 sz .ow (.is false), .bool true, .int .i64 w, .int .i64 (-1), .int .i64 0], true, 0⟩, ⟨.bytes L, true, 64⟩] =>
    .ok ⟨[4 ≤ sz, sz < 1099511627776, 0 ≤ w, w < 1152921504606846976, L = noL sz], .tup [.ptr 2 0 0 0, .int .i64 0], [some (some (dkA sz (w + 2))), some (some (dkL (dPut (noL sz) 1 (slB 1 0))))], [jnL 1 0 1 (arZ sz)]⟩
  | _, _ => .no
noncomputable def spjF : Spec := ⟨[.kp], fun xs h => reachX h 200 (namesL (xs.take 1)) [], kinds, gjF⟩
theorem cjF : COK Tryd.prog gl0 27 (mkF spjF) := by
  refine ctrE (fn := Tryd.f27) [] 3000 (by kernel_rfl) (by kernel_rfl) (okW6.withFrz [(31, [.by8]), (56, [.by8])]) (by kernel_rfl) (fun args w => by kernel_rfl) fun xs bs r hs ho => ?_
  replace hs : (gjF xs bs).sel = some r := hs
  unfold gjF at hs
  split at hs
  · simp only [TL.sel, Option.some.injEq] at hs
    subst hs
    obtain ⟨h1, ho⟩ := obsT_cons.1 ho
    obtain ⟨h2, ho⟩ := obsT_cons.1 ho
    obtain ⟨h3, ho⟩ := obsT_cons.1 ho
    obtain ⟨h4, ho⟩ := obsT_cons.1 ho
    have h5 := obsT_one.1 ho
    subst h5
    exact ⟨_, bjF _ _ h1 h2 h3 h4⟩
  · simp [TL.sel] at hs
end Go.Sym

set_option linter.unusedSimpArgs false
namespace Go.Sym
open Go.Proofs Go.Spec
set_option linter.unusedVariables false
theorem bjA0 (sz : Nat) (w a s z : Int) (g : BitVec 64) (L b : By) (hb1 : 1 ≤ b.length) (hb2 : b.length ≤ 46) (hL : L.length = sz * 64) (hz : 1 ≤ z) (hz2 : z < 1099511627776) (h1 : 1 < z → 0 ≤ plJ a z 1 ∧ plJ a z 1 < sz ∧ nqS (jSec a z 1 L) ≤ 46) (hr : rdN g z 1 1 (jSec a z 1 L) = true) (hp : 0 ≤ plJ a z 0) (hp2 : plJ a z 0 < sz) (hw : 0 ≤ w) (hw2 : w < 1152921504606846976) (hs : sz < 1099511627776) :
    Must (bodyP Tryd.prog (W6.withFrz [(61, [.by8]), (74, [.by8])]) gl0 [] [] 3000 Tryd.f28 3 [.ptr 0 0 0 0, .rb false b .unk] [jnN g a s z, dkB sz w, dkL L] (retQ Tryd.prog Tryd.f28 3 ⟨[], .int .i64 0, [some (some (jnA g a s z 1)), some (some (dkB sz (w + 1))), some (some (dkL (dPut L (plJ a z 0).toNat (enB g 0 b))))], [enR 1 (fun _ => b)]⟩)) := by
  constructor
  rw [vjA0]
  intro x1 x2 x3
  have hn : needN b.length = 1 := need_1 hb2
  have hx2 : x2 = 1 := by
    show IntKind.i64.wrap (0 + (needN (b.length : Int).toNat : Int)) = 1
    rw [Int.toNat_natCast, hn]; rfl
  have hE := enB_len g 0 b
  rw [hn] at hE
  have n1 : Int.ofNat 1 = 1 := rfl
  have hx3 : x3 := fun y hy => rfl
  have ez : IntKind.i64.wrap (z - 0) = z := by rw [wrap_i64 (by omega) (by omega)]; omega
  rw [hx2, n1, hn, hE, ez, Int.toNat_natCast, hn]
  clear_value x1 x2 x3
  refine brec (fun c => ?_) (fun c => absurd hb1 (by have := dfl c; omega))
  refine brec (fun c => absurd hb2 (by have := ntr c; omega)) (fun c => ?_)
  refine ⟨by omega, by omega, brec (fun c => absurd hz (by have := dtr c; omega)) (fun c => ?_)⟩
  refine ⟨by omega, by omega, hL, h1, hr, by omega, rfl, hL, hp, rfl, by omega, by omega, hw, by omega, hs, by omega, rfl, by unfold roomFor; omega, hx3, rfl, rfl, rfl, rfl, rfl, rfl, rfl, rfl, rfl, rfl, rfl, rfl, rfl, rfl, rfl, rfl, rfl, by omega, rfl, rfl, rfl, rfl, fun y hy => ⟨rfl, ?_⟩, trivial⟩
  have : y = 0 := by omega
  subst this
  rfl
noncomputable def gjA0 (xs : List AV) (bs : List ABlk) : TL := match xs, bs with
  | [.ptr 0 0 0 0, .rb false b .unk], [⟨.cells [.ptr 1 0 0 0, .u64 g, .int .i64 a, .int .i64 s, .int .i64 z, .nils, .bool false], true, 0⟩, ⟨.cells [.slice 2 0 64 sz .ow (.is false), .bool true, .int .i64 w, .int .i64 (-1), .int .i64 0], true, 0⟩, ⟨.bytes L, true, 64⟩] =>
    .ok ⟨[1 ≤ b.length, b.length ≤ 46, L.length = sz * 64, 1 ≤ z, z < 1099511627776, 1 < z → 0 ≤ plJ a z 1 ∧ plJ a z 1 < sz ∧ nqS (jSec a z 1 L) ≤ 46, rdN g z 1 1 (jSec a z 1 L) = true, 0 ≤ plJ a z 0, plJ a z 0 < sz, 0 ≤ w, w < 1152921504606846976, sz < 1099511627776],
      .int .i64 0, [some (some (jnA g a s z 1)), some (some (dkB sz (w + 1))), some (some (dkL (dPut L (plJ a z 0).toNat (enB g 0 b))))], [enR 1 (fun _ => b)]⟩
  | _, _ => .no
noncomputable def spjA0 : Spec := ⟨[.kp, .by0], fun xs h => reachX h 200 (namesL (xs.take 1)) [], kinds, gjA0⟩
theorem cjA0 : COK Tryd.prog gl0 28 (mkF spjA0) := by
  refine ctrE (fn := Tryd.f28) [] 3000 (by kernel_rfl) (by kernel_rfl) (okW6.withFrz [(61, [.by8]), (74, [.by8])]) (by kernel_rfl) (fun args w => by kernel_rfl) fun xs bs r hs ho => ?_
  replace hs : (gjA0 xs bs).sel = some r := hs
  unfold gjA0 at hs
  split at hs
  · simp only [TL.sel, Option.some.injEq] at hs
    subst hs
    obtain ⟨h1, ho⟩ := obsT_cons.1 ho
    obtain ⟨h2, ho⟩ := obsT_cons.1 ho
    obtain ⟨h3, ho⟩ := obsT_cons.1 ho
    obtain ⟨h4, ho⟩ := obsT_cons.1 ho
    obtain ⟨h5, ho⟩ := obsT_cons.1 ho
    obtain ⟨h6, ho⟩ := obsT_cons.1 ho
    obtain ⟨h7, ho⟩ := obsT_cons.1 ho
    obtain ⟨h8, ho⟩ := obsT_cons.1 ho
    obtain ⟨h9, ho⟩ := obsT_cons.1 ho
    obtain ⟨h10, ho⟩ := obsT_cons.1 ho
    obtain ⟨h11, ho⟩ := obsT_cons.1 ho
    exact ⟨_, bjA0 _ _ _ _ _ _ _ _ h1 h2 h3 h4 h5 h6 h7 h8 h9 h10 h11 (obsT_one.1 ho)⟩
  · simp [TL.sel] at hs
end Go.Sym
