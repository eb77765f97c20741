/- What a disk holds, and that it stays so. -/
import Derived.Test.YtmpgpbbaloiniaaDoorJouE
import Derived.Test.YtmpgpbbaloiniaaDoorJouG
namespace Go.Sym
open Go.Proofs Go.Spec
set_option linter.unusedVariables false
noncomputable def X0 : Ctx := ((Ctx.none ["#disk.go:27"]).add 50 (mkF spjK)).add 67 (mkF spjD)
theorem okX0 : COKs Tryd.prog gl0 X0 := (COKs.none.add cjK).add cjD
noncomputable def X1 : Ctx := X0.exe Tryd.prog gl0 [] 3000 Tryd.f30.params.size 30 Tryd.f30
theorem okX1 : COKs Tryd.prog gl0 X1 := okX0.exe [] 3000 _ (by kernel_rfl) (by kernel_rfl) (by kernel_rfl) (fun args w => by kernel_rfl)
noncomputable def X2 : Ctx := X1.exe Tryd.prog gl0 [] 3000 Tryd.f56.params.size 56 Tryd.f56
theorem okX2 : COKs Tryd.prog gl0 X2 := okX1.exe [] 3000 _ (by kernel_rfl) (by kernel_rfl) (by kernel_rfl) (fun args w => by kernel_rfl)
noncomputable def X3 : Ctx := (X2.add 66 (mkF spjC)).add 58 (mkF spjS)
theorem okX3 : COKs Tryd.prog gl0 X3 := (okX2.add cjC).add cjS
noncomputable def X4 : Ctx := X3.exe Tryd.prog gl0 [] 3000 Tryd.f32.params.size 32 Tryd.f32
theorem okX4 : COKs Tryd.prog gl0 X4 := okX3.exe [] 3000 _ (by kernel_rfl) (by kernel_rfl) (by kernel_rfl) (fun args w => by kernel_rfl)
noncomputable def X5 : Ctx := X4.exe Tryd.prog gl0 [] 3000 Tryd.f49.params.size 49 Tryd.f49
theorem okX5 : COKs Tryd.prog gl0 X5 := okX4.exe [] 3000 _ (by kernel_rfl) (by kernel_rfl) (by kernel_rfl) (fun args w => by kernel_rfl)
noncomputable def X6 : Ctx := X5.exe Tryd.prog gl0 [] 400 Tryd.f26.params.size 26 Tryd.f26
theorem okX6 : COKs Tryd.prog gl0 X6 := okX5.exe [] 400 _ (by kernel_rfl) (by kernel_rfl) (by kernel_rfl) (fun args w => by kernel_rfl)
noncomputable def X7 : Ctx := ((X6.add 27 (mkF spjF)).add 28 (mkF spjA0)).add 24 (mkF spjN)
theorem okX7 : COKs Tryd.prog gl0 X7 := ((okX6.add cjF).add cjA0).add cjN
end Go.Sym
namespace Go.Sym
open Go.Proofs Go.Spec
set_option linter.unusedVariables false
def lsSt : LS := ⟨Unit, fun _ => [(1, .ptr 200 0 0 0), (2, .int .i64 0)], fun _ => [(200, ⟨.cells [.slice 201 0 64 8 .ow (.is false), .bool true, .int .i64 0, .int .i64 (-1), .int .i64 0], true, 0⟩), (201, ⟨.bytes (noL 8), true, 64⟩)], 1000, fun _ => 0, fun _ => True, fun _ => []⟩
end Go.Sym

namespace Go.Sym
open Go.Proofs Go.Spec
set_option linter.unusedVariables false
set_option maxRecDepth 100000 in
theorem vjY (b : Bool) : bodyP Tryd.prog X7 gl0 [] [(20002, lsSt)] 3000 Tryd.f23 0 [] [] (retQ Tryd.prog Tryd.f23 0 ⟨[], .bool b, [], []⟩) = (
let x1 := dPut (dPut (noL 8) 1 (slB (1 : BitVec 64) (0 : Int))) 2 (enB (1 : BitVec 64) (0 : Int) [BitVec.ofNat 8 97]); let x2 := lenJ (lkG x1) (lkA x1) (Int.ofNat 3) x1; let x3 := ∀ (y : Nat), y < x2 → outs Bool.true [AV.rb Bool.true (entJ (lkA x1) (Int.ofNat 3) x1 y) NL.unk] = Bool.true; let x4 := ∀ (y : Nat), y < x2 → datas Bool.false [AV.rb Bool.true (entJ (lkA x1) (Int.ofNat 3) x1 y) NL.unk] = Bool.true; let x5 := fun (y : Nat) => [AV.rb Bool.true (entJ (lkA x1) (Int.ofNat 3) x1 y) NL.unk]; let x6 := ∀ (y : Nat), y < x2 → datas Bool.false [AV.rb Bool.true (entJ (lkA x1) (Int.ofNat 3) x1 y) NL.unk] = Bool.true ∧ [AV.rb Bool.true (entJ (lkA x1) (Int.ofNat 3) x1 y) NL.unk].length ≤ 1; ((0 : Int) ≤ (8 : Int) ∧ (0 : Int) ≤ (8 : Int) ∧ 8 ≤ 8 ∧ 512 ≤ 281474976710656 ∧ 8 ≤ 9223372036854775807 ∧ ∃ (y : Unit), True ∧ 0 = 0 ∧ (0 : Int) = (0 : Int) ∧ Bool.false = Bool.false ∧ 0 = 0 ∧ 0 = 0 ∧ 0 = 0 ∧ 8 = 8 ∧ Bool.true = Bool.true ∧ (0 : Int) = (0 : Int) ∧ Int.negSucc 0 = Int.negSucc 0 ∧ (0 : Int) = (0 : Int) ∧ noL 8 = List.replicate 512 (0 : BitVec 8) ∧ True) ∧ ∀ (x : Unit), True → 4 ≤ 8 ∧ 8 < 1099511627776 ∧ (0 : Int) ≤ (0 : Int) ∧ (0 : Int) < (1152921504606846976 : Int) ∧ noL 8 = noL 8 ∧ 0 < 1 ∧ 0 < 1 ∧ 1 = 1 ∧ 1 ≤ 1 ∧ 1 ≤ 46 ∧ 512 = 512 ∧ (1 : Int) ≤ Int.ofNat 3 ∧ Int.ofNat 3 < (1099511627776 : Int) ∧ ((1 : Int) < Int.ofNat 3 → (0 : Int) ≤ Int.ofNat 3 ∧ Int.ofNat 3 < Int.ofNat 8 ∧ Int.ofNat 0 ≤ (46 : Int)) ∧ Bool.true = Bool.true ∧ (0 : Int) ≤ Int.ofNat 2 ∧ Int.ofNat 2 < Int.ofNat 8 ∧ (0 : Int) ≤ Int.ofNat 2 ∧ Int.ofNat 2 < (1152921504606846976 : Int) ∧ 8 < 1099511627776 ∧ @Bool.rec (fun _ => Prop) (512 = 512 ∧ 4 ≤ 8 ∧ 8 < 1099511627776 ∧ 512 = 512 ∧ Int.ofNat 3 < (1099511627776 : Int) ∧ (∀ (k : Nat), (↑k : Int) < Int.ofNat 3 → (0 : Int) ≤ plJ (lkA x1) (Int.ofNat 3) (↑k : Int) ∧ plJ (lkA x1) (Int.ofNat 3) (↑k : Int) < Int.ofNat 8 ∧ nqS (jSec (lkA x1) (Int.ofNat 3) (↑k : Int) x1) ≤ (46 : Int)) ∧ x3 ∧ x4 ∧ x4 ∧ x3 ∧ 0 + x2 ≤ x2 ∧ x6 ∧ x2 < 1099511627776 ∧ (∀ (i : Nat), i < x2 → List.length (entJ (lkA x1) (Int.ofNat 3) x1 i) < 1099511627776) ∧ x5 = x5 ∧ x3 ∧ x3 ∧ @Bool.rec (fun _ => Prop) (b = Bool.false ∧ True) (0 < x2 ∧ 0 < x2 ∧ @Bool.rec (fun _ => Prop) (b = Bool.false ∧ True) (x4 ∧ x4 ∧ x3 ∧ 0 + x2 ≤ x2 ∧ x6 ∧ x2 < 1099511627776 ∧ (∀ (i : Nat), i < x2 → List.length (entJ (lkA x1) (Int.ofNat 3) x1 i) ≤ 46) ∧ x5 = x5 ∧ x3 ∧ @Bool.rec (fun _ => Prop) (b = Bool.false ∧ True) ((0 : Int) ≤ (46 : Int) ∧ (46 : Int) < (1099511627776 : Int) ∧ (0 : Int) ≤ (47 : Int) ∧ (47 : Int) < (1099511627776 : Int) ∧ b = Bool.true ∧ True) (decide (IntKind.i64.wrap (Int.ofNat 3 - (↑x2 : Int)) = (2 : Int)))) (decide (entJ (lkA x1) (Int.ofNat 3) x1 0 = [BitVec.ofNat 8 97]))) (decide ((↑x2 : Int) = (1 : Int)))) (512 = 512 ∧ 4 ≤ 8 ∧ 8 < 1099511627776 ∧ b = Bool.false ∧ True) !lkF x1 : Prop) := by kernel_rfl
end Go.Sym

set_option linter.unusedSimpArgs false
namespace Go.Spec
open Go.Sym
/-- The disk behind 'stays'. -/
noncomputable def stL : By := dPut (dPut (noL 8) 1 (slB 1 0)) 2 (enB 1 0 [97])
theorem en97 : (enB 1 0 [97]).length = 64 := by rw [enB_len]; rfl
theorem st_l1 : (dPut (noL 8) 1 (slB 1 0)).length = 512 := by
  rw [dPut_len (by rw [slB_len]; show _ ≤ (List.replicate (8 * 64) 0).length; rw [List.length_replicate]; omega)]
  show (List.replicate (8 * 64) (0 : BitVec 8)).length = 512
  rw [List.length_replicate]
theorem noL_len (sz : Nat) : (noL sz).length = sz * 64 := List.length_replicate
theorem st_0 : dGet stL 0 = List.replicate 64 0 := by
  unfold stL
  rw [dGet_lo (by rw [st_l1, en97]; omega) (by omega), dGet_lo (by rw [slB_len, noL_len]; omega) (by omega), noL_get (by omega)]
theorem st_1 : dGet stL 1 = slB 1 0 := by
  unfold stL
  rw [dGet_lo (by rw [st_l1, en97]; omega) (by omega), dGet_in (by rw [slB_len, noL_len]; omega) (by omega) (by rw [slB_len]; omega)]
  unfold dGet
  exact List.take_of_length_le (by rw [List.length_drop, slB_len]; omega)
theorem st_2 : dGet stL 2 = enB 1 0 [97] := by
  unfold stL
  rw [dGet_in (by rw [st_l1, en97]; omega) (by omega) (by rw [en97]; omega)]
  unfold dGet
  exact List.take_of_length_le (by rw [List.length_drop, en97]; omega)
theorem st_h (i : Nat) (h : 3 ≤ i) (h2 : i < 8) : dGet stL i = List.replicate 64 0 := by
  unfold stL
  rw [dGet_hi (by rw [st_l1, en97]; omega) (by rw [en97]; omega), dGet_hi (by rw [slB_len, noL_len]; omega) (by rw [slB_len]; omega), noL_get h2]
theorem st_U : lkU stL = true := by unfold lkU; rw [st_0, st_1, okS_slB 1 (.inl rfl), ok_no]; rfl
theorem st_F : lkF stL = true := by unfold lkF; rw [st_1, okS_slB 1 (.inl rfl), Bool.or_true]
theorem st_G : lkG stL = 1 := by unfold lkG; rw [st_U, if_pos rfl, st_1, genS_slB]
theorem st_A : lkA stL = 0 := by unfold lkA; rw [st_U, if_pos rfl, st_1, areS_slB 1 (.inl rfl)]
theorem nq_97 : nqS (enB 1 0 [97]) = 1 := by kernel_rfl
theorem rd_97 : rdB (enB 1 0 [97]) = [97] := by
  unfold rdB
  rw [nq_97]
  kernel_rfl
theorem st_s (k : Nat) (h : k < 3) : plJ 0 3 k = 2 + k := by rw [plJ_eq (.inl rfl) (by omega) (by omega) (by omega) (by omega)]; omega
theorem st_j0 : jSec 0 3 0 stL = enB 1 0 [97] := by
  have : jSec 0 3 ((0 : Nat) : Int) stL = _ := rfl
  unfold jSec
  have e := st_s 0 (by omega)
  rw [show plJ 0 3 0 = 2 from e]
  exact st_2
theorem st_j1 (k : Nat) (h : 1 ≤ k) (h2 : k < 3) : jSec 0 3 k stL = List.replicate 64 0 := by
  unfold jSec
  rw [st_s k h2]
  have : ((2 : Int) + k).toNat = 2 + k := by omega
  rw [this]
  exact st_h _ (by omega) (by omega)
theorem st_r0 : rdN 1 3 0 0 (enB 1 0 [97]) = false := by
  unfold rdN
  rw [nq_97, rd_97]
  exact decide_eq_false fun h => by
    rcases h with h | h | h | h | h
    · omega
    · omega
    · omega
    · exact absurd h (by decide)
    · exact h rfl
theorem cntJ_t {g : BitVec 64} {a z : Int} {L : By} {f k : Nat} (h : rdN g z k k (jSec a z k L) = true) : cntJ g a z L (f + 1) k = k := by
  rw [cntJ, h, if_pos rfl]
theorem cntJ_f {g : BitVec 64} {a z : Int} {L : By} {f k : Nat} (h : rdN g z k k (jSec a z k L) = false) : cntJ g a z L (f + 1) k = cntJ g a z L f (k + 1) := by
  rw [cntJ, h, if_neg (by decide)]
theorem st_len : lenJ 1 0 3 stL = 1 := by
  unfold lenJ
  have e : (3 : Int).toNat = 1 + 1 + 1 := rfl
  rw [e, cntJ_f, cntJ_t]
  · rw [st_j1 (0 + 1) (by omega) (by omega)]; exact rdN_no _ _ _ _
  · show rdN 1 3 0 0 (jSec 0 3 0 stL) = false
    rw [st_j0]; exact st_r0
theorem st_e0 : entJ 0 3 stL 0 = [97] := by
  unfold entJ
  show rdB (jSec 0 3 0 stL) = _
  rw [st_j0, rd_97]
end Go.Spec
namespace Go.Sym
open Go.Proofs Go.Spec
set_option linter.unusedVariables false
def gTrue (xs : List AV) (bs : List ABlk) : TL := match xs, bs with
  | [], [] => .ok ⟨[], .bool true, [], []⟩
  | _, _ => .no
def spTrue : Spec := ⟨[], fun _ _ => [], fun _ _ => [], gTrue⟩
set_option maxRecDepth 100000 in
theorem bjY : Must (bodyP Tryd.prog X7 gl0 [] [(20002, lsSt)] 3000 Tryd.f23 0 [] [] (retQ Tryd.prog Tryd.f23 0 ⟨[], .bool true, [], []⟩)) := by
  constructor
  rw [vjY]
  have n3 : Int.ofNat 3 = 3 := rfl
  have n8 : Int.ofNat 8 = 8 := rfl
  have n2 : Int.ofNat 2 = 2 := rfl
  have n0 : Int.ofNat 0 = 0 := rfl
  intro x1 x2 x3 x4 x5 x6
  have h1 : x1 = stL := rfl
  have h2 : x2 = 1 := by
    show lenJ (lkG stL) (lkA stL) 3 stL = 1
    rw [st_G, st_A, st_len]
  have h3 : x3 := fun y hy => rfl
  have h4 : x4 := fun y hy => rfl
  have h6 : x6 := fun y hy => ⟨rfl, Nat.le_refl _⟩
  have hk : ∀ k : Nat, (k : Int) < 3 → 0 ≤ plJ 0 3 k ∧ plJ 0 3 k < 8 ∧ nqS (jSec 0 3 k stL) ≤ 46 := fun k hk => by
    rw [st_s k (by omega)]
    refine ⟨by omega, by omega, ?_⟩
    rcases Nat.eq_zero_or_pos k with rfl | h
    · show nqS (jSec 0 3 0 stL) ≤ 46
      rw [st_j0, nq_97]; omega
    · rw [st_j1 k h (by omega), nq_no]; omega
  have he : ∀ i : Nat, i < 1 → entJ 0 3 stL i = [97] := fun i hi => by
    have : i = 0 := by omega
    subst this
    exact st_e0
  have ew : IntKind.i64.wrap (3 - ((1 : Nat) : Int)) = 2 := by rw [wrap_i64 (by omega) (by omega)]; omega
  rw [n3, n8, n2, n0, h1, h2, st_A, st_F, ew, st_e0]
  clear_value x1 x2 x3 x4 x5 x6
  have hl1 : ∀ i : Nat, i < 1 → (entJ 0 3 stL i).length < 1099511627776 := fun i hi => by rw [he i hi]; decide
  have hl2 : ∀ i : Nat, i < 1 → (entJ 0 3 stL i).length ≤ 46 := fun i hi => by rw [he i hi]; decide
  refine ⟨?_, fun _ _ => ?_⟩
  · and_intros
    all_goals first | omega | rfl | trivial | exact ⟨(), by and_intros <;> first | rfl | trivial⟩
  · and_intros
    all_goals first | omega | rfl | trivial | exact fun _ => ⟨by omega, by omega, by omega⟩ | exact hk | exact h3 | exact h4 | exact h6 | exact hl1 | exact hl2
theorem cjY : COK Tryd.prog gl0 23 (mkF spTrue) := by
  refine ctrE (fn := Tryd.f23) [] 3000 (by kernel_rfl) (by kernel_rfl) okX7 (by kernel_rfl) (fun args w => by kernel_rfl) fun xs bs r hs ho => ?_
  replace hs : (gTrue xs bs).sel = some r := hs
  unfold gTrue at hs
  split at hs
  · simp only [TL.sel, Option.some.injEq] at hs
    subst hs
    exact ⟨_, bjY⟩
  · simp [TL.sel] at hs
end Go.Sym

set_option linter.unusedSimpArgs false
namespace Go.Spec
open Go.Sym
/-- Three bytes. -/
def b3 (b : By) : Prop := ∃ x y z, b = [x, y, z]
theorem b3_len {b : By} (h : b3 b) : b.length = 3 := by
  obtain ⟨x, y, z, rfl⟩ := h
  rfl
theorem nq_3 (g : BitVec 64) (p : Int) {b : By} (h : b3 b) : nqS (enB g p b) = 3 := by
  obtain ⟨x, y, z, rfl⟩ := h
  kernel_rfl
theorem rd_3 (g : BitVec 64) (p : Int) {b : By} (h : b3 b) : rdB (enB g p b) = b := by
  unfold rdB
  rw [nq_3 g p h]
  obtain ⟨x, y, z, rfl⟩ := h
  kernel_rfl
/-- What a disk holds: n entries of the generation g, in the area a. -/
structure Inv (sz : Nat) (z a : Int) (g : BitVec 64) (n : Nat) (F : Nat → By) (L : By) : Prop where
  hL : L.length = sz * 64
  ha : a = 0 ∨ a = 1
  hz : 2 + 2 * z ≤ sz
  z0 : 0 ≤ z
  hn : (n : Int) ≤ z
  sl : dGet L (g.toNat % 2) = slB g a
  ot : okS (dGet L (1 - g.toNat % 2)) = true → (genS (dGet L (1 - g.toNat % 2))).toNat < g.toNat
  en : ∀ i : Nat, i < n → dGet L (2 + a * z + i).toNat = enB g i (F i)
  no : ∀ i : Nat, n ≤ i → (i : Int) < z → dGet L (2 + a * z + i).toNat = List.replicate 64 0
  f3 : ∀ i, i < n → b3 (F i)
section
variable {sz : Nat} {z a : Int} {g : BitVec 64} {n : Nat} {F : Nat → By} {L : By}
theorem Inv.b (h : Inv sz z a g n F L) : 0 ≤ a * z ∧ a * z ≤ z := by
  have := h.z0
  rcases h.ha with e | e <;> subst e <;> omega
theorem Inv.found (h : Inv sz z a g n F L) : lkF L = true := by
  unfold lkF
  have e := h.sl
  have k := okS_slB g h.ha
  rcases Nat.mod_two_eq_zero_or_one g.toNat with m | m <;> rw [m] at e <;> rw [e, k]
  · rfl
  · rw [Bool.or_true]
theorem Inv.U (h : Inv sz z a g n F L) : lkU L = decide (g.toNat % 2 = 1) := by
  unfold lkU
  have e := h.sl
  have o := h.ot
  have k := okS_slB g h.ha
  rcases Nat.mod_two_eq_zero_or_one g.toNat with m | m <;> rw [m] at e o
  · have o : okS (dGet L 1) = true → (genS (dGet L 1)).toNat < g.toNat := o
    rw [e, k, genS_slB, m]
    cases hb : okS (dGet L 1)
    · rfl
    · have := o hb
      rw [decide_eq_false (show ¬ g.toNat < (genS (dGet L 1)).toNat by omega)]
      rfl
  · have o : okS (dGet L 0) = true → (genS (dGet L 0)).toNat < g.toNat := o
    rw [e, k, genS_slB, m]
    cases hb : okS (dGet L 0)
    · rfl
    · rw [decide_eq_true (o hb)]
      rfl
theorem Inv.G (h : Inv sz z a g n F L) : lkG L = g := by
  unfold lkG
  rw [h.U]
  have e := h.sl
  rcases Nat.mod_two_eq_zero_or_one g.toNat with m | m <;> rw [m] at e ⊢ <;> rw [e]
  · rw [if_neg (by decide), if_pos (okS_slB g h.ha), genS_slB]
  · rw [if_pos (by decide), genS_slB]
theorem Inv.A (h : Inv sz z a g n F L) : lkA L = a := by
  unfold lkA
  rw [h.U]
  have e := h.sl
  rcases Nat.mod_two_eq_zero_or_one g.toNat with m | m <;> rw [m] at e ⊢ <;> rw [e]
  · rw [if_neg (by decide), if_pos (okS_slB g h.ha), areS_slB g h.ha]
  · rw [if_pos (by decide), areS_slB g h.ha]
theorem Inv.S (h : Inv sz z a g n F L) : lkS L = ((g.toNat % 2 : Nat) : Int) := by
  unfold lkS
  rw [h.U]
  rcases Nat.mod_two_eq_zero_or_one g.toNat with m | m <;> rw [m] <;> rfl
theorem Inv.pl (h : Inv sz z a g n F L) (hs : sz < 1073741824) (k : Nat) (hk : (k : Int) ≤ z) : plJ a z k = 2 + a * z + k := plJ_eq h.ha h.z0 (by have := h.hz; omega) (by omega) (by have := h.hz; omega)
theorem Inv.sec (h : Inv sz z a g n F L) (hs : sz < 1073741824) (k : Nat) (hk : (k : Int) < z) : jSec a z k L = if k < n then enB g k (F k) else List.replicate 64 0 := by
  unfold jSec
  rw [h.pl hs k (by omega)]
  by_cases c : k < n
  · rw [if_pos c, h.en k c]
  · rw [if_neg c, h.no k (by omega) hk]
theorem Inv.nq (h : Inv sz z a g n F L) (hs : sz < 1073741824) (k : Nat) (hk : (k : Int) < z) : 0 ≤ plJ a z k ∧ plJ a z k < sz ∧ nqS (jSec a z k L) ≤ 46 := by
  have b := h.b
  have hz := h.hz
  rw [h.sec hs k hk, h.pl hs k (by omega)]
  refine ⟨by omega, by omega, ?_⟩
  by_cases c : k < n
  · rw [if_pos c, nq_3 g k (h.f3 k c)]
    decide
  · rw [if_neg c, nq_no]
    decide
theorem Inv.rd (h : Inv sz z a g n F L) (hs : sz < 1073741824) (k : Nat) (hk : k ≤ n) : rdN g z k k (jSec a z k L) = decide (k = n) := by
  have hn := h.hn
  by_cases c : k = n
  · rw [decide_eq_true c]
    by_cases d : (k : Int) < z
    · rw [h.sec hs k d, if_neg (by omega)]
      exact rdN_no g z k k
    · unfold rdN
      exact decide_eq_true (.inl (by omega))
  · rw [decide_eq_false c, h.sec hs k (by omega), if_pos (by omega)]
    unfold rdN
    refine decide_eq_false ?_
    have f := h.f3 k (by omega)
    rw [nq_3 g k f, rd_3 g k f]
    have e : needN (3 : Int).toNat = 1 := rfl
    have hz := h.hz
    rw [e, wrap_i64 (by omega) (by omega)]
    rintro (x | x | x | x | x)
    · omega
    · omega
    · omega
    · omega
    · exact x rfl
theorem Inv.cnt (h : Inv sz z a g n F L) (hs : sz < 1073741824) : ∀ f k, k ≤ n → n ≤ k + f → (n < k + f ∨ (n : Int) = z ∨ True) → cntJ g a z L f k = n ∨ f = 0
  | 0, k, _, _, _ => .inr rfl
  | f + 1, k, hk, hf, _ => by
    left
    rw [cntJ, h.rd hs k hk]
    by_cases c : k = n
    · rw [decide_eq_true c, if_pos rfl, c]
    · rw [decide_eq_false c, if_neg (by decide)]
      rcases h.cnt hs f (k + 1) (by omega) (by omega) (.inr (.inr trivial)) with e | e
      · exact e
      · subst e
        show k + 1 = n
        omega
theorem Inv.len (h : Inv sz z a g n F L) (hs : sz < 1073741824) : lenJ g a z L = n := by
  unfold lenJ
  have hn := h.hn
  rcases h.cnt hs z.toNat 0 (by omega) (by omega) (.inr (.inr trivial)) with e | e
  · exact e
  · rw [e]
    show 0 = n
    omega
theorem Inv.ent (h : Inv sz z a g n F L) (hs : sz < 1073741824) (k : Nat) (hk : k < n) : entJ a z L k = F k := by
  unfold entJ
  have hn := h.hn
  rw [h.sec hs k (by omega), if_pos hk]
  exact rd_3 g k (h.f3 k hk)
end
end Go.Spec

set_option linter.unusedSimpArgs false
namespace Go.Spec
open Go.Sym
section
variable {sz : Nat} {z a : Int} {g : BitVec 64} {n : Nat} {F : Nat → By} {L : By}
theorem dGet_all {c : By} (h : c.length = 64) : dGet c 0 = c := by
  unfold dGet
  exact List.take_of_length_le (by rw [List.length_drop]; omega)
theorem Inv.init (h4 : 4 ≤ sz) : Inv sz (arZ sz) 0 1 0 F (dPut (noL sz) 1 (slB 1 0)) := by
  have hl : (noL sz).length = sz * 64 := noL_len sz
  have hs := slB_len 1 0
  have g1 : (1 : BitVec 64).toNat % 2 = 1 := rfl
  have hz : arZ sz = (((sz - 2) / 2 : Nat) : Int) := rfl
  have hi : 1 * 64 + (slB 1 0).length ≤ (noL sz).length := by omega
  refine ⟨by rw [dPut_len hi, hl], .inl rfl, by omega, by omega, by omega, ?_, fun o => ?_, fun i h => by omega, fun i _ h => ?_, fun i h => by omega⟩
  · rw [g1, dGet_in hi (by omega) (by omega), dGet_all hs]
  · rw [g1, dGet_lo hi (by omega), noL_get (by omega), ok_no] at o
    cases o
  · rw [dGet_hi hi (by omega), noL_get (by omega)]
theorem Inv.app (h : Inv sz z a g n F L) (hz : (n : Int) < z) {b : By} (hb : b3 b) : Inv sz z a g (n + 1) (oneM n F b) (dPut L (2 + a * z + n).toNat (enB g n b)) := by
  have hb' := h.b
  have h2 := h.hz
  have hl := h.hL
  have le : (enB g n b).length = 64 := by rw [enB_len, b3_len hb]; rfl
  have hi : (2 + a * z + n).toNat * 64 + (enB g n b).length ≤ L.length := by omega
  have hm := Nat.mod_lt g.toNat (show 0 < 2 by decide)
  refine ⟨by rw [dPut_len hi, hl], h.ha, h2, h.z0, by omega, by rw [dGet_lo hi (by omega), h.sl], fun o => ?_, fun i hi2 => ?_, fun i h1 h3 => ?_, fun i hi2 => ?_⟩
  · rw [dGet_lo hi (by omega)] at o ⊢
    exact h.ot o
  · unfold oneM
    by_cases c : i < n
    · rw [if_pos c, dGet_lo hi (by omega), h.en i c]
    · obtain rfl : i = n := by omega
      rw [if_neg c, dGet_in hi (by omega) (by omega), Nat.sub_self, dGet_all le]
  · rw [dGet_hi hi (by omega), h.no i (by omega) h3]
  · unfold oneM
    by_cases c : i < n
    · rw [if_pos c]; exact h.f3 i c
    · rw [if_neg c]; exact hb
theorem imB_get (g : BitVec 64) (K : Nat → By) : ∀ m i, (∀ j, j < m → b3 (K j)) → i < m → dGet (imB g K m) i = enB g i (K i)
  | m + 1, i, hk, hi => by
    have lm := imB_len g K m (fun j hj => by have := b3_len (hk j (by omega)); omega)
    have le : (enB g m (K m)).length = 64 := by rw [enB_len, b3_len (hk m (by omega))]; rfl
    unfold dGet
    rw [imB]
    by_cases c : i < m
    · have ih := imB_get g K m i (fun j hj => hk j (by omega)) c
      unfold dGet at ih
      rw [List.drop_append_of_le_length (by omega), List.take_append_of_le_length (by rw [List.length_drop]; omega), ih]
    · obtain rfl : i = m := by omega
      rw [List.drop_append, List.drop_of_length_le (by omega), List.nil_append, lm, Nat.sub_self, List.drop_zero]
      exact List.take_of_length_le (by omega)
theorem imA_in (g : BitVec 64) (K : Nat → By) (m i : Nat) (hk : ∀ j, j < m → b3 (K j)) (hi : i < m) : dGet (imA g K m z) i = enB g i (K i) := by
  have lm := imB_len g K m (fun j hj => by have := b3_len (hk j hj); omega)
  rw [← imB_get g K m i hk hi]
  unfold dGet imA
  rw [List.drop_append_of_le_length (by omega), List.take_append_of_le_length (by rw [List.length_drop]; omega)]
theorem imA_out (g : BitVec 64) (K : Nat → By) (m i : Nat) (hk : ∀ j, j < m → b3 (K j)) (h1 : m ≤ i) (h2 : (i : Int) < z) : dGet (imA g K m z) i = List.replicate 64 0 := by
  have lm := imB_len g K m (fun j hj => by have := b3_len (hk j hj); omega)
  unfold dGet imA
  rw [List.drop_append, List.drop_of_length_le (by omega), List.nil_append, List.drop_replicate, List.take_replicate]
  congr 1
  omega
theorem Inv.co (h : Inv sz z a g n F L) {m : Nat} {K : Nat → By} (hm : (m : Int) ≤ z) (hk : ∀ i, i < m → b3 (K i)) (hg : g.toNat < 18446744073709551615) : Inv sz z (1 - a) (g + 1) m K (coL g a z L K m) := by
  have hb' := h.b
  have h2 := h.hz
  have z0 := h.z0
  have hl := h.hL
  have eg : (g + 1).toNat = g.toNat + 1 := by
    rw [BitVec.toNat_add]
    have : (1 : BitVec 64).toNat = 1 := rfl
    omega
  have lA := imA_len (g := g + 1) (F := K) (n := m) (z := z) (fun i hi => by have := b3_len (hk i hi); omega) hm
  have ls := slB_len (g + 1) (1 - a)
  have ba : 0 ≤ (1 - a) * z ∧ (1 - a) * z ≤ z := by rcases h.ha with e | e <;> subst e <;> omega
  have i1 : (2 + (1 - a) * z).toNat * 64 + (imA (g + 1) K m z).length ≤ L.length := by omega
  have l1 := dPut_len i1
  have i2 : ((g + 1).toNat % 2) * 64 + (slB (g + 1) (1 - a)).length ≤ (dPut L (2 + (1 - a) * z).toNat (imA (g + 1) K m z)).length := by omega
  unfold coL
  have hm2 := Nat.mod_lt g.toNat (show 0 < 2 by decide)
  have ot : dGet (dPut (dPut L (2 + (1 - a) * z).toNat (imA (g + 1) K m z)) ((g + 1).toNat % 2) (slB (g + 1) (1 - a))) (1 - (g + 1).toNat % 2) = slB g a := by
    have e : 1 - (g + 1).toNat % 2 = g.toNat % 2 := by omega
    rw [e, ← h.sl]
    by_cases c : g.toNat % 2 = 0
    · rw [dGet_lo i2 (by omega), dGet_lo i1 (by omega)]
    · rw [dGet_hi i2 (by omega), dGet_lo i1 (by omega)]
  have hi : ∀ i : Nat, (i : Int) < z → dGet (dPut (dPut L (2 + (1 - a) * z).toNat (imA (g + 1) K m z)) ((g + 1).toNat % 2) (slB (g + 1) (1 - a))) (2 + (1 - a) * z + i).toNat = dGet (imA (g + 1) K m z) i := fun i hi => by
    rw [dGet_hi i2 (by omega), dGet_in i1 (by omega) (by omega)]
    congr 1
    omega
  refine ⟨by rw [dPut_len i2, l1, hl], by rcases h.ha with e | e <;> subst e <;> simp, h2, z0, hm, by rw [dGet_in i2 (by omega) (by omega), Nat.sub_self, dGet_all ls], fun _ => ?_, fun i c => ?_, fun i c1 c2 => ?_, hk⟩
  · rw [ot, genS_slB, eg]
    omega
  · rw [hi i (by omega), imA_in (g + 1) K m i hk c]
  · rw [hi i c2, imA_out (g + 1) K m i hk c1 c2]
theorem Inv.apk (h : Inv sz z a g n F L) (hs : sz < 1073741824) (hz : (n : Int) < z) {w : Int} (hw : 0 ≤ w) (hw2 : w < 1073741824) : apOk sz n w a z g L := by
  have hb' := h.b
  have h2 := h.hz
  have e : ((n + 1 : Nat) : Int) = (n : Int) + 1 := by omega
  refine ⟨h.hL, fun c => ?_, ?_, ?_, ?_, hw, by omega, by omega⟩
  · rw [← e]
    exact h.nq hs (n + 1) (by omega)
  · rw [← e]
    by_cases c : ((n + 1 : Nat) : Int) < z
    · rw [h.sec hs (n + 1) c, if_neg (by omega)]
      exact rdN_no g z _ _
    · unfold rdN
      exact decide_eq_true (.inl (by omega))
  · rw [h.pl hs n (by omega)]; omega
  · rw [h.pl hs n (by omega)]; omega
theorem Inv.apb (h : Inv sz z a g n F L) (hs : sz < 1073741824) {b : By} (hb : b3 b) : apB n z b F := by
  have h2 := h.hz
  have := b3_len hb
  exact ⟨by omega, by omega, fun i hi => by have := b3_len (h.f3 i hi); omega, h.hn, by omega⟩
theorem Inv.cok (h : Inv sz z a g n F L) (hs : sz < 1073741824) {m : Nat} {K : Nat → By} (hm : (m : Int) ≤ z) (hk : ∀ i, i < m → b3 (K i)) (hg : g.toNat < 18446744073709551615) {w : Int} (hw : 0 ≤ w) (hw2 : w < 1073741824) : coOk sz m w a ((g.toNat % 2 : Nat) : Int) z g L K :=
  ⟨h.hL, fun i hi => by have := b3_len (hk i hi); omega, fun i hi => by have := b3_len (hk i hi); omega, hm, h.ha, h.hz, rfl, hg, hw, hw2, hs⟩
end
end Go.Spec
