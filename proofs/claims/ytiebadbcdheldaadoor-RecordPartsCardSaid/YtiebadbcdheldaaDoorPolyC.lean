/- The same: shown; both tags are one. -/
import Derived.Test.YtiebadbcdheldaaDoorPolyB
import Derived.Test.YtiebadbcdheldaaDoorChaB
import Derived.Test.YtiebadbcdheldaaDoorChaC
namespace Go.Spec
theorem and252 (x : BitVec 8) : (x &&& 252#8).toNat = x.toNat / 4 * 4 := by
  have h : ∀ n : Fin 256, ((BitVec.ofFin n : BitVec 8) &&& 252#8).toNat = (BitVec.ofFin n : BitVec 8).toNat / 4 * 4 := by decide +kernel
  exact h x.toFin
theorem and15 (x : BitVec 8) : (x &&& 15#8).toNat = x.toNat % 16 := by
  rw [BitVec.toNat_and]
  exact Nat.and_two_pow_sub_one_eq_mod x.toNat 4
theorem HN_lt (k : F8) (b : By) : ∀ x, HN k b x < PP
  | 0 => by show 0 < PP; decide
  | x + 1 => Nat.mod_lt _ (by decide)
theorem part_get (b : By) (x y : Nat) (hy : y < 17) : partF b x y = if y < min (b.length - 16 * x) 16 then b.getD (16 * x + y) 0 else if y = min (b.length - 16 * x) 16 then 1 else 0 := by
  unfold partF partL
  have hl : (List.drop (16 * x) b).length = b.length - 16 * x := List.length_drop
  rw [hl]
  generalize hn : min (b.length - 16 * x) 16 = n at *
  have ht : (List.take 16 (List.drop (16 * x) b)).length = n := by rw [List.length_take, hl]; omega
  simp only [List.getD]
  rw [List.getElem?_set]
  by_cases e1 : n = y
  · subst e1
    rw [if_pos rfl, if_pos (by rw [List.length_append, ht, List.length_drop, List.length_replicate]; omega), if_neg (by omega), if_pos rfl]
    rfl
  · rw [if_neg e1, if_neg (c := y = n) (fun e => e1 e.symm)]
    by_cases e2 : y < n
    · rw [if_pos e2, List.getElem?_append_left (by omega), List.getElem?_take, if_pos (by omega), List.getElem?_drop]
    · rw [if_neg e2, List.getElem?_append_right (by omega), List.getElem?_drop, List.getElem?_replicate]
      split <;> rfl
theorem pl_lt (h r : FN) (B : Nat) (hb : ∀ i j, i < 17 → j < 16 → h i * r j ≤ B) : ∀ i, i ≤ 17 → ∀ y, pl h r i y ≤ i * B
  | 0, _, y => by simp [pl]
  | i + 1, hi, y => by
    have ih := pl_lt h r B hb i (by omega) y
    simp only [pl]
    rw [Nat.add_mul, Nat.one_mul]
    split
    · rename_i hc
      have := hb i (y - i) (by omega) (by omega)
      omega
    · omega
theorem pl_top (h r : FN) : ∀ i, i ≤ 17 → ∀ y, 33 ≤ y → pl h r i y = 0
  | 0, _, y, _ => rfl
  | i + 1, hi, y, hy => by
    simp only [pl]
    rw [pl_top h r i (by omega) y hy, if_neg (by omega)]
theorem V_one (h r : FN) (i m : Nat) : V (fun y => if i ≤ y ∧ y < i + 16 then h i * r (y - i) else 0) (i + (16 + m)) = h i * 256 ^ i * V r 16 := by
  rw [V_shift, V_congr i (g := fun _ => 0) (fun y hy => by rw [if_neg (by omega)]), V_zero, Nat.zero_add]
  have e : V (fun y => if i ≤ i + y ∧ i + y < i + 16 then h i * r (i + y - i) else 0) (16 + m) = V (fun y => if i ≤ i + y ∧ i + y < i + 16 then h i * r (i + y - i) else 0) 16 := V_two _ 16 m fun y h1 _ => by rw [if_neg (by omega)]
  rw [e, V_congr 16 (g := fun y => h i * r y) (fun y hy => by rw [if_pos (by omega), Nat.add_sub_cancel_left]), V_mul]
  rw [Nat.mul_comm (h i) (256 ^ i), Nat.mul_assoc]
theorem pl_val (h r : FN) : ∀ i, i ≤ 17 → V (pl h r i) 40 = V h i * V r 16
  | 0, _ => by
    simp only [pl, V, Nat.zero_mul]
  | i + 1, hi => by
    have ih := pl_val h r i (by omega)
    have e := V_one h r i (24 - i)
    rw [show i + (16 + (24 - i)) = 40 by omega] at e
    have e2 : V (pl h r (i + 1)) 40 = V (pl h r i) 40 + V (fun y => if i ≤ y ∧ y < i + 16 then h i * r (y - i) else 0) 40 := V_add _ _ 40
    rw [e2, ih, e]
    simp only [V]
    rw [Nat.add_mul]
theorem VL_of (f : FN) : VL ((List.range 40).map fun i => ((f i : Nat) : Int)) = V f 40 := by
  unfold VL
  apply V_congr
  intro i hi
  rw [Go.Sym.getD_map_range _ _ _ _ hi, Int.toNat_natCast]
theorem okI_of (f : FN) (hf : okF f) (ht : okT f) : okI ((List.range 40).map fun i => ((f i : Nat) : Int)) := by
  refine ⟨fun i hi => ?_, ?_, ?_⟩
  · rw [Go.Sym.getD_map_range _ _ _ _ hi]
    have := hf i hi
    omega
  · rw [Go.Sym.getD_map_range _ _ _ _ (by omega), ht.1]; rfl
  · rw [Go.Sym.getD_map_range _ _ _ _ (by omega), ht.2]; rfl
theorem step_val (k : F8) (b : By) (x : Nat) : VL ((List.range 40).map fun i => ((pl (hP (HN k b x) b x) (rN k) 17 i : Nat) : Int)) % PP = HN k b (x + 1) := by
  rw [VL_of, pl_val _ _ 17 (by omega)]
  have e : V (hP (HN k b x) b x) 17 = HN k b x + V (partN b x) 17 := by
    have : V (hP (HN k b x) b x) 17 = V (dg (HN k b x)) 17 + V (partN b x) 17 := V_add _ _ 17
    rw [this, V_dg, Nat.mod_eq_of_lt (Nat.lt_trans (HN_lt k b x) (by decide))]
  rw [e]
  rfl
theorem rN_lt (k : F8) (j : Nat) : rN k j ≤ 255 := by unfold rN; have := (clampS k j).isLt; omega
theorem hP_lt (N : Nat) (b : By) (x i : Nat) : hP N b x i ≤ 510 := by
  unfold hP partN
  have h1 := (partF b x i).isLt
  have h2 : dg N i < 256 := Nat.mod_lt _ (by omega)
  omega
theorem plJ_zero (h r : FN) (i y : Nat) : plJ h r i 0 y = pl h r i y := by
  unfold plJ; rw [if_neg (by omega)]; omega
theorem plJ_end (h r : FN) (i y : Nat) : plJ h r i 16 y = pl h r (i + 1) y := rfl
end Go.Spec
namespace Go.Sym
open Go.Proofs Go.Spec
set_option linter.unusedVariables false
theorem dg17_get (M : Nat) : ∀ y, y < 17 → [[AV.int IntKind.i64 ((dg M 0 : Nat) : Int), AV.int IntKind.i64 ((dg M 1 : Nat) : Int), AV.int IntKind.i64 ((dg M 2 : Nat) : Int), AV.int IntKind.i64 ((dg M 3 : Nat) : Int), AV.int IntKind.i64 ((dg M 4 : Nat) : Int), AV.int IntKind.i64 ((dg M 5 : Nat) : Int), AV.int IntKind.i64 ((dg M 6 : Nat) : Int), AV.int IntKind.i64 ((dg M 7 : Nat) : Int), AV.int IntKind.i64 ((dg M 8 : Nat) : Int), AV.int IntKind.i64 ((dg M 9 : Nat) : Int), AV.int IntKind.i64 ((dg M 10 : Nat) : Int), AV.int IntKind.i64 ((dg M 11 : Nat) : Int), AV.int IntKind.i64 ((dg M 12 : Nat) : Int), AV.int IntKind.i64 ((dg M 13 : Nat) : Int), AV.int IntKind.i64 ((dg M 14 : Nat) : Int), AV.int IntKind.i64 ((dg M 15 : Nat) : Int), AV.int IntKind.i64 ((dg M 16 : Nat) : Int)].getD y AV.any] = [AV.int IntKind.i64 ((dg M y : Nat) : Int)] := by
  apply lt17
  · apply lt16 <;> rfl
  · rfl
theorem tm16 (x : BitVec 8) : [AV.int IntKind.i64 (((x.toNat : Nat) : Int).tmod 16)] = [AV.int IntKind.i64 (((x &&& 15#8).toNat : Nat) : Int)] := by
  rw [and15, show ((x.toNat : Nat) : Int).tmod 16 = ((x.toNat % 16 : Nat) : Int) from tmod_nat _ 16]
theorem td4 (x : BitVec 8) : [AV.int IntKind.i64 (IntKind.i64.wrap (IntKind.i64.wrap (((x.toNat : Nat) : Int).tdiv 4) * 4))] = [AV.int IntKind.i64 (((x &&& 252#8).toNat : Nat) : Int)] := by
  have hx := x.isLt
  have t : ((x.toNat : Nat) : Int).tdiv 4 = ((x.toNat / 4 : Nat) : Int) := tdiv_nat _ 4
  have w1 : IntKind.i64.wrap ((x.toNat / 4 : Nat) : Int) = ((x.toNat / 4 : Nat) : Int) := wrap_nat _ rfl (by omega)
  have w2 : IntKind.i64.wrap (((x.toNat / 4 : Nat) : Int) * 4) = ((x.toNat / 4 * 4 : Nat) : Int) := wrap_nat _ (by simp) (by omega)
  rw [and252, t, w1, w2]
theorem st_byte (N : Nat) (b : By) (x i : Nat) : IntKind.i64.wrap (((dg N i : Nat) : Int) + (((b.getD (16 * x + i) 0).toNat : Nat) : Int)) = ((hI N b x (i + 1) i : Nat) : Int) ∧ (hI N b x i i = dg N i) ∧ ∀ y, y ≠ i → hI N b x (i + 1) y = hI N b x i y := by
  have h1 := dg_lt N i
  have h2 := (b.getD (16 * x + i) 0).isLt
  refine ⟨?_, by simp [hI], fun y hy => ?_⟩
  · have : hI N b x (i + 1) i = dg N i + (b.getD (16 * x + i) 0).toNat := by simp [hI]
    rw [this]
    exact wrap_nat _ (by simp) (by omega)
  · unfold hI
    by_cases c : y < i
    · rw [if_pos c, if_pos (by omega)]
    · rw [if_neg c, if_neg (by omega)]
theorem st_one (N : Nat) (b : By) (x n : Nat) (hn : n = min (b.length - 16 * x) 16) : IntKind.i64.wrap (((hI N b x n n : Nat) : Int) + 1) = ((hP N b x n : Nat) : Int) ∧ ∀ y, y < 17 → y ≠ n → hP N b x y = hI N b x n y := by
  have h1 := dg_lt N n
  have e0 : hI N b x n n = dg N n := by simp [hI]
  have e1 : hP N b x n = dg N n + 1 := by
    unfold hP partN
    rw [part_get b x n (by omega), ← hn, if_neg (by omega), if_pos rfl]
    rfl
  refine ⟨?_, fun y hy hne => ?_⟩
  · rw [e0, e1]; exact wrap_nat _ (by simp) (by omega)
  · unfold hP partN hI
    rw [part_get b x y hy, ← hn, if_neg (c := y = n) hne]
    by_cases c : y < n
    · rw [if_pos c, if_pos c]
    · rw [if_neg c, if_neg c]; rfl
theorem st_mul (h r : FN) (hh : ∀ i, h i ≤ 510) (hr : ∀ j, r j ≤ 255) (i j : Nat) (hi : i < 17) (hj : j < 16) :
    IntKind.i64.wrap (((plJ h r i j (i + j) : Nat) : Int) + IntKind.i64.wrap (((h i : Nat) : Int) * ((r j : Nat) : Int))) = ((plJ h r i (j + 1) (i + j) : Nat) : Int) ∧ ∀ y, y ≠ i + j → plJ h r i (j + 1) y = plJ h r i j y := by
  have hb : ∀ i j, i < 17 → j < 16 → h i * r j ≤ 130050 := fun i j _ _ => Nat.mul_le_mul (hh i) (hr j)
  have h1 := pl_lt h r 130050 hb i (by omega) (i + j)
  have h2 := hb i j hi hj
  have h3 : i * 130050 ≤ 17 * 130050 := Nat.mul_le_mul_right _ (by omega)
  have e0 : plJ h r i j (i + j) = pl h r i (i + j) := by unfold plJ; rw [if_neg (by omega)]; omega
  have e1 : plJ h r i (j + 1) (i + j) = pl h r i (i + j) + h i * r j := by
    unfold plJ; rw [if_pos (by omega), Nat.add_sub_cancel_left]
  have w1 : IntKind.i64.wrap (((h i : Nat) : Int) * ((r j : Nat) : Int)) = ((h i * r j : Nat) : Int) := wrap_nat _ (by simp) (by omega)
  refine ⟨?_, fun y hy => ?_⟩
  · rw [w1, e0, e1]; exact wrap_nat _ (by simp) (by omega)
  · unfold plJ
    by_cases c : i ≤ y ∧ y < i + j
    · rw [if_pos c, if_pos (by omega)]
    · rw [if_neg c, if_neg (by omega)]
theorem b19q (k : F8) (b : By) (hb : b.length < 1099511627776) : Must (bodyP Tryd.prog (U5c.withSym sym19) gl0 [] [(13, lsBq k b)] 6000 Tryd.f69 0 [aggB 32 k, .rb false b .unk] [] (retQ Tryd.prog Tryd.f69 0 (rt (aggB 16 (tagR k b))))) := by
  constructor
  rw [vc19q]
  set_option simprocs false in dsimp only
  repeat refine And.intro (of_decide_eq_true (by kernel_rfl)) ?_
  simp only [dI, true_and, and_true, implies_true]
  refine ⟨⟨0, ?_⟩, fun x hx => ?_⟩
  · refine ⟨by show 16 * 0 + 1 ≤ _; omega, rfl, rfl, ?_, fun y hy => by simp [HN, dg], rfl, rfl, rfl, rfl, rfl, rfl, rfl, rfl, rfl, rfl, rfl, rfl, rfl, rfl, rfl, rfl⟩
    apply lt16 <;> first | exact rfl | exact tm16 _ | exact td4 _
  replace hx : 16 * x < b.length + 16 := hx
  have hstep := step_val k b x
  refine brec (fun h => ?_) (fun h => ?_)
  · replace h : 16 * x < b.length := by have := dlt.1 h; omega
    obtain ⟨n, hn⟩ : ∃ n, n = min (b.length - 16 * x) 16 := ⟨_, rfl⟩
    have eM : min ((b.length : Int) - ((16 * x : Nat) : Int)) 16 = (n : Int) := by omega
    have wW : IntKind.i64.wrap ((b.length : Int) - ((16 * x : Nat) : Int)) = ((b.length - 16 * x : Nat) : Int) := wrap_nat _ (by omega) (by omega)
    have eN : min (((b.length - 16 * x : Nat) : Int)) 16 = (n : Int) := by omega
    have hH := hP_lt (HN k b x) b x
    have hR := rN_lt k
    have hv := st_one (HN k b x) b x n hn
    generalize hhp : hP (HN k b x) b x = hp at *
    simp only [eM, wW, eN, true_and]
    refine ⟨⟨0, ?_, rfl, fun y hy => one_eq (by simp [hI])⟩, fun i hi => ?_⟩
    · show ((0 : Nat) : Int) ≤ (n : Int); omega
    replace hi : (i : Int) ≤ (n : Int) := hi
    refine brec (fun h1 => ?_) (fun h1 => ?_)
    · replace h1 : i < n := by have := dlt.1 h1; omega
      have w1 : IntKind.i64.wrap ((i : Int) + 1) = ((i + 1 : Nat) : Int) := wrap_nat _ (by simp) (by omega)
      have w2 : IntKind.i64.wrap (((16 * x : Nat) : Int) + (i : Int)) = ((16 * x + i : Nat) : Int) := wrap_nat _ (by simp) (by omega)
      obtain ⟨s1, s2, s3⟩ := st_byte (HN k b x) b x i
      simp only [w1, w2, Int.toNat_natCast, s2, reduceIte]
      repeat refine And.intro (by first | omega | exact rfl) ?_
      refine ⟨i + 1, by omega, ?_, rfl, fun y hy => row1 s1 (s3 y)⟩
      show ((i + 1 : Nat) : Int) ≤ (n : Int); omega
    · obtain rfl : i = n := by have := ndlt.1 h1; omega
      simp only [Int.toNat_natCast, reduceIte]
      repeat refine And.intro (by first | omega | exact rfl) ?_
      refine ⟨⟨0, Nat.zero_le _, rfl, fun y hy => row1 hv.1 (fun e => hv.2 y hy e), fun y hy => rfl⟩, fun i2 hi2 => ?_⟩
      replace hi2 : i2 ≤ 17 := hi2
      refine brec (fun h2 => ?_) (fun h2 => ?_)
      · replace h2 : i2 < 17 := by have := dlt.1 h2; omega
        refine ⟨⟨0, Nat.zero_le _, rfl, fun y hy => one_eq (plJ_zero _ _ _ _).symm⟩, fun j hj => ?_⟩
        replace hj : j ≤ 16 := hj
        refine brec (fun h3 => ?_) (fun h3 => ?_)
        · replace h3 : j < 16 := by have := dlt.1 h3; omega
          have w1 : IntKind.i64.wrap ((j : Int) + 1) = ((j + 1 : Nat) : Int) := wrap_nat _ (by simp) (by omega)
          have w2 : IntKind.i64.wrap ((i2 : Int) + (j : Int)) = ((i2 + j : Nat) : Int) := wrap_nat _ (by simp) (by omega)
          obtain ⟨s1, s2⟩ := st_mul hp (rN k) hH hR i2 j h2 h3
          simp only [w1, w2, Int.toNat_natCast]
          repeat refine And.intro (by first | omega | exact rfl) ?_
          exact ⟨j + 1, by omega, h3, rfl, fun y hy => row1 s1 (s2 y)⟩
        · obtain rfl : j = 16 := by have := ndlt.1 h3; omega
          have w1 : IntKind.i64.wrap ((i2 : Int) + 1) = ((i2 + 1 : Nat) : Int) := wrap_nat _ (by simp) (by omega)
          exact ⟨i2 + 1, by omega, h2, w1.symm, fun y hy => one_eq (plJ_end _ _ _ _)⟩
      · obtain rfl : i2 = 17 := by have := ndlt.1 h2; omega
        have hb2 : ∀ i j, i < 17 → j < 16 → hp i * rN k j ≤ 130050 := fun i j _ _ => Nat.mul_le_mul (hH i) (hR j)
        have hok : okF (pl hp (rN k) 17) := fun y _ => by have := pl_lt hp (rN k) 130050 hb2 17 (by omega) y; omega
        have hot : okT (pl hp (rN k) 17) := ⟨pl_top hp (rN k) 17 (by omega) 39 (by omega), pl_top hp (rN k) 17 (by omega) 38 (by omega)⟩
        have w1 : IntKind.i64.wrap (((16 * x : Nat) : Int) + 16) = ((16 * (x + 1) : Nat) : Int) := wrap_nat _ (by omega) (by omega)
        refine ⟨by omega, okI_of _ hok hot, rfl, fun y hy => rfl, x + 1, by omega, ?_, w1.symm, fun y hy => (dg17_get _ y hy).trans ?_⟩
        · show 16 * (x + 1) + 1 ≤ _; omega
        · exact congrArg (fun M => [AV.int IntKind.i64 ((dg M y : Nat) : Int)]) hstep
  · replace h : b.length ≤ 16 * x := by have := ndlt.1 h; omega
    have e : (b.length + 15) / 16 = x := by omega
    rw [e]
    repeat refine And.intro (by first | exact Int.natCast_nonneg _ | omega | exact rfl) ?_
    exact rfl
end Go.Sym

namespace Go.Spec
theorem fV_V (b : F8) : ∀ n, fV b n = V (fun i => (b i).toNat) n
  | 0 => rfl
  | n + 1 => by simp only [fV, V]; rw [fV_V b n]
theorem rS_ok (k : F8) : okL (rS k) ∧ val5 (rS k) % PP = V (rN k) 16 % PP := by
  obtain ⟨h1, o, h2⟩ := num_ok (clampS k)
  refine ⟨h1, ?_⟩
  have e : fV (clampS k) 17 = V (rN k) 16 := by
    have e1 : fV (clampS k) 17 = fV (clampS k) 16 + (clampS k 16).toNat * 256 ^ 16 := rfl
    have e2 : (clampS k 16).toNat = 0 := rfl
    rw [e1, e2, Nat.zero_mul, Nat.add_zero, fV_V]
    rfl
  rw [← e, h2, Nat.add_mul_mod_self_left]
  rfl
theorem mod_step {a b c d e f P : Nat} (h1 : a % P = b % P) (h2 : c % P = d % P) (h3 : e % P = f % P) : (a + c) * e % P = (b + d) * f % P := by
  rw [Nat.mul_mod, Nat.add_mod, h1, h2, h3, ← Nat.add_mod, ← Nat.mul_mod]
theorem nS_val (k : F8) (b : By) : ∀ x, okL (nS (rS k) b x) ∧ val5 (nS (rS k) b x) % PP = HN k b x
  | 0 => by
    refine ⟨⟨?_, ?_, ?_, ?_, ?_⟩, rfl⟩ <;> exact of_decide_eq_true rfl
  | x + 1 => by
    obtain ⟨h1, h2⟩ := nS_val k b x
    obtain ⟨r1, r2⟩ := rS_ok k
    obtain ⟨p1, o, p2⟩ := num_ok (partF b x)
    obtain ⟨s1, q, s2⟩ := step_ok _ _ _ h1 p1 r1
    refine ⟨s1, ?_⟩
    have hp : val5 (car (numS (partF b x))) % PP = V (partN b x) 17 % PP := by
      have : V (partN b x) 17 = val5 (car (numS (partF b x))) + PP * o := by rw [← p2, fV_V]; rfl
      rw [this, Nat.add_mul_mod_self_left]
    have hn : val5 (nS (rS k) b x) % PP = HN k b x % PP := by
      rw [← h2, Nat.mod_mod]
    show val5 (car (car (mulS (plusS (nS (rS k) b x) (car (numS (partF b x)))) (rS k)))) % PP = (HN k b x + V (partN b x) 17) * V (rN k) 16 % PP
    rw [← mod_step hn hp r2, s2, Nat.add_mul_mod_self_left]
/-- What is carried from byte to byte. -/
def tT (h : FN) (k : F8) : Nat → Nat
  | 0 => h 0 + (k 16).toNat
  | i + 1 => tT h k i / 256 + (h (i + 1) + (k (16 + (i + 1))).toNat)
theorem tT_lt (h : FN) (k : F8) (hh : ∀ i, h i < 256) : ∀ i, tT h k i < 512
  | 0 => by have := hh 0; have := (k 16).isLt; simp only [tT]; omega
  | i + 1 => by have := hh (i + 1); have := (k (16 + (i + 1))).isLt; have := tT_lt h k hh i; simp only [tT]; omega
theorem xR_eq (h : FN) (k : F8) (hh : ∀ i, h i < 256) : ∀ i, xR h k i = ((tT h k i : Nat) : Int)
  | 0 => by
    have h1 := hh 0
    have h2 := (k 16).isLt
    have w : IntKind.i64.wrap (((h 0 : Nat) : Int) + (((k 16).toNat : Nat) : Int)) = ((h 0 + (k 16).toNat : Nat) : Int) := Go.Sym.wrap_nat _ (by omega) (by omega)
    simp only [xR, i64w, tT, w]
    exact Go.Sym.wrap_nat _ (by omega) (by omega)
  | i + 1 => by
    have h1 := hh (i + 1)
    have h2 := (k (16 + (i + 1))).isLt
    have h3 := tT_lt h k hh i
    have t : ((tT h k i : Nat) : Int).tdiv 256 = ((tT h k i / 256 : Nat) : Int) := Go.Sym.tdiv_nat _ 256
    have w : IntKind.i64.wrap (((h (i + 1) : Nat) : Int) + (((k (16 + (i + 1))).toNat : Nat) : Int)) = ((h (i + 1) + (k (16 + (i + 1))).toNat : Nat) : Int) := Go.Sym.wrap_nat _ (by omega) (by omega)
    have w2 : IntKind.i64.wrap ((tT h k i / 256 : Nat) : Int) = ((tT h k i / 256 : Nat) : Int) := Go.Sym.wrap_nat _ rfl (by omega)
    simp only [xR, i64w, tT, xR_eq h k hh i, t, w, w2]
    exact Go.Sym.wrap_nat _ (by omega) (by omega)
theorem sumT_eq (a : F8) (h : FN) (k : F8) (ha : ∀ i, i < 16 → (a i).toNat = h i) (hh : ∀ i, h i < 256) : ∀ i, i < 16 → sumT a k i = ((tT h k i : Nat) : Int)
  | 0, hi => by
    have h1 := hh 0
    have h2 := (k 16).isLt
    have w : IntKind.i64.wrap (((h 0 : Nat) : Int) + (((k 16).toNat : Nat) : Int)) = ((h 0 + (k 16).toNat : Nat) : Int) := Go.Sym.wrap_nat _ (by omega) (by omega)
    simp only [sumT, i64w, tT, ha 0 hi, w]
    try exact Go.Sym.wrap_nat _ (by omega) (by omega)
  | i + 1, hi => by
    have h1 := hh (i + 1)
    have h2 := (k (16 + (i + 1))).isLt
    have h3 := tT_lt h k hh i
    have t : ((tT h k i : Nat) : Int).fdiv (2 ^ (min 8 64)) = ((tT h k i / 256 : Nat) : Int) := by
      rw [Int.fdiv_eq_ediv_of_nonneg _ (by decide)]
      show ((tT h k i : Nat) : Int) / 256 = _
      omega
    have w : IntKind.i64.wrap (((h (i + 1) : Nat) : Int) + (((k (16 + (i + 1))).toNat : Nat) : Int)) = ((h (i + 1) + (k (16 + (i + 1))).toNat : Nat) : Int) := Go.Sym.wrap_nat _ (by omega) (by omega)
    simp only [sumT, i64w, tT, sumT_eq a h k ha hh i (by omega), t, ha (i + 1) hi, w]
    try exact Go.Sym.wrap_nat _ (by omega) (by omega)
/-- A byte of the tag. -/
def tagT (k : F8) (b : By) (i : Nat) : BitVec 8 := BitVec.ofNat 8 (tT (dg (HN k b ((b.length + 15) / 16))) k i)
theorem dg_lt' (N i : Nat) : dg N i < 256 := Nat.mod_lt _ (by omega)
theorem tagR_T (k : F8) (b : By) (i : Nat) : Go.Sym.tagR k b i = tagT k b i := by
  unfold Go.Sym.tagR outR tagT
  rw [xR_eq _ _ (fun i => dg_lt' _ i)]
  generalize tT (dg (HN k b ((b.length + 15) / 16))) k i = t
  have : ((t : Nat) : Int).tmod 256 = ((t % 256 : Nat) : Int) := Go.Sym.tmod_nat _ 256
  rw [this, BitVec.ofInt_natCast]
  apply BitVec.eq_of_toNat_eq
  simp
theorem tagS_T (k : F8) (b : By) (i : Nat) (hi : i < 16) : tagS k b i = tagT k b i := by
  unfold tagS sumS tagT
  obtain ⟨h1, h2⟩ := nS_val k b ((b.length + 15) / 16)
  obtain ⟨h3, h4⟩ := least_ok _ h1
  have hb := byte_ok _ h3
  rw [h4, h2] at hb
  rw [sumT_eq _ (dg (HN k b ((b.length + 15) / 16))) k hb (fun i => dg_lt' _ i) i hi, BitVec.ofInt_natCast]
end Go.Spec

namespace Go.Sym
open Go.Proofs Go.Spec
set_option linter.unusedVariables false
noncomputable def T1 : Ctx := U5c.add 69 (mkF sp18)
end Go.Sym

namespace Go.Sym
open Go.Proofs Go.Spec
set_option linter.unusedVariables false
theorem okQ1 : COKs Tryd.prog gl0 Q1 := okK11.add <| by
  refine ctrE (fn := Tryd.f93) [] 3000 (by kernel_rfl) (by kernel_rfl) okK11 (by kernel_rfl) (fun args w => by kernel_rfl) fun xs bs r hs ho => ?_
  obtain ⟨rfl, h2⟩ := spK_sel hs
  clear hs
  have hs := h2
  clear h2
  unfold g41 at hs
  split at hs
  · obtain ⟨x, e, hs⟩ := asD_sel hs
    simp only [TL.sel, Option.some.injEq] at hs
    subst hs
    rw [e]
    exact ⟨_, b41 _⟩
  · simp [TL.sel] at hs
theorem okQ2 : COKs Tryd.prog gl0 Q2 := okQ1.add <| by
  refine ctrE (fn := Tryd.f81) [] 3000 (by kernel_rfl) (by kernel_rfl) okQ1 (by kernel_rfl) (fun args w => by kernel_rfl) fun xs bs r hs ho => ?_
  obtain ⟨rfl, h2⟩ := spK_sel hs
  clear hs
  have hs := h2
  clear h2
  unfold g32 at hs
  split at hs
  · obtain ⟨x, e, hs⟩ := asB_sel hs
    simp only [TL.sel, Option.some.injEq] at hs
    subst hs
    rw [e]
    exact ⟨_, b32 _⟩
  · simp [TL.sel] at hs
theorem okQ3 : COKs Tryd.prog gl0 Q3 := okQ2.add <| by
  refine ctrE (fn := Tryd.f78) [] 3000 (by kernel_rfl) (by kernel_rfl) okQ2 (by kernel_rfl) (fun args w => by kernel_rfl) fun xs bs r hs ho => ?_
  obtain ⟨rfl, h2⟩ := spK_sel hs
  clear hs
  have hs := h2
  clear h2
  unfold g29 at hs
  split at hs
  · obtain ⟨x, e, hs⟩ := asB_sel hs
    simp only [TL.sel, Option.some.injEq] at hs
    subst hs
    rw [e]
    exact ⟨_, b29 _⟩
  · simp [TL.sel] at hs
theorem okQ4 : COKs Tryd.prog gl0 Q4 := okQ3.add <| by
  refine ctrE (fn := Tryd.f80) [] 3000 (by kernel_rfl) (by kernel_rfl) okQ3 (by kernel_rfl) (fun args w => by kernel_rfl) fun xs bs r hs ho => ?_
  obtain ⟨rfl, h2⟩ := spK_sel hs
  clear hs
  have hs := h2
  clear h2
  unfold g31 at hs
  split at hs
  · obtain ⟨x, e, hs⟩ := asD_sel hs
    obtain ⟨y, e2, hs⟩ := asD_sel hs
    simp only [TL.sel, Option.some.injEq] at hs
    subst hs
    rw [e, e2]
    exact ⟨_, b31q _ _⟩
  · simp [TL.sel] at hs
theorem okQ5 : COKs Tryd.prog gl0 Q5 := okQ4.add <| by
  refine ctrE (fn := Tryd.f79) [] 3000 (by kernel_rfl) (by kernel_rfl) okQ4 (by kernel_rfl) (fun args w => by kernel_rfl) fun xs bs r hs ho => ?_
  obtain ⟨rfl, h2⟩ := spK_sel hs
  clear hs
  have hs := h2
  clear h2
  unfold g30 at hs
  split at hs
  · obtain ⟨x, e, hs⟩ := asD_sel hs
    obtain ⟨y, e2, hs⟩ := asD_sel hs
    simp only [TL.sel, Option.some.injEq] at hs
    subst hs
    rw [e, e2]
    exact ⟨_, b30q _ _⟩
  · simp [TL.sel] at hs
theorem okQ6 : COKs Tryd.prog gl0 Q6 := okQ5.add <| by
  refine ctrE (fn := Tryd.f83) [] 3000 (by kernel_rfl) (by kernel_rfl) okQ5 (by kernel_rfl) (fun args w => by kernel_rfl) fun xs bs r hs ho => ?_
  obtain ⟨rfl, h2⟩ := spK_sel hs
  clear hs
  have hs := h2
  clear h2
  unfold g34 at hs
  split at hs
  · obtain ⟨x, e, hs⟩ := asD_sel hs
    simp only [TL.sel, Option.some.injEq] at hs
    subst hs
    rw [e]
    exact ⟨_, b34 _⟩
  · simp [TL.sel] at hs
theorem okQ7 : COKs Tryd.prog gl0 Q7 := okQ6.exe [] 3000 _ (by kernel_rfl) (by kernel_rfl) (by kernel_rfl) (fun args w => by kernel_rfl)
theorem okQ8 : COKs Tryd.prog gl0 Q8 := okQ6.add <| by
  refine ctrE (fn := Tryd.f82) [] 3000 (by kernel_rfl) (by kernel_rfl) okQ7 (by kernel_rfl) (fun args w => by kernel_rfl) fun xs bs r hs ho => ?_
  obtain ⟨rfl, h2⟩ := spK_sel hs
  clear hs
  have hs := h2
  clear h2
  unfold g33 at hs
  split at hs
  · obtain ⟨x, e, hs⟩ := asD_sel hs
    obtain ⟨y, e2, hs⟩ := asB_sel hs
    simp only [TL.sel, Option.some.injEq] at hs
    subst hs
    rw [e, e2]
    exact ⟨_, b33q _ _⟩
  · simp [TL.sel] at hs
theorem sp18_sel {xs : List AV} {bs : List ABlk} {r : RL} (h : (sp18.G xs bs).sel = some r) : bs = [] ∧ (g18 xs).sel = some r := by
  simp only [sp18] at h
  split at h
  · exact ⟨rfl, h⟩
  · simp [TL.sel] at h
theorem okQ9 : COKs Tryd.prog gl0 Q9 := okQ8.add <| by
  refine ctrE (fn := Tryd.f67) [] 3000 (by kernel_rfl) (by kernel_rfl) (okQ8.withSym sym18) (by kernel_rfl) (fun args w => by kernel_rfl) fun xs bs r hs ho => ?_
  obtain ⟨rfl, h2⟩ := sp18_sel hs
  clear hs
  have hs := h2
  clear h2
  unfold g18 at hs
  split at hs
  · obtain ⟨k, e, hs⟩ := asB_sel hs
    simp only [TL.sel, Option.some.injEq] at hs
    subst hs
    rw [e]
    exact ⟨_, b18q _ _ (obsT_one.1 ho)⟩
  · simp [TL.sel] at hs
theorem okU0 : COKs Tryd.prog gl0 U0 := okK11.exe [] 3000 _ (by kernel_rfl) (by kernel_rfl) (by kernel_rfl) (fun args w => by kernel_rfl)
theorem asI_sel {n : Nat} {cs : List AV} {k : List Int → TL} {r : RL} (h : (asI n cs k).sel = some r) : ∃ L : List Int, L.length = n ∧ cs = L.map (AV.int .i64) ∧ (k L).sel = some r := by
  unfold asI at h
  split at h
  · rename_i l hl
    split at h
    · rename_i hn
      exact ⟨_, by simpa using hn, rdI_eq hl, h⟩
    · simp [TL.sel] at h
  · simp [TL.sel] at h
theorem agN_of (L : List Int) (h : L.length = 40) (ho : okI L) : AV.agg (L.map (AV.int .i64)) = agN 40 (fun i => (L.getD i 0).toNat) := by
  unfold agN
  congr 1
  apply List.ext_getElem
  · simp [h]
  · intro i h1 h2
    have hi : i < L.length := by simpa using h1
    have := (ho.1 i (by omega)).1
    simp only [List.getElem_map, List.getElem_range, AV.int.injEq, true_and]
    simp only [List.getD, List.getElem?_eq_getElem hi, Option.getD_some] at this ⊢
    omega
theorem okU5 : COKs Tryd.prog gl0 U5c := okQ9.add <| by
  refine ctrE (fn := Tryd.f86) [] 3000 (by kernel_rfl) (by kernel_rfl) (okU0.withSym sym35) (by kernel_rfl) (fun args w => by kernel_rfl) fun xs bs r hs ho => ?_
  obtain ⟨rfl, h2⟩ := spK_sel hs
  clear hs
  have hs := h2
  clear h2
  unfold g35 at hs
  split at hs
  · obtain ⟨L, hl, e, hs⟩ := asI_sel hs
    simp only [TL.sel, Option.some.injEq] at hs
    subst hs
    have ok := obsT_one.1 ho
    subst e
    have hf : okF (fun i => (L.getD i 0).toNat) := fun y hy => by have := ok.1 y hy; show (L.getD y 0).toNat < _; omega
    have ht : okT (fun i => (L.getD i 0).toNat) := ⟨by show (L.getD 39 0).toNat = 0; rw [ok.2.1]; rfl, by show (L.getD 38 0).toNat = 0; rw [ok.2.2]; rfl⟩
    rw [agN_of L hl ok]
    have b := b35 _ hf ht
    rw [(rnd4 _ hf).2] at b
    exact ⟨_, b⟩
  · simp [TL.sel] at hs
theorem okT1 : COKs Tryd.prog gl0 T1 := okU5.add <| by
  refine ctrE (fn := Tryd.f69) [] 6000 (by kernel_rfl) (by kernel_rfl) (okU5.withSym sym19) (by kernel_rfl) (fun args w => by kernel_rfl) fun xs bs r hs ho => ?_
  obtain ⟨rfl, h2⟩ := sp18_sel hs
  clear hs
  have hs := h2
  clear h2
  unfold g18 at hs
  split at hs
  · obtain ⟨k, e, hs⟩ := asB_sel hs
    simp only [TL.sel, Option.some.injEq] at hs
    subst hs
    rw [e]
    have b := b19q k (by assumption) (obsT_one.1 ho)
    rw [aggB_congr (fun i hi => (tagR_T k _ i).trans (tagS_T k _ i hi).symm)] at b
    exact ⟨_, b⟩
  · simp [TL.sel] at hs
end Go.Sym
