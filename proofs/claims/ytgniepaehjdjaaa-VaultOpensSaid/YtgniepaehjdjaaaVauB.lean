/- The same: shown. -/
import Derived.Test.YtgniepaehjdjaaaVauA
set_option linter.unusedSimpArgs false
namespace Go.Sym
open Go.Proofs Go.Spec
set_option linter.unusedVariables false
theorem not_dec {p : Prop} [Decidable p] (h : p) : (!decide p) = false := by rw [decide_eq_true h]; rfl
theorem not_dec' {p : Prop} [Decidable p] (h : ¬ p) : (!decide p) = true := by rw [decide_eq_false h]; rfl
theorem bv48 (k : F8) (c o g : Int) (b : By) (hb : b.length + 512 < 1099511627776) : Must (bodyP Try.prog V7 gl0 [] [] 3000 Try.f48 0 [aggB 32 k, vN c o g, .rb false b .unk] [] (retQ Try.prog Try.f48 0 (rT2 (.bool (vaK c o g b)) (vaM k c o g b).length (vaM k c o g b)))) := by
  constructor
  rw [vv48]
  have hs := sealL_length k (vnN c) b (vnH c o g)
  by_cases h : vaK c o g b = true
  · have h0 := h
    unfold vaK at h0
    rw [Bool.and_eq_true, vnOk_iff, decide_eq_true_eq] at h0
    obtain ⟨⟨h1, h2, h3, h4, h5, h6⟩, h7⟩ := h0
    rw [not_dec' (show ¬ c < 0 by omega), not_dec' (show ¬ 2147483647 < c by omega), not_dec' (show ¬ o < 0 by omega), not_dec' (show ¬ 65535 < o by omega), not_dec' (show ¬ g < 0 by omega), not_dec' (show ¬ 2147483647 < g by omega), decide_eq_false (show ¬ ((30000 : Int) < b.length) by omega)]
    have hM : vaM k c o g b = vaS k c o g b := by unfold vaM; rw [if_pos h]
    rw [hM]
    have hH : vnH c o g = [BitVec.ofInt 8 (c.fdiv (Int.ofNat 16777216)), BitVec.ofInt 8 (c.fdiv (Int.ofNat 65536)), BitVec.ofInt 8 (c.fdiv (Int.ofNat 256)), BitVec.ofInt 8 c, BitVec.ofInt 8 (o.fdiv (Int.ofNat 256)), BitVec.ofInt 8 o, BitVec.ofInt 8 (g.fdiv (Int.ofNat 16777216)), BitVec.ofInt 8 (g.fdiv (Int.ofNat 65536)), BitVec.ofInt 8 (g.fdiv (Int.ofNat 256)), BitVec.ofInt 8 g] := by
      unfold vnH; rw [puL4 h1, puL2 h3, puL4 h5]; rfl
    have hN : re12 (vnN c) = re12 (fun (i : Nat) => (rgA (fun (i : Nat) => BitVec.ofNat 8 0) 0 8 [BitVec.ofInt 8 (c.fdiv (Int.ofNat 16777216)), BitVec.ofInt 8 (c.fdiv (Int.ofNat 65536)), BitVec.ofInt 8 (c.fdiv (Int.ofNat 256)), BitVec.ofInt 8 c]).getD i (0 : BitVec 8)) := by
      unfold vnN; rw [puL4 h1]; rfl
    have hS := sealL_cg (re_32 k) hN.symm b (vnH c o g)
    rw [← hH]
    have hX : ∀ S : By, S = sealL k (vnN c) b (vnH c o g) → (0 < 10 ∧ 0 < (vnH c o g).length ∧ 1 < 10 ∧ 1 < (vnH c o g).length ∧ 2 < 10 ∧ 2 < (vnH c o g).length ∧ 3 < 10 ∧ 3 < (vnH c o g).length ∧ 10 = (vnH c o g).length ∧ 0 = 0 ∧ roomFor 0 (vnH c o g).length 1 ∧ 10 = (vnH c o g).length ∧ List.length b + (vnH c o g).length + 256 < 1099511627776 ∧ List.length b + 16 = List.length S ∧ 0 + (vnH c o g).length = ([] ++ (vnH c o g)).length ∧ roomFor (0 + (vnH c o g).length) (List.length S) 1 ∧ 0 = 0 ∧ 0 = 0 ∧ 0 = 0 ∧ (vaS k c o g b).length = 0 + (vnH c o g).length + List.length S ∧ vaK c o g b = Bool.true ∧ vaS k c o g b = [] ++ (vnH c o g) ++ S ∧ True) := by
      intro S e
      subst e
      have hh := vnH_len c o g
      rw [vaS_len, hh]
      refine ⟨by omega, by omega, by omega, by omega, by omega, by omega, by omega, by omega, rfl, rfl, by unfold roomFor; omega, rfl, by omega, hs.symm, by rw [List.nil_append, hh], by unfold roomFor; rw [hs]; omega, rfl, rfl, rfl, by rw [hs]; omega, h, rfl, trivial⟩
    refine hX _ ?_
    rw [← hS, hH]
    rfl
  · have hK : vaK c o g b = false := by simpa using h
    have hM : vaM k c o g b = [] := by unfold vaM; rw [hK]; rfl
    rw [hM, hK]
    unfold vaK at hK
    by_cases a1 : c < 0
    · rw [not_dec a1]; exact ⟨rfl, rfl, rfl, trivial⟩
    rw [not_dec' a1]
    by_cases a2 : 2147483647 < c
    · rw [not_dec a2]; exact ⟨rfl, rfl, rfl, trivial⟩
    rw [not_dec' a2]
    by_cases a3 : o < 0
    · rw [not_dec a3]; exact ⟨rfl, rfl, rfl, trivial⟩
    rw [not_dec' a3]
    by_cases a4 : 65535 < o
    · rw [not_dec a4]; exact ⟨rfl, rfl, rfl, trivial⟩
    rw [not_dec' a4]
    by_cases a5 : g < 0
    · rw [not_dec a5]; exact ⟨rfl, rfl, rfl, trivial⟩
    rw [not_dec' a5]
    by_cases a6 : 2147483647 < g
    · rw [not_dec a6]; exact ⟨rfl, rfl, rfl, trivial⟩
    rw [not_dec' a6]
    have e : vnOk c o g = true := vnOk_iff.2 (by omega)
    rw [e, Bool.true_and, decide_eq_false_iff_not] at hK
    rw [decide_eq_true (show (30000 : Int) < b.length by omega)]
    exact ⟨rfl, rfl, rfl, trivial⟩
theorem bv51 (b : By) : Must (bodyP Try.prog V7 gl0 [] [] 3000 Try.f51 0 [.rb false b .unk] [] (retQ Try.prog Try.f51 0 ⟨[], .tup [vN (vrC b) (vrO b) (vrG b), .int .i64 (vrE b)], [], []⟩)) := by
  constructor
  rw [vv51]
  by_cases h : b.length < 26
  · have hE : vrE b = 2 := by unfold vrE; rw [if_pos h]
    unfold vrC vrO vrG
    rw [hE, decide_eq_true (show (b.length : Int) < 26 by omega)]
    exact ⟨rfl, rfl, rfl, rfl, trivial⟩
  rw [decide_eq_false (show ¬ ((b.length : Int) < 26) by omega)]
  by_cases h2 : 30026 < b.length
  · have hE : vrE b = 3 := by unfold vrE; rw [if_neg h, if_pos h2]
    unfold vrC vrO vrG
    rw [hE, decide_eq_true (show (30026 : Int) < b.length by omega)]
    exact ⟨rfl, rfl, rfl, rfl, trivial⟩
  rw [decide_eq_false (show ¬ ((30026 : Int) < b.length) by omega)]
  have hT : (b.take 10).length = 10 := by rw [List.length_take]; omega
  obtain ⟨k1, k2, k3⟩ := ui_ok (L := b.take 10) (x := 0) (w := 4) (by omega) (by omega) (by rw [hT]; decide)
  obtain ⟨j1, j2, j3⟩ := ui_ok (L := b.take 10) (x := 4) (w := 2) (by omega) (by omega) (by rw [hT]; decide)
  obtain ⟨i1, i2, i3⟩ := ui_ok (L := b.take 10) (x := 6) (w := 4) (by omega) (by omega) (by rw [hT]; decide)
  have e1 : ((b.take 10).drop 0).take (4 : Int).toNat = b.take 4 := by rw [List.drop_zero, List.take_take]; rfl
  have e2 : ((b.take 10).drop 4).take (2 : Int).toNat = (b.drop 4).take 2 := by rw [List.drop_take, List.take_take]; rfl
  have e3 : ((b.take 10).drop 6).take (4 : Int).toNat = (b.drop 6).take 4 := by rw [List.drop_take, List.take_take]; rfl
  have n1 : 0 + (4 : Int).toNat = 4 := rfl
  have n2 : 4 + (2 : Int).toNat = 6 := rfl
  rw [n1] at k2
  rw [n2] at j2
  simp only [k1, k2, k3, j1, j2, j3, i3, e1, e2, e3]
  refine ⟨by omega, by omega, by omega, by omega, by omega, by omega, by omega, by omega, ?_⟩
  change @Bool.rec (fun _ => Prop) _ _ (!vrW b)
  cases h3 : vrW b
  · have hE : vrE b = 3 := by unfold vrE; rw [if_neg h, if_neg h2, h3]; rfl
    unfold vrC vrO vrG
    rw [hE]
    exact ⟨rfl, rfl, rfl, rfl, trivial⟩
  · have hE : vrE b = 0 := by unfold vrE; rw [if_neg h, if_neg h2, h3]; rfl
    unfold vrC vrO vrG
    rw [hE]
    exact ⟨rfl, rfl, rfl, rfl, trivial⟩
theorem vrE_ok {b : By} (h : vrE b = 0) : 26 ≤ b.length ∧ b.length ≤ 30026 ∧ vrW b = true := by
  unfold vrE at h
  split at h
  · omega
  split at h
  · omega
  split at h
  · exact ⟨by omega, by omega, by assumption⟩
  · omega
theorem bv50 (k : F8) (b : By) (hb : b.length + 512 < 1099511627776) : Must (bodyP Try.prog V10 gl0 [] [] 3000 Try.f50 0 [aggB 32 k, .rb false b .unk] [] (retQ Try.prog Try.f50 0 (rT3 (voC k b) (voO k b) (voG k b) (voE k b) (voM k b).length (voM k b)))) := by
  constructor
  rw [vv50]
  by_cases h : vrE b = 0
  · rw [not_dec h]
    obtain ⟨l1, l2, l3⟩ := vrE_ok h
    have c1 : vrC b = beN (b.take 4) := by unfold vrC; rw [if_pos h]
    have c2 : vrO b = beN ((b.drop 4).take 2) := by unfold vrO; rw [if_pos h]
    have c3 : vrG b = beN ((b.drop 6).take 4) := by unfold vrG; rw [if_pos h]
    rw [openE_cg (re_32 k) (re_12 _), openM_cg (re_32 k) (re_12 _), c1, c2, c3]
    have hv : voE k b = openE k (vnN (beN (b.take 4))) (b.drop 10) (b.take 10) := by unfold voE; rw [if_pos h]
    refine ⟨l3, by omega, by omega, by rw [List.length_drop, List.length_take]; omega, ?_⟩
    by_cases h2 : voE k b = 0
    · unfold voC voO voG voM
      rw [h2, if_pos rfl, if_pos rfl, if_pos rfl, if_pos rfl, not_dec (hv ▸ h2)]
      exact ⟨rfl, rfl, rfl, rfl, rfl, rfl, rfl, rfl, rfl, trivial⟩
    · unfold voC voO voG voM
      rw [if_neg h2, if_neg h2, if_neg h2, if_neg h2, not_dec' (hv ▸ h2)]
      exact ⟨rfl, rfl, rfl, rfl, hv, rfl, trivial⟩
  · rw [not_dec' h]
    have hv : voE k b = vrE b := by unfold voE; rw [if_neg h]
    unfold voC voO voG voM
    rw [hv, if_neg h, if_neg h, if_neg h, if_neg h]
    exact ⟨rfl, rfl, rfl, rfl, rfl, rfl, trivial⟩
end Go.Sym

set_option linter.unusedSimpArgs false
namespace Go.Sym
open Go.Proofs Go.Spec
set_option linter.unusedVariables false
theorem be4 (b0 b1 b2 b3 : BitVec 8) : beN [b0, b1, b2, b3] = b0.toNat * 16777216 + b1.toNat * 65536 + b2.toNat * 256 + b3.toNat := by
  show (((0 * 256 + b0.toNat) * 256 + b1.toNat) * 256 + b2.toNat) * 256 + b3.toNat = _
  omega
theorem be2 (b0 b1 : BitVec 8) : beN [b0, b1] = b0.toNat * 256 + b1.toNat := by
  show (0 * 256 + b0.toNat) * 256 + b1.toNat = _
  omega
theorem wr4 (b0 b1 b2 b3 : BitVec 8) : IntKind.i64.wrap (IntKind.i64.wrap (IntKind.i64.wrap (IntKind.i64.wrap ((b0.toNat : Int) * Int.ofNat 16777216) + IntKind.i64.wrap ((b1.toNat : Int) * Int.ofNat 65536)) + IntKind.i64.wrap ((b2.toNat : Int) * Int.ofNat 256)) + (b3.toNat : Int)) = (beN [b0, b1, b2, b3] : Int) := by
  have h0 := b0.isLt
  have h1 := b1.isLt
  have h2 := b2.isLt
  have h3 := b3.isLt
  rw [be4]
  have e0 : IntKind.i64.wrap ((b0.toNat : Int) * Int.ofNat 16777216) = ((b0.toNat * 16777216 : Nat) : Int) := wrap_nat _ (by rw [Int.natCast_mul]; rfl) (by omega)
  have e1 : IntKind.i64.wrap ((b1.toNat : Int) * Int.ofNat 65536) = ((b1.toNat * 65536 : Nat) : Int) := wrap_nat _ (by rw [Int.natCast_mul]; rfl) (by omega)
  have e2 : IntKind.i64.wrap ((b2.toNat : Int) * Int.ofNat 256) = ((b2.toNat * 256 : Nat) : Int) := wrap_nat _ (by rw [Int.natCast_mul]; rfl) (by omega)
  rw [e0, e1, e2]
  have f1 : IntKind.i64.wrap (((b0.toNat * 16777216 : Nat) : Int) + ((b1.toNat * 65536 : Nat) : Int)) = ((b0.toNat * 16777216 + b1.toNat * 65536 : Nat) : Int) := wrap_nat _ (by omega) (by omega)
  rw [f1]
  have f2 : IntKind.i64.wrap (((b0.toNat * 16777216 + b1.toNat * 65536 : Nat) : Int) + ((b2.toNat * 256 : Nat) : Int)) = ((b0.toNat * 16777216 + b1.toNat * 65536 + b2.toNat * 256 : Nat) : Int) := wrap_nat _ (by omega) (by omega)
  rw [f2]
  exact wrap_nat _ (by omega) (by omega)
theorem wr2 (b0 b1 : BitVec 8) : IntKind.i64.wrap (IntKind.i64.wrap ((b0.toNat : Int) * Int.ofNat 256) + (b1.toNat : Int)) = (beN [b0, b1] : Int) := by
  have h0 := b0.isLt
  have h1 := b1.isLt
  rw [be2]
  have e0 : IntKind.i64.wrap ((b0.toNat : Int) * Int.ofNat 256) = ((b0.toNat * 256 : Nat) : Int) := wrap_nat _ (by rw [Int.natCast_mul]; rfl) (by omega)
  rw [e0]
  exact wrap_nat _ (by omega) (by omega)
theorem openK_iff (k n : F8) (b m : By) : openK k n b m = decide (openE k n b m = 0) := by
  unfold openK openE
  split
  · rfl
  split
  · rfl
  · rfl
theorem openE_4 {k n : F8} {b m : By} (h : 16 ≤ b.length) (h2 : openE k n b m ≠ 0) : openE k n b m = 4 := by
  unfold openE at h2 ⊢
  rw [if_neg (by omega)] at h2 ⊢
  split at h2
  · exact absurd rfl h2
  · rename_i h3; rw [if_neg h3]
theorem bv52 (k : F8) (b : By) (hb : b.length + 512 < 1099511627776) : Must (bodyP Try.prog V10 gl0 [] [] 3000 Try.f52 0 [aggB 32 k, .rb false b .unk] [] (retQ Try.prog Try.f52 0 (rT3 (voC k b) (voO k b) (voG k b) (voE k b) (voM k b).length (voM k b)))) := by
  constructor
  rw [vv52]
  by_cases h : b.length < 26
  · have hE : vrE b = 2 := by unfold vrE; rw [if_pos h]
    have hv : voE k b = 2 := by unfold voE; rw [hE]; rfl
    unfold voC voO voG voM
    rw [hv, decide_eq_true (show (b.length : Int) < 26 by omega)]
    exact ⟨rfl, rfl, rfl, rfl, rfl, rfl, trivial⟩
  rw [decide_eq_false (show ¬ ((b.length : Int) < 26) by omega)]
  by_cases h2 : 30026 < b.length
  · have hE : vrE b = 3 := by unfold vrE; rw [if_neg h, if_pos h2]
    have hv : voE k b = 3 := by unfold voE; rw [hE]; rfl
    unfold voC voO voG voM
    rw [hv, not_dec (show (30026 : Int) < b.length by omega)]
    exact ⟨rfl, rfl, rfl, rfl, rfl, rfl, trivial⟩
  rw [not_dec' (show ¬ ((30026 : Int) < b.length) by omega)]
  obtain ⟨b0, b1, b2, b3, b4, b5, b6, b7, b8, b9, r, e⟩ := list10 b (by omega)
  have g0 : b.getD 0 0 = b0 := by rw [e]; rfl
  have g1 : b.getD 1 0 = b1 := by rw [e]; rfl
  have g2 : b.getD 2 0 = b2 := by rw [e]; rfl
  have g3 : b.getD 3 0 = b3 := by rw [e]; rfl
  have g4 : b.getD 4 0 = b4 := by rw [e]; rfl
  have g5 : b.getD 5 0 = b5 := by rw [e]; rfl
  have g6 : b.getD 6 0 = b6 := by rw [e]; rfl
  have g7 : b.getD 7 0 = b7 := by rw [e]; rfl
  have g8 : b.getD 8 0 = b8 := by rw [e]; rfl
  have g9 : b.getD 9 0 = b9 := by rw [e]; rfl
  have t1 : b.take 4 = [b0, b1, b2, b3] := by rw [e]; rfl
  have t2 : (b.drop 4).take 2 = [b4, b5] := by rw [e]; rfl
  have t3 : (b.drop 6).take 4 = [b6, b7, b8, b9] := by rw [e]; rfl
  have q0 := b0.isLt
  have q1 := b1.isLt
  have q2 := b2.isLt
  have q3 := b3.isLt
  have q4 := b4.isLt
  have q5 := b5.isLt
  have q6 := b6.isLt
  have q7 := b7.isLt
  have q8 := b8.isLt
  have q9 := b9.isLt
  clear e
  simp only [g0, g1, g2, g3, g4, g5, g6, g7, g8, g9]
  have hW : vrW b = (decide (b0.toNat ≤ 127) && decide (b6.toNat ≤ 127)) := by
    unfold vrW
    rw [t1, t2, t3, be4, be4, be2, Bool.eq_iff_iff, vnOk_iff, Bool.and_eq_true, decide_eq_true_eq, decide_eq_true_eq]
    omega
  have bad : vrW b = false → (voC k b = 0 ∧ voO k b = 0 ∧ voG k b = 0 ∧ (voM k b).length = 0 ∧ voE k b = 3 ∧ voM k b = [] ∧ True) := by
    intro hw
    have hE : vrE b = 3 := by unfold vrE; rw [if_neg h, if_neg h2, hw]; rfl
    have hv : voE k b = 3 := by unfold voE; rw [hE]; rfl
    unfold voC voO voG voM
    rw [hv]
    exact ⟨rfl, rfl, rfl, rfl, rfl, rfl, trivial⟩
  refine ⟨by omega, ?_⟩
  by_cases h3 : 127 < b0.toNat
  · rw [not_dec h3]
    exact bad (by rw [hW, decide_eq_false (by omega)]; rfl)
  rw [not_dec' h3]
  refine ⟨by omega, ?_⟩
  by_cases h4 : 127 < b6.toNat
  · rw [decide_eq_true h4]
    exact bad (by rw [hW, decide_eq_false (show ¬ b6.toNat ≤ 127 by omega), Bool.and_false])
  rw [decide_eq_false h4]
  have hw : vrW b = true := by rw [hW, decide_eq_true (show b0.toNat ≤ 127 by omega), decide_eq_true (show b6.toNat ≤ 127 by omega)]; rfl
  have hE : vrE b = 0 := by unfold vrE; rw [if_neg h, if_neg h2, if_pos hw]
  have hN : re12 (fun (i : Nat) => (rgA (fun (i : Nat) => BitVec.ofNat 8 0) 0 8 [b0, b1, b2, b3]).getD i (0 : BitVec 8)) = re12 (vnN (beN (b.take 4))) := by
    rw [t1, vnN_beN]; rfl
  refine allP_of _ _ (fun j h1 h2 => by omega) ⟨by omega, by omega, by omega, by omega, by omega, by omega, by rw [List.length_drop, List.length_take]; omega, ?_⟩
  rw [openK_cg (re_32 k) hN, openM_cg (re_32 k) hN, openK_iff, wr4, wr4, wr2]
  have hv : voE k b = openE k (vnN (beN (b.take 4))) (b.drop 10) (b.take 10) := by unfold voE; rw [if_pos hE]
  by_cases h5 : voE k b = 0
  · rw [← hv, not_dec h5]
    unfold voC voO voG voM
    rw [if_pos h5, if_pos h5, if_pos h5, if_pos h5, t1, t2, t3]
    and_intros <;> first | rfl | trivial | exact h5
  · rw [← hv, not_dec' h5]
    unfold voC voO voG voM
    rw [if_neg h5, if_neg h5, if_neg h5, if_neg h5]
    exact ⟨rfl, rfl, rfl, rfl, by rw [hv]; exact openE_4 (by rw [List.length_drop]; omega) (hv ▸ h5), rfl, trivial⟩
theorem cv46 : COK Try.prog gl0 46 (mkF sp46) := by
  refine ctrE (fn := Try.f46) [] 3000 (by kernel_rfl) (by kernel_rfl) okV7 (by kernel_rfl) (fun args w => by kernel_rfl) fun xs bs r hs ho => ?_
  simp only [sp46, gv46] at hs
  split at hs
  · obtain ⟨k, e, hs⟩ := asB_sel hs
    simp only [TL.sel, Option.some.injEq] at hs
    subst hs
    rw [e]
    exact ⟨_, bv46 k _ _ _ _ (obsT_one.1 ho)⟩
  · simp [TL.sel] at hs
theorem cv48 : COK Try.prog gl0 48 (mkF sp48) := by
  refine ctrE (fn := Try.f48) [] 3000 (by kernel_rfl) (by kernel_rfl) okV7 (by kernel_rfl) (fun args w => by kernel_rfl) fun xs bs r hs ho => ?_
  simp only [sp48, gv48] at hs
  split at hs
  · obtain ⟨k, e, hs⟩ := asB_sel hs
    simp only [TL.sel, Option.some.injEq] at hs
    subst hs
    rw [e]
    exact ⟨_, bv48 k _ _ _ _ (obsT_one.1 ho)⟩
  · simp [TL.sel] at hs
theorem cv51 : COK Try.prog gl0 51 (mkF sp51) := by
  refine ctrE (fn := Try.f51) [] 3000 (by kernel_rfl) (by kernel_rfl) okV7 (by kernel_rfl) (fun args w => by kernel_rfl) fun xs bs r hs ho => ?_
  simp only [sp51, gv51] at hs
  split at hs
  · simp only [TL.sel, Option.some.injEq] at hs
    subst hs
    exact ⟨_, bv51 _⟩
  · simp [TL.sel] at hs
theorem okV10 : COKs Try.prog gl0 V10 := ((okV7.add cv46).add cv48).add cv51
theorem cv50 : COK Try.prog gl0 50 (mkF sp50) := by
  refine ctrE (fn := Try.f50) [] 3000 (by kernel_rfl) (by kernel_rfl) okV10 (by kernel_rfl) (fun args w => by kernel_rfl) fun xs bs r hs ho => ?_
  simp only [sp50, gv50] at hs
  split at hs
  · obtain ⟨k, e, hs⟩ := asB_sel hs
    simp only [TL.sel, Option.some.injEq] at hs
    subst hs
    rw [e]
    exact ⟨_, bv50 k _ (obsT_one.1 ho)⟩
  · simp [TL.sel] at hs
theorem cv52 : COK Try.prog gl0 52 (mkF sp50) := by
  refine ctrE (fn := Try.f52) [] 3000 (by kernel_rfl) (by kernel_rfl) okV10 (by kernel_rfl) (fun args w => by kernel_rfl) fun xs bs r hs ho => ?_
  simp only [sp50, gv50] at hs
  split at hs
  · obtain ⟨k, e, hs⟩ := asB_sel hs
    simp only [TL.sel, Option.some.injEq] at hs
    subst hs
    rw [e]
    exact ⟨_, bv52 k _ (obsT_one.1 ho)⟩
  · simp [TL.sel] at hs
theorem okV13 : COKs Try.prog gl0 V13 := ((okV10.add cv50).add cv52).exe [] 300 _ (by kernel_rfl) (by kernel_rfl) (by kernel_rfl) (fun args w => by kernel_rfl)
end Go.Sym

namespace Go.Sym
open Go.Proofs Go.Spec
set_option linter.unusedVariables false
set_option maxRecDepth 100000 in
theorem vv49  : bodyP Try.prog V13 gl0 [] [] 3000 Try.f49 0 [] [] (retQ Try.prog Try.f49 0 ⟨[], .bool true, [], []⟩) = (
let x1 := fun (i : Nat) => (BitVec.ofNat 8 1 :: List.replicate 31 (BitVec.ofNat 8 0)).getD i (0 : BitVec 8); 512 < 1099511627776 ∧ 26 = 26 ∧ 538 < 1099511627776 ∧ 26 = 26 ∧ 538 < 1099511627776 ∧ @Bool.rec (fun _ => Prop) (Bool.true = Bool.false ∧ True) (@Bool.rec (fun _ => Prop) (Bool.true = Bool.false ∧ True) (@Bool.rec (fun _ => Prop) (Bool.true = Bool.false ∧ True) (@Bool.rec (fun _ => Prop) (Bool.true = Bool.false ∧ True) (@Bool.rec (fun _ => Prop) (Bool.true = Bool.false ∧ True) (Bool.true = decide (voE (fun (i : Nat) => (BitVec.ofNat 8 2 :: List.replicate 31 (BitVec.ofNat 8 0)).getD i (0 : BitVec 8)) (vaM x1 (3 : Int) (2 : Int) (1 : Int) []) = (4 : Int)) ∧ True) (decide (voG x1 (vaM x1 (3 : Int) (2 : Int) (1 : Int) []) = (1 : Int)))) (decide (voO x1 (vaM x1 (3 : Int) (2 : Int) (1 : Int) []) = (2 : Int)))) (decide (voC x1 (vaM x1 (3 : Int) (2 : Int) (1 : Int) []) = (3 : Int)))) (decide ((↑(List.length (voM x1 (vaM x1 (3 : Int) (2 : Int) (1 : Int) []))) : Int) = (0 : Int)))) (decide (voE x1 (vaM x1 (3 : Int) (2 : Int) (1 : Int) []) = (0 : Int))) : Prop) := by kernel_rfl
end Go.Sym

set_option linter.unusedSimpArgs false
namespace Go.Spec
open Go.Sym
theorem vaS_take (k : F8) (c o g : Int) (b : By) : (vaS k c o g b).take 10 = vnH c o g := by
  unfold vaS; rw [List.take_append_of_le_length (by rw [vnH_len]; omega), List.take_of_length_le (by rw [vnH_len]; omega)]
theorem vaS_drop (k : F8) (c o g : Int) (b : By) : (vaS k c o g b).drop 10 = sealL k (vnN c) b (vnH c o g) := by
  unfold vaS; rw [List.drop_append_of_le_length (by rw [vnH_len]; omega), List.drop_eq_nil_of_le (by rw [vnH_len]; omega), List.nil_append]
theorem vaS_c (k : F8) (c o g : Int) (b : By) : (vaS k c o g b).take 4 = puL c.toNat 4 := by
  unfold vaS vnH
  rw [List.append_assoc, List.take_append_of_le_length (by rw [puL_len]; omega), List.take_of_length_le (by rw [puL_len]; omega)]
theorem vaS_o (k : F8) (c o g : Int) (b : By) : ((vaS k c o g b).drop 4).take 2 = puL o.toNat 2 := by
  unfold vaS vnH
  rw [List.append_assoc, List.drop_append_of_le_length (by rw [puL_len]; omega), List.drop_eq_nil_of_le (by rw [puL_len]; omega), List.nil_append, List.append_assoc, List.take_append_of_le_length (by rw [puL_len]; omega), List.take_of_length_le (by rw [puL_len]; omega)]
theorem vaS_g (k : F8) (c o g : Int) (b : By) : ((vaS k c o g b).drop 6).take 4 = puL g.toNat 4 := by
  have e : vaS k c o g b = (puL c.toNat 4 ++ puL o.toNat 2) ++ (puL g.toNat 4 ++ sealL k (vnN c) b (vnH c o g)) := by
    unfold vaS vnH; simp
  rw [e, List.drop_append_of_le_length (by simp [puL_len]), List.drop_eq_nil_of_le (by simp [puL_len]), List.nil_append, List.take_append_of_le_length (by rw [puL_len]; omega), List.take_of_length_le (by rw [puL_len]; omega)]
theorem vaK_iff {c o g : Int} {b : By} : vaK c o g b = true ↔ (0 ≤ c ∧ c ≤ 2147483647 ∧ 0 ≤ o ∧ o ≤ 65535 ∧ 0 ≤ g ∧ g ≤ 2147483647) ∧ b.length ≤ 30000 := by
  unfold vaK; rw [Bool.and_eq_true, vnOk_iff, decide_eq_true_eq]
theorem be_int {c : Int} (w : Nat) (h : 0 ≤ c) (h2 : c.toNat < 256 ^ w) : ((beN (puL c.toNat w) : Nat) : Int) = c := by
  rw [beN_puL, Nat.mod_eq_of_lt h2]; omega
theorem vrE_S {k : F8} {c o g : Int} {b : By} (h : vaK c o g b = true) : vrE (vaS k c o g b) = 0 ∧ vrC (vaS k c o g b) = c ∧ vrO (vaS k c o g b) = o ∧ vrG (vaS k c o g b) = g := by
  obtain ⟨⟨h1, h2, h3, h4, h5, h6⟩, h7⟩ := vaK_iff.1 h
  have hl := vaS_len k c o g b
  have b1 := be_int 4 h1 (show c.toNat < 4294967296 by omega)
  have b2 := be_int 2 h3 (show o.toNat < 65536 by omega)
  have b3 := be_int 4 h5 (show g.toNat < 4294967296 by omega)
  have hE : vrE (vaS k c o g b) = 0 := by
    unfold vrE vrW
    rw [if_neg (by omega), if_neg (by omega), vaS_c, vaS_o, vaS_g, b1, b2, b3, if_pos (vnOk_iff.2 ⟨h1, h2, h3, h4, h5, h6⟩)]
  unfold vrC vrO vrG
  rw [if_pos hE, if_pos hE, if_pos hE, vaS_c, vaS_o, vaS_g]
  exact ⟨hE, b1, b2, b3⟩
theorem voE_S {k : F8} {c o g : Int} {b : By} (h : vaK c o g b = true) : voE k (vaS k c o g b) = 0 ∧ voC k (vaS k c o g b) = c ∧ voO k (vaS k c o g b) = o ∧ voG k (vaS k c o g b) = g ∧ voM k (vaS k c o g b) = b := by
  obtain ⟨h0, _⟩ := vrE_S (k := k) h
  obtain ⟨⟨h1, h2, h3, h4, h5, h6⟩, h7⟩ := vaK_iff.1 h
  have b1 := be_int 4 h1 (show c.toNat < 4294967296 by omega)
  have b2 := be_int 2 h3 (show o.toNat < 65536 by omega)
  have b3 := be_int 4 h5 (show g.toNat < 4294967296 by omega)
  have hE : voE k (vaS k c o g b) = 0 := by
    unfold voE
    rw [if_pos h0, vaS_c, vaS_take, vaS_drop, b1, openE_seal]
  unfold voC voO voG voM
  rw [if_pos hE, if_pos hE, if_pos hE, if_pos hE, vaS_c, vaS_o, vaS_g, vaS_take, vaS_drop, b1, openM_seal]
  exact ⟨hE, rfl, b2, b3, rfl⟩
theorem txt_nil (k n : F8) : txtS k n [] = [] := List.eq_nil_of_length_eq_zero (txtS_length k n [])
def kk (n : Nat) : F8 := fun i => (BitVec.ofNat 8 n :: List.replicate 31 (BitVec.ofNat 8 0)).getD i 0
set_option maxRecDepth 100000 in
theorem tag_12 : decide (tagS (ownK (re32 (kk 2)) (re12 (vnN 3))) (tagTxt [] (vnH 3 2 1)) 0 = tagS (ownK (re32 (kk 1)) (re12 (vnN 3))) (tagTxt [] (vnH 3 2 1)) 0) = false := by kernel_rfl
theorem not_open2 : ¬ openB (kk 2) (vnN 3) (sealL (kk 1) (vnN 3) [] (vnH 3 2 1)) (vnH 3 2 1) := by
  unfold openB
  rw [seal_take, seal_drop, txt_nil]
  intro h
  have h := congrArg (fun l => l.getD 0 0) h
  unfold tagL at h
  simp only [rg_getD _ _ _ _ (show 0 < 16 by omega)] at h
  exact absurd h (of_decide_eq_false tag_12)
theorem vaM_1 : vaM (kk 1) 3 2 1 [] = vaS (kk 1) 3 2 1 [] := by unfold vaM; rw [if_pos (by decide)]
theorem voE_2 : voE (kk 2) (vaS (kk 1) 3 2 1 []) = 4 := by
  obtain ⟨h0, _⟩ := vrE_S (k := kk 1) (c := 3) (o := 2) (g := 1) (b := []) (by decide)
  unfold voE
  rw [if_pos h0, vaS_c, vaS_take, vaS_drop, be_int 4 (by decide) (by decide)]
  unfold openE
  rw [if_neg (by rw [sealL_length]; simp), if_neg not_open2]
end Go.Spec
namespace Go.Sym
open Go.Proofs Go.Spec
set_option linter.unusedVariables false
set_option maxRecDepth 100000 in
theorem bv49 : Must (bodyP Try.prog V13 gl0 [] [] 3000 Try.f49 0 [] [] (retQ Try.prog Try.f49 0 ⟨[], .bool true, [], []⟩)) := by
  constructor
  rw [vv49]
  obtain ⟨a1, a2, a3, a4, a5⟩ := voE_S (k := kk 1) (c := 3) (o := 2) (g := 1) (b := []) (by decide)
  have key : ∀ f h : F8, f = kk 1 → h = kk 2 → (512 < 1099511627776 ∧ 26 = 26 ∧ 538 < 1099511627776 ∧ 26 = 26 ∧ 538 < 1099511627776 ∧ @Bool.rec (fun _ => Prop) (Bool.true = Bool.false ∧ True) (@Bool.rec (fun _ => Prop) (Bool.true = Bool.false ∧ True) (@Bool.rec (fun _ => Prop) (Bool.true = Bool.false ∧ True) (@Bool.rec (fun _ => Prop) (Bool.true = Bool.false ∧ True) (@Bool.rec (fun _ => Prop) (Bool.true = Bool.false ∧ True) (Bool.true = decide (voE h (vaM f (3 : Int) (2 : Int) (1 : Int) []) = (4 : Int)) ∧ True) (decide (voG f (vaM f (3 : Int) (2 : Int) (1 : Int) []) = (1 : Int)))) (decide (voO f (vaM f (3 : Int) (2 : Int) (1 : Int) []) = (2 : Int)))) (decide (voC f (vaM f (3 : Int) (2 : Int) (1 : Int) []) = (3 : Int)))) (decide ((↑(List.length (voM f (vaM f (3 : Int) (2 : Int) (1 : Int) []))) : Int) = (0 : Int)))) (decide (voE f (vaM f (3 : Int) (2 : Int) (1 : Int) []) = (0 : Int)))) := by
    intro f h e1 e2
    subst e1 e2
    rw [vaM_1, a1, a2, a3, a4, a5, voE_2]
    exact ⟨by omega, rfl, by omega, rfl, by omega, rfl, trivial⟩
  intro x1
  exact key x1 (fun (i : Nat) => (BitVec.ofNat 8 2 :: List.replicate 31 (BitVec.ofNat 8 0)).getD i (0 : BitVec 8)) rfl rfl
def gv49 (xs : List AV) (bs : List ABlk) : TL := match xs, bs with
  | [], [] => .ok ⟨[], .bool true, [], []⟩
  | _, _ => .no
theorem cv49 : COK Try.prog gl0 49 (mkF (reSp 0 gv49)) := by
  refine ctrE (fn := Try.f49) [] 3000 (by kernel_rfl) (by kernel_rfl) okV13 (by kernel_rfl) (fun args w => by kernel_rfl) fun xs bs r hs ho => ?_
  replace hs : (gv49 xs bs).sel = some r := hs
  unfold gv49 at hs
  split at hs
  · simp only [TL.sel, Option.some.injEq] at hs
    subst hs
    exact ⟨_, bv49⟩
  · simp [TL.sel] at hs
noncomputable def V14 : Ctx := V13.add 49 (mkF (reSp 0 gv49))
theorem okV14 : COKs Try.prog gl0 V14 := okV13.add cv49
end Go.Sym
