/- What was put is read back. -/
import Derived.Test.YtgniepaehjdjaaaSnaB
set_option linter.unusedSimpArgs false
namespace Go.Spec
open Go.Sym
theorem cut_at {L A X R : By} {x m : Nat} (hL : L = A ++ (X ++ R)) (hx : A.length = x) (hm : X.length = m) : cutB L x m = X := by
  subst hx hm
  rw [← cutB_eq (by rw [hL]; simp only [List.length_append]; omega), hL]
  simp
theorem be_by {i : Int} (h : 0 ≤ i) (h2 : i ≤ 255) : (beN [BitVec.ofInt 8 i] : Int) = i := by
  have e : beN [BitVec.ofInt 8 i] = i.toNat := by
    show 0 * 256 + (BitVec.ofInt 8 i).toNat = _
    rw [bsOne h, BitVec.toNat_ofNat]
    omega
  rw [e]; omega
theorem be_pu {n w : Nat} (h : n < 256 ^ w) : beN (puL n w) = n := by rw [beN_puL, Nat.mod_eq_of_lt h]
theorem be_pi {c : Int} (h : 0 ≤ c) (h2 : c ≤ 65535) : (beN (puL c.toNat 2) : Int) = c := by
  rw [be_pu (show c.toNat < 65536 by omega)]; omega
theorem be_fl (sl : Bool) : beN [snFl sl] ≤ 1 ∧ decide ((beN [snFl sl] : Int) = Int.ofNat 1) = sl := by cases sl <;> decide
/-- What all versions have, read back. -/
structure Dec (L : By) (w : BitVec 8) (p : Int) (lg : By) (S : G8) (i o ie oe : Int) (sl : Bool) (pt : By) : Prop where
  hw : L.getD 0 0 = w
  hp : (beN (cutB L 1 1) : Int) = p
  hn1 : gN1 L = lg.length
  hlg : cutB L 4 (gN1 L) = lg
  hs : ∀ j, j < 224 → gS L j = S j
  hi : (beN (cutB L (gY L) 1) : Int) = i
  ho : (beN (cutB L (gY L + 1) 1) : Int) = o
  hie : (beN (cutB L (gY L + 1 + 1) 2) : Int) = ie
  hoe : (beN (cutB L (gY L + 1 + 1 + 2) 2) : Int) = oe
  hf : gSl L ≤ 1
  hsl : decide ((gSl L : Int) = Int.ofNat 1) = sl
  hn2 : gN2 L = pt.length
  hpt : cutB L (gQ L + 1 + 2) (gN2 L) = pt
  hz : gZ L = 237 + lg.length + pt.length
theorem dec_ok {L : By} {w : BitVec 8} {p i o ie oe : Int} {lg pt T : By} {S : G8} {sl : Bool}
    (hL : L = [w, BitVec.ofInt 8 p] ++ (puL lg.length 2 ++ (lg ++ ((List.range 224).map S ++ ([BitVec.ofInt 8 i, BitVec.ofInt 8 o] ++ (puL ie.toNat 2 ++ (puL oe.toNat 2 ++ ([snFl sl] ++ (puL pt.length 2 ++ (pt ++ T))))))))))
    (a1 : 0 ≤ p) (a2 : p ≤ 4) (a3 : 0 ≤ i) (a4 : i ≤ 64) (a5 : 0 ≤ o) (a6 : o ≤ 64) (a7 : 0 ≤ ie) (a8 : ie ≤ 65535) (a9 : 0 ≤ oe) (b1 : oe ≤ 65535) (b4 : lg.length ≤ 20000) (b5 : pt.length ≤ 4096) :
    Dec L w p lg S i o ie oe sl pt := by
  have hp : cutB L 1 1 = [BitVec.ofInt 8 p] := cut_at (A := [w]) (by rw [hL]; simp only [List.append_assoc, List.cons_append, List.nil_append]; rfl) rfl rfl
  have hn : cutB L 2 2 = puL lg.length 2 := cut_at (A := [w, BitVec.ofInt 8 p]) hL rfl (puL_len ..)
  have n1 : gN1 L = lg.length := by unfold gN1; rw [hn, be_pu (show lg.length < 65536 by omega)]
  have hlg : cutB L 4 (gN1 L) = lg := cut_at (A := [w, BitVec.ofInt 8 p] ++ puL lg.length 2) (by rw [hL]; simp only [List.append_assoc]; rfl) (by simp [puL_len]) n1.symm
  have y : gY L = 4 + lg.length + 224 := by unfold gY; rw [n1]
  have hl4 : ([w, BitVec.ofInt 8 p] ++ puL lg.length 2 ++ lg ++ (List.range 224).map S).length = gY L := by
    rw [y]; simp only [List.length_append, List.length_cons, List.length_nil, puL_len, List.length_map, List.length_range]
  have hi : cutB L (gY L) 1 = [BitVec.ofInt 8 i] := cut_at (A := [w, BitVec.ofInt 8 p] ++ puL lg.length 2 ++ lg ++ (List.range 224).map S) (by rw [hL]; simp only [List.append_assoc, List.cons_append, List.nil_append]; rfl) hl4 rfl
  have ho : cutB L (gY L + 1) 1 = [BitVec.ofInt 8 o] := cut_at (A := [w, BitVec.ofInt 8 p] ++ puL lg.length 2 ++ lg ++ (List.range 224).map S ++ [BitVec.ofInt 8 i]) (by rw [hL]; simp only [List.append_assoc, List.cons_append, List.nil_append]; rfl) (by rw [List.length_append, hl4]; rfl) rfl
  have hie : cutB L (gY L + 1 + 1) 2 = puL ie.toNat 2 := cut_at (A := [w, BitVec.ofInt 8 p] ++ puL lg.length 2 ++ lg ++ (List.range 224).map S ++ [BitVec.ofInt 8 i, BitVec.ofInt 8 o]) (by rw [hL]; simp only [List.append_assoc, List.cons_append, List.nil_append]; rfl) (by rw [List.length_append, hl4]; rfl) (puL_len ..)
  have hoe : cutB L (gY L + 1 + 1 + 2) 2 = puL oe.toNat 2 := cut_at (A := [w, BitVec.ofInt 8 p] ++ puL lg.length 2 ++ lg ++ (List.range 224).map S ++ [BitVec.ofInt 8 i, BitVec.ofInt 8 o] ++ puL ie.toNat 2) (by rw [hL]; simp only [List.append_assoc, List.cons_append, List.nil_append]; rfl) (by rw [List.length_append, List.length_append, hl4, puL_len]; rfl) (puL_len ..)
  have hq : ([w, BitVec.ofInt 8 p] ++ puL lg.length 2 ++ lg ++ (List.range 224).map S ++ [BitVec.ofInt 8 i, BitVec.ofInt 8 o] ++ puL ie.toNat 2 ++ puL oe.toNat 2).length = gQ L := by
    unfold gQ
    rw [List.length_append, List.length_append, List.length_append, hl4, puL_len, puL_len]; rfl
  have hsl : cutB L (gQ L) 1 = [snFl sl] := cut_at (A := [w, BitVec.ofInt 8 p] ++ puL lg.length 2 ++ lg ++ (List.range 224).map S ++ [BitVec.ofInt 8 i, BitVec.ofInt 8 o] ++ puL ie.toNat 2 ++ puL oe.toNat 2) (by rw [hL]; simp only [List.append_assoc, List.cons_append, List.nil_append]; rfl) hq rfl
  have hn2 : cutB L (gQ L + 1) 2 = puL pt.length 2 := cut_at (A := [w, BitVec.ofInt 8 p] ++ puL lg.length 2 ++ lg ++ (List.range 224).map S ++ [BitVec.ofInt 8 i, BitVec.ofInt 8 o] ++ puL ie.toNat 2 ++ puL oe.toNat 2 ++ [snFl sl]) (by rw [hL]; simp only [List.append_assoc, List.cons_append, List.nil_append]; rfl) (by rw [List.length_append, hq]; rfl) (puL_len ..)
  have n2 : gN2 L = pt.length := by unfold gN2; rw [hn2, be_pu (show pt.length < 65536 by omega)]
  have hpt : cutB L (gQ L + 1 + 2) (gN2 L) = pt := cut_at (A := [w, BitVec.ofInt 8 p] ++ puL lg.length 2 ++ lg ++ (List.range 224).map S ++ [BitVec.ofInt 8 i, BitVec.ofInt 8 o] ++ puL ie.toNat 2 ++ puL oe.toNat 2 ++ [snFl sl] ++ puL pt.length 2) (by rw [hL]; simp only [List.append_assoc, List.cons_append, List.nil_append]; rfl) (by rw [List.length_append, List.length_append, hq, puL_len]; rfl) n2.symm
  refine ⟨by rw [hL]; rfl, by rw [hp, be_by a1 (by omega)], n1, hlg, ?_, by rw [hi, be_by a3 (by omega)], by rw [ho, be_by a5 (by omega)], by rw [hie, be_pi a7 a8], by rw [hoe, be_pi a9 b1], ?_, ?_, n2, hpt, ?_⟩
  · intro j hj
    have hS : cutB L (4 + lg.length) 224 = (List.range 224).map S := cut_at (A := [w, BitVec.ofInt 8 p] ++ puL lg.length 2 ++ lg) (by rw [hL]; simp only [List.append_assoc, List.cons_append, List.nil_append]; rfl) (by simp [puL_len]; omega) (by simp)
    have h := congrArg (fun l => l.getD j 0) hS
    simp only [cutB, rg_getD _ _ _ _ hj] at h
    unfold gS
    rw [n1, h]
    simp [List.getD, hj]
  · unfold gSl; rw [hsl]; exact (be_fl sl).1
  · unfold gSl; rw [hsl]; exact (be_fl sl).2
  · unfold gZ gQ; rw [y, n2]; omega
end Go.Spec

set_option linter.unusedSimpArgs false
namespace Go.Spec
open Go.Sym
/-- A snapshot's bytes of a version, read back. -/
structure Full (L : By) (v : Nat) (p : Int) (lg : By) (S : G8) (i o ie oe : Int) (sl : Bool) (pt us : By) (al : Int) : Prop where
  hd : Dec L (BitVec.ofNat 8 v) p lg S i o ie oe sl pt
  hv : (L.getD 0 0).toNat = v
  hr : 1 ≤ v ∧ v ≤ 3
  hn3 : gN3 v L = us.length
  hus : gUs v L = us
  hal : gAl v L = al
  hg : gG v L
theorem Full.up {L : By} {v : Nat} {p i o ie oe al : Int} {lg pt us : By} {S : G8} {sl : Bool} (h : Full L v p lg S i o ie oe sl pt us al) : gUp L = snB 3 p lg S i o ie oe sl pt us al := by
  unfold gUp
  rw [h.hv, h.hus, h.hal, h.hd.hp, h.hd.hlg, h.hd.hi, h.hd.ho, h.hd.hie, h.hd.hoe, h.hd.hsl, h.hd.hpt]
  exact snB_cg h.hd.hs
theorem al_back {al : Int} (h : -1 ≤ al) (h2 : al ≤ 255) : IntKind.i64.wrap ((beN (puL (al + 1).toNat 2) : Int) + Int.negSucc 0) = al := by
  rw [be_pi (by omega) (by omega)]
  have e : al + 1 + Int.negSucc 0 = al := by have : Int.negSucc 0 = -1 := rfl; omega
  rw [e]; exact wrap_i64 (by omega) (by omega)
theorem full_1 {p i o ie oe al : Int} {lg pt us : By} (S : G8) (sl : Bool) (h : snOk p lg.length i o ie oe pt.length us.length al = true) :
    Full (snB 1 p lg S i o ie oe sl pt us al) 1 p lg S i o ie oe sl pt [] (-1) := by
  obtain ⟨⟨a1, a2⟩, ⟨a3, a4⟩, ⟨a5, a6⟩, ⟨a7, a8⟩, ⟨a9, b1⟩, ⟨b2, b3⟩, b4, b5, b6⟩ := snOk_iff.1 h
  have hl := snB_l1 p i o ie oe al lg pt us S sl
  have d : Dec (snB 1 p lg S i o ie oe sl pt us al) 1#8 p lg S i o ie oe sl pt := dec_ok (T := []) (by rw [snB_1, List.append_nil]) a1 a2 a3 a4 a5 a6 a7 a8 a9 b1 b4 b5
  generalize snB 1 p lg S i o ie oe sl pt us al = L at *
  refine ⟨d, by rw [d.hw]; rfl, by omega, rfl, rfl, rfl, by omega, ?_, by rw [d.hn1]; exact b4, by rw [d.hn2]; exact b5, Nat.zero_le _, d.hf, ?_⟩
  · show gZ L = _; rw [d.hz, hl]
  · rw [d.hp, d.hn1, d.hi, d.ho, d.hie, d.hoe, d.hn2]
    exact snOk_iff.2 ⟨⟨a1, a2⟩, ⟨a3, a4⟩, ⟨a5, a6⟩, ⟨a7, a8⟩, ⟨a9, b1⟩, ⟨show (-1 : Int) ≤ -1 by decide, show (-1 : Int) ≤ 255 by decide⟩, b4, b5, Nat.zero_le _⟩
theorem full_2 {p i o ie oe al : Int} {lg pt us : By} (S : G8) (sl : Bool) (h : snOk p lg.length i o ie oe pt.length us.length al = true) :
    Full (snB 2 p lg S i o ie oe sl pt us al) 2 p lg S i o ie oe sl pt us (-1) := by
  obtain ⟨⟨a1, a2⟩, ⟨a3, a4⟩, ⟨a5, a6⟩, ⟨a7, a8⟩, ⟨a9, b1⟩, ⟨b2, b3⟩, b4, b5, b6⟩ := snOk_iff.1 h
  have hl := snB_l2 p i o ie oe al lg pt us S sl
  have d : Dec (snB 2 p lg S i o ie oe sl pt us al) 2#8 p lg S i o ie oe sl pt := dec_ok (T := puL us.length 1 ++ us) (snB_2 ..) a1 a2 a3 a4 a5 a6 a7 a8 a9 b1 b4 b5
  have hA : ([2#8, BitVec.ofInt 8 p] ++ puL lg.length 2 ++ lg ++ (List.range 224).map S ++ [BitVec.ofInt 8 i, BitVec.ofInt 8 o] ++ puL ie.toNat 2 ++ puL oe.toNat 2 ++ [snFl sl] ++ puL pt.length 2 ++ pt).length = 237 + lg.length + pt.length := by
    simp only [List.length_append, List.length_cons, List.length_nil, puL_len, List.length_map, List.length_range]; omega
  have c3 : cutB (snB 2 p lg S i o ie oe sl pt us al) (gZ (snB 2 p lg S i o ie oe sl pt us al)) 1 = puL us.length 1 := cut_at (A := [2#8, BitVec.ofInt 8 p] ++ puL lg.length 2 ++ lg ++ (List.range 224).map S ++ [BitVec.ofInt 8 i, BitVec.ofInt 8 o] ++ puL ie.toNat 2 ++ puL oe.toNat 2 ++ [snFl sl] ++ puL pt.length 2 ++ pt) (R := us) (by rw [snB_2]; simp only [List.append_assoc]) (by rw [hA, d.hz]) (puL_len ..)
  have n3 : gN3 2 (snB 2 p lg S i o ie oe sl pt us al) = us.length := by show beN _ = _; rw [c3, be_pu (show us.length < 256 by omega)]
  have cu : cutB (snB 2 p lg S i o ie oe sl pt us al) (gZ (snB 2 p lg S i o ie oe sl pt us al) + 1) us.length = us := cut_at (A := [2#8, BitVec.ofInt 8 p] ++ puL lg.length 2 ++ lg ++ (List.range 224).map S ++ [BitVec.ofInt 8 i, BitVec.ofInt 8 o] ++ puL ie.toNat 2 ++ puL oe.toNat 2 ++ [snFl sl] ++ puL pt.length 2 ++ pt ++ puL us.length 1) (R := []) (by rw [snB_2, List.append_nil]; simp only [List.append_assoc]) (by rw [List.length_append, hA, d.hz, puL_len]) rfl
  generalize snB 2 p lg S i o ie oe sl pt us al = L at *
  refine ⟨d, by rw [d.hw]; rfl, by omega, n3, ?_, rfl, by omega, ?_, by rw [d.hn1]; exact b4, by rw [d.hn2]; exact b5, by rw [n3]; exact b6, d.hf, ?_⟩
  · show cutB L (gZ L + 1) (gN3 2 L) = us; rw [n3, cu]
  · show gZ L + 1 + gN3 2 L = _; rw [d.hz, n3, hl]; omega
  · rw [d.hp, d.hn1, d.hi, d.ho, d.hie, d.hoe, d.hn2, n3]
    exact snOk_iff.2 ⟨⟨a1, a2⟩, ⟨a3, a4⟩, ⟨a5, a6⟩, ⟨a7, a8⟩, ⟨a9, b1⟩, ⟨show (-1 : Int) ≤ -1 by decide, show (-1 : Int) ≤ 255 by decide⟩, b4, b5, b6⟩
theorem full_3 {p i o ie oe al : Int} {lg pt us : By} (S : G8) (sl : Bool) (h : snOk p lg.length i o ie oe pt.length us.length al = true) :
    Full (snB 3 p lg S i o ie oe sl pt us al) 3 p lg S i o ie oe sl pt us al := by
  obtain ⟨⟨a1, a2⟩, ⟨a3, a4⟩, ⟨a5, a6⟩, ⟨a7, a8⟩, ⟨a9, b1⟩, ⟨b2, b3⟩, b4, b5, b6⟩ := snOk_iff.1 h
  have hl := snB_l3 p i o ie oe al lg pt us S sl
  have d : Dec (snB 3 p lg S i o ie oe sl pt us al) 3#8 p lg S i o ie oe sl pt := dec_ok (T := puL us.length 1 ++ (us ++ puL (al + 1).toNat 2)) (snB_3 ..) a1 a2 a3 a4 a5 a6 a7 a8 a9 b1 b4 b5
  have hA : ([3#8, BitVec.ofInt 8 p] ++ puL lg.length 2 ++ lg ++ (List.range 224).map S ++ [BitVec.ofInt 8 i, BitVec.ofInt 8 o] ++ puL ie.toNat 2 ++ puL oe.toNat 2 ++ [snFl sl] ++ puL pt.length 2 ++ pt).length = 237 + lg.length + pt.length := by
    simp only [List.length_append, List.length_cons, List.length_nil, puL_len, List.length_map, List.length_range]; omega
  have c3 : cutB (snB 3 p lg S i o ie oe sl pt us al) (gZ (snB 3 p lg S i o ie oe sl pt us al)) 1 = puL us.length 1 := cut_at (A := [3#8, BitVec.ofInt 8 p] ++ puL lg.length 2 ++ lg ++ (List.range 224).map S ++ [BitVec.ofInt 8 i, BitVec.ofInt 8 o] ++ puL ie.toNat 2 ++ puL oe.toNat 2 ++ [snFl sl] ++ puL pt.length 2 ++ pt) (R := us ++ puL (al + 1).toNat 2) (by rw [snB_3]; simp only [List.append_assoc]) (by rw [hA, d.hz]) (puL_len ..)
  have n3 : gN3 3 (snB 3 p lg S i o ie oe sl pt us al) = us.length := by show beN _ = _; rw [c3, be_pu (show us.length < 256 by omega)]
  have cu : cutB (snB 3 p lg S i o ie oe sl pt us al) (gZ (snB 3 p lg S i o ie oe sl pt us al) + 1) us.length = us := cut_at (A := [3#8, BitVec.ofInt 8 p] ++ puL lg.length 2 ++ lg ++ (List.range 224).map S ++ [BitVec.ofInt 8 i, BitVec.ofInt 8 o] ++ puL ie.toNat 2 ++ puL oe.toNat 2 ++ [snFl sl] ++ puL pt.length 2 ++ pt ++ puL us.length 1) (R := puL (al + 1).toNat 2) (by rw [snB_3]; simp only [List.append_assoc]) (by rw [List.length_append, hA, d.hz, puL_len]) rfl
  have ca : cutB (snB 3 p lg S i o ie oe sl pt us al) (gZ (snB 3 p lg S i o ie oe sl pt us al) + 1 + us.length) 2 = puL (al + 1).toNat 2 := cut_at (A := [3#8, BitVec.ofInt 8 p] ++ puL lg.length 2 ++ lg ++ (List.range 224).map S ++ [BitVec.ofInt 8 i, BitVec.ofInt 8 o] ++ puL ie.toNat 2 ++ puL oe.toNat 2 ++ [snFl sl] ++ puL pt.length 2 ++ pt ++ puL us.length 1 ++ us) (R := []) (by rw [snB_3, List.append_nil]; simp only [List.append_assoc]) (by rw [List.length_append, List.length_append, hA, d.hz, puL_len]) (puL_len ..)
  generalize snB 3 p lg S i o ie oe sl pt us al = L at *
  have ha : gAl 3 L = al := by
    show IntKind.i64.wrap ((beN (cutB L (gZ L + 1 + gN3 3 L) 2) : Int) + Int.negSucc 0) = al
    rw [n3, ca, al_back b2 b3]
  refine ⟨d, by rw [d.hw]; rfl, by omega, n3, ?_, ha, by omega, ?_, by rw [d.hn1]; exact b4, by rw [d.hn2]; exact b5, by rw [n3]; exact b6, d.hf, ?_⟩
  · show cutB L (gZ L + 1) (gN3 3 L) = us; rw [n3, cu]
  · show gZ L + 1 + gN3 3 L + 2 = _; rw [d.hz, n3, hl]; omega
  · rw [d.hp, d.hn1, d.hi, d.ho, d.hie, d.hoe, d.hn2, n3, ha]
    exact snOk_iff.2 ⟨⟨a1, a2⟩, ⟨a3, a4⟩, ⟨a5, a6⟩, ⟨a7, a8⟩, ⟨a9, b1⟩, ⟨b2, b3⟩, b4, b5, b6⟩
end Go.Spec
