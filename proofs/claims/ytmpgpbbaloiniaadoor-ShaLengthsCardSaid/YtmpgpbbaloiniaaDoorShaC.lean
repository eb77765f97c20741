/- The same: the sum of the document; what the card ties. -/
import Derived.Test.YtmpgpbbaloiniaaDoorShaB
import Derived.Test.YtmpgpbbaloiniaaDoorRows
import Derived.Test.YtmpgpbbaloiniaaDoorCards
import Derived.Test.YtmpgpbbaloiniaaDoorTie
import Derived.WalkKit
import Derived.ProofKit
import Derived.OpenShut
import Derived.ChangeOld
import Derived.Below
import Derived.Carry
import Derived.LaidMore
import Derived.Stop.Joined
import Derived.SevenTiedAt
namespace Go.Sym
open Go.Proofs Go.Spec
set_option linter.unusedVariables false
set_option linter.unusedSimpArgs false
set_option maxRecDepth 100000 in
set_option maxHeartbeats 2000000 in
theorem b14 (b : By) (hb : b.length < 35184372088832) : Must (bodyP Tryd.prog (R3.withSym symRs) gl0 [] [(3, ls0 b), (7, ls7 b), (13, lsB b), (39, lsO b)] 3000 Tryd.f13 0 [.rb false b .unk] [] (retQ Tryd.prog Tryd.f13 0 ⟨[], aggB 32 (outByte (refSt b ((shaPad b).length / 64))), [], []⟩)) := by
  constructor
  rw [vc14]
  set_option simprocs false in dsimp only
  have hz : zc b.length < 64 := by unfold zc; omega
  refine ⟨rfl, by unfold roomFor; omega, rfl, by simp, by unfold roomFor; omega, ⟨0, Nat.zero_le _, ?_⟩, fun k hk => ?_⟩
  · simp
  replace hk : k ≤ zc b.length := hk
  have tm : ∀ n : Nat, ((n : Int)).tmod 64 = ((n % 64 : Nat) : Int) := fun n => by
    rw [Int.tmod_eq_emod_of_nonneg (by omega)]; omega
  refine brec (fun h => ?_) (fun h => ?_)
  · -- one nought more
    have hk2 : k < zc b.length := by
      rw [tm] at h
      simp at h
      unfold zc at hk ⊢
      omega
    simp only [true_and, and_true]
    refine ⟨by simp; omega, by unfold roomFor; omega, k + 1, by omega, hk2, by omega, ?_⟩
    rw [List.replicate_succ']
    simp
  · have hk2 : k = zc b.length := by
      rw [tm] at h
      simp at h
      unfold zc at hk ⊢
      omega
    subst hk2
    refine ⟨⟨0, Nat.zero_le _, by simp⟩, fun i hi => ?_⟩
    replace hi : i ≤ 8 := hi
    refine brec (fun h => ?_) (fun h => ?_)
    · have hi8 : i < 8 := by
        have := dle.1 h; omega
      have w1 : IntKind.i64.wrap (8 * (7 - (i : Int))) = ((8 * (7 - i) : Nat) : Int) := wrap_nat _ (by omega) (by omega)
      have w2 : IntKind.i64.wrap (7 - (i : Int) - 1) = 7 - ((i + 1 : Nat) : Int) := by rw [wrap_i64 (by omega) (by omega)]; omega
      have hlen : List.length (b ++ 128#8 :: (List.replicate (zc b.length) 0#8 ++ List.take i (count8 (BitVec.ofNat 64 b.length * 8#64)))) = b.length + 1 + zc b.length + i := by
        simp [count8_len]; omega
      simp only [w1, w2, hlen, Int.toNat_natCast, List.length_cons, List.length_nil, Int.natCast_nonneg, true_and, and_true]
      refine ⟨by unfold roomFor; omega, i + 1, by omega, hi8, rfl, by omega, rfl, ?_⟩
      rw [← count8_step _ _ hi8]
      simp
    · have hi8 : i = 8 := by
        have := ndle.1 h; omega
      subst hi8
      refine ⟨⟨0, Nat.zero_le _, ?_⟩, fun j hj => ?_⟩
      · simp only [true_and, and_true]
        refine ⟨shaPad_len b, rfl, ?_, rfl, rfl, rfl, rfl, rfl, rfl, rfl, rfl, fun y hy => ⟨rfl, cut_map AV.u32 shaK 0 y hy⟩⟩
        rw [List.take_of_length_le (by rw [count8_len]; omega)]
        rfl
      replace hj : 64 * j ≤ (shaPad b).length := hj
      refine brec (fun h => ?_) (fun h => ?_)
      · have hj2 : 64 * j + 64 ≤ (shaPad b).length := by
          have := dlt.1 h
          have := shaPad_mod b
          omega
        have hP : (shaPad b).length < 35184372088932 := by rw [shaPad_len]; omega
        simp only [true_and, and_true, d32, implies_true]
        refine ⟨⟨0, Nat.zero_le _, rfl, fun y hy => u32_one (by simp)⟩, fun i hi => ?_⟩
        replace hi : i ≤ 64 := hi
        refine brec (fun h => ?_) (fun h => ?_)
        · replace h : i < 64 := by have := dlt.1 h; omega
          have e1 : IntKind.i64.wrap ((i : Int) + 1) = ((i + 1 : Nat) : Int) := wrap_nat _ (by omega) (by omega)
          refine brec (fun h16 => ?_) (fun h16 => ?_)
          · replace h16 : i < 16 := by have := dlt.1 h16; omega
            refine ⟨⟨0, Nat.zero_le _, rfl, fun y hy => u32_one ?_⟩, fun c hc => ?_⟩
            · by_cases h1 : y < i
              · rw [if_pos h1, if_pos h1]
              · rw [if_neg h1, if_neg h1]
                simp [partW]
            replace hc : c ≤ 4 := hc
            refine brec (fun h4 => ?_) (fun h4 => ?_)
            · replace h4 : c < 4 := by have := dlt.1 h4; omega
              have e4 : IntKind.i64.wrap ((c : Int) + 1) = ((c + 1 : Nat) : Int) := wrap_nat _ (by omega) (by omega)
              have e5 : IntKind.i64.wrap (4 * (i : Int)) = ((4 * i : Nat) : Int) := wrap_nat _ (by omega) (by omega)
              have e6 : IntKind.i64.wrap (((64 * j : Nat) : Int) + ((4 * i : Nat) : Int)) = ((64 * j + 4 * i : Nat) : Int) := wrap_nat _ (by omega) (by omega)
              have e7 : IntKind.i64.wrap (((64 * j + 4 * i : Nat) : Int) + (c : Int)) = ((64 * j + 4 * i + c : Nat) : Int) := wrap_nat _ (by omega) (by omega)
              simp only [e4, e5, e6, e7, Int.toNat_natCast, Int.natCast_nonneg, true_and, and_true]
              refine ⟨h, h, by omega, by omega, h, h, rfl, c + 1, by omega, h4, rfl, fun y hy => ?_⟩
              rw [bif32]
              refine u32_one ?_
              by_cases hyx : y = i
              · subst hyx
                simp only [Nat.lt_irrefl, if_false, if_true, beq_self_eq_true, cond_true]
                rw [mul256, Nat.add_assoc, ← refBlk_get b j (4 * y + c) (by omega)]
                rfl
              · have : (y == i) = false := by simpa using hyx
                rw [this, cond_false]
                simp only [hyx, if_false]
            · replace h4 : c = 4 := by have := ndlt.1 h4; omega
              subst h4
              refine ⟨i + 1, by omega, h, e1.symm, fun y hy => u32_one ?_⟩
              by_cases h1 : y < i
              · rw [if_pos h1, if_pos (by omega)]
              · rw [if_neg h1]
                by_cases h2 : y = i
                · rw [if_pos h2, if_pos (by omega), h2, sch_word _ _ h16]; rfl
                · rw [if_neg h2, if_neg (by omega)]
          · replace h16 : 16 ≤ i := by have := ndlt.1 h16; omega
            have e2 : IntKind.i64.wrap ((i : Int) - 2) = ((i - 2 : Nat) : Int) := wrap_nat _ (by omega) (by omega)
            have e7 : IntKind.i64.wrap ((i : Int) - 7) = ((i - 7 : Nat) : Int) := wrap_nat _ (by omega) (by omega)
            have e15 : IntKind.i64.wrap ((i : Int) - 15) = ((i - 15 : Nat) : Int) := wrap_nat _ (by omega) (by omega)
            have e16 : IntKind.i64.wrap ((i : Int) - 16) = ((i - 16 : Nat) : Int) := wrap_nat _ (by omega) (by omega)
            simp (decide := true) only [e1, e2, e7, e15, e16, Int.toNat_natCast, Int.natCast_nonneg, true_and, and_true]
            refine ⟨by omega, by omega, by omega, by omega, by omega, by omega, by omega, by omega, h, h, rfl, i + 1, by omega, h, rfl, fun y hy => ?_⟩
            rw [bif32]
            refine u32_one ?_
            by_cases hyx : y = i
            · subst hyx
              rw [beq_self_eq_true, cond_true, if_pos (by omega), if_pos (by omega), if_pos (by omega), if_pos (by omega), if_pos (by omega), sch_step _ y h16 h]
              simp only [smS0, smS1, rl, BitVec.or_comm]
            · have : (y == i) = false := by simpa using hyx
              rw [this, cond_false]
              by_cases h2 : y < i
              · rw [if_pos h2, if_pos (by omega)]
              · rw [if_neg h2, if_neg (by omega)]
        · replace h : i = 64 := by have := ndlt.1 h; omega
          subst h
          refine ⟨⟨0, Nat.zero_le _, rfl, fun y hy => u32_one (by rw [if_pos hy]), rfl, rfl, rfl, rfl, rfl, rfl, rfl, rfl⟩, fun i hi => ?_⟩
          replace hi : i ≤ 64 := hi
          refine brec (fun h => ?_) (fun h => ?_)
          · replace h : i < 64 := by have := dlt.1 h; omega
            have e1 : IntKind.i64.wrap ((i : Int) + 1) = ((i + 1 : Nat) : Int) := wrap_nat _ (by omega) (by omega)
            simp (decide := true) only [e1, Int.toNat_natCast, Int.natCast_nonneg, true_and, and_true]
            refine ⟨h, h, h, h, i + 1, by omega, h, rfl, ?_⟩
            simp only [rnds, rnd, bigS1, bigS0, rl, chS, mjS, BitVec.or_comm, true_and, and_true]
          · replace h : i = 64 := by have := ndlt.1 h; omega
            subst h
            simp (decide := true) only [true_and, and_true]
            have e1 : IntKind.i64.wrap (((64 * j : Nat) : Int) + 64) = ((64 * (j + 1) : Nat) : Int) := wrap_nat _ (by omega) (by omega)
            exact ⟨j + 1, by omega, by show 64 * (j + 1) ≤ _; omega, e1.symm, rfl, rfl, rfl, rfl, rfl, rfl, rfl, rfl⟩
      · have hj2 : j = (shaPad b).length / 64 := by
          have := ndlt.1 h
          have := shaPad_mod b
          omega
        subst hj2
        simp only [true_and, and_true, d32, implies_true]
        refine ⟨⟨0, Nat.zero_le _, rfl, rfl⟩, fun x hx => ?_⟩
        replace hx : x ≤ 32 := hx
        refine brec (fun h => ?_) (fun h => ?_)
        · replace h : x < 32 := by have := dlt.1 h; omega
          have list8 : ∀ (v : Nat → W32) q, q < 8 → [v 0, v 1, v 2, v 3, v 4, v 5, v 6, v 7].getD q 0 = v q := fun v q hq => getD_map_range v 8 q 0 hq
          have d1 : ((x : Int)).tdiv 4 = ((x / 4 : Nat) : Int) := tdiv_nat x 4
          have d2 : ((x : Int)).tmod 4 = ((x % 4 : Nat) : Int) := tmod_nat x 4
          have w1 : IntKind.i64.wrap ((x / 4 : Nat) : Int) = ((x / 4 : Nat) : Int) := wrap_nat _ rfl (by omega)
          have w2 : IntKind.i64.wrap (8 * ((x % 4 : Nat) : Int)) = ((8 * (x % 4) : Nat) : Int) := wrap_nat _ (by omega) (by omega)
          have w3 : IntKind.i64.wrap (24 - ((8 * (x % 4) : Nat) : Int)) = ((24 - 8 * (x % 4) : Nat) : Int) := wrap_nat _ (by omega) (by omega)
          have w4 : IntKind.i64.wrap ((x : Int) + 1) = ((x + 1 : Nat) : Int) := wrap_nat _ (by omega) (by omega)
          simp only [d1, d2, w1, w2, w3, w4, Int.toNat_natCast, Int.natCast_nonneg, list8 _ (x / 4) (show x / 4 < 8 by omega), List.length_map, List.length_range, List.length_cons, List.length_nil, true_and, and_true]
          refine ⟨by omega, by omega, h, h, x + 1, by omega, h, rfl, ?_⟩
          exact (fill_row (outByte (refSt b ((shaPad b).length / 64))) 0 32 x h).symm
        · replace h : x = 32 := by have := ndlt.1 h; omega
          subst h
          simp
end Go.Sym

namespace Go.Spec
theorem blocks_app (v : Nat → W32) (A B : By) (q : Nat) (hA : A.length = 64 * q) : ∀ k, blocks v (A ++ B) (q + k) = blocks (blocks v A q) B k
  | 0 => by
    show blocks v (A ++ B) q = blocks v A q
    have := blocks_take v (A ++ B) (64 * q) q (Nat.le_refl _)
    rw [← this, ← hA, List.take_left]
  | k + 1 => by
    show compress (blocks v (A ++ B) (q + k)) (List.take 64 (List.drop (64 * (q + k)) (A ++ B))) = compress (blocks (blocks v A q) B k) (List.take 64 (List.drop (64 * k) B))
    rw [blocks_app v A B q hA k]
    congr 1
    rw [List.drop_append, List.drop_eq_nil_of_le (by omega), List.nil_append]
    congr 2
    omega
theorem zc_tail (n : Nat) : zc n = tailEnd (n % 64) - n % 64 - 9 := by
  unfold zc tailEnd
  split <;> omega
theorem rest64_len (b : By) : (rest64 b).length = b.length % 64 := by
  simp [rest64]; omega
theorem shaPad_split (b : By) : shaPad b = b.take (64 * (b.length / 64)) ++ padTail 0#64 b := by
  unfold shaPad padTail
  rw [rest64_len, ← zc_tail, ← List.append_assoc]
  congr 1
  · exact (List.take_append_drop _ _).symm
  · rw [BitVec.zero_add, BitVec.mul_comm]
theorem refSt_sha (b : By) : refSt b ((shaPad b).length / 64) = shaSt begin8 0#64 b := by
  have e : (shaPad b).length / 64 = b.length / 64 + tailEnd (rest64 b).length / 64 := by
    rw [shaPad_len, rest64_len, zc_tail]
    unfold tailEnd
    split <;> omega
  unfold refSt shaSt
  rw [e]
  have hA : (b.take (64 * (b.length / 64))).length = 64 * (b.length / 64) := by simp; omega
  conv => lhs; rw [shaPad_split]
  rw [blocks_app _ _ _ _ hA, blocks_take _ _ _ _ (Nat.le_refl _)]
/-- A block ahead. -/
theorem sha_ahead (v : Nat → W32) (P l : By) (hP : P.length = 64) (ah : BitVec 64) : shaSt v ah (P ++ l) = shaSt (compress v P) (ah + 64#64) l := by
  have hr : rest64 (P ++ l) = rest64 l := by
    unfold rest64
    rw [List.length_append, hP, show (64 + l.length) / 64 = 1 + l.length / 64 by omega, List.drop_append, List.drop_eq_nil_of_le (by omega), List.nil_append]
    congr 1
    omega
  have hp : padTail ah (P ++ l) = padTail (ah + 64#64) l := by
    have e : ah + BitVec.ofNat 64 (64 + l.length) = ah + 64#64 + BitVec.ofNat 64 l.length := by
      rw [BitVec.add_assoc, BitVec.ofNat_add]
    unfold padTail
    rw [hr, List.length_append, hP, e]
  have hb : blocks v (P ++ l) ((P ++ l).length / 64) = blocks (compress v P) l (l.length / 64) := by
    have e1 : blocks v P 1 = compress v P := by
      simp only [blocks]
      rw [Nat.mul_zero, List.drop_zero, List.take_of_length_le (by omega)]
    have e2 : (P ++ l).length / 64 = 1 + l.length / 64 := by rw [List.length_append, hP]; omega
    rw [e2, blocks_app _ _ _ 1 (by omega), e1]
  unfold shaSt
  rw [hp, hb, hr]
theorem padBlock_len (key : By) (p : BitVec 8) : (padBlock key p).length = 64 := by simp [padBlock]
theorem shaB_pad (key b : By) (p : BitVec 8) : shaB (padBlock key p ++ b) = outByte (shaSt (padSt key p) 64#64 b) := by
  rw [shaB_eq]
  unfold shaU padSt
  rw [sha_ahead _ _ _ (padBlock_len _ _), BitVec.zero_add]
theorem macB_eq (key b : By) : macB key b = shaB (padBlock key 0x5c#8 ++ sha (padBlock key 0x36#8 ++ b)) := by
  rw [shaB_pad, macB_un]
  unfold macU macIn sha
  rw [shaB_pad, eta8_padSt, eta8_padSt]
end Go.Spec
namespace Go.Sym
open Go.Proofs Go.Spec
set_option linter.unusedVariables false
noncomputable def gRs (xs : List AV) (bs : List ABlk) : TL := match xs, bs with
  | [.rb false b .unk], [] => .ok ⟨[b.length < 35184372088832], aggB 32 (shaB b), [], []⟩
  | _, _ => .no
noncomputable def spRs : Spec := ⟨[.by0], fun _ _ => [], fun _ _ => [], gRs⟩
theorem c14 : COK Tryd.prog gl0 13 (mkF spRs) := by
  refine ctrE (fn := Tryd.f13) [] 3000 (by kernel_rfl) (by kernel_rfl) (okR3.withSym symRs) (by kernel_rfl) (fun args w => by kernel_rfl) ?_
  intro xs bs r hs ho
  simp only [spRs, gRs] at hs
  split at hs
  · rename_i b
    simp only [TL.sel, Option.some.injEq] at hs
    subst hs
    have h := b14 b (obsT_one.1 ho)
    rw [refSt_sha] at h
    rw [shaB_eq]
    exact ⟨_, h⟩
  · simp [TL.sel] at hs
noncomputable def R4 : Ctx := R3.add 13 (mkF spRs)
theorem okR4 : COKs Tryd.prog gl0 R4 := okR3.add c14
end Go.Sym

namespace Go.Sym
open Go.Proofs Go.Spec
set_option linter.unusedVariables false
theorem abc0 : shaB [97#8, 98#8, 99#8] 0 = 186#8 := by rw [shaB_eq]; kernel_rfl
theorem abc1 : shaB [97#8, 98#8, 99#8] 1 = 120#8 := by rw [shaB_eq]; kernel_rfl
theorem abc31 : shaB [97#8, 98#8, 99#8] 31 = 173#8 := by rw [shaB_eq]; kernel_rfl
theorem sameB_self (a : By) : sameB a a = true := by rw [sameB_eq]; simp
def gTr (xs : List AV) (bs : List ABlk) : TL := match xs, bs with
  | [], [] => .ok ⟨[], .bool true, [], []⟩
  | _, _ => .no
def spTr : Spec := ⟨[], fun _ _ => [], fun _ _ => [], gTr⟩
noncomputable def R5 : Ctx := R4
theorem okR5 : COKs Tryd.prog gl0 R5 := okR4
end Go.Sym

namespace Go.Proofs.YtmpgpbbaloiniaaDoor
open Go.ChangeShapes Go.WideShapes Go.ChangeAt Go.WideMaps Go.WideElems Go.RowKit
set_option linter.unusedVariables false

theorem own : ownKnob Tryd.prog.godebug = none := by kernel_rfl
theorem laidO : laidOutB Tryd.prog = true := by kernel_rfl
theorem one5 : Tryd.prog.cellsOf 5 = 1 := by kernel_rfl
theorem one73 : Tryd.prog.cellsOf 73 = 1 := by kernel_rfl
theorem gBegin : Tryd.prog.globalNamed "relay/sha.begin" = some 0 := by kernel_rfl
theorem gRounds : Tryd.prog.globalNamed "relay/sha.rounds" = some 1 := by kernel_rfl
theorem tBegin : (Tryd.prog.globals[0]?).map (·.type) = some 74 := by kernel_rfl
theorem tRounds : (Tryd.prog.globals[1]?).map (·.type) = some 76 := by kernel_rfl
abbrev laid2 : List (String × DataW Unit) := [("relay/sha.begin", Rows.laid_relay_sha_begin), ("relay/sha.rounds", Rows.laid_relay_sha_rounds)]

theorem door_met (os : Os) (args : Array Value) : laidMetH Tryd.prog laid2 ((World.doorLaid Tryd.prog 400 os).forCall (fun _ _ => 0) ⟨#[], args, []⟩).memory :=
  laidMetH_of_parts3 (fuel := 8) (laidMet_of_run' 8 (by kernel_rfl) (by kernel_rfl)) (by kernel_rfl) (by kernel_rfl)

theorem arr_u32 {H : Type} {enc : TypeId × Value → H} {P : Program} {w : World} {base : Nat} {spare : Nat → Bool} {held : Bool} {fuel : Nat} {t e : TypeId} {n : Nat} {cs : List Value} {L : List Int} {p : List MemPlace}
    (ht : P.underlying t = some (.array n e)) (he : P.underlying e = some (.int .u32)) (hc : P.cellsOf e = 1) (h : DataW.trod enc P w base spare held fuel t cs = some (.agg (L.map fun x => .lit (.int .u32 x)), p)) :
    ∀ (i : Nat) v, (L.map fun x => Value.int .u32 x)[i]? = some v → cs[i]? = some v := by
  obtain ⟨xs, m, _, hx, _, hn, hel⟩ := DataW.trod_array ht h
  simp only [Prod.mk.injEq, DataW.agg.injEq] at hx
  intro i v hv
  have hlen : L.length = n := by
    have := congrArg List.length hx.1
    simp at this
    omega
  have hi : i < n := by
    have := (List.getElem?_eq_some_iff.1 hv).1
    simp at this
    omega
  have h1 := hel i hi
  rw [hc, Nat.mul_one] at h1
  have h2 : xs[i]? = some xs[i] := List.getElem?_eq_getElem (by omega)
  rw [h2] at h1
  obtain ⟨k, e1, e2, _⟩ := DataW.trod_int he h1
  have h3 : (L.map fun x => (DataW.lit (.int .u32 x) : DataW H))[i]? = (xs.map (·.1))[i]? := by rw [hx.1]
  rw [List.getElem?_map, List.getElem?_map, h2, e2] at h3
  rw [List.getElem?_map] at hv
  cases hL : L[i]? with
  | none => rw [hL] at hv; simp at hv
  | some a =>
    rw [hL] at h3 hv
    simp at h3 hv
    have e3 : (cs.drop i)[0]? = some (.int .u32 k) := by
      have := congrArg (fun l => l[0]?) e1
      simp only [List.getElem?_take, List.getElem?_cons_zero] at this
      simpa using this
    rw [List.getElem?_drop] at e3
    rw [← hv, h3]
    simpa using e3

theorem gw_laid {W : World} (h : laidMetH Tryd.prog laid2 W) : Go.Sym.GW Go.Sym.gl0 W := by
  rw [MakeChecks.laidMetH_plain _ _ _ (by kernel_rfl)] at h
  obtain ⟨ps, ⟨g0, t0, cs0, f0, p0, q0, hg0, ht0, hv0, hd0, ⟨g1, t1, cs1, f1, p1, q1, hg1, ht1, hv1, hd1, _, _⟩, _⟩, _, _⟩ := h
  obtain rfl := Option.some.inj (gBegin.symm.trans hg0)
  obtain rfl := Option.some.inj (gRounds.symm.trans hg1)
  obtain rfl := Option.some.inj (tBegin.symm.trans ht0)
  obtain rfl := Option.some.inj (tRounds.symm.trans ht1)
  intro g i v hv
  match g with
  | 0 =>
    have := World.var?_cell hg0 hv0 i
    rw [this]
    have h1 := arr_u32 (L := Go.Spec.shaBegin.map fun x => (x.toNat : Int)) Tryd.underlying74 Tryd.underlying73 one73 hd0 i v (by
      rw [List.map_map]; exact hv)
    simpa using h1
  | 1 =>
    have := World.var?_cell hg1 hv1 i
    rw [this]
    have h1 := arr_u32 (L := Go.Spec.shaK.map fun x => (x.toNat : Int)) Tryd.underlying76 Tryd.underlying73 one73 hd1 i v (by
      rw [List.map_map]; exact hv)
    simpa using h1
  | g + 2 => simp [Go.Sym.gl0] at hv
end Go.Proofs.YtmpgpbbaloiniaaDoor
