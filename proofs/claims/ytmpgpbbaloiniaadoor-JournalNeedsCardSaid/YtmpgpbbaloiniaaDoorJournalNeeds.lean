/- JournalNeeds: of all counts the sectors are told that an entry takes. Condition: the two tables of the package start as the text of the program lays them, which the card ties. -/
import Derived.Test.YtmpgpbbaloiniaaDoorJouE
import Derived.Test.YtmpgpbbaloiniaaDoorJouA
import Derived.Test.YtmpgpbbaloiniaaDoorShaB
namespace Go.Sym
open Go.Proofs Go.Spec
set_option linter.unusedVariables false
noncomputable def X0 : Ctx := ((Ctx.none ["#disk.go:27"]).add 50 (mkF spjK)).add 67 (mkF spjD)
theorem okX0 : COKs Tryd.prog gl0 X0 := (COKs.none.add cjK).add cjD
noncomputable def X1 : Ctx := X0.exe Tryd.prog gl0 [] 3000 Tryd.f30.params.size 30 Tryd.f30
theorem okX1 : COKs Tryd.prog gl0 X1 := okX0.exe [] 3000 _ (by kernel_rfl) (by kernel_rfl) (by kernel_rfl) (fun args w => by kernel_rfl)
noncomputable def X2 : Ctx := X1.exe Tryd.prog gl0 [] 3000 Tryd.f56.params.size 56 Tryd.f56
theorem okX2 : COKs Tryd.prog gl0 X2 := okX1.exe [] 3000 _ (by kernel_rfl) (by kernel_rfl) (by kernel_rfl) (fun args w => by kernel_rfl)
noncomputable def X3 : Ctx := (X2.add 66 (mkF spjC)).add 58 (mkF spjS)
theorem okX3 : COKs Tryd.prog gl0 X3 := (okX2.add cjC).add cjS
noncomputable def X4 : Ctx := X3.exe Tryd.prog gl0 [] 3000 Tryd.f32.params.size 32 Tryd.f32
theorem okX4 : COKs Tryd.prog gl0 X4 := okX3.exe [] 3000 _ (by kernel_rfl) (by kernel_rfl) (by kernel_rfl) (fun args w => by kernel_rfl)
noncomputable def X5 : Ctx := X4.exe Tryd.prog gl0 [] 3000 Tryd.f49.params.size 49 Tryd.f49
theorem okX5 : COKs Tryd.prog gl0 X5 := okX4.exe [] 3000 _ (by kernel_rfl) (by kernel_rfl) (by kernel_rfl) (fun args w => by kernel_rfl)
noncomputable def X6 : Ctx := X5.exe Tryd.prog gl0 [] 400 Tryd.f26.params.size 26 Tryd.f26
theorem okX6 : COKs Tryd.prog gl0 X6 := okX5.exe [] 400 _ (by kernel_rfl) (by kernel_rfl) (by kernel_rfl) (fun args w => by kernel_rfl)
noncomputable def X7 : Ctx := ((X6.add 27 (mkF spjF)).add 28 (mkF spjA0)).add 24 (mkF spjN)
theorem okX7 : COKs Tryd.prog gl0 X7 := ((okX6.add cjF).add cjA0).add cjN
end Go.Sym
namespace Go.Sym
open Go.Proofs Go.Spec
set_option linter.unusedVariables false
def lsSt : LS := ⟨Unit, fun _ => [(1, .ptr 200 0 0 0), (2, .int .i64 0)], fun _ => [(200, ⟨.cells [.slice 201 0 64 8 .ow (.is false), .bool true, .int .i64 0, .int .i64 (-1), .int .i64 0], true, 0⟩), (201, ⟨.bytes (noL 8), true, 64⟩)], 1000, fun _ => 0, fun _ => True, fun _ => []⟩
end Go.Sym

namespace Go.Sym
open Go.Proofs Go.Spec
set_option linter.unusedVariables false
set_option maxRecDepth 100000 in
theorem vjY (b : Bool) : bodyP Tryd.prog X7 gl0 [] [(20002, lsSt)] 3000 Tryd.f23 0 [] [] (retQ Tryd.prog Tryd.f23 0 ⟨[], .bool b, [], []⟩) = (
let x1 := dPut (dPut (noL 8) 1 (slB (1 : BitVec 64) (0 : Int))) 2 (enB (1 : BitVec 64) (0 : Int) [BitVec.ofNat 8 97]); let x2 := lenJ (lkG x1) (lkA x1) (Int.ofNat 3) x1; let x3 := ∀ (y : Nat), y < x2 → outs Bool.true [AV.rb Bool.true (entJ (lkA x1) (Int.ofNat 3) x1 y) NL.unk] = Bool.true; let x4 := ∀ (y : Nat), y < x2 → datas Bool.false [AV.rb Bool.true (entJ (lkA x1) (Int.ofNat 3) x1 y) NL.unk] = Bool.true; let x5 := fun (y : Nat) => [AV.rb Bool.true (entJ (lkA x1) (Int.ofNat 3) x1 y) NL.unk]; let x6 := ∀ (y : Nat), y < x2 → datas Bool.false [AV.rb Bool.true (entJ (lkA x1) (Int.ofNat 3) x1 y) NL.unk] = Bool.true ∧ [AV.rb Bool.true (entJ (lkA x1) (Int.ofNat 3) x1 y) NL.unk].length ≤ 1; ((0 : Int) ≤ (8 : Int) ∧ (0 : Int) ≤ (8 : Int) ∧ 8 ≤ 8 ∧ 512 ≤ 281474976710656 ∧ 8 ≤ 9223372036854775807 ∧ ∃ (y : Unit), True ∧ 0 = 0 ∧ (0 : Int) = (0 : Int) ∧ Bool.false = Bool.false ∧ 0 = 0 ∧ 0 = 0 ∧ 0 = 0 ∧ 8 = 8 ∧ Bool.true = Bool.true ∧ (0 : Int) = (0 : Int) ∧ Int.negSucc 0 = Int.negSucc 0 ∧ (0 : Int) = (0 : Int) ∧ noL 8 = List.replicate 512 (0 : BitVec 8) ∧ True) ∧ ∀ (x : Unit), True → 4 ≤ 8 ∧ 8 < 1099511627776 ∧ (0 : Int) ≤ (0 : Int) ∧ (0 : Int) < (1152921504606846976 : Int) ∧ noL 8 = noL 8 ∧ 0 < 1 ∧ 0 < 1 ∧ 1 = 1 ∧ 1 ≤ 1 ∧ 1 ≤ 46 ∧ 512 = 512 ∧ (1 : Int) ≤ Int.ofNat 3 ∧ Int.ofNat 3 < (1099511627776 : Int) ∧ ((1 : Int) < Int.ofNat 3 → (0 : Int) ≤ Int.ofNat 3 ∧ Int.ofNat 3 < Int.ofNat 8 ∧ Int.ofNat 0 ≤ (46 : Int)) ∧ Bool.true = Bool.true ∧ (0 : Int) ≤ Int.ofNat 2 ∧ Int.ofNat 2 < Int.ofNat 8 ∧ (0 : Int) ≤ Int.ofNat 2 ∧ Int.ofNat 2 < (1152921504606846976 : Int) ∧ 8 < 1099511627776 ∧ @Bool.rec (fun _ => Prop) (512 = 512 ∧ 4 ≤ 8 ∧ 8 < 1099511627776 ∧ 512 = 512 ∧ Int.ofNat 3 < (1099511627776 : Int) ∧ (∀ (k : Nat), (↑k : Int) < Int.ofNat 3 → (0 : Int) ≤ plJ (lkA x1) (Int.ofNat 3) (↑k : Int) ∧ plJ (lkA x1) (Int.ofNat 3) (↑k : Int) < Int.ofNat 8 ∧ nqS (jSec (lkA x1) (Int.ofNat 3) (↑k : Int) x1) ≤ (46 : Int)) ∧ x3 ∧ x4 ∧ x4 ∧ x3 ∧ 0 + x2 ≤ x2 ∧ x6 ∧ x2 < 1099511627776 ∧ (∀ (i : Nat), i < x2 → List.length (entJ (lkA x1) (Int.ofNat 3) x1 i) < 1099511627776) ∧ x5 = x5 ∧ x3 ∧ x3 ∧ @Bool.rec (fun _ => Prop) (b = Bool.false ∧ True) (0 < x2 ∧ 0 < x2 ∧ @Bool.rec (fun _ => Prop) (b = Bool.false ∧ True) (x4 ∧ x4 ∧ x3 ∧ 0 + x2 ≤ x2 ∧ x6 ∧ x2 < 1099511627776 ∧ (∀ (i : Nat), i < x2 → List.length (entJ (lkA x1) (Int.ofNat 3) x1 i) ≤ 46) ∧ x5 = x5 ∧ x3 ∧ @Bool.rec (fun _ => Prop) (b = Bool.false ∧ True) ((0 : Int) ≤ (46 : Int) ∧ (46 : Int) < (1099511627776 : Int) ∧ (0 : Int) ≤ (47 : Int) ∧ (47 : Int) < (1099511627776 : Int) ∧ b = Bool.true ∧ True) (decide (IntKind.i64.wrap (Int.ofNat 3 - (↑x2 : Int)) = (2 : Int)))) (decide (entJ (lkA x1) (Int.ofNat 3) x1 0 = [BitVec.ofNat 8 97]))) (decide ((↑x2 : Int) = (1 : Int)))) (512 = 512 ∧ 4 ≤ 8 ∧ 8 < 1099511627776 ∧ b = Bool.false ∧ True) !lkF x1 : Prop) := by kernel_rfl
end Go.Sym

set_option linter.unusedSimpArgs false
namespace Go.Spec
open Go.Sym
/-- The disk behind 'stays'. -/
noncomputable def stL : By := dPut (dPut (noL 8) 1 (slB 1 0)) 2 (enB 1 0 [97])
theorem en97 : (enB 1 0 [97]).length = 64 := by rw [enB_len]; rfl
theorem st_l1 : (dPut (noL 8) 1 (slB 1 0)).length = 512 := by
  rw [dPut_len (by rw [slB_len]; show _ ≤ (List.replicate (8 * 64) 0).length; rw [List.length_replicate]; omega)]
  show (List.replicate (8 * 64) (0 : BitVec 8)).length = 512
  rw [List.length_replicate]
theorem noL_len (sz : Nat) : (noL sz).length = sz * 64 := List.length_replicate
theorem st_0 : dGet stL 0 = List.replicate 64 0 := by
  unfold stL
  rw [dGet_lo (by rw [st_l1, en97]; omega) (by omega), dGet_lo (by rw [slB_len, noL_len]; omega) (by omega), noL_get (by omega)]
theorem st_1 : dGet stL 1 = slB 1 0 := by
  unfold stL
  rw [dGet_lo (by rw [st_l1, en97]; omega) (by omega), dGet_in (by rw [slB_len, noL_len]; omega) (by omega) (by rw [slB_len]; omega)]
  unfold dGet
  exact List.take_of_length_le (by rw [List.length_drop, slB_len]; omega)
theorem st_2 : dGet stL 2 = enB 1 0 [97] := by
  unfold stL
  rw [dGet_in (by rw [st_l1, en97]; omega) (by omega) (by rw [en97]; omega)]
  unfold dGet
  exact List.take_of_length_le (by rw [List.length_drop, en97]; omega)
theorem st_h (i : Nat) (h : 3 ≤ i) (h2 : i < 8) : dGet stL i = List.replicate 64 0 := by
  unfold stL
  rw [dGet_hi (by rw [st_l1, en97]; omega) (by rw [en97]; omega), dGet_hi (by rw [slB_len, noL_len]; omega) (by rw [slB_len]; omega), noL_get h2]
theorem st_U : lkU stL = true := by unfold lkU; rw [st_0, st_1, okS_slB 1 (.inl rfl), ok_no]; rfl
theorem st_F : lkF stL = true := by unfold lkF; rw [st_1, okS_slB 1 (.inl rfl), Bool.or_true]
theorem st_G : lkG stL = 1 := by unfold lkG; rw [st_U, if_pos rfl, st_1, genS_slB]
theorem st_A : lkA stL = 0 := by unfold lkA; rw [st_U, if_pos rfl, st_1, areS_slB 1 (.inl rfl)]
theorem nq_97 : nqS (enB 1 0 [97]) = 1 := by kernel_rfl
theorem rd_97 : rdB (enB 1 0 [97]) = [97] := by
  unfold rdB
  rw [nq_97]
  kernel_rfl
theorem st_s (k : Nat) (h : k < 3) : plJ 0 3 k = 2 + k := by rw [plJ_eq (.inl rfl) (by omega) (by omega) (by omega) (by omega)]; omega
theorem st_j0 : jSec 0 3 0 stL = enB 1 0 [97] := by
  have : jSec 0 3 ((0 : Nat) : Int) stL = _ := rfl
  unfold jSec
  have e := st_s 0 (by omega)
  rw [show plJ 0 3 0 = 2 from e]
  exact st_2
theorem st_j1 (k : Nat) (h : 1 ≤ k) (h2 : k < 3) : jSec 0 3 k stL = List.replicate 64 0 := by
  unfold jSec
  rw [st_s k h2]
  have : ((2 : Int) + k).toNat = 2 + k := by omega
  rw [this]
  exact st_h _ (by omega) (by omega)
theorem st_r0 : rdN 1 3 0 0 (enB 1 0 [97]) = false := by
  unfold rdN
  rw [nq_97, rd_97]
  exact decide_eq_false fun h => by
    rcases h with h | h | h | h | h
    · omega
    · omega
    · omega
    · exact absurd h (by decide)
    · exact h rfl
theorem cntJ_t {g : BitVec 64} {a z : Int} {L : By} {f k : Nat} (h : rdN g z k k (jSec a z k L) = true) : cntJ g a z L (f + 1) k = k := by
  rw [cntJ, h, if_pos rfl]
theorem cntJ_f {g : BitVec 64} {a z : Int} {L : By} {f k : Nat} (h : rdN g z k k (jSec a z k L) = false) : cntJ g a z L (f + 1) k = cntJ g a z L f (k + 1) := by
  rw [cntJ, h, if_neg (by decide)]
theorem st_len : lenJ 1 0 3 stL = 1 := by
  unfold lenJ
  have e : (3 : Int).toNat = 1 + 1 + 1 := rfl
  rw [e, cntJ_f, cntJ_t]
  · rw [st_j1 (0 + 1) (by omega) (by omega)]; exact rdN_no _ _ _ _
  · show rdN 1 3 0 0 (jSec 0 3 0 stL) = false
    rw [st_j0]; exact st_r0
theorem st_e0 : entJ 0 3 stL 0 = [97] := by
  unfold entJ
  show rdB (jSec 0 3 0 stL) = _
  rw [st_j0, rd_97]
end Go.Spec
namespace Go.Sym
open Go.Proofs Go.Spec
set_option linter.unusedVariables false
def gTrue (xs : List AV) (bs : List ABlk) : TL := match xs, bs with
  | [], [] => .ok ⟨[], .bool true, [], []⟩
  | _, _ => .no
def spTrue : Spec := ⟨[], fun _ _ => [], fun _ _ => [], gTrue⟩
set_option maxRecDepth 100000 in
theorem bjY : Must (bodyP Tryd.prog X7 gl0 [] [(20002, lsSt)] 3000 Tryd.f23 0 [] [] (retQ Tryd.prog Tryd.f23 0 ⟨[], .bool true, [], []⟩)) := by
  constructor
  rw [vjY]
  have n3 : Int.ofNat 3 = 3 := rfl
  have n8 : Int.ofNat 8 = 8 := rfl
  have n2 : Int.ofNat 2 = 2 := rfl
  have n0 : Int.ofNat 0 = 0 := rfl
  intro x1 x2 x3 x4 x5 x6
  have h1 : x1 = stL := rfl
  have h2 : x2 = 1 := by
    show lenJ (lkG stL) (lkA stL) 3 stL = 1
    rw [st_G, st_A, st_len]
  have h3 : x3 := fun y hy => rfl
  have h4 : x4 := fun y hy => rfl
  have h6 : x6 := fun y hy => ⟨rfl, Nat.le_refl _⟩
  have hk : ∀ k : Nat, (k : Int) < 3 → 0 ≤ plJ 0 3 k ∧ plJ 0 3 k < 8 ∧ nqS (jSec 0 3 k stL) ≤ 46 := fun k hk => by
    rw [st_s k (by omega)]
    refine ⟨by omega, by omega, ?_⟩
    rcases Nat.eq_zero_or_pos k with rfl | h
    · show nqS (jSec 0 3 0 stL) ≤ 46
      rw [st_j0, nq_97]; omega
    · rw [st_j1 k h (by omega), nq_no]; omega
  have he : ∀ i : Nat, i < 1 → entJ 0 3 stL i = [97] := fun i hi => by
    have : i = 0 := by omega
    subst this
    exact st_e0
  have ew : IntKind.i64.wrap (3 - ((1 : Nat) : Int)) = 2 := by rw [wrap_i64 (by omega) (by omega)]; omega
  rw [n3, n8, n2, n0, h1, h2, st_A, st_F, ew, st_e0]
  clear_value x1 x2 x3 x4 x5 x6
  have hl1 : ∀ i : Nat, i < 1 → (entJ 0 3 stL i).length < 1099511627776 := fun i hi => by rw [he i hi]; decide
  have hl2 : ∀ i : Nat, i < 1 → (entJ 0 3 stL i).length ≤ 46 := fun i hi => by rw [he i hi]; decide
  refine ⟨?_, fun _ _ => ?_⟩
  · and_intros
    all_goals first | omega | rfl | trivial | exact ⟨(), by and_intros <;> first | rfl | trivial⟩
  · and_intros
    all_goals first | omega | rfl | trivial | exact fun _ => ⟨by omega, by omega, by omega⟩ | exact hk | exact h3 | exact h4 | exact h6 | exact hl1 | exact hl2
theorem cjY : COK Tryd.prog gl0 23 (mkF spTrue) := by
  refine ctrE (fn := Tryd.f23) [] 3000 (by kernel_rfl) (by kernel_rfl) okX7 (by kernel_rfl) (fun args w => by kernel_rfl) fun xs bs r hs ho => ?_
  replace hs : (gTrue xs bs).sel = some r := hs
  unfold gTrue at hs
  split at hs
  · simp only [TL.sel, Option.some.injEq] at hs
    subst hs
    exact ⟨_, bjY⟩
  · simp [TL.sel] at hs
end Go.Sym

namespace Go.Sym
open Go.Proofs Go.Spec
set_option linter.unusedVariables false
def lsNd (n : Nat) : LS := ⟨Nat, fun k => [(0, .int .i64 n), (3, .int .i64 k)], fun _ => [], 1000, fun k => needN n - k, fun k => k ≤ needN n, fun _ => []⟩
end Go.Sym

namespace Go.Sym
open Go.Proofs Go.Spec
set_option linter.unusedVariables false
set_option maxRecDepth 100000 in
theorem vjZ (n : Nat) (e : Int) : bodyP Tryd.prog (Ctx.none []) gl0 [] [(3, lsNd n)] 3000 Tryd.f25 0 [.int .i64 n] [] (retQ Tryd.prog Tryd.f25 0 ⟨[], .int .i64 e, [], []⟩) = (
(∃ (x : Nat), x.le (needN n) ∧ (↑n : Int) = (↑n : Int) ∧ (↑x : Int) = (0 : Int) ∧ True) ∧ ∀ (x : Nat), x.le (needN n) → @Bool.rec (fun _ => Prop) (e = (↑x : Int) ∧ True) (∃ (y : Nat), needN n - y < needN n - x ∧ y.le (needN n) ∧ (↑n : Int) = (↑n : Int) ∧ (↑y : Int) = IntKind.i64.wrap ((↑x : Int) + (1 : Int)) ∧ True) (decide (IntKind.i64.wrap ((64 : Int) * (↑x : Int)) < IntKind.i64.wrap ((↑n : Int) + (18 : Int)))) : Prop) := by kernel_rfl
end Go.Sym

namespace Go.Sym
open Go.Proofs Go.Spec
set_option linter.unusedVariables false
theorem bjZ (n : Nat) (hn : n < 1099511627776) : Must (bodyP Tryd.prog (Ctx.none []) gl0 [] [(3, lsNd n)] 3000 Tryd.f25 0 [.int .i64 n] [] (retQ Tryd.prog Tryd.f25 0 ⟨[], .int .i64 (needN n), [], []⟩)) := by
  constructor
  rw [vjZ]
  have hd : needN n = (n + 81) / 64 := rfl
  refine ⟨⟨0, Nat.zero_le _, rfl, rfl, trivial⟩, fun x hx => ?_⟩
  have hx : x ≤ needN n := hx
  have e1 : IntKind.i64.wrap (64 * (x : Int)) = ((64 * x : Nat) : Int) := wrap_nat (64 * x) (by omega) (by omega)
  have e2 : IntKind.i64.wrap ((n : Int) + 18) = ((n + 18 : Nat) : Int) := wrap_nat (n + 18) (by omega) (by omega)
  rw [e1, e2]
  refine brec (fun c => ?_) (fun c => ?_)
  · have c := dtr c
    refine ⟨x + 1, by omega, ?_, rfl, (wrap_nat (x + 1) (by omega) (by omega)).symm, trivial⟩
    show x + 1 ≤ needN n
    omega
  · have c := dfl c
    exact ⟨by omega, trivial⟩
noncomputable def gjZ (xs : List AV) (bs : List ABlk) : TL := match xs, bs with
  | [.int .i64 n], [] => .ok ⟨[0 ≤ n, n < 1099511627776], .int .i64 (needN n.toNat), [], []⟩
  | _, _ => .no
noncomputable def spjZ : Spec := ⟨[.kp], fun _ _ => [], fun _ _ => [], gjZ⟩
theorem cjZ : COK Tryd.prog gl0 25 (mkF spjZ) := by
  refine ctrE (fn := Tryd.f25) [] 3000 (by kernel_rfl) (by kernel_rfl) (COKs.none (keep := [])) (by kernel_rfl) (fun args w => by kernel_rfl) fun xs bs r hs ho => ?_
  replace hs : (gjZ xs bs).sel = some r := hs
  unfold gjZ at hs
  split at hs
  · rename_i n
    simp only [TL.sel, Option.some.injEq] at hs
    subst hs
    obtain ⟨h1, ho⟩ := obsT_cons.1 ho
    have h2 := obsT_one.1 ho
    obtain ⟨m, rfl⟩ : ∃ m : Nat, n = m := ⟨n.toNat, by omega⟩
    exact ⟨_, bjZ m (by omega)⟩
  · simp [TL.sel] at hs
noncomputable def Y9 : Ctx := (((Ctx.none []).add 23 (mkF spTrue)).add 24 (mkF spjN)).add 25 (mkF spjZ)
theorem okY9 : COKs Tryd.prog gl0 Y9 := ((COKs.none.add cjY).add cjN).add cjZ
end Go.Sym

namespace Go.Sym
open Go.Proofs Go.Spec
set_option linter.unusedVariables false
set_option maxRecDepth 100000 in
theorem vj8 (n : Int) : bodyP Tryd.prog Y9 gl0 [] [] 3000 Tryd.f8 0 [.int .i64 n] [] (retQ Tryd.prog Tryd.f8 0 ⟨[], .bool true, [], []⟩) = (
let x1 := IntKind.i64.wrap (↑(BitVec.ofInt 64 n % BitVec.ofNat 64 4097).toNat : Int); (0 : Int) ≤ x1 ∧ x1 < (1099511627776 : Int) ∧ (0 : Int) ≤ x1 ∧ x1 < (1099511627776 : Int) ∧ Bool.true = decide ((↑(needN x1.toNat) : Int) = (↑(needN x1.toNat) : Int)) ∧ True : Prop) := by kernel_rfl
end Go.Sym

namespace Go.Sym
open Go.Proofs Go.Spec
theorem bj8 (n : Int) : Must (bodyP Tryd.prog Y9 gl0 [] [] 3000 Tryd.f8 0 [.int .i64 n] [] (retQ Tryd.prog Tryd.f8 0 ⟨[], .bool true, [], []⟩)) := by
  constructor
  rw [vj8]
  intro x1
  have h : (BitVec.ofInt 64 n % BitVec.ofNat 64 4097).toNat < 4097 := by
    rw [BitVec.toNat_umod]
    exact Nat.mod_lt _ (by decide)
  have e : x1 = ((BitVec.ofInt 64 n % BitVec.ofNat 64 4097).toNat : Int) := wrap_nat _ rfl (by omega)
  exact ⟨by omega, by omega, by omega, by omega, (decide_eq_true rfl).symm, trivial⟩
end Go.Sym

/- JournalNeeds: of all counts the sectors are told that an entry takes. Condition: the two tables of the package start as the text of the program lays them, which the card ties. -/
namespace Go.Sym
open Go.Proofs Go.Spec
theorem w8 (W : World) (hG : GW gl0 W) (n0 : Int) :
    Calls Tryd.prog 8 #[.int .i64 n0] W fun e w' => e = .returned (.bool true) ∧ RowKit.Below W.heap.size W w' := by
  have hv : VRels (κW W) [.int .i64 n0] [.int .i64 n0] := by
    simp only [VRels]
    exact ⟨_, _, rfl, rfl, rfl⟩
  refine law_walk (gl := gl0) (Γ := Y9) (fn := Tryd.f8) (av := [.int .i64 n0]) (ls := []) [] 3000 (by kernel_rfl) (by kernel_rfl) okY9 (by kernel_rfl) hG (by kernel_rfl) hv ?_
  exact bj8 n0
end Go.Sym
namespace Go.Proofs.YtmpgpbbaloiniaaDoor.journalNeeds
open Go.ChangeShapes Go.WideShapes Go.ChangeAt Go.WideMaps Go.WideElems Go.RowKit
set_option linter.unusedVariables false
set_option maxRecDepth 100000 in
theorem lifted (os : Os) (started : os.Started) (H : Type) (enc : TypeId × Value → H) :
    ReturnsInHanded {} Tryd.checked os 8 .any (fun w args => (Rows.journalNeedsSpec.pre enc Tryd.prog Tryd.f8 [] false w args ∧ laidMetH Tryd.prog laid2 w) ∧ sizedMet enc Tryd.prog Tryd.f8 (OpenSpec.ofChange Rows.journalNeedsSpec) false w args)
      (Rows.journalNeedsSpec.post enc Tryd.prog Tryd.f8 false true false false) := by
  refine returnsInHanded_of_change_and (C := Tryd.checked) (X := fun w _ => laidMetH Tryd.prog laid2 w) (fun _ _ _ hh h => h.of_heap hh) own started (by kernel_rfl) Tryd.func8
    (ChangeSpec.witness_shaped (enc := enc) (C := Tryd.checked) (os := os) (X := fun w _ => laidMetH Tryd.prog laid2 w) false (World.doorLaid Tryd.prog 400 os) #[.int .i64 0] 8 rfl (World.shaped_of_RefB (by kernel_rfl) (by kernel_rfl)) (by kernel_rfl) (by kernel_rfl) (by kernel_rfl) (door_met os _)) ?_
  intro W base args ds gs before hval0 hW _ _ hL _
  have hval : ∀ (j : Nat) t v, Tryd.f8.params[j]? = some t → args[j]? = some v → Value.okWide Tryd.prog W .any base t v := hval0
  have hW' := hW
  obtain ⟨p, q, hA0, hV, rfl, hfz, hnd⟩ := hW
  have hA : DataW.TrodAll enc Tryd.prog W 0 (fun _ => true) true Tryd.f8.params.toList args.toList ds p := hA0
  rw [Tryd.params8] at hA hval
  obtain ⟨v0, vs0, d0, ds0, p0, q0, hargs, rfl, rfl, h0, r0⟩ := trodAll_cons hA
  obtain ⟨rfl, rfl, rfl⟩ := trodAll_nil r0
  obtain rfl : args = #[v0] := by cases args; simp_all
  obtain ⟨rfl, rfl⟩ := trodVars_none hV
  obtain ⟨a0, rfl, rfl, rfl, w0⟩ := open_int Tryd.underlying3 (hval 0 3 v0 rfl rfl) h0
  clear hA0 hval0
  refine (Go.Sym.w8 W (gw_laid hL) a0).mono fun e W' ⟨he, bel⟩ => ?_
  subst he
  exact ⟨_, rfl, _, _, _, [], _, [], hW', trodAll_mk1 (shut_bool Tryd.underlying4 _), (trodAll_cons_mk (shut_int Tryd.underlying3 w0) trodAll_mk0), rfl, bel.frame _, fun h => by cases h⟩

theorem over : Rows.journalNeedsRow.holds Tryd.pinned (OpenSpec.ofChange Rows.journalNeedsSpec) :=
  OpenClaim.holds_of_wide 8 Tryd.f8 rfl rfl rfl rfl rfl rfl rfl ⟨rfl, rfl, rfl, rfl, rfl⟩ rfl rfl rfl rfl rfl (by kernel_rfl) Tryd.func8 (by kernel_rfl)
    (of_decide_eq_true (by kernel_rfl)) (by unfold Func.isWrapper; first | (rw [if_pos (by decide +kernel)]; kernel_rfl) | (rw [if_neg (by decide +kernel)]; exact ⟨rfl, rfl⟩))
    (fun os started H enc _ => lifted os started H enc)

theorem proved : Rows.JournalNeedsCardSaid :=
  Claim7.holds_tied_plain_at .later [] [.data, .data] true (true, "509a89b67618beb9fd1f9164ca8e5d72b3360772a5436b980171c475dab6690a") false
    over (fun _ h => by cases h) (by kernel_rfl) (fun _ h => by cases h) journalNeeds_row_tie rfl ⟨rfl, rfl⟩ (by kernel_rfl) rfl
    (fun f fn hf hfn => by
      obtain rfl : f = 8 := Option.some.inj ((show Tryd.prog.funcNamed "relay/relaylaw11.JournalNeeds" = some 8 by kernel_rfl).symm.trans hf) |>.symm
      obtain rfl : fn = Tryd.f8 := (Option.some.inj (Tryd.func8.symm.trans hfn)).symm
      exact ⟨by kernel_rfl, fun j t ht => by
        rw [Tryd.params8] at ht
        have hm : t ∈ [3] := by simpa using Array.mem_of_getElem? ht
        have hall : ([3].all fun u => !Tryd.prog.wantsStandIn u) = true := by kernel_rfl
        exact (show Tryd.prog.wantsStandIn t = false by simpa using List.all_eq_true.1 hall t hm)⟩)
    (by kernel_rfl)
#print axioms proved
end Go.Proofs.YtmpgpbbaloiniaaDoor.journalNeeds
