/- Messages: what is put, and what is taken. -/
import Derived.Test.YtgniepaehjdjaaaCurB
namespace Go.Spec
def mpBad (k : Int) (n : Nat) : Bool := decide (k < 0) || decide (255 < k) || decide (2048 < n)
/-- A message's bytes. -/
def mpB (k : Int) (v : By) : By := puL k.toNat 1 ++ (puL v.length 3 ++ v)
/-- The count that stands in a message's bytes; what is taken: 0 nothing yet, 1 a message, 2 it can't be. -/
def tkN (b : By) : Nat := beN ((b.drop 1).take 3)
def tkC (b : By) : Nat := if b.length < 4 then 0 else if 2048 < tkN b then 2 else if b.length < 4 + tkN b then 0 else 1
def tkK (b : By) : Int := if tkC b = 1 then ((b.getD 0 0).toNat : Int) else 0
def tkM (b : By) : By := if tkC b = 1 then (b.drop 4).take (tkN b) else []
def tkR (b : By) : By := if tkC b = 1 then b.drop (4 + tkN b) else if tkC b = 2 then [] else b
end Go.Spec
namespace Go.Sym
open Go.Proofs Go.Spec
set_option linter.unusedVariables false
noncomputable def M1 : Ctx := Qz21.exe Try.prog gl0 [] 300 Try.f73.params.size 73 Try.f73
theorem okM1 : COKs Try.prog gl0 M1 := okQz21.exe [] 300 _ (by kernel_rfl) (by kernel_rfl) (by kernel_rfl) (fun args w => by kernel_rfl)
noncomputable def M2 : Ctx := M1.exe Try.prog gl0 [] 300 Try.f74.params.size 74 Try.f74
theorem okM2 : COKs Try.prog gl0 M2 := okM1.exe [] 300 _ (by kernel_rfl) (by kernel_rfl) (by kernel_rfl) (fun args w => by kernel_rfl)
def rMg (L : Nat) (B : By) : RL := ⟨[], .tup [.slice 0 0 1 L .ow (.is false), .int .i64 0], [], [⟨.bytes B, true, 1⟩]⟩
def rMb : RL := ⟨[], .tup [.nils, .int .i64 1], [], []⟩
def rMt (k e : Int) (ok : Bool) (l1 l2 : Nat) (B R : By) : RL := ⟨[], .tup [.agg [.int .i64 k, .slice 0 0 1 l1 .ow .unk], .slice 1 0 1 l2 .ow .unk, .bool ok, .int .i64 e], [], [⟨.bytes B, true, 1⟩, ⟨.bytes R, true, 1⟩]⟩
end Go.Sym

namespace Go.Sym
open Go.Proofs Go.Spec
set_option linter.unusedVariables false
set_option maxRecDepth 100000 in
theorem vm32g (k : Int) (v B : By) (L : Nat) : bodyP Try.prog M2 gl0 [] [] 3000 Try.f32 0 [.agg [.int .i64 k, .rb false v .unk]] [] (retQ Try.prog Try.f32 0 (rMg L B)) = (
let x1 := Bool.false = Bool.true ∧ L = 0 ∧ (0 : Int) = (1 : Int) ∧ B = [] ∧ True; @Bool.rec (fun _ => Prop) x1 (@Bool.rec (fun _ => Prop) x1 (@Bool.rec (fun _ => Prop) (@Bool.rec (fun _ => Prop) (0 < 1099511627776 ∧ @Bool.rec (fun _ => Prop) (1 = List.length (puB [] k (1 : Int)) ∧ List.length (puB [] k (1 : Int)) + List.length v < 549755813888 ∧ Bool.false = Bool.false ∧ 0 = 0 ∧ 0 = 0 ∧ 0 = 0 ∧ L = List.length (puB [] k (1 : Int)) + 3 + List.length v ∧ (0 : Int) = (0 : Int) ∧ B = pvB (puB [] k (1 : Int)) v (3 : Int) ∧ True) (1 = List.length (puB [] k (1 : Int)) ∧ List.length (puB [] k (1 : Int)) + List.length v < 549755813888 ∧ Bool.false = Bool.true ∧ L = 0 ∧ (0 : Int) = (0 : Int) ∧ B = [] ∧ True) (puBad (↑(List.length v) : Int) (3 : Int))) (0 < 1099511627776 ∧ @Bool.rec (fun _ => Prop) (0 + List.length v < 549755813888 ∧ Bool.false = Bool.false ∧ 0 = 0 ∧ 0 = 0 ∧ 0 = 0 ∧ L = 3 + List.length v ∧ (0 : Int) = (0 : Int) ∧ B = pvB [] v (3 : Int) ∧ True) (0 + List.length v < 549755813888 ∧ Bool.false = Bool.true ∧ L = 0 ∧ (0 : Int) = (0 : Int) ∧ B = [] ∧ True) (puBad (↑(List.length v) : Int) (3 : Int))) (puBad k (1 : Int))) x1 (decide ((2048 : Int) < (↑(List.length v) : Int)))) !!decide (k ≤ (255 : Int))) (decide ((0 : Int) ≤ k)) : Prop) := by kernel_rfl
set_option maxRecDepth 100000 in
theorem vm32b (k : Int) (v : By) : bodyP Try.prog M2 gl0 [] [] 3000 Try.f32 0 [.agg [.int .i64 k, .rb false v .unk]] [] (retQ Try.prog Try.f32 0 rMb) = (
@Bool.rec (fun _ => Prop) ((1 : Int) = (1 : Int) ∧ True) (@Bool.rec (fun _ => Prop) ((1 : Int) = (1 : Int) ∧ True) (@Bool.rec (fun _ => Prop) (@Bool.rec (fun _ => Prop) (0 < 1099511627776 ∧ @Bool.rec (fun _ => Prop) (1 = List.length (puB [] k (1 : Int)) ∧ List.length (puB [] k (1 : Int)) + List.length v < 549755813888 ∧ Bool.false = Bool.true ∧ (1 : Int) = (0 : Int) ∧ True) (1 = List.length (puB [] k (1 : Int)) ∧ List.length (puB [] k (1 : Int)) + List.length v < 549755813888 ∧ (1 : Int) = (0 : Int) ∧ True) (puBad (↑(List.length v) : Int) (3 : Int))) (0 < 1099511627776 ∧ @Bool.rec (fun _ => Prop) (0 + List.length v < 549755813888 ∧ Bool.false = Bool.true ∧ (1 : Int) = (0 : Int) ∧ True) (0 + List.length v < 549755813888 ∧ (1 : Int) = (0 : Int) ∧ True) (puBad (↑(List.length v) : Int) (3 : Int))) (puBad k (1 : Int))) ((1 : Int) = (1 : Int) ∧ True) (decide ((2048 : Int) < (↑(List.length v) : Int)))) !!decide (k ≤ (255 : Int))) (decide ((0 : Int) ≤ k)) : Prop) := by kernel_rfl
set_option maxRecDepth 100000 in
theorem vm34 (k e : Int) (ok : Bool) (l1 l2 : Nat) (b B R : By) : bodyP Try.prog M2 gl0 [] [] 3000 Try.f34 0 [.rb false b .unk] [] (retQ Try.prog Try.f34 0 (rMt k e ok l1 l2 B R)) = (
let x1 := uiX b 0 (0 : Int) (1 : Int); let x2 := uiE b 0 (0 : Int) (1 : Int); let x3 := rdX b (uiX b x1 x2 (3 : Int)) (uiE b x1 x2 (3 : Int)) (↑(uiV b x1 x2 (3 : Int)) : Int); let x4 := rdE b (uiX b x1 x2 (3 : Int)) (uiE b x1 x2 (3 : Int)) (↑(uiV b x1 x2 (3 : Int)) : Int); List.length b < 1099511627776 ∧ 0 + List.length b = List.length b ∧ List.length b < 1099511627776 ∧ x1 + (List.length b - x1) = List.length b ∧ List.length b < 1099511627776 ∧ @Bool.rec (fun _ => Prop) (uiX b x1 x2 (3 : Int) + (List.length b - uiX b x1 x2 (3 : Int)) = List.length b ∧ List.length b < 1099511627776 ∧ @Bool.rec (fun _ => Prop) (x3 + (List.length b - x3) = List.length b ∧ List.length b < 1099511627776 ∧ k = (↑(uiV b 0 (0 : Int) (1 : Int)) : Int) ∧ 0 = 0 ∧ 0 = 0 ∧ 0 = 0 ∧ l1 = List.length (rdB b (uiX b x1 x2 (3 : Int)) (uiE b x1 x2 (3 : Int)) (↑(uiV b x1 x2 (3 : Int)) : Int)) ∧ 0 = 0 ∧ 0 = 0 ∧ 0 = 0 ∧ l2 = List.length (rdB b x3 x4 (lfV (List.length b - x3) x4)) ∧ ok = Bool.true ∧ e = (0 : Int) ∧ B = rdB b (uiX b x1 x2 (3 : Int)) (uiE b x1 x2 (3 : Int)) (↑(uiV b x1 x2 (3 : Int)) : Int) ∧ R = rdB b x3 x4 (lfV (List.length b - x3) x4) ∧ True) (List.length b < 1099511627776 ∧ k = (0 : Int) ∧ l1 = 0 ∧ 0 = 0 ∧ 0 = 0 ∧ 0 = 0 ∧ l2 = List.length b ∧ ok = Bool.false ∧ e = (0 : Int) ∧ B = [] ∧ R = b ∧ True) !decide (x4 = (0 : Int))) (k = (0 : Int) ∧ l1 = 0 ∧ l2 = 0 ∧ ok = Bool.false ∧ e = (3 : Int) ∧ B = [] ∧ R = [] ∧ True) (decide ((2048 : Int) < (↑(uiV b x1 x2 (3 : Int)) : Int))) : Prop) := by kernel_rfl
end Go.Sym

set_option linter.unusedSimpArgs false
namespace Go.Spec
theorem rd_ok {L : By} {x : Nat} {m : Int} (h0 : 0 ≤ m) (h : x + m.toNat ≤ L.length) : rdE L x 0 m = 0 ∧ rdX L x 0 m = x + m.toNat ∧ rdB L x 0 m = (L.drop x).take m.toNat := by
  have hE : rdE L x 0 m = 0 := by
    unfold rdE
    rw [if_neg (by simp), if_neg (by omega), if_neg (by omega)]
  exact ⟨hE, by simp [rdX, hE], by simp [rdB, hE]⟩
theorem rd_short {L : By} {x : Nat} {m : Int} (h0 : 0 ≤ m) (hx : x ≤ L.length) (h : L.length < x + m.toNat) : rdE L x 0 m = 2 ∧ rdX L x 0 m = x ∧ rdB L x 0 m = [] := by
  have hE : rdE L x 0 m = 2 := by
    unfold rdE
    rw [if_neg (by simp), if_neg (by omega), if_pos (by omega)]
  exact ⟨hE, by simp [rdX, hE], by simp [rdB, hE]⟩
theorem rd_err {L : By} {x : Nat} {e m : Int} (he : e ≠ 0) : rdE L x e m = e ∧ rdX L x e m = x ∧ rdB L x e m = [] := by
  have hE : rdE L x e m = e := by unfold rdE; rw [if_pos he]
  exact ⟨hE, by simp [rdX, hE, he], by simp [rdB, hE, he]⟩
theorem ui_ok {L : By} {x : Nat} {w : Int} (h1 : 1 ≤ w) (h4 : w ≤ 4) (h : x + w.toNat ≤ L.length) : uiE L x 0 w = 0 ∧ uiX L x 0 w = x + w.toNat ∧ uiV L x 0 w = beN ((L.drop x).take w.toNat) := by
  obtain ⟨k1, k2, k3⟩ := rd_ok (L := L) (x := x) (m := w) (by omega) h
  rw [uiE_w _ _ _ _ h1 h4, uiX_w _ _ _ _ h1 h4, uiV_w _ _ _ _ h1 h4, k1, k2, k3]
  exact ⟨rfl, rfl, rfl⟩
theorem ui_short {L : By} {x : Nat} {w : Int} (h1 : 1 ≤ w) (h4 : w ≤ 4) (hx : x ≤ L.length) (h : L.length < x + w.toNat) : uiE L x 0 w = 2 ∧ uiX L x 0 w = x ∧ uiV L x 0 w = 0 := by
  obtain ⟨k1, k2, k3⟩ := rd_short (L := L) (x := x) (m := w) (by omega) hx h
  rw [uiE_w _ _ _ _ h1 h4, uiX_w _ _ _ _ h1 h4, uiV_w _ _ _ _ h1 h4, k1, k2, k3]
  exact ⟨rfl, rfl, rfl⟩
theorem ui_err {L : By} {x : Nat} {e w : Int} (he : e ≠ 0) : uiE L x e w = e ∧ uiX L x e w = x ∧ uiV L x e w = 0 := by
  have hE : uiE L x e w = e := by unfold uiE; rw [if_pos he]
  exact ⟨hE, by simp [uiX, hE, he], by simp [uiV, hE, he]⟩
theorem mpB_len (k : Int) (v : By) : (mpB k v).length = 4 + v.length := by simp [mpB, puL_len]; omega
theorem beN_one (b : By) (h : 1 ≤ b.length) : beN (b.take 1) = (b.getD 0 0).toNat := by
  cases b with
  | nil => simp at h
  | cons x b => simp [beN]
end Go.Spec
namespace Go.Sym
open Go.Proofs Go.Spec
set_option linter.unusedVariables false
theorem mp_ok {k : Int} {v : By} (h : mpBad k v.length = false) : 0 ≤ k ∧ k ≤ 255 ∧ v.length ≤ 2048 ∧ puBad k 1 = false ∧ puBad v.length 3 = false := by
  simp only [mpBad, Bool.or_eq_false_iff, decide_eq_false_iff_not] at h
  obtain ⟨⟨h1, h2⟩, h3⟩ := h
  refine ⟨by omega, by omega, by omega, puBad_ok (by omega) (by omega) (by omega) ?_, puBad_ok (by omega) (by omega) (by omega) ?_⟩
  · show k < (256 : Int) ^ 1; omega
  · show (v.length : Int) < (256 : Int) ^ 3; omega
theorem bm32g (k : Int) (v : By) (h : mpBad k v.length = false) : Must (bodyP Try.prog M2 gl0 [] [] 3000 Try.f32 0 [.agg [.int .i64 k, .rb false v .unk]] [] (retQ Try.prog Try.f32 0 (rMg (4 + v.length) (mpB k v)))) := by
  constructor
  rw [vm32g]
  obtain ⟨h1, h2, h3, h4, h5⟩ := mp_ok h
  have d1 : decide (0 ≤ k) = true := decide_eq_true h1
  have d2 : decide (k ≤ 255) = true := decide_eq_true h2
  have d3 : decide ((2048 : Int) < (v.length : Int)) = false := decide_eq_false (by omega)
  have hl : (puB [] k 1).length = 1 := by rw [puB_len]; rfl
  intro x1
  rw [d1, d2, d3, h4, h5, hl]
  refine ⟨by omega, by trivial, by omega, ?_⟩
  and_intros <;> first | exact trivial | rfl | omega | (simp [mpB, pvB, puB])
theorem bm32b (k : Int) (v : By) (h : mpBad k v.length = true) : Must (bodyP Try.prog M2 gl0 [] [] 3000 Try.f32 0 [.agg [.int .i64 k, .rb false v .unk]] [] (retQ Try.prog Try.f32 0 rMb)) := by
  constructor
  rw [vm32b]
  by_cases h1 : 0 ≤ k
  · by_cases h2 : k ≤ 255
    · have h3 : 2048 < v.length := by
        simp only [mpBad, Bool.or_eq_true, decide_eq_true_eq] at h
        omega
      have d3 : decide ((2048 : Int) < (v.length : Int)) = true := decide_eq_true (by omega)
      rw [decide_eq_true h1, decide_eq_true h2, d3]
      exact ⟨rfl, trivial⟩
    · rw [decide_eq_true h1, decide_eq_false h2]
      exact ⟨rfl, trivial⟩
  · rw [decide_eq_false h1]
    exact ⟨rfl, trivial⟩
theorem bm34 (b : By) (hb : b.length < 1099511627776) : Must (bodyP Try.prog M2 gl0 [] [] 3000 Try.f34 0 [.rb false b .unk] [] (retQ Try.prog Try.f34 0 (rMt (tkK b) (if tkC b = 2 then 3 else 0) (decide (tkC b = 1)) (tkM b).length (tkR b).length (tkM b) (tkR b)))) := by
  constructor
  rw [vm34]
  by_cases h4 : b.length < 4
  · have hC : tkC b = 0 := by unfold tkC; rw [if_pos h4]
    have hK : tkK b = 0 := by simp [tkK, hC]
    have hM : tkM b = [] := by simp [tkM, hC]
    have hR : tkR b = b := by simp [tkR, hC]
    have key : ∃ x2 e2 x e, uiX b 0 0 1 = x2 ∧ uiE b 0 0 1 = e2 ∧ uiX b x2 e2 3 = x ∧ uiE b x2 e2 3 = e ∧ uiV b x2 e2 3 = 0 ∧ e = 2 ∧ x2 ≤ b.length ∧ x ≤ b.length := by
      by_cases h0 : b.length = 0
      · obtain ⟨k1, k2, k3⟩ := ui_short (L := b) (x := 0) (w := 1) (by decide) (by decide) (by omega) (by rw [h0]; decide)
        obtain ⟨j1, j2, j3⟩ := ui_err (L := b) (x := 0) (e := 2) (w := 3) (by decide)
        exact ⟨0, 2, 0, 2, k2, k1, j2, j1, j3, rfl, by omega, by omega⟩
      · obtain ⟨k1, k2, k3⟩ := ui_ok (L := b) (x := 0) (w := 1) (by decide) (by decide) (by show 0 + 1 ≤ _; omega)
        obtain ⟨j1, j2, j3⟩ := ui_short (L := b) (x := 1) (w := 3) (by decide) (by decide) (by omega) (by show _ < 1 + 3; omega)
        exact ⟨1, 0, 1, 2, k2, k1, j2, j1, j3, rfl, by omega, by omega⟩
    obtain ⟨x2, e2, x, e, a1, a2, a3, a4, a5, rfl, a6, a7⟩ := key
    obtain ⟨r1, r2, r3⟩ := rd_err (L := b) (x := x) (e := 2) (m := ((0 : Nat) : Int)) (by decide)
    simp only [a1, a2, a3, a4, a5, r1, r2, r3, hC, hK, hM, hR]
    have d : decide ((2048 : Int) < ((0 : Nat) : Int)) = false := by decide
    have d2 : decide ((2 : Int) = 0) = false := by decide
    rw [d, d2]
    and_intros <;> first | exact trivial | rfl | omega
  · obtain ⟨k1, k2, k3⟩ := ui_ok (L := b) (x := 0) (w := 1) (by decide) (by decide) (by show 0 + 1 ≤ _; omega)
    have k2 : uiX b 0 0 1 = 1 := k2
    obtain ⟨j1, j2, j3⟩ := ui_ok (L := b) (x := 1) (w := 3) (by decide) (by decide) (by show 1 + 3 ≤ _; omega)
    have j2 : uiX b 1 0 3 = 4 := j2
    have j3 : uiV b 1 0 3 = tkN b := j3
    have k3 : uiV b 0 0 1 = (b.getD 0 0).toNat := by rw [k3]; exact beN_one b (by omega)
    simp only [k1, k2, k3, j1, j2, j3]
    by_cases hn : 2048 < tkN b
    · have hC : tkC b = 2 := by unfold tkC; rw [if_neg h4, if_pos hn]
      have hK : tkK b = 0 := by simp [tkK, hC]
      have hM : tkM b = [] := by simp [tkM, hC]
      have hR : tkR b = [] := by simp [tkR, hC]
      have d : decide ((2048 : Int) < (tkN b : Int)) = true := decide_eq_true (by omega)
      rw [d]
      simp only [hC, hK, hM, hR]
      skip
      and_intros <;> first | exact trivial | rfl | omega
    · have d : decide ((2048 : Int) < (tkN b : Int)) = false := decide_eq_false (by omega)
      rw [d]
      by_cases hl : b.length < 4 + tkN b
      · have hC : tkC b = 0 := by unfold tkC; rw [if_neg h4, if_neg hn, if_pos hl]
        have hK : tkK b = 0 := by simp [tkK, hC]
        have hM : tkM b = [] := by simp [tkM, hC]
        have hR : tkR b = b := by simp [tkR, hC]
        obtain ⟨r1, r2, r3⟩ := rd_short (L := b) (x := 4) (m := (tkN b : Int)) (by omega) (by omega) (by rw [Int.toNat_natCast]; exact hl)
        simp only [r1, r2, r3, hC, hK, hM, hR]
        have d2 : decide ((2 : Int) = 0) = false := by decide
        rw [d2]
        skip
        and_intros <;> first | exact trivial | rfl | omega
      · have hC : tkC b = 1 := by unfold tkC; rw [if_neg h4, if_neg hn, if_neg hl]
        have hK : tkK b = (b.getD 0 0).toNat := by simp [tkK, hC]
        have hM : tkM b = (b.drop 4).take (tkN b) := by simp [tkM, hC]
        have hR : tkR b = b.drop (4 + tkN b) := by simp [tkR, hC]
        obtain ⟨r1, r2, r3⟩ := rd_ok (L := b) (x := 4) (m := (tkN b : Int)) (by omega) (by rw [Int.toNat_natCast]; omega)
        rw [Int.toNat_natCast] at r2 r3
        have hlf : lfV (b.length - (4 + tkN b)) 0 = ((b.length - (4 + tkN b) : Nat) : Int) := by simp [lfV]
        obtain ⟨s1, s2, s3⟩ := rd_ok (L := b) (x := 4 + tkN b) (m := ((b.length - (4 + tkN b) : Nat) : Int)) (by omega) (by rw [Int.toNat_natCast]; omega)
        rw [Int.toNat_natCast, List.take_of_length_le (by simp)] at s3
        simp only [r1, r2, r3, hlf, s3, hC, hK, hM, hR, decide_true, Bool.not_true]
        skip
        and_intros <;> first | exact trivial | rfl | omega
end Go.Sym

set_option linter.unusedSimpArgs false
namespace Go.Sym
open Go.Proofs Go.Spec
set_option linter.unusedVariables false
def gm32 (xs : List AV) (bs : List ABlk) : TL := match xs, bs with
  | [.agg [.int .i64 k, .rb false v .unk]], [] => .br (mpBad k v.length) (.ok rMb) (.ok (rMg (4 + v.length) (mpB k v)))
  | _, _ => .no
def spm32 : Spec := ⟨[.a [.kp, .by0]], fun _ _ => [], fun _ _ => [], gm32⟩
theorem cm32 : COK Try.prog gl0 32 (mkF spm32) := by
  refine ctrE (fn := Try.f32) [] 3000 (by kernel_rfl) (by kernel_rfl) okM2 (by kernel_rfl) (fun args w => by kernel_rfl) fun xs bs r hs ho => ?_
  replace hs : (gm32 xs bs).sel = some r := hs
  unfold gm32 at hs
  split at hs
  · rename_i k v
    cases hb : mpBad k v.length <;> rw [hb] at hs
    · simp only [TL.sel, Option.some.injEq] at hs
      subst hs
      exact ⟨_, bm32g _ _ hb⟩
    · simp only [TL.sel, Option.some.injEq] at hs
      subst hs
      exact ⟨_, bm32b _ _ hb⟩
  · simp [TL.sel] at hs
def gm34 (xs : List AV) (bs : List ABlk) : TL := match xs, bs with
  | [.rb false b .unk], [] => .ok ⟨[b.length < 1099511627776], .tup [.agg [.int .i64 (tkK b), .slice 0 0 1 (tkM b).length .ow .unk], .slice 1 0 1 (tkR b).length .ow .unk, .bool (decide (tkC b = 1)), .int .i64 (if tkC b = 2 then 3 else 0)], [], [⟨.bytes (tkM b), true, 1⟩, ⟨.bytes (tkR b), true, 1⟩]⟩
  | _, _ => .no
def spm34 : Spec := ⟨[.by0], fun _ _ => [], fun _ _ => [], gm34⟩
theorem cm34 : COK Try.prog gl0 34 (mkF spm34) := by
  refine ctrE (fn := Try.f34) [] 3000 (by kernel_rfl) (by kernel_rfl) okM2 (by kernel_rfl) (fun args w => by kernel_rfl) fun xs bs r hs ho => ?_
  replace hs : (gm34 xs bs).sel = some r := hs
  unfold gm34 at hs
  split at hs
  · simp only [TL.sel, Option.some.injEq] at hs
    subst hs
    exact ⟨_, bm34 _ (obsT_one.1 ho)⟩
  · simp [TL.sel] at hs
noncomputable def M3 : Ctx := M2.add 32 (mkF spm32)
noncomputable def M4 : Ctx := M3.add 34 (mkF spm34)
theorem okM4 : COKs Try.prog gl0 M4 := (okM2.add cm32).add cm34
noncomputable def M5 : Ctx := M4.exe Try.prog gl0 [] 300 Try.f75.params.size 75 Try.f75
theorem okM5 : COKs Try.prog gl0 M5 := okM4.exe [] 300 _ (by kernel_rfl) (by kernel_rfl) (by kernel_rfl) (fun args w => by kernel_rfl)
def Ctx.withKeep (Γ : Ctx) (l : List String) : Ctx := ⟨Γ.fn, l, Γ.sym, Γ.frz⟩
theorem COKs.withKeep {P : Program} {gl : Gl} {Γ : Ctx} (h : COKs P gl Γ) (l : List String) : COKs P gl (Γ.withKeep l) := h
def rMx (L : Nat) (B : By) : RL := ⟨[], .tup [.slice 0 0 1 L .ow (.is false), .bool true], [], [⟨.bytes B, true, 1⟩]⟩
def rMy : RL := ⟨[], .tup [.nils, .bool false], [], []⟩
end Go.Sym

namespace Go.Sym
open Go.Proofs Go.Spec
set_option linter.unusedVariables false
set_option maxRecDepth 100000 in
theorem vm33 (b : Bool) : bodyP Try.prog (M5.withKeep ["law.go:13"]) gl0 [] [] 3000 Try.f33 0 [] [] (retQ Try.prog Try.f33 0 ⟨[], .bool b, [], []⟩) = (
1 = 1 ∧ 1 = 1 ∧ 5 = 5 ∧ roomFor 5 1 1 ∧ 6 ≤ 6 ∧ 6 < 1099511627776 ∧ 5 = 5 ∧ b = Bool.true ∧ True : Prop) := by kernel_rfl
set_option maxRecDepth 100000 in
theorem vm35g (k : Int) (v B : By) (L : Nat) : bodyP Try.prog M5 gl0 [] [] 3000 Try.f35 0 [.agg [.int .i64 k, .rb false v .unk]] [] (retQ Try.prog Try.f35 0 (rMx L B)) = (
let x1 := Bool.false = Bool.true ∧ L = 0 ∧ Bool.true = Bool.false ∧ B = [] ∧ True; @Bool.rec (fun _ => Prop) x1 (@Bool.rec (fun _ => Prop) x1 (@Bool.rec (fun _ => Prop) (@Bool.rec (fun _ => Prop) (0 + List.length v < 549755813888 ∧ 3 + List.length v = List.length (pvB [] v (3 : Int)) ∧ 1 = [BitVec.ofInt 8 k].length ∧ roomFor 1 (List.length (pvB [] v (3 : Int))) 1 ∧ Bool.false = (Bool.false && decide (List.length (pvB [] v (3 : Int)) = 0)) ∧ 0 = 0 ∧ 0 = 0 ∧ 0 = 0 ∧ L = 1 + List.length (pvB [] v (3 : Int)) ∧ Bool.true = Bool.true ∧ B = [BitVec.ofInt 8 k] ++ pvB [] v (3 : Int) ∧ True) (0 + List.length v < 549755813888 ∧ 1 = [BitVec.ofInt 8 k].length ∧ roomFor 1 0 1 ∧ Bool.false = Bool.false ∧ 0 = 0 ∧ 0 = 0 ∧ 0 = 0 ∧ L = 1 ∧ Bool.true = Bool.true ∧ B = [BitVec.ofInt 8 k] ++ [] ∧ True) (puBad (↑(List.length v) : Int) (3 : Int))) x1 (decide ((2048 : Int) < (↑(List.length v) : Int)))) !decide ((255 : Int) < k)) !decide (k < (0 : Int)) : Prop) := by kernel_rfl
set_option maxRecDepth 100000 in
theorem vm35b (k : Int) (v : By) : bodyP Try.prog M5 gl0 [] [] 3000 Try.f35 0 [.agg [.int .i64 k, .rb false v .unk]] [] (retQ Try.prog Try.f35 0 rMy) = (
@Bool.rec (fun _ => Prop) (Bool.false = Bool.false ∧ True) (@Bool.rec (fun _ => Prop) (Bool.false = Bool.false ∧ True) (@Bool.rec (fun _ => Prop) (@Bool.rec (fun _ => Prop) (0 + List.length v < 549755813888 ∧ 3 + List.length v = List.length (pvB [] v (3 : Int)) ∧ 1 = [BitVec.ofInt 8 k].length ∧ roomFor 1 (List.length (pvB [] v (3 : Int))) 1 ∧ (Bool.false && decide (List.length (pvB [] v (3 : Int)) = 0)) = Bool.true ∧ Bool.false = Bool.true ∧ True) (0 + List.length v < 549755813888 ∧ 1 = [BitVec.ofInt 8 k].length ∧ roomFor 1 0 1 ∧ Bool.false = Bool.true ∧ Bool.false = Bool.true ∧ True) (puBad (↑(List.length v) : Int) (3 : Int))) (Bool.false = Bool.false ∧ True) (decide ((2048 : Int) < (↑(List.length v) : Int)))) !decide ((255 : Int) < k)) !decide (k < (0 : Int)) : Prop) := by kernel_rfl
end Go.Sym

set_option linter.unusedSimpArgs false
namespace Go.Spec
theorem puL_one (n : Nat) : puL n 1 = [BitVec.ofNat 8 n] := by simp [puL]
end Go.Spec
namespace Go.Sym
open Go.Proofs Go.Spec
set_option linter.unusedVariables false
def yesG (xs : List AV) (bs : List ABlk) : TL := match xs, bs with
  | [], [] => .ok ⟨[], .bool true, [], []⟩
  | _, _ => .no
theorem bm33 : Must (bodyP Try.prog (M5.withKeep ["law.go:13"]) gl0 [] [] 3000 Try.f33 0 [] [] (retQ Try.prog Try.f33 0 ⟨[], .bool true, [], []⟩)) := by
  constructor
  rw [vm33]
  and_intros <;> first | trivial | omega | (unfold roomFor; omega)
theorem cm33 : COK Try.prog gl0 33 (mkF (reSp 0 yesG)) := by
  refine ctrE (fn := Try.f33) [] 3000 (by kernel_rfl) (by kernel_rfl) (okM5.withKeep ["law.go:13"]) (by kernel_rfl) (fun args w => by kernel_rfl) fun xs bs r hs ho => ?_
  replace hs : (yesG xs bs).sel = some r := hs
  unfold yesG at hs
  split at hs
  · simp only [TL.sel, Option.some.injEq] at hs
    subst hs
    exact ⟨_, bm33⟩
  · simp [TL.sel] at hs
theorem mpB_ref (k : Int) (v : By) (h0 : 0 ≤ k) (h1 : k ≤ 255) : [BitVec.ofInt 8 k] ++ pvB [] v 3 = mpB k v := by
  obtain ⟨j, rfl⟩ : ∃ j : Nat, k = j := ⟨k.toNat, by omega⟩
  simp only [mpB, pvB, puB, Int.toNat_natCast, puL_one, BitVec.ofInt_natCast]
  simp
theorem bm35g (k : Int) (v : By) (h : mpBad k v.length = false) : Must (bodyP Try.prog M5 gl0 [] [] 3000 Try.f35 0 [.agg [.int .i64 k, .rb false v .unk]] [] (retQ Try.prog Try.f35 0 (rMx (4 + v.length) (mpB k v)))) := by
  constructor
  rw [vm35g]
  obtain ⟨h1, h2, h3, h4, h5⟩ := mp_ok h
  have d1 : decide (255 < k) = false := decide_eq_false (by omega)
  have d2 : decide (k < 0) = false := decide_eq_false (by omega)
  have d3 : decide ((2048 : Int) < (v.length : Int)) = false := decide_eq_false (by omega)
  have hl : (pvB [] v 3).length = 3 + v.length := by simp [pvB, puB_len]
  intro x1
  rw [d1, d2, d3, h5, hl, mpB_ref k v h1 h2]
  and_intros <;> first | exact trivial | rfl | omega | (unfold roomFor; omega)
theorem bm35b (k : Int) (v : By) (h : mpBad k v.length = true) : Must (bodyP Try.prog M5 gl0 [] [] 3000 Try.f35 0 [.agg [.int .i64 k, .rb false v .unk]] [] (retQ Try.prog Try.f35 0 rMy)) := by
  constructor
  rw [vm35b]
  by_cases h1 : k < 0
  · rw [decide_eq_true h1]
    exact ⟨rfl, trivial⟩
  · by_cases h2 : 255 < k
    · rw [decide_eq_false h1, decide_eq_true h2]
      exact ⟨rfl, trivial⟩
    · have h3 : 2048 < v.length := by
        simp only [mpBad, Bool.or_eq_true, decide_eq_true_eq] at h
        omega
      have d3 : decide ((2048 : Int) < (v.length : Int)) = true := decide_eq_true (by omega)
      rw [decide_eq_false h1, decide_eq_false h2, d3]
      exact ⟨rfl, trivial⟩
def gm35 (xs : List AV) (bs : List ABlk) : TL := match xs, bs with
  | [.agg [.int .i64 k, .rb false v .unk]], [] => .br (mpBad k v.length) (.ok rMy) (.ok (rMx (4 + v.length) (mpB k v)))
  | _, _ => .no
def spm35 : Spec := ⟨[.a [.kp, .by0]], fun _ _ => [], fun _ _ => [], gm35⟩
theorem cm35 : COK Try.prog gl0 35 (mkF spm35) := by
  refine ctrE (fn := Try.f35) [] 3000 (by kernel_rfl) (by kernel_rfl) okM5 (by kernel_rfl) (fun args w => by kernel_rfl) fun xs bs r hs ho => ?_
  replace hs : (gm35 xs bs).sel = some r := hs
  unfold gm35 at hs
  split at hs
  · rename_i k v
    cases hb : mpBad k v.length <;> rw [hb] at hs
    · simp only [TL.sel, Option.some.injEq] at hs
      subst hs
      exact ⟨_, bm35g _ _ hb⟩
    · simp only [TL.sel, Option.some.injEq] at hs
      subst hs
      exact ⟨_, bm35b _ _ hb⟩
  · simp [TL.sel] at hs
noncomputable def M6 : Ctx := M5.add 33 (mkF (reSp 0 yesG))
noncomputable def M7 : Ctx := M6.add 35 (mkF spm35)
theorem okM7 : COKs Try.prog gl0 M7 := (okM5.add cm33).add cm35
noncomputable def M8 : Ctx := M7.exe Try.prog gl0 [] 300 Try.f36.params.size 36 Try.f36
theorem okM8 : COKs Try.prog gl0 M8 := okM7.exe [] 300 _ (by kernel_rfl) (by kernel_rfl) (by kernel_rfl) (fun args w => by kernel_rfl)
def lsP (k : Int) (v w B : By) (c d : Bool) : LS := ⟨Nat, fun i => [(0, .int .i64 k), (1, .rb true v (.is c)), (2, .rb true w (.is d)), (7, .rb false B .unk), (9, .int .i64 i)],
  fun i => [], 1000, fun i => B.length - i, fun i => i ≤ B.length, fun _ => []⟩
end Go.Sym
