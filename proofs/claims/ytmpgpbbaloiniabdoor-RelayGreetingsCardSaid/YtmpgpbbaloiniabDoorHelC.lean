/- A greeting is read out of its bytes. -/
import Derived.Test.YtmpgpbbaloiniabDoorHelB
namespace Go.Spec
open Go.Sym
/-- Vectors stand one behind the other. -/
theorem pvB_app (b v : By) (w : Int) : b ++ pvB [] v w = pvB b v w := by
  unfold pvB puB
  rw [List.nil_append, List.append_assoc]
end Go.Spec
namespace Go.Sym
open Go.Proofs Go.Spec
def bxZ : ABlk := ⟨.cells (cliC (fun _ => 0) [.nils, .nils, .nils, .nils, .nils, .nils, .nils, .nils, .nils, .nils]), true, 0⟩
end Go.Sym
namespace Go.Sym
open Go.Proofs Go.Spec
theorem brec_eq {A B : Prop} {t : Bool} : @Bool.rec (fun _ => Prop) A B t = ((t = true → B) ∧ (t = false → A)) := by
  cases t <;> simp
end Go.Sym
namespace Go.Sym
open Go.Proofs Go.Spec
theorem datas_int (p : Bool) (k : IntKind) (n : Int) (l : List AV) : datas p (.int k n :: l) = datas p l := by
  show (true && datas p l) = datas p l
  simp
end Go.Sym
namespace Go.Sym
open Go.Proofs Go.Spec
theorem datas_nil (p : Bool) : datas p [] = true := rfl
end Go.Sym
namespace Go.Sym
open Go.Proofs Go.Spec
theorem datas_rb (p : Bool) (b : By) (nl : NL) (l : List AV) : datas p (.rb true b nl :: l) = datas p l := by
  show ((true || !p) && datas p l) = datas p l
  simp
end Go.Sym
namespace Go.Sym
open Go.Proofs Go.Spec
theorem outs_int (p : Bool) (k : IntKind) (n : Int) (l : List AV) : outs p (.int k n :: l) = outs p l := by
  show (true && outs p l) = outs p l
  simp
end Go.Sym
namespace Go.Sym
open Go.Proofs Go.Spec
theorem outs_nil (p : Bool) : outs p [] = true := rfl
end Go.Sym
namespace Go.Sym
open Go.Proofs Go.Spec
theorem outs_rb (p : Bool) (b : By) (nl : NL) (l : List AV) : outs p (.rb true b nl :: l) = outs p l := by
  show ((AV.rb true b nl).out p && outs p l) = outs p l
  have : (AV.rb true b nl).out p = true := by unfold AV.out; simp
  rw [this]; simp
end Go.Sym

set_option linter.unusedSimpArgs false
namespace Go.Spec
open Go.Sym
/-- Of the extensions: which kinds, which are there, what stands in them; those from one on. -/
def kX : Nat → Int
  | 0 => 43 | 1 => 10 | 2 => 13 | 3 => 51 | 4 => 44 | 5 => 45 | _ => 41
def Cli.hX (c : Cli) : Nat → Bool
  | 0 => decide (0 < c.n2) | 1 => decide (0 < c.n3) | 2 => decide (0 < c.n4) | 3 => decide (0 < c.n5)
  | 4 => decide (0 < c.co.length) | 5 => decide (0 < c.mo.length) | 6 => decide (0 < c.n6) | _ => false
def Cli.bX (c : Cli) : Nat → By
  | 0 => pvB [] (chN c.L2 c.n2) 1 | 1 => pvB [] (chN c.L3 c.n3) 2 | 2 => pvB [] (chN c.L4 c.n4) 2 | 3 => pvB [] (chSh c.G c.K c.n5) 2
  | 4 => pvB [] c.co 2 | 5 => pvB [] c.mo 1 | 6 => idB c.n6 c.T c.A c.D | _ => []
def Cli.tR (c : Cli) : Nat → By
  | 0 => []
  | k + 1 => (if c.hX (6 - k) = true then exB [] (kX (6 - k)) (c.bX (6 - k)) else []) ++ c.tR k
def Cli.tl (c : Cli) (i : Nat) : By := c.tR (7 - i)
theorem exB_pre (a : By) (k : Int) (v : By) : exB a k v = a ++ exB [] k v := by
  unfold exB pvB puB
  simp only [List.nil_append, List.append_assoc]
theorem liB_pre (a : By) (k w : Int) (l : By) : liB a k w l = a ++ (if 0 < l.length then exB [] k (pvB [] l w) else []) := by
  unfold liB
  by_cases h : l.length = 0
  · rw [if_pos h, if_neg (by omega), List.append_nil]
  · rw [if_neg h, if_pos (by omega), exB_pre]
theorem chSh_pos (G : Nat → Int) (K : Nat → By) (n : Nat) : 0 < (chSh G K n).length ↔ 0 < n := by
  cases n with
  | zero => simp [chSh]
  | succ n =>
    refine ⟨fun _ => by omega, fun _ => ?_⟩
    rw [chSh, pvB_len]
    have e : (2 : Int).toNat = 2 := rfl
    rw [e]; omega
theorem chN_pos (L : Nat → Int) (n : Nat) : 0 < (chN L n).length ↔ 0 < n := by rw [chN_len]; omega
theorem Cli.ex_tl (c : Cli) : c.ex = c.tl 0 := by
  have h6 : c.ex = c.x3 ++ (if 0 < c.n6 then exB [] 41 (idB c.n6 c.T c.A c.D) else []) := by
    unfold Cli.ex
    split
    · rw [exB_pre]
    · rw [List.append_nil]
  rw [h6]
  unfold Cli.x3 Cli.x1
  simp only [liB_pre, chN_pos, chSh_pos]
  unfold Cli.tl
  simp only [Cli.tR, Cli.hX, Cli.bX, kX, Nat.reduceSub, decide_eq_true_eq, List.nil_append, List.append_nil, List.append_assoc]
theorem Cli.tl_yes (c : Cli) {i : Nat} (h : c.hX i = true) : c.tl i = exB [] (kX i) (c.bX i) ++ c.tl (i + 1) := by
  have hi : i < 7 := by
    rcases Nat.lt_or_ge i 7 with h1 | h1
    · exact h1
    · obtain ⟨m, rfl⟩ : ∃ m, i = 7 + m := ⟨i - 7, by omega⟩
      rw [Nat.add_comm] at h
      simp [Cli.hX] at h
  unfold Cli.tl
  have e : 7 - i = (7 - (i + 1)) + 1 := by omega
  rw [e, Cli.tR]
  have e2 : 6 - (7 - (i + 1)) = i := by omega
  rw [e2, if_pos h]
theorem Cli.tl_no (c : Cli) {i : Nat} (h : c.hX i = false) (hi : i < 7) : c.tl i = c.tl (i + 1) := by
  unfold Cli.tl
  have e : 7 - i = (7 - (i + 1)) + 1 := by omega
  rw [e, Cli.tR]
  have e2 : 6 - (7 - (i + 1)) = i := by omega
  rw [e2, if_neg (by rw [h]; decide), List.nil_append]
theorem Cli.tl_end (c : Cli) : c.tl 7 = [] := rfl
/-- The first that is there, of those from one on. -/
def Cli.nF (c : Cli) : Nat → Nat → Nat
  | 0, i => i
  | k + 1, i => if c.hX i = true then i else c.nF k (i + 1)
def Cli.nx (c : Cli) (i : Nat) : Nat := c.nF (7 - i) i
theorem Cli.nF_spec (c : Cli) : ∀ (k i : Nat), k + i = 7 → i ≤ c.nF k i ∧ c.nF k i ≤ 7 ∧ (c.nF k i < 7 → c.hX (c.nF k i) = true) ∧ (∀ j, i ≤ j → j < c.nF k i → c.hX j = false) ∧ c.tl i = c.tl (c.nF k i)
  | 0, i, h => ⟨Nat.le_refl _, by show i ≤ 7; omega, fun h1 => by have : c.nF 0 i = i := rfl; omega, fun j h1 h2 => by have : c.nF 0 i = i := rfl; omega, rfl⟩
  | k + 1, i, h => by
    rw [Cli.nF]
    by_cases hi : c.hX i = true
    · rw [if_pos hi]
      exact ⟨Nat.le_refl _, by omega, fun _ => hi, fun j h1 h2 => by omega, rfl⟩
    · rw [if_neg hi]
      have hi : c.hX i = false := by simpa using hi
      obtain ⟨h1, h2, h3, h4, h5⟩ := Cli.nF_spec c k (i + 1) (by omega)
      refine ⟨by omega, h2, h3, fun j hj1 hj2 => ?_, by rw [c.tl_no hi (by omega), h5]⟩
      rcases Nat.lt_or_ge i j with h6 | h6
      · exact h4 j (by omega) hj2
      · have : j = i := by omega
        rw [this]; exact hi
theorem Cli.nx_spec (c : Cli) {i : Nat} (hi : i ≤ 7) : i ≤ c.nx i ∧ c.nx i ≤ 7 ∧ (c.nx i < 7 → c.hX (c.nx i) = true) ∧ (∀ j, i ≤ j → j < c.nx i → c.hX j = false) ∧ c.tl i = c.tl (c.nx i) := c.nF_spec (7 - i) i (by omega)
/-- What is read of it, so many extensions on. -/
def upN (i k n : Nat) : Nat := if k < i then n else 0
def upB (i k : Nat) (b : By) : By := if k < i then b else []
def Cli.at (c : Cli) (i : Nat) : Cli := { c with n2 := upN i 0 c.n2, n3 := upN i 1 c.n3, n4 := upN i 2 c.n4, n5 := upN i 3 c.n5, co := upB i 4 c.co, mo := upB i 5 c.mo, n6 := upN i 6 c.n6, n7 := upN i 6 c.n7 }
theorem Cli.at_skip (c : Cli) (h7 : c.n7 = c.n6) {i i' : Nat} (h1 : i ≤ i') (h : ∀ j, i ≤ j → j < i' → c.hX j = false) : c.at i = c.at i' := by
  have hn : ∀ k n, (c.hX k = false → n = 0) → upN i k n = upN i' k n := by
    intro k n hk
    unfold upN
    by_cases a : k < i
    · rw [if_pos a, if_pos (by omega)]
    · rw [if_neg a]
      by_cases b : k < i'
      · rw [if_pos b, hk (h k (by omega) b)]
      · rw [if_neg b]
  have hb : ∀ k (n : By), (c.hX k = false → n = []) → upB i k n = upB i' k n := by
    intro k n hk
    unfold upB
    by_cases a : k < i
    · rw [if_pos a, if_pos (by omega)]
    · rw [if_neg a]
      by_cases b : k < i'
      · rw [if_pos b, hk (h k (by omega) b)]
      · rw [if_neg b]
  have z : ∀ {n : Nat}, decide (0 < n) = false → n = 0 := fun e => by simpa using e
  have zb : ∀ {b : By}, decide (0 < b.length) = false → b = [] := fun e => List.eq_nil_of_length_eq_zero (z e)
  unfold Cli.at
  rw [hn 0 c.n2 z, hn 1 c.n3 z, hn 2 c.n4 z, hn 3 c.n5 z, hb 4 c.co zb, hb 5 c.mo zb, hn 6 c.n6 z, hn 6 c.n7 (fun e => by rw [h7]; exact z e)]
theorem Cli.at_all (c : Cli) : c.at 7 = c := by
  cases c
  rfl
/-- Cut out of the middle. -/
theorem cutB_at {A v R : By} {x m : Nat} (hx : x = A.length) (hm : m = v.length) : cutB (A ++ (v ++ R)) x m = v := by
  subst hx hm
  rw [← cutB_eq (by simp only [List.length_append]; omega)]
  simp
theorem exB_parts (k : Int) (v R : By) : exB [] k v ++ R = puL k.toNat 2 ++ (puL v.length 2 ++ (v ++ R)) := by
  unfold exB pvB puB
  simp only [List.nil_append, List.append_assoc, Int.toNat_natCast]
  rfl
theorem kX_le (i : Nat) : 0 ≤ kX i ∧ kX i < 65536 := by
  unfold kX
  split <;> decide
end Go.Spec

set_option linter.unusedSimpArgs false
namespace Go.Spec
open Go.Sym
theorem seq_split {F W : Nat → By} (h : ∀ j, F (j + 1) = F j ++ W j) : ∀ (n j : Nat), j < n → ∃ R, F n = F j ++ (W j ++ R)
  | 0, j, hj => absurd hj (by omega)
  | n + 1, j, hj => by
    rcases Nat.lt_or_ge j n with h1 | h1
    · obtain ⟨R, e⟩ := seq_split h n j h1
      exact ⟨R ++ W n, by rw [h, e]; simp only [List.append_assoc]⟩
    · obtain rfl : j = n := by omega
      exact ⟨[], by rw [h]; simp only [List.append_nil]⟩
/-- Numbers of two bytes, one behind the other. -/
def dN (v : By) (j : Nat) : Int := beN (cutB v (2 * j) 2)
theorem beN_pu {n : Nat} {w : Nat} (h : n < 256 ^ w) : beN (puL n w) = n := by rw [beN_puL, Nat.mod_eq_of_lt h]
theorem dN_chN {L : Nat → Int} {n : Nat} (h : isU L n) {j : Nat} (hj : j < n) : dN (chN L n) j = L j := by
  obtain ⟨R, e⟩ := seq_split (F := chN L) (W := fun j => puL (L j).toNat 2) (fun j => rfl) n j hj
  have hu := h j hj
  unfold dN
  rw [e, cutB_at (by rw [chN_len]) (puL_len _ _).symm, beN_pu (by have : (256 : Nat) ^ 2 = 65536 := rfl; omega)]
  omega
end Go.Spec

set_option linter.unusedSimpArgs false
namespace Go.Sym
open Go.Proofs Go.Spec
set_option linter.unusedVariables false
noncomputable def Ga1 : Ctx := (((Qz11.add 48 (mkF (reSp 2 gt18))).add 47 (mkF (reSp 2 gt19))).add 26 (mkF (reSp 4 gt20))).add 29 (mkF (reSp 1 gt22))
theorem okGa1 : COKs Tryd.prog gl0 Ga1 := (((okQz11.add ct18).add ct19).add ct20).add ct22
noncomputable def Ga2 : Ctx := Ga1.exe Tryd.prog gl0 [] 300 Tryd.f85.params.size 85 Tryd.f85
theorem okGa2 : COKs Tryd.prog gl0 Ga2 := okGa1.exe [] 300 _ (by kernel_rfl) (by kernel_rfl) (by kernel_rfl) (fun args w => by kernel_rfl)
noncomputable def Ga3 : Ctx := Ga2.exe Tryd.prog gl0 [] 300 Tryd.f114.params.size 114 Tryd.f114
theorem okGa3 : COKs Tryd.prog gl0 Ga3 := okGa2.exe [] 300 _ (by kernel_rfl) (by kernel_rfl) (by kernel_rfl) (fun args w => by kernel_rfl)
noncomputable def Ga4 : Ctx := Ga3.exe Tryd.prog gl0 [] 300 Tryd.f116.params.size 116 Tryd.f116
theorem okGa4 : COKs Tryd.prog gl0 Ga4 := okGa3.exe [] 300 _ (by kernel_rfl) (by kernel_rfl) (by kernel_rfl) (fun args w => by kernel_rfl)
noncomputable def Ga5 : Ctx := Ga4.exe Tryd.prog gl0 [] 300 Tryd.f118.params.size 118 Tryd.f118
theorem okGa5 : COKs Tryd.prog gl0 Ga5 := okGa4.exe [] 300 _ (by kernel_rfl) (by kernel_rfl) (by kernel_rfl) (fun args w => by kernel_rfl)
/-- A reader of its own name. -/
def rdCn (i x n : Nat) : ABlk := ⟨.cells [.slice i x 1 n .ox .unk, .int .i64 0], true, 0⟩
/-- The loop that reads a list: behind a vector at x of L there is v; the rows so far. -/
def lsG (L : By) (x : Nat) (v : By) (fn : Nat) (mo : Int) (sz : Nat) (P : Nat → Nat) (g : Nat → List AV) (N : Nat) : LS := ⟨Nat, fun j => [(0, .ptr 0 0 0 0), (2, .int .i64 mo), (3, .fn fn [] []), (9, .ptr 100 0 0 0), (10, .slice 102 0 sz j .ow .unk)],
  fun j => [(0, rdCn 1 (x + v.length) (L.length - (x + v.length))), (1, rdL L), (100, rdCn 101 (P j) (v.length - P j)), (101, rdL v), (102, ⟨.rows sz j g, true, sz⟩)], 1000, fun j => N - j, fun j => j ≤ N, fun _ => []⟩
def rGl (L : By) (y : Nat) (sz n : Nat) (g : Nat → List AV) : RL := ⟨[], .slice 2 0 sz n .ow .unk, [some (some (rdC y (L.length - y) 0)), some (some (rdL L))], [⟨.rows sz n g, true, sz⟩]⟩
end Go.Sym

namespace Go.Sym
open Go.Proofs Go.Spec
set_option linter.unusedVariables false
set_option maxRecDepth 100000 in
theorem vg90 (L v : By) (x n N : Nat) (w mo : Int) : bodyP Tryd.prog Ga5 gl0 [] [(4, lsG L (x + w.toNat) v 85 mo 1 (fun j => 2 * j) (fun j => [.int .i64 (dN v j)]) N)] 3000 Tryd.f84 2 [.ptr 0 0 0 0, .int .i64 w, .int .i64 mo, .fn 85 [] []] [rdC x n 0, rdL L] (retQ Tryd.prog Tryd.f84 2 (rGl L (x + w.toNat + v.length) 1 N (fun j => [.int .i64 (dN v j)]))) = (
let x1 := x + w.toNat + List.length v = x + w.toNat + List.length v; let x2 := List.length L - (x + w.toNat + List.length v); let x3 := (∀ (y : Nat), y < N → datas Bool.false [AV.int IntKind.i64 (dN v y)] = Bool.true ∧ [AV.int IntKind.i64 (dN v y)] = [AV.int IntKind.i64 (dN v y)]) ∧ True; x + n = List.length L ∧ List.length L < 1099511627776 ∧ ((1 : Int) ≤ w ∧ w ≤ (4 : Int)) ∧ (x + w.toNat + beN (cutB L x w.toNat) ≤ List.length L ∧ (1 : Int) ≤ (↑(beN (cutB L x w.toNat)) : Int) ∧ (↑(beN (cutB L x w.toNat)) : Int) ≤ (65535 : Int)) ∧ beN (cutB L x w.toNat) = List.length (cutB L (x + w.toNat) (beN (cutB L x w.toNat))) ∧ List.length (cutB L (x + w.toNat) (beN (cutB L x w.toNat))) < 1099511627776 ∧ (∃ (x_1 : Nat), x_1.le N ∧ 0 = 0 ∧ mo = mo ∧ 0 = 0 ∧ x_1 = 0 ∧ x + w.toNat + List.length v = x + w.toNat + beN (cutB L x w.toNat) ∧ 0 = 0 ∧ x + w.toNat + List.length v = x + w.toNat + beN (cutB L x w.toNat) ∧ x2 = List.length L - (x + w.toNat + beN (cutB L x w.toNat)) ∧ (0 : Int) = (0 : Int) ∧ L = L ∧ 2 * x_1 = 0 ∧ 0 = 0 ∧ 2 * x_1 = 0 ∧ List.length v - 2 * x_1 = List.length (cutB L (x + w.toNat) (beN (cutB L x w.toNat))) ∧ (0 : Int) = (0 : Int) ∧ v = cutB L (x + w.toNat) (beN (cutB L x w.toNat)) ∧ x_1 = 0 ∧ True) ∧ ∀ (x : Nat), x.le N → @Bool.rec (fun _ => Prop) (@Bool.rec (fun _ => Prop) ((∀ (y : Nat), y < N → outs Bool.true [AV.int IntKind.i64 (dN v y)] = Bool.true) ∧ 0 = 0 ∧ 0 = 0 ∧ 0 = 0 ∧ N = x ∧ x1 ∧ 0 = 0 ∧ x1 ∧ x2 = x2 ∧ (0 : Int) = (0 : Int) ∧ L = L ∧ N = x ∧ x3) ((∀ (y : Nat), y < N → outs Bool.true [AV.int IntKind.i64 (dN v y)] = Bool.true) ∧ 0 = 0 ∧ 0 = 0 ∧ 0 = 0 ∧ N = x ∧ x1 ∧ 0 = 0 ∧ x1 ∧ x2 = x2 ∧ (0 : Int) = Int.ofNat 3 ∧ L = L ∧ N = x ∧ x3) (decide (mo < (↑x : Int)))) (2 * x + (List.length v - 2 * x) = List.length v ∧ List.length v < 1099511627776 ∧ ((1 : Int) ≤ (2 : Int) ∧ (2 : Int) ≤ (4 : Int)) ∧ 2 * x + 2 ≤ List.length v ∧ x = x ∧ roomFor x 1 8 ∧ ∃ (y : Nat), N - y < N - x ∧ y.le N ∧ 0 = 0 ∧ mo = mo ∧ 0 = 0 ∧ 0 = 0 ∧ 0 = 0 ∧ 0 = 0 ∧ y = x + 1 ∧ x1 ∧ 0 = 0 ∧ x1 ∧ x2 = x2 ∧ (0 : Int) = (0 : Int) ∧ L = L ∧ 2 * y = 2 * x + 2 ∧ 0 = 0 ∧ 2 * y = 2 * x + 2 ∧ List.length v - 2 * y = List.length v - (2 * x + 2) ∧ (0 : Int) = (0 : Int) ∧ v = v ∧ y = x + 1 ∧ (∀ (y_1 : Nat), y_1 < y → datas Bool.false [AV.int IntKind.i64 (dN v y_1)] = Bool.true ∧ glue (fun (j : Nat) => [AV.int IntKind.i64 (dN v j)]) x (cut 1 (List.take 1 (List.drop 0 [AV.int IntKind.i64 (↑(beN (cutB v (2 * x) 2)) : Int)]))) y_1 = [AV.int IntKind.i64 (dN v y_1)]) ∧ True) (decide ((0 : Int) < lfV (List.length v - 2 * x) (0 : Int))) : Prop) := by kernel_rfl
end Go.Sym

namespace Go.Sym
open Go.Proofs Go.Spec
set_option linter.unusedVariables false
set_option maxRecDepth 100000 in
theorem vg130 (L v : By) (x n N : Nat) (w mo : Int) (G : Nat → Int) (K : Nat → By) : bodyP Tryd.prog (Ga5.withFrz [(21, [.a [.kp, .by8]])]) gl0 [] [(4, lsG L (x + w.toNat) v 114 mo 2 (fun j => (chSh G K j).length) (fun j => [.int .i64 (G j), .rb true (K j) .unk]) N)] 3000 Tryd.f113 2 [.ptr 0 0 0 0, .int .i64 w, .int .i64 mo, .fn 114 [] []] [rdC x n 0, rdL L] (retQ Tryd.prog Tryd.f113 2 (rGl L (x + w.toNat + v.length) 2 N (fun j => [.int .i64 (G j), .rb true (K j) .unk]))) = (
let x1 := x + w.toNat + List.length v = x + w.toNat + List.length v; let x2 := List.length L - (x + w.toNat + List.length v); let x3 := (∀ (y : Nat), y < N → datas Bool.false [AV.int IntKind.i64 (G y), AV.rb Bool.true (K y) NL.unk] = Bool.true ∧ [AV.int IntKind.i64 (G y), AV.rb Bool.true (K y) NL.unk] = [AV.int IntKind.i64 (G y), AV.rb Bool.true (K y) NL.unk]) ∧ True; x + n = List.length L ∧ List.length L < 1099511627776 ∧ ((1 : Int) ≤ w ∧ w ≤ (4 : Int)) ∧ (x + w.toNat + beN (cutB L x w.toNat) ≤ List.length L ∧ (1 : Int) ≤ (↑(beN (cutB L x w.toNat)) : Int) ∧ (↑(beN (cutB L x w.toNat)) : Int) ≤ (65535 : Int)) ∧ beN (cutB L x w.toNat) = List.length (cutB L (x + w.toNat) (beN (cutB L x w.toNat))) ∧ List.length (cutB L (x + w.toNat) (beN (cutB L x w.toNat))) < 1099511627776 ∧ (∃ (x_1 : Nat), x_1.le N ∧ 0 = 0 ∧ mo = mo ∧ 0 = 0 ∧ x_1 = 0 ∧ x + w.toNat + List.length v = x + w.toNat + beN (cutB L x w.toNat) ∧ 0 = 0 ∧ x + w.toNat + List.length v = x + w.toNat + beN (cutB L x w.toNat) ∧ x2 = List.length L - (x + w.toNat + beN (cutB L x w.toNat)) ∧ (0 : Int) = (0 : Int) ∧ L = L ∧ List.length (chSh G K x_1) = 0 ∧ 0 = 0 ∧ List.length (chSh G K x_1) = 0 ∧ List.length v - List.length (chSh G K x_1) = List.length (cutB L (x + w.toNat) (beN (cutB L x w.toNat))) ∧ (0 : Int) = (0 : Int) ∧ v = cutB L (x + w.toNat) (beN (cutB L x w.toNat)) ∧ x_1 = 0 ∧ True) ∧ ∀ (x : Nat), let x1_1 := List.length (chSh G K x) + 2; x.le N → @Bool.rec (fun _ => Prop) (@Bool.rec (fun _ => Prop) ((∀ (y : Nat), y < N → outs Bool.true [AV.int IntKind.i64 (G y), AV.rb Bool.true (K y) NL.unk] = Bool.true) ∧ 0 = 0 ∧ 0 = 0 ∧ 0 = 0 ∧ N = x ∧ x1 ∧ 0 = 0 ∧ x1 ∧ x2 = x2 ∧ (0 : Int) = (0 : Int) ∧ L = L ∧ N = x ∧ x3) ((∀ (y : Nat), y < N → outs Bool.true [AV.int IntKind.i64 (G y), AV.rb Bool.true (K y) NL.unk] = Bool.true) ∧ 0 = 0 ∧ 0 = 0 ∧ 0 = 0 ∧ N = x ∧ x1 ∧ 0 = 0 ∧ x1 ∧ x2 = x2 ∧ (0 : Int) = Int.ofNat 3 ∧ L = L ∧ N = x ∧ x3) (decide (mo < (↑x : Int)))) (List.length (chSh G K x) + (List.length v - List.length (chSh G K x)) = List.length v ∧ List.length v < 1099511627776 ∧ ((1 : Int) ≤ (2 : Int) ∧ (2 : Int) ≤ (4 : Int)) ∧ x1_1 ≤ List.length v ∧ x1_1 + (List.length v - x1_1) = List.length v ∧ List.length v < 1099511627776 ∧ ((1 : Int) ≤ (2 : Int) ∧ (2 : Int) ≤ (4 : Int)) ∧ (x1_1 + 2 + beN (cutB v x1_1 2) ≤ List.length v ∧ (1 : Int) ≤ (↑(beN (cutB v x1_1 2)) : Int) ∧ (↑(beN (cutB v x1_1 2)) : Int) ≤ (64 : Int)) ∧ beN (cutB v x1_1 2) = List.length (cutB v (x1_1 + 2) (beN (cutB v x1_1 2))) ∧ x = x ∧ roomFor x 1 32 ∧ ∃ (y : Nat), N - y < N - x ∧ y.le N ∧ 0 = 0 ∧ mo = mo ∧ 0 = 0 ∧ 0 = 0 ∧ 0 = 0 ∧ 0 = 0 ∧ y = x + 1 ∧ x1 ∧ 0 = 0 ∧ x1 ∧ x2 = x2 ∧ (0 : Int) = (0 : Int) ∧ L = L ∧ List.length (chSh G K y) = x1_1 + 2 + beN (cutB v x1_1 2) ∧ 0 = 0 ∧ List.length (chSh G K y) = x1_1 + 2 + beN (cutB v x1_1 2) ∧ List.length v - List.length (chSh G K y) = List.length v - (x1_1 + 2 + beN (cutB v x1_1 2)) ∧ (0 : Int) = (0 : Int) ∧ v = v ∧ y = x + 1 ∧ (∀ (y_1 : Nat), y_1 < y → datas Bool.false [AV.int IntKind.i64 (G y_1), AV.rb Bool.true (K y_1) NL.unk] = Bool.true ∧ glue (fun (j : Nat) => [AV.int IntKind.i64 (G j), AV.rb Bool.true (K j) NL.unk]) x (cut 2 (List.take 2 (List.drop 0 [AV.int IntKind.i64 (↑(beN (cutB v (List.length (chSh G K x)) 2)) : Int), AV.rb Bool.true (cutB v (x1_1 + 2) (beN (cutB v x1_1 2))) NL.unk]))) y_1 = [AV.int IntKind.i64 (G y_1), AV.rb Bool.true (K y_1) NL.unk]) ∧ True) (decide ((0 : Int) < lfV (List.length v - List.length (chSh G K x)) (0 : Int))) : Prop) := by kernel_rfl
set_option maxRecDepth 100000 in
theorem vg132 (L v : By) (x n N : Nat) (w mo : Int) (T : Nat → By) (A : Nat → Int) : bodyP Tryd.prog (Ga5.withFrz [(21, [.a [.by8, .kp]])]) gl0 [] [(4, lsG L (x + w.toNat) v 116 mo 2 (fun j => (chT T A j).length) (fun j => [.rb true (T j) .unk, .int .i64 (A j)]) N)] 3000 Tryd.f115 2 [.ptr 0 0 0 0, .int .i64 w, .int .i64 mo, .fn 116 [] []] [rdC x n 0, rdL L] (retQ Tryd.prog Tryd.f115 2 (rGl L (x + w.toNat + v.length) 2 N (fun j => [.rb true (T j) .unk, .int .i64 (A j)]))) = (
let x1 := x + w.toNat + List.length v = x + w.toNat + List.length v; let x2 := List.length L - (x + w.toNat + List.length v); let x3 := (∀ (y : Nat), y < N → datas Bool.false [AV.rb Bool.true (T y) NL.unk, AV.int IntKind.i64 (A y)] = Bool.true ∧ [AV.rb Bool.true (T y) NL.unk, AV.int IntKind.i64 (A y)] = [AV.rb Bool.true (T y) NL.unk, AV.int IntKind.i64 (A y)]) ∧ True; x + n = List.length L ∧ List.length L < 1099511627776 ∧ ((1 : Int) ≤ w ∧ w ≤ (4 : Int)) ∧ (x + w.toNat + beN (cutB L x w.toNat) ≤ List.length L ∧ (1 : Int) ≤ (↑(beN (cutB L x w.toNat)) : Int) ∧ (↑(beN (cutB L x w.toNat)) : Int) ≤ (65535 : Int)) ∧ beN (cutB L x w.toNat) = List.length (cutB L (x + w.toNat) (beN (cutB L x w.toNat))) ∧ List.length (cutB L (x + w.toNat) (beN (cutB L x w.toNat))) < 1099511627776 ∧ (∃ (x_1 : Nat), x_1.le N ∧ 0 = 0 ∧ mo = mo ∧ 0 = 0 ∧ x_1 = 0 ∧ x + w.toNat + List.length v = x + w.toNat + beN (cutB L x w.toNat) ∧ 0 = 0 ∧ x + w.toNat + List.length v = x + w.toNat + beN (cutB L x w.toNat) ∧ x2 = List.length L - (x + w.toNat + beN (cutB L x w.toNat)) ∧ (0 : Int) = (0 : Int) ∧ L = L ∧ List.length (chT T A x_1) = 0 ∧ 0 = 0 ∧ List.length (chT T A x_1) = 0 ∧ List.length v - List.length (chT T A x_1) = List.length (cutB L (x + w.toNat) (beN (cutB L x w.toNat))) ∧ (0 : Int) = (0 : Int) ∧ v = cutB L (x + w.toNat) (beN (cutB L x w.toNat)) ∧ x_1 = 0 ∧ True) ∧ ∀ (x : Nat), let x1_1 := List.length (chT T A x) + 2 + beN (cutB v (List.length (chT T A x)) 2); x.le N → @Bool.rec (fun _ => Prop) (@Bool.rec (fun _ => Prop) ((∀ (y : Nat), y < N → outs Bool.true [AV.rb Bool.true (T y) NL.unk, AV.int IntKind.i64 (A y)] = Bool.true) ∧ 0 = 0 ∧ 0 = 0 ∧ 0 = 0 ∧ N = x ∧ x1 ∧ 0 = 0 ∧ x1 ∧ x2 = x2 ∧ (0 : Int) = (0 : Int) ∧ L = L ∧ N = x ∧ x3) ((∀ (y : Nat), y < N → outs Bool.true [AV.rb Bool.true (T y) NL.unk, AV.int IntKind.i64 (A y)] = Bool.true) ∧ 0 = 0 ∧ 0 = 0 ∧ 0 = 0 ∧ N = x ∧ x1 ∧ 0 = 0 ∧ x1 ∧ x2 = x2 ∧ (0 : Int) = Int.ofNat 3 ∧ L = L ∧ N = x ∧ x3) (decide (mo < (↑x : Int)))) (List.length (chT T A x) + (List.length v - List.length (chT T A x)) = List.length v ∧ List.length v < 1099511627776 ∧ ((1 : Int) ≤ (2 : Int) ∧ (2 : Int) ≤ (4 : Int)) ∧ (x1_1 ≤ List.length v ∧ (1 : Int) ≤ (↑(beN (cutB v (List.length (chT T A x)) 2)) : Int) ∧ (↑(beN (cutB v (List.length (chT T A x)) 2)) : Int) ≤ (255 : Int)) ∧ x1_1 + (List.length v - x1_1) = List.length v ∧ List.length v < 1099511627776 ∧ ((1 : Int) ≤ (4 : Int) ∧ (4 : Int) ≤ (4 : Int)) ∧ x1_1 + 4 ≤ List.length v ∧ beN (cutB v (List.length (chT T A x)) 2) = List.length (cutB v (List.length (chT T A x) + 2) (beN (cutB v (List.length (chT T A x)) 2))) ∧ x = x ∧ roomFor x 1 32 ∧ ∃ (y : Nat), N - y < N - x ∧ y.le N ∧ 0 = 0 ∧ mo = mo ∧ 0 = 0 ∧ 0 = 0 ∧ 0 = 0 ∧ 0 = 0 ∧ y = x + 1 ∧ x1 ∧ 0 = 0 ∧ x1 ∧ x2 = x2 ∧ (0 : Int) = (0 : Int) ∧ L = L ∧ List.length (chT T A y) = x1_1 + 4 ∧ 0 = 0 ∧ List.length (chT T A y) = x1_1 + 4 ∧ List.length v - List.length (chT T A y) = List.length v - (x1_1 + 4) ∧ (0 : Int) = (0 : Int) ∧ v = v ∧ y = x + 1 ∧ (∀ (y_1 : Nat), y_1 < y → datas Bool.false [AV.rb Bool.true (T y_1) NL.unk, AV.int IntKind.i64 (A y_1)] = Bool.true ∧ glue (fun (j : Nat) => [AV.rb Bool.true (T j) NL.unk, AV.int IntKind.i64 (A j)]) x (cut 2 (List.take 2 (List.drop 0 [AV.rb Bool.true (cutB v (List.length (chT T A x) + 2) (beN (cutB v (List.length (chT T A x)) 2))) NL.unk, AV.int IntKind.i64 (↑(beN (cutB v x1_1 4)) : Int)]))) y_1 = [AV.rb Bool.true (T y_1) NL.unk, AV.int IntKind.i64 (A y_1)]) ∧ True) (decide ((0 : Int) < lfV (List.length v - List.length (chT T A x)) (0 : Int))) : Prop) := by kernel_rfl
set_option maxRecDepth 100000 in
theorem vg134 (L v : By) (x n N : Nat) (w mo : Int) (D : Nat → By) : bodyP Tryd.prog (Ga5.withFrz [(21, [.by8])]) gl0 [] [(4, lsG L (x + w.toNat) v 118 mo 1 (fun j => (chD D j).length) (fun j => [.rb true (D j) .unk]) N)] 3000 Tryd.f117 2 [.ptr 0 0 0 0, .int .i64 w, .int .i64 mo, .fn 118 [] []] [rdC x n 0, rdL L] (retQ Tryd.prog Tryd.f117 2 (rGl L (x + w.toNat + v.length) 1 N (fun j => [.rb true (D j) .unk]))) = (
let x1 := x + w.toNat + List.length v = x + w.toNat + List.length v; let x2 := List.length L - (x + w.toNat + List.length v); let x3 := (∀ (y : Nat), y < N → datas Bool.false [AV.rb Bool.true (D y) NL.unk] = Bool.true ∧ [AV.rb Bool.true (D y) NL.unk] = [AV.rb Bool.true (D y) NL.unk]) ∧ True; x + n = List.length L ∧ List.length L < 1099511627776 ∧ ((1 : Int) ≤ w ∧ w ≤ (4 : Int)) ∧ (x + w.toNat + beN (cutB L x w.toNat) ≤ List.length L ∧ (1 : Int) ≤ (↑(beN (cutB L x w.toNat)) : Int) ∧ (↑(beN (cutB L x w.toNat)) : Int) ≤ (65535 : Int)) ∧ beN (cutB L x w.toNat) = List.length (cutB L (x + w.toNat) (beN (cutB L x w.toNat))) ∧ List.length (cutB L (x + w.toNat) (beN (cutB L x w.toNat))) < 1099511627776 ∧ (∃ (x_1 : Nat), x_1.le N ∧ 0 = 0 ∧ mo = mo ∧ 0 = 0 ∧ x_1 = 0 ∧ x + w.toNat + List.length v = x + w.toNat + beN (cutB L x w.toNat) ∧ 0 = 0 ∧ x + w.toNat + List.length v = x + w.toNat + beN (cutB L x w.toNat) ∧ x2 = List.length L - (x + w.toNat + beN (cutB L x w.toNat)) ∧ (0 : Int) = (0 : Int) ∧ L = L ∧ List.length (chD D x_1) = 0 ∧ 0 = 0 ∧ List.length (chD D x_1) = 0 ∧ List.length v - List.length (chD D x_1) = List.length (cutB L (x + w.toNat) (beN (cutB L x w.toNat))) ∧ (0 : Int) = (0 : Int) ∧ v = cutB L (x + w.toNat) (beN (cutB L x w.toNat)) ∧ x_1 = 0 ∧ True) ∧ ∀ (x : Nat), let x1_1 := beN (cutB v (List.length (chD D x)) 1); x.le N → @Bool.rec (fun _ => Prop) (@Bool.rec (fun _ => Prop) ((∀ (y : Nat), y < N → outs Bool.true [AV.rb Bool.true (D y) NL.unk] = Bool.true) ∧ 0 = 0 ∧ 0 = 0 ∧ 0 = 0 ∧ N = x ∧ x1 ∧ 0 = 0 ∧ x1 ∧ x2 = x2 ∧ (0 : Int) = (0 : Int) ∧ L = L ∧ N = x ∧ x3) ((∀ (y : Nat), y < N → outs Bool.true [AV.rb Bool.true (D y) NL.unk] = Bool.true) ∧ 0 = 0 ∧ 0 = 0 ∧ 0 = 0 ∧ N = x ∧ x1 ∧ 0 = 0 ∧ x1 ∧ x2 = x2 ∧ (0 : Int) = Int.ofNat 3 ∧ L = L ∧ N = x ∧ x3) (decide (mo < (↑x : Int)))) (List.length (chD D x) + (List.length v - List.length (chD D x)) = List.length v ∧ List.length v < 1099511627776 ∧ ((1 : Int) ≤ (1 : Int) ∧ (1 : Int) ≤ (4 : Int)) ∧ (List.length (chD D x) + 1 + x1_1 ≤ List.length v ∧ (32 : Int) ≤ (↑x1_1 : Int) ∧ (↑x1_1 : Int) ≤ (32 : Int)) ∧ x1_1 = List.length (cutB v (List.length (chD D x) + 1) x1_1) ∧ x = x ∧ roomFor x 1 24 ∧ ∃ (y : Nat), N - y < N - x ∧ y.le N ∧ 0 = 0 ∧ mo = mo ∧ 0 = 0 ∧ 0 = 0 ∧ 0 = 0 ∧ 0 = 0 ∧ y = x + 1 ∧ x1 ∧ 0 = 0 ∧ x1 ∧ x2 = x2 ∧ (0 : Int) = (0 : Int) ∧ L = L ∧ List.length (chD D y) = List.length (chD D x) + 1 + x1_1 ∧ 0 = 0 ∧ List.length (chD D y) = List.length (chD D x) + 1 + x1_1 ∧ List.length v - List.length (chD D y) = List.length v - (List.length (chD D x) + 1 + x1_1) ∧ (0 : Int) = (0 : Int) ∧ v = v ∧ y = x + 1 ∧ (∀ (y_1 : Nat), y_1 < y → datas Bool.false [AV.rb Bool.true (D y_1) NL.unk] = Bool.true ∧ glue (fun (j : Nat) => [AV.rb Bool.true (D j) NL.unk]) x (cut 1 (List.take 1 (List.drop 0 [AV.rb Bool.true (cutB v (List.length (chD D x) + 1) x1_1) NL.unk]))) y_1 = [AV.rb Bool.true (D y_1) NL.unk]) ∧ True) (decide ((0 : Int) < lfV (List.length v - List.length (chD D x)) (0 : Int))) : Prop) := by kernel_rfl
end Go.Sym

set_option linter.unusedSimpArgs false
namespace Go.Spec
open Go.Sym
/-- At x of L there stands a vector of v, with a count of w bytes. -/
structure vAt (L : By) (x n : Nat) (w : Int) (v : By) : Prop where
  e : x + n = L.length
  l : L.length < 1099511627776
  w1 : 1 ≤ w
  w4 : w ≤ 4
  c : beN (cutB L x w.toNat) = v.length
  s : cutB L (x + w.toNat) v.length = v
  b : x + w.toNat + v.length ≤ L.length
  v1 : 1 ≤ v.length
  v6 : v.length ≤ 65535
theorem beN_at {A R : By} {x n W : Nat} (hx : x = A.length) (hn : n < 256 ^ W) : beN (cutB (A ++ (puL n W ++ R)) x W) = n := by
  rw [cutB_at hx (puL_len n W).symm, beN_pu hn]
/-- The parts of a share, where it stands. -/
theorem sh_at {n : Nat} {G : Nat → Int} {K : Nat → By} (h : shOk n G K) {j : Nat} (hj : j < n) :
    ((beN (cutB (chSh G K n) (chSh G K j).length 2) : Nat) : Int) = G j ∧ beN (cutB (chSh G K n) ((chSh G K j).length + 2) 2) = (K j).length ∧ cutB (chSh G K n) ((chSh G K j).length + 2 + 2) (K j).length = K j ∧
    (chSh G K (j + 1)).length = (chSh G K j).length + 2 + 2 + (K j).length ∧ (chSh G K (j + 1)).length ≤ (chSh G K n).length := by
  obtain ⟨⟨g0, g1⟩, k1, k2⟩ := h.2 j hj
  have st : ∀ j, chSh G K (j + 1) = chSh G K j ++ (puL (G j).toNat 2 ++ (puL (K j).length 2 ++ K j)) := fun j => by
    rw [chSh]; unfold pvB puB; simp only [List.append_assoc, Int.toNat_natCast]; rfl
  obtain ⟨R, e⟩ := seq_split (W := fun j => puL (G j).toNat 2 ++ (puL (K j).length 2 ++ K j)) st n j hj
  have lj : (chSh G K (j + 1)).length = (chSh G K j).length + 2 + 2 + (K j).length := by
    rw [st]; simp only [List.length_append, puL_len]; omega
  have e1 : chSh G K n = chSh G K j ++ (puL (G j).toNat 2 ++ (puL (K j).length 2 ++ (K j ++ R))) := by rw [e]; simp only [List.append_assoc]
  have e2 : chSh G K n = (chSh G K j ++ puL (G j).toNat 2) ++ (puL (K j).length 2 ++ (K j ++ R)) := by rw [e]; simp only [List.append_assoc]
  have e3 : chSh G K n = (chSh G K j ++ puL (G j).toNat 2 ++ puL (K j).length 2) ++ (K j ++ R) := by rw [e]; simp only [List.append_assoc]
  have p2 : (256 : Nat) ^ 2 = 65536 := rfl
  refine ⟨?_, ?_, ?_, lj, ?_⟩
  · rw [e1, beN_at rfl (by omega)]; omega
  · rw [e2, beN_at (by simp only [List.length_append, puL_len]) (by omega)]
  · rw [e3, cutB_at (by simp only [List.length_append, puL_len]) rfl]
  · rw [lj, e1]; simp only [List.length_append, puL_len]; omega
theorem id_at {n : Nat} {T : Nat → By} {A : Nat → Int} (h : ∀ j, j < n → (1 ≤ (T j).length ∧ (T j).length ≤ 255) ∧ (0 ≤ A j ∧ A j ≤ 4294967295)) {j : Nat} (hj : j < n) :
    beN (cutB (chT T A n) (chT T A j).length 2) = (T j).length ∧ cutB (chT T A n) ((chT T A j).length + 2) (T j).length = T j ∧ ((beN (cutB (chT T A n) ((chT T A j).length + 2 + (T j).length) 4) : Nat) : Int) = A j ∧
    (chT T A (j + 1)).length = (chT T A j).length + 2 + (T j).length + 4 ∧ (chT T A (j + 1)).length ≤ (chT T A n).length := by
  obtain ⟨⟨k1, k2⟩, g0, g1⟩ := h j hj
  have st : ∀ j, chT T A (j + 1) = chT T A j ++ (puL (T j).length 2 ++ (T j ++ puL (A j).toNat 4)) := fun j => by
    rw [chT]; unfold pvB puB; simp only [List.append_assoc, Int.toNat_natCast]; rfl
  obtain ⟨R, e⟩ := seq_split (W := fun j => puL (T j).length 2 ++ (T j ++ puL (A j).toNat 4)) st n j hj
  have lj : (chT T A (j + 1)).length = (chT T A j).length + 2 + (T j).length + 4 := by
    rw [st]; simp only [List.length_append, puL_len]; omega
  have e1 : chT T A n = chT T A j ++ (puL (T j).length 2 ++ (T j ++ (puL (A j).toNat 4 ++ R))) := by rw [e]; simp only [List.append_assoc]
  have e2 : chT T A n = (chT T A j ++ puL (T j).length 2) ++ (T j ++ (puL (A j).toNat 4 ++ R)) := by rw [e]; simp only [List.append_assoc]
  have e3 : chT T A n = (chT T A j ++ puL (T j).length 2 ++ T j) ++ (puL (A j).toNat 4 ++ R) := by rw [e]; simp only [List.append_assoc]
  have p2 : (256 : Nat) ^ 2 = 65536 := rfl
  have p4 : (256 : Nat) ^ 4 = 4294967296 := rfl
  refine ⟨?_, ?_, ?_, lj, ?_⟩
  · rw [e1, beN_at rfl (by omega)]
  · rw [e2, cutB_at (by simp only [List.length_append, puL_len]) rfl]
  · rw [e3, beN_at (by simp only [List.length_append, puL_len]) (by omega)]; omega
  · rw [lj, e1]; simp only [List.length_append, puL_len]; omega
theorem bi_at {n : Nat} {D : Nat → By} (h : ∀ j, j < n → (D j).length = 32) {j : Nat} (hj : j < n) :
    beN (cutB (chD D n) (chD D j).length 1) = (D j).length ∧ cutB (chD D n) ((chD D j).length + 1) (D j).length = D j ∧
    (chD D (j + 1)).length = (chD D j).length + 1 + (D j).length ∧ (chD D (j + 1)).length ≤ (chD D n).length := by
  have k1 := h j hj
  have st : ∀ j, chD D (j + 1) = chD D j ++ (puL (D j).length 1 ++ D j) := fun j => by
    rw [chD]; unfold pvB puB; simp only [List.append_assoc, Int.toNat_natCast]; rfl
  obtain ⟨R, e⟩ := seq_split (W := fun j => puL (D j).length 1 ++ D j) st n j hj
  have lj : (chD D (j + 1)).length = (chD D j).length + 1 + (D j).length := by
    rw [st]; simp only [List.length_append, puL_len]; omega
  have e1 : chD D n = chD D j ++ (puL (D j).length 1 ++ (D j ++ R)) := by rw [e]; simp only [List.append_assoc]
  have e2 : chD D n = (chD D j ++ puL (D j).length 1) ++ (D j ++ R) := by rw [e]; simp only [List.append_assoc]
  have p1 : (256 : Nat) ^ 1 = 256 := rfl
  refine ⟨?_, ?_, lj, ?_⟩
  · rw [e1, beN_at rfl (by omega)]
  · rw [e2, cutB_at (by simp only [List.length_append, puL_len]) rfl]
  · rw [lj, e1]; simp only [List.length_append, puL_len]; omega
end Go.Spec
namespace Go.Sym
open Go.Proofs Go.Spec
set_option linter.unusedVariables false
theorem lf0 (n : Nat) : lfV n 0 = (n : Int) := rfl
theorem gl1 (f : Nat → List AV) (sz x y : Nat) (hs : 0 < sz) (hy : y < x + 1) (r : List AV) (hr : r = f x) (hl : (f x).length = sz) : glue f x (cut sz (List.take sz (List.drop 0 r))) y = f y := by
  subst hr
  unfold glue
  by_cases h : y < x
  · simp [h]
  · obtain rfl : y = x := by omega
    simp [cut, ← hl]
theorem bg90 (L v : By) (x n N : Nat) (w mo : Int) (h : vAt L x n w v) (hN : v.length = 2 * N) (hm : (N : Int) ≤ mo) : Must (bodyP Tryd.prog Ga5 gl0 [] [(4, lsG L (x + w.toNat) v 85 mo 1 (fun j => 2 * j) (fun j => [.int .i64 (dN v j)]) N)] 3000 Tryd.f84 2 [.ptr 0 0 0 0, .int .i64 w, .int .i64 mo, .fn 85 [] []] [rdC x n 0, rdL L] (retQ Tryd.prog Tryd.f84 2 (rGl L (x + w.toNat + v.length) 1 N (fun j => [.int .i64 (dN v j)])))) := by
  constructor
  rw [vg90]
  have v6 := h.v6
  set_option simprocs false in
  simp only [h.c, h.s, lf0, eq_self_iff_true, true_and, and_true, implies_true, datas_int, datas_nil, outs_nil, outs_int, brec_eq, decide_eq_true_eq, decide_eq_false_iff_not]
  refine ⟨h.e, h.l, ⟨h.w1, h.w4⟩, ⟨h.b, by have := h.v1; omega, by omega⟩, by omega, ⟨0, Nat.zero_le _, rfl, rfl, rfl, by omega, rfl⟩, fun j hj => ?_⟩
  have hj : j ≤ N := hj
  refine ⟨fun d => ?_, fun d => ?_⟩
  · have d := of_decide_eq_true d
    exact ⟨by omega, by omega, by decide, by omega, by unfold roomFor; omega, j + 1, by omega, (by show j + 1 ≤ N; omega), rfl, by omega, by omega, by omega, rfl, fun y hy => gl1 (fun j => [AV.int IntKind.i64 (dN v j)]) 1 j y (by decide) hy _ rfl rfl⟩
  · have d := of_decide_eq_false d
    exact ⟨fun d2 => by omega, fun d2 => by omega⟩
theorem bg130 (L v : By) (x n N : Nat) (w mo : Int) (G : Nat → Int) (K : Nat → By) (h : vAt L x n w v) (hs : shOk N G K) (hv : v = chSh G K N) (hm : (N : Int) ≤ mo) : Must (bodyP Tryd.prog (Ga5.withFrz [(21, [.a [.kp, .by8]])]) gl0 [] [(4, lsG L (x + w.toNat) v 114 mo 2 (fun j => (chSh G K j).length) (fun j => [.int .i64 (G j), .rb true (K j) .unk]) N)] 3000 Tryd.f113 2 [.ptr 0 0 0 0, .int .i64 w, .int .i64 mo, .fn 114 [] []] [rdC x n 0, rdL L] (retQ Tryd.prog Tryd.f113 2 (rGl L (x + w.toNat + v.length) 2 N (fun j => [.int .i64 (G j), .rb true (K j) .unk])))) := by
  constructor
  rw [vg130]
  have v6 := h.v6
  set_option simprocs false in
  simp only [h.c, h.s, lf0, eq_self_iff_true, true_and, and_true, implies_true, datas_int, datas_rb, datas_nil, outs_nil, outs_rb, outs_int, brec_eq, decide_eq_true_eq, decide_eq_false_iff_not]
  have n4 := hs.1
  refine ⟨h.e, h.l, ⟨h.w1, h.w4⟩, ⟨h.b, by have := h.v1; omega, by omega⟩, by omega, ⟨0, Nat.zero_le _, rfl, rfl, rfl, rfl, rfl⟩, fun j hj => ?_⟩
  have hj : j ≤ N := hj
  refine ⟨fun d => ?_, fun d => ?_⟩
  · have d := of_decide_eq_true d
    have hjN : j < N := by
      rcases Nat.lt_or_ge j N with h1 | h1
      · exact h1
      · obtain rfl : j = N := by omega
        rw [hv] at d; omega
    obtain ⟨a1, a2, a3, a4, a5⟩ := sh_at hs hjN
    rw [← hv] at a1 a2 a3 a5
    obtain ⟨g, k1, k2⟩ := hs.2 j hjN
    rw [a2, a3, a1]
    refine ⟨by omega, by omega, by decide, by omega, by omega, by omega, by decide, by omega, rfl, by unfold roomFor; omega, j + 1, by omega, (by show j + 1 ≤ N; omega), rfl, by omega, by omega, by omega, rfl, fun y hy => gl1 (fun j => [.int .i64 (G j), .rb true (K j) .unk]) 2 j y (by decide) hy _ rfl rfl⟩
  · have d := of_decide_eq_false d
    have hjN : ¬ j < N := fun hjN => by
      obtain ⟨a1, a2, a3, a4, a5⟩ := sh_at hs hjN
      rw [← hv] at a5
      omega
    exact ⟨fun d2 => by omega, fun d2 => by omega⟩
theorem bg132 (L v : By) (x n N : Nat) (w mo : Int) (T : Nat → By) (A : Nat → Int) (h : vAt L x n w v) (hs : ∀ j, j < N → (1 ≤ (T j).length ∧ (T j).length ≤ 255) ∧ (0 ≤ A j ∧ A j ≤ 4294967295)) (n4 : N ≤ 4) (hv : v = chT T A N) (hm : (N : Int) ≤ mo) : Must (bodyP Tryd.prog (Ga5.withFrz [(21, [.a [.by8, .kp]])]) gl0 [] [(4, lsG L (x + w.toNat) v 116 mo 2 (fun j => (chT T A j).length) (fun j => [.rb true (T j) .unk, .int .i64 (A j)]) N)] 3000 Tryd.f115 2 [.ptr 0 0 0 0, .int .i64 w, .int .i64 mo, .fn 116 [] []] [rdC x n 0, rdL L] (retQ Tryd.prog Tryd.f115 2 (rGl L (x + w.toNat + v.length) 2 N (fun j => [.rb true (T j) .unk, .int .i64 (A j)])))) := by
  constructor
  rw [vg132]
  have v6 := h.v6
  set_option simprocs false in
  simp only [h.c, h.s, lf0, eq_self_iff_true, true_and, and_true, implies_true, datas_int, datas_rb, datas_nil, outs_nil, outs_rb, outs_int, brec_eq, decide_eq_true_eq, decide_eq_false_iff_not]
  refine ⟨h.e, h.l, ⟨h.w1, h.w4⟩, ⟨h.b, by have := h.v1; omega, by omega⟩, by omega, ⟨0, Nat.zero_le _, rfl, rfl, rfl, rfl, rfl⟩, fun j hj => ?_⟩
  have hj : j ≤ N := hj
  refine ⟨fun d => ?_, fun d => ?_⟩
  · have d := of_decide_eq_true d
    have hjN : j < N := by
      rcases Nat.lt_or_ge j N with h1 | h1
      · exact h1
      · obtain rfl : j = N := by omega
        rw [hv] at d; omega
    obtain ⟨a1, a2, a3, a4, a5⟩ := id_at hs hjN
    rw [← hv] at a1 a2 a3 a5
    obtain ⟨⟨k1, k2⟩, g⟩ := hs j hjN
    rw [a1, a2, a3]
    refine ⟨by omega, by omega, by decide, ⟨by omega, by omega, by omega⟩, by omega, by omega, by decide, by omega, rfl, by unfold roomFor; omega, j + 1, by omega, (by show j + 1 ≤ N; omega), rfl, by omega, by omega, by omega, rfl, fun y hy => gl1 (fun j => [.rb true (T j) .unk, .int .i64 (A j)]) 2 j y (by decide) hy _ rfl rfl⟩
  · have d := of_decide_eq_false d
    have hjN : ¬ j < N := fun hjN => by
      obtain ⟨a1, a2, a3, a4, a5⟩ := id_at hs hjN
      rw [← hv] at a5
      omega
    exact ⟨fun d2 => by omega, fun d2 => by omega⟩
theorem bg134 (L v : By) (x n N : Nat) (w mo : Int) (D : Nat → By) (h : vAt L x n w v) (hs : ∀ j, j < N → (D j).length = 32) (n4 : N ≤ 4) (hv : v = chD D N) (hm : (N : Int) ≤ mo) : Must (bodyP Tryd.prog (Ga5.withFrz [(21, [.by8])]) gl0 [] [(4, lsG L (x + w.toNat) v 118 mo 1 (fun j => (chD D j).length) (fun j => [.rb true (D j) .unk]) N)] 3000 Tryd.f117 2 [.ptr 0 0 0 0, .int .i64 w, .int .i64 mo, .fn 118 [] []] [rdC x n 0, rdL L] (retQ Tryd.prog Tryd.f117 2 (rGl L (x + w.toNat + v.length) 1 N (fun j => [.rb true (D j) .unk])))) := by
  constructor
  rw [vg134]
  have v6 := h.v6
  set_option simprocs false in
  simp only [h.c, h.s, lf0, eq_self_iff_true, true_and, and_true, implies_true, datas_int, datas_rb, datas_nil, outs_nil, outs_rb, outs_int, brec_eq, decide_eq_true_eq, decide_eq_false_iff_not]
  refine ⟨h.e, h.l, ⟨h.w1, h.w4⟩, ⟨h.b, by have := h.v1; omega, by omega⟩, by omega, ⟨0, Nat.zero_le _, rfl, rfl, rfl, rfl, rfl⟩, fun j hj => ?_⟩
  have hj : j ≤ N := hj
  refine ⟨fun d => ?_, fun d => ?_⟩
  · have d := of_decide_eq_true d
    have hjN : j < N := by
      rcases Nat.lt_or_ge j N with h1 | h1
      · exact h1
      · obtain rfl : j = N := by omega
        rw [hv] at d; omega
    obtain ⟨a1, a2, a4, a5⟩ := bi_at hs hjN
    rw [← hv] at a1 a2 a5
    have k1 := hs j hjN
    rw [a1, a2]
    refine ⟨by omega, by omega, by decide, ⟨by omega, by omega, by omega⟩, rfl, by unfold roomFor; omega, j + 1, by omega, (by show j + 1 ≤ N; omega), rfl, by omega, by omega, by omega, rfl, fun y hy => gl1 (fun j => [.rb true (D j) .unk]) 1 j y (by decide) hy _ rfl rfl⟩
  · have d := of_decide_eq_false d
    have hjN : ¬ j < N := fun hjN => by
      obtain ⟨a1, a2, a4, a5⟩ := bi_at hs hjN
      rw [← hv] at a5
      omega
    exact ⟨fun d2 => by omega, fun d2 => by omega⟩
end Go.Sym

set_option linter.unusedSimpArgs false
namespace Go.Spec
open Go.Sym
/-- What stands behind the count of w bytes at x. -/
def vecB (L : By) (x : Nat) (w : Int) : By := cutB L (x + w.toNat) (beN (cutB L x w.toNat))
/-- A client that is read, by its cells. -/
def cliG (c : Cli) : List AV := ((List.range 32).map fun i => AV.u8 (c.R i)) ++ [.rb true c.s .unk, .ros true 1 c.n1 (fun j => [.int .i64 (c.L1 j)]) .unk, .ros true 1 c.n2 (fun j => [.int .i64 (c.L2 j)]) .unk, .ros true 1 c.n3 (fun j => [.int .i64 (c.L3 j)]) .unk, .ros true 1 c.n4 (fun j => [.int .i64 (c.L4 j)]) .unk, .ros true 2 c.n5 (fun j => [.int .i64 (c.G j), .rb true (c.K j) .unk]) .unk, .rb true c.co .unk, .rb true c.mo .unk, .ros true 2 c.n6 (fun j => [.rb true (c.T j) .unk, .int .i64 (c.A j)]) .unk, .ros true 1 c.n7 (fun j => [.rb true (c.D j) .unk]) .unk]
def iX (k : Int) : Nat := if k = 43 then 0 else if k = 10 then 1 else if k = 13 then 2 else if k = 51 then 3 else if k = 44 then 4 else if k = 45 then 5 else 6
end Go.Spec
namespace Go.Sym
open Go.Proofs Go.Spec
set_option linter.unusedVariables false
def gg90 (xs : List AV) (bs : List ABlk) : TL := match xs, bs with
  | [.ptr 0 0 0 0, .int .i64 w, .int .i64 mo, .fn 85 [] []], [⟨.cells [.slice 1 x 1 n .ox .unk, .int .i64 0], true, 0⟩, ⟨.bytes L, true, 1⟩] =>
    .ok { rGl L (x + w.toNat + (vecB L x w).length) 1 ((vecB L x w).length / 2) (fun j => [.int .i64 (dN (vecB L x w) j)]) with ob := [vAt L x n w (vecB L x w), (vecB L x w).length = 2 * ((vecB L x w).length / 2), (((vecB L x w).length / 2 : Nat) : Int) ≤ mo] }
  | _, _ => .no
def gg130 (N : Nat) (G : Nat → Int) (K : Nat → By) (xs : List AV) (bs : List ABlk) : TL := match xs, bs with
  | [.ptr 0 0 0 0, .int .i64 w, .int .i64 mo, .fn 114 [] []], [⟨.cells [.slice 1 x 1 n .ox .unk, .int .i64 0], true, 0⟩, ⟨.bytes L, true, 1⟩] =>
    .ok { rGl L (x + w.toNat + (chSh G K N).length) 2 N (fun j => [.int .i64 (G j), .rb true (K j) .unk]) with ob := [vAt L x n w (chSh G K N), shOk N G K, (N : Int) ≤ mo] }
  | _, _ => .no
def gg132 (N : Nat) (T : Nat → By) (A : Nat → Int) (xs : List AV) (bs : List ABlk) : TL := match xs, bs with
  | [.ptr 0 0 0 0, .int .i64 w, .int .i64 mo, .fn 116 [] []], [⟨.cells [.slice 1 x 1 n .ox .unk, .int .i64 0], true, 0⟩, ⟨.bytes L, true, 1⟩] =>
    .ok { rGl L (x + w.toNat + (chT T A N).length) 2 N (fun j => [.rb true (T j) .unk, .int .i64 (A j)]) with ob := [vAt L x n w (chT T A N), (∀ j, j < N → (1 ≤ (T j).length ∧ (T j).length ≤ 255) ∧ (0 ≤ A j ∧ A j ≤ 4294967295)) ∧ N ≤ 4, (N : Int) ≤ mo] }
  | _, _ => .no
def gg134 (N : Nat) (D : Nat → By) (xs : List AV) (bs : List ABlk) : TL := match xs, bs with
  | [.ptr 0 0 0 0, .int .i64 w, .int .i64 mo, .fn 118 [] []], [⟨.cells [.slice 1 x 1 n .ox .unk, .int .i64 0], true, 0⟩, ⟨.bytes L, true, 1⟩] =>
    .ok { rGl L (x + w.toNat + (chD D N).length) 1 N (fun j => [.rb true (D j) .unk]) with ob := [vAt L x n w (chD D N), (∀ j, j < N → (D j).length = 32) ∧ N ≤ 4, (N : Int) ≤ mo] }
  | _, _ => .no
theorem cg90 : COK Tryd.prog gl0 84 (mkF (reSp 4 gg90)) := by
  refine ctrE (fn := Tryd.f84) [] 3000 (by kernel_rfl) (by kernel_rfl) okGa5 (by kernel_rfl) (fun args w => by kernel_rfl) fun xs bs r hs ho => ?_
  replace hs : (gg90 xs bs).sel = some r := hs
  unfold gg90 at hs
  split at hs
  · simp only [TL.sel, Option.some.injEq] at hs
    subst hs
    obtain ⟨h1, h2, h3⟩ := obs3 ho
    exact ⟨_, bg90 _ _ _ _ _ _ _ h1 h2 h3⟩
  · simp [TL.sel] at hs
theorem cg130 (N : Nat) (G : Nat → Int) (K : Nat → By) : COK Tryd.prog gl0 113 (mkF (reSp 4 (gg130 N G K))) := by
  refine ctrE (fn := Tryd.f113) [] 3000 (by kernel_rfl) (by kernel_rfl) (okGa5.withFrz [(21, [.a [.kp, .by8]])]) (by kernel_rfl) (fun args w => by kernel_rfl) fun xs bs r hs ho => ?_
  replace hs : (gg130 N G K xs bs).sel = some r := hs
  unfold gg130 at hs
  split at hs
  · simp only [TL.sel, Option.some.injEq] at hs
    subst hs
    obtain ⟨h1, h2, h3⟩ := obs3 ho
    exact ⟨_, bg130 _ _ _ _ _ _ _ _ _ h1 h2 rfl h3⟩
  · simp [TL.sel] at hs
theorem cg132 (N : Nat) (T : Nat → By) (A : Nat → Int) : COK Tryd.prog gl0 115 (mkF (reSp 4 (gg132 N T A))) := by
  refine ctrE (fn := Tryd.f115) [] 3000 (by kernel_rfl) (by kernel_rfl) (okGa5.withFrz [(21, [.a [.by8, .kp]])]) (by kernel_rfl) (fun args w => by kernel_rfl) fun xs bs r hs ho => ?_
  replace hs : (gg132 N T A xs bs).sel = some r := hs
  unfold gg132 at hs
  split at hs
  · simp only [TL.sel, Option.some.injEq] at hs
    subst hs
    obtain ⟨h1, h2, h3⟩ := obs3 ho
    exact ⟨_, bg132 _ _ _ _ _ _ _ _ _ h1 h2.1 h2.2 rfl h3⟩
  · simp [TL.sel] at hs
theorem cg134 (N : Nat) (D : Nat → By) : COK Tryd.prog gl0 117 (mkF (reSp 4 (gg134 N D))) := by
  refine ctrE (fn := Tryd.f117) [] 3000 (by kernel_rfl) (by kernel_rfl) (okGa5.withFrz [(21, [.by8])]) (by kernel_rfl) (fun args w => by kernel_rfl) fun xs bs r hs ho => ?_
  replace hs : (gg134 N D xs bs).sel = some r := hs
  unfold gg134 at hs
  split at hs
  · simp only [TL.sel, Option.some.injEq] at hs
    subst hs
    obtain ⟨h1, h2, h3⟩ := obs3 ho
    exact ⟨_, bg134 _ _ _ _ _ _ _ _ h1 h2.1 h2.2 rfl h3⟩
  · simp [TL.sel] at hs
noncomputable def Ga6 (c : Cli) : Ctx := (((Ga5.add 84 (mkF (reSp 4 gg90))).add 113 (mkF (reSp 4 (gg130 c.n5 c.G c.K)))).add 115 (mkF (reSp 4 (gg132 c.n6 c.T c.A)))).add 117 (mkF (reSp 4 (gg134 c.n7 c.D)))
theorem okGa6 (c : Cli) : COKs Tryd.prog gl0 (Ga6 c) := (((okGa5.add cg90).add (cg130 c.n5 c.G c.K)).add (cg132 c.n6 c.T c.A)).add (cg134 c.n7 c.D)
noncomputable def Ga7 (c : Cli) : Ctx := (Ga6 c).withFrz [(20, [.r 1]), (27, [.r 1]), (34, [.r 1]), (41, [.r 2]), (48, [.by8]), (55, [.by8]), (62, [.r 2]), (67, [.r 1])]
theorem okGa7 (c : Cli) : COKs Tryd.prog gl0 (Ga7 c) := (okGa6 c).withFrz _
def bxG (c : Cli) : ABlk := ⟨.cells (cliG c), true, 0⟩
def rTk (c : Cli) (B : By) : RL := ⟨[], .bool true, [some (some (bxG c)), some (some (rdCn 2 B.length 0)), some (some (rdL B))], []⟩
end Go.Sym

namespace Go.Sym
open Go.Proofs Go.Spec
set_option linter.unusedVariables false
set_option maxRecDepth 100000 in
theorem vk43 (c : Cli) (B : By) (n : Nat) : bodyP Tryd.prog (Ga7 c) gl0 [] [] 3000 Tryd.f90 3 [.ptr 0 0 0 0, .int .i64 43, .ptr 1 0 0 0] [bxG (c.at 0), rdCn 2 0 n, rdL B] (retQ Tryd.prog Tryd.f90 3 (rTk (c.at 1) B)) = (
let x1 := List.length (vecB B 0 (1 : Int)) / 2; vAt B 0 n (1 : Int) (vecB B 0 (1 : Int)) ∧ List.length (vecB B 0 (1 : Int)) = 2 * x1 ∧ (↑x1 : Int) ≤ (4 : Int) ∧ 0 + x1 ≤ x1 ∧ (∀ (y : Nat), y < x1 → datas Bool.true [AV.int IntKind.i64 (dN (vecB B 0 (1 : Int)) y)] = Bool.true ∧ [AV.int IntKind.i64 (dN (vecB B 0 (1 : Int)) y)].length ≤ 1) ∧ Bool.true = Bool.true ∧ allP (fun (i : Nat) => (c.at 1).R i = (c.at 0).R i) 0 32 ((c.at 1).s = (c.at 0).s ∧ (c.at 1).n1 = (c.at 0).n1 ∧ (∀ (y : Nat), y < (c.at 1).n1 → datas Bool.true [AV.int IntKind.i64 ((c.at 1).L1 y)] = Bool.true ∧ (c.at 1).L1 y = (c.at 0).L1 y ∧ True) ∧ (c.at 1).n2 = x1 ∧ (∀ (y : Nat), y < (c.at 1).n2 → datas Bool.true [AV.int IntKind.i64 ((c.at 1).L2 y)] = Bool.true ∧ (c.at 1).L2 y = dN (vecB B 0 (1 : Int)) y ∧ True) ∧ (c.at 1).n3 = (c.at 0).n3 ∧ (∀ (y : Nat), y < (c.at 1).n3 → datas Bool.true [AV.int IntKind.i64 ((c.at 1).L3 y)] = Bool.true ∧ (c.at 1).L3 y = (c.at 0).L3 y ∧ True) ∧ (c.at 1).n4 = (c.at 0).n4 ∧ (∀ (y : Nat), y < (c.at 1).n4 → datas Bool.true [AV.int IntKind.i64 ((c.at 1).L4 y)] = Bool.true ∧ (c.at 1).L4 y = (c.at 0).L4 y ∧ True) ∧ (c.at 1).n5 = (c.at 0).n5 ∧ (∀ (y : Nat), y < (c.at 1).n5 → datas Bool.true [AV.int IntKind.i64 ((c.at 1).G y), AV.rb Bool.true ((c.at 1).K y) NL.unk] = Bool.true ∧ (c.at 1).G y = (c.at 0).G y ∧ (c.at 1).K y = (c.at 0).K y ∧ True) ∧ (c.at 1).co = (c.at 0).co ∧ (c.at 1).mo = (c.at 0).mo ∧ (c.at 1).n6 = (c.at 0).n6 ∧ (∀ (y : Nat), y < (c.at 1).n6 → datas Bool.true [AV.rb Bool.true ((c.at 1).T y) NL.unk, AV.int IntKind.i64 ((c.at 1).A y)] = Bool.true ∧ (c.at 1).T y = (c.at 0).T y ∧ (c.at 1).A y = (c.at 0).A y ∧ True) ∧ (c.at 1).n7 = (c.at 0).n7 ∧ (∀ (y : Nat), y < (c.at 1).n7 → datas Bool.true [AV.rb Bool.true ((c.at 1).D y) NL.unk] = Bool.true ∧ (c.at 1).D y = (c.at 0).D y ∧ True) ∧ List.length B = 1 + List.length (vecB B 0 (1 : Int)) ∧ 0 = 0 ∧ List.length B = 1 + List.length (vecB B 0 (1 : Int)) ∧ 0 = List.length B - (1 + List.length (vecB B 0 (1 : Int))) ∧ (0 : Int) = (0 : Int) ∧ B = B ∧ True) : Prop) := by kernel_rfl
set_option maxRecDepth 100000 in
theorem vk10 (c : Cli) (B : By) (n : Nat) : bodyP Tryd.prog (Ga7 c) gl0 [] [] 3000 Tryd.f90 3 [.ptr 0 0 0 0, .int .i64 10, .ptr 1 0 0 0] [bxG (c.at 1), rdCn 2 0 n, rdL B] (retQ Tryd.prog Tryd.f90 3 (rTk (c.at 2) B)) = (
let x1 := List.length (vecB B 0 (2 : Int)) / 2; vAt B 0 n (2 : Int) (vecB B 0 (2 : Int)) ∧ List.length (vecB B 0 (2 : Int)) = 2 * x1 ∧ (↑x1 : Int) ≤ (4 : Int) ∧ 0 + x1 ≤ x1 ∧ (∀ (y : Nat), y < x1 → datas Bool.true [AV.int IntKind.i64 (dN (vecB B 0 (2 : Int)) y)] = Bool.true ∧ [AV.int IntKind.i64 (dN (vecB B 0 (2 : Int)) y)].length ≤ 1) ∧ Bool.true = Bool.true ∧ allP (fun (i : Nat) => (c.at 2).R i = (c.at 1).R i) 0 32 ((c.at 2).s = (c.at 1).s ∧ (c.at 2).n1 = (c.at 1).n1 ∧ (∀ (y : Nat), y < (c.at 2).n1 → datas Bool.true [AV.int IntKind.i64 ((c.at 2).L1 y)] = Bool.true ∧ (c.at 2).L1 y = (c.at 1).L1 y ∧ True) ∧ (c.at 2).n2 = (c.at 1).n2 ∧ (∀ (y : Nat), y < (c.at 2).n2 → datas Bool.true [AV.int IntKind.i64 ((c.at 2).L2 y)] = Bool.true ∧ (c.at 2).L2 y = (c.at 1).L2 y ∧ True) ∧ (c.at 2).n3 = x1 ∧ (∀ (y : Nat), y < (c.at 2).n3 → datas Bool.true [AV.int IntKind.i64 ((c.at 2).L3 y)] = Bool.true ∧ (c.at 2).L3 y = dN (vecB B 0 (2 : Int)) y ∧ True) ∧ (c.at 2).n4 = (c.at 1).n4 ∧ (∀ (y : Nat), y < (c.at 2).n4 → datas Bool.true [AV.int IntKind.i64 ((c.at 2).L4 y)] = Bool.true ∧ (c.at 2).L4 y = (c.at 1).L4 y ∧ True) ∧ (c.at 2).n5 = (c.at 1).n5 ∧ (∀ (y : Nat), y < (c.at 2).n5 → datas Bool.true [AV.int IntKind.i64 ((c.at 2).G y), AV.rb Bool.true ((c.at 2).K y) NL.unk] = Bool.true ∧ (c.at 2).G y = (c.at 1).G y ∧ (c.at 2).K y = (c.at 1).K y ∧ True) ∧ (c.at 2).co = (c.at 1).co ∧ (c.at 2).mo = (c.at 1).mo ∧ (c.at 2).n6 = (c.at 1).n6 ∧ (∀ (y : Nat), y < (c.at 2).n6 → datas Bool.true [AV.rb Bool.true ((c.at 2).T y) NL.unk, AV.int IntKind.i64 ((c.at 2).A y)] = Bool.true ∧ (c.at 2).T y = (c.at 1).T y ∧ (c.at 2).A y = (c.at 1).A y ∧ True) ∧ (c.at 2).n7 = (c.at 1).n7 ∧ (∀ (y : Nat), y < (c.at 2).n7 → datas Bool.true [AV.rb Bool.true ((c.at 2).D y) NL.unk] = Bool.true ∧ (c.at 2).D y = (c.at 1).D y ∧ True) ∧ List.length B = 2 + List.length (vecB B 0 (2 : Int)) ∧ 0 = 0 ∧ List.length B = 2 + List.length (vecB B 0 (2 : Int)) ∧ 0 = List.length B - (2 + List.length (vecB B 0 (2 : Int))) ∧ (0 : Int) = (0 : Int) ∧ B = B ∧ True) : Prop) := by kernel_rfl
set_option maxRecDepth 100000 in
theorem vk13 (c : Cli) (B : By) (n : Nat) : bodyP Tryd.prog (Ga7 c) gl0 [] [] 3000 Tryd.f90 3 [.ptr 0 0 0 0, .int .i64 13, .ptr 1 0 0 0] [bxG (c.at 2), rdCn 2 0 n, rdL B] (retQ Tryd.prog Tryd.f90 3 (rTk (c.at 3) B)) = (
let x1 := List.length (vecB B 0 (2 : Int)) / 2; vAt B 0 n (2 : Int) (vecB B 0 (2 : Int)) ∧ List.length (vecB B 0 (2 : Int)) = 2 * x1 ∧ (↑x1 : Int) ≤ (4 : Int) ∧ 0 + x1 ≤ x1 ∧ (∀ (y : Nat), y < x1 → datas Bool.true [AV.int IntKind.i64 (dN (vecB B 0 (2 : Int)) y)] = Bool.true ∧ [AV.int IntKind.i64 (dN (vecB B 0 (2 : Int)) y)].length ≤ 1) ∧ Bool.true = Bool.true ∧ allP (fun (i : Nat) => (c.at 3).R i = (c.at 2).R i) 0 32 ((c.at 3).s = (c.at 2).s ∧ (c.at 3).n1 = (c.at 2).n1 ∧ (∀ (y : Nat), y < (c.at 3).n1 → datas Bool.true [AV.int IntKind.i64 ((c.at 3).L1 y)] = Bool.true ∧ (c.at 3).L1 y = (c.at 2).L1 y ∧ True) ∧ (c.at 3).n2 = (c.at 2).n2 ∧ (∀ (y : Nat), y < (c.at 3).n2 → datas Bool.true [AV.int IntKind.i64 ((c.at 3).L2 y)] = Bool.true ∧ (c.at 3).L2 y = (c.at 2).L2 y ∧ True) ∧ (c.at 3).n3 = (c.at 2).n3 ∧ (∀ (y : Nat), y < (c.at 3).n3 → datas Bool.true [AV.int IntKind.i64 ((c.at 3).L3 y)] = Bool.true ∧ (c.at 3).L3 y = (c.at 2).L3 y ∧ True) ∧ (c.at 3).n4 = x1 ∧ (∀ (y : Nat), y < (c.at 3).n4 → datas Bool.true [AV.int IntKind.i64 ((c.at 3).L4 y)] = Bool.true ∧ (c.at 3).L4 y = dN (vecB B 0 (2 : Int)) y ∧ True) ∧ (c.at 3).n5 = (c.at 2).n5 ∧ (∀ (y : Nat), y < (c.at 3).n5 → datas Bool.true [AV.int IntKind.i64 ((c.at 3).G y), AV.rb Bool.true ((c.at 3).K y) NL.unk] = Bool.true ∧ (c.at 3).G y = (c.at 2).G y ∧ (c.at 3).K y = (c.at 2).K y ∧ True) ∧ (c.at 3).co = (c.at 2).co ∧ (c.at 3).mo = (c.at 2).mo ∧ (c.at 3).n6 = (c.at 2).n6 ∧ (∀ (y : Nat), y < (c.at 3).n6 → datas Bool.true [AV.rb Bool.true ((c.at 3).T y) NL.unk, AV.int IntKind.i64 ((c.at 3).A y)] = Bool.true ∧ (c.at 3).T y = (c.at 2).T y ∧ (c.at 3).A y = (c.at 2).A y ∧ True) ∧ (c.at 3).n7 = (c.at 2).n7 ∧ (∀ (y : Nat), y < (c.at 3).n7 → datas Bool.true [AV.rb Bool.true ((c.at 3).D y) NL.unk] = Bool.true ∧ (c.at 3).D y = (c.at 2).D y ∧ True) ∧ List.length B = 2 + List.length (vecB B 0 (2 : Int)) ∧ 0 = 0 ∧ List.length B = 2 + List.length (vecB B 0 (2 : Int)) ∧ 0 = List.length B - (2 + List.length (vecB B 0 (2 : Int))) ∧ (0 : Int) = (0 : Int) ∧ B = B ∧ True) : Prop) := by kernel_rfl
set_option maxRecDepth 100000 in
theorem vk51 (c : Cli) (B : By) (n : Nat) : bodyP Tryd.prog (Ga7 c) gl0 [] [] 3000 Tryd.f90 3 [.ptr 0 0 0 0, .int .i64 51, .ptr 1 0 0 0] [bxG (c.at 3), rdCn 2 0 n, rdL B] (retQ Tryd.prog Tryd.f90 3 (rTk (c.at 4) B)) = (
vAt B 0 n (2 : Int) (chSh c.G c.K c.n5) ∧ (c.n5 ≤ 4 ∧ ∀ (j : Nat), j < c.n5 → ((0 : Int) ≤ c.G j ∧ c.G j ≤ (65535 : Int)) ∧ 1 ≤ List.length (c.K j) ∧ List.length (c.K j) ≤ 64) ∧ (↑c.n5 : Int) ≤ (4 : Int) ∧ 0 + c.n5 ≤ c.n5 ∧ (∀ (y : Nat), y < c.n5 → datas Bool.true [AV.int IntKind.i64 (c.G y), AV.rb Bool.true (c.K y) NL.unk] = Bool.true ∧ [AV.int IntKind.i64 (c.G y), AV.rb Bool.true (c.K y) NL.unk].length ≤ 2) ∧ Bool.true = Bool.true ∧ allP (fun (i : Nat) => (c.at 4).R i = (c.at 3).R i) 0 32 ((c.at 4).s = (c.at 3).s ∧ (c.at 4).n1 = (c.at 3).n1 ∧ (∀ (y : Nat), y < (c.at 4).n1 → datas Bool.true [AV.int IntKind.i64 ((c.at 4).L1 y)] = Bool.true ∧ (c.at 4).L1 y = (c.at 3).L1 y ∧ True) ∧ (c.at 4).n2 = (c.at 3).n2 ∧ (∀ (y : Nat), y < (c.at 4).n2 → datas Bool.true [AV.int IntKind.i64 ((c.at 4).L2 y)] = Bool.true ∧ (c.at 4).L2 y = (c.at 3).L2 y ∧ True) ∧ (c.at 4).n3 = (c.at 3).n3 ∧ (∀ (y : Nat), y < (c.at 4).n3 → datas Bool.true [AV.int IntKind.i64 ((c.at 4).L3 y)] = Bool.true ∧ (c.at 4).L3 y = (c.at 3).L3 y ∧ True) ∧ (c.at 4).n4 = (c.at 3).n4 ∧ (∀ (y : Nat), y < (c.at 4).n4 → datas Bool.true [AV.int IntKind.i64 ((c.at 4).L4 y)] = Bool.true ∧ (c.at 4).L4 y = (c.at 3).L4 y ∧ True) ∧ (c.at 4).n5 = c.n5 ∧ (∀ (y : Nat), y < (c.at 4).n5 → datas Bool.true [AV.int IntKind.i64 ((c.at 4).G y), AV.rb Bool.true ((c.at 4).K y) NL.unk] = Bool.true ∧ (c.at 4).G y = c.G y ∧ (c.at 4).K y = c.K y ∧ True) ∧ (c.at 4).co = (c.at 3).co ∧ (c.at 4).mo = (c.at 3).mo ∧ (c.at 4).n6 = (c.at 3).n6 ∧ (∀ (y : Nat), y < (c.at 4).n6 → datas Bool.true [AV.rb Bool.true ((c.at 4).T y) NL.unk, AV.int IntKind.i64 ((c.at 4).A y)] = Bool.true ∧ (c.at 4).T y = (c.at 3).T y ∧ (c.at 4).A y = (c.at 3).A y ∧ True) ∧ (c.at 4).n7 = (c.at 3).n7 ∧ (∀ (y : Nat), y < (c.at 4).n7 → datas Bool.true [AV.rb Bool.true ((c.at 4).D y) NL.unk] = Bool.true ∧ (c.at 4).D y = (c.at 3).D y ∧ True) ∧ List.length B = 2 + List.length (chSh c.G c.K c.n5) ∧ 0 = 0 ∧ List.length B = 2 + List.length (chSh c.G c.K c.n5) ∧ 0 = List.length B - (2 + List.length (chSh c.G c.K c.n5)) ∧ (0 : Int) = (0 : Int) ∧ B = B ∧ True) : Prop) := by kernel_rfl
set_option maxRecDepth 100000 in
theorem vk44 (c : Cli) (B : By) (n : Nat) : bodyP Tryd.prog (Ga7 c) gl0 [] [] 3000 Tryd.f90 3 [.ptr 0 0 0 0, .int .i64 44, .ptr 1 0 0 0] [bxG (c.at 4), rdCn 2 0 n, rdL B] (retQ Tryd.prog Tryd.f90 3 (rTk (c.at 5) B)) = (
0 + n = List.length B ∧ List.length B < 1099511627776 ∧ ((1 : Int) ≤ (2 : Int) ∧ (2 : Int) ≤ (4 : Int)) ∧ (2 + beN (cutB B 0 2) ≤ List.length B ∧ (1 : Int) ≤ (↑(beN (cutB B 0 2)) : Int) ∧ (↑(beN (cutB B 0 2)) : Int) ≤ (64 : Int)) ∧ beN (cutB B 0 2) = List.length (cutB B 2 (beN (cutB B 0 2))) ∧ Bool.true = Bool.true ∧ allP (fun (i : Nat) => (c.at 5).R i = (c.at 4).R i) 0 32 ((c.at 5).s = (c.at 4).s ∧ (c.at 5).n1 = (c.at 4).n1 ∧ (∀ (y : Nat), y < (c.at 5).n1 → datas Bool.true [AV.int IntKind.i64 ((c.at 5).L1 y)] = Bool.true ∧ (c.at 5).L1 y = (c.at 4).L1 y ∧ True) ∧ (c.at 5).n2 = (c.at 4).n2 ∧ (∀ (y : Nat), y < (c.at 5).n2 → datas Bool.true [AV.int IntKind.i64 ((c.at 5).L2 y)] = Bool.true ∧ (c.at 5).L2 y = (c.at 4).L2 y ∧ True) ∧ (c.at 5).n3 = (c.at 4).n3 ∧ (∀ (y : Nat), y < (c.at 5).n3 → datas Bool.true [AV.int IntKind.i64 ((c.at 5).L3 y)] = Bool.true ∧ (c.at 5).L3 y = (c.at 4).L3 y ∧ True) ∧ (c.at 5).n4 = (c.at 4).n4 ∧ (∀ (y : Nat), y < (c.at 5).n4 → datas Bool.true [AV.int IntKind.i64 ((c.at 5).L4 y)] = Bool.true ∧ (c.at 5).L4 y = (c.at 4).L4 y ∧ True) ∧ (c.at 5).n5 = (c.at 4).n5 ∧ (∀ (y : Nat), y < (c.at 5).n5 → datas Bool.true [AV.int IntKind.i64 ((c.at 5).G y), AV.rb Bool.true ((c.at 5).K y) NL.unk] = Bool.true ∧ (c.at 5).G y = (c.at 4).G y ∧ (c.at 5).K y = (c.at 4).K y ∧ True) ∧ (c.at 5).co = cutB B 2 (beN (cutB B 0 2)) ∧ (c.at 5).mo = (c.at 4).mo ∧ (c.at 5).n6 = (c.at 4).n6 ∧ (∀ (y : Nat), y < (c.at 5).n6 → datas Bool.true [AV.rb Bool.true ((c.at 5).T y) NL.unk, AV.int IntKind.i64 ((c.at 5).A y)] = Bool.true ∧ (c.at 5).T y = (c.at 4).T y ∧ (c.at 5).A y = (c.at 4).A y ∧ True) ∧ (c.at 5).n7 = (c.at 4).n7 ∧ (∀ (y : Nat), y < (c.at 5).n7 → datas Bool.true [AV.rb Bool.true ((c.at 5).D y) NL.unk] = Bool.true ∧ (c.at 5).D y = (c.at 4).D y ∧ True) ∧ List.length B = 2 + beN (cutB B 0 2) ∧ 0 = 0 ∧ List.length B = 2 + beN (cutB B 0 2) ∧ 0 = List.length B - (2 + beN (cutB B 0 2)) ∧ (0 : Int) = (0 : Int) ∧ B = B ∧ True) : Prop) := by kernel_rfl
set_option maxRecDepth 100000 in
theorem vk45 (c : Cli) (B : By) (n : Nat) : bodyP Tryd.prog (Ga7 c) gl0 [] [] 3000 Tryd.f90 3 [.ptr 0 0 0 0, .int .i64 45, .ptr 1 0 0 0] [bxG (c.at 5), rdCn 2 0 n, rdL B] (retQ Tryd.prog Tryd.f90 3 (rTk (c.at 6) B)) = (
0 + n = List.length B ∧ List.length B < 1099511627776 ∧ ((1 : Int) ≤ (1 : Int) ∧ (1 : Int) ≤ (4 : Int)) ∧ (1 + beN (cutB B 0 1) ≤ List.length B ∧ (1 : Int) ≤ (↑(beN (cutB B 0 1)) : Int) ∧ (↑(beN (cutB B 0 1)) : Int) ≤ (4 : Int)) ∧ beN (cutB B 0 1) = List.length (cutB B 1 (beN (cutB B 0 1))) ∧ Bool.true = Bool.true ∧ allP (fun (i : Nat) => (c.at 6).R i = (c.at 5).R i) 0 32 ((c.at 6).s = (c.at 5).s ∧ (c.at 6).n1 = (c.at 5).n1 ∧ (∀ (y : Nat), y < (c.at 6).n1 → datas Bool.true [AV.int IntKind.i64 ((c.at 6).L1 y)] = Bool.true ∧ (c.at 6).L1 y = (c.at 5).L1 y ∧ True) ∧ (c.at 6).n2 = (c.at 5).n2 ∧ (∀ (y : Nat), y < (c.at 6).n2 → datas Bool.true [AV.int IntKind.i64 ((c.at 6).L2 y)] = Bool.true ∧ (c.at 6).L2 y = (c.at 5).L2 y ∧ True) ∧ (c.at 6).n3 = (c.at 5).n3 ∧ (∀ (y : Nat), y < (c.at 6).n3 → datas Bool.true [AV.int IntKind.i64 ((c.at 6).L3 y)] = Bool.true ∧ (c.at 6).L3 y = (c.at 5).L3 y ∧ True) ∧ (c.at 6).n4 = (c.at 5).n4 ∧ (∀ (y : Nat), y < (c.at 6).n4 → datas Bool.true [AV.int IntKind.i64 ((c.at 6).L4 y)] = Bool.true ∧ (c.at 6).L4 y = (c.at 5).L4 y ∧ True) ∧ (c.at 6).n5 = (c.at 5).n5 ∧ (∀ (y : Nat), y < (c.at 6).n5 → datas Bool.true [AV.int IntKind.i64 ((c.at 6).G y), AV.rb Bool.true ((c.at 6).K y) NL.unk] = Bool.true ∧ (c.at 6).G y = (c.at 5).G y ∧ (c.at 6).K y = (c.at 5).K y ∧ True) ∧ (c.at 6).co = (c.at 5).co ∧ (c.at 6).mo = cutB B 1 (beN (cutB B 0 1)) ∧ (c.at 6).n6 = (c.at 5).n6 ∧ (∀ (y : Nat), y < (c.at 6).n6 → datas Bool.true [AV.rb Bool.true ((c.at 6).T y) NL.unk, AV.int IntKind.i64 ((c.at 6).A y)] = Bool.true ∧ (c.at 6).T y = (c.at 5).T y ∧ (c.at 6).A y = (c.at 5).A y ∧ True) ∧ (c.at 6).n7 = (c.at 5).n7 ∧ (∀ (y : Nat), y < (c.at 6).n7 → datas Bool.true [AV.rb Bool.true ((c.at 6).D y) NL.unk] = Bool.true ∧ (c.at 6).D y = (c.at 5).D y ∧ True) ∧ List.length B = 1 + beN (cutB B 0 1) ∧ 0 = 0 ∧ List.length B = 1 + beN (cutB B 0 1) ∧ 0 = List.length B - (1 + beN (cutB B 0 1)) ∧ (0 : Int) = (0 : Int) ∧ B = B ∧ True) : Prop) := by kernel_rfl
set_option maxRecDepth 100000 in
theorem vk41 (c : Cli) (B : By) (n : Nat) : bodyP Tryd.prog (Ga7 c) gl0 [] [] 3000 Tryd.f90 3 [.ptr 0 0 0 0, .int .i64 41, .ptr 1 0 0 0] [bxG (c.at 6), rdCn 2 0 n, rdL B] (retQ Tryd.prog Tryd.f90 3 (rTk (c.at 7) B)) = (
let x1 := 2 + List.length (chT c.T c.A c.n6) + 2 + List.length (chD c.D c.n7); let x2 := ∀ (y : Nat), y < (c.at 7).n5 → datas Bool.true [AV.int IntKind.i64 ((c.at 7).G y), AV.rb Bool.true ((c.at 7).K y) NL.unk] = Bool.true ∧ (c.at 7).G y = (c.at 6).G y ∧ (c.at 7).K y = (c.at 6).K y ∧ True; let x3 := ∀ (y : Nat), y < (c.at 7).n6 → datas Bool.true [AV.rb Bool.true ((c.at 7).T y) NL.unk, AV.int IntKind.i64 ((c.at 7).A y)] = Bool.true ∧ (c.at 7).T y = c.T y ∧ (c.at 7).A y = c.A y ∧ True; let x4 := ∀ (y : Nat), y < (c.at 7).n3 → datas Bool.true [AV.int IntKind.i64 ((c.at 7).L3 y)] = Bool.true ∧ (c.at 7).L3 y = (c.at 6).L3 y ∧ True; let x5 := ∀ (y : Nat), y < (c.at 7).n2 → datas Bool.true [AV.int IntKind.i64 ((c.at 7).L2 y)] = Bool.true ∧ (c.at 7).L2 y = (c.at 6).L2 y ∧ True; let x6 := ∀ (y : Nat), y < (c.at 7).n4 → datas Bool.true [AV.int IntKind.i64 ((c.at 7).L4 y)] = Bool.true ∧ (c.at 7).L4 y = (c.at 6).L4 y ∧ True; let x7 := ∀ (y : Nat), y < (c.at 7).n1 → datas Bool.true [AV.int IntKind.i64 ((c.at 7).L1 y)] = Bool.true ∧ (c.at 7).L1 y = (c.at 6).L1 y ∧ True; let x8 := ∀ (y : Nat), y < (c.at 7).n7 → datas Bool.true [AV.rb Bool.true ((c.at 7).D y) NL.unk] = Bool.true ∧ (c.at 7).D y = c.D y ∧ True; vAt B 0 n (2 : Int) (chT c.T c.A c.n6) ∧ ((∀ (j : Nat), j < c.n6 → (1 ≤ List.length (c.T j) ∧ List.length (c.T j) ≤ 255) ∧ (0 : Int) ≤ c.A j ∧ c.A j ≤ (4294967295 : Int)) ∧ c.n6 ≤ 4) ∧ (↑c.n6 : Int) ≤ (4 : Int) ∧ 0 + c.n6 ≤ c.n6 ∧ (∀ (y : Nat), y < c.n6 → datas Bool.true [AV.rb Bool.true (c.T y) NL.unk, AV.int IntKind.i64 (c.A y)] = Bool.true ∧ [AV.rb Bool.true (c.T y) NL.unk, AV.int IntKind.i64 (c.A y)].length ≤ 2) ∧ vAt B (0 + Int.toNat (2 : Int) + List.length (chT c.T c.A c.n6)) (List.length B - (0 + Int.toNat (2 : Int) + List.length (chT c.T c.A c.n6))) (2 : Int) (chD c.D c.n7) ∧ ((∀ (j : Nat), j < c.n7 → List.length (c.D j) = 32) ∧ c.n7 ≤ 4) ∧ (↑c.n7 : Int) ≤ (4 : Int) ∧ 0 + c.n7 ≤ c.n7 ∧ (∀ (y : Nat), y < c.n7 → datas Bool.true [AV.rb Bool.true (c.D y) NL.unk] = Bool.true ∧ [AV.rb Bool.true (c.D y) NL.unk].length ≤ 1) ∧ @Bool.rec (fun _ => Prop) (Bool.true = Bool.true ∧ allP (fun (i : Nat) => (c.at 7).R i = (c.at 6).R i) 0 32 ((c.at 7).s = (c.at 6).s ∧ (c.at 7).n1 = (c.at 6).n1 ∧ x7 ∧ (c.at 7).n2 = (c.at 6).n2 ∧ x5 ∧ (c.at 7).n3 = (c.at 6).n3 ∧ x4 ∧ (c.at 7).n4 = (c.at 6).n4 ∧ x6 ∧ (c.at 7).n5 = (c.at 6).n5 ∧ x2 ∧ (c.at 7).co = (c.at 6).co ∧ (c.at 7).mo = (c.at 6).mo ∧ (c.at 7).n6 = c.n6 ∧ x3 ∧ (c.at 7).n7 = c.n7 ∧ x8 ∧ List.length B = x1 ∧ 0 = 0 ∧ List.length B = x1 ∧ 0 = List.length B - x1 ∧ (0 : Int) = (0 : Int) ∧ B = B ∧ True)) (Bool.true = Bool.true ∧ allP (fun (i : Nat) => (c.at 7).R i = (c.at 6).R i) 0 32 ((c.at 7).s = (c.at 6).s ∧ (c.at 7).n1 = (c.at 6).n1 ∧ x7 ∧ (c.at 7).n2 = (c.at 6).n2 ∧ x5 ∧ (c.at 7).n3 = (c.at 6).n3 ∧ x4 ∧ (c.at 7).n4 = (c.at 6).n4 ∧ x6 ∧ (c.at 7).n5 = (c.at 6).n5 ∧ x2 ∧ (c.at 7).co = (c.at 6).co ∧ (c.at 7).mo = (c.at 6).mo ∧ (c.at 7).n6 = c.n6 ∧ x3 ∧ (c.at 7).n7 = c.n7 ∧ x8 ∧ List.length B = x1 ∧ 0 = 0 ∧ List.length B = x1 ∧ 0 = List.length B - x1 ∧ (0 : Int) = Int.ofNat 3 ∧ B = B ∧ True)) !decide ((↑c.n7 : Int) = (↑c.n6 : Int)) : Prop) := by kernel_rfl
end Go.Sym

set_option linter.unusedSimpArgs false
namespace Go.Spec
open Go.Sym
theorem vAt_of {L A v R : By} {x n W : Nat} {w : Int} (hL : L = A ++ (puL v.length W ++ (v ++ R))) (hx : x = A.length) (hn : x + n = L.length) (hl : L.length < 1099511627776) (hw : w = (W : Int)) (h1 : 1 ≤ W) (h4 : W ≤ 4) (hv : v.length < 256 ^ W) (v1 : 1 ≤ v.length) (v6 : v.length ≤ 65535) : vAt L x n w v := by
  have hw2 : w.toNat = W := by omega
  have hc : beN (cutB L x w.toNat) = v.length := by rw [hw2, hL, beN_at hx hv]
  refine ⟨hn, hl, by omega, by omega, hc, ?_, ?_, v1, v6⟩
  · rw [hw2, hL]
    have : A ++ (puL v.length W ++ (v ++ R)) = (A ++ puL v.length W) ++ (v ++ R) := by simp only [List.append_assoc]
    rw [this, cutB_at (by rw [List.length_append, puL_len, hx]) rfl]
  · rw [hw2, hL]; simp only [List.length_append, puL_len]; omega
theorem pvB_nil (v : By) (W : Nat) : pvB [] v (W : Int) = puL v.length W ++ v := by
  unfold pvB puB
  simp only [List.nil_append, Int.toNat_natCast]
theorem vAt_pv {v : By} {W : Nat} (h1 : 1 ≤ W) (h4 : W ≤ 4) (hv : v.length < 256 ^ W) (v1 : 1 ≤ v.length) (v6 : v.length ≤ 65535) : vAt (pvB [] v (W : Int)) 0 (pvB [] v (W : Int)).length (W : Int) v := by
  refine vAt_of (A := []) (R := []) ?_ rfl (Nat.zero_add _) ?_ rfl h1 h4 hv v1 v6
  · rw [pvB_nil]; simp only [List.nil_append, List.append_nil]
  · rw [pvB_nil, List.length_append, puL_len]; omega
theorem vAt.vec {L : By} {x n : Nat} {w : Int} {v : By} (h : vAt L x n w v) : vecB L x w = v := by unfold vecB; rw [h.c, h.s]
end Go.Spec
namespace Go.Sym
open Go.Proofs Go.Spec
set_option linter.unusedVariables false
def bodK (c : Cli) (i : Nat) (k : Int) : Prop := bodyP Tryd.prog (Ga7 c) gl0 [] [] 3000 Tryd.f90 3 [.ptr 0 0 0 0, .int .i64 k, .ptr 1 0 0 0] [bxG (c.at i), rdCn 2 0 (c.bX i).length, rdL (c.bX i)] (retQ Tryd.prog Tryd.f90 3 (rTk (c.at (i + 1)) (c.bX i)))
theorem num3 {L : Nat → Int} {n : Nat} (W : Nat) (h1 : 1 ≤ W) (hW : W ≤ 4) (hu : isU L n) (h0 : 0 < n) (h4 : n ≤ 4) : vAt (pvB [] (chN L n) (W : Int)) 0 (pvB [] (chN L n) (W : Int)).length (W : Int) (vecB (pvB [] (chN L n) (W : Int)) 0 (W : Int)) ∧ (vecB (pvB [] (chN L n) (W : Int)) 0 (W : Int)).length = 2 * ((vecB (pvB [] (chN L n) (W : Int)) 0 (W : Int)).length / 2) ∧ (((vecB (pvB [] (chN L n) (W : Int)) 0 (W : Int)).length / 2 : Nat) : Int) ≤ 4 ∧ n = (vecB (pvB [] (chN L n) (W : Int)) 0 (W : Int)).length / 2 ∧ (∀ y, y < n → L y = dN (vecB (pvB [] (chN L n) (W : Int)) 0 (W : Int)) y) ∧ (pvB [] (chN L n) (W : Int)).length = W + (vecB (pvB [] (chN L n) (W : Int)) 0 (W : Int)).length := by
  have hp : 256 ≤ 256 ^ W := pow256 W h1
  have hl : (chN L n).length = 2 * n := chN_len ..
  have h := vAt_pv (v := chN L n) h1 hW (by omega) (by omega) (by omega)
  rw [h.vec]
  refine ⟨h, by omega, by omega, by omega, fun y hy => (dN_chN hu hy).symm, ?_⟩
  rw [pvB_nil, List.length_append, puL_len]
theorem fI {P : Nat → Prop} {n : Nat} (h : ∀ y, P y) : ∀ y, y < n → P y := fun y _ => h y
theorem bk43 (c : Cli) (h : c.ok) (hx : c.hX 0 = true) : Must (bodK c 0 43) := by
  constructor
  unfold bodK
  rw [vk43]
  obtain ⟨a1, a2, a3, a4, a5, a6⟩ := num3 1 (by decide) (by decide) h.i2 (of_decide_eq_true hx) h.h2
  have e : c.bX 0 = pvB [] (chN c.L2 c.n2) ((1 : Nat) : Int) := rfl
  rw [← e] at a1 a2 a3 a4 a5 a6
  generalize c.bX 0 = B at *
  exact ⟨a1, a2, a3, by omega, fun _ _ => ⟨rfl, Nat.le_refl _⟩, rfl, allP_of 32 0 (fun _ _ _ => rfl) ⟨rfl, rfl, fun _ _ => ⟨rfl, rfl, trivial⟩, a4, fun y hy => ⟨rfl, a5 y hy, trivial⟩, rfl, fun _ _ => ⟨rfl, rfl, trivial⟩, rfl, fun _ _ => ⟨rfl, rfl, trivial⟩, rfl, fun _ _ => ⟨rfl, rfl, rfl, trivial⟩, rfl, rfl, rfl, fun _ _ => ⟨rfl, rfl, rfl, trivial⟩, rfl, fun _ _ => ⟨rfl, rfl, trivial⟩, a6, rfl, a6, (by have a7 : List.length B = 1 + List.length (vecB B 0 (1 : Int)) := a6; omega), rfl, rfl, trivial⟩⟩
theorem bk10 (c : Cli) (h : c.ok) (hx : c.hX 1 = true) : Must (bodK c 1 10) := by
  constructor
  unfold bodK
  rw [vk10]
  obtain ⟨a1, a2, a3, a4, a5, a6⟩ := num3 2 (by decide) (by decide) h.i3 (of_decide_eq_true hx) h.h3
  have e : c.bX 1 = pvB [] (chN c.L3 c.n3) ((2 : Nat) : Int) := rfl
  rw [← e] at a1 a2 a3 a4 a5 a6
  generalize c.bX 1 = B at *
  exact ⟨a1, a2, a3, by omega, fun _ _ => ⟨rfl, Nat.le_refl _⟩, rfl, allP_of 32 0 (fun _ _ _ => rfl) ⟨rfl, rfl, fun _ _ => ⟨rfl, rfl, trivial⟩, rfl, fun _ _ => ⟨rfl, rfl, trivial⟩, a4, fun y hy => ⟨rfl, a5 y hy, trivial⟩, rfl, fun _ _ => ⟨rfl, rfl, trivial⟩, rfl, fun _ _ => ⟨rfl, rfl, rfl, trivial⟩, rfl, rfl, rfl, fun _ _ => ⟨rfl, rfl, rfl, trivial⟩, rfl, fun _ _ => ⟨rfl, rfl, trivial⟩, a6, rfl, a6, (by have a7 : List.length B = 2 + List.length (vecB B 0 (2 : Int)) := a6; omega), rfl, rfl, trivial⟩⟩
theorem bk13 (c : Cli) (h : c.ok) (hx : c.hX 2 = true) : Must (bodK c 2 13) := by
  constructor
  unfold bodK
  rw [vk13]
  obtain ⟨a1, a2, a3, a4, a5, a6⟩ := num3 2 (by decide) (by decide) h.i4 (of_decide_eq_true hx) h.h4
  have e : c.bX 2 = pvB [] (chN c.L4 c.n4) ((2 : Nat) : Int) := rfl
  rw [← e] at a1 a2 a3 a4 a5 a6
  generalize c.bX 2 = B at *
  exact ⟨a1, a2, a3, by omega, fun _ _ => ⟨rfl, Nat.le_refl _⟩, rfl, allP_of 32 0 (fun _ _ _ => rfl) ⟨rfl, rfl, fun _ _ => ⟨rfl, rfl, trivial⟩, rfl, fun _ _ => ⟨rfl, rfl, trivial⟩, rfl, fun _ _ => ⟨rfl, rfl, trivial⟩, a4, fun y hy => ⟨rfl, a5 y hy, trivial⟩, rfl, fun _ _ => ⟨rfl, rfl, rfl, trivial⟩, rfl, rfl, rfl, fun _ _ => ⟨rfl, rfl, rfl, trivial⟩, rfl, fun _ _ => ⟨rfl, rfl, trivial⟩, a6, rfl, a6, (by have a7 : List.length B = 2 + List.length (vecB B 0 (2 : Int)) := a6; omega), rfl, rfl, trivial⟩⟩
theorem bk51 (c : Cli) (h : c.ok) (hx : c.hX 3 = true) : Must (bodK c 3 51) := by
  constructor
  unfold bodK
  rw [vk51]
  have h0 : 0 < c.n5 := of_decide_eq_true hx
  have ls := chSh_le h.h5 c.n5 (Nat.le_refl _)
  have lp := (chSh_pos c.G c.K c.n5).2 h0
  have h4 := h.h5.1
  have p2 : (256 : Nat) ^ 2 = 65536 := rfl
  have a1 := vAt_pv (v := chSh c.G c.K c.n5) (W := 2) (by decide) (by decide) (by omega) (by omega) (by omega)
  have a6 : (c.bX 3).length = 2 + (chSh c.G c.K c.n5).length := by
    show (pvB [] (chSh c.G c.K c.n5) ((2 : Nat) : Int)).length = _
    rw [pvB_nil, List.length_append, puL_len]
  have e : c.bX 3 = pvB [] (chSh c.G c.K c.n5) ((2 : Nat) : Int) := rfl
  rw [← e] at a1
  generalize c.bX 3 = B at *
  exact ⟨a1, h.h5, by omega, by omega, fun _ _ => ⟨rfl, Nat.le_refl _⟩, rfl, allP_of 32 0 (fun _ _ _ => rfl) ⟨rfl, rfl, fun _ _ => ⟨rfl, rfl, trivial⟩, rfl, fun _ _ => ⟨rfl, rfl, trivial⟩, rfl, fun _ _ => ⟨rfl, rfl, trivial⟩, rfl, fun _ _ => ⟨rfl, rfl, trivial⟩, rfl, fun _ _ => ⟨rfl, rfl, rfl, trivial⟩, rfl, rfl, rfl, fun _ _ => ⟨rfl, rfl, rfl, trivial⟩, rfl, fun _ _ => ⟨rfl, rfl, trivial⟩, a6, rfl, a6, by omega, rfl, rfl, trivial⟩⟩
theorem bk44 (c : Cli) (h : c.ok) (hx : c.hX 4 = true) : Must (bodK c 4 44) := by
  constructor
  unfold bodK
  rw [vk44]
  have h0 : 0 < c.co.length := of_decide_eq_true hx
  have hc := h.hc
  have p2 : (256 : Nat) ^ 2 = 65536 := rfl
  have a1 := vAt_pv (v := c.co) (W := 2) (by decide) (by decide) (by omega) (by omega) (by omega)
  have a6 : (c.bX 4).length = 2 + c.co.length := by
    show (pvB [] c.co ((2 : Nat) : Int)).length = _
    rw [pvB_nil, List.length_append, puL_len]
  have e : c.bX 4 = pvB [] c.co ((2 : Nat) : Int) := rfl
  rw [← e] at a1
  have b1 : beN (cutB (c.bX 4) 0 2) = c.co.length := a1.c
  have b2 : cutB (c.bX 4) 2 c.co.length = c.co := a1.s
  generalize c.bX 4 = B at *
  rw [b1, b2]
  exact ⟨Nat.zero_add _, a1.l, by decide, by omega, rfl, rfl, allP_of 32 0 (fun _ _ _ => rfl) ⟨rfl, rfl, fun _ _ => ⟨rfl, rfl, trivial⟩, rfl, fun _ _ => ⟨rfl, rfl, trivial⟩, rfl, fun _ _ => ⟨rfl, rfl, trivial⟩, rfl, fun _ _ => ⟨rfl, rfl, trivial⟩, rfl, fun _ _ => ⟨rfl, rfl, rfl, trivial⟩, rfl, rfl, rfl, fun _ _ => ⟨rfl, rfl, rfl, trivial⟩, rfl, fun _ _ => ⟨rfl, rfl, trivial⟩, a6, rfl, a6, by omega, rfl, rfl, trivial⟩⟩
theorem bk45 (c : Cli) (h : c.ok) (hx : c.hX 5 = true) : Must (bodK c 5 45) := by
  constructor
  unfold bodK
  rw [vk45]
  have h0 : 0 < c.mo.length := of_decide_eq_true hx
  have hc := h.hm
  have p2 : (256 : Nat) ^ 1 = 256 := rfl
  have a1 := vAt_pv (v := c.mo) (W := 1) (by decide) (by decide) (by omega) (by omega) (by omega)
  have a6 : (c.bX 5).length = 1 + c.mo.length := by
    show (pvB [] c.mo ((1 : Nat) : Int)).length = _
    rw [pvB_nil, List.length_append, puL_len]
  have e : c.bX 5 = pvB [] c.mo ((1 : Nat) : Int) := rfl
  rw [← e] at a1
  have b1 : beN (cutB (c.bX 5) 0 1) = c.mo.length := a1.c
  have b2 : cutB (c.bX 5) 1 c.mo.length = c.mo := a1.s
  generalize c.bX 5 = B at *
  rw [b1, b2]
  exact ⟨Nat.zero_add _, a1.l, by decide, by omega, rfl, rfl, allP_of 32 0 (fun _ _ _ => rfl) ⟨rfl, rfl, fun _ _ => ⟨rfl, rfl, trivial⟩, rfl, fun _ _ => ⟨rfl, rfl, trivial⟩, rfl, fun _ _ => ⟨rfl, rfl, trivial⟩, rfl, fun _ _ => ⟨rfl, rfl, trivial⟩, rfl, fun _ _ => ⟨rfl, rfl, rfl, trivial⟩, rfl, rfl, rfl, fun _ _ => ⟨rfl, rfl, rfl, trivial⟩, rfl, fun _ _ => ⟨rfl, rfl, trivial⟩, a6, rfl, a6, by omega, rfl, rfl, trivial⟩⟩
theorem bk41 (c : Cli) (h : c.ok) (hx : c.hX 6 = true) : Must (bodK c 6 41) := by
  constructor
  unfold bodK
  rw [vk41]
  intro x1 x2 x3 x4 x5 x6 x7 x8
  have h0 : 0 < c.n6 := of_decide_eq_true hx
  have h4 := h.h6.1
  have h7 := h.h7
  have lt := chT_le h.h6 c.n6 (Nat.le_refl _)
  have ld := chD_len h.h6 c.n6 (Nat.le_refl _)
  have lp : 1 ≤ (chT c.T c.A c.n6).length := by
    obtain ⟨_, _, _, a4, a5⟩ := id_at (fun j hj => ⟨(h.h6.2 j hj).1, (h.h6.2 j hj).2.1⟩) h0
    omega
  have p2 : (256 : Nat) ^ 2 = 65536 := rfl
  have e : c.bX 6 = puL (chT c.T c.A c.n6).length 2 ++ (chT c.T c.A c.n6 ++ (puL (chD c.D c.n6).length 2 ++ chD c.D c.n6)) := by
    show idB c.n6 c.T c.A c.D = _
    unfold idB
    rw [← pvB_app (pvB _ _ _), show (2 : Int) = ((2 : Nat) : Int) from rfl, pvB_nil, pvB_nil]
    simp only [List.append_assoc]
  have a6 : (c.bX 6).length = 2 + (chT c.T c.A c.n6).length + 2 + (chD c.D c.n6).length := by
    rw [e]; simp only [List.length_append, puL_len]; omega
  have a1 : vAt (c.bX 6) 0 (c.bX 6).length 2 (chT c.T c.A c.n6) := vAt_of (A := []) (R := puL (chD c.D c.n6).length 2 ++ chD c.D c.n6) (W := 2) (by rw [e]; rfl) rfl (Nat.zero_add _) (by omega) rfl (by decide) (by decide) (by omega) lp (by omega)
  have a2 : vAt (c.bX 6) (0 + Int.toNat 2 + (chT c.T c.A c.n6).length) ((c.bX 6).length - (0 + Int.toNat 2 + (chT c.T c.A c.n6).length)) 2 (chD c.D c.n7) := by
    have e2 : (2 : Int).toNat = 2 := rfl
    rw [h7, e2]
    exact vAt_of (A := puL (chT c.T c.A c.n6).length 2 ++ chT c.T c.A c.n6) (R := []) (W := 2) (by rw [e]; simp only [List.append_assoc, List.append_nil]) (by simp only [List.length_append, puL_len]) (by omega) (by omega) rfl (by decide) (by decide) (by omega) (by omega) (by omega)
  have hx1 : (c.bX 6).length = x1 := by show _ = 2 + (chT c.T c.A c.n6).length + 2 + (chD c.D c.n7).length; rw [h7]; exact a6
  have y2 : x2 := fun _ _ => ⟨rfl, rfl, rfl, trivial⟩
  have y3 : x3 := fun _ _ => ⟨rfl, rfl, rfl, trivial⟩
  have y4 : x4 := fun _ _ => ⟨rfl, rfl, trivial⟩
  have y5 : x5 := fun _ _ => ⟨rfl, rfl, trivial⟩
  have y6 : x6 := fun _ _ => ⟨rfl, rfl, trivial⟩
  have y7 : x7 := fun _ _ => ⟨rfl, rfl, trivial⟩
  have y8 : x8 := fun _ _ => ⟨rfl, rfl, trivial⟩
  clear_value x1 x2 x3 x4 x5 x6 x7 x8
  generalize c.bX 6 = B at *
  refine ⟨a1, ⟨fun j hj => ⟨(h.h6.2 j hj).1, (h.h6.2 j hj).2.1⟩, h4⟩, by omega, by omega, fun _ _ => ⟨rfl, Nat.le_refl _⟩, a2, ⟨fun j hj => (h.h6.2 j (by omega)).2.2, by omega⟩, by omega, by omega, fun _ _ => ⟨rfl, Nat.le_refl _⟩, ?_⟩
  refine brec (fun d => ?_) (fun d => ?_)
  · exfalso
    have : (c.n7 : Int) = (c.n6 : Int) := by omega
    rw [decide_eq_true this] at d
    cases d
  · exact ⟨rfl, allP_of 32 0 (fun _ _ _ => rfl) ⟨rfl, rfl, y7, rfl, y5, rfl, y4, rfl, y6, rfl, y2, rfl, rfl, rfl, y3, rfl, y8, hx1, rfl, hx1, by omega, rfl, rfl, trivial⟩⟩
end Go.Sym

set_option linter.unusedSimpArgs false
namespace Go.Sym
open Go.Proofs Go.Spec
set_option linter.unusedVariables false
def gg97 (c : Cli) (xs : List AV) (bs : List ABlk) : TL := match xs, bs with
  | [.ptr 0 0 0 0, .int .i64 k, .ptr 1 0 0 0], [⟨.cells cs, true, 0⟩, ⟨.cells [.slice 2 0 1 n .ox .unk, .int .i64 0], true, 0⟩, ⟨.bytes B, true, 1⟩] =>
    .ok { rTk (c.at (iX k + 1)) B with ob := [c.ok, iX k < 7 ∧ k = kX (iX k) ∧ c.hX (iX k) = true ∧ B = c.bX (iX k) ∧ n = B.length, cs = cliG (c.at (iX k))] }
  | _, _ => .no
theorem cg97 (c : Cli) : COK Tryd.prog gl0 90 (mkF (reSp 3 (gg97 c))) := by
  refine ctrE (fn := Tryd.f90) [] 3000 (by kernel_rfl) (by kernel_rfl) (okGa7 c) (by kernel_rfl) (fun args w => by kernel_rfl) fun xs bs r hs ho => ?_
  replace hs : (gg97 c xs bs).sel = some r := hs
  unfold gg97 at hs
  split at hs
  · rename_i k cs n B
    simp only [TL.sel, Option.some.injEq] at hs
    subst hs
    obtain ⟨h, ⟨hi, hk, hx, hB, hn⟩, hc⟩ := obs3 ho
    refine ⟨[], ?_⟩
    generalize iX k = i at *
    subst hk hB hn hc
    have hb : Must (bodK c i (kX i)) := by
      match i, hi, hx with
      | 0, _, hx => exact bk43 c h hx
      | 1, _, hx => exact bk10 c h hx
      | 2, _, hx => exact bk13 c h hx
      | 3, _, hx => exact bk51 c h hx
      | 4, _, hx => exact bk44 c h hx
      | 5, _, hx => exact bk45 c h hx
      | 6, _, hx => exact bk41 c h hx
    exact hb
  · simp [TL.sel] at hs
noncomputable def Ga8 (c : Cli) : Ctx := (Ga6 c).add 90 (mkF (reSp 3 (gg97 c)))
theorem okGa8 (c : Cli) : COKs Tryd.prog gl0 (Ga8 c) := (okGa6 c).add (cg97 c)
noncomputable def Ga9 (c : Cli) : Ctx := (Ga8 c).exe Tryd.prog gl0 [] 300 3 89 Tryd.f89
theorem okGa9 (c : Cli) : COKs Tryd.prog gl0 (Ga9 c) := (okGa8 c).exe [] 300 _ (by kernel_rfl) (by kernel_rfl) (by kernel_rfl) (fun args w => by kernel_rfl)
structure XS where
  i : Nat
  p : List Int → Bool
/-- The loop over extensions: those from i on are left; i is one that is there, or the end. -/
def lsX (c : Cli) (L : By) : LS := ⟨XS, fun s => [(0, .ptr 0 0 0 0), (1, .fn 89 [] [.ptr 2 0 0 0]), (4, .ptr 100 0 0 0), (5, .mp 102)],
  fun s => [(0, rdCn 1 L.length 0), (1, rdL L), (2, bxG (c.at s.i)), (100, rdCn 101 (c.ex.length - (c.tl s.i).length) (c.tl s.i).length), (101, rdL c.ex), (102, ⟨.mp 0 s.p (fun _ => .agg []), true, 0⟩)],
  1000, fun s => 7 - s.i, fun s => s.i ≤ 7 ∧ (s.i < 7 → c.hX s.i = true) ∧ (∀ j, s.i ≤ j → j < 7 → s.p [kX j] = false), fun _ => []⟩
def rEx (c : Cli) (L : By) : RL := ⟨[], .tup [], [some (some (rdCn 1 L.length 0)), some (some (rdL L)), some (some (bxG c))], []⟩
end Go.Sym

namespace Go.Sym
open Go.Proofs Go.Spec
set_option linter.unusedVariables false
set_option maxRecDepth 100000 in
theorem vx95 (c : Cli) (L : By) (x n : Nat) : bodyP Tryd.prog (Ga9 c) gl0 [] [(3, lsX c L)] 3000 Tryd.f88 3 [.ptr 0 0 0 0, .fn 89 [] [.ptr 2 0 0 0]] [rdCn 1 x n, rdL L, bxG (c.at 0)] (retQ Tryd.prog Tryd.f88 3 (rEx c L)) = (
x + n = List.length L ∧
 List.length L < 1099511627776 ∧
 ((1 : Int) ≤ (2 : Int) ∧
 (2 : Int) ≤ (4 : Int)) ∧
 (x + 2 + beN (cutB L x 2) ≤ List.length L ∧
 (0 : Int) ≤ (↑(beN (cutB L x 2)) : Int) ∧
 (↑(beN (cutB L x 2)) : Int) ≤ (65535 : Int)) ∧
 beN (cutB L x 2) = List.length (cutB L (x + 2) (beN (cutB L x 2))) ∧
 List.length (cutB L (x + 2) (beN (cutB L x 2))) < 1099511627776 ∧
 (∃ (x_1 : XS), (x_1.1 ≤ 7 ∧
 (x_1.1 < 7 → c.hX x_1.1 = Bool.true) ∧
 ∀ (j : Nat), x_1.1 ≤ j → j < 7 → x_1.2 [kX j] = Bool.false) ∧
 0 = 0 ∧
 0 = 0 ∧
 0 = 0 ∧
 List.length L = x + 2 + beN (cutB L x 2) ∧
 0 = 0 ∧
 List.length L = x + 2 + beN (cutB L x 2) ∧
 0 = List.length L - (x + 2 + beN (cutB L x 2)) ∧
 (0 : Int) = (0 : Int) ∧
 L = L ∧
 allP (fun (i : Nat) => (c.at x_1.1).R i = (c.at 0).R i) 0 32 ((c.at x_1.1).s = (c.at 0).s ∧
 (c.at x_1.1).n1 = (c.at 0).n1 ∧
 (∀ (y : Nat), y < (c.at x_1.1).n1 → datas Bool.true [AV.int IntKind.i64 ((c.at x_1.1).L1 y)] = Bool.true ∧
 (c.at x_1.1).L1 y = (c.at 0).L1 y ∧
 True) ∧
 (c.at x_1.1).n2 = (c.at 0).n2 ∧
 (∀ (y : Nat), y < (c.at x_1.1).n2 → datas Bool.true [AV.int IntKind.i64 ((c.at x_1.1).L2 y)] = Bool.true ∧
 (c.at x_1.1).L2 y = (c.at 0).L2 y ∧
 True) ∧
 (c.at x_1.1).n3 = (c.at 0).n3 ∧
 (∀ (y : Nat), y < (c.at x_1.1).n3 → datas Bool.true [AV.int IntKind.i64 ((c.at x_1.1).L3 y)] = Bool.true ∧
 (c.at x_1.1).L3 y = (c.at 0).L3 y ∧
 True) ∧
 (c.at x_1.1).n4 = (c.at 0).n4 ∧
 (∀ (y : Nat), y < (c.at x_1.1).n4 → datas Bool.true [AV.int IntKind.i64 ((c.at x_1.1).L4 y)] = Bool.true ∧
 (c.at x_1.1).L4 y = (c.at 0).L4 y ∧
 True) ∧
 (c.at x_1.1).n5 = (c.at 0).n5 ∧
 (∀ (y : Nat), y < (c.at x_1.1).n5 → datas Bool.true [AV.int IntKind.i64 ((c.at x_1.1).G y), AV.rb Bool.true ((c.at x_1.1).K y) NL.unk] = Bool.true ∧
 (c.at x_1.1).G y = (c.at 0).G y ∧
 (c.at x_1.1).K y = (c.at 0).K y ∧
 True) ∧
 (c.at x_1.1).co = (c.at 0).co ∧
 (c.at x_1.1).mo = (c.at 0).mo ∧
 (c.at x_1.1).n6 = (c.at 0).n6 ∧
 (∀ (y : Nat), y < (c.at x_1.1).n6 → datas Bool.true [AV.rb Bool.true ((c.at x_1.1).T y) NL.unk, AV.int IntKind.i64 ((c.at x_1.1).A y)] = Bool.true ∧
 (c.at x_1.1).T y = (c.at 0).T y ∧
 (c.at x_1.1).A y = (c.at 0).A y ∧
 True) ∧
 (c.at x_1.1).n7 = (c.at 0).n7 ∧
 (∀ (y : Nat), y < (c.at x_1.1).n7 → datas Bool.true [AV.rb Bool.true ((c.at x_1.1).D y) NL.unk] = Bool.true ∧
 (c.at x_1.1).D y = (c.at 0).D y ∧
 True) ∧
 List.length c.ex - List.length (c.tl x_1.1) = 0 ∧
 0 = 0 ∧
 List.length c.ex - List.length (c.tl x_1.1) = 0 ∧
 List.length (c.tl x_1.1) = List.length (cutB L (x + 2) (beN (cutB L x 2))) ∧
 (0 : Int) = (0 : Int) ∧
 c.ex = cutB L (x + 2) (beN (cutB L x 2)) ∧
 (∀ (k : List Int), Bool.false = x_1.2 k) ∧
 (∀ (k : List Int), x_1.2 k = Bool.true → True) ∧
 True)) ∧
 ∀ (x : XS), let x1 := (↑(beN (cutB c.ex (List.length c.ex - List.length (c.tl x.1)) 2)) : Int); let x2 := List.length c.ex - List.length (c.tl x.1) + 2; let x3 := rgA (fun (i : Nat) => AV.u8 ((c.at x.1).R i)) 0 32 [AV.rb Bool.true (c.at x.1).s NL.unk, AV.ros Bool.true 1 (c.at x.1).n1 (fun (j : Nat) => [AV.int IntKind.i64 ((c.at x.1).L1 j)]) NL.unk, AV.ros Bool.true 1 (c.at x.1).n2 (fun (j : Nat) => [AV.int IntKind.i64 ((c.at x.1).L2 j)]) NL.unk, AV.ros Bool.true 1 (c.at x.1).n3 (fun (j : Nat) => [AV.int IntKind.i64 ((c.at x.1).L3 j)]) NL.unk, AV.ros Bool.true 1 (c.at x.1).n4 (fun (j : Nat) => [AV.int IntKind.i64 ((c.at x.1).L4 j)]) NL.unk, AV.ros Bool.true 2 (c.at x.1).n5 (fun (j : Nat) => [AV.int IntKind.i64 ((c.at x.1).G j), AV.rb Bool.true ((c.at x.1).K j) NL.unk]) NL.unk, AV.rb Bool.true (c.at x.1).co NL.unk, AV.rb Bool.true (c.at x.1).mo NL.unk, AV.ros Bool.true 2 (c.at x.1).n6 (fun (j : Nat) => [AV.rb Bool.true ((c.at x.1).T j) NL.unk, AV.int IntKind.i64 ((c.at x.1).A j)]) NL.unk, AV.ros Bool.true 1 (c.at x.1).n7 (fun (j : Nat) => [AV.rb Bool.true ((c.at x.1).D j) NL.unk]) NL.unk] = cliG (c.at (iX x1)); let x4 := cutB c.ex (x2 + 2) (beN (cutB c.ex x2 2)); let x5 := x2 + 2 + beN (cutB c.ex x2 2); (x.1 ≤ 7 ∧
 (x.1 < 7 → c.hX x.1 = Bool.true) ∧
 ∀ (j : Nat), x.1 ≤ j → j < 7 → x.2 [kX j] = Bool.false) → @Bool.rec (fun _ => Prop) (List.length L = List.length L ∧
 0 = 0 ∧
 List.length L = List.length L ∧
 0 = 0 ∧
 (0 : Int) = (0 : Int) ∧
 L = L ∧
 allP (fun (i : Nat) => c.R i = (c.at x.1).R i) 0 32 (c.s = (c.at x.1).s ∧
 c.n1 = (c.at x.1).n1 ∧
 (∀ (y : Nat), y < c.n1 → datas Bool.true [AV.int IntKind.i64 (c.L1 y)] = Bool.true ∧
 c.L1 y = (c.at x.1).L1 y ∧
 True) ∧
 c.n2 = (c.at x.1).n2 ∧
 (∀ (y : Nat), y < c.n2 → datas Bool.true [AV.int IntKind.i64 (c.L2 y)] = Bool.true ∧
 c.L2 y = (c.at x.1).L2 y ∧
 True) ∧
 c.n3 = (c.at x.1).n3 ∧
 (∀ (y : Nat), y < c.n3 → datas Bool.true [AV.int IntKind.i64 (c.L3 y)] = Bool.true ∧
 c.L3 y = (c.at x.1).L3 y ∧
 True) ∧
 c.n4 = (c.at x.1).n4 ∧
 (∀ (y : Nat), y < c.n4 → datas Bool.true [AV.int IntKind.i64 (c.L4 y)] = Bool.true ∧
 c.L4 y = (c.at x.1).L4 y ∧
 True) ∧
 c.n5 = (c.at x.1).n5 ∧
 (∀ (y : Nat), y < c.n5 → datas Bool.true [AV.int IntKind.i64 (c.G y), AV.rb Bool.true (c.K y) NL.unk] = Bool.true ∧
 c.G y = (c.at x.1).G y ∧
 c.K y = (c.at x.1).K y ∧
 True) ∧
 c.co = (c.at x.1).co ∧
 c.mo = (c.at x.1).mo ∧
 c.n6 = (c.at x.1).n6 ∧
 (∀ (y : Nat), y < c.n6 → datas Bool.true [AV.rb Bool.true (c.T y) NL.unk, AV.int IntKind.i64 (c.A y)] = Bool.true ∧
 c.T y = (c.at x.1).T y ∧
 c.A y = (c.at x.1).A y ∧
 True) ∧
 c.n7 = (c.at x.1).n7 ∧
 (∀ (y : Nat), y < c.n7 → datas Bool.true [AV.rb Bool.true (c.D y) NL.unk] = Bool.true ∧
 c.D y = (c.at x.1).D y ∧
 True) ∧
 True)) (List.length c.ex - List.length (c.tl x.1) + List.length (c.tl x.1) = List.length c.ex ∧
 List.length c.ex < 1099511627776 ∧
 ((1 : Int) ≤ (2 : Int) ∧
 (2 : Int) ≤ (4 : Int)) ∧
 x2 ≤ List.length c.ex ∧
 x2 + (List.length c.ex - x2) = List.length c.ex ∧
 List.length c.ex < 1099511627776 ∧
 ((1 : Int) ≤ (2 : Int) ∧
 (2 : Int) ≤ (4 : Int)) ∧
 (x5 ≤ List.length c.ex ∧
 (0 : Int) ≤ (↑(beN (cutB c.ex x2 2)) : Int) ∧
 (↑(beN (cutB c.ex x2 2)) : Int) ≤ (65535 : Int)) ∧
 beN (cutB c.ex x2 2) = List.length x4 ∧
 List.length x4 < 1099511627776 ∧
 @Bool.rec (fun _ => Prop) (c.ok ∧
 (iX x1 < 7 ∧
 x1 = kX (iX x1) ∧
 c.hX (iX x1) = Bool.true ∧
 x4 = c.bX (iX x1) ∧
 List.length x4 = List.length x4) ∧
 x3 ∧
 ∃ (y : XS), 7 - y.1 < 7 - x.1 ∧
 (y.1 ≤ 7 ∧
 (y.1 < 7 → c.hX y.1 = Bool.true) ∧
 ∀ (j : Nat), y.1 ≤ j → j < 7 → y.2 [kX j] = Bool.false) ∧
 0 = 0 ∧
 0 = 0 ∧
 0 = 0 ∧
 List.length L = List.length L ∧
 0 = 0 ∧
 List.length L = List.length L ∧
 0 = 0 ∧
 (0 : Int) = (0 : Int) ∧
 L = L ∧
 allP (fun (i : Nat) => (c.at y.1).R i = (c.at (iX x1 + 1)).R i) 0 32 ((c.at y.1).s = (c.at (iX x1 + 1)).s ∧
 (c.at y.1).n1 = (c.at (iX x1 + 1)).n1 ∧
 (∀ (y_1 : Nat), y_1 < (c.at y.1).n1 → datas Bool.true [AV.int IntKind.i64 ((c.at y.1).L1 y_1)] = Bool.true ∧
 (c.at y.1).L1 y_1 = (c.at (iX x1 + 1)).L1 y_1 ∧
 True) ∧
 (c.at y.1).n2 = (c.at (iX x1 + 1)).n2 ∧
 (∀ (y_1 : Nat), y_1 < (c.at y.1).n2 → datas Bool.true [AV.int IntKind.i64 ((c.at y.1).L2 y_1)] = Bool.true ∧
 (c.at y.1).L2 y_1 = (c.at (iX x1 + 1)).L2 y_1 ∧
 True) ∧
 (c.at y.1).n3 = (c.at (iX x1 + 1)).n3 ∧
 (∀ (y_1 : Nat), y_1 < (c.at y.1).n3 → datas Bool.true [AV.int IntKind.i64 ((c.at y.1).L3 y_1)] = Bool.true ∧
 (c.at y.1).L3 y_1 = (c.at (iX x1 + 1)).L3 y_1 ∧
 True) ∧
 (c.at y.1).n4 = (c.at (iX x1 + 1)).n4 ∧
 (∀ (y_1 : Nat), y_1 < (c.at y.1).n4 → datas Bool.true [AV.int IntKind.i64 ((c.at y.1).L4 y_1)] = Bool.true ∧
 (c.at y.1).L4 y_1 = (c.at (iX x1 + 1)).L4 y_1 ∧
 True) ∧
 (c.at y.1).n5 = (c.at (iX x1 + 1)).n5 ∧
 (∀ (y_1 : Nat), y_1 < (c.at y.1).n5 → datas Bool.true [AV.int IntKind.i64 ((c.at y.1).G y_1), AV.rb Bool.true ((c.at y.1).K y_1) NL.unk] = Bool.true ∧
 (c.at y.1).G y_1 = (c.at (iX x1 + 1)).G y_1 ∧
 (c.at y.1).K y_1 = (c.at (iX x1 + 1)).K y_1 ∧
 True) ∧
 (c.at y.1).co = (c.at (iX x1 + 1)).co ∧
 (c.at y.1).mo = (c.at (iX x1 + 1)).mo ∧
 (c.at y.1).n6 = (c.at (iX x1 + 1)).n6 ∧
 (∀ (y_1 : Nat), y_1 < (c.at y.1).n6 → datas Bool.true [AV.rb Bool.true ((c.at y.1).T y_1) NL.unk, AV.int IntKind.i64 ((c.at y.1).A y_1)] = Bool.true ∧
 (c.at y.1).T y_1 = (c.at (iX x1 + 1)).T y_1 ∧
 (c.at y.1).A y_1 = (c.at (iX x1 + 1)).A y_1 ∧
 True) ∧
 (c.at y.1).n7 = (c.at (iX x1 + 1)).n7 ∧
 (∀ (y_1 : Nat), y_1 < (c.at y.1).n7 → datas Bool.true [AV.rb Bool.true ((c.at y.1).D y_1) NL.unk] = Bool.true ∧
 (c.at y.1).D y_1 = (c.at (iX x1 + 1)).D y_1 ∧
 True) ∧
 List.length c.ex - List.length (c.tl y.1) = x5 ∧
 0 = 0 ∧
 List.length c.ex - List.length (c.tl y.1) = x5 ∧
 List.length (c.tl y.1) = List.length c.ex - x5 ∧
 (0 : Int) = (0 : Int) ∧
 c.ex = c.ex ∧
 (∀ (k : List Int), (k == [x1] || x.2 k) = y.2 k) ∧
 (∀ (k : List Int), y.2 k = Bool.true → True) ∧
 True)) (c.ok ∧
 (iX x1 < 7 ∧
 x1 = kX (iX x1) ∧
 c.hX (iX x1) = Bool.true ∧
 x4 = c.bX (iX x1) ∧
 List.length x4 = List.length x4) ∧
 x3 ∧
 ∃ (y : XS), 7 - y.1 < 7 - x.1 ∧
 (y.1 ≤ 7 ∧
 (y.1 < 7 → c.hX y.1 = Bool.true) ∧
 ∀ (j : Nat), y.1 ≤ j → j < 7 → y.2 [kX j] = Bool.false) ∧
 0 = 0 ∧
 0 = 0 ∧
 0 = 0 ∧
 List.length L = List.length L ∧
 0 = 0 ∧
 List.length L = List.length L ∧
 0 = 0 ∧
 (0 : Int) = (0 : Int) ∧
 L = L ∧
 allP (fun (i : Nat) => (c.at y.1).R i = (c.at (iX x1 + 1)).R i) 0 32 ((c.at y.1).s = (c.at (iX x1 + 1)).s ∧
 (c.at y.1).n1 = (c.at (iX x1 + 1)).n1 ∧
 (∀ (y_1 : Nat), y_1 < (c.at y.1).n1 → datas Bool.true [AV.int IntKind.i64 ((c.at y.1).L1 y_1)] = Bool.true ∧
 (c.at y.1).L1 y_1 = (c.at (iX x1 + 1)).L1 y_1 ∧
 True) ∧
 (c.at y.1).n2 = (c.at (iX x1 + 1)).n2 ∧
 (∀ (y_1 : Nat), y_1 < (c.at y.1).n2 → datas Bool.true [AV.int IntKind.i64 ((c.at y.1).L2 y_1)] = Bool.true ∧
 (c.at y.1).L2 y_1 = (c.at (iX x1 + 1)).L2 y_1 ∧
 True) ∧
 (c.at y.1).n3 = (c.at (iX x1 + 1)).n3 ∧
 (∀ (y_1 : Nat), y_1 < (c.at y.1).n3 → datas Bool.true [AV.int IntKind.i64 ((c.at y.1).L3 y_1)] = Bool.true ∧
 (c.at y.1).L3 y_1 = (c.at (iX x1 + 1)).L3 y_1 ∧
 True) ∧
 (c.at y.1).n4 = (c.at (iX x1 + 1)).n4 ∧
 (∀ (y_1 : Nat), y_1 < (c.at y.1).n4 → datas Bool.true [AV.int IntKind.i64 ((c.at y.1).L4 y_1)] = Bool.true ∧
 (c.at y.1).L4 y_1 = (c.at (iX x1 + 1)).L4 y_1 ∧
 True) ∧
 (c.at y.1).n5 = (c.at (iX x1 + 1)).n5 ∧
 (∀ (y_1 : Nat), y_1 < (c.at y.1).n5 → datas Bool.true [AV.int IntKind.i64 ((c.at y.1).G y_1), AV.rb Bool.true ((c.at y.1).K y_1) NL.unk] = Bool.true ∧
 (c.at y.1).G y_1 = (c.at (iX x1 + 1)).G y_1 ∧
 (c.at y.1).K y_1 = (c.at (iX x1 + 1)).K y_1 ∧
 True) ∧
 (c.at y.1).co = (c.at (iX x1 + 1)).co ∧
 (c.at y.1).mo = (c.at (iX x1 + 1)).mo ∧
 (c.at y.1).n6 = (c.at (iX x1 + 1)).n6 ∧
 (∀ (y_1 : Nat), y_1 < (c.at y.1).n6 → datas Bool.true [AV.rb Bool.true ((c.at y.1).T y_1) NL.unk, AV.int IntKind.i64 ((c.at y.1).A y_1)] = Bool.true ∧
 (c.at y.1).T y_1 = (c.at (iX x1 + 1)).T y_1 ∧
 (c.at y.1).A y_1 = (c.at (iX x1 + 1)).A y_1 ∧
 True) ∧
 (c.at y.1).n7 = (c.at (iX x1 + 1)).n7 ∧
 (∀ (y_1 : Nat), y_1 < (c.at y.1).n7 → datas Bool.true [AV.rb Bool.true ((c.at y.1).D y_1) NL.unk] = Bool.true ∧
 (c.at y.1).D y_1 = (c.at (iX x1 + 1)).D y_1 ∧
 True) ∧
 List.length c.ex - List.length (c.tl y.1) = x5 ∧
 0 = 0 ∧
 List.length c.ex - List.length (c.tl y.1) = x5 ∧
 List.length (c.tl y.1) = List.length c.ex - x5 ∧
 (0 : Int) = Int.ofNat 3 ∧
 c.ex = c.ex ∧
 (∀ (k : List Int), (k == [x1] || x.2 k) = y.2 k) ∧
 (∀ (k : List Int), y.2 k = Bool.true → True) ∧
 True)) (x.2 [x1])) (decide ((0 : Int) < lfV (List.length (c.tl x.1)) (0 : Int))) : Prop) := by kernel_rfl
end Go.Sym

set_option linter.unusedSimpArgs false
namespace Go.Spec
open Go.Sym
theorem iX_kX {i : Nat} (h : i < 7) : iX (kX i) = i := by
  match i, h with
  | 0, _ => rfl
  | 1, _ => rfl
  | 2, _ => rfl
  | 3, _ => rfl
  | 4, _ => rfl
  | 5, _ => rfl
  | 6, _ => rfl
theorem Cli.tl_suf (c : Cli) : ∀ i, i ≤ 7 → ∃ A, c.ex = A ++ c.tl i
  | 0, _ => ⟨[], by rw [c.ex_tl]; rfl⟩
  | i + 1, h => by
    obtain ⟨A, e⟩ := c.tl_suf i (by omega)
    cases hx : c.hX i
    · exact ⟨A, by rw [e, c.tl_no hx (by omega)]⟩
    · exact ⟨A ++ exB [] (kX i) (c.bX i), by rw [e, c.tl_yes hx, List.append_assoc]⟩
end Go.Spec
namespace Go.Sym
open Go.Proofs Go.Spec
set_option linter.unusedVariables false
def sameC (a b : Cli) (P : Prop) : Prop := allP (fun i => a.R i = b.R i) 0 32 (a.s = b.s ∧ a.n1 = b.n1 ∧ (∀ y, y < a.n1 → datas true [AV.int IntKind.i64 (a.L1 y)] = true ∧ a.L1 y = b.L1 y ∧ True) ∧ a.n2 = b.n2 ∧ (∀ y, y < a.n2 → datas true [AV.int IntKind.i64 (a.L2 y)] = true ∧ a.L2 y = b.L2 y ∧ True) ∧ a.n3 = b.n3 ∧ (∀ y, y < a.n3 → datas true [AV.int IntKind.i64 (a.L3 y)] = true ∧ a.L3 y = b.L3 y ∧ True) ∧ a.n4 = b.n4 ∧ (∀ y, y < a.n4 → datas true [AV.int IntKind.i64 (a.L4 y)] = true ∧ a.L4 y = b.L4 y ∧ True) ∧ a.n5 = b.n5 ∧ (∀ y, y < a.n5 → datas true [AV.int IntKind.i64 (a.G y), AV.rb true (a.K y) NL.unk] = true ∧ a.G y = b.G y ∧ a.K y = b.K y ∧ True) ∧ a.co = b.co ∧ a.mo = b.mo ∧ a.n6 = b.n6 ∧ (∀ y, y < a.n6 → datas true [AV.rb true (a.T y) NL.unk, AV.int IntKind.i64 (a.A y)] = true ∧ a.T y = b.T y ∧ a.A y = b.A y ∧ True) ∧ a.n7 = b.n7 ∧ (∀ y, y < a.n7 → datas true [AV.rb true (a.D y) NL.unk] = true ∧ a.D y = b.D y ∧ True) ∧ P)
theorem sameC_of {a b : Cli} {P : Prop} (e : a = b) (h : P) : sameC a b P := by
  subst e
  exact allP_of 32 0 (fun _ _ _ => rfl) ⟨rfl, rfl, fun _ _ => ⟨rfl, rfl, trivial⟩, rfl, fun _ _ => ⟨rfl, rfl, trivial⟩, rfl, fun _ _ => ⟨rfl, rfl, trivial⟩, rfl, fun _ _ => ⟨rfl, rfl, trivial⟩, rfl, fun _ _ => ⟨rfl, rfl, rfl, trivial⟩, rfl, rfl, rfl, fun _ _ => ⟨rfl, rfl, rfl, trivial⟩, rfl, fun _ _ => ⟨rfl, rfl, trivial⟩, h⟩
structure exAt (c : Cli) (L : By) (x n : Nat) : Prop where
  h : c.ok
  e : x + n = L.length
  l : L.length < 1099511627776
  c0 : beN (cutB L x 2) = c.ex.length
  s : cutB L (x + 2) c.ex.length = c.ex
  b : x + 2 + c.ex.length = L.length
  x6 : c.ex.length ≤ 65535
theorem bx95 (c : Cli) (L : By) (x n : Nat) (h : exAt c L x n) : Must (bodyP Tryd.prog (Ga9 c) gl0 [] [(3, lsX c L)] 3000 Tryd.f88 3 [.ptr 0 0 0 0, .fn 89 [] [.ptr 2 0 0 0]] [rdCn 1 x n, rdL L, bxG (c.at 0)] (retQ Tryd.prog Tryd.f88 3 (rEx c L))) := by
  constructor
  rw [vx95, h.c0, h.s]
  have hb := h.b
  have hl := h.l
  have x6 := h.x6
  obtain ⟨n1, n2, n3, n4, n5⟩ := c.nx_spec (i := 0) (by omega)
  refine ⟨h.e, hl, by decide, ⟨by omega, by omega, by omega⟩, rfl, by omega, ⟨⟨c.nx 0, fun _ => false⟩, ⟨n2, n3, fun _ _ _ => rfl⟩, rfl, rfl, rfl, hb.symm, rfl, hb.symm, by omega, rfl, rfl, ?_⟩, fun s => ?_⟩
  · have e0 : c.at (c.nx 0) = c.at 0 := (c.at_skip h.h.h7 n1 n4).symm
    have e1 : c.tl (c.nx 0) = c.ex := by rw [← n5, c.ex_tl]
    refine sameC_of e0 ?_
    show c.ex.length - (c.tl (c.nx 0)).length = 0 ∧ 0 = 0 ∧ c.ex.length - (c.tl (c.nx 0)).length = 0 ∧ (c.tl (c.nx 0)).length = c.ex.length ∧ (0 : Int) = 0 ∧ c.ex = c.ex ∧ _
    rw [e1]
    exact ⟨by omega, rfl, by omega, rfl, rfl, rfl, fun _ => rfl, fun _ _ => trivial, trivial⟩
  obtain ⟨i, p⟩ := s
  intro x1 x2 x3 x4 x5
  rintro ⟨hi, hx, hp⟩
  have hi : i ≤ 7 := hi
  have hx : i < 7 → c.hX i = true := hx
  have hp : ∀ j, i ≤ j → j < 7 → p [kX j] = false := hp
  obtain ⟨A, hA⟩ := c.tl_suf i hi
  have lA : c.ex.length = A.length + (c.tl i).length := by
    have := congrArg List.length hA
    rwa [List.length_append] at this
  refine brec (fun d => ?_) (fun d => ?_)
  · have d : (0 : Int) < ((c.tl i).length : Int) := of_decide_eq_true d
    have hi7 : i < 7 := by
      rcases Nat.lt_or_ge i 7 with h1 | h1
      · exact h1
      · obtain rfl : i = 7 := by omega
        rw [c.tl_end] at d
        exact absurd d (by decide)
    have hxi := hx hi7
    have ht : c.tl i = puL (kX i).toNat 2 ++ (puL (c.bX i).length 2 ++ (c.bX i ++ c.tl (i + 1))) := by rw [c.tl_yes hxi, exB_parts]
    have lt : (c.tl i).length = 4 + (c.bX i).length + (c.tl (i + 1)).length := by rw [ht]; simp only [List.length_append, puL_len]; omega
    have hk := kX_le i
    have p2 : (256 : Nat) ^ 2 = 65536 := rfl
    have hx0 : c.ex.length - (c.tl i).length = A.length := by omega
    have q1 : x1 = kX i := by
      show ((beN (cutB c.ex (c.ex.length - (c.tl i).length) 2) : Nat) : Int) = kX i
      rw [hx0, hA, ht, beN_at rfl (by omega)]
      omega
    have q2 : x2 = A.length + 2 := by show c.ex.length - (c.tl i).length + 2 = _; rw [hx0]
    have q3 : beN (cutB c.ex x2 2) = (c.bX i).length := by
      have e : c.ex = (A ++ puL (kX i).toNat 2) ++ (puL (c.bX i).length 2 ++ (c.bX i ++ c.tl (i + 1))) := by rw [hA, ht]; simp only [List.append_assoc]
      rw [q2, e, beN_at (by rw [List.length_append, puL_len]) (by omega)]
    have q4 : x4 = c.bX i := by
      show cutB c.ex (x2 + 2) (beN (cutB c.ex x2 2)) = _
      rw [q3]
      have e : c.ex = (A ++ puL (kX i).toNat 2 ++ puL (c.bX i).length 2) ++ (c.bX i ++ c.tl (i + 1)) := by rw [hA, ht]; simp only [List.append_assoc]
      rw [e, cutB_at (by rw [q2]; simp only [List.length_append, puL_len]) rfl]
    have q5 : x5 = A.length + 4 + (c.bX i).length := by show x2 + 2 + beN (cutB c.ex x2 2) = _; rw [q3, q2]
    have q6 : iX x1 = i := by rw [q1, iX_kX hi7]
    have q3' : x3 := by
      show _ = cliG (c.at (iX x1))
      rw [q6]
      rfl
    obtain ⟨m1, m2, m3, m4, m5⟩ := c.nx_spec (i := i + 1) (by omega)
    clear_value x1 x2 x3 x4 x5
    subst q1
    rw [q3, q6, q4]
    refine ⟨by show c.ex.length - (c.tl i).length + (c.tl i).length = _; omega, by omega, by decide, by omega, by omega, by omega, by decide, ⟨by omega, by omega, by omega⟩, rfl, by omega, ?_⟩
    refine brec (fun d2 => ?_) (fun d2 => ?_)
    · have d2 : p [kX i] = true := d2
      rw [hp i (Nat.le_refl _) hi7] at d2
      cases d2
    · refine ⟨h.h, ⟨hi7, rfl, hxi, rfl, rfl⟩, q3', ⟨c.nx (i + 1), fun k => k == [kX i] || p k⟩, ?_, ⟨m2, m3, fun j h1 h2 => ?_⟩, rfl, rfl, rfl, rfl, rfl, rfl, rfl, rfl, rfl, ?_⟩
      · show 7 - c.nx (i + 1) < 7 - i
        omega
      · have h1 : c.nx (i + 1) ≤ j := h1
        show (([kX j] : List Int) == [kX i] || p [kX j]) = false
        rw [hp j (by omega) h2, Bool.or_false]
        have : ¬ kX j = kX i := fun e => by
          have := congrArg iX e
          rw [iX_kX h2, iX_kX hi7] at this
          omega
        simp [this]
      · refine sameC_of (c.at_skip h.h.h7 m1 m4).symm ?_
        show c.ex.length - (c.tl (c.nx (i + 1))).length = x5 ∧ 0 = 0 ∧ c.ex.length - (c.tl (c.nx (i + 1))).length = x5 ∧ (c.tl (c.nx (i + 1))).length = c.ex.length - x5 ∧ _
        rw [← m5]
        exact ⟨by omega, rfl, by omega, by omega, rfl, rfl, fun _ => rfl, fun _ _ => trivial, trivial⟩
  · have d : ¬ (0 : Int) < ((c.tl i).length : Int) := of_decide_eq_false d
    have hi7 : i = 7 := by
      rcases Nat.lt_or_ge i 7 with h1 | h1
      · exfalso
        have ht : c.tl i = puL (kX i).toNat 2 ++ (puL (c.bX i).length 2 ++ (c.bX i ++ c.tl (i + 1))) := by rw [c.tl_yes (hx h1), exB_parts]
        have : (c.tl i).length = 4 + (c.bX i).length + (c.tl (i + 1)).length := by rw [ht]; simp only [List.length_append, puL_len]; omega
        omega
      · omega
    subst hi7
    exact ⟨rfl, rfl, rfl, rfl, rfl, rfl, sameC_of (c.at_all).symm trivial⟩
end Go.Sym

set_option linter.unusedSimpArgs false
namespace Go.Sym
open Go.Proofs Go.Spec
set_option linter.unusedVariables false
def gg95 (c : Cli) (xs : List AV) (bs : List ABlk) : TL := match xs, bs with
  | [.ptr 0 0 0 0, .fn 89 [] [.ptr 2 0 0 0]], [⟨.cells [.slice 1 x 1 n .ox .unk, .int .i64 0], true, 0⟩, ⟨.bytes L, true, 1⟩, ⟨.cells cs, true, 0⟩] =>
    .ok { rEx c L with ob := [exAt c L x n, cs = cliG (c.at 0)] }
  | _, _ => .no
theorem cg95 (c : Cli) : COK Tryd.prog gl0 88 (mkF (reSp 2 (gg95 c))) := by
  refine ctrE (fn := Tryd.f88) [] 3000 (by kernel_rfl) (by kernel_rfl) (okGa9 c) (by kernel_rfl) (fun args w => by kernel_rfl) fun xs bs r hs ho => ?_
  replace hs : (gg95 c xs bs).sel = some r := hs
  unfold gg95 at hs
  split at hs
  · simp only [TL.sel, Option.some.injEq] at hs
    subst hs
    obtain ⟨h, h2⟩ := obsT_cons.1 ho
    have h2 := obsT_one.1 h2
    subst h2
    exact ⟨_, bx95 c _ _ _ h⟩
  · simp [TL.sel] at hs
end Go.Sym

namespace Go.Sym
open Go.Proofs Go.Spec
set_option linter.unusedVariables false
set_option maxRecDepth 100000 in
theorem vh89 (L S : By) (R : Nat → BitVec 8) (n k y : Nat) : bodyP Tryd.prog Ga5 gl0 [] [] 3000 Tryd.f83 2 [.ptr 0 0 0 0] [rdC 0 n 0, rdL L] (retQ Tryd.prog Tryd.f83 2 ⟨[], .tup [aggB 32 R, .slice 2 0 1 k .ow .unk], [some (some (rdC y (L.length - y) 0)), some (some (rdL L))], [⟨.bytes S, true, 1⟩]⟩) = (
0 + n = List.length L ∧ List.length L < 1099511627776 ∧ ((1 : Int) ≤ (2 : Int) ∧ (2 : Int) ≤ (4 : Int)) ∧ 2 ≤ List.length L ∧ @Bool.rec (fun _ => Prop) (2 + (List.length L - 2) = List.length L ∧ List.length L < 1099511627776 ∧ (0 : Int) ≤ (32 : Int) ∧ 34 ≤ List.length L ∧ 32 = List.length (cutB L 2 32) ∧ 34 + (List.length L - 34) = List.length L ∧ List.length L < 1099511627776 ∧ ((1 : Int) ≤ (1 : Int) ∧ (1 : Int) ≤ (4 : Int)) ∧ (35 + beN (cutB L 34 1) ≤ List.length L ∧ (0 : Int) ≤ (↑(beN (cutB L 34 1)) : Int) ∧ (↑(beN (cutB L 34 1)) : Int) ≤ (32 : Int)) ∧ allP (fun (i : Nat) => R i = if i < List.length (cutB L 2 32) then List.getD (cutB L 2 32) i (0 : BitVec 8) else BitVec.ofNat 8 0) 0 32 (0 = 0 ∧ 0 = 0 ∧ 0 = 0 ∧ k = beN (cutB L 34 1) ∧ y = 35 + beN (cutB L 34 1) ∧ 0 = 0 ∧ y = 35 + beN (cutB L 34 1) ∧ List.length L - y = List.length L - (35 + beN (cutB L 34 1)) ∧ (0 : Int) = (0 : Int) ∧ L = L ∧ S = cutB L 35 (beN (cutB L 34 1)) ∧ True)) False !decide ((↑(beN (cutB L 0 2)) : Int) = (771 : Int)) : Prop) := by kernel_rfl
end Go.Sym

set_option linter.unusedSimpArgs false
namespace Go.Spec
open Go.Sym
theorem Cli.by_eq (c : Cli) : c.by = puL 771 2 ++ (rg 32 c.R ++ (puL c.s.length 1 ++ (c.s ++ (puL (chN c.L1 c.n1).length 2 ++ (chN c.L1 c.n1 ++ (puL 1 1 ++ ([0#8] ++ (puL c.ex.length 2 ++ (c.ex ++ []))))))))) := by
  unfold Cli.by Cli.hd hdB pvB puB
  simp only [List.nil_append, List.append_assoc, List.append_nil, Int.toNat_natCast]
  rfl
/-- Where the parts of a greeting stand. -/
structure byAt (c : Cli) (L : By) : Prop where
  l : L.length < 1099511627776
  a : beN (cutB L 0 2) = 771
  r : cutB L 2 32 = rg 32 c.R
  s0 : beN (cutB L 34 1) = c.s.length
  s1 : cutB L 35 c.s.length = c.s
  s2 : c.s.length ≤ 32
  v1 : vAt L (35 + c.s.length) (L.length - (35 + c.s.length)) 2 (chN c.L1 c.n1)
  z0 : beN (cutB L (37 + c.s.length + 2 * c.n1) 1) = 1
  z1 : cutB L (38 + c.s.length + 2 * c.n1) 1 = [0#8]
  x : exAt c L (39 + c.s.length + 2 * c.n1) (L.length - (39 + c.s.length + 2 * c.n1))
theorem Cli.ex_le (c : Cli) (h : c.ok) : c.ex.length ≤ 1700 := by
  have l1 := liB_le [] 43 1 (.inl rfl) (chN c.L2 c.n2)
  have l2 := liB_le (liB [] 43 1 (chN c.L2 c.n2)) 10 2 (.inr rfl) (chN c.L3 c.n3)
  have l3 := liB_le (liB (liB [] 43 1 (chN c.L2 c.n2)) 10 2 (chN c.L3 c.n3)) 13 2 (.inr rfl) (chN c.L4 c.n4)
  have l4 := liB_le (liB (liB (liB [] 43 1 (chN c.L2 c.n2)) 10 2 (chN c.L3 c.n3)) 13 2 (chN c.L4 c.n4)) 51 2 (.inr rfl) (chSh c.G c.K c.n5)
  have l5 := liB_le c.x1 44 2 (.inr rfl) c.co
  have l6 := liB_le (liB c.x1 44 2 c.co) 45 1 (.inl rfl) c.mo
  have e1 : (liB (liB (liB (liB [] 43 1 (chN c.L2 c.n2)) 10 2 (chN c.L3 c.n3)) 13 2 (chN c.L4 c.n4)) 51 2 (chSh c.G c.K c.n5)) = c.x1 := rfl
  have e2 : liB (liB c.x1 44 2 c.co) 45 1 c.mo = c.x3 := rfl
  rw [e1] at l4
  rw [e2] at l6
  rw [chN_len] at l1 l2 l3
  have e0 : ([] : By).length = 0 := rfl
  have ls := chSh_le h.h5 c.n5 (Nat.le_refl _)
  have h5 := h.h5.1
  have h2 := h.h2
  have h3 := h.h3
  have h4 := h.h4
  have hc := h.hc
  have hm := h.hm
  have li := idB_le h.h6
  unfold Cli.ex
  split
  · rw [exB_len]; omega
  · omega
theorem byAt_of (c : Cli) (h : c.ok) : byAt c c.by := by
  have hs := h.hs
  have h0 := h.h0
  have h1 := h.h1
  have hx := c.ex_le h
  have lN : (chN c.L1 c.n1).length = 2 * c.n1 := chN_len ..
  have lR := rg_length 32 c.R
  have e := c.by_eq
  have p1 : (256 : Nat) ^ 1 = 256 := rfl
  have p2 : (256 : Nat) ^ 2 = 65536 := rfl
  have lz : ([0#8] : By).length = 1 := rfl
  have ll : c.by.length = 41 + c.s.length + 2 * c.n1 + c.ex.length := by
    rw [e]; simp only [List.length_append, puL_len, lR, lN, lz, List.length_nil]; omega
  have e1 : c.by = [] ++ (puL 771 2 ++ (rg 32 c.R ++ (puL c.s.length 1 ++ (c.s ++ (puL (chN c.L1 c.n1).length 2 ++ (chN c.L1 c.n1 ++ (puL 1 1 ++ ([0#8] ++ (puL c.ex.length 2 ++ (c.ex ++ [])))))))))) := by rw [e]; rfl
  have e2 : c.by = (puL 771 2) ++ (rg 32 c.R ++ (puL c.s.length 1 ++ (c.s ++ (puL (chN c.L1 c.n1).length 2 ++ (chN c.L1 c.n1 ++ (puL 1 1 ++ ([0#8] ++ (puL c.ex.length 2 ++ (c.ex ++ []))))))))) := e
  have e3 : c.by = (puL 771 2 ++ rg 32 c.R) ++ (puL c.s.length 1 ++ (c.s ++ (puL (chN c.L1 c.n1).length 2 ++ (chN c.L1 c.n1 ++ (puL 1 1 ++ ([0#8] ++ (puL c.ex.length 2 ++ (c.ex ++ [])))))))) := by rw [e]; simp only [List.append_assoc]
  have e4 : c.by = (puL 771 2 ++ rg 32 c.R ++ puL c.s.length 1) ++ (c.s ++ (puL (chN c.L1 c.n1).length 2 ++ (chN c.L1 c.n1 ++ (puL 1 1 ++ ([0#8] ++ (puL c.ex.length 2 ++ (c.ex ++ []))))))) := by rw [e]; simp only [List.append_assoc]
  have e5 : c.by = (puL 771 2 ++ rg 32 c.R ++ puL c.s.length 1 ++ c.s) ++ (puL (chN c.L1 c.n1).length 2 ++ (chN c.L1 c.n1 ++ (puL 1 1 ++ ([0#8] ++ (puL c.ex.length 2 ++ (c.ex ++ [])))))) := by rw [e]; simp only [List.append_assoc]
  have e6 : c.by = (puL 771 2 ++ rg 32 c.R ++ puL c.s.length 1 ++ c.s ++ puL (chN c.L1 c.n1).length 2 ++ chN c.L1 c.n1) ++ (puL 1 1 ++ ([0#8] ++ (puL c.ex.length 2 ++ (c.ex ++ [])))) := by rw [e]; simp only [List.append_assoc]
  have e7 : c.by = (puL 771 2 ++ rg 32 c.R ++ puL c.s.length 1 ++ c.s ++ puL (chN c.L1 c.n1).length 2 ++ chN c.L1 c.n1 ++ puL 1 1) ++ ([0#8] ++ (puL c.ex.length 2 ++ (c.ex ++ []))) := by rw [e]; simp only [List.append_assoc]
  have e8 : c.by = (puL 771 2 ++ rg 32 c.R ++ puL c.s.length 1 ++ c.s ++ puL (chN c.L1 c.n1).length 2 ++ chN c.L1 c.n1 ++ puL 1 1 ++ [0#8]) ++ (puL c.ex.length 2 ++ (c.ex ++ [])) := by rw [e]; simp only [List.append_assoc]
  have e9 : c.by = (puL 771 2 ++ rg 32 c.R ++ puL c.s.length 1 ++ c.s ++ puL (chN c.L1 c.n1).length 2 ++ chN c.L1 c.n1 ++ puL 1 1 ++ [0#8] ++ puL c.ex.length 2) ++ (c.ex ++ []) := by rw [e]; simp only [List.append_assoc]
  refine ⟨by omega, ?_, ?_, ?_, ?_, hs, ?_, ?_, ?_, ⟨h, by omega, by omega, ?_, ?_, by omega, by omega⟩⟩
  · rw [e1]; exact beN_at (A := []) rfl (by omega)
  · rw [e2, cutB_at (by rw [puL_len]) lR.symm]
  · rw [e3, beN_at (by simp only [List.length_append, puL_len, lR]) (by omega)]
  · rw [e4, cutB_at (by simp only [List.length_append, puL_len, lR]) rfl]
  · exact vAt_of e5 (by simp only [List.length_append, puL_len, lR]) (by omega) (by omega) rfl (by decide) (by decide) (by omega) (by omega) (by omega)
  · rw [e6, beN_at (by simp only [List.length_append, puL_len, lR, lN]; omega) (by omega)]
  · rw [e7]; exact cutB_at (v := [0#8]) (by simp only [List.length_append, puL_len, lR, lN]; omega) rfl
  · rw [e8, beN_at (by simp only [List.length_append, puL_len, lR, lN, lz]; omega) (by omega)]
  · rw [e9, cutB_at (by simp only [List.length_append, puL_len, lR, lN, lz]; omega) rfl]
end Go.Spec
namespace Go.Sym
open Go.Proofs Go.Spec
set_option linter.unusedVariables false
def rHd (c : Cli) (L : By) : RL := ⟨[], .tup [aggB 32 c.R, .slice 2 0 1 c.s.length .ow .unk], [some (some (rdC (35 + c.s.length) (L.length - (35 + c.s.length)) 0)), some (some (rdL L))], [⟨.bytes c.s, true, 1⟩]⟩
theorem bh89 (c : Cli) (L : By) (n : Nat) (h : byAt c L) (hn : n = L.length) : Must (bodyP Tryd.prog Ga5 gl0 [] [] 3000 Tryd.f83 2 [.ptr 0 0 0 0] [rdC 0 n 0, rdL L] (retQ Tryd.prog Tryd.f83 2 (rHd c L))) := by
  constructor
  unfold rHd
  rw [vh89, h.a, h.r, h.s0, h.s1]
  have hl := h.l
  have hs := h.s2
  have hv := h.v1.b
  have e2 : (2 : Int).toNat = 2 := rfl
  have lR := rg_length 32 c.R
  refine ⟨by omega, hl, by decide, by omega, ?_⟩
  refine ⟨by omega, hl, by decide, by omega, lR.symm, by omega, hl, by decide, ⟨by omega, by omega, by omega⟩, allP_of 32 0 (fun i h1 h2 => ?_) ⟨rfl, rfl, rfl, rfl, rfl, rfl, rfl, rfl, rfl, rfl, rfl, trivial⟩⟩
  rw [if_pos (by omega), rg_getD 32 c.R i _ (by omega)]
def gg89 (c : Cli) (xs : List AV) (bs : List ABlk) : TL := match xs, bs with
  | [.ptr 0 0 0 0], [⟨.cells [.slice 1 0 1 n .ox .unk, .int .i64 0], true, 0⟩, ⟨.bytes L, true, 1⟩] => .ok { rHd c L with ob := [byAt c L, n = L.length] }
  | _, _ => .no
theorem cg89 (c : Cli) : COK Tryd.prog gl0 83 (mkF (reSp 1 (gg89 c))) := by
  refine ctrE (fn := Tryd.f83) [] 3000 (by kernel_rfl) (by kernel_rfl) okGa5 (by kernel_rfl) (fun args w => by kernel_rfl) fun xs bs r hs ho => ?_
  replace hs : (gg89 c xs bs).sel = some r := hs
  unfold gg89 at hs
  split at hs
  · simp only [TL.sel, Option.some.injEq] at hs
    subst hs
    obtain ⟨h, h2⟩ := obsT_cons.1 ho
    exact ⟨_, bh89 c _ _ h (obsT_one.1 h2)⟩
  · simp [TL.sel] at hs
noncomputable def Gb1 (c : Cli) : Ctx := ((Ga6 c).add 83 (mkF (reSp 1 (gg89 c)))).add 88 (mkF (reSp 2 (gg95 c)))
theorem okGb1 (c : Cli) : COKs Tryd.prog gl0 (Gb1 c) := ((okGa6 c).add (cg89 c)).add (cg95 c)
noncomputable def Gb2 (c : Cli) : Ctx := (Gb1 c).exe Tryd.prog gl0 [] 300 Tryd.f86.params.size 86 Tryd.f86
theorem okGb2 (c : Cli) : COKs Tryd.prog gl0 (Gb2 c) := (okGb1 c).exe [] 300 _ (by kernel_rfl) (by kernel_rfl) (by kernel_rfl) (fun args w => by kernel_rfl)
noncomputable def Gb3 (c : Cli) : Ctx := (Gb2 c).withFrz [(10, [.kp, .by8]), (16, [.r 1])]
theorem okGb3 (c : Cli) : COKs Tryd.prog gl0 (Gb3 c) := (okGb2 c).withFrz _
def lsB47 (c : Cli) : LS := ⟨Unit, fun _ => [(2, .ptr 103 0 0 0), (3, .int .i64 0), (4, .ptr 100 0 0 0), (5, .ptr 102 0 0 0)],
  fun _ => [(100, rdCn 101 (39 + c.s.length + 2 * c.n1) (c.by.length - (39 + c.s.length + 2 * c.n1))), (101, rdL c.by), (102, bxG (c.at 0)), (103, bxZ)], 1000, fun _ => 0, fun _ => c.ok, fun _ => []⟩
def rGc (c : Cli) : RL := ⟨[], .tup [.agg (cliG c), .int .i64 0], [], []⟩
end Go.Sym

namespace Go.Sym
open Go.Proofs Go.Spec
set_option linter.unusedVariables false
set_option maxRecDepth 100000 in
theorem vx47 (c : Cli) : bodyP Tryd.prog (Gb3 c) gl0 [] [(10007, lsB47 c)] 3000 Tryd.f53 0 [.rb false c.by .unk] [] (retQ Tryd.prog Tryd.f53 0 (rGc c)) = (
let x1 := 35 + List.length c.s + 2 + List.length (vecB c.by (35 + List.length c.s) (2 : Int)); let x2 := c.by = c.by ∧ allP (fun (i : Nat) => (c.at 0).R i = c.R i) 0 32 ((c.at 0).s = c.s ∧ (c.at 0).n1 = List.length (vecB c.by (35 + List.length c.s) (2 : Int)) / 2 ∧ (∀ (y : Nat), y < (c.at 0).n1 → datas Bool.true [AV.int IntKind.i64 ((c.at 0).L1 y)] = Bool.true ∧ (c.at 0).L1 y = dN (vecB c.by (35 + List.length c.s) (2 : Int)) y ∧ True) ∧ (c.at 0).n2 = 0 ∧ (c.at 0).n3 = 0 ∧ (c.at 0).n4 = 0 ∧ (c.at 0).n5 = 0 ∧ (c.at 0).co = [] ∧ (c.at 0).mo = [] ∧ (c.at 0).n6 = 0 ∧ (c.at 0).n7 = 0 ∧ allP (fun (i : Nat) => (0 : BitVec 8) = BitVec.ofNat 8 0) 0 32 True); let x3 := vecB c.by (35 + List.length c.s) (2 : Int); let x4 := 39 + List.length c.s + 2 * c.n1; let x5 := x1 + 1 + beN (cutB c.by x1 1); List.length c.by < 1099511627776 ∧ byAt c c.by ∧ List.length c.by = List.length c.by ∧ List.length c.s = List.length c.s ∧ vAt c.by (35 + List.length c.s) (List.length c.by - (35 + List.length c.s)) (2 : Int) x3 ∧ List.length x3 = 2 * (List.length x3 / 2) ∧ (↑(List.length x3 / 2) : Int) ≤ (8 : Int) ∧ 0 + List.length x3 / 2 ≤ List.length x3 / 2 ∧ (∀ (y : Nat), y < List.length x3 / 2 → datas Bool.true [AV.int IntKind.i64 (dN x3 y)] = Bool.true ∧ [AV.int IntKind.i64 (dN x3 y)].length ≤ 1) ∧ x1 + (List.length c.by - x1) = List.length c.by ∧ List.length c.by < 1099511627776 ∧ ((1 : Int) ≤ (1 : Int) ∧ (1 : Int) ≤ (4 : Int)) ∧ (x5 ≤ List.length c.by ∧ (1 : Int) ≤ (↑(beN (cutB c.by x1 1)) : Int) ∧ (↑(beN (cutB c.by x1 1)) : Int) ≤ (1 : Int)) ∧ beN (cutB c.by x1 1) = List.length (cutB c.by (x1 + 1) (beN (cutB c.by x1 1))) ∧ 1 = 1 ∧ @Bool.rec (fun _ => Prop) (∃ (y : Unit), c.ok ∧ 0 = 0 ∧ (0 : Int) = (0 : Int) ∧ 0 = 0 ∧ 0 = 0 ∧ x4 = x5 ∧ 0 = 0 ∧ x4 = x5 ∧ List.length c.by - x4 = List.length c.by - x5 ∧ (0 : Int) = (0 : Int) ∧ x2) (∃ (y : Unit), c.ok ∧ 0 = 0 ∧ (0 : Int) = (0 : Int) ∧ 0 = 0 ∧ 0 = 0 ∧ x4 = x5 ∧ 0 = 0 ∧ x4 = x5 ∧ List.length c.by - x4 = List.length c.by - x5 ∧ (0 : Int) = Int.ofNat 3 ∧ x2) !decide (cutB c.by (x1 + 1) (beN (cutB c.by x1 1)) = [BitVec.ofNat 8 0]) ∧ ∀ (x : Unit), c.ok → exAt c c.by x4 (List.length c.by - x4) ∧ rgA (fun (i : Nat) => AV.u8 ((c.at 0).R i)) 0 32 [AV.rb Bool.true (c.at 0).s NL.unk, AV.ros Bool.true 1 (c.at 0).n1 (fun (j : Nat) => [AV.int IntKind.i64 ((c.at 0).L1 j)]) NL.unk, AV.ros Bool.true 1 (c.at 0).n2 (fun (j : Nat) => [AV.int IntKind.i64 ((c.at 0).L2 j)]) NL.unk, AV.ros Bool.true 1 (c.at 0).n3 (fun (j : Nat) => [AV.int IntKind.i64 ((c.at 0).L3 j)]) NL.unk, AV.ros Bool.true 1 (c.at 0).n4 (fun (j : Nat) => [AV.int IntKind.i64 ((c.at 0).L4 j)]) NL.unk, AV.ros Bool.true 2 (c.at 0).n5 (fun (j : Nat) => [AV.int IntKind.i64 ((c.at 0).G j), AV.rb Bool.true ((c.at 0).K j) NL.unk]) NL.unk, AV.rb Bool.true (c.at 0).co NL.unk, AV.rb Bool.true (c.at 0).mo NL.unk, AV.ros Bool.true 2 (c.at 0).n6 (fun (j : Nat) => [AV.rb Bool.true ((c.at 0).T j) NL.unk, AV.int IntKind.i64 ((c.at 0).A j)]) NL.unk, AV.ros Bool.true 1 (c.at 0).n7 (fun (j : Nat) => [AV.rb Bool.true ((c.at 0).D j) NL.unk]) NL.unk] = cliG (c.at 0) ∧ 0 = 0 ∧ allP (fun (i : Nat) => c.R i = c.R i) 0 32 (c.s = c.s ∧ c.n1 = c.n1 ∧ (∀ (y : Nat), y < c.n1 → datas Bool.true [AV.int IntKind.i64 (c.L1 y)] = Bool.true ∧ c.L1 y = c.L1 y ∧ True) ∧ c.n2 = c.n2 ∧ (∀ (y : Nat), y < c.n2 → datas Bool.true [AV.int IntKind.i64 (c.L2 y)] = Bool.true ∧ c.L2 y = c.L2 y ∧ True) ∧ c.n3 = c.n3 ∧ (∀ (y : Nat), y < c.n3 → datas Bool.true [AV.int IntKind.i64 (c.L3 y)] = Bool.true ∧ c.L3 y = c.L3 y ∧ True) ∧ c.n4 = c.n4 ∧ (∀ (y : Nat), y < c.n4 → datas Bool.true [AV.int IntKind.i64 (c.L4 y)] = Bool.true ∧ c.L4 y = c.L4 y ∧ True) ∧ c.n5 = c.n5 ∧ (∀ (y : Nat), y < c.n5 → datas Bool.true [AV.int IntKind.i64 (c.G y), AV.rb Bool.true (c.K y) NL.unk] = Bool.true ∧ c.G y = c.G y ∧ c.K y = c.K y ∧ True) ∧ c.co = c.co ∧ c.mo = c.mo ∧ c.n6 = c.n6 ∧ (∀ (y : Nat), y < c.n6 → datas Bool.true [AV.rb Bool.true (c.T y) NL.unk, AV.int IntKind.i64 (c.A y)] = Bool.true ∧ c.T y = c.T y ∧ c.A y = c.A y ∧ True) ∧ c.n7 = c.n7 ∧ (∀ (y : Nat), y < c.n7 → datas Bool.true [AV.rb Bool.true (c.D y) NL.unk] = Bool.true ∧ c.D y = c.D y ∧ True) ∧ (0 : Int) = (0 : Int) ∧ True) : Prop) := by kernel_rfl
end Go.Sym

set_option linter.unusedSimpArgs false
namespace Go.Sym
open Go.Proofs Go.Spec
set_option linter.unusedVariables false
theorem bx47 (c : Cli) (h : c.ok) : Must (bodyP Tryd.prog (Gb3 c) gl0 [] [(10007, lsB47 c)] 3000 Tryd.f53 0 [.rb false c.by .unk] [] (retQ Tryd.prog Tryd.f53 0 (rGc c))) := by
  constructor
  rw [vx47]
  have hb := byAt_of c h
  have hl := hb.l
  have hv := hb.v1
  have hvec := hv.vec
  have lN : (chN c.L1 c.n1).length = 2 * c.n1 := chN_len ..
  have h8 := h.h1
  have hvb := hv.b
  have e2 : (2 : Int).toNat = 2 := rfl
  intro x1 x2 x3 x4 x5
  have q3 : x3 = chN c.L1 c.n1 := hvec
  have q1 : x1 = 37 + c.s.length + 2 * c.n1 := by
    show 35 + c.s.length + 2 + (vecB c.by (35 + c.s.length) 2).length = _
    rw [hvec, lN]; omega
  have q5 : x5 = x4 := by
    show x1 + 1 + beN (cutB c.by x1 1) = 39 + c.s.length + 2 * c.n1
    rw [q1, hb.z0]; omega
  have hxe := hb.x.b
  have q2 : x2 := by
    refine ⟨rfl, allP_of 32 0 (fun _ _ _ => rfl) ⟨rfl, ?_, fun y hy => ⟨rfl, ?_, trivial⟩, rfl, rfl, rfl, rfl, rfl, rfl, rfl, rfl, allP_of 32 0 (fun _ _ _ => rfl) trivial⟩⟩
    · show c.n1 = (vecB c.by (35 + c.s.length) 2).length / 2
      rw [hvec, lN]; omega
    · show c.L1 y = dN (vecB c.by (35 + c.s.length) 2) y
      rw [hvec]
      exact (dN_chN h.i1 hy).symm
  have z0 : beN (cutB c.by x1 1) = 1 := by rw [q1]; exact hb.z0
  have z1 : cutB c.by (x1 + 1) 1 = [0#8] := by
    have e : x1 + 1 = 38 + c.s.length + 2 * c.n1 := by omega
    rw [e]; exact hb.z1
  have q4 : x4 = 39 + c.s.length + 2 * c.n1 := rfl
  have hx : exAt c c.by x4 (c.by.length - x4) := hb.x
  clear_value x1 x2 x3 x4 x5
  subst q3
  rw [z0, z1, lN]
  rw [lN] at hvb
  refine ⟨hl, hb, rfl, rfl, hv, by omega, by omega, by omega, fun _ _ => ⟨rfl, Nat.le_refl _⟩, by omega, hl, by decide, ⟨by omega, by omega, by omega⟩, rfl, rfl, ?_, fun _ _ => ⟨hx, rfl, rfl, sameC_of rfl ⟨rfl, trivial⟩⟩⟩
  exact ⟨(), h, rfl, rfl, rfl, rfl, q5.symm, rfl, q5.symm, by rw [q5], rfl, q2⟩
def gg47 (c : Cli) (xs : List AV) (bs : List ABlk) : TL := match xs, bs with
  | [.rb false b .unk], [] => .ok { rGc c with ob := [c.ok, b = c.by] }
  | _, _ => .no
def sp47 (c : Cli) : Spec := ⟨[.by0], fun _ _ => [], fun _ _ => [], gg47 c⟩
theorem cg47 (c : Cli) : COK Tryd.prog gl0 53 (mkF (sp47 c)) := by
  refine ctrE (fn := Tryd.f53) [] 3000 (by kernel_rfl) (by kernel_rfl) (okGb3 c) (by kernel_rfl) (fun args w => by kernel_rfl) fun xs bs r hs ho => ?_
  replace hs : (gg47 c xs bs).sel = some r := hs
  unfold gg47 at hs
  split at hs
  · simp only [TL.sel, Option.some.injEq] at hs
    subst hs
    obtain ⟨h, h2⟩ := obsT_cons.1 ho
    have h2 := obsT_one.1 h2
    subst h2
    exact ⟨_, bx47 c h⟩
  · simp [TL.sel] at hs
noncomputable def Gb4 (c : Cli) : Ctx := (Gb2 c).add 53 (mkF (sp47 c))
theorem okGb4 (c : Cli) : COKs Tryd.prog gl0 (Gb4 c) := (okGb2 c).add (cg47 c)
end Go.Sym

set_option linter.unusedSimpArgs false
namespace Go.Sym
open Go.Proofs Go.Spec
set_option linter.unusedVariables false
set_option maxRecDepth 100000 in
theorem vx18 (c : Cli) : bodyP Tryd.prog (Gb4 c) gl0 [] [] 3000 Tryd.f30 0 [.rb false c.by .unk] [] (retQ Tryd.prog Tryd.f30 0 (rGc c)) = (c.ok ∧ c.by = c.by ∧ sameC c c ((0 : Int) = 0 ∧ True)) := by kernel_rfl
theorem bx18 (c : Cli) (h : c.ok) : Must (bodyP Tryd.prog (Gb4 c) gl0 [] [] 3000 Tryd.f30 0 [.rb false c.by .unk] [] (retQ Tryd.prog Tryd.f30 0 (rGc c))) := by
  constructor
  rw [vx18]
  exact ⟨h, rfl, sameC_of rfl ⟨rfl, trivial⟩⟩
theorem cg18 (c : Cli) : COK Tryd.prog gl0 30 (mkF (sp47 c)) := by
  refine ctrE (fn := Tryd.f30) [] 3000 (by kernel_rfl) (by kernel_rfl) (okGb4 c) (by kernel_rfl) (fun args w => by kernel_rfl) fun xs bs r hs ho => ?_
  replace hs : (gg47 c xs bs).sel = some r := hs
  unfold gg47 at hs
  split at hs
  · simp only [TL.sel, Option.some.injEq] at hs
    subst hs
    obtain ⟨h, h2⟩ := obsT_cons.1 ho
    have h2 := obsT_one.1 h2
    subst h2
    exact ⟨_, bx18 c h⟩
  · simp [TL.sel] at hs
noncomputable def Gb5 (c : Cli) : Ctx := (Gb4 c).add 30 (mkF (sp47 c))
theorem okGb5 (c : Cli) : COKs Tryd.prog gl0 (Gb5 c) := (okGb4 c).add (cg18 c)
end Go.Sym
