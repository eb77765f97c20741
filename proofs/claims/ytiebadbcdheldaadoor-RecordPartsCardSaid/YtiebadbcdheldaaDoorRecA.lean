/- Records: nonces, what is opened. -/
import Derived.Test.YtiebadbcdheldaaDoorAeadB
import Derived.Test.YtiebadbcdheldaaDoorHkdf
import Derived.Test.YtiebadbcdheldaaDoorShaA
import Derived.Test.YtiebadbcdheldaaDoorAeadA
namespace Go.Spec
/-- A number's nonce. -/
def nonB (iv : F8) (s : BitVec 64) : F8 := fun i => if i < 4 then iv i else iv i ^^^ (s >>> (8 * (11 - i))).setWidth 8
end Go.Spec
namespace Go.Sym
open Go.Proofs Go.Spec
set_option linter.unusedVariables false
/-- A key, and what nonces begin with, out of 44 cells. -/
def asK (cs : List AV) (g : F8 → F8 → TL) : TL := match rdU8 cs with | some l => (match l.length == 44 with | true => g (fun i => l.getD i 0) (fun i => l.getD (32 + i) 0) | false => .no) | none => .no
theorem asK_sel {cs : List AV} {g : F8 → F8 → TL} {r : RL} (h : (asK cs g).sel = some r) : ∃ k iv : F8, AV.agg cs = .agg (row8 32 k ++ row8 12 iv) ∧ (g k iv).sel = some r := by
  unfold asK at h
  split at h
  · rename_i l hl
    split at h
    · rename_i hn
      have hn : l.length = 44 := by simpa using hn
      refine ⟨_, _, ?_, h⟩
      rw [rdU8_eq hl]
      congr 1
      apply List.ext_getElem
      · simp [hn, row8]
      · intro i h1 h2
        have hi : i < l.length := by simpa using h1
        by_cases h3 : i < 32
        · rw [List.getElem_append_left (by simpa [row8] using h3)]
          simp [row8, List.getD, hi]
        · rw [List.getElem_append_right (by simp [row8]; omega)]
          simp only [row8, List.getElem_map, List.getElem_range, List.length_map, List.length_range]
          have : 32 + (i - 32) = i := by omega
          simp [this, List.getD, hi]
    · simp [TL.sel] at h
  · simp [TL.sel] at h
noncomputable def N9 : Ctx := N7
theorem okN9 : COKs Tryd.prog gl0 N9 := okN7
end Go.Sym

namespace Go.Sym
open Go.Proofs Go.Spec
set_option linter.unusedVariables false
set_option maxRecDepth 100000 in
theorem vr17 (k iv f : F8) (s : BitVec 64) : bodyP Tryd.prog N9 gl0 [] [] 3000 Tryd.f33 0 [.agg (row8 32 k ++ row8 12 iv), .u64 s] [] (retQ Tryd.prog Tryd.f33 0 ⟨[], aggB 12 f, [], []⟩) = (
(0 : Int) ≤ Int.ofNat 11 ∧ (0 : Int) ≤ Int.ofNat 0 ∧ (0 : Int) ≤ Int.ofNat 11 ∧ (0 : Int) ≤ Int.ofNat 10 ∧ (0 : Int) ≤ Int.ofNat 8 ∧ (0 : Int) ≤ Int.ofNat 10 ∧ (0 : Int) ≤ Int.ofNat 9 ∧ (0 : Int) ≤ Int.ofNat 16 ∧ (0 : Int) ≤ Int.ofNat 9 ∧ (0 : Int) ≤ Int.ofNat 8 ∧ (0 : Int) ≤ Int.ofNat 24 ∧ (0 : Int) ≤ Int.ofNat 8 ∧ (0 : Int) ≤ Int.ofNat 7 ∧ (0 : Int) ≤ Int.ofNat 32 ∧ (0 : Int) ≤ Int.ofNat 7 ∧ (0 : Int) ≤ Int.ofNat 6 ∧ (0 : Int) ≤ Int.ofNat 40 ∧ (0 : Int) ≤ Int.ofNat 6 ∧ (0 : Int) ≤ Int.ofNat 5 ∧ (0 : Int) ≤ Int.ofNat 48 ∧ (0 : Int) ≤ Int.ofNat 5 ∧ (0 : Int) ≤ Int.ofNat 4 ∧ (0 : Int) ≤ Int.ofNat 56 ∧ (0 : Int) ≤ Int.ofNat 4 ∧ f 0 = iv 0 ∧ f 1 = iv 1 ∧ f 2 = iv 2 ∧ f 3 = iv 3 ∧ f 4 = iv 4 ^^^ BitVec.setWidth 8 (s >>> 56) ∧ f 5 = iv 5 ^^^ BitVec.setWidth 8 (s >>> 48) ∧ f 6 = iv 6 ^^^ BitVec.setWidth 8 (s >>> 40) ∧ f 7 = iv 7 ^^^ BitVec.setWidth 8 (s >>> 32) ∧ f 8 = iv 8 ^^^ BitVec.setWidth 8 (s >>> 24) ∧ f 9 = iv 9 ^^^ BitVec.setWidth 8 (s >>> 16) ∧ f 10 = iv 10 ^^^ BitVec.setWidth 8 (s >>> 8) ∧ f 11 = iv 11 ^^^ BitVec.setWidth 8 (s >>> 0) ∧ True : Prop) := by kernel_rfl
set_option maxRecDepth 100000 in
theorem vr18 (k iv f : F8) (s : BitVec 64) : bodyP Tryd.prog N9 gl0 [] [] 3000 Tryd.f37 0 [.agg (row8 32 k ++ row8 12 iv), .u64 s] [] (retQ Tryd.prog Tryd.f37 0 ⟨[], aggB 12 f, [], []⟩) = (
(0 : Int) ≤ Int.ofNat 11 ∧ (0 : Int) ≤ Int.ofNat 0 ∧ (0 : Int) ≤ Int.ofNat 11 ∧ (0 : Int) ≤ Int.ofNat 10 ∧ (0 : Int) ≤ Int.ofNat 8 ∧ (0 : Int) ≤ Int.ofNat 10 ∧ (0 : Int) ≤ Int.ofNat 9 ∧ (0 : Int) ≤ Int.ofNat 16 ∧ (0 : Int) ≤ Int.ofNat 9 ∧ (0 : Int) ≤ Int.ofNat 8 ∧ (0 : Int) ≤ Int.ofNat 24 ∧ (0 : Int) ≤ Int.ofNat 8 ∧ (0 : Int) ≤ Int.ofNat 7 ∧ (0 : Int) ≤ Int.ofNat 32 ∧ (0 : Int) ≤ Int.ofNat 7 ∧ (0 : Int) ≤ Int.ofNat 6 ∧ (0 : Int) ≤ Int.ofNat 40 ∧ (0 : Int) ≤ Int.ofNat 6 ∧ (0 : Int) ≤ Int.ofNat 5 ∧ (0 : Int) ≤ Int.ofNat 48 ∧ (0 : Int) ≤ Int.ofNat 5 ∧ (0 : Int) ≤ Int.ofNat 4 ∧ (0 : Int) ≤ Int.ofNat 56 ∧ (0 : Int) ≤ Int.ofNat 4 ∧ f 0 = iv 0 ∧ f 1 = iv 1 ∧ f 2 = iv 2 ∧ f 3 = iv 3 ∧ f 4 = iv 4 ^^^ BitVec.setWidth 8 (s >>> 56) ∧ f 5 = iv 5 ^^^ BitVec.setWidth 8 (s >>> 48) ∧ f 6 = iv 6 ^^^ BitVec.setWidth 8 (s >>> 40) ∧ f 7 = iv 7 ^^^ BitVec.setWidth 8 (s >>> 32) ∧ f 8 = iv 8 ^^^ BitVec.setWidth 8 (s >>> 24) ∧ f 9 = iv 9 ^^^ BitVec.setWidth 8 (s >>> 16) ∧ f 10 = iv 10 ^^^ BitVec.setWidth 8 (s >>> 8) ∧ f 11 = iv 11 ^^^ BitVec.setWidth 8 (s >>> 0) ∧ True : Prop) := by kernel_rfl
end Go.Sym

namespace Go.Spec
/-- How many bytes there are without those like x at the end. -/
def trimAt (x : BitVec 8) (l : By) : Nat → Nat
  | 0 => 0
  | n + 1 => if l.getD n 0 = x then trimAt x l n else n + 1
def trimN (x : BitVec 8) (l : By) : Nat := trimAt x l l.length
end Go.Spec
namespace Go.Sym
open Go.Proofs Go.Spec
set_option linter.unusedVariables false
theorem br17 (k iv : F8) (s : BitVec 64) : Must (bodyP Tryd.prog N9 gl0 [] [] 3000 Tryd.f33 0 [.agg (row8 32 k ++ row8 12 iv), .u64 s] [] (retQ Tryd.prog Tryd.f33 0 ⟨[], aggB 12 (nonB iv s), [], []⟩)) := by
  constructor
  rw [vr17]
  repeat refine And.intro (by first | exact rfl | exact Int.natCast_nonneg _) ?_
  trivial
theorem br18 (k iv : F8) (s : BitVec 64) : Must (bodyP Tryd.prog N9 gl0 [] [] 3000 Tryd.f37 0 [.agg (row8 32 k ++ row8 12 iv), .u64 s] [] (retQ Tryd.prog Tryd.f37 0 ⟨[], aggB 12 (nonB iv s), [], []⟩)) := by
  constructor
  rw [vr18]
  repeat refine And.intro (by first | exact rfl | exact Int.natCast_nonneg _) ?_
  trivial
noncomputable def gr17 (xs : List AV) (bs : List ABlk) : TL := match xs, bs with
  | [.agg ks, .u64 s], [] => asK ks fun k iv => .ok ⟨[], aggB 12 (nonB iv s), [], []⟩
  | _, _ => .no
noncomputable def spr17 : Spec := ⟨[.kp, .kp], fun _ _ => [], fun _ _ => [], gr17⟩
theorem cr17 : COK Tryd.prog gl0 33 (mkF spr17) := by
  refine ctrE (fn := Tryd.f33) [] 3000 (by kernel_rfl) (by kernel_rfl) okN9 (by kernel_rfl) (fun args w => by kernel_rfl) fun xs bs r hs ho => ?_
  simp only [spr17, gr17] at hs
  split at hs
  · obtain ⟨k, iv, e, hs⟩ := asK_sel hs
    simp only [TL.sel, Option.some.injEq] at hs
    subst hs
    rw [e]
    exact ⟨_, br17 k iv _⟩
  · simp [TL.sel] at hs
theorem cr18 : COK Tryd.prog gl0 37 (mkF spr17) := by
  refine ctrE (fn := Tryd.f37) [] 3000 (by kernel_rfl) (by kernel_rfl) okN9 (by kernel_rfl) (fun args w => by kernel_rfl) fun xs bs r hs ho => ?_
  simp only [spr17, gr17] at hs
  split at hs
  · obtain ⟨k, iv, e, hs⟩ := asK_sel hs
    simp only [TL.sel, Option.some.injEq] at hs
    subst hs
    rw [e]
    exact ⟨_, br18 k iv _⟩
  · simp [TL.sel] at hs
noncomputable def G1 : Ctx := N9.add 33 (mkF spr17)
noncomputable def G2 : Ctx := G1.add 37 (mkF spr17)
noncomputable def G3 : Ctx := G2.add 32 (mkF sp7)
noncomputable def G4 : Ctx := G3.add 36 (mkF sp7)
noncomputable def G5 : Ctx := G4.add 38 (mkF sp8)
noncomputable def G6 : Ctx := G5.add 40 (mkF sp11)
theorem okG6 : COKs Tryd.prog gl0 G6 := (((((okN9.add cr17).add cr18).add c7).add c10).add c8q).add c11
noncomputable def J20 : Ctx := G6.exe Tryd.prog gl0 [] 3000 Tryd.f8.params.size 8 Tryd.f8
theorem okJ20 : COKs Tryd.prog gl0 J20 := okG6.exe [] 3000 _ (by kernel_rfl) (by kernel_rfl) (by kernel_rfl) (fun args w => by kernel_rfl)
noncomputable def J46 : Ctx := J20.exe Tryd.prog gl0 [] 3000 Tryd.f43.params.size 43 Tryd.f43
theorem okJ46 : COKs Tryd.prog gl0 J46 := okJ20.exe [] 3000 _ (by kernel_rfl) (by kernel_rfl) (by kernel_rfl) (fun args w => by kernel_rfl)
noncomputable def J11 : Ctx := J46.exe Tryd.prog gl0 [] 3000 Tryd.f16.params.size 16 Tryd.f16
theorem okJ11 : COKs Tryd.prog gl0 J11 := okJ46.exe [] 3000 _ (by kernel_rfl) (by kernel_rfl) (by kernel_rfl) (fun args w => by kernel_rfl)
noncomputable def J15 : Ctx := J11.exe Tryd.prog gl0 [] 3000 Tryd.f28.params.size 28 Tryd.f28
theorem okJ15 : COKs Tryd.prog gl0 J15 := okJ11.exe [] 3000 _ (by kernel_rfl) (by kernel_rfl) (by kernel_rfl) (fun args w => by kernel_rfl)
noncomputable def J48 : Ctx := J15.exe Tryd.prog gl0 [] 3000 Tryd.f29.params.size 29 Tryd.f29
theorem okJ48 : COKs Tryd.prog gl0 J48 := okJ15.exe [] 3000 _ (by kernel_rfl) (by kernel_rfl) (by kernel_rfl) (fun args w => by kernel_rfl)
noncomputable def J50 : Ctx := J48.exe Tryd.prog gl0 [] 3000 Tryd.f31.params.size 31 Tryd.f31
theorem okJ50 : COKs Tryd.prog gl0 J50 := okJ48.exe [] 3000 _ (by kernel_rfl) (by kernel_rfl) (by kernel_rfl) (fun args w => by kernel_rfl)
noncomputable def J52 : Ctx := J50.exe Tryd.prog gl0 [] 3000 Tryd.f34.params.size 34 Tryd.f34
theorem okJ52 : COKs Tryd.prog gl0 J52 := okJ50.exe [] 3000 _ (by kernel_rfl) (by kernel_rfl) (by kernel_rfl) (fun args w => by kernel_rfl)
noncomputable def J26 : Ctx := J52.exe Tryd.prog gl0 [] 3000 Tryd.f35.params.size 35 Tryd.f35
theorem okJ26 : COKs Tryd.prog gl0 J26 := okJ52.exe [] 3000 _ (by kernel_rfl) (by kernel_rfl) (by kernel_rfl) (fun args w => by kernel_rfl)
def ls78 (x : BitVec 8) (l : By) : LS := ⟨Nat, fun n => [(0, .slice 0 0 1 n .os .unk), (1, .u8 x)], fun n => [(0, ⟨.bytes l, true, 1⟩)], 1000, fun n => n, fun n => n ≤ l.length ∧ trimAt x l n = trimN x l, fun _ => []⟩
def r78 (l : By) (m : Nat) : RL := ⟨[], .slice 0 0 1 m .os .unk, [some (some ⟨.bytes l, true, 1⟩)], []⟩
end Go.Sym

namespace Go.Sym
open Go.Proofs Go.Spec
set_option linter.unusedVariables false
set_option maxRecDepth 100000 in
theorem vr78 (x : BitVec 8) (l : By) (L m : Nat) : bodyP Tryd.prog J26 gl0 [] [(2, ls78 x l)] 3000 Tryd.f55 1 [.slice 0 0 1 L .ow .unk, .u8 x] [⟨.bytes l, true, 1⟩] (retQ Tryd.prog Tryd.f55 1 (r78 l m)) = (
(∃ (x_1 : Nat), (x_1 ≤ List.length l ∧ trimAt x l x_1 = trimN x l) ∧ 0 = 0 ∧ 0 = 0 ∧ 0 = 0 ∧ x_1 = L ∧ x = x ∧ l = l ∧ True) ∧ ∀ (x_1 : Nat), x_1 ≤ List.length l ∧ trimAt x l x_1 = trimN x l → @Bool.rec (fun _ => Prop) (0 = 0 ∧ 0 = 0 ∧ 0 = 0 ∧ m = x_1 ∧ l = l ∧ True) ((0 : Int) ≤ IntKind.i64.wrap ((↑x_1 : Int) - (1 : Int)) ∧ (IntKind.i64.wrap ((↑x_1 : Int) - (1 : Int))).toNat < x_1 ∧ (IntKind.i64.wrap ((↑x_1 : Int) - (1 : Int))).toNat < List.length l ∧ @Bool.rec (fun _ => Prop) (0 = 0 ∧ 0 = 0 ∧ 0 = 0 ∧ m = x_1 ∧ l = l ∧ True) ((0 : Int) ≤ IntKind.i64.wrap ((↑x_1 : Int) - (1 : Int)) ∧ (IntKind.i64.wrap ((↑x_1 : Int) - (1 : Int))).toNat ≤ x_1 ∧ ∃ (y : Nat), y < x_1 ∧ (y ≤ List.length l ∧ trimAt x l y = trimN x l) ∧ 0 = 0 ∧ 0 = 0 ∧ 0 = 0 ∧ y = (IntKind.i64.wrap ((↑x_1 : Int) - (1 : Int))).toNat ∧ x = x ∧ l = l ∧ True) (decide (List.getD l (IntKind.i64.wrap ((↑x_1 : Int) - (1 : Int))).toNat (0 : BitVec 8) = x))) (decide ((0 : Int) < (↑x_1 : Int))) : Prop) := by kernel_rfl
end Go.Sym

namespace Go.Sym
open Go.Proofs Go.Spec
set_option linter.unusedVariables false
theorem br78 (x : BitVec 8) (l : By) (L : Nat) (hL : L = l.length) (hl : l.length < 1099511627776) : Must (bodyP Tryd.prog J26 gl0 [] [(2, ls78 x l)] 3000 Tryd.f55 1 [.slice 0 0 1 L .ow .unk, .u8 x] [⟨.bytes l, true, 1⟩] (retQ Tryd.prog Tryd.f55 1 (r78 l (trimN x l)))) := by
  constructor
  rw [vr78]
  refine ⟨⟨l.length, ⟨Nat.le_refl _, rfl⟩, rfl, rfl, rfl, hL.symm, rfl, rfl, trivial⟩, fun n hn => ?_⟩
  obtain ⟨h1, h2⟩ := hn
  refine brec (fun h => ?_) (fun h => ?_)
  · have hp : 0 < n := by have := dlt.1 h; omega
    have w : IntKind.i64.wrap ((n : Int) - 1) = ((n - 1 : Nat) : Int) := wrap_nat _ (by omega) (by omega)
    obtain ⟨q, rfl⟩ : ∃ q, n = q + 1 := ⟨n - 1, by omega⟩
    rw [w, Int.toNat_natCast, Nat.add_sub_cancel]
    refine ⟨Int.natCast_nonneg _, by omega, by omega, brec (fun g => ?_) (fun g => ?_)⟩
    · have g : l.getD q 0 = x := of_decide_eq_true g
      have h3 : trimAt x l q = trimN x l := by rw [← h2]; simp only [trimAt, if_pos g]
      exact ⟨Int.natCast_nonneg _, by omega, q, by omega, ⟨by omega, h3⟩, rfl, rfl, rfl, rfl, rfl, rfl, trivial⟩
    · have g : ¬ l.getD q 0 = x := of_decide_eq_false g
      have h3 : trimAt x l (q + 1) = q + 1 := by simp only [trimAt, if_neg g]
      exact ⟨rfl, rfl, rfl, by rw [← h2, h3], rfl, trivial⟩
  · have hp : n = 0 := by have := ndlt.1 h; omega
    subst hp
    exact ⟨rfl, rfl, rfl, by rw [← h2]; rfl, rfl, trivial⟩
noncomputable def gr78 (xs : List AV) (bs : List ABlk) : TL := match xs, bs with
  | [.slice 0 0 1 L .ow .unk, .u8 x], [⟨.bytes l, true, 1⟩] => .ok ⟨[L = l.length ∧ l.length < 1099511627776], .slice 0 0 1 (trimN x l) .os .unk, [some (some ⟨.bytes l, true, 1⟩)], []⟩
  | _, _ => .no
noncomputable def spr78 : Spec := ⟨[.kp, .kp], ioOwn, fun _ l => l.map fun _ => [], gr78⟩
theorem cr78 : COK Tryd.prog gl0 55 (mkF spr78) := by
  refine ctrE (fn := Tryd.f55) [] 3000 (by kernel_rfl) (by kernel_rfl) okJ26 (by kernel_rfl) (fun args w => by kernel_rfl) fun xs bs r hs ho => ?_
  simp only [spr78, gr78] at hs
  split at hs
  · simp only [TL.sel, Option.some.injEq] at hs
    subst hs
    have o := obsT_one.1 ho
    exact ⟨_, br78 _ _ _ o.1 o.2⟩
  · simp [TL.sel] at hs
noncomputable def J78 : Ctx := J26.add 55 (mkF spr78)
theorem okJ78 : COKs Tryd.prog gl0 J78 := okJ26.add cr78
end Go.Sym

namespace Go.Sym
open Go.Proofs Go.Spec
set_option linter.unusedVariables false
set_option maxRecDepth 100000 in
theorem vr54 (l : By) (L m : Nat) : bodyP Tryd.prog J78 gl0 [] [] 3000 Tryd.f39 1 [.slice 0 0 1 L .ow .unk, .str [0#8]] [⟨.bytes l, true, 1⟩] (retQ Tryd.prog Tryd.f39 1 (r78 l m)) = (
@Bool.rec (fun _ => Prop) (0 = 0 ∧ 0 = 0 ∧ 0 = 0 ∧ m = L ∧ l = l ∧ True) (0 < 1 ∧ 0 < 1 ∧ (L = List.length l ∧ List.length l < 1099511627776) ∧ 0 = 0 ∧ 0 = 0 ∧ 0 = 0 ∧ m = trimN (BitVec.ofNat 8 0) l ∧ l = l ∧ True) !decide ((↑L : Int) = (0 : Int)) : Prop) := by kernel_rfl
end Go.Sym

namespace Go.Sym
open Go.Proofs Go.Spec
set_option linter.unusedVariables false
theorem br54 (l : By) (L : Nat) (hL : L = l.length) (hl : l.length < 1099511627776) : Must (bodyP Tryd.prog J78 gl0 [] [] 3000 Tryd.f39 1 [.slice 0 0 1 L .ow .unk, .str [0#8]] [⟨.bytes l, true, 1⟩] (retQ Tryd.prog Tryd.f39 1 (r78 l (trimN 0#8 l)))) := by
  constructor
  rw [vr54]
  refine brec (fun h => ?_) (fun h => ?_)
  · exact ⟨by omega, by omega, ⟨hL, hl⟩, rfl, rfl, rfl, rfl, rfl, trivial⟩
  · have h0 : L = 0 := by simpa using h
    have hz : l.length = 0 := by omega
    refine ⟨rfl, rfl, rfl, ?_, rfl, trivial⟩
    unfold trimN
    rw [hz, h0]
    rfl
noncomputable def gr54 (xs : List AV) (bs : List ABlk) : TL := match xs, bs with
  | [.slice 0 0 1 L .ow .unk, .str [0#8]], [⟨.bytes l, true, 1⟩] => .ok ⟨[L = l.length ∧ l.length < 1099511627776], .slice 0 0 1 (trimN 0#8 l) .os .unk, [some (some ⟨.bytes l, true, 1⟩)], []⟩
  | _, _ => .no
noncomputable def spr54 : Spec := ⟨[.kp, .kp], ioOwn, fun _ l => l.map fun _ => [], gr54⟩
theorem cr54 : COK Tryd.prog gl0 39 (mkF spr54) := by
  refine ctrE (fn := Tryd.f39) [] 3000 (by kernel_rfl) (by kernel_rfl) okJ78 (by kernel_rfl) (fun args w => by kernel_rfl) fun xs bs r hs ho => ?_
  simp only [spr54, gr54] at hs
  split at hs
  · simp only [TL.sel, Option.some.injEq] at hs
    subst hs
    have o := obsT_one.1 ho
    exact ⟨_, br54 _ _ o.1 o.2⟩
  · simp [TL.sel] at hs
noncomputable def J54 : Ctx := J78.add 39 (mkF spr54)
theorem okJ54 : COKs Tryd.prog gl0 J54 := okJ78.add cr54
def rOb (e : Int) : RL := ⟨[], .tup [.int .i64 0, .nils, .int .i64 e], [], []⟩
def rOg (t : Int) (L : Nat) (M : By) : RL := ⟨[], .tup [.int .i64 t, .slice 0 0 1 L (.kn L) .unk, .int .i64 0], [], [⟨.bytes M, true, 1⟩]⟩
def rOh (t : Int) (L : Nat) (M : By) : RL := ⟨[], .tup [.int .i64 t, .slice 0 0 1 L .os .unk, .int .i64 0], [], [⟨.bytes M, true, 1⟩]⟩
def ls25 (M : By) : LS := ⟨Nat, fun n => [(9, .slice 100 0 1 M.length .ow .unk), (11, .int .i64 (n : Int))], fun n => [(100, ⟨.bytes M, true, 1⟩)], 1000, fun n => n, fun n => n ≤ M.length ∧ trimAt 0#8 M n = trimN 0#8 M, fun _ => []⟩
end Go.Sym

namespace Go.Sym
open Go.Proofs Go.Spec
set_option linter.unusedVariables false
set_option maxRecDepth 100000 in
theorem vr24b (k iv : F8) (s : BitVec 64) (b : By) (e : Int) : bodyP Tryd.prog (J54.withSym [40, 48]) gl0 [] [] 3000 Tryd.f13 0 [.agg (row8 32 k ++ row8 12 iv), .u64 s, .rb false b .unk] [] (retQ Tryd.prog Tryd.f13 0 (rOb e)) = (
(fun (x1 : By) => (fun (x2 : Int) => (fun (x3 : List (BitVec 8)) => @Bool.rec (fun _ => Prop) (5 = x3.length ∧ List.length b + x3.length + 256 < 1099511627776 ∧ @Bool.rec (fun _ => Prop) ((List.length x1 = List.length x1 ∧ List.length x1 < 1099511627776) ∧ @Bool.rec (fun _ => Prop) ((0 : Int) = (0 : Int) ∧ e = (3 : Int) ∧ True) ((0 : Int) ≤ x2 ∧ x2.toNat < List.length x1 ∧ x2.toNat < List.length x1 ∧ @Bool.rec (fun _ => Prop) ((0 : Int) = (0 : Int) ∧ e = (3 : Int) ∧ True) (@Bool.rec (fun _ => Prop) ((0 : Int) ≤ x2 ∧ x2.toNat < List.length x1 ∧ x2.toNat < List.length x1 ∧ (0 : Int) ≤ x2 ∧ (0 : Int) ≤ x2 ∧ x2.toNat ≤ x2.toNat ∧ x2.toNat ≤ List.length x1 ∧ False) ((0 : Int) = (0 : Int) ∧ e = (3 : Int) ∧ True) !decide ((↑(List.getD x1 x2.toNat (0 : BitVec 8)).toNat : Int) ≤ (23 : Int))) (decide ((20 : Int) ≤ (↑(List.getD x1 x2.toNat (0 : BitVec 8)).toNat : Int)))) !decide (x2 < (0 : Int))) ((0 : Int) = (0 : Int) ∧ e = (4 : Int) ∧ True) !decide (openE (fun (i : Nat) => (rg 32 k).getD i (0 : BitVec 8)) (fun (i : Nat) => (rg 12 (nonB (fun (i : Nat) => (rgA k 0 32 (rg 12 iv)).getD (32 + i) (0 : BitVec 8)) s)).getD i (0 : BitVec 8)) b x3 = (0 : Int))) ((0 : Int) = (0 : Int) ∧ e = (1 : Int) ∧ True) (decide ((273 : Int) < (↑(List.length b) : Int)))) [BitVec.ofNat 8 23, BitVec.ofNat 8 3, BitVec.ofNat 8 3, BitVec.ofInt 8 ((↑(List.length b) : Int).fdiv (Int.ofNat 256)), BitVec.ofInt 8 (↑(List.length b) : Int)]) (IntKind.i64.wrap ((↑(trimN (BitVec.ofNat 8 0) x1) : Int) - (1 : Int)))) (openM (fun (i : Nat) => (rg 32 k).getD i (0 : BitVec 8)) (fun (i : Nat) => (rg 12 (nonB (fun (i : Nat) => (rgA k 0 32 (rg 12 iv)).getD (32 + i) (0 : BitVec 8)) s)).getD i (0 : BitVec 8)) b [BitVec.ofNat 8 23, BitVec.ofNat 8 3, BitVec.ofNat 8 3, BitVec.ofInt 8 ((↑(List.length b) : Int).fdiv (Int.ofNat 256)), BitVec.ofInt 8 (↑(List.length b) : Int)]) : Prop) := by kernel_rfl
set_option maxRecDepth 100000 in
theorem vr24g (k iv : F8) (s : BitVec 64) (b : By) (t : Int) (L : Nat) (M : By) : bodyP Tryd.prog (J54.withSym [40, 48]) gl0 [] [] 3000 Tryd.f13 0 [.agg (row8 32 k ++ row8 12 iv), .u64 s, .rb false b .unk] [] (retQ Tryd.prog Tryd.f13 0 (rOg t L M)) = (
(fun (x1 : By) => (fun (x2 : Int) => (fun (x3 : List (BitVec 8)) => @Bool.rec (fun _ => Prop) (5 = x3.length ∧ List.length b + x3.length + 256 < 1099511627776 ∧ @Bool.rec (fun _ => Prop) ((List.length x1 = List.length x1 ∧ List.length x1 < 1099511627776) ∧ @Bool.rec (fun _ => Prop) False ((0 : Int) ≤ x2 ∧ x2.toNat < List.length x1 ∧ x2.toNat < List.length x1 ∧ @Bool.rec (fun _ => Prop) False (@Bool.rec (fun _ => Prop) ((0 : Int) ≤ x2 ∧ x2.toNat < List.length x1 ∧ x2.toNat < List.length x1 ∧ (0 : Int) ≤ x2 ∧ (0 : Int) ≤ x2 ∧ x2.toNat ≤ x2.toNat ∧ x2.toNat ≤ List.length x1 ∧ t = (↑(List.getD x1 x2.toNat (0 : BitVec 8)).toNat : Int) ∧ L = x2.toNat ∧ 0 = 0 ∧ 0 = 0 ∧ L = x2.toNat ∧ (0 : Int) = (0 : Int) ∧ M = x1 ∧ True) False !decide ((↑(List.getD x1 x2.toNat (0 : BitVec 8)).toNat : Int) ≤ (23 : Int))) (decide ((20 : Int) ≤ (↑(List.getD x1 x2.toNat (0 : BitVec 8)).toNat : Int)))) !decide (x2 < (0 : Int))) False !decide (openE (fun (i : Nat) => (rg 32 k).getD i (0 : BitVec 8)) (fun (i : Nat) => (rg 12 (nonB (fun (i : Nat) => (rgA k 0 32 (rg 12 iv)).getD (32 + i) (0 : BitVec 8)) s)).getD i (0 : BitVec 8)) b x3 = (0 : Int))) False (decide ((273 : Int) < (↑(List.length b) : Int)))) [BitVec.ofNat 8 23, BitVec.ofNat 8 3, BitVec.ofNat 8 3, BitVec.ofInt 8 ((↑(List.length b) : Int).fdiv (Int.ofNat 256)), BitVec.ofInt 8 (↑(List.length b) : Int)]) (IntKind.i64.wrap ((↑(trimN (BitVec.ofNat 8 0) x1) : Int) - (1 : Int)))) (openM (fun (i : Nat) => (rg 32 k).getD i (0 : BitVec 8)) (fun (i : Nat) => (rg 12 (nonB (fun (i : Nat) => (rgA k 0 32 (rg 12 iv)).getD (32 + i) (0 : BitVec 8)) s)).getD i (0 : BitVec 8)) b [BitVec.ofNat 8 23, BitVec.ofNat 8 3, BitVec.ofNat 8 3, BitVec.ofInt 8 ((↑(List.length b) : Int).fdiv (Int.ofNat 256)), BitVec.ofInt 8 (↑(List.length b) : Int)]) : Prop) := by kernel_rfl
end Go.Sym

namespace Go.Spec
def headB (t : BitVec 8) (n : Int) : By := [t, BitVec.ofNat 8 3, BitVec.ofNat 8 3, BitVec.ofInt 8 (n.fdiv (Int.ofNat 256)), BitVec.ofInt 8 n]
/-- A key, as it is met; a number's nonce, as it is met. -/
def kk (k : F8) : F8 := fun i => (rg 32 k).getD i 0
def nn (k iv : F8) (s : BitVec 64) : F8 := fun i => (rg 12 (nonB (fun i => (rgA k 0 32 (rg 12 iv)).getD (32 + i) 0) s)).getD i 0
noncomputable def opM (k iv : F8) (s : BitVec 64) (b : By) : By := openM (kk k) (nn k iv s) b (headB (BitVec.ofNat 8 23) b.length)
noncomputable def opE (k iv : F8) (s : BitVec 64) (b : By) : Int := openE (kk k) (nn k iv s) b (headB (BitVec.ofNat 8 23) b.length)
/-- The last byte that isn't nought. -/
def lastT (M : By) : Int := ((M.getD (trimN 0#8 M - 1) 0).toNat : Int)
def isT (t : Int) : Bool := decide (20 ≤ t) && decide (t ≤ 23)
/-- Why a record isn't opened; nought: it is. -/
noncomputable def recE (k iv : F8) (s : BitVec 64) (b : By) : Int :=
  if 273 < b.length then 1 else if opE k iv s b = 0 then (if trimN 0#8 (opM k iv s b) = 0 then 3 else if isT (lastT (opM k iv s b)) = true then 0 else 3) else 4
theorem trimAt_le (x : BitVec 8) (l : By) : ∀ n, trimAt x l n ≤ n
  | 0 => Nat.le_refl _
  | n + 1 => by
    unfold trimAt
    split
    · exact Nat.le_trans (trimAt_le x l n) (Nat.le_succ n)
    · exact Nat.le_refl _
theorem trimN_le (x : BitVec 8) (l : By) : trimN x l ≤ l.length := trimAt_le x l _
end Go.Spec
namespace Go.Sym
open Go.Proofs Go.Spec
set_option linter.unusedVariables false
end Go.Sym

namespace Go.Sym
open Go.Proofs Go.Spec
set_option linter.unusedVariables false
end Go.Sym

namespace Go.Spec
theorem openM_le (k n : F8) (b m : By) : (openM k n b m).length ≤ b.length := by
  unfold openM
  split
  · simp
  · split
    · rw [txtS, strL_length, List.length_take]
      omega
    · simp
theorem opM_le (k iv : F8) (s : BitVec 64) (b : By) : (opM k iv s b).length ≤ b.length := openM_le _ _ _ _
theorem opM_eq (k iv : F8) (s : BitVec 64) (b : By) : openM (fun (i : Nat) => (rg 32 k).getD i (0 : BitVec 8)) (fun (i : Nat) => (rg 12 (nonB (fun (i : Nat) => (rgA k 0 32 (rg 12 iv)).getD (32 + i) (0 : BitVec 8)) s)).getD i (0 : BitVec 8)) b [BitVec.ofNat 8 23, BitVec.ofNat 8 3, BitVec.ofNat 8 3, BitVec.ofInt 8 ((↑(List.length b) : Int).fdiv (Int.ofNat 256)), BitVec.ofInt 8 (↑(List.length b) : Int)] = opM k iv s b := rfl
theorem opE_eq (k iv : F8) (s : BitVec 64) (b : By) : openE (fun (i : Nat) => (rg 32 k).getD i (0 : BitVec 8)) (fun (i : Nat) => (rg 12 (nonB (fun (i : Nat) => (rgA k 0 32 (rg 12 iv)).getD (32 + i) (0 : BitVec 8)) s)).getD i (0 : BitVec 8)) b [BitVec.ofNat 8 23, BitVec.ofNat 8 3, BitVec.ofNat 8 3, BitVec.ofInt 8 ((↑(List.length b) : Int).fdiv (Int.ofNat 256)), BitVec.ofInt 8 (↑(List.length b) : Int)] = opE k iv s b := rfl
theorem recE_1 {k iv : F8} {s : BitVec 64} {b : By} (h : 273 < b.length) : recE k iv s b = 1 := by unfold recE; rw [if_pos h]
theorem recE_4 {k iv : F8} {s : BitVec 64} {b : By} (h : ¬ 273 < b.length) (h2 : ¬ opE k iv s b = 0) : recE k iv s b = 4 := by unfold recE; rw [if_neg h, if_neg h2]
theorem recE_3a {k iv : F8} {s : BitVec 64} {b : By} (h : ¬ 273 < b.length) (h2 : opE k iv s b = 0) (h3 : trimN 0#8 (opM k iv s b) = 0) : recE k iv s b = 3 := by unfold recE; rw [if_neg h, if_pos h2, if_pos h3]
theorem recE_3b {k iv : F8} {s : BitVec 64} {b : By} (h : ¬ 273 < b.length) (h2 : opE k iv s b = 0) (h3 : ¬ trimN 0#8 (opM k iv s b) = 0) (h4 : ¬ isT (lastT (opM k iv s b)) = true) : recE k iv s b = 3 := by unfold recE; rw [if_neg h, if_pos h2, if_neg h3, if_neg h4]
theorem recE_0 {k iv : F8} {s : BitVec 64} {b : By} (h : ¬ 273 < b.length) (h2 : opE k iv s b = 0) (h3 : ¬ trimN 0#8 (opM k iv s b) = 0) (h4 : isT (lastT (opM k iv s b)) = true) : recE k iv s b = 0 := by unfold recE; rw [if_neg h, if_pos h2, if_neg h3, if_pos h4]
theorem recE_ok {k iv : F8} {s : BitVec 64} {b : By} (h : recE k iv s b = 0) : ¬ 273 < b.length ∧ opE k iv s b = 0 ∧ ¬ trimN 0#8 (opM k iv s b) = 0 ∧ isT (lastT (opM k iv s b)) = true := by
  unfold recE at h
  split at h
  · cases h
  · split at h
    · split at h
      · cases h
      · split at h
        · exact ⟨by assumption, by assumption, by assumption, by assumption⟩
        · cases h
    · cases h
theorem isT_ok {t : Int} (h : isT t = true) : 20 ≤ t ∧ t ≤ 23 := by simpa [isT] using h
end Go.Spec
namespace Go.Sym
open Go.Proofs Go.Spec
set_option linter.unusedVariables false
theorem wr1 {n : Nat} (h : n ≠ 0) (h2 : n < 1099511627776) : IntKind.i64.wrap ((n : Int) - 1) = ((n - 1 : Nat) : Int) := wrap_nat _ (by omega) (by omega)
theorem br24g (k iv : F8) (s : BitVec 64) (b : By) (hb : b.length < 549755813888) (h : recE k iv s b = 0) : Must (bodyP Tryd.prog (J54.withSym [40, 48]) gl0 [] [] 3000 Tryd.f13 0 [.agg (row8 32 k ++ row8 12 iv), .u64 s, .rb false b .unk] [] (retQ Tryd.prog Tryd.f13 0 (rOg (lastT (opM k iv s b)) (trimN 0#8 (opM k iv s b) - 1) (opM k iv s b)))) := by
  constructor
  rw [vr24g]
  set_option simprocs false in dsimp only
  rw [opM_eq, opE_eq]
  obtain ⟨h1, h2, h3, h4⟩ := recE_ok h
  have hM := opM_le k iv s b
  have hN := trimN_le 0#8 (opM k iv s b)
  obtain ⟨t1, t2⟩ := isT_ok h4
  have e0 : trimN (BitVec.ofNat 8 0) (opM k iv s b) = trimN 0#8 (opM k iv s b) := rfl
  rw [e0, wr1 h3 (by omega), Int.toNat_natCast]
  have e1 : ((List.getD (opM k iv s b) (trimN 0#8 (opM k iv s b) - 1) (0 : BitVec 8)).toNat : Int) = lastT (opM k iv s b) := rfl
  rw [e1]
  have d1 : decide ((273 : Int) < (b.length : Int)) = false := decide_eq_false (by omega)
  have d3 : decide (((trimN 0#8 (opM k iv s b) - 1 : Nat) : Int) < 0) = false := decide_eq_false (by omega)
  rw [d1, h2, d3, decide_eq_true t1, decide_eq_true t2]
  refine ⟨rfl, by simp only [List.length_cons, List.length_nil]; omega, ⟨rfl, by omega⟩, ?_⟩
  exact ⟨by omega, by omega, by omega, by omega, by omega, by omega, by omega, by omega, by omega, by omega, rfl, rfl, rfl, rfl, rfl, rfl, rfl, trivial⟩
theorem br24b (k iv : F8) (s : BitVec 64) (b : By) (hb : b.length < 549755813888) (h : ¬ recE k iv s b = 0) : Must (bodyP Tryd.prog (J54.withSym [40, 48]) gl0 [] [] 3000 Tryd.f13 0 [.agg (row8 32 k ++ row8 12 iv), .u64 s, .rb false b .unk] [] (retQ Tryd.prog Tryd.f13 0 (rOb (recE k iv s b)))) := by
  constructor
  rw [vr24b]
  set_option simprocs false in dsimp only
  rw [opM_eq, opE_eq]
  have hM := opM_le k iv s b
  have hN := trimN_le 0#8 (opM k iv s b)
  have e0 : trimN (BitVec.ofNat 8 0) (opM k iv s b) = trimN 0#8 (opM k iv s b) := rfl
  rw [e0]
  refine brec (fun c1 => ?_) (fun c1 => ?_)
  · exact ⟨rfl, recE_1 (by have := of_decide_eq_true c1; omega), trivial⟩
  · have g1 : ¬ 273 < b.length := by have := of_decide_eq_false c1; omega
    refine ⟨rfl, by simp only [List.length_cons, List.length_nil]; omega, brec (fun c2 => ?_) (fun c2 => ?_)⟩
    · exact ⟨rfl, recE_4 g1 (by simpa using c2), trivial⟩
    · have g2 : opE k iv s b = 0 := by simpa using c2
      refine ⟨⟨rfl, by omega⟩, ?_⟩
      by_cases h3 : trimN 0#8 (opM k iv s b) = 0
      · have e := recE_3a g1 g2 h3
        have d3 : decide (IntKind.i64.wrap ((trimN 0#8 (opM k iv s b) : Int) - 1) < 0) = true := by rw [h3]; rfl
        rw [d3]
        exact ⟨rfl, e, trivial⟩
      · rw [wr1 h3 (by omega), Int.toNat_natCast]
        have e1 : ((List.getD (opM k iv s b) (trimN 0#8 (opM k iv s b) - 1) (0 : BitVec 8)).toNat : Int) = lastT (opM k iv s b) := rfl
        rw [e1]
        have d3 : decide (((trimN 0#8 (opM k iv s b) - 1 : Nat) : Int) < 0) = false := decide_eq_false (by omega)
        rw [d3]
        refine ⟨by omega, by omega, by omega, brec (fun c4 => ?_) (fun c4 => ?_)⟩
        · refine brec (fun c5 => ?_) (fun c5 => ?_)
          · refine ⟨rfl, recE_3b g1 g2 h3 ?_, trivial⟩
            have c5 : ¬ lastT (opM k iv s b) ≤ 23 := by simpa using c5
            intro ht
            exact c5 (isT_ok ht).2
          · exfalso
            have c4 : 20 ≤ lastT (opM k iv s b) := by simpa using c4
            have c5 : lastT (opM k iv s b) ≤ 23 := by simpa using c5
            exact h (recE_0 g1 g2 h3 (by simp [isT, c4, c5]))
        · refine ⟨rfl, recE_3b g1 g2 h3 ?_, trivial⟩
          have c4 : ¬ 20 ≤ lastT (opM k iv s b) := by simpa using c4
          intro ht
          exact c4 (isT_ok ht).1
end Go.Sym

namespace Go.Spec
noncomputable def opK (k iv : F8) (s : BitVec 64) (b : By) : Bool := openK (kk k) (nn k iv s) b (headB (BitVec.ofNat 8 23) b.length)
theorem opK_eq (k iv : F8) (s : BitVec 64) (b : By) : openK (fun (i : Nat) => (rg 32 k).getD i (0 : BitVec 8)) (fun (i : Nat) => (rg 12 (nonB (fun (i : Nat) => (rgA k 0 32 (rg 12 iv)).getD (32 + i) (0 : BitVec 8)) s)).getD i (0 : BitVec 8)) b [BitVec.ofNat 8 23, BitVec.ofNat 8 3, BitVec.ofNat 8 3, BitVec.ofInt 8 ((↑(List.length b) : Int).fdiv (Int.ofNat 256)), BitVec.ofInt 8 (↑(List.length b) : Int)] = opK k iv s b := rfl
theorem opK_opE (k iv : F8) (s : BitVec 64) (b : By) : opK k iv s b = decide (opE k iv s b = 0) := by
  unfold opK opE openK openE
  split
  · rfl
  · split <;> rfl
theorem trimAt_stop {x : BitVec 8} {l : By} {n : Nat} (h : n ≠ 0) (h2 : ¬ l.getD (n - 1) 0 = x) : trimAt x l n = n := by
  obtain ⟨q, rfl⟩ : ∃ q, n = q + 1 := ⟨n - 1, by omega⟩
  rw [Nat.add_sub_cancel] at h2
  simp only [trimAt, if_neg h2]
theorem trimAt_go {x : BitVec 8} {l : By} {n : Nat} (h : n ≠ 0) (h2 : l.getD (n - 1) 0 = x) : trimAt x l (n - 1) = trimAt x l n := by
  obtain ⟨q, rfl⟩ : ∃ q, n = q + 1 := ⟨n - 1, by omega⟩
  rw [Nat.add_sub_cancel] at *
  simp only [trimAt, if_pos h2]
end Go.Spec
namespace Go.Sym
open Go.Proofs Go.Spec
set_option linter.unusedVariables false
end Go.Sym

namespace Go.Sym
open Go.Proofs Go.Spec
set_option linter.unusedVariables false
noncomputable def gr24 (xs : List AV) (bs : List ABlk) : TL := match xs, bs with
  | [.agg ks, .u64 s, .rb false b .unk], [] => asK ks fun k iv => .br (decide (recE k iv s b = 0)) (.ok ⟨[b.length < 549755813888], .tup [.int .i64 (lastT (opM k iv s b)), .slice 0 0 1 (trimN 0#8 (opM k iv s b) - 1) (.kn (trimN 0#8 (opM k iv s b) - 1)) .unk, .int .i64 0], [], [⟨.bytes (opM k iv s b), true, 1⟩]⟩)
      (.ok ⟨[b.length < 549755813888], .tup [.int .i64 0, .nils, .int .i64 (recE k iv s b)], [], []⟩)
  | _, _ => .no
noncomputable def spr24 : Spec := ⟨[.kp, .kp, .by0], fun _ _ => [], fun _ _ => [], gr24⟩
noncomputable def gr25 (xs : List AV) (bs : List ABlk) : TL := match xs, bs with
  | [.agg ks, .u64 s, .rb false b .unk], [] => asK ks fun k iv => .br (decide (recE k iv s b = 0)) (.ok ⟨[b.length < 549755813888], .tup [.int .i64 (lastT (opM k iv s b)), .slice 0 0 1 (trimN 0#8 (opM k iv s b) - 1) .os .unk, .int .i64 0], [], [⟨.bytes (opM k iv s b), true, 1⟩]⟩)
      (.ok ⟨[b.length < 549755813888], .tup [.int .i64 0, .nils, .int .i64 (recE k iv s b)], [], []⟩)
  | _, _ => .no
noncomputable def spr25 : Spec := ⟨[.kp, .kp, .by0], fun _ _ => [], fun _ _ => [], gr25⟩
theorem cr24 : COK Tryd.prog gl0 13 (mkF spr24) := by
  refine ctrE (fn := Tryd.f13) [] 3000 (by kernel_rfl) (by kernel_rfl) (okJ54.withSym [40, 48]) (by kernel_rfl) (fun args w => by kernel_rfl) fun xs bs r hs ho => ?_
  simp only [spr24, gr24] at hs
  split at hs
  · rename_i ks s b
    obtain ⟨k, iv, e, hs⟩ := asK_sel hs
    rw [e]
    by_cases h : recE k iv s b = 0
    · simp only [decide_eq_true h, TL.sel, Option.some.injEq] at hs
      subst hs
      exact ⟨_, br24g k iv _ _ (obsT_one.1 ho) h⟩
    · simp only [decide_eq_false h, TL.sel, Option.some.injEq] at hs
      subst hs
      exact ⟨_, br24b k iv _ _ (obsT_one.1 ho) h⟩
  · simp [TL.sel] at hs
noncomputable def J24 : Ctx := J54.add 13 (mkF spr24)
noncomputable def J25 : Ctx := J24
theorem okJ25 : COKs Tryd.prog gl0 J25 := okJ54.add cr24
def rSb : RL := ⟨[], .tup [.nils, .int .i64 1], [], []⟩
def rSg (L : Nat) (M : By) : RL := ⟨[], .tup [.slice 0 0 1 L .ow .unk, .int .i64 0], [], [⟨.bytes M, true, 1⟩]⟩
def rTb : RL := ⟨[], .tup [.nils, .bool false], [], []⟩
def rTg (L : Nat) (M : By) : RL := ⟨[], .tup [.slice 0 0 1 L .ow .unk, .bool true], [], [⟨.bytes M, true, 1⟩]⟩
end Go.Sym
