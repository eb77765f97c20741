/- The same by the document; greetings told in other types. -/
import Derived.Test.YtmpgpbbaloiniaaDoorHelB
namespace Go.Spec
open Go.Sym
/-- Two bytes of a number, whatever it is. -/
def u2 (n : Int) : By := [BitVec.ofInt 8 (n.fdiv (Int.ofNat 256)), BitVec.ofInt 8 n]
theorem u2_puL {n : Int} (h : 0 ≤ n) : u2 n = puL n.toNat 2 := by
  obtain ⟨m, rfl⟩ := Int.eq_ofNat_of_zero_le h
  have e : ((m : Nat) : Int).fdiv (Int.ofNat 256) = ((m / 256 : Nat) : Int) := by rw [Int.fdiv_eq_ediv_of_nonneg _ (by decide)]; rfl
  unfold u2
  rw [e, BitVec.ofInt_natCast, BitVec.ofInt_natCast]
  show _ = [BitVec.ofNat 8 (m / 256 ^ 1), BitVec.ofNat 8 (m / 256 ^ 0)]
  rw [Nat.pow_one, Nat.pow_zero, Nat.div_one]
theorem puB_u2 (b : By) {n : Int} (h : 0 ≤ n) : b ++ u2 n = puB b n 2 := by
  rw [u2_puL h]
  rfl
def w1 (v : By) : By := [BitVec.ofInt 8 ((v.length : Int).fdiv (Int.ofNat 1))]
def w2 (v : By) : By := [BitVec.ofInt 8 ((v.length : Int).fdiv (Int.ofNat 256))]
theorem w1_eq (v : By) : w1 v ++ v = pvB [] v 1 := by
  have e : (v.length : Int).fdiv (Int.ofNat 1) = (v.length : Int) := by rw [Int.fdiv_eq_ediv_of_nonneg _ (by decide)]; exact Int.ediv_one _
  unfold w1 pvB puB
  rw [e, BitVec.ofInt_natCast]
  show _ = [] ++ [BitVec.ofNat 8 (v.length / 256 ^ 0)] ++ v
  rw [Nat.pow_zero, Nat.div_one]
  rfl
theorem w2_eq (v : By) : w2 v ++ w1 v ++ v = pvB [] v 2 := by
  have h := u2_puL (n := (v.length : Int)) (by omega)
  have e : (v.length : Int).fdiv (Int.ofNat 1) = (v.length : Int) := by rw [Int.fdiv_eq_ediv_of_nonneg _ (by decide)]; exact Int.ediv_one _
  have e2 : w2 v ++ w1 v = u2 (v.length : Int) := by unfold w2 w1 u2; rw [e]; rfl
  rw [e2, h]
  rfl
/-- Vectors stand one behind the other. -/
theorem pvB_app (b v : By) (w : Int) : b ++ pvB [] v w = pvB b v w := by
  unfold pvB puB
  rw [List.nil_append, List.append_assoc]
end Go.Spec
namespace Go.Sym
open Go.Proofs Go.Spec
set_option linter.unusedVariables false
theorem vd41 (n : Int) (k : Nat) (B : By) : bodyP Tryd.prog Hp5 gl0 [] [] 3000 Tryd.f41 0 [.int .i64 n] [] (retQ Tryd.prog Tryd.f41 0 (rNu k B)) = (
0 = 0 ∧ 0 = 0 ∧ 0 = 0 ∧ k = 2 ∧ B = u2 n ∧ True) := by kernel_rfl
theorem vd42a (v : By) (k : Nat) (B : By) : bodyP Tryd.prog Hp5 gl0 [] [] 3000 Tryd.f42 0 [.rb false v .unk, .int .i64 1] [] (retQ Tryd.prog Tryd.f42 0 (rNu k B)) = (
(0 : Int) ≤ Int.ofNat 0 ∧ 1 = (w1 v).length ∧ roomFor 0 (w1 v).length 1 ∧ (w1 v).length = (w1 v).length ∧ roomFor (w1 v).length (List.length v) 1 ∧ 0 = 0 ∧ 0 = 0 ∧ 0 = 0 ∧ k = (w1 v).length + List.length v ∧ B = w1 v ++ v ∧ True) := by kernel_rfl
theorem vd42b (v : By) (k : Nat) (B : By) : bodyP Tryd.prog Hp5 gl0 [] [] 3000 Tryd.f42 0 [.rb false v .unk, .int .i64 2] [] (retQ Tryd.prog Tryd.f42 0 (rNu k B)) = (
(0 : Int) ≤ Int.ofNat 8 ∧ 1 = (w2 v).length ∧ roomFor 0 (w2 v).length 1 ∧ (0 : Int) ≤ Int.ofNat 0 ∧ 1 = (w1 v).length ∧ (w2 v).length = (w2 v).length ∧ roomFor (w2 v).length (w1 v).length 1 ∧ (w2 v).length + (w1 v).length = (w2 v ++ w1 v).length ∧ roomFor ((w2 v).length + (w1 v).length) (List.length v) 1 ∧ 0 = 0 ∧ 0 = 0 ∧ 0 = 0 ∧ k = (w2 v).length + (w1 v).length + List.length v ∧ B = w2 v ++ w1 v ++ v ∧ True) := by kernel_rfl
theorem bd41 (n : Int) : Must (bodyP Tryd.prog Hp5 gl0 [] [] 3000 Tryd.f41 0 [.int .i64 n] [] (retQ Tryd.prog Tryd.f41 0 (rNu 2 (u2 n)))) := by
  constructor
  rw [vd41]
  exact ⟨rfl, rfl, rfl, rfl, rfl, trivial⟩
theorem bd42a (v : By) (h : v.length ≤ 140737488351232) : Must (bodyP Tryd.prog Hp5 gl0 [] [] 3000 Tryd.f42 0 [.rb false v .unk, .int .i64 1] [] (retQ Tryd.prog Tryd.f42 0 (rNu (pvB [] v 1).length (pvB [] v 1)))) := by
  constructor
  rw [vd42a, ← w1_eq, List.length_append]
  have e : (w1 v).length = 1 := rfl
  rw [e]
  exact ⟨by decide, rfl, by unfold roomFor; decide, rfl, by unfold roomFor; omega, rfl, rfl, rfl, rfl, rfl, trivial⟩
theorem bd42b (v : By) (h : v.length ≤ 140737488351232) : Must (bodyP Tryd.prog Hp5 gl0 [] [] 3000 Tryd.f42 0 [.rb false v .unk, .int .i64 2] [] (retQ Tryd.prog Tryd.f42 0 (rNu (pvB [] v 2).length (pvB [] v 2)))) := by
  constructor
  rw [vd42b, ← w2_eq, List.length_append, List.length_append]
  have e : (w1 v).length = 1 := rfl
  have e2 : (w2 v).length = 1 := rfl
  rw [e, e2]
  exact ⟨by decide, rfl, by unfold roomFor; decide, by decide, rfl, rfl, by unfold roomFor; decide, rfl, by unfold roomFor; omega, rfl, rfl, rfl, rfl, rfl, trivial⟩
def gd41 (xs : List AV) (bs : List ABlk) : TL := match xs, bs with
  | [.int .i64 n], [] => .ok ⟨[], .slice 0 0 1 2 .ow .unk, [], [⟨.bytes (u2 n), true, 1⟩]⟩
  | _, _ => .no
def spd41 : Spec := ⟨[.kp], fun _ _ => [], fun _ _ => [], gd41⟩
theorem cd41 : COK Tryd.prog gl0 41 (mkF spd41) := by
  refine ctrE (fn := Tryd.f41) [] 3000 (by kernel_rfl) (by kernel_rfl) okHp5 (by kernel_rfl) (fun args w => by kernel_rfl) fun xs bs r hs ho => ?_
  replace hs : (gd41 xs bs).sel = some r := hs
  unfold gd41 at hs
  split at hs
  · rename_i n
    simp only [TL.sel, Option.some.injEq] at hs
    subst hs
    exact ⟨_, bd41 n⟩
  · simp [TL.sel] at hs
def gd42 (xs : List AV) (bs : List ABlk) : TL := match xs, bs with
  | [.rb false v .unk, .int .i64 1], [] => .ok ⟨[v.length ≤ 140737488351232], .slice 0 0 1 (pvB [] v 1).length .ow .unk, [], [⟨.bytes (pvB [] v 1), true, 1⟩]⟩
  | [.rb false v .unk, .int .i64 2], [] => .ok ⟨[v.length ≤ 140737488351232], .slice 0 0 1 (pvB [] v 2).length .ow .unk, [], [⟨.bytes (pvB [] v 2), true, 1⟩]⟩
  | _, _ => .no
def spd42 : Spec := ⟨[.by0, .kp], fun _ _ => [], fun _ _ => [], gd42⟩
theorem cd42 : COK Tryd.prog gl0 42 (mkF spd42) := by
  refine ctrE (fn := Tryd.f42) [] 3000 (by kernel_rfl) (by kernel_rfl) okHp5 (by kernel_rfl) (fun args w => by kernel_rfl) fun xs bs r hs ho => ?_
  replace hs : (gd42 xs bs).sel = some r := hs
  unfold gd42 at hs
  split at hs
  · simp only [TL.sel, Option.some.injEq] at hs
    subst hs
    exact ⟨_, bd42a _ (obsT_one.1 ho)⟩
  · simp only [TL.sel, Option.some.injEq] at hs
    subst hs
    exact ⟨_, bd42b _ (obsT_one.1 ho)⟩
  · simp [TL.sel] at hs
noncomputable def Ge1 : Ctx := (Hp5.add 41 (mkF spd41)).add 42 (mkF spd42)
theorem okGe1 : COKs Tryd.prog gl0 Ge1 := (okHp5.add cd41).add cd42
def lsLi (n : Nat) (L : Nat → Int) : LS := ⟨Nat, fun j => [(0, inR true n L .unk), (3, .slice 100 0 1 (2 * j) .ow .unk), (4, .int .i64 j)], fun j => [(100, ⟨.bytes (chN L j), true, 1⟩)], 1000, fun j => n - j, fun j => j ≤ n, fun _ => []⟩
end Go.Sym

namespace Go.Sym
open Go.Proofs Go.Spec
set_option linter.unusedVariables false
theorem vd43 (n : Int) (v : By) (k : Nat) (B : By) : bodyP Tryd.prog Ge1 gl0 [] [] 3000 Tryd.f43 0 [.int .i64 n, .rb false v .unk] [] (retQ Tryd.prog Tryd.f43 0 (rNu k B)) = (
List.length v ≤ (140737488351232 : Nat) ∧ List.length (pvB [] v (2 : Int)) = List.length (pvB [] v (2 : Int)) ∧ (2 : Nat) = List.length (u2 n) ∧ roomFor (2 : Nat) (List.length (pvB [] v (2 : Int))) (1 : Nat) ∧ (0 : Nat) = (0 : Nat) ∧ (0 : Nat) = (0 : Nat) ∧ (0 : Nat) = (0 : Nat) ∧ k = (2 : Nat) + List.length (pvB [] v (2 : Int)) ∧ B = u2 n ++ pvB [] v (2 : Int) ∧ True) := by kernel_rfl
theorem vd44 (n : Nat) (L : Nat → Int) (u : NL) (k : Nat) (B : By) : bodyP Tryd.prog Ge1 gl0 [] [(4, lsLi n L)] 3000 Tryd.f44 0 [inR true n L u] [] (retQ Tryd.prog Tryd.f44 0 (rNu k B)) = (
(∃ (x : Nat), x.le n ∧ n = n ∧ (∀ (y : Nat), y < n → datas Bool.true [AV.int IntKind.i64 (L y)] = Bool.true ∧ L y = L y ∧ True) ∧ (2 : Nat) * x = (0 : Nat) ∧ (↑x : Int) = (0 : Int) ∧ chN L x = [] ∧ True) ∧ ∀ (x : Nat), x.le n → @Bool.rec (fun _ => Prop) ((0 : Nat) = (0 : Nat) ∧ (0 : Nat) = (0 : Nat) ∧ (0 : Nat) = (0 : Nat) ∧ k = (2 : Nat) * x ∧ B = chN L x ∧ True) ((0 : Int) ≤ (↑x : Int) ∧ (↑x : Int).toNat < n ∧ (2 : Nat) = List.length (u2 (L (↑x : Int).toNat)) ∧ (2 : Nat) * x = List.length (chN L x) ∧ roomFor ((2 : Nat) * x) (List.length (u2 (L (↑x : Int).toNat))) (1 : Nat) ∧ ∃ (y : Nat), n - y < n - x ∧ y.le n ∧ n = n ∧ (∀ (y : Nat), y < n → datas Bool.true [AV.int IntKind.i64 (L y)] = Bool.true ∧ L y = L y ∧ True) ∧ (0 : Nat) = (0 : Nat) ∧ (0 : Nat) = (0 : Nat) ∧ (0 : Nat) = (0 : Nat) ∧ (2 : Nat) * y = (2 : Nat) * x + List.length (u2 (L (↑x : Int).toNat)) ∧ (↑y : Int) = IntKind.i64.wrap ((↑x : Int) + (1 : Int)) ∧ chN L y = chN L x ++ u2 (L (↑x : Int).toNat) ∧ True) (decide ((↑x : Int) < (↑n : Int)))) := by kernel_rfl
theorem exB_app (b : By) {n : Int} (h : 0 ≤ n) (v : By) : b ++ (u2 n ++ pvB [] v 2) = exB b n v := by
  unfold exB
  rw [← List.append_assoc, puB_u2 b h, pvB_app]
theorem bd43 (n : Int) (v : By) (hn : 0 ≤ n) (h : v.length < 1099511627776) : Must (bodyP Tryd.prog Ge1 gl0 [] [] 3000 Tryd.f43 0 [.int .i64 n, .rb false v .unk] [] (retQ Tryd.prog Tryd.f43 0 (rNu (exB [] n v).length (exB [] n v)))) := by
  constructor
  have e := exB_app [] hn v
  have l : (pvB [] v 2).length = 0 + 2 + v.length := pvB2 [] v
  rw [vd43, ← e, List.nil_append, List.length_append]
  exact ⟨by omega, rfl, rfl, by unfold roomFor; omega, rfl, rfl, rfl, rfl, rfl, trivial⟩
theorem bd44 (n : Nat) (L : Nat → Int) (u : NL) (hn : n < 1099511627) (h : isU L n) : Must (bodyP Tryd.prog Ge1 gl0 [] [(4, lsLi n L)] 3000 Tryd.f44 0 [inR true n L u] [] (retQ Tryd.prog Tryd.f44 0 (rNu (2 * n) (chN L n)))) := by
  constructor
  rw [vd44]
  refine ⟨⟨0, Nat.zero_le _, rfl, fun _ _ => ⟨rfl, rfl, trivial⟩, rfl, rfl, rfl, trivial⟩, fun x hx => ?_⟩
  have hx : x ≤ n := hx
  have hl := chN_len L x
  refine brec (fun d => ?_) (fun d => ?_)
  · have d : (x : Int) < n := of_decide_eq_true d
    rw [Int.toNat_natCast]
    refine ⟨Int.natCast_nonneg _, by omega, rfl, hl.symm, by unfold roomFor; show _ ; have e : (u2 (L x)).length = 2 := rfl; rw [e]; omega, x + 1, by omega, (by show x + 1 ≤ n; omega), rfl, fun _ _ => ⟨rfl, rfl, trivial⟩, rfl, rfl, rfl, ?_, (wrap_nat (x + 1) (by omega) (by omega)).symm, ?_, trivial⟩
    · have e : (u2 (L x)).length = 2 := rfl
      rw [e]
      omega
    · rw [chN, puB_u2 _ (h x (by omega)).1]
  · have d : ¬ (x : Int) < n := of_decide_eq_false d
    obtain rfl : x = n := by omega
    exact ⟨rfl, rfl, rfl, rfl, rfl, trivial⟩
def gd43 (xs : List AV) (bs : List ABlk) : TL := match xs, bs with
  | [.int .i64 n, .rb false v .unk], [] => .ok ⟨[0 ≤ n, v.length < 1099511627776], .slice 0 0 1 (exB [] n v).length .ow .unk, [], [⟨.bytes (exB [] n v), true, 1⟩]⟩
  | _, _ => .no
def spd43 : Spec := ⟨[.kp, .by0], fun _ _ => [], fun _ _ => [], gd43⟩
theorem cd43 : COK Tryd.prog gl0 43 (mkF spd43) := by
  refine ctrE (fn := Tryd.f43) [] 3000 (by kernel_rfl) (by kernel_rfl) okGe1 (by kernel_rfl) (fun args w => by kernel_rfl) fun xs bs r hs ho => ?_
  replace hs : (gd43 xs bs).sel = some r := hs
  unfold gd43 at hs
  split at hs
  · simp only [TL.sel, Option.some.injEq] at hs
    subst hs
    obtain ⟨h, h1⟩ := obsT_cons.1 ho
    exact ⟨_, bd43 _ _ h (obsT_one.1 h1)⟩
  · simp [TL.sel] at hs
def gd44 (xs : List AV) (bs : List ABlk) : TL := match xs, bs with
  | [.ros true 1 n g nl], [] => .ok ⟨[isRowI g, n < 1099511627, isU (rowI g) n], .slice 0 0 1 (2 * n) .ow .unk, [], [⟨.bytes (chN (rowI g) n), true, 1⟩]⟩
  | _, _ => .no
def spd44 : Spec := ⟨[.r 1], fun _ _ => [], fun _ _ => [], gd44⟩
theorem cd44 : COK Tryd.prog gl0 44 (mkF spd44) := by
  refine ctrE (fn := Tryd.f44) [] 3000 (by kernel_rfl) (by kernel_rfl) okGe1 (by kernel_rfl) (fun args w => by kernel_rfl) fun xs bs r hs ho => ?_
  replace hs : (gd44 xs bs).sel = some r := hs
  unfold gd44 at hs
  split at hs
  · rename_i n g nl
    simp only [TL.sel, Option.some.injEq] at hs
    subst hs
    obtain ⟨h, h1, h2⟩ := obs3 ho
    have hb := bd44 n (rowI g) nl h1 h2
    have e : inR true n (rowI g) nl = .ros true 1 n g nl := by
      show AV.ros true 1 n (fun j => [.int .i64 (rowI g j)]) nl = _
      rw [← h]
    refine ⟨[(4, lsLi n (rowI g))], ?_⟩
    rw [e] at hb
    exact hb
  · simp [TL.sel] at hs
noncomputable def Ge2 : Ctx := (Ge1.add 43 (mkF spd43)).add 44 (mkF spd44)
theorem okGe2 : COKs Tryd.prog gl0 Ge2 := (okGe1.add cd43).add cd44
def lsAl (n : Nat) (L : Nat → Int) (m : Int) : LS := ⟨Nat, fun j => [(0, inR true n L .unk), (1, .int .i64 m), (5, .int .i64 j)], fun j => [], 1000, fun j => n - j, fun j => j ≤ n ∧ isU L j, fun _ => []⟩
end Go.Sym

namespace Go.Sym
open Go.Proofs Go.Spec
set_option linter.unusedVariables false
theorem vd39 (n : Nat) (L : Nat → Int) (u : NL) (m : Int) (z : Bool) : bodyP Tryd.prog Ge2 gl0 [] [(3, lsAl n L m)] 3000 Tryd.f39 0 [inR true n L u, .int .i64 m] [] (retQ Tryd.prog Tryd.f39 0 ⟨[], .bool z, [], []⟩) = (
(∃ (x : Nat), (x ≤ n ∧ ∀ (j : Nat), j < x → (0 : Int) ≤ L j ∧ L j ≤ (65535 : Int)) ∧ n = n ∧ (∀ (y : Nat), y < n → datas Bool.true [AV.int IntKind.i64 (L y)] = Bool.true ∧ L y = L y ∧ True) ∧ m = m ∧ (↑x : Int) = (0 : Int) ∧ True) ∧ ∀ (x : Nat), (x ≤ n ∧ ∀ (j : Nat), j < x → (0 : Int) ≤ L j ∧ L j ≤ (65535 : Int)) → @Bool.rec (fun _ => Prop) (z = decide ((↑n : Int) ≤ m) ∧ True) ((0 : Int) ≤ (↑x : Int) ∧ (↑x : Int).toNat < n ∧ @Bool.rec (fun _ => Prop) (z = Bool.false ∧ True) ((0 : Int) ≤ (↑x : Int) ∧ (↑x : Int).toNat < n ∧ @Bool.rec (fun _ => Prop) (∃ (y : Nat), n - y < n - x ∧ (y ≤ n ∧ ∀ (j : Nat), j < y → (0 : Int) ≤ L j ∧ L j ≤ (65535 : Int)) ∧ n = n ∧ (∀ (y : Nat), y < n → datas Bool.true [AV.int IntKind.i64 (L y)] = Bool.true ∧ L y = L y ∧ True) ∧ m = m ∧ (↑y : Int) = IntKind.i64.wrap ((↑x : Int) + (1 : Int)) ∧ True) (z = Bool.false ∧ True) (decide ((65535 : Int) < L (↑x : Int).toNat))) (!decide (L (↑x : Int).toNat < (0 : Int)))) (decide ((↑x : Int) < (↑n : Int)))) := by kernel_rfl
theorem bd39 (n : Nat) (L : Nat → Int) (u : NL) (m : Int) (hn : n < 4611686018427387904) : Must (bodyP Tryd.prog Ge2 gl0 [] [(3, lsAl n L m)] 3000 Tryd.f39 0 [inR true n L u, .int .i64 m] [] (retQ Tryd.prog Tryd.f39 0 ⟨[], .bool (lnB (isUj L) n m), [], []⟩)) := by
  constructor
  rw [vd39]
  refine ⟨⟨0, ⟨Nat.zero_le _, fun j hj => absurd hj (by omega)⟩, rfl, fun _ _ => ⟨rfl, rfl, trivial⟩, rfl, rfl, trivial⟩, fun x hx => ?_⟩
  obtain ⟨hx, hu⟩ := hx
  have bad : ∀ x, x < n → ¬ isUj L x → (lnB (isUj L) n m = false ∧ True) := fun x hx h => by
    refine ⟨?_, trivial⟩
    cases e : lnB (isUj L) n m
    · rfl
    · exact absurd ((lnB_iff.1 e).2 x hx) h
  refine brec (fun d => ?_) (fun d => ?_)
  · have d : (x : Int) < n := of_decide_eq_true d
    rw [Int.toNat_natCast]
    refine ⟨Int.natCast_nonneg _, by omega, ?_⟩
    refine brec (fun d1 => ⟨Int.natCast_nonneg _, by omega, ?_⟩) (fun d1 => bad x (by omega) fun c => ?_)
    · have d1 : ¬ L x < 0 := by simpa using d1
      refine brec (fun d2 => bad x (by omega) fun c => ?_) (fun d2 => ?_)
      · have d2 : 65535 < L x := of_decide_eq_true d2
        have := c.2
        omega
      · have d2 : ¬ 65535 < L x := of_decide_eq_false d2
        refine ⟨x + 1, by omega, ⟨by omega, ix_next hu ⟨by omega, by omega⟩⟩, rfl, fun _ _ => ⟨rfl, rfl, trivial⟩, rfl, (wrap_nat (x + 1) (by omega) (by omega)).symm, trivial⟩
    · have d1 : L x < 0 := by simpa using d1
      have := c.1
      omega
  · have d : ¬ (x : Int) < n := of_decide_eq_false d
    obtain rfl : x = n := by omega
    refine ⟨?_, trivial⟩
    unfold lnB
    have hu : ∀ j, j < x → isUj L j := hu
    rw [ixP_no hu]
    simp
noncomputable def gd39 (xs : List AV) (bs : List ABlk) : TL := match xs, bs with
  | [.ros true 1 n g nl, .int .i64 m], [] => .ok ⟨[isRowI g, n < 4611686018427387904], .bool (lnB (isUj (rowI g)) n m), [], []⟩
  | _, _ => .no
noncomputable def spd39 : Spec := ⟨[.r 1, .kp], fun _ _ => [], fun _ _ => [], gd39⟩
theorem cd39 : COK Tryd.prog gl0 39 (mkF spd39) := by
  refine ctrE (fn := Tryd.f39) [] 3000 (by kernel_rfl) (by kernel_rfl) okGe2 (by kernel_rfl) (fun args w => by kernel_rfl) fun xs bs r hs ho => ?_
  replace hs : (gd39 xs bs).sel = some r := hs
  unfold gd39 at hs
  split at hs
  · rename_i n g nl m
    simp only [TL.sel, Option.some.injEq] at hs
    subst hs
    obtain ⟨h, h1⟩ := obsT_cons.1 ho
    have hb := bd39 n (rowI g) nl m (obsT_one.1 h1)
    have e : inR true n (rowI g) nl = .ros true 1 n g nl := by
      show AV.ros true 1 n (fun j => [.int .i64 (rowI g j)]) nl = _
      rw [← h]
    refine ⟨[(3, lsAl n (rowI g) m)], ?_⟩
    rw [e] at hb
    exact hb
  · simp [TL.sel] at hs
noncomputable def Ge3 : Ctx := (Ge2.add 39 (mkF spd39)).exe Tryd.prog gl0 [] 400 Tryd.f40.params.size 40 Tryd.f40
theorem okGe3 : COKs Tryd.prog gl0 Ge3 := (okGe2.add cd39).exe [] 400 _ (by kernel_rfl) (by kernel_rfl) (by kernel_rfl) (fun args w => by kernel_rfl)
end Go.Sym

namespace Go.Spec
open Go.Sym
/-- What the document's loops gather, right or not. -/
def chX (G : Nat → Int) (K : Nat → By) : Nat → By
  | 0 => []
  | j + 1 => chX G K j ++ u2 (G j) ++ pvB [] (K j) 2
def u4 (n : Int) : By := [BitVec.ofInt 8 (n.fdiv (Int.ofNat 16777216)), BitVec.ofInt 8 (n.fdiv (Int.ofNat 65536)), BitVec.ofInt 8 (n.fdiv (Int.ofNat 256)), BitVec.ofInt 8 n]
def chY (T : Nat → By) (A : Nat → Int) : Nat → By
  | 0 => []
  | j + 1 => chY T A j ++ pvB [] (T j) 2 ++ u4 (A j)
def chZ (D : Nat → By) : Nat → By
  | 0 => []
  | j + 1 => chZ D j ++ pvB [] (D j) 1
end Go.Spec
namespace Go.Sym
open Go.Proofs Go.Spec
set_option linter.unusedVariables false
def bxC (c : Cli) (u : Clu) : ABlk := ⟨.cells (cliC c.R [.rb false c.s .unk, inR true c.n1 c.L1 .unk, inR true c.n2 c.L2 .unk, inR true c.n3 c.L3 .unk, inR true c.n4 c.L4 .unk, shR true c.n5 c.G c.K u.C .unk, .rb false c.co .unk, .rb false c.mo .unk, idR true c.n6 c.T c.A u.F .unk, biR true c.n7 c.D u.E .unk]), true, 0⟩
structure D1 where
  j : Nat
  b : Bool
structure D2 where
  i : Nat
  j : Nat
  b : Bool
def lsD1 (c : Cli) (u : Clu) : LS := ⟨D1, fun s => [(1, .ptr 101 0 0 0), (4, .bool s.b), (5, .slice 100 0 1 (chX c.G c.K s.j).length .ow .unk), (8, .int .i64 s.j)],
  fun s => [(100, ⟨.bytes (chX c.G c.K s.j), true, 1⟩), (101, bxC c u)], 1000, fun s => c.n5 - s.j, fun s => s.j ≤ c.n5, fun _ => []⟩
def lsD2 (c : Cli) (u : Clu) : LS := ⟨D2, fun s => [(1, .ptr 101 0 0 0), (4, .bool s.b), (5, .slice 100 0 1 (chX c.G c.K s.i).length .ow .unk), (6, .slice 102 0 1 (chY c.T c.A s.j).length .ow .unk), (7, .slice 103 0 1 (chZ c.D s.j).length .ow .unk), (9, .int .i64 s.j)],
  fun s => [(100, ⟨.bytes (chX c.G c.K s.i), true, 1⟩), (101, bxC c u), (102, ⟨.bytes (chY c.T c.A s.j), true, 1⟩), (103, ⟨.bytes (chZ c.D s.j), true, 1⟩)], 1000, fun s => c.n6 - s.j, fun s => s.j ≤ c.n6 ∧ s.i ≤ c.n5, fun _ => []⟩
/-- A client of the document's, by its parts: its rows are arguments. -/
def cliW (c : Cli) (u : Clu) : AV := cliA c.R [.rb false c.s .unk, inR true c.n1 c.L1 u.u1, inR true c.n2 c.L2 u.u2, inR true c.n3 c.L3 u.u3, inR true c.n4 c.L4 u.u4, shR true c.n5 c.G c.K u.C u.u5, .rb false c.co .unk, .rb false c.mo .unk, idR true c.n6 c.T c.A u.F u.u6, biR true c.n7 c.D u.E u.u7]
def rPd (k : Nat) (e : Bool) (B : By) : RL := ⟨[], .tup [.slice 0 0 1 k .ow .unk, .bool e], [], [⟨.bytes B, true, 1⟩]⟩
end Go.Sym

set_option linter.unusedSimpArgs false
namespace Go.Spec
open Go.Sym
/-- Of the extensions: which kinds, which are there, what stands in them; those from one on. -/
def kX : Nat → Int
  | 0 => 43 | 1 => 10 | 2 => 13 | 3 => 51 | 4 => 44 | 5 => 45 | _ => 41
def Cli.hX (c : Cli) : Nat → Bool
  | 0 => decide (0 < c.n2) | 1 => decide (0 < c.n3) | 2 => decide (0 < c.n4) | 3 => decide (0 < c.n5)
  | 4 => decide (0 < c.co.length) | 5 => decide (0 < c.mo.length) | 6 => decide (0 < c.n6) | _ => false
def Cli.bX (c : Cli) : Nat → By
  | 0 => pvB [] (chN c.L2 c.n2) 1 | 1 => pvB [] (chN c.L3 c.n3) 2 | 2 => pvB [] (chN c.L4 c.n4) 2 | 3 => pvB [] (chSh c.G c.K c.n5) 2
  | 4 => pvB [] c.co 2 | 5 => pvB [] c.mo 1 | 6 => idB c.n6 c.T c.A c.D | _ => []
def Cli.tR (c : Cli) : Nat → By
  | 0 => []
  | k + 1 => (if c.hX (6 - k) = true then exB [] (kX (6 - k)) (c.bX (6 - k)) else []) ++ c.tR k
def Cli.tl (c : Cli) (i : Nat) : By := c.tR (7 - i)
theorem exB_pre (a : By) (k : Int) (v : By) : exB a k v = a ++ exB [] k v := by
  unfold exB pvB puB
  simp only [List.nil_append, List.append_assoc]
theorem liB_pre (a : By) (k w : Int) (l : By) : liB a k w l = a ++ (if 0 < l.length then exB [] k (pvB [] l w) else []) := by
  unfold liB
  by_cases h : l.length = 0
  · rw [if_pos h, if_neg (by omega), List.append_nil]
  · rw [if_neg h, if_pos (by omega), exB_pre]
theorem chSh_pos (G : Nat → Int) (K : Nat → By) (n : Nat) : 0 < (chSh G K n).length ↔ 0 < n := by
  cases n with
  | zero => simp [chSh]
  | succ n =>
    refine ⟨fun _ => by omega, fun _ => ?_⟩
    rw [chSh, pvB_len]
    have e : (2 : Int).toNat = 2 := rfl
    rw [e]; omega
theorem chN_pos (L : Nat → Int) (n : Nat) : 0 < (chN L n).length ↔ 0 < n := by rw [chN_len]; omega
theorem Cli.ex_tl (c : Cli) : c.ex = c.tl 0 := by
  have h6 : c.ex = c.x3 ++ (if 0 < c.n6 then exB [] 41 (idB c.n6 c.T c.A c.D) else []) := by
    unfold Cli.ex
    split
    · rw [exB_pre]
    · rw [List.append_nil]
  rw [h6]
  unfold Cli.x3 Cli.x1
  simp only [liB_pre, chN_pos, chSh_pos]
  unfold Cli.tl
  simp only [Cli.tR, Cli.hX, Cli.bX, kX, Nat.reduceSub, decide_eq_true_eq, List.nil_append, List.append_nil, List.append_assoc]
theorem Cli.tl_yes (c : Cli) {i : Nat} (h : c.hX i = true) : c.tl i = exB [] (kX i) (c.bX i) ++ c.tl (i + 1) := by
  have hi : i < 7 := by
    rcases Nat.lt_or_ge i 7 with h1 | h1
    · exact h1
    · obtain ⟨m, rfl⟩ : ∃ m, i = 7 + m := ⟨i - 7, by omega⟩
      rw [Nat.add_comm] at h
      simp [Cli.hX] at h
  unfold Cli.tl
  have e : 7 - i = (7 - (i + 1)) + 1 := by omega
  rw [e, Cli.tR]
  have e2 : 6 - (7 - (i + 1)) = i := by omega
  rw [e2, if_pos h]
theorem Cli.tl_no (c : Cli) {i : Nat} (h : c.hX i = false) (hi : i < 7) : c.tl i = c.tl (i + 1) := by
  unfold Cli.tl
  have e : 7 - i = (7 - (i + 1)) + 1 := by omega
  rw [e, Cli.tR]
  have e2 : 6 - (7 - (i + 1)) = i := by omega
  rw [e2, if_neg (by rw [h]; decide), List.nil_append]
theorem Cli.tl_end (c : Cli) : c.tl 7 = [] := rfl
/-- The first that is there, of those from one on. -/
def Cli.nF (c : Cli) : Nat → Nat → Nat
  | 0, i => i
  | k + 1, i => if c.hX i = true then i else c.nF k (i + 1)
def Cli.nx (c : Cli) (i : Nat) : Nat := c.nF (7 - i) i
theorem Cli.nF_spec (c : Cli) : ∀ (k i : Nat), k + i = 7 → i ≤ c.nF k i ∧ c.nF k i ≤ 7 ∧ (c.nF k i < 7 → c.hX (c.nF k i) = true) ∧ (∀ j, i ≤ j → j < c.nF k i → c.hX j = false) ∧ c.tl i = c.tl (c.nF k i)
  | 0, i, h => ⟨Nat.le_refl _, by show i ≤ 7; omega, fun h1 => by have : c.nF 0 i = i := rfl; omega, fun j h1 h2 => by have : c.nF 0 i = i := rfl; omega, rfl⟩
  | k + 1, i, h => by
    rw [Cli.nF]
    by_cases hi : c.hX i = true
    · rw [if_pos hi]
      exact ⟨Nat.le_refl _, by omega, fun _ => hi, fun j h1 h2 => by omega, rfl⟩
    · rw [if_neg hi]
      have hi : c.hX i = false := by simpa using hi
      obtain ⟨h1, h2, h3, h4, h5⟩ := Cli.nF_spec c k (i + 1) (by omega)
      refine ⟨by omega, h2, h3, fun j hj1 hj2 => ?_, by rw [c.tl_no hi (by omega), h5]⟩
      rcases Nat.lt_or_ge i j with h6 | h6
      · exact h4 j (by omega) hj2
      · have : j = i := by omega
        rw [this]; exact hi
theorem Cli.nx_spec (c : Cli) {i : Nat} (hi : i ≤ 7) : i ≤ c.nx i ∧ c.nx i ≤ 7 ∧ (c.nx i < 7 → c.hX (c.nx i) = true) ∧ (∀ j, i ≤ j → j < c.nx i → c.hX j = false) ∧ c.tl i = c.tl (c.nx i) := c.nF_spec (7 - i) i (by omega)
/-- What is read of it, so many extensions on. -/
def upN (i k n : Nat) : Nat := if k < i then n else 0
def upB (i k : Nat) (b : By) : By := if k < i then b else []
def Cli.at (c : Cli) (i : Nat) : Cli := { c with n2 := upN i 0 c.n2, n3 := upN i 1 c.n3, n4 := upN i 2 c.n4, n5 := upN i 3 c.n5, co := upB i 4 c.co, mo := upB i 5 c.mo, n6 := upN i 6 c.n6, n7 := upN i 6 c.n7 }
theorem Cli.at_skip (c : Cli) (h7 : c.n7 = c.n6) {i i' : Nat} (h1 : i ≤ i') (h : ∀ j, i ≤ j → j < i' → c.hX j = false) : c.at i = c.at i' := by
  have hn : ∀ k n, (c.hX k = false → n = 0) → upN i k n = upN i' k n := by
    intro k n hk
    unfold upN
    by_cases a : k < i
    · rw [if_pos a, if_pos (by omega)]
    · rw [if_neg a]
      by_cases b : k < i'
      · rw [if_pos b, hk (h k (by omega) b)]
      · rw [if_neg b]
  have hb : ∀ k (n : By), (c.hX k = false → n = []) → upB i k n = upB i' k n := by
    intro k n hk
    unfold upB
    by_cases a : k < i
    · rw [if_pos a, if_pos (by omega)]
    · rw [if_neg a]
      by_cases b : k < i'
      · rw [if_pos b, hk (h k (by omega) b)]
      · rw [if_neg b]
  have z : ∀ {n : Nat}, decide (0 < n) = false → n = 0 := fun e => by simpa using e
  have zb : ∀ {b : By}, decide (0 < b.length) = false → b = [] := fun e => List.eq_nil_of_length_eq_zero (z e)
  unfold Cli.at
  rw [hn 0 c.n2 z, hn 1 c.n3 z, hn 2 c.n4 z, hn 3 c.n5 z, hb 4 c.co zb, hb 5 c.mo zb, hn 6 c.n6 z, hn 6 c.n7 (fun e => by rw [h7]; exact z e)]
theorem Cli.at_all (c : Cli) : c.at 7 = c := by
  cases c
  rfl
/-- Cut out of the middle. -/
theorem cutB_at {A v R : By} {x m : Nat} (hx : x = A.length) (hm : m = v.length) : cutB (A ++ (v ++ R)) x m = v := by
  subst hx hm
  rw [← cutB_eq (by simp only [List.length_append]; omega)]
  simp
theorem exB_parts (k : Int) (v R : By) : exB [] k v ++ R = puL k.toNat 2 ++ (puL v.length 2 ++ (v ++ R)) := by
  unfold exB pvB puB
  simp only [List.nil_append, List.append_assoc, Int.toNat_natCast]
  rfl
theorem kX_le (i : Nat) : 0 ≤ kX i ∧ kX i < 65536 := by
  unfold kX
  split <;> decide
end Go.Spec

set_option linter.unusedSimpArgs false
namespace Go.Spec
open Go.Sym
theorem seq_split {F W : Nat → By} (h : ∀ j, F (j + 1) = F j ++ W j) : ∀ (n j : Nat), j < n → ∃ R, F n = F j ++ (W j ++ R)
  | 0, j, hj => absurd hj (by omega)
  | n + 1, j, hj => by
    rcases Nat.lt_or_ge j n with h1 | h1
    · obtain ⟨R, e⟩ := seq_split h n j h1
      exact ⟨R ++ W n, by rw [h, e]; simp only [List.append_assoc]⟩
    · obtain rfl : j = n := by omega
      exact ⟨[], by rw [h]; simp only [List.append_nil]⟩
/-- Numbers of two bytes, one behind the other. -/
def dN (v : By) (j : Nat) : Int := beN (cutB v (2 * j) 2)
theorem beN_pu {n : Nat} {w : Nat} (h : n < 256 ^ w) : beN (puL n w) = n := by rw [beN_puL, Nat.mod_eq_of_lt h]
theorem dN_chN {L : Nat → Int} {n : Nat} (h : isU L n) {j : Nat} (hj : j < n) : dN (chN L n) j = L j := by
  obtain ⟨R, e⟩ := seq_split (F := chN L) (W := fun j => puL (L j).toNat 2) (fun j => rfl) n j hj
  have hu := h j hj
  unfold dN
  rw [e, cutB_at (by rw [chN_len]) (puL_len _ _).symm, beN_pu (by have : (256 : Nat) ^ 2 = 65536 := rfl; omega)]
  omega
end Go.Spec

set_option linter.unusedSimpArgs false
namespace Go.Spec
open Go.Sym
/-- What is asked of a client ahead of its shares and tickets. -/
structure Cli.g1 (c : Cli) : Prop where
  hs : c.s.length ≤ 32
  h0 : 1 ≤ c.n1
  h1 : c.n1 ≤ 8
  i1 : isU c.L1 c.n1
  h2 : c.n2 ≤ 4
  i2 : isU c.L2 c.n2
  h3 : c.n3 ≤ 4
  i3 : isU c.L3 c.n3
  h4 : c.n4 ≤ 4
  i4 : isU c.L4 c.n4
  h5 : c.n5 ≤ 4
  hc : c.co.length ≤ 64
  hm : c.mo.length ≤ 4
  h6 : c.n6 ≤ 4
  h7 : c.n6 = c.n7
def Cli.sOk (c : Cli) (j : Nat) : Prop := (0 ≤ c.G j ∧ c.G j ≤ 65535) ∧ 1 ≤ (c.K j).length ∧ (c.K j).length ≤ 64
def Cli.tOk (c : Cli) (j : Nat) : Prop := (1 ≤ (c.T j).length ∧ (c.T j).length ≤ 255) ∧ (0 ≤ c.A j ∧ c.A j ≤ 4294967295) ∧ (c.D j).length = 32
theorem Cli.ok_iff (c : Cli) : c.ok ↔ c.g1 ∧ (∀ j, j < c.n5 → c.sOk j) ∧ (∀ j, j < c.n6 → c.tOk j) :=
  ⟨fun h => ⟨⟨h.hs, h.h0, h.h1, h.i1, h.h2, h.i2, h.h3, h.i3, h.h4, h.i4, h.h5.1, h.hc, h.hm, h.h6.1, h.h7.symm⟩, h.h5.2, h.h6.2⟩,
   fun ⟨g, h5, h6⟩ => ⟨g.hs, g.h0, g.h1, g.i1, g.h2, g.i2, g.h3, g.i3, g.h4, g.i4, ⟨g.h5, h5⟩, g.hc, g.hm, g.h7.symm, ⟨g.h6, h6⟩⟩⟩
/-- Its extensions, one after the other. -/
def Cli.y1 (c : Cli) : By := liB [] 43 1 (chN c.L2 c.n2)
def Cli.y2 (c : Cli) : By := liB c.y1 10 2 (chN c.L3 c.n3)
def Cli.y3 (c : Cli) : By := liB c.y2 13 2 (chN c.L4 c.n4)
def Cli.y4 (c : Cli) : By := liB c.y3 51 2 (chSh c.G c.K c.n5)
def Cli.y5 (c : Cli) : By := liB c.y4 44 2 c.co
def Cli.y6 (c : Cli) : By := liB c.y5 45 1 c.mo
end Go.Spec
namespace Go.Sym
open Go.Proofs Go.Spec
set_option linter.unusedVariables false
def eV1 (c : Cli) (u : Clu) : LS := ⟨Bool, fun b => [(1, .ptr 101 0 0 0), (4, .bool b)], fun _ => [(101, bxC c u)], 1000, fun _ => 0, fun b => b = true ↔ c.g1, fun _ => []⟩
def eL1 (c : Cli) (u : Clu) : LS := { lsD1 c u with E := fun s => [(1, .ptr 101 0 0 0), (4, .bool s.b), (5, .slice 100 0 1 (chX c.G c.K s.j).length .ow .unk), (6, .nils), (7, .nils), (8, .int .i64 s.j)], ok := fun s => s.j ≤ c.n5 ∧ c.n5 < 4611686018427387904 ∧ (s.b = true → c.g1 ∧ ∀ k, k < s.j → c.sOk k) ∧ (c.ok → s.b = true) }
def eL2 (c : Cli) (u : Clu) : LS := { lsD2 c u with ok := fun s => s.j ≤ c.n6 ∧ (s.b = true → c.g1 ∧ s.i = c.n5 ∧ (∀ k, k < c.n5 → c.sOk k) ∧ ∀ k, k < s.j → c.tOk k) ∧ (c.ok → s.b = true) }
def eS (c : Cli) (u : Clu) (e : By) : LS := ⟨Unit, fun _ => [(1, .ptr 101 0 0 0), (5, .slice 100 0 1 (chSh c.G c.K c.n5).length .ow .unk), (6, .slice 102 0 1 (chT c.T c.A c.n6).length .ow .unk), (7, .slice 103 0 1 (chD c.D c.n6).length .ow .unk), (11, .slice 104 0 1 e.length .ow .unk)],
  fun _ => [(100, ⟨.bytes (chSh c.G c.K c.n5), true, 1⟩), (101, bxC c u), (102, ⟨.bytes (chT c.T c.A c.n6), true, 1⟩), (103, ⟨.bytes (chD c.D c.n6), true, 1⟩), (104, ⟨.bytes e, true, 1⟩)], 1000, fun _ => 0, fun _ => c.ok, fun _ => []⟩
def ls16 (c : Cli) (u : Clu) : List (Nat × LS) := [(20002, eV1 c u), (5, eL1 c u), (10, eL2 c u), (20018, eS c u []), (10020, eS c u c.y1), (10022, eS c u c.y2), (10024, eS c u c.y3), (10026, eS c u c.y4), (10028, eS c u c.y5), (10030, eS c u c.y6), (10032, eS c u c.ex)]
end Go.Sym

namespace Go.Sym
open Go.Proofs Go.Spec
set_option linter.unusedVariables false
set_option maxRecDepth 100000 in
theorem vd16 (c : Cli) (u : Clu) (k : Nat) (e : Bool) (B : By) : bodyP Tryd.prog Ge3 gl0 [] (ls16 c u) 20000 Tryd.f16 0 [cliW c u] [] (retQ Tryd.prog Tryd.f16 0 (rPd k e B)) = (
let x1 := let x1 := ∀ (y : Nat), y < c.n6 → datas Bool.true [AV.rb Bool.true (c.T y) (NL.is (u.8 y)), AV.int IntKind.i64 (c.A y)] = Bool.true ∧ u.8 y = u.8 y ∧ c.T y = c.T y ∧ c.A y = c.A y ∧ True; let x2 := ∀ (y : Nat), y < c.n5 → datas Bool.true [AV.int IntKind.i64 (c.G y), AV.rb Bool.true (c.K y) (NL.is (u.6 y))] = Bool.true ∧ c.G y = c.G y ∧ u.6 y = u.6 y ∧ c.K y = c.K y ∧ True; let x3 := ∀ (y : Nat), y < c.n7 → datas Bool.true [AV.rb Bool.true (c.D y) (NL.is (u.10 y))] = Bool.true ∧ u.10 y = u.10 y ∧ c.D y = c.D y ∧ True; let x4 := ∀ (y : Nat), y < c.n1 → datas Bool.true [AV.int IntKind.i64 (c.L1 y)] = Bool.true ∧ c.L1 y = c.L1 y ∧ True; let x5 := ∀ (y : Nat), y < c.n2 → datas Bool.true [AV.int IntKind.i64 (c.L2 y)] = Bool.true ∧ c.L2 y = c.L2 y ∧ True; let x6 := ∀ (y : Nat), y < c.n4 → datas Bool.true [AV.int IntKind.i64 (c.L4 y)] = Bool.true ∧ c.L4 y = c.L4 y ∧ True; let x7 := ∀ (y : Nat), y < c.n3 → datas Bool.true [AV.int IntKind.i64 (c.L3 y)] = Bool.true ∧ c.L3 y = c.L3 y ∧ True; let x8 := List.length (chSh c.G c.K c.n5); let x9 := List.length (chT c.T c.A c.n6); let x10 := chT c.T c.A c.n6 = chT c.T c.A c.n6; let x11 := chSh c.G c.K c.n5 = chSh c.G c.K c.n5; let x12 := List.length (chD c.D c.n6) = List.length (chD c.D c.n6); let x13 := chD c.D c.n6 = chD c.D c.n6; let x14 := fun (i : Nat) => c.R i = c.R i; let x15 := pvB [] (chN (fun (j : Nat) => c.L1 j) c.n1) (2 : Int); let x16 := pvB [] (chT c.T c.A c.n6) (2 : Int) ++ pvB [] (chD c.D c.n6) (2 : Int); let x17 := 2 + (rg 32 c.R).length + List.length (pvB [] c.s (1 : Int)); let x18 := pvB [] (chN (fun (j : Nat) => c.L2 j) c.n2) (1 : Int); let x19 := pvB [] (chN (fun (j : Nat) => c.L3 j) c.n3) (2 : Int); let x20 := pvB [] (chN (fun (j : Nat) => c.L4 j) c.n4) (2 : Int); let x21 := pvB [] (chSh c.G c.K c.n5) (2 : Int); let x22 := [BitVec.ofNat 8 3, BitVec.ofNat 8 3] ++ rg 32 c.R ++ pvB [] c.s (1 : Int); ∀ (x : Unit), c.ok → @Bool.rec (fun _ => Prop) (∃ (y : Unit), c.ok ∧ 0 = 0 ∧ 0 = 0 ∧ 0 = 0 ∧ 0 = 0 ∧ x8 = x8 ∧ 0 = 0 ∧ 0 = 0 ∧ 0 = 0 ∧ x9 = x9 ∧ 0 = 0 ∧ 0 = 0 ∧ 0 = 0 ∧ x12 ∧ 0 = 0 ∧ 0 = 0 ∧ 0 = 0 ∧ List.length c.y1 = 0 ∧ x11 ∧ allP x14 0 32 (c.s = c.s ∧ c.n1 = c.n1 ∧ x4 ∧ c.n2 = c.n2 ∧ x5 ∧ c.n3 = c.n3 ∧ x7 ∧ c.n4 = c.n4 ∧ x6 ∧ c.n5 = c.n5 ∧ x2 ∧ c.co = c.co ∧ c.mo = c.mo ∧ c.n6 = c.n6 ∧ x1 ∧ c.n7 = c.n7 ∧ x3 ∧ x10 ∧ x13 ∧ c.y1 = [] ∧ True)) (((fun (j : Nat) => [AV.int IntKind.i64 (c.L2 j)]) = fun (j : Nat) => [AV.int IntKind.i64 (c.L2 j)]) ∧ c.n2 < 1099511627 ∧ (∀ (j : Nat), j < c.n2 → (0 : Int) ≤ c.L2 j ∧ c.L2 j ≤ (65535 : Int)) ∧ 2 * c.n2 = List.length (chN (fun (j : Nat) => c.L2 j) c.n2) ∧ List.length (chN (fun (j : Nat) => c.L2 j) c.n2) ≤ 140737488351232 ∧ List.length x18 = List.length x18 ∧ (0 : Int) ≤ (43 : Int) ∧ List.length x18 < 1099511627776 ∧ List.length (exB [] (43 : Int) x18) = List.length (exB [] (43 : Int) x18) ∧ 0 = 0 ∧ roomFor 0 (List.length (exB [] (43 : Int) x18)) 1 ∧ ∃ (y : Unit), c.ok ∧ 0 = 0 ∧ 0 = 0 ∧ 0 = 0 ∧ 0 = 0 ∧ x8 = x8 ∧ 0 = 0 ∧ 0 = 0 ∧ 0 = 0 ∧ x9 = x9 ∧ 0 = 0 ∧ 0 = 0 ∧ 0 = 0 ∧ x12 ∧ 0 = 0 ∧ 0 = 0 ∧ 0 = 0 ∧ List.length c.y1 = 0 + List.length (exB [] (43 : Int) x18) ∧ x11 ∧ allP x14 0 32 (c.s = c.s ∧ c.n1 = c.n1 ∧ x4 ∧ c.n2 = c.n2 ∧ x5 ∧ c.n3 = c.n3 ∧ x7 ∧ c.n4 = c.n4 ∧ x6 ∧ c.n5 = c.n5 ∧ x2 ∧ c.co = c.co ∧ c.mo = c.mo ∧ c.n6 = c.n6 ∧ x1 ∧ c.n7 = c.n7 ∧ x3 ∧ x10 ∧ x13 ∧ c.y1 = [] ++ exB [] (43 : Int) x18 ∧ True)) (decide ((0 : Int) < (↑c.n2 : Int))) ∧ ∀ (x : Unit), c.ok → @Bool.rec (fun _ => Prop) (∃ (y : Unit), c.ok ∧ 0 = 0 ∧ 0 = 0 ∧ 0 = 0 ∧ 0 = 0 ∧ x8 = x8 ∧ 0 = 0 ∧ 0 = 0 ∧ 0 = 0 ∧ x9 = x9 ∧ 0 = 0 ∧ 0 = 0 ∧ 0 = 0 ∧ x12 ∧ 0 = 0 ∧ 0 = 0 ∧ 0 = 0 ∧ List.length c.y2 = List.length c.y1 ∧ x11 ∧ allP x14 0 32 (c.s = c.s ∧ c.n1 = c.n1 ∧ x4 ∧ c.n2 = c.n2 ∧ x5 ∧ c.n3 = c.n3 ∧ x7 ∧ c.n4 = c.n4 ∧ x6 ∧ c.n5 = c.n5 ∧ x2 ∧ c.co = c.co ∧ c.mo = c.mo ∧ c.n6 = c.n6 ∧ x1 ∧ c.n7 = c.n7 ∧ x3 ∧ x10 ∧ x13 ∧ c.y2 = c.y1 ∧ True)) (((fun (j : Nat) => [AV.int IntKind.i64 (c.L3 j)]) = fun (j : Nat) => [AV.int IntKind.i64 (c.L3 j)]) ∧ c.n3 < 1099511627 ∧ (∀ (j : Nat), j < c.n3 → (0 : Int) ≤ c.L3 j ∧ c.L3 j ≤ (65535 : Int)) ∧ 2 * c.n3 = List.length (chN (fun (j : Nat) => c.L3 j) c.n3) ∧ List.length (chN (fun (j : Nat) => c.L3 j) c.n3) ≤ 140737488351232 ∧ List.length x19 = List.length x19 ∧ (0 : Int) ≤ (10 : Int) ∧ List.length x19 < 1099511627776 ∧ List.length (exB [] (10 : Int) x19) = List.length (exB [] (10 : Int) x19) ∧ List.length c.y1 = List.length c.y1 ∧ roomFor (List.length c.y1) (List.length (exB [] (10 : Int) x19)) 1 ∧ ∃ (y : Unit), c.ok ∧ 0 = 0 ∧ 0 = 0 ∧ 0 = 0 ∧ 0 = 0 ∧ x8 = x8 ∧ 0 = 0 ∧ 0 = 0 ∧ 0 = 0 ∧ x9 = x9 ∧ 0 = 0 ∧ 0 = 0 ∧ 0 = 0 ∧ x12 ∧ 0 = 0 ∧ 0 = 0 ∧ 0 = 0 ∧ List.length c.y2 = List.length c.y1 + List.length (exB [] (10 : Int) x19) ∧ x11 ∧ allP x14 0 32 (c.s = c.s ∧ c.n1 = c.n1 ∧ x4 ∧ c.n2 = c.n2 ∧ x5 ∧ c.n3 = c.n3 ∧ x7 ∧ c.n4 = c.n4 ∧ x6 ∧ c.n5 = c.n5 ∧ x2 ∧ c.co = c.co ∧ c.mo = c.mo ∧ c.n6 = c.n6 ∧ x1 ∧ c.n7 = c.n7 ∧ x3 ∧ x10 ∧ x13 ∧ c.y2 = c.y1 ++ exB [] (10 : Int) x19 ∧ True)) (decide ((0 : Int) < (↑c.n3 : Int))) ∧ ∀ (x : Unit), c.ok → @Bool.rec (fun _ => Prop) (∃ (y : Unit), c.ok ∧ 0 = 0 ∧ 0 = 0 ∧ 0 = 0 ∧ 0 = 0 ∧ x8 = x8 ∧ 0 = 0 ∧ 0 = 0 ∧ 0 = 0 ∧ x9 = x9 ∧ 0 = 0 ∧ 0 = 0 ∧ 0 = 0 ∧ x12 ∧ 0 = 0 ∧ 0 = 0 ∧ 0 = 0 ∧ List.length c.y3 = List.length c.y2 ∧ x11 ∧ allP x14 0 32 (c.s = c.s ∧ c.n1 = c.n1 ∧ x4 ∧ c.n2 = c.n2 ∧ x5 ∧ c.n3 = c.n3 ∧ x7 ∧ c.n4 = c.n4 ∧ x6 ∧ c.n5 = c.n5 ∧ x2 ∧ c.co = c.co ∧ c.mo = c.mo ∧ c.n6 = c.n6 ∧ x1 ∧ c.n7 = c.n7 ∧ x3 ∧ x10 ∧ x13 ∧ c.y3 = c.y2 ∧ True)) (((fun (j : Nat) => [AV.int IntKind.i64 (c.L4 j)]) = fun (j : Nat) => [AV.int IntKind.i64 (c.L4 j)]) ∧ c.n4 < 1099511627 ∧ (∀ (j : Nat), j < c.n4 → (0 : Int) ≤ c.L4 j ∧ c.L4 j ≤ (65535 : Int)) ∧ 2 * c.n4 = List.length (chN (fun (j : Nat) => c.L4 j) c.n4) ∧ List.length (chN (fun (j : Nat) => c.L4 j) c.n4) ≤ 140737488351232 ∧ List.length x20 = List.length x20 ∧ (0 : Int) ≤ (13 : Int) ∧ List.length x20 < 1099511627776 ∧ List.length (exB [] (13 : Int) x20) = List.length (exB [] (13 : Int) x20) ∧ List.length c.y2 = List.length c.y2 ∧ roomFor (List.length c.y2) (List.length (exB [] (13 : Int) x20)) 1 ∧ ∃ (y : Unit), c.ok ∧ 0 = 0 ∧ 0 = 0 ∧ 0 = 0 ∧ 0 = 0 ∧ x8 = x8 ∧ 0 = 0 ∧ 0 = 0 ∧ 0 = 0 ∧ x9 = x9 ∧ 0 = 0 ∧ 0 = 0 ∧ 0 = 0 ∧ x12 ∧ 0 = 0 ∧ 0 = 0 ∧ 0 = 0 ∧ List.length c.y3 = List.length c.y2 + List.length (exB [] (13 : Int) x20) ∧ x11 ∧ allP x14 0 32 (c.s = c.s ∧ c.n1 = c.n1 ∧ x4 ∧ c.n2 = c.n2 ∧ x5 ∧ c.n3 = c.n3 ∧ x7 ∧ c.n4 = c.n4 ∧ x6 ∧ c.n5 = c.n5 ∧ x2 ∧ c.co = c.co ∧ c.mo = c.mo ∧ c.n6 = c.n6 ∧ x1 ∧ c.n7 = c.n7 ∧ x3 ∧ x10 ∧ x13 ∧ c.y3 = c.y2 ++ exB [] (13 : Int) x20 ∧ True)) (decide ((0 : Int) < (↑c.n4 : Int))) ∧ ∀ (x : Unit), c.ok → @Bool.rec (fun _ => Prop) (∃ (y : Unit), c.ok ∧ 0 = 0 ∧ 0 = 0 ∧ 0 = 0 ∧ 0 = 0 ∧ x8 = x8 ∧ 0 = 0 ∧ 0 = 0 ∧ 0 = 0 ∧ x9 = x9 ∧ 0 = 0 ∧ 0 = 0 ∧ 0 = 0 ∧ x12 ∧ 0 = 0 ∧ 0 = 0 ∧ 0 = 0 ∧ List.length c.y4 = List.length c.y3 ∧ x11 ∧ allP x14 0 32 (c.s = c.s ∧ c.n1 = c.n1 ∧ x4 ∧ c.n2 = c.n2 ∧ x5 ∧ c.n3 = c.n3 ∧ x7 ∧ c.n4 = c.n4 ∧ x6 ∧ c.n5 = c.n5 ∧ x2 ∧ c.co = c.co ∧ c.mo = c.mo ∧ c.n6 = c.n6 ∧ x1 ∧ c.n7 = c.n7 ∧ x3 ∧ x10 ∧ x13 ∧ c.y4 = c.y3 ∧ True)) (x8 = x8 ∧ x8 ≤ 140737488351232 ∧ List.length x21 = List.length x21 ∧ (0 : Int) ≤ (51 : Int) ∧ List.length x21 < 1099511627776 ∧ List.length (exB [] (51 : Int) x21) = List.length (exB [] (51 : Int) x21) ∧ List.length c.y3 = List.length c.y3 ∧ roomFor (List.length c.y3) (List.length (exB [] (51 : Int) x21)) 1 ∧ ∃ (y : Unit), c.ok ∧ 0 = 0 ∧ 0 = 0 ∧ 0 = 0 ∧ 0 = 0 ∧ x8 = x8 ∧ 0 = 0 ∧ 0 = 0 ∧ 0 = 0 ∧ x9 = x9 ∧ 0 = 0 ∧ 0 = 0 ∧ 0 = 0 ∧ x12 ∧ 0 = 0 ∧ 0 = 0 ∧ 0 = 0 ∧ List.length c.y4 = List.length c.y3 + List.length (exB [] (51 : Int) x21) ∧ x11 ∧ allP x14 0 32 (c.s = c.s ∧ c.n1 = c.n1 ∧ x4 ∧ c.n2 = c.n2 ∧ x5 ∧ c.n3 = c.n3 ∧ x7 ∧ c.n4 = c.n4 ∧ x6 ∧ c.n5 = c.n5 ∧ x2 ∧ c.co = c.co ∧ c.mo = c.mo ∧ c.n6 = c.n6 ∧ x1 ∧ c.n7 = c.n7 ∧ x3 ∧ x10 ∧ x13 ∧ c.y4 = c.y3 ++ exB [] (51 : Int) x21 ∧ True)) (decide ((0 : Int) < (↑c.n5 : Int))) ∧ ∀ (x : Unit), c.ok → @Bool.rec (fun _ => Prop) (∃ (y : Unit), c.ok ∧ 0 = 0 ∧ 0 = 0 ∧ 0 = 0 ∧ 0 = 0 ∧ x8 = x8 ∧ 0 = 0 ∧ 0 = 0 ∧ 0 = 0 ∧ x9 = x9 ∧ 0 = 0 ∧ 0 = 0 ∧ 0 = 0 ∧ x12 ∧ 0 = 0 ∧ 0 = 0 ∧ 0 = 0 ∧ List.length c.y5 = List.length c.y4 ∧ x11 ∧ allP x14 0 32 (c.s = c.s ∧ c.n1 = c.n1 ∧ x4 ∧ c.n2 = c.n2 ∧ x5 ∧ c.n3 = c.n3 ∧ x7 ∧ c.n4 = c.n4 ∧ x6 ∧ c.n5 = c.n5 ∧ x2 ∧ c.co = c.co ∧ c.mo = c.mo ∧ c.n6 = c.n6 ∧ x1 ∧ c.n7 = c.n7 ∧ x3 ∧ x10 ∧ x13 ∧ c.y5 = c.y4 ∧ True)) (List.length c.co ≤ 140737488351232 ∧ List.length (pvB [] c.co (2 : Int)) = List.length (pvB [] c.co (2 : Int)) ∧ (0 : Int) ≤ (44 : Int) ∧ List.length (pvB [] c.co (2 : Int)) < 1099511627776 ∧ List.length (exB [] (44 : Int) (pvB [] c.co (2 : Int))) = List.length (exB [] (44 : Int) (pvB [] c.co (2 : Int))) ∧ List.length c.y4 = List.length c.y4 ∧ roomFor (List.length c.y4) (List.length (exB [] (44 : Int) (pvB [] c.co (2 : Int)))) 1 ∧ ∃ (y : Unit), c.ok ∧ 0 = 0 ∧ 0 = 0 ∧ 0 = 0 ∧ 0 = 0 ∧ x8 = x8 ∧ 0 = 0 ∧ 0 = 0 ∧ 0 = 0 ∧ x9 = x9 ∧ 0 = 0 ∧ 0 = 0 ∧ 0 = 0 ∧ x12 ∧ 0 = 0 ∧ 0 = 0 ∧ 0 = 0 ∧ List.length c.y5 = List.length c.y4 + List.length (exB [] (44 : Int) (pvB [] c.co (2 : Int))) ∧ x11 ∧ allP x14 0 32 (c.s = c.s ∧ c.n1 = c.n1 ∧ x4 ∧ c.n2 = c.n2 ∧ x5 ∧ c.n3 = c.n3 ∧ x7 ∧ c.n4 = c.n4 ∧ x6 ∧ c.n5 = c.n5 ∧ x2 ∧ c.co = c.co ∧ c.mo = c.mo ∧ c.n6 = c.n6 ∧ x1 ∧ c.n7 = c.n7 ∧ x3 ∧ x10 ∧ x13 ∧ c.y5 = c.y4 ++ exB [] (44 : Int) (pvB [] c.co (2 : Int)) ∧ True)) (decide ((0 : Int) < (↑(List.length c.co) : Int))) ∧ ∀ (x : Unit), c.ok → @Bool.rec (fun _ => Prop) (∃ (y : Unit), c.ok ∧ 0 = 0 ∧ 0 = 0 ∧ 0 = 0 ∧ 0 = 0 ∧ x8 = x8 ∧ 0 = 0 ∧ 0 = 0 ∧ 0 = 0 ∧ x9 = x9 ∧ 0 = 0 ∧ 0 = 0 ∧ 0 = 0 ∧ x12 ∧ 0 = 0 ∧ 0 = 0 ∧ 0 = 0 ∧ List.length c.y6 = List.length c.y5 ∧ x11 ∧ allP x14 0 32 (c.s = c.s ∧ c.n1 = c.n1 ∧ x4 ∧ c.n2 = c.n2 ∧ x5 ∧ c.n3 = c.n3 ∧ x7 ∧ c.n4 = c.n4 ∧ x6 ∧ c.n5 = c.n5 ∧ x2 ∧ c.co = c.co ∧ c.mo = c.mo ∧ c.n6 = c.n6 ∧ x1 ∧ c.n7 = c.n7 ∧ x3 ∧ x10 ∧ x13 ∧ c.y6 = c.y5 ∧ True)) (List.length c.mo ≤ 140737488351232 ∧ List.length (pvB [] c.mo (1 : Int)) = List.length (pvB [] c.mo (1 : Int)) ∧ (0 : Int) ≤ (45 : Int) ∧ List.length (pvB [] c.mo (1 : Int)) < 1099511627776 ∧ List.length (exB [] (45 : Int) (pvB [] c.mo (1 : Int))) = List.length (exB [] (45 : Int) (pvB [] c.mo (1 : Int))) ∧ List.length c.y5 = List.length c.y5 ∧ roomFor (List.length c.y5) (List.length (exB [] (45 : Int) (pvB [] c.mo (1 : Int)))) 1 ∧ ∃ (y : Unit), c.ok ∧ 0 = 0 ∧ 0 = 0 ∧ 0 = 0 ∧ 0 = 0 ∧ x8 = x8 ∧ 0 = 0 ∧ 0 = 0 ∧ 0 = 0 ∧ x9 = x9 ∧ 0 = 0 ∧ 0 = 0 ∧ 0 = 0 ∧ x12 ∧ 0 = 0 ∧ 0 = 0 ∧ 0 = 0 ∧ List.length c.y6 = List.length c.y5 + List.length (exB [] (45 : Int) (pvB [] c.mo (1 : Int))) ∧ x11 ∧ allP x14 0 32 (c.s = c.s ∧ c.n1 = c.n1 ∧ x4 ∧ c.n2 = c.n2 ∧ x5 ∧ c.n3 = c.n3 ∧ x7 ∧ c.n4 = c.n4 ∧ x6 ∧ c.n5 = c.n5 ∧ x2 ∧ c.co = c.co ∧ c.mo = c.mo ∧ c.n6 = c.n6 ∧ x1 ∧ c.n7 = c.n7 ∧ x3 ∧ x10 ∧ x13 ∧ c.y6 = c.y5 ++ exB [] (45 : Int) (pvB [] c.mo (1 : Int)) ∧ True)) (decide ((0 : Int) < (↑(List.length c.mo) : Int))) ∧ ∀ (x : Unit), c.ok → @Bool.rec (fun _ => Prop) (∃ (y : Unit), c.ok ∧ 0 = 0 ∧ 0 = 0 ∧ 0 = 0 ∧ 0 = 0 ∧ x8 = x8 ∧ 0 = 0 ∧ 0 = 0 ∧ 0 = 0 ∧ x9 = x9 ∧ 0 = 0 ∧ 0 = 0 ∧ 0 = 0 ∧ x12 ∧ 0 = 0 ∧ 0 = 0 ∧ 0 = 0 ∧ List.length c.ex = List.length c.y6 ∧ x11 ∧ allP x14 0 32 (c.s = c.s ∧ c.n1 = c.n1 ∧ x4 ∧ c.n2 = c.n2 ∧ x5 ∧ c.n3 = c.n3 ∧ x7 ∧ c.n4 = c.n4 ∧ x6 ∧ c.n5 = c.n5 ∧ x2 ∧ c.co = c.co ∧ c.mo = c.mo ∧ c.n6 = c.n6 ∧ x1 ∧ c.n7 = c.n7 ∧ x3 ∧ x10 ∧ x13 ∧ c.ex = c.y6 ∧ True)) (x9 = x9 ∧ x9 ≤ 140737488351232 ∧ x12 ∧ List.length (chD c.D c.n6) ≤ 140737488351232 ∧ List.length (pvB [] (chD c.D c.n6) (2 : Int)) = List.length (pvB [] (chD c.D c.n6) (2 : Int)) ∧ List.length (pvB [] (chT c.T c.A c.n6) (2 : Int)) = List.length (pvB [] (chT c.T c.A c.n6) (2 : Int)) ∧ roomFor (List.length (pvB [] (chT c.T c.A c.n6) (2 : Int))) (List.length (pvB [] (chD c.D c.n6) (2 : Int))) 1 ∧ List.length (pvB [] (chT c.T c.A c.n6) (2 : Int)) + List.length (pvB [] (chD c.D c.n6) (2 : Int)) = x16.length ∧ (0 : Int) ≤ (41 : Int) ∧ x16.length < 1099511627776 ∧ List.length (exB [] (41 : Int) x16) = List.length (exB [] (41 : Int) x16) ∧ List.length c.y6 = List.length c.y6 ∧ roomFor (List.length c.y6) (List.length (exB [] (41 : Int) x16)) 1 ∧ ∃ (y : Unit), c.ok ∧ 0 = 0 ∧ 0 = 0 ∧ 0 = 0 ∧ 0 = 0 ∧ x8 = x8 ∧ 0 = 0 ∧ 0 = 0 ∧ 0 = 0 ∧ x9 = x9 ∧ 0 = 0 ∧ 0 = 0 ∧ 0 = 0 ∧ x12 ∧ 0 = 0 ∧ 0 = 0 ∧ 0 = 0 ∧ List.length c.ex = List.length c.y6 + List.length (exB [] (41 : Int) x16) ∧ x11 ∧ allP x14 0 32 (c.s = c.s ∧ c.n1 = c.n1 ∧ x4 ∧ c.n2 = c.n2 ∧ x5 ∧ c.n3 = c.n3 ∧ x7 ∧ c.n4 = c.n4 ∧ x6 ∧ c.n5 = c.n5 ∧ x2 ∧ c.co = c.co ∧ c.mo = c.mo ∧ c.n6 = c.n6 ∧ x1 ∧ c.n7 = c.n7 ∧ x3 ∧ x10 ∧ x13 ∧ c.ex = c.y6 ++ exB [] (41 : Int) x16 ∧ True)) (decide ((0 : Int) < (↑c.n6 : Int))) ∧ ∀ (x : Unit), c.ok → 2 = 2 ∧ roomFor 2 (rg 32 c.R).length 1 ∧ List.length c.s ≤ 140737488351232 ∧ List.length (pvB [] c.s (1 : Int)) = List.length (pvB [] c.s (1 : Int)) ∧ 2 + (rg 32 c.R).length = ([BitVec.ofNat 8 3, BitVec.ofNat 8 3] ++ rg 32 c.R).length ∧ roomFor (2 + (rg 32 c.R).length) (List.length (pvB [] c.s (1 : Int))) 1 ∧ ((fun (j : Nat) => [AV.int IntKind.i64 (c.L1 j)]) = fun (j : Nat) => [AV.int IntKind.i64 (c.L1 j)]) ∧ c.n1 < 1099511627 ∧ (∀ (j : Nat), j < c.n1 → (0 : Int) ≤ c.L1 j ∧ c.L1 j ≤ (65535 : Int)) ∧ 2 * c.n1 = List.length (chN (fun (j : Nat) => c.L1 j) c.n1) ∧ List.length (chN (fun (j : Nat) => c.L1 j) c.n1) ≤ 140737488351232 ∧ List.length x15 = List.length x15 ∧ x17 = x22.length ∧ roomFor x17 (List.length x15) 1 ∧ 2 = 2 ∧ x17 + List.length x15 = (x22 ++ x15).length ∧ roomFor (x17 + List.length x15) 2 1 ∧ List.length c.ex = List.length c.ex ∧ List.length c.ex ≤ 140737488351232 ∧ List.length (pvB [] c.ex (2 : Int)) = List.length (pvB [] c.ex (2 : Int)) ∧ x17 + List.length x15 + 2 = (x22 ++ x15 ++ [BitVec.ofNat 8 1, BitVec.ofNat 8 0]).length ∧ roomFor (x17 + List.length x15 + 2) (List.length (pvB [] c.ex (2 : Int))) 1 ∧ 0 = 0 ∧ 0 = 0 ∧ 0 = 0 ∧ k = x17 + List.length x15 + 2 + List.length (pvB [] c.ex (2 : Int)) ∧ e = Bool.true ∧ B = x22 ++ x15 ++ [BitVec.ofNat 8 1, BitVec.ofNat 8 0] ++ pvB [] c.ex (2 : Int) ∧ True; let x2 := let x1_1 := ∀ (y : Nat), y < c.n6 → datas Bool.true [AV.rb Bool.true (c.T y) (NL.is (u.8 y)), AV.int IntKind.i64 (c.A y)] = Bool.true ∧ u.8 y = u.8 y ∧ c.T y = c.T y ∧ c.A y = c.A y ∧ True; let x2 := ∀ (y : Nat), y < c.n5 → datas Bool.true [AV.int IntKind.i64 (c.G y), AV.rb Bool.true (c.K y) (NL.is (u.6 y))] = Bool.true ∧ c.G y = c.G y ∧ u.6 y = u.6 y ∧ c.K y = c.K y ∧ True; let x3 := ∀ (y : Nat), y < c.n7 → datas Bool.true [AV.rb Bool.true (c.D y) (NL.is (u.10 y))] = Bool.true ∧ u.10 y = u.10 y ∧ c.D y = c.D y ∧ True; let x4 := ∀ (k : Nat), k < c.n5 → ((0 : Int) ≤ c.G k ∧ c.G k ≤ (65535 : Int)) ∧ 1 ≤ List.length (c.K k) ∧ List.length (c.K k) ≤ 64; let x5 := ∀ (y : Nat), y < c.n4 → datas Bool.true [AV.int IntKind.i64 (c.L4 y)] = Bool.true ∧ c.L4 y = c.L4 y ∧ True; let x6 := ∀ (y : Nat), y < c.n3 → datas Bool.true [AV.int IntKind.i64 (c.L3 y)] = Bool.true ∧ c.L3 y = c.L3 y ∧ True; let x7 := ∀ (y : Nat), y < c.n1 → datas Bool.true [AV.int IntKind.i64 (c.L1 y)] = Bool.true ∧ c.L1 y = c.L1 y ∧ True; let x8 := ∀ (y : Nat), y < c.n2 → datas Bool.true [AV.int IntKind.i64 (c.L2 y)] = Bool.true ∧ c.L2 y = c.L2 y ∧ True; let x9 := fun (i : Nat) => c.R i = c.R i; ∀ (x : D2), let x1_2 := let x1 := [BitVec.ofInt 8 ((c.A (↑x.2 : Int).toNat).fdiv (Int.ofNat 16777216)), BitVec.ofInt 8 ((c.A (↑x.2 : Int).toNat).fdiv (Int.ofNat 65536)), BitVec.ofInt 8 ((c.A (↑x.2 : Int).toNat).fdiv (Int.ofNat 256)), BitVec.ofInt 8 (c.A (↑x.2 : Int).toNat)]; let x2_1 := pvB [] (c.T (↑x.2 : Int).toNat) (2 : Int); List.length (c.T (↑x.2 : Int).toNat) ≤ 140737488351232 ∧ List.length x2_1 = List.length x2_1 ∧ List.length (chY c.T c.A x.2) = List.length (chY c.T c.A x.2) ∧ roomFor (List.length (chY c.T c.A x.2)) (List.length x2_1) 1 ∧ 4 = x1.length ∧ List.length (chY c.T c.A x.2) + List.length x2_1 = (chY c.T c.A x.2 ++ x2_1).length ∧ roomFor (List.length (chY c.T c.A x.2) + List.length x2_1) x1.length 1 ∧ (0 : Int) ≤ (↑x.2 : Int) ∧ (↑x.2 : Int).toNat < c.n7 ∧ List.length (c.D (↑x.2 : Int).toNat) ≤ 140737488351232 ∧ List.length (pvB [] (c.D (↑x.2 : Int).toNat) (1 : Int)) = List.length (pvB [] (c.D (↑x.2 : Int).toNat) (1 : Int)) ∧ List.length (chZ c.D x.2) = List.length (chZ c.D x.2) ∧ roomFor (List.length (chZ c.D x.2)) (List.length (pvB [] (c.D (↑x.2 : Int).toNat) (1 : Int))) 1 ∧ ∃ (y : D2), c.n6 - y.2 < c.n6 - x.2 ∧ (y.2 ≤ c.n6 ∧ (y.3 = Bool.true → c.g1 ∧ y.1 = c.n5 ∧ x4 ∧ ∀ (k : Nat), k < y.2 → (1 ≤ List.length (c.T k) ∧ List.length (c.T k) ≤ 255) ∧ ((0 : Int) ≤ c.A k ∧ c.A k ≤ (4294967295 : Int)) ∧ List.length (c.D k) = 32) ∧ (c.ok → y.3 = Bool.true)) ∧ 0 = 0 ∧ y.3 = Bool.false ∧ 0 = 0 ∧ 0 = 0 ∧ 0 = 0 ∧ List.length (chX c.G c.K y.1) = List.length (chX c.G c.K x.1) ∧ 0 = 0 ∧ 0 = 0 ∧ 0 = 0 ∧ List.length (chY c.T c.A y.2) = List.length (chY c.T c.A x.2) + List.length x2_1 + x1.length ∧ 0 = 0 ∧ 0 = 0 ∧ 0 = 0 ∧ List.length (chZ c.D y.2) = List.length (chZ c.D x.2) + List.length (pvB [] (c.D (↑x.2 : Int).toNat) (1 : Int)) ∧ (↑y.2 : Int) = IntKind.i64.wrap ((↑x.2 : Int) + (1 : Int)) ∧ chX c.G c.K y.1 = chX c.G c.K x.1 ∧ allP x9 0 32 (c.s = c.s ∧ c.n1 = c.n1 ∧ x7 ∧ c.n2 = c.n2 ∧ x8 ∧ c.n3 = c.n3 ∧ x6 ∧ c.n4 = c.n4 ∧ x5 ∧ c.n5 = c.n5 ∧ x2 ∧ c.co = c.co ∧ c.mo = c.mo ∧ c.n6 = c.n6 ∧ x1_1 ∧ c.n7 = c.n7 ∧ x3 ∧ chY c.T c.A y.2 = chY c.T c.A x.2 ++ x2_1 ++ x1 ∧ chZ c.D y.2 = chZ c.D x.2 ++ pvB [] (c.D (↑x.2 : Int).toNat) (1 : Int) ∧ True); let x2_1 := @Bool.rec (fun _ => Prop) ((∃ (y : Unit), c.ok ∧ 0 = 0 ∧ 0 = 0 ∧ 0 = 0 ∧ 0 = 0 ∧ List.length (chSh c.G c.K c.n5) = List.length (chX c.G c.K x.1) ∧ 0 = 0 ∧ 0 = 0 ∧ 0 = 0 ∧ List.length (chT c.T c.A c.n6) = List.length (chY c.T c.A x.2) ∧ 0 = 0 ∧ 0 = 0 ∧ 0 = 0 ∧ List.length (chD c.D c.n6) = List.length (chZ c.D x.2) ∧ 0 = 0 ∧ chSh c.G c.K c.n5 = chX c.G c.K x.1 ∧ allP x9 0 32 (c.s = c.s ∧ c.n1 = c.n1 ∧ x7 ∧ c.n2 = c.n2 ∧ x8 ∧ c.n3 = c.n3 ∧ x6 ∧ c.n4 = c.n4 ∧ x5 ∧ c.n5 = c.n5 ∧ x2 ∧ c.co = c.co ∧ c.mo = c.mo ∧ c.n6 = c.n6 ∧ x1_1 ∧ c.n7 = c.n7 ∧ x3 ∧ chT c.T c.A c.n6 = chY c.T c.A x.2 ∧ chD c.D c.n6 = chZ c.D x.2 ∧ ([] : By) = [] ∧ True)) ∧ x1) (k = 0 ∧ e = Bool.false ∧ B = [] ∧ True) !x.3; let x3_1 := [BitVec.ofInt 8 ((c.A (↑x.2 : Int).toNat).fdiv (Int.ofNat 16777216)), BitVec.ofInt 8 ((c.A (↑x.2 : Int).toNat).fdiv (Int.ofNat 65536)), BitVec.ofInt 8 ((c.A (↑x.2 : Int).toNat).fdiv (Int.ofNat 256)), BitVec.ofInt 8 (c.A (↑x.2 : Int).toNat)]; let x4_1 := pvB [] (c.T (↑x.2 : Int).toNat) (2 : Int); x.2 ≤ c.n6 ∧ (x.3 = Bool.true → c.g1 ∧ x.1 = c.n5 ∧ x4 ∧ ∀ (k : Nat), k < x.2 → (1 ≤ List.length (c.T k) ∧ List.length (c.T k) ≤ 255) ∧ ((0 : Int) ≤ c.A k ∧ c.A k ≤ (4294967295 : Int)) ∧ List.length (c.D k) = 32) ∧ (c.ok → x.3 = Bool.true) → @Bool.rec (fun _ => Prop) x2_1 (@Bool.rec (fun _ => Prop) x2_1 ((0 : Int) ≤ (↑x.2 : Int) ∧ (↑x.2 : Int).toNat < c.n6 ∧ @Bool.rec (fun _ => Prop) x1_2 (@Bool.rec (fun _ => Prop) x1_2 (@Bool.rec (fun _ => Prop) x1_2 (@Bool.rec (fun _ => Prop) x1_2 ((0 : Int) ≤ (↑x.2 : Int) ∧ (↑x.2 : Int).toNat < c.n7 ∧ List.length (c.T (↑x.2 : Int).toNat) ≤ 140737488351232 ∧ List.length x4_1 = List.length x4_1 ∧ List.length (chY c.T c.A x.2) = List.length (chY c.T c.A x.2) ∧ roomFor (List.length (chY c.T c.A x.2)) (List.length x4_1) 1 ∧ 4 = x3_1.length ∧ List.length (chY c.T c.A x.2) + List.length x4_1 = (chY c.T c.A x.2 ++ x4_1).length ∧ roomFor (List.length (chY c.T c.A x.2) + List.length x4_1) x3_1.length 1 ∧ (0 : Int) ≤ (↑x.2 : Int) ∧ (↑x.2 : Int).toNat < c.n7 ∧ List.length (c.D (↑x.2 : Int).toNat) ≤ 140737488351232 ∧ List.length (pvB [] (c.D (↑x.2 : Int).toNat) (1 : Int)) = List.length (pvB [] (c.D (↑x.2 : Int).toNat) (1 : Int)) ∧ List.length (chZ c.D x.2) = List.length (chZ c.D x.2) ∧ roomFor (List.length (chZ c.D x.2)) (List.length (pvB [] (c.D (↑x.2 : Int).toNat) (1 : Int))) 1 ∧ ∃ (y : D2), c.n6 - y.2 < c.n6 - x.2 ∧ (y.2 ≤ c.n6 ∧ (y.3 = Bool.true → c.g1 ∧ y.1 = c.n5 ∧ x4 ∧ ∀ (k : Nat), k < y.2 → (1 ≤ List.length (c.T k) ∧ List.length (c.T k) ≤ 255) ∧ ((0 : Int) ≤ c.A k ∧ c.A k ≤ (4294967295 : Int)) ∧ List.length (c.D k) = 32) ∧ (c.ok → y.3 = Bool.true)) ∧ 0 = 0 ∧ y.3 = decide ((↑(List.length (c.D (↑x.2 : Int).toNat)) : Int) = (32 : Int)) ∧ 0 = 0 ∧ 0 = 0 ∧ 0 = 0 ∧ List.length (chX c.G c.K y.1) = List.length (chX c.G c.K x.1) ∧ 0 = 0 ∧ 0 = 0 ∧ 0 = 0 ∧ List.length (chY c.T c.A y.2) = List.length (chY c.T c.A x.2) + List.length x4_1 + x3_1.length ∧ 0 = 0 ∧ 0 = 0 ∧ 0 = 0 ∧ List.length (chZ c.D y.2) = List.length (chZ c.D x.2) + List.length (pvB [] (c.D (↑x.2 : Int).toNat) (1 : Int)) ∧ (↑y.2 : Int) = IntKind.i64.wrap ((↑x.2 : Int) + (1 : Int)) ∧ chX c.G c.K y.1 = chX c.G c.K x.1 ∧ allP x9 0 32 (c.s = c.s ∧ c.n1 = c.n1 ∧ x7 ∧ c.n2 = c.n2 ∧ x8 ∧ c.n3 = c.n3 ∧ x6 ∧ c.n4 = c.n4 ∧ x5 ∧ c.n5 = c.n5 ∧ x2 ∧ c.co = c.co ∧ c.mo = c.mo ∧ c.n6 = c.n6 ∧ x1_1 ∧ c.n7 = c.n7 ∧ x3 ∧ chY c.T c.A y.2 = chY c.T c.A x.2 ++ x4_1 ++ x3_1 ∧ chZ c.D y.2 = chZ c.D x.2 ++ pvB [] (c.D (↑x.2 : Int).toNat) (1 : Int) ∧ True)) (decide (c.A (↑x.2 : Int).toNat < (4294967296 : Int)))) (decide ((0 : Int) ≤ c.A (↑x.2 : Int).toNat))) (decide ((↑(List.length (c.T (↑x.2 : Int).toNat)) : Int) ≤ (255 : Int)))) (decide ((1 : Int) ≤ (↑(List.length (c.T (↑x.2 : Int).toNat)) : Int)))) x.3) (decide ((↑x.2 : Int) < (↑c.n6 : Int))); let x3 := allP (fun (i : Nat) => c.R i = c.R i) 0 32 (c.s = c.s ∧ c.n1 = c.n1 ∧ (∀ (y : Nat), y < c.n1 → datas Bool.true [AV.int IntKind.i64 (c.L1 y)] = Bool.true ∧ c.L1 y = c.L1 y ∧ True) ∧ c.n2 = c.n2 ∧ (∀ (y : Nat), y < c.n2 → datas Bool.true [AV.int IntKind.i64 (c.L2 y)] = Bool.true ∧ c.L2 y = c.L2 y ∧ True) ∧ c.n3 = c.n3 ∧ (∀ (y : Nat), y < c.n3 → datas Bool.true [AV.int IntKind.i64 (c.L3 y)] = Bool.true ∧ c.L3 y = c.L3 y ∧ True) ∧ c.n4 = c.n4 ∧ (∀ (y : Nat), y < c.n4 → datas Bool.true [AV.int IntKind.i64 (c.L4 y)] = Bool.true ∧ c.L4 y = c.L4 y ∧ True) ∧ c.n5 = c.n5 ∧ (∀ (y : Nat), y < c.n5 → datas Bool.true [AV.int IntKind.i64 (c.G y), AV.rb Bool.true (c.K y) (NL.is (u.6 y))] = Bool.true ∧ c.G y = c.G y ∧ u.6 y = u.6 y ∧ c.K y = c.K y ∧ True) ∧ c.co = c.co ∧ c.mo = c.mo ∧ c.n6 = c.n6 ∧ (∀ (y : Nat), y < c.n6 → datas Bool.true [AV.rb Bool.true (c.T y) (NL.is (u.8 y)), AV.int IntKind.i64 (c.A y)] = Bool.true ∧ u.8 y = u.8 y ∧ c.T y = c.T y ∧ c.A y = c.A y ∧ True) ∧ c.n7 = c.n7 ∧ (∀ (y : Nat), y < c.n7 → datas Bool.true [AV.rb Bool.true (c.D y) (NL.is (u.10 y))] = Bool.true ∧ u.10 y = u.10 y ∧ c.D y = c.D y ∧ True) ∧ True); let x4 := ∃ (y : Bool), (y = Bool.true ↔ c.g1) ∧ 0 = 0 ∧ y = Bool.false ∧ x3; let x5 := ∀ (y : Nat), y < c.n6 → datas Bool.true [AV.rb Bool.true (c.T y) (NL.is (u.8 y)), AV.int IntKind.i64 (c.A y)] = Bool.true ∧ u.8 y = u.8 y ∧ c.T y = c.T y ∧ c.A y = c.A y ∧ True; let x6 := ∀ (y : Nat), y < c.n5 → datas Bool.true [AV.int IntKind.i64 (c.G y), AV.rb Bool.true (c.K y) (NL.is (u.6 y))] = Bool.true ∧ c.G y = c.G y ∧ u.6 y = u.6 y ∧ c.K y = c.K y ∧ True; let x7 := ∀ (y : Nat), y < c.n7 → datas Bool.true [AV.rb Bool.true (c.D y) (NL.is (u.10 y))] = Bool.true ∧ u.10 y = u.10 y ∧ c.D y = c.D y ∧ True; let x8 := ∀ (k : Nat), k < c.n5 → ((0 : Int) ≤ c.G k ∧ c.G k ≤ (65535 : Int)) ∧ 1 ≤ List.length (c.K k) ∧ List.length (c.K k) ≤ 64; @Bool.rec (fun _ => Prop) x4 (@Bool.rec (fun _ => Prop) x4 (((fun (j : Nat) => [AV.int IntKind.i64 (c.L1 j)]) = fun (j : Nat) => [AV.int IntKind.i64 (c.L1 j)]) ∧ c.n1 < 4611686018427387904 ∧ @Bool.rec (fun _ => Prop) x4 (((fun (j : Nat) => [AV.int IntKind.i64 (c.L2 j)]) = fun (j : Nat) => [AV.int IntKind.i64 (c.L2 j)]) ∧ c.n2 < 4611686018427387904 ∧ @Bool.rec (fun _ => Prop) x4 (((fun (j : Nat) => [AV.int IntKind.i64 (c.L3 j)]) = fun (j : Nat) => [AV.int IntKind.i64 (c.L3 j)]) ∧ c.n3 < 4611686018427387904 ∧ @Bool.rec (fun _ => Prop) x4 (((fun (j : Nat) => [AV.int IntKind.i64 (c.L4 j)]) = fun (j : Nat) => [AV.int IntKind.i64 (c.L4 j)]) ∧ c.n4 < 4611686018427387904 ∧ @Bool.rec (fun _ => Prop) x4 (@Bool.rec (fun _ => Prop) x4 (@Bool.rec (fun _ => Prop) x4 (@Bool.rec (fun _ => Prop) x4 (@Bool.rec (fun _ => Prop) x4 (∃ (y : Bool), (y = Bool.true ↔ c.g1) ∧ 0 = 0 ∧ y = decide ((↑c.n6 : Int) = (↑c.n7 : Int)) ∧ x3) (decide ((↑c.n6 : Int) ≤ (4 : Int)))) (decide ((↑(List.length c.mo) : Int) ≤ (4 : Int)))) (decide ((↑(List.length c.co) : Int) ≤ (64 : Int)))) (decide ((↑c.n5 : Int) ≤ (4 : Int)))) (lnB (isUj fun (j : Nat) => c.L4 j) c.n4 (4 : Int))) (lnB (isUj fun (j : Nat) => c.L3 j) c.n3 (4 : Int))) (lnB (isUj fun (j : Nat) => c.L2 j) c.n2 (4 : Int))) (lnB (isUj fun (j : Nat) => c.L1 j) c.n1 (8 : Int))) (decide ((1 : Int) ≤ (↑c.n1 : Int)))) (decide ((↑(List.length c.s) : Int) ≤ (32 : Int))) ∧ ∀ (x : Bool), (x = Bool.true ↔ c.g1) → (∃ (x_1 : D1), (x_1.1 ≤ c.n5 ∧ c.n5 < 4611686018427387904 ∧ (x_1.2 = Bool.true → c.g1 ∧ ∀ (k : Nat), k < x_1.1 → ((0 : Int) ≤ c.G k ∧ c.G k ≤ (65535 : Int)) ∧ 1 ≤ List.length (c.K k) ∧ List.length (c.K k) ≤ 64) ∧ (c.ok → x_1.2 = Bool.true)) ∧ 0 = 0 ∧ x_1.2 = x ∧ List.length (chX c.G c.K x_1.1) = 0 ∧ (↑x_1.1 : Int) = (0 : Int) ∧ chX c.G c.K x_1.1 = [] ∧ x3) ∧ ∀ (x : D1), let x1 := (0 : Int) ≤ (↑x.1 : Int) ∧ (↑x.1 : Int).toNat < c.n5 ∧ 2 = List.length (u2 (c.G (↑x.1 : Int).toNat)) ∧ List.length (chX c.G c.K x.1) = List.length (chX c.G c.K x.1) ∧ roomFor (List.length (chX c.G c.K x.1)) (List.length (u2 (c.G (↑x.1 : Int).toNat))) 1 ∧ (0 : Int) ≤ (↑x.1 : Int) ∧ (↑x.1 : Int).toNat < c.n5 ∧ List.length (c.K (↑x.1 : Int).toNat) ≤ 140737488351232 ∧ List.length (pvB [] (c.K (↑x.1 : Int).toNat) (2 : Int)) = List.length (pvB [] (c.K (↑x.1 : Int).toNat) (2 : Int)) ∧ List.length (chX c.G c.K x.1) + List.length (u2 (c.G (↑x.1 : Int).toNat)) = (chX c.G c.K x.1 ++ u2 (c.G (↑x.1 : Int).toNat)).length ∧ roomFor (List.length (chX c.G c.K x.1) + List.length (u2 (c.G (↑x.1 : Int).toNat))) (List.length (pvB [] (c.K (↑x.1 : Int).toNat) (2 : Int))) 1 ∧ ∃ (y : D1), c.n5 - y.1 < c.n5 - x.1 ∧ (y.1 ≤ c.n5 ∧ c.n5 < 4611686018427387904 ∧ (y.2 = Bool.true → c.g1 ∧ ∀ (k : Nat), k < y.1 → ((0 : Int) ≤ c.G k ∧ c.G k ≤ (65535 : Int)) ∧ 1 ≤ List.length (c.K k) ∧ List.length (c.K k) ≤ 64) ∧ (c.ok → y.2 = Bool.true)) ∧ 0 = 0 ∧ y.2 = Bool.false ∧ 0 = 0 ∧ 0 = 0 ∧ 0 = 0 ∧ List.length (chX c.G c.K y.1) = List.length (chX c.G c.K x.1) + List.length (u2 (c.G (↑x.1 : Int).toNat)) + List.length (pvB [] (c.K (↑x.1 : Int).toNat) (2 : Int)) ∧ (↑y.1 : Int) = IntKind.i64.wrap ((↑x.1 : Int) + (1 : Int)) ∧ chX c.G c.K y.1 = chX c.G c.K x.1 ++ u2 (c.G (↑x.1 : Int).toNat) ++ pvB [] (c.K (↑x.1 : Int).toNat) (2 : Int) ∧ x3; let x2 := (∃ (x_1 : D2), (x_1.2 ≤ c.n6 ∧ (x_1.3 = Bool.true → c.g1 ∧ x_1.1 = c.n5 ∧ x8 ∧ ∀ (k : Nat), k < x_1.2 → (1 ≤ List.length (c.T k) ∧ List.length (c.T k) ≤ 255) ∧ ((0 : Int) ≤ c.A k ∧ c.A k ≤ (4294967295 : Int)) ∧ List.length (c.D k) = 32) ∧ (c.ok → x_1.3 = Bool.true)) ∧ 0 = 0 ∧ x_1.3 = x.2 ∧ 0 = 0 ∧ 0 = 0 ∧ 0 = 0 ∧ List.length (chX c.G c.K x_1.1) = List.length (chX c.G c.K x.1) ∧ List.length (chY c.T c.A x_1.2) = 0 ∧ List.length (chZ c.D x_1.2) = 0 ∧ (↑x_1.2 : Int) = (0 : Int) ∧ chX c.G c.K x_1.1 = chX c.G c.K x.1 ∧ allP (fun (i : Nat) => c.R i = c.R i) 0 32 (c.s = c.s ∧ c.n1 = c.n1 ∧ (∀ (y : Nat), y < c.n1 → datas Bool.true [AV.int IntKind.i64 (c.L1 y)] = Bool.true ∧ c.L1 y = c.L1 y ∧ True) ∧ c.n2 = c.n2 ∧ (∀ (y : Nat), y < c.n2 → datas Bool.true [AV.int IntKind.i64 (c.L2 y)] = Bool.true ∧ c.L2 y = c.L2 y ∧ True) ∧ c.n3 = c.n3 ∧ (∀ (y : Nat), y < c.n3 → datas Bool.true [AV.int IntKind.i64 (c.L3 y)] = Bool.true ∧ c.L3 y = c.L3 y ∧ True) ∧ c.n4 = c.n4 ∧ (∀ (y : Nat), y < c.n4 → datas Bool.true [AV.int IntKind.i64 (c.L4 y)] = Bool.true ∧ c.L4 y = c.L4 y ∧ True) ∧ c.n5 = c.n5 ∧ x6 ∧ c.co = c.co ∧ c.mo = c.mo ∧ c.n6 = c.n6 ∧ x5 ∧ c.n7 = c.n7 ∧ x7 ∧ chY c.T c.A x_1.2 = [] ∧ chZ c.D x_1.2 = [] ∧ True)) ∧ x2; x.1 ≤ c.n5 ∧ c.n5 < 4611686018427387904 ∧ (x.2 = Bool.true → c.g1 ∧ ∀ (k : Nat), k < x.1 → ((0 : Int) ≤ c.G k ∧ c.G k ≤ (65535 : Int)) ∧ 1 ≤ List.length (c.K k) ∧ List.length (c.K k) ≤ 64) ∧ (c.ok → x.2 = Bool.true) → @Bool.rec (fun _ => Prop) x2 (@Bool.rec (fun _ => Prop) x2 ((0 : Int) ≤ (↑x.1 : Int) ∧ (↑x.1 : Int).toNat < c.n5 ∧ @Bool.rec (fun _ => Prop) x1 (@Bool.rec (fun _ => Prop) x1 (@Bool.rec (fun _ => Prop) x1 ((0 : Int) ≤ (↑x.1 : Int) ∧ (↑x.1 : Int).toNat < c.n5 ∧ 2 = List.length (u2 (c.G (↑x.1 : Int).toNat)) ∧ List.length (chX c.G c.K x.1) = List.length (chX c.G c.K x.1) ∧ roomFor (List.length (chX c.G c.K x.1)) (List.length (u2 (c.G (↑x.1 : Int).toNat))) 1 ∧ (0 : Int) ≤ (↑x.1 : Int) ∧ (↑x.1 : Int).toNat < c.n5 ∧ List.length (c.K (↑x.1 : Int).toNat) ≤ 140737488351232 ∧ List.length (pvB [] (c.K (↑x.1 : Int).toNat) (2 : Int)) = List.length (pvB [] (c.K (↑x.1 : Int).toNat) (2 : Int)) ∧ List.length (chX c.G c.K x.1) + List.length (u2 (c.G (↑x.1 : Int).toNat)) = (chX c.G c.K x.1 ++ u2 (c.G (↑x.1 : Int).toNat)).length ∧ roomFor (List.length (chX c.G c.K x.1) + List.length (u2 (c.G (↑x.1 : Int).toNat))) (List.length (pvB [] (c.K (↑x.1 : Int).toNat) (2 : Int))) 1 ∧ ∃ (y : D1), c.n5 - y.1 < c.n5 - x.1 ∧ (y.1 ≤ c.n5 ∧ c.n5 < 4611686018427387904 ∧ (y.2 = Bool.true → c.g1 ∧ ∀ (k : Nat), k < y.1 → ((0 : Int) ≤ c.G k ∧ c.G k ≤ (65535 : Int)) ∧ 1 ≤ List.length (c.K k) ∧ List.length (c.K k) ≤ 64) ∧ (c.ok → y.2 = Bool.true)) ∧ 0 = 0 ∧ y.2 = decide ((↑(List.length (c.K (↑x.1 : Int).toNat)) : Int) ≤ (64 : Int)) ∧ 0 = 0 ∧ 0 = 0 ∧ 0 = 0 ∧ List.length (chX c.G c.K y.1) = List.length (chX c.G c.K x.1) + List.length (u2 (c.G (↑x.1 : Int).toNat)) + List.length (pvB [] (c.K (↑x.1 : Int).toNat) (2 : Int)) ∧ (↑y.1 : Int) = IntKind.i64.wrap ((↑x.1 : Int) + (1 : Int)) ∧ chX c.G c.K y.1 = chX c.G c.K x.1 ++ u2 (c.G (↑x.1 : Int).toNat) ++ pvB [] (c.K (↑x.1 : Int).toNat) (2 : Int) ∧ x3) (decide ((1 : Int) ≤ (↑(List.length (c.K (↑x.1 : Int).toNat)) : Int)))) (decide (c.G (↑x.1 : Int).toNat ≤ (65535 : Int)))) (decide ((0 : Int) ≤ c.G (↑x.1 : Int).toNat))) x.2) (decide ((↑x.1 : Int) < (↑c.n5 : Int))) : Prop) := by kernel_rfl
end Go.Sym

set_option linter.unusedSimpArgs false
namespace Go.Sym
open Go.Proofs Go.Spec
set_option linter.unusedVariables false
structure Clt extends Clu where
  us : NL
  uc : NL
  um : NL
/-- A client whose parts stay for good, by its cells. -/
def cliT (c : Cli) (u : Clt) : AV := cliA c.R [.rb true c.s u.us, inR true c.n1 c.L1 u.u1, inR true c.n2 c.L2 u.u2, inR true c.n3 c.L3 u.u3, inR true c.n4 c.L4 u.u4, shR true c.n5 c.G c.K u.C u.u5, .rb true c.co u.uc, .rb true c.mo u.um, idR true c.n6 c.T c.A u.F u.u6, biR true c.n7 c.D u.E u.u7]
def bxT (c : Cli) (u : Clt) (sh ids : AV) : ABlk := ⟨.cells (cliC c.R [.rb true c.s .unk, inR true c.n1 c.L1 .unk, inR true c.n2 c.L2 .unk, inR true c.n3 c.L3 .unk, inR true c.n4 c.L4 .unk, sh, .rb true c.co .unk, .rb true c.mo .unk, ids, biR true c.n7 c.D u.E .unk]), true, 0⟩
def bxZ : ABlk := ⟨.cells (cliC (fun _ => 0) [.nils, .nils, .nils, .nils, .nils, .nils, .nils, .nils, .nils, .nils]), true, 0⟩
def shB (c : Cli) (u : Clt) (j : Nat) : ABlk := ⟨.rows 2 j (fun k => [.int .i64 (c.G k), .rb true (c.K k) (.is (u.C k))]), true, 2⟩
def idBl (c : Cli) (u : Clt) (j : Nat) : ABlk := ⟨.rows 2 j (fun k => [.rb true (c.T k) (.is (u.F k)), .int .i64 (c.A k)]), true, 2⟩
def lsT1 (c : Cli) (u : Clt) : LS := ⟨Nat, fun j => [(1, .ptr 101 0 0 0), (2, .ptr 102 0 0 0), (3, .ptr 103 0 0 0), (4, .int .i64 j)],
  fun j => [(101, bxT c u (shR true c.n5 c.G c.K u.C .unk) (idR true c.n6 c.T c.A u.F .unk)), (102, bxZ), (103, bxT c u (.slice 104 0 2 j .ow .unk) .nils), (104, shB c u j)], 1000, fun j => c.n5 - j, fun j => j ≤ c.n5, fun _ => []⟩
def lsT2 (c : Cli) (u : Clt) : LS := ⟨Nat, fun j => [(1, .ptr 101 0 0 0), (2, .ptr 102 0 0 0), (3, .ptr 103 0 0 0), (5, .int .i64 j)],
  fun j => [(101, bxT c u (shR true c.n5 c.G c.K u.C .unk) (idR true c.n6 c.T c.A u.F .unk)), (102, bxZ), (103, bxT c u (.slice 104 0 2 c.n5 .ow .unk) (.slice 105 0 2 j .ow .unk)), (104, shB c u c.n5), (105, idBl c u j)], 1000, fun j => c.n6 - j, fun j => j ≤ c.n6, fun _ => []⟩
def ls15 (c : Cli) (u : Clt) : List (Nat × LS) := [(4, lsT1 c u), (8, lsT2 c u)]
def rTo (c : Cli) (u : Clt) : RL := ⟨[], .agg (cliC c.R [.rb true c.s .unk, inR true c.n1 c.L1 .unk, inR true c.n2 c.L2 .unk, inR true c.n3 c.L3 .unk, inR true c.n4 c.L4 .unk, .slice 0 0 2 c.n5 .ow .unk, .rb true c.co .unk, .rb true c.mo .unk, .slice 1 0 2 c.n6 .ow .unk, biR true c.n7 c.D u.E .unk]), [], [shB c u c.n5, idBl c u c.n6]⟩
end Go.Sym

namespace Go.Sym
open Go.Proofs Go.Spec
set_option linter.unusedVariables false
set_option maxRecDepth 100000 in
theorem vt15 (c : Cli) (u : Clt) : bodyP Tryd.prog Ge3 gl0 [] (ls15 c u) 3000 Tryd.f15 0 [cliT c u] [] (retQ Tryd.prog Tryd.f15 0 (rTo c u)) = (
let x1 := ∀ (y : Nat), y < c.n7 → datas Bool.true [AV.rb Bool.true (c.D y) (NL.is (u.1.10 y))] = Bool.true ∧ u.1.10 y = u.1.10 y ∧ c.D y = c.D y ∧ True; let x2 := ∀ (y : Nat), y < c.n4 → datas Bool.true [AV.int IntKind.i64 (c.L4 y)] = Bool.true ∧ c.L4 y = c.L4 y ∧ True; let x3 := ∀ (y : Nat), y < c.n2 → datas Bool.true [AV.int IntKind.i64 (c.L2 y)] = Bool.true ∧ c.L2 y = c.L2 y ∧ True; let x4 := ∀ (y : Nat), y < c.n3 → datas Bool.true [AV.int IntKind.i64 (c.L3 y)] = Bool.true ∧ c.L3 y = c.L3 y ∧ True; let x5 := ∀ (y : Nat), y < c.n1 → datas Bool.true [AV.int IntKind.i64 (c.L1 y)] = Bool.true ∧ c.L1 y = c.L1 y ∧ True; let x6 := ∀ (y : Nat), y < c.n6 → datas Bool.true [AV.rb Bool.true (c.T y) (NL.is (u.1.8 y)), AV.int IntKind.i64 (c.A y)] = Bool.true ∧ u.1.8 y = u.1.8 y ∧ c.T y = c.T y ∧ c.A y = c.A y ∧ True; let x7 := ∀ (y : Nat), y < c.n5 → datas Bool.true [AV.int IntKind.i64 (c.G y), AV.rb Bool.true (c.K y) (NL.is (u.1.6 y))] = Bool.true ∧ c.G y = c.G y ∧ u.1.6 y = u.1.6 y ∧ c.K y = c.K y ∧ True; let x8 := ∀ (y : Nat), y < c.n5 → datas Bool.false [AV.int IntKind.i64 (c.G y), AV.rb Bool.true (c.K y) (NL.is (u.1.6 y))] = Bool.true ∧ [AV.int IntKind.i64 (c.G y), AV.rb Bool.true (c.K y) (NL.is (u.1.6 y))] = [AV.int IntKind.i64 (c.G y), AV.rb Bool.true (c.K y) (NL.is (u.1.6 y))]; let x9 := fun (i : Nat) => c.R i = c.R i; (∃ (x : Nat), x.le c.n5 ∧ 0 = 0 ∧ 0 = 0 ∧ 0 = 0 ∧ (↑x : Int) = (0 : Int) ∧ allP x9 0 32 (c.s = c.s ∧ c.n1 = c.n1 ∧ x5 ∧ c.n2 = c.n2 ∧ x3 ∧ c.n3 = c.n3 ∧ x4 ∧ c.n4 = c.n4 ∧ x2 ∧ c.n5 = c.n5 ∧ x7 ∧ c.co = c.co ∧ c.mo = c.mo ∧ c.n6 = c.n6 ∧ x6 ∧ c.n7 = c.n7 ∧ x1 ∧ allP (fun (i : Nat) => (0 : BitVec 8) = BitVec.ofNat 8 0) 0 32 (allP x9 0 32 (c.s = c.s ∧ c.n1 = c.n1 ∧ x5 ∧ c.n2 = c.n2 ∧ x3 ∧ c.n3 = c.n3 ∧ x4 ∧ c.n4 = c.n4 ∧ x2 ∧ x = 0 ∧ c.co = c.co ∧ c.mo = c.mo ∧ c.n7 = c.n7 ∧ x1 ∧ x = 0 ∧ True)))) ∧ ∀ (x : Nat), x.le c.n5 → @Bool.rec (fun _ => Prop) ((∃ (x_1 : Nat), x_1.le c.n6 ∧ 0 = 0 ∧ 0 = 0 ∧ 0 = 0 ∧ (↑x_1 : Int) = (0 : Int) ∧ allP x9 0 32 (c.s = c.s ∧ c.n1 = c.n1 ∧ x5 ∧ c.n2 = c.n2 ∧ x3 ∧ c.n3 = c.n3 ∧ x4 ∧ c.n4 = c.n4 ∧ x2 ∧ c.n5 = c.n5 ∧ x7 ∧ c.co = c.co ∧ c.mo = c.mo ∧ c.n6 = c.n6 ∧ x6 ∧ c.n7 = c.n7 ∧ x1 ∧ allP (fun (i : Nat) => (0 : BitVec 8) = (0 : BitVec 8)) 0 32 (allP x9 0 32 (c.s = c.s ∧ c.n1 = c.n1 ∧ x5 ∧ c.n2 = c.n2 ∧ x3 ∧ c.n3 = c.n3 ∧ x4 ∧ c.n4 = c.n4 ∧ x2 ∧ 0 = 0 ∧ 0 = 0 ∧ 0 = 0 ∧ c.n5 = x ∧ c.co = c.co ∧ c.mo = c.mo ∧ x_1 = 0 ∧ c.n7 = c.n7 ∧ x1 ∧ c.n5 = x ∧ x8 ∧ x_1 = 0 ∧ True)))) ∧ ∀ (x : Nat), x.le c.n6 → @Bool.rec (fun _ => Prop) ((∀ (y : Nat), y < c.n5 → outs Bool.true [AV.int IntKind.i64 (c.G y), AV.rb Bool.true (c.K y) (NL.is (u.1.6 y))] = Bool.true) ∧ (∀ (y : Nat), y < c.n6 → outs Bool.true [AV.rb Bool.true (c.T y) (NL.is (u.1.8 y)), AV.int IntKind.i64 (c.A y)] = Bool.true) ∧ allP x9 0 32 (c.s = c.s ∧ c.n1 = c.n1 ∧ x5 ∧ c.n2 = c.n2 ∧ x3 ∧ c.n3 = c.n3 ∧ x4 ∧ c.n4 = c.n4 ∧ x2 ∧ 0 = 0 ∧ 0 = 0 ∧ 0 = 0 ∧ c.n5 = c.n5 ∧ c.co = c.co ∧ c.mo = c.mo ∧ 0 = 0 ∧ 0 = 0 ∧ 0 = 0 ∧ c.n6 = x ∧ c.n7 = c.n7 ∧ x1 ∧ c.n5 = c.n5 ∧ x8 ∧ c.n6 = x ∧ (∀ (y : Nat), y < c.n6 → datas Bool.false [AV.rb Bool.true (c.T y) (NL.is (u.1.8 y)), AV.int IntKind.i64 (c.A y)] = Bool.true ∧ [AV.rb Bool.true (c.T y) (NL.is (u.1.8 y)), AV.int IntKind.i64 (c.A y)] = [AV.rb Bool.true (c.T y) (NL.is (u.1.8 y)), AV.int IntKind.i64 (c.A y)]) ∧ True)) ((0 : Int) ≤ (↑x : Int) ∧ (↑x : Int).toNat < c.n6 ∧ (0 : Int) ≤ (↑x : Int) ∧ (↑x : Int).toNat < c.n6 ∧ x = x ∧ roomFor x 1 32 ∧ ∃ (y : Nat), c.n6 - y < c.n6 - x ∧ y.le c.n6 ∧ 0 = 0 ∧ 0 = 0 ∧ 0 = 0 ∧ (↑y : Int) = IntKind.i64.wrap ((↑x : Int) + (1 : Int)) ∧ allP x9 0 32 (c.s = c.s ∧ c.n1 = c.n1 ∧ x5 ∧ c.n2 = c.n2 ∧ x3 ∧ c.n3 = c.n3 ∧ x4 ∧ c.n4 = c.n4 ∧ x2 ∧ c.n5 = c.n5 ∧ x7 ∧ c.co = c.co ∧ c.mo = c.mo ∧ c.n6 = c.n6 ∧ x6 ∧ c.n7 = c.n7 ∧ x1 ∧ allP (fun (i : Nat) => (0 : BitVec 8) = (0 : BitVec 8)) 0 32 (allP x9 0 32 (c.s = c.s ∧ c.n1 = c.n1 ∧ x5 ∧ c.n2 = c.n2 ∧ x3 ∧ c.n3 = c.n3 ∧ x4 ∧ c.n4 = c.n4 ∧ x2 ∧ 0 = 0 ∧ 0 = 0 ∧ 0 = 0 ∧ c.n5 = c.n5 ∧ c.co = c.co ∧ c.mo = c.mo ∧ 0 = 0 ∧ 0 = 0 ∧ 0 = 0 ∧ y = x + 1 ∧ c.n7 = c.n7 ∧ x1 ∧ c.n5 = c.n5 ∧ x8 ∧ y = x + 1 ∧ (∀ (y_1 : Nat), y_1 < y → datas Bool.false [AV.rb Bool.true (c.T y_1) (NL.is (u.1.8 y_1)), AV.int IntKind.i64 (c.A y_1)] = Bool.true ∧ glue (fun (k : Nat) => [AV.rb Bool.true (c.T k) (NL.is (u.1.8 k)), AV.int IntKind.i64 (c.A k)]) x (cut 2 (List.take 2 (List.drop 0 [AV.rb Bool.true (c.T (↑x : Int).toNat) (NL.is (u.1.8 (↑x : Int).toNat)), AV.int IntKind.i64 (c.A (↑x : Int).toNat)]))) y_1 = [AV.rb Bool.true (c.T y_1) (NL.is (u.1.8 y_1)), AV.int IntKind.i64 (c.A y_1)]) ∧ True)))) (decide ((↑x : Int) < (↑c.n6 : Int)))) ((0 : Int) ≤ (↑x : Int) ∧ (↑x : Int).toNat < c.n5 ∧ (0 : Int) ≤ (↑x : Int) ∧ (↑x : Int).toNat < c.n5 ∧ x = x ∧ roomFor x 1 32 ∧ ∃ (y : Nat), c.n5 - y < c.n5 - x ∧ y.le c.n5 ∧ 0 = 0 ∧ 0 = 0 ∧ 0 = 0 ∧ (↑y : Int) = IntKind.i64.wrap ((↑x : Int) + (1 : Int)) ∧ allP x9 0 32 (c.s = c.s ∧ c.n1 = c.n1 ∧ x5 ∧ c.n2 = c.n2 ∧ x3 ∧ c.n3 = c.n3 ∧ x4 ∧ c.n4 = c.n4 ∧ x2 ∧ c.n5 = c.n5 ∧ x7 ∧ c.co = c.co ∧ c.mo = c.mo ∧ c.n6 = c.n6 ∧ x6 ∧ c.n7 = c.n7 ∧ x1 ∧ allP (fun (i : Nat) => (0 : BitVec 8) = (0 : BitVec 8)) 0 32 (allP x9 0 32 (c.s = c.s ∧ c.n1 = c.n1 ∧ x5 ∧ c.n2 = c.n2 ∧ x3 ∧ c.n3 = c.n3 ∧ x4 ∧ c.n4 = c.n4 ∧ x2 ∧ 0 = 0 ∧ 0 = 0 ∧ 0 = 0 ∧ y = x + 1 ∧ c.co = c.co ∧ c.mo = c.mo ∧ c.n7 = c.n7 ∧ x1 ∧ y = x + 1 ∧ (∀ (y_1 : Nat), y_1 < y → datas Bool.false [AV.int IntKind.i64 (c.G y_1), AV.rb Bool.true (c.K y_1) (NL.is (u.1.6 y_1))] = Bool.true ∧ glue (fun (k : Nat) => [AV.int IntKind.i64 (c.G k), AV.rb Bool.true (c.K k) (NL.is (u.1.6 k))]) x (cut 2 (List.take 2 (List.drop 0 [AV.int IntKind.i64 (c.G (↑x : Int).toNat), AV.rb Bool.true (c.K (↑x : Int).toNat) (NL.is (u.1.6 (↑x : Int).toNat))]))) y_1 = [AV.int IntKind.i64 (c.G y_1), AV.rb Bool.true (c.K y_1) (NL.is (u.1.6 y_1))]) ∧ True)))) (decide ((↑x : Int) < (↑c.n5 : Int))) : Prop) := by kernel_rfl
set_option maxRecDepth 100000 in
theorem vt21 (c : Cli) (u : Clt) : bodyP Tryd.prog Ge3 gl0 [] (ls15 c u) 3000 Tryd.f21 0 [cliT c u] [] (retQ Tryd.prog Tryd.f21 0 (rTo c u)) = (
let x1 := ∀ (y : Nat), y < c.n7 → datas Bool.true [AV.rb Bool.true (c.D y) (NL.is (u.1.10 y))] = Bool.true ∧ u.1.10 y = u.1.10 y ∧ c.D y = c.D y ∧ True; let x2 := ∀ (y : Nat), y < c.n4 → datas Bool.true [AV.int IntKind.i64 (c.L4 y)] = Bool.true ∧ c.L4 y = c.L4 y ∧ True; let x3 := ∀ (y : Nat), y < c.n2 → datas Bool.true [AV.int IntKind.i64 (c.L2 y)] = Bool.true ∧ c.L2 y = c.L2 y ∧ True; let x4 := ∀ (y : Nat), y < c.n3 → datas Bool.true [AV.int IntKind.i64 (c.L3 y)] = Bool.true ∧ c.L3 y = c.L3 y ∧ True; let x5 := ∀ (y : Nat), y < c.n1 → datas Bool.true [AV.int IntKind.i64 (c.L1 y)] = Bool.true ∧ c.L1 y = c.L1 y ∧ True; let x6 := ∀ (y : Nat), y < c.n6 → datas Bool.true [AV.rb Bool.true (c.T y) (NL.is (u.1.8 y)), AV.int IntKind.i64 (c.A y)] = Bool.true ∧ u.1.8 y = u.1.8 y ∧ c.T y = c.T y ∧ c.A y = c.A y ∧ True; let x7 := ∀ (y : Nat), y < c.n5 → datas Bool.true [AV.int IntKind.i64 (c.G y), AV.rb Bool.true (c.K y) (NL.is (u.1.6 y))] = Bool.true ∧ c.G y = c.G y ∧ u.1.6 y = u.1.6 y ∧ c.K y = c.K y ∧ True; let x8 := ∀ (y : Nat), y < c.n5 → datas Bool.false [AV.int IntKind.i64 (c.G y), AV.rb Bool.true (c.K y) (NL.is (u.1.6 y))] = Bool.true ∧ [AV.int IntKind.i64 (c.G y), AV.rb Bool.true (c.K y) (NL.is (u.1.6 y))] = [AV.int IntKind.i64 (c.G y), AV.rb Bool.true (c.K y) (NL.is (u.1.6 y))]; let x9 := fun (i : Nat) => c.R i = c.R i; (∃ (x : Nat), x.le c.n5 ∧ 0 = 0 ∧ 0 = 0 ∧ 0 = 0 ∧ (↑x : Int) = (0 : Int) ∧ allP x9 0 32 (c.s = c.s ∧ c.n1 = c.n1 ∧ x5 ∧ c.n2 = c.n2 ∧ x3 ∧ c.n3 = c.n3 ∧ x4 ∧ c.n4 = c.n4 ∧ x2 ∧ c.n5 = c.n5 ∧ x7 ∧ c.co = c.co ∧ c.mo = c.mo ∧ c.n6 = c.n6 ∧ x6 ∧ c.n7 = c.n7 ∧ x1 ∧ allP (fun (i : Nat) => (0 : BitVec 8) = BitVec.ofNat 8 0) 0 32 (allP x9 0 32 (c.s = c.s ∧ c.n1 = c.n1 ∧ x5 ∧ c.n2 = c.n2 ∧ x3 ∧ c.n3 = c.n3 ∧ x4 ∧ c.n4 = c.n4 ∧ x2 ∧ x = 0 ∧ c.co = c.co ∧ c.mo = c.mo ∧ c.n7 = c.n7 ∧ x1 ∧ x = 0 ∧ True)))) ∧ ∀ (x : Nat), x.le c.n5 → @Bool.rec (fun _ => Prop) ((∃ (x_1 : Nat), x_1.le c.n6 ∧ 0 = 0 ∧ 0 = 0 ∧ 0 = 0 ∧ (↑x_1 : Int) = (0 : Int) ∧ allP x9 0 32 (c.s = c.s ∧ c.n1 = c.n1 ∧ x5 ∧ c.n2 = c.n2 ∧ x3 ∧ c.n3 = c.n3 ∧ x4 ∧ c.n4 = c.n4 ∧ x2 ∧ c.n5 = c.n5 ∧ x7 ∧ c.co = c.co ∧ c.mo = c.mo ∧ c.n6 = c.n6 ∧ x6 ∧ c.n7 = c.n7 ∧ x1 ∧ allP (fun (i : Nat) => (0 : BitVec 8) = (0 : BitVec 8)) 0 32 (allP x9 0 32 (c.s = c.s ∧ c.n1 = c.n1 ∧ x5 ∧ c.n2 = c.n2 ∧ x3 ∧ c.n3 = c.n3 ∧ x4 ∧ c.n4 = c.n4 ∧ x2 ∧ 0 = 0 ∧ 0 = 0 ∧ 0 = 0 ∧ c.n5 = x ∧ c.co = c.co ∧ c.mo = c.mo ∧ x_1 = 0 ∧ c.n7 = c.n7 ∧ x1 ∧ c.n5 = x ∧ x8 ∧ x_1 = 0 ∧ True)))) ∧ ∀ (x : Nat), x.le c.n6 → @Bool.rec (fun _ => Prop) ((∀ (y : Nat), y < c.n5 → outs Bool.true [AV.int IntKind.i64 (c.G y), AV.rb Bool.true (c.K y) (NL.is (u.1.6 y))] = Bool.true) ∧ (∀ (y : Nat), y < c.n6 → outs Bool.true [AV.rb Bool.true (c.T y) (NL.is (u.1.8 y)), AV.int IntKind.i64 (c.A y)] = Bool.true) ∧ allP x9 0 32 (c.s = c.s ∧ c.n1 = c.n1 ∧ x5 ∧ c.n2 = c.n2 ∧ x3 ∧ c.n3 = c.n3 ∧ x4 ∧ c.n4 = c.n4 ∧ x2 ∧ 0 = 0 ∧ 0 = 0 ∧ 0 = 0 ∧ c.n5 = c.n5 ∧ c.co = c.co ∧ c.mo = c.mo ∧ 0 = 0 ∧ 0 = 0 ∧ 0 = 0 ∧ c.n6 = x ∧ c.n7 = c.n7 ∧ x1 ∧ c.n5 = c.n5 ∧ x8 ∧ c.n6 = x ∧ (∀ (y : Nat), y < c.n6 → datas Bool.false [AV.rb Bool.true (c.T y) (NL.is (u.1.8 y)), AV.int IntKind.i64 (c.A y)] = Bool.true ∧ [AV.rb Bool.true (c.T y) (NL.is (u.1.8 y)), AV.int IntKind.i64 (c.A y)] = [AV.rb Bool.true (c.T y) (NL.is (u.1.8 y)), AV.int IntKind.i64 (c.A y)]) ∧ True)) ((0 : Int) ≤ (↑x : Int) ∧ (↑x : Int).toNat < c.n6 ∧ (0 : Int) ≤ (↑x : Int) ∧ (↑x : Int).toNat < c.n6 ∧ x = x ∧ roomFor x 1 32 ∧ ∃ (y : Nat), c.n6 - y < c.n6 - x ∧ y.le c.n6 ∧ 0 = 0 ∧ 0 = 0 ∧ 0 = 0 ∧ (↑y : Int) = IntKind.i64.wrap ((↑x : Int) + (1 : Int)) ∧ allP x9 0 32 (c.s = c.s ∧ c.n1 = c.n1 ∧ x5 ∧ c.n2 = c.n2 ∧ x3 ∧ c.n3 = c.n3 ∧ x4 ∧ c.n4 = c.n4 ∧ x2 ∧ c.n5 = c.n5 ∧ x7 ∧ c.co = c.co ∧ c.mo = c.mo ∧ c.n6 = c.n6 ∧ x6 ∧ c.n7 = c.n7 ∧ x1 ∧ allP (fun (i : Nat) => (0 : BitVec 8) = (0 : BitVec 8)) 0 32 (allP x9 0 32 (c.s = c.s ∧ c.n1 = c.n1 ∧ x5 ∧ c.n2 = c.n2 ∧ x3 ∧ c.n3 = c.n3 ∧ x4 ∧ c.n4 = c.n4 ∧ x2 ∧ 0 = 0 ∧ 0 = 0 ∧ 0 = 0 ∧ c.n5 = c.n5 ∧ c.co = c.co ∧ c.mo = c.mo ∧ 0 = 0 ∧ 0 = 0 ∧ 0 = 0 ∧ y = x + 1 ∧ c.n7 = c.n7 ∧ x1 ∧ c.n5 = c.n5 ∧ x8 ∧ y = x + 1 ∧ (∀ (y_1 : Nat), y_1 < y → datas Bool.false [AV.rb Bool.true (c.T y_1) (NL.is (u.1.8 y_1)), AV.int IntKind.i64 (c.A y_1)] = Bool.true ∧ glue (fun (k : Nat) => [AV.rb Bool.true (c.T k) (NL.is (u.1.8 k)), AV.int IntKind.i64 (c.A k)]) x (cut 2 (List.take 2 (List.drop 0 [AV.rb Bool.true (c.T (↑x : Int).toNat) (NL.is (u.1.8 (↑x : Int).toNat)), AV.int IntKind.i64 (c.A (↑x : Int).toNat)]))) y_1 = [AV.rb Bool.true (c.T y_1) (NL.is (u.1.8 y_1)), AV.int IntKind.i64 (c.A y_1)]) ∧ True)))) (decide ((↑x : Int) < (↑c.n6 : Int)))) ((0 : Int) ≤ (↑x : Int) ∧ (↑x : Int).toNat < c.n5 ∧ (0 : Int) ≤ (↑x : Int) ∧ (↑x : Int).toNat < c.n5 ∧ x = x ∧ roomFor x 1 32 ∧ ∃ (y : Nat), c.n5 - y < c.n5 - x ∧ y.le c.n5 ∧ 0 = 0 ∧ 0 = 0 ∧ 0 = 0 ∧ (↑y : Int) = IntKind.i64.wrap ((↑x : Int) + (1 : Int)) ∧ allP x9 0 32 (c.s = c.s ∧ c.n1 = c.n1 ∧ x5 ∧ c.n2 = c.n2 ∧ x3 ∧ c.n3 = c.n3 ∧ x4 ∧ c.n4 = c.n4 ∧ x2 ∧ c.n5 = c.n5 ∧ x7 ∧ c.co = c.co ∧ c.mo = c.mo ∧ c.n6 = c.n6 ∧ x6 ∧ c.n7 = c.n7 ∧ x1 ∧ allP (fun (i : Nat) => (0 : BitVec 8) = (0 : BitVec 8)) 0 32 (allP x9 0 32 (c.s = c.s ∧ c.n1 = c.n1 ∧ x5 ∧ c.n2 = c.n2 ∧ x3 ∧ c.n3 = c.n3 ∧ x4 ∧ c.n4 = c.n4 ∧ x2 ∧ 0 = 0 ∧ 0 = 0 ∧ 0 = 0 ∧ y = x + 1 ∧ c.co = c.co ∧ c.mo = c.mo ∧ c.n7 = c.n7 ∧ x1 ∧ y = x + 1 ∧ (∀ (y_1 : Nat), y_1 < y → datas Bool.false [AV.int IntKind.i64 (c.G y_1), AV.rb Bool.true (c.K y_1) (NL.is (u.1.6 y_1))] = Bool.true ∧ glue (fun (k : Nat) => [AV.int IntKind.i64 (c.G k), AV.rb Bool.true (c.K k) (NL.is (u.1.6 k))]) x (cut 2 (List.take 2 (List.drop 0 [AV.int IntKind.i64 (c.G (↑x : Int).toNat), AV.rb Bool.true (c.K (↑x : Int).toNat) (NL.is (u.1.6 (↑x : Int).toNat))]))) y_1 = [AV.int IntKind.i64 (c.G y_1), AV.rb Bool.true (c.K y_1) (NL.is (u.1.6 y_1))]) ∧ True)))) (decide ((↑x : Int) < (↑c.n5 : Int))) : Prop) := by kernel_rfl
end Go.Sym

set_option linter.unusedSimpArgs false
namespace Go.Sym
open Go.Proofs Go.Spec
set_option linter.unusedVariables false
theorem brec_eq {A B : Prop} {t : Bool} : @Bool.rec (fun _ => Prop) A B t = ((t = true → B) ∧ (t = false → A)) := by
  cases t <;> simp
theorem datas_nil (p : Bool) : datas p [] = true := rfl
theorem datas_int (p : Bool) (k : IntKind) (n : Int) (l : List AV) : datas p (.int k n :: l) = datas p l := by
  show (true && datas p l) = datas p l
  simp
theorem datas_rb (p : Bool) (b : By) (nl : NL) (l : List AV) : datas p (.rb true b nl :: l) = datas p l := by
  show ((true || !p) && datas p l) = datas p l
  simp
theorem outs_nil (p : Bool) : outs p [] = true := rfl
theorem outs_int (p : Bool) (k : IntKind) (n : Int) (l : List AV) : outs p (.int k n :: l) = outs p l := by
  show (true && outs p l) = outs p l
  simp
theorem outs_rb (p : Bool) (b : By) (nl : NL) (l : List AV) : outs p (.rb true b nl :: l) = outs p l := by
  show ((AV.rb true b nl).out p && outs p l) = outs p l
  have : (AV.rb true b nl).out p = true := by unfold AV.out; simp
  rw [this]; simp
theorem bt15 (c : Cli) (u : Clt) (h5 : c.n5 * 32 ≤ 140737488351232) (h6 : c.n6 * 32 ≤ 140737488351232) : Must (bodyP Tryd.prog Ge3 gl0 [] (ls15 c u) 3000 Tryd.f15 0 [cliT c u] [] (retQ Tryd.prog Tryd.f15 0 (rTo c u))) := by
  constructor
  rw [vt15]
  set_option simprocs false in
  simp only [eq_self_iff_true, true_and, and_true, implies_true, allP_tt, datas_int, datas_rb, datas_nil, outs_nil, outs_rb, outs_int, brec_eq, decide_eq_true_eq, decide_eq_false_iff_not, Int.toNat_natCast]
  have gl : ∀ (f : Nat → List AV) (x y : Nat), y < x + 1 → (f x).length = 2 → glue f x (cut 2 (List.take 2 (List.drop 0 (f x)))) y = f y := by
    intro f x y hy hl
    unfold glue
    by_cases h : y < x
    · simp [h]
    · obtain rfl : y = x := by omega
      match e : f y, hl with
      | [a, b], _ => simp [cut]
  refine ⟨⟨0, Nat.zero_le _, rfl, allP_of 32 0 (fun _ _ _ => rfl) ⟨rfl, rfl⟩⟩, fun x hx => ⟨fun d => ⟨by omega, by omega, by omega, by omega, ?_, x + 1, by omega, (by show x + 1 ≤ c.n5; omega), (wrap_nat (x + 1) (by omega) (by omega)).symm, rfl, rfl, fun y hy => gl (fun k => [AV.int IntKind.i64 (c.G k), AV.rb true (c.K k) (NL.is (u.C k))]) x y hy rfl⟩, fun d => ?_⟩⟩
  · unfold roomFor; have hx : x ≤ c.n5 := hx; omega
  · have hx : x ≤ c.n5 := hx
    obtain rfl : x = c.n5 := by omega
    refine ⟨⟨0, Nat.zero_le _, rfl, rfl, rfl, rfl, rfl⟩, fun x hx => ?_⟩
    have hx : x ≤ c.n6 := hx
    refine ⟨fun d => ⟨by omega, by omega, by omega, by omega, ?_, x + 1, by omega, (by show x + 1 ≤ c.n6; omega), (wrap_nat (x + 1) (by omega) (by omega)).symm, rfl, rfl, fun y hy => gl (fun k => [AV.rb true (c.T k) (NL.is (u.F k)), AV.int IntKind.i64 (c.A k)]) x y hy rfl⟩, fun d => by omega⟩
    unfold roomFor; omega
theorem bt21 (c : Cli) (u : Clt) (h5 : c.n5 * 32 ≤ 140737488351232) (h6 : c.n6 * 32 ≤ 140737488351232) : Must (bodyP Tryd.prog Ge3 gl0 [] (ls15 c u) 3000 Tryd.f21 0 [cliT c u] [] (retQ Tryd.prog Tryd.f21 0 (rTo c u))) := by
  constructor
  rw [vt21]
  set_option simprocs false in
  simp only [eq_self_iff_true, true_and, and_true, implies_true, allP_tt, datas_int, datas_rb, datas_nil, outs_nil, outs_rb, outs_int, brec_eq, decide_eq_true_eq, decide_eq_false_iff_not, Int.toNat_natCast]
  have gl : ∀ (f : Nat → List AV) (x y : Nat), y < x + 1 → (f x).length = 2 → glue f x (cut 2 (List.take 2 (List.drop 0 (f x)))) y = f y := by
    intro f x y hy hl
    unfold glue
    by_cases h : y < x
    · simp [h]
    · obtain rfl : y = x := by omega
      match e : f y, hl with
      | [a, b], _ => simp [cut]
  refine ⟨⟨0, Nat.zero_le _, rfl, allP_of 32 0 (fun _ _ _ => rfl) ⟨rfl, rfl⟩⟩, fun x hx => ⟨fun d => ⟨by omega, by omega, by omega, by omega, ?_, x + 1, by omega, (by show x + 1 ≤ c.n5; omega), (wrap_nat (x + 1) (by omega) (by omega)).symm, rfl, rfl, fun y hy => gl (fun k => [AV.int IntKind.i64 (c.G k), AV.rb true (c.K k) (NL.is (u.C k))]) x y hy rfl⟩, fun d => ?_⟩⟩
  · unfold roomFor; have hx : x ≤ c.n5 := hx; omega
  · have hx : x ≤ c.n5 := hx
    obtain rfl : x = c.n5 := by omega
    refine ⟨⟨0, Nat.zero_le _, rfl, rfl, rfl, rfl, rfl⟩, fun x hx => ?_⟩
    have hx : x ≤ c.n6 := hx
    refine ⟨fun d => ⟨by omega, by omega, by omega, by omega, ?_, x + 1, by omega, (by show x + 1 ≤ c.n6; omega), (wrap_nat (x + 1) (by omega) (by omega)).symm, rfl, rfl, fun y hy => gl (fun k => [AV.rb true (c.T k) (NL.is (u.F k)), AV.int IntKind.i64 (c.A k)]) x y hy rfl⟩, fun d => by omega⟩
    unfold roomFor; omega
end Go.Sym

set_option linter.unusedSimpArgs false
namespace Go.Sym
open Go.Proofs Go.Spec
set_option linter.unusedVariables false
def asCliT (cs : List AV) (k : Cli → Clt → List Prop → TL) : TL :=
  match cs.drop 32, rdU8 (cs.take 32) with
  | [.rb true s us, .ros true 1 n1 g1 u1, .ros true 1 n2 g2 u2, .ros true 1 n3 g3 u3, .ros true 1 n4 g4 u4, .ros true 2 n5 g5 u5, .rb true co uc, .rb true mo um, .ros true 2 n6 g6 u6, .ros true 1 n7 g7 u7], some l =>
    (match l.length == 32 with
    | true => k ⟨fn8 l, s, n1, rowI g1, n2, rowI g2, n3, rowI g3, n4, rowI g4, n5, rowG g5, rowK g5, co, mo, n6, rowT g6, rowA g6, n7, rowD g7⟩ ⟨⟨u1, u2, u3, u4, u5, rowKc g5, u6, rowTc g6, u7, rowDc g7⟩, us, uc, um⟩ [isRowI g1, isRowI g2, isRowI g3, isRowI g4, isRowS g5, isRowT g6, isRowD g7]
    | false => .no)
  | _, _ => .no
theorem asCliT_sel {cs : List AV} {k : Cli → Clt → List Prop → TL} {r : RL} (h : (asCliT cs k).sel = some r) : ∃ c u o, (k c u o).sel = some r ∧ (obsT o → AV.agg cs = cliT c u) := by
  unfold asCliT at h
  split at h
  · rename_i s us n1 g1 u1 n2 g2 u2 n3 g3 u3 n4 g4 u4 n5 g5 u5 co uc mo um n6 g6 u6 n7 g7 u7 l hd hl
    split at h
    · rename_i hn
      refine ⟨_, _, _, h, fun ho => ?_⟩
      obtain ⟨i1, ho⟩ := obsT_cons.1 ho
      obtain ⟨i2, ho⟩ := obsT_cons.1 ho
      obtain ⟨i3, ho⟩ := obsT_cons.1 ho
      obtain ⟨i4, ho⟩ := obsT_cons.1 ho
      obtain ⟨i5, ho⟩ := obsT_cons.1 ho
      obtain ⟨i6, ho⟩ := obsT_cons.1 ho
      have i7 := obsT_one.1 ho
      have e := List.take_append_drop 32 cs
      have e8 := agB_of hl hn
      unfold aggB at e8
      rw [AV.agg.injEq] at e8
      rw [hd, e8] at e
      unfold cliT cliA cliC inR shR idR biR
      rw [← e]
      congr 2
      unfold isRowI at i1 i2 i3 i4
      unfold isRowS at i5
      unfold isRowT at i6
      unfold isRowD at i7
      rw [← i1, ← i2, ← i3, ← i4, ← i5, ← i6, ← i7]
    · simp [TL.sel] at h
  · simp [TL.sel] at h
def gt15 (xs : List AV) (bs : List ABlk) : TL := match xs, bs with
  | [.agg cs], [] => asCliT cs fun c u o => .ok { rTo c u with ob := (c.n5 * 32 ≤ 140737488351232) :: (c.n6 * 32 ≤ 140737488351232) :: o }
  | _, _ => .no
def spt15 : Spec := ⟨[.kp], fun _ _ => [], fun _ _ => [], gt15⟩
theorem ct15 : COK Tryd.prog gl0 15 (mkF spt15) := by
  refine ctrE (fn := Tryd.f15) [] 3000 (by kernel_rfl) (by kernel_rfl) okGe3 (by kernel_rfl) (fun args w => by kernel_rfl) fun xs bs r hs ho => ?_
  replace hs : (gt15 xs bs).sel = some r := hs
  unfold gt15 at hs
  split at hs
  · obtain ⟨c, u, o, hs, hc⟩ := asCliT_sel hs
    simp only [TL.sel, Option.some.injEq] at hs
    subst hs
    obtain ⟨h5, ho⟩ := obsT_cons.1 ho
    obtain ⟨h6, ho⟩ := obsT_cons.1 ho
    rw [hc ho]
    exact ⟨_, bt15 c u h5 h6⟩
  · simp [TL.sel] at hs
theorem ct21 : COK Tryd.prog gl0 21 (mkF spt15) := by
  refine ctrE (fn := Tryd.f21) [] 3000 (by kernel_rfl) (by kernel_rfl) okGe3 (by kernel_rfl) (fun args w => by kernel_rfl) fun xs bs r hs ho => ?_
  replace hs : (gt15 xs bs).sel = some r := hs
  unfold gt15 at hs
  split at hs
  · obtain ⟨c, u, o, hs, hc⟩ := asCliT_sel hs
    simp only [TL.sel, Option.some.injEq] at hs
    subst hs
    obtain ⟨h5, ho⟩ := obsT_cons.1 ho
    obtain ⟨h6, ho⟩ := obsT_cons.1 ho
    rw [hc ho]
    exact ⟨_, bt21 c u h5 h6⟩
  · simp [TL.sel] at hs
end Go.Sym

set_option linter.unusedSimpArgs false
namespace Go.Spec
open Go.Sym
theorem u4_puL {n : Int} (h : 0 ≤ n) : u4 n = puL n.toNat 4 := by
  obtain ⟨m, rfl⟩ := Int.eq_ofNat_of_zero_le h
  have e : ∀ k : Nat, ((m : Nat) : Int).fdiv (Int.ofNat k) = ((m / k : Nat) : Int) := fun k => by
    show ((m : Nat) : Int).fdiv ((k : Nat) : Int) = _
    rw [Int.fdiv_eq_ediv_of_nonneg _ (Int.natCast_nonneg k)]
    rfl
  unfold u4
  rw [e, e, e, BitVec.ofInt_natCast, BitVec.ofInt_natCast, BitVec.ofInt_natCast, BitVec.ofInt_natCast]
  show _ = [BitVec.ofNat 8 (m / 256 ^ 3), BitVec.ofNat 8 (m / 256 ^ 2), BitVec.ofNat 8 (m / 256 ^ 1), BitVec.ofNat 8 (m / 256 ^ 0)]
  rw [Nat.pow_one, Nat.pow_zero, Nat.div_one]
theorem chX_sh {G : Nat → Int} {K : Nat → By} {n : Nat} : ∀ j, j ≤ n → (∀ k, k < j → 0 ≤ G k) → chX G K j = chSh G K j
  | 0, _, _ => rfl
  | j + 1, hj, h => by
    rw [chX, chSh, chX_sh (n := n) j (by omega) fun k hk => h k (by omega), List.append_assoc]
    unfold pvB
    rw [← puB_u2 _ (h j (by omega))]
    unfold puB
    simp only [List.nil_append, List.append_assoc]
theorem chY_T {T : Nat → By} {A : Nat → Int} : ∀ j, (∀ k, k < j → 0 ≤ A k) → chY T A j = chT T A j
  | 0, _ => rfl
  | j + 1, h => by
    rw [chY, chT, chY_T j fun k hk => h k (by omega), u4_puL (h j (by omega))]
    unfold pvB puB
    simp only [List.nil_append, List.append_assoc]
    rfl
theorem chZ_D {D : Nat → By} : ∀ j, chZ D j = chD D j
  | 0 => rfl
  | j + 1 => by rw [chZ, chD, chZ_D j, pvB_app]
theorem liB_pos {a : By} {k w : Int} {l : By} (h : 0 < l.length) : liB a k w l = a ++ exB [] k (pvB [] l w) := by rw [liB_pre, if_pos h]
theorem liB_zero {a : By} {k w : Int} {l : By} (h : ¬ 0 < l.length) : liB a k w l = a := by rw [liB_pre, if_neg h, List.append_nil]
structure Cli.sz (c : Cli) : Prop where
  h1 : c.n1 < 4611686018427387904
  h2 : c.n2 < 4611686018427387904
  h3 : c.n3 < 4611686018427387904
  h4 : c.n4 < 4611686018427387904
  h5 : c.n5 * 32 ≤ 140737488351232
  h6 : c.n6 * 32 ≤ 140737488351232
  k5 : ∀ j, j < c.n5 → (c.K j).length ≤ 140737488351232
  k6 : ∀ j, j < c.n6 → (c.T j).length ≤ 140737488351232
  k7 : ∀ j, j < c.n7 → (c.D j).length ≤ 140737488351232
end Go.Spec
namespace Go.Sym
open Go.Proofs Go.Spec
set_option linter.unusedVariables false
theorem ex_unit {p : Unit → Prop} : (∃ y, p y) = p () := propext ⟨fun ⟨_, h⟩ => h, fun h => ⟨(), h⟩⟩
theorem all_unit {p : Unit → Prop} : (∀ y, p y) = p () := propext ⟨fun h => h (), fun h _ => h⟩
theorem d1_leaf (c : Cli) (hz : c.sz) (x : D1) (g : c.g1) (hj : x.j < c.n5) (hs : ∀ (k : Nat), k < x.j → (0 ≤ c.G k ∧ c.G k ≤ 65535) ∧ 1 ≤ List.length (c.K k) ∧ List.length (c.K k) ≤ 64) (v : Bool) (hv : v = true → c.sOk x.j) (hok : c.ok → v = true) :
    (0 : Int) ≤ ↑x.j ∧ x.j < c.n5 ∧ 2 = List.length (u2 (c.G x.j)) ∧ roomFor (List.length (chX c.G c.K x.j)) (List.length (u2 (c.G x.j))) 1 ∧ (0 : Int) ≤ ↑x.j ∧ x.j < c.n5 ∧ List.length (c.K x.j) ≤ 140737488351232 ∧ List.length (chX c.G c.K x.j) + List.length (u2 (c.G x.j)) = List.length (chX c.G c.K x.j ++ u2 (c.G x.j)) ∧ roomFor (List.length (chX c.G c.K x.j) + List.length (u2 (c.G x.j))) (List.length (pvB [] (c.K x.j) 2)) 1 ∧ ∃ y : D1, c.n5 - y.j < c.n5 - x.j ∧ (y.j ≤ c.n5 ∧ c.n5 < 4611686018427387904 ∧ (y.b = true → c.g1 ∧ ∀ (k : Nat), k < y.j → (0 ≤ c.G k ∧ c.G k ≤ 65535) ∧ 1 ≤ List.length (c.K k) ∧ List.length (c.K k) ≤ 64) ∧ (c.ok → y.b = true)) ∧ y.b = v ∧ List.length (chX c.G c.K y.j) = List.length (chX c.G c.K x.j) + List.length (u2 (c.G x.j)) + List.length (pvB [] (c.K x.j) 2) ∧ (↑y.j : Int) = IntKind.i64.wrap (↑x.j + 1) ∧ chX c.G c.K y.j = chX c.G c.K x.j ++ u2 (c.G x.j) ++ pvB [] (c.K x.j) 2 := by
  have hk := hz.k5 x.j hj
  have hn := hz.h5
  have lu : (u2 (c.G x.j)).length = 2 := rfl
  have lx : (chX c.G c.K x.j).length ≤ 68 * x.j := by
    rw [chX_sh (n := x.j) x.j (Nat.le_refl _) fun k hk => (hs k hk).1.1]
    have := g.h5
    exact chSh_le (n := x.j) ⟨by omega, hs⟩ x.j (Nat.le_refl _)
  have l0 : ([] : By).length = 0 := rfl
  have := g.h5
  refine ⟨by omega, hj, rfl, ?_, by omega, hj, hk, by rw [List.length_append], ?_, ⟨x.j + 1, v⟩, ?_, ⟨by show x.j + 1 ≤ c.n5; omega, by omega, fun hb => ⟨g, fun k hk => ?_⟩, hok⟩, rfl, ?_, (wrap_nat (x.j + 1) (by omega) (by omega)).symm, rfl⟩
  · unfold roomFor; omega
  · unfold roomFor; rw [pvB2]; omega
  · show c.n5 - (x.j + 1) < c.n5 - x.j; omega
  · have hk : k < x.j + 1 := hk
    rcases Nat.lt_or_ge k x.j with h1 | h1
    · exact hs k h1
    · obtain rfl : k = x.j := by omega
      exact hv hb
  · show (chX c.G c.K (x.j + 1)).length = _
    rw [chX, List.length_append, List.length_append]
theorem d2_leaf (c : Cli) (hz : c.sz) (x : D2) (g : c.g1) (hj : x.j < c.n6) (hi : x.i = c.n5) (h5 : ∀ (k : Nat), k < c.n5 → (0 ≤ c.G k ∧ c.G k ≤ 65535) ∧ 1 ≤ List.length (c.K k) ∧ List.length (c.K k) ≤ 64)
    (hs : ∀ (k : Nat), k < x.j → (1 ≤ List.length (c.T k) ∧ List.length (c.T k) ≤ 255) ∧ (0 ≤ c.A k ∧ c.A k ≤ 4294967295) ∧ List.length (c.D k) = 32) (v : Bool) (hv : v = true → c.tOk x.j) (hok : c.ok → v = true) :
    List.length (c.T x.j) ≤ 140737488351232 ∧ roomFor (List.length (chY c.T c.A x.j)) (List.length (pvB [] (c.T x.j) 2)) 1 ∧ 4 = [BitVec.ofInt 8 ((c.A x.j).fdiv (Int.ofNat 16777216)), BitVec.ofInt 8 ((c.A x.j).fdiv (Int.ofNat 65536)), BitVec.ofInt 8 ((c.A x.j).fdiv (Int.ofNat 256)), BitVec.ofInt 8 (c.A x.j)].length ∧ List.length (chY c.T c.A x.j) + List.length (pvB [] (c.T x.j) 2) = List.length (chY c.T c.A x.j ++ pvB [] (c.T x.j) 2) ∧ roomFor (List.length (chY c.T c.A x.j) + List.length (pvB [] (c.T x.j) 2)) [BitVec.ofInt 8 ((c.A x.j).fdiv (Int.ofNat 16777216)), BitVec.ofInt 8 ((c.A x.j).fdiv (Int.ofNat 65536)), BitVec.ofInt 8 ((c.A x.j).fdiv (Int.ofNat 256)), BitVec.ofInt 8 (c.A x.j)].length 1 ∧ (0 : Int) ≤ ↑x.j ∧ x.j < c.n7 ∧ List.length (c.D x.j) ≤ 140737488351232 ∧ roomFor (List.length (chZ c.D x.j)) (List.length (pvB [] (c.D x.j) 1)) 1 ∧ ∃ y : D2, c.n6 - y.j < c.n6 - x.j ∧ (y.j ≤ c.n6 ∧ (y.b = true → c.g1 ∧ y.i = c.n5 ∧ (∀ (k : Nat), k < c.n5 → (0 ≤ c.G k ∧ c.G k ≤ 65535) ∧ 1 ≤ List.length (c.K k) ∧ List.length (c.K k) ≤ 64) ∧ ∀ (k : Nat), k < y.j → (1 ≤ List.length (c.T k) ∧ List.length (c.T k) ≤ 255) ∧ (0 ≤ c.A k ∧ c.A k ≤ 4294967295) ∧ List.length (c.D k) = 32) ∧ (c.ok → y.b = true)) ∧ y.b = v ∧ List.length (chX c.G c.K y.i) = List.length (chX c.G c.K x.i) ∧ List.length (chY c.T c.A y.j) = List.length (chY c.T c.A x.j) + List.length (pvB [] (c.T x.j) 2) + [BitVec.ofInt 8 ((c.A x.j).fdiv (Int.ofNat 16777216)), BitVec.ofInt 8 ((c.A x.j).fdiv (Int.ofNat 65536)), BitVec.ofInt 8 ((c.A x.j).fdiv (Int.ofNat 256)), BitVec.ofInt 8 (c.A x.j)].length ∧ List.length (chZ c.D y.j) = List.length (chZ c.D x.j) + List.length (pvB [] (c.D x.j) 1) ∧ (↑y.j : Int) = IntKind.i64.wrap (↑x.j + 1) ∧ chX c.G c.K y.i = chX c.G c.K x.i ∧ chY c.T c.A y.j = chY c.T c.A x.j ++ pvB [] (c.T x.j) 2 ++ [BitVec.ofInt 8 ((c.A x.j).fdiv (Int.ofNat 16777216)), BitVec.ofInt 8 ((c.A x.j).fdiv (Int.ofNat 65536)), BitVec.ofInt 8 ((c.A x.j).fdiv (Int.ofNat 256)), BitVec.ofInt 8 (c.A x.j)] ∧ chZ c.D y.j = chZ c.D x.j ++ pvB [] (c.D x.j) 1 := by
  have hn := hz.h6
  have g6 := g.h6
  have g7 := g.h7
  have hk := hz.k6 x.j hj
  have hk7 := hz.k7 x.j (by omega)
  have hid : idOk x.j c.T c.A c.D := ⟨by omega, hs⟩
  have ly : (chY c.T c.A x.j).length ≤ 261 * x.j := by
    rw [chY_T x.j fun k hk => (hs k hk).2.1.1]
    exact chT_le hid x.j (Nat.le_refl _)
  have lz : (chZ c.D x.j).length ≤ 33 * x.j := by
    rw [chZ_D]
    exact Nat.le_of_eq (chD_len hid x.j (Nat.le_refl _))
  have l0 : ([] : By).length = 0 := rfl
  have l4 : [BitVec.ofInt 8 ((c.A x.j).fdiv (Int.ofNat 16777216)), BitVec.ofInt 8 ((c.A x.j).fdiv (Int.ofNat 65536)), BitVec.ofInt 8 ((c.A x.j).fdiv (Int.ofNat 256)), BitVec.ofInt 8 (c.A x.j)].length = 4 := rfl
  refine ⟨hk, ?_, rfl, by rw [List.length_append], ?_, by omega, by omega, hk7, ?_, ⟨x.i, x.j + 1, v⟩, ?_, ⟨by show x.j + 1 ≤ c.n6; omega, fun hb => ⟨g, hi, h5, fun k hk => ?_⟩, hok⟩, rfl, rfl, ?_, ?_, (wrap_nat (x.j + 1) (by omega) (by omega)).symm, rfl, rfl, rfl⟩
  · unfold roomFor; rw [pvB2]; omega
  · unfold roomFor; rw [pvB2, l4]; omega
  · unfold roomFor; rw [pvB1]; omega
  · show c.n6 - (x.j + 1) < c.n6 - x.j; omega
  · have hk : k < x.j + 1 := hk
    rcases Nat.lt_or_ge k x.j with h1 | h1
    · exact hs k h1
    · obtain rfl : k = x.j := by omega
      exact hv hb
  · show (chY c.T c.A (x.j + 1)).length = _
    rw [chY, List.length_append, List.length_append]
    rfl
  · show (chZ c.D (x.j + 1)).length = _
    rw [chZ, List.length_append]
end Go.Sym

set_option linter.unusedSimpArgs false
namespace Go.Sym
open Go.Proofs Go.Spec
set_option linter.unusedVariables false
set_option maxHeartbeats 4000000 in
theorem bd16 (c : Cli) (u : Clu) (hz : c.sz) : Must (bodyP Tryd.prog Ge3 gl0 [] (ls16 c u) 20000 Tryd.f16 0 [cliW c u] [] (retQ Tryd.prog Tryd.f16 0 (rPd c.pB.length c.okB c.pB))) := by
  constructor
  rw [vd16]
  have z1 := hz.h1
  have z2 := hz.h2
  have z3 := hz.h3
  have z4 := hz.h4
  have z5 := hz.h5
  have z6 := hz.h6
  generalize hk : c.pB.length = k
  generalize he : c.okB = e
  generalize hB : c.pB = B
  set_option simprocs false in
  simp only [eq_self_iff_true, true_and, and_true, implies_true, allP_tt, datas_int, datas_rb, datas_nil, outs_nil, outs_rb, outs_int, brec_eq, decide_eq_true_eq, decide_eq_false_iff_not, Int.toNat_natCast, ex_unit, all_unit]
  have ln : ∀ {L : Nat → Int} {n : Nat} {m : Int}, lnB (isUj fun j => L j) n m = false → ¬ ((n : Int) ≤ m ∧ isU L n) := fun e h => by
    have h2 : lnB (isUj fun j => _) _ _ = true := lnB_iff.2 h
    rw [h2] at e; cases e
  have no : ¬ c.g1 → ∃ y : Bool, (y = true ↔ c.g1) ∧ y = false := fun h => ⟨false, ⟨fun e => (by cases e), fun g => absurd g h⟩, rfl⟩
  have nok : ¬ c.ok → k = 0 ∧ e = false ∧ B = [] := fun h => by
    have h1 := Cli.okB_no h
    have h2 : c.pB = [] := by unfold Cli.pB; rw [h1]; rfl
    exact ⟨by rw [← hk, h2]; rfl, by rw [← he, h1], by rw [← hB, h2]⟩
  refine ⟨⟨fun d1 => ⟨fun d2 => ⟨by omega, fun d3 => ⟨by omega, fun d4 => ⟨by omega, fun d5 => ⟨by omega, fun d6 => ⟨fun d7 => ⟨fun d8 => ⟨fun d9 => ⟨fun da => ?_, fun d => no fun g => d (by have := g.h6; omega)⟩, fun d => no fun g => d (by have := g.hm; omega)⟩, fun d => no fun g => d (by have := g.hc; omega)⟩, fun d => no fun g => d (by have := g.h5; omega)⟩, fun d => no fun g => ln d ⟨by have := g.h4; omega, g.i4⟩⟩, fun d => no fun g => ln d ⟨by have := g.h3; omega, g.i3⟩⟩, fun d => no fun g => ln d ⟨by have := g.h2; omega, g.i2⟩⟩, fun d => no fun g => ln d ⟨by have := g.h1; omega, g.i1⟩⟩, fun d => no fun g => d (by have := g.h0; omega)⟩, fun d => no fun g => d (by have := g.hs; omega)⟩, fun b hb => ⟨?_, fun x hx => ?_⟩⟩
  · have d3 := lnB_iff.1 d3
    have d4 := lnB_iff.1 d4
    have d5 := lnB_iff.1 d5
    have d6 := lnB_iff.1 d6
    refine ⟨decide ((c.n6 : Int) = (c.n7 : Int)), ?_, rfl⟩
    rw [decide_eq_true_eq]
    exact ⟨fun e => ⟨by omega, by omega, by omega, d3.2, by omega, d4.2, by omega, d5.2, by omega, d6.2, by omega, by omega, by omega, by omega, by omega⟩, fun g => by have := g.h7; omega⟩
  · exact ⟨⟨0, b⟩, ⟨Nat.zero_le _, by omega, fun h => ⟨hb.1 h, fun k hk => absurd hk (by show ¬ k < 0; omega)⟩, fun h => hb.2 (c.ok_iff.1 h).1⟩, rfl, rfl, rfl, rfl⟩
  obtain ⟨hj, -, hg, hok⟩ := hx
  refine ⟨fun d => ⟨fun hbt => ?_, fun hbf => ⟨⟨⟨x.j, 0, x.b⟩, ⟨Nat.zero_le _, fun h => ?_, hok⟩, rfl, rfl, rfl, rfl, rfl, rfl, rfl, rfl⟩, fun x hx => ?_⟩⟩, fun d => ⟨⟨⟨x.j, 0, x.b⟩, ⟨Nat.zero_le _, fun h => ?_, hok⟩, rfl, rfl, rfl, rfl, rfl, rfl, rfl, rfl⟩, fun x hx => ?_⟩⟩
  · obtain ⟨g, hs⟩ := hg hbt
    have hjl : x.j < c.n5 := by omega
    have nos : ∀ {P : Prop}, ¬ c.sOk x.j → c.ok → P := fun h k => absurd ((c.ok_iff.1 k).2.1 x.j hjl) h
    refine ⟨by omega, hjl, fun e1 => ⟨fun e2 => ⟨fun e3 => ?_, fun e3 => ?_⟩, fun e2 => ?_⟩, fun e1 => ?_⟩
    · exact d1_leaf c hz x g hjl hs _ (fun h => ⟨⟨e1, e2⟩, by omega, by have := of_decide_eq_true h; omega⟩) (fun h => by
        have := (c.ok_iff.1 h).2.1 x.j hjl
        exact decide_eq_true (by have := this.2.2; omega))
    · exact d1_leaf c hz x g hjl hs false (fun h => by cases h) (nos fun h => by have := h.2.1; omega)
    · exact d1_leaf c hz x g hjl hs false (fun h => by cases h) (nos fun h => by have := h.1.2; omega)
    · exact d1_leaf c hz x g hjl hs false (fun h => by cases h) (nos fun h => by have := h.1.1; omega)
  · have h : x.b = true := h
    rw [hbf] at h; cases h
  rotate_left
  · have h : x.b = true := h
    obtain ⟨g, hs⟩ := hg h
    have hj5 : x.j = c.n5 := by omega
    exact ⟨g, hj5, fun k hk => hs k (by omega), fun k hk => absurd hk (by show ¬ k < 0; omega)⟩
  all_goals
    clear hg hok hj
    obtain ⟨hj, hg, hok⟩ := hx
    refine ⟨fun d => ⟨fun hbt => ?_, fun hbf => ⟨fun _ => ?_, fun e => ?_⟩⟩, fun d => ⟨fun e => ?_, fun e => ?_⟩⟩
    · obtain ⟨g, hi, h5, hs⟩ := hg hbt
      have hjl : x.j < c.n6 := by omega
      have g7 := g.h7
      have nos : ∀ {P : Prop}, ¬ c.tOk x.j → c.ok → P := fun h k => absurd ((c.ok_iff.1 k).2.2 x.j hjl) h
      refine ⟨by omega, hjl, fun e1 => ⟨fun e2 => ⟨fun e3 => ⟨fun e4 => ⟨by omega, by omega, ?_⟩, fun e4 => ?_⟩, fun e3 => ?_⟩, fun e2 => ?_⟩, fun e1 => ?_⟩
      · exact d2_leaf c hz x g hjl hi h5 hs _ (fun h => ⟨by omega, ⟨e3, by omega⟩, by have := of_decide_eq_true h; omega⟩) (fun h => by
          have := (c.ok_iff.1 h).2.2 x.j hjl
          exact decide_eq_true (by have := this.2.2; omega))
      · exact d2_leaf c hz x g hjl hi h5 hs false (fun h => by cases h) (nos fun h => by have := h.2.1.2; omega)
      · exact d2_leaf c hz x g hjl hi h5 hs false (fun h => by cases h) (nos fun h => by have := h.2.1.1; omega)
      · exact d2_leaf c hz x g hjl hi h5 hs false (fun h => by cases h) (nos fun h => by have := h.1.2; omega)
      · exact d2_leaf c hz x g hjl hi h5 hs false (fun h => by cases h) (nos fun h => by have := h.1.1; omega)
    · exact nok fun h => by have := hok h; rw [hbf] at this; cases this
    · exfalso; rw [hbf] at e; cases e
    · exact nok fun h => by have := hok h; rw [this] at e; cases e
    · have hbt : x.b = true := by
        cases hx : x.b
        · rw [hx] at e; cases e
        · rfl
      obtain ⟨g, hi, h5, hs⟩ := hg hbt
      have hj6 : x.j = c.n6 := by omega
      have h : c.ok := c.ok_iff.2 ⟨g, h5, fun k hk => hs k (by omega)⟩
      have q1 : chX c.G c.K x.i = chSh c.G c.K c.n5 := by rw [hi]; exact chX_sh (n := c.n5) _ (Nat.le_refl _) fun k hk => (h5 k hk).1.1
      have q2 : chY c.T c.A x.j = chT c.T c.A c.n6 := by rw [← hj6]; exact chY_T _ fun k hk => (hs k hk).2.1.1
      have q3 : chZ c.D x.j = chD c.D c.n6 := by rw [← hj6]; exact chZ_D _
      refine ⟨⟨h, by rw [q1], by rw [q2], by rw [q3], q1.symm, q2.symm, q3.symm⟩, fun _ => ?_⟩
      have lA : ∀ v : By, (pvB [] v 1).length = 1 + v.length := fun v => by rw [pvB1]; show 0 + 1 + v.length = _; omega
      have lB : ∀ v : By, (pvB [] v 2).length = 2 + v.length := fun v => by rw [pvB2]; show 0 + 2 + v.length = _; omega
      have lE : ∀ (k : Int) (v : By), (exB [] k v).length = 4 + v.length := fun k v => by rw [exB_len]; show 0 + 4 + v.length = _; omega
      have p1 := g.hs
      have p2 := g.h1
      have p3 := g.h2
      have p4 := g.h3
      have p5 := g.h4
      have p6 := g.h5
      have p7 := g.hc
      have p8 := g.hm
      have p9 := g.h6
      have ls := chSh_le h.h5 c.n5 (Nat.le_refl _)
      have lt := chT_le h.h6 c.n6 (Nat.le_refl _)
      have ld := chD_len h.h6 c.n6 (Nat.le_refl _)
      have t1 : c.y1.length ≤ 14 := by
        have b := liB_le [] 43 1 (.inl rfl) (chN c.L2 c.n2)
        rw [chN_len] at b
        show (liB [] 43 1 (chN c.L2 c.n2)).length ≤ 14
        have e0 : ([] : By).length = 0 := rfl
        omega
      have t2 : c.y2.length ≤ 28 := by
        have b := liB_le c.y1 10 2 (.inr rfl) (chN c.L3 c.n3)
        rw [chN_len] at b
        show (liB c.y1 10 2 (chN c.L3 c.n3)).length ≤ 28
        omega
      have t3 : c.y3.length ≤ 42 := by
        have b := liB_le c.y2 13 2 (.inr rfl) (chN c.L4 c.n4)
        rw [chN_len] at b
        show (liB c.y2 13 2 (chN c.L4 c.n4)).length ≤ 42
        omega
      have t4 : c.y4.length ≤ 320 := by
        have b := liB_le c.y3 51 2 (.inr rfl) (chSh c.G c.K c.n5)
        show (liB c.y3 51 2 (chSh c.G c.K c.n5)).length ≤ 320
        omega
      have t5 : c.y5.length ≤ 390 := by
        have b := liB_le c.y4 44 2 (.inr rfl) c.co
        show (liB c.y4 44 2 c.co).length ≤ 390
        omega
      have t6 : c.y6.length ≤ 400 := by
        have b := liB_le c.y5 45 1 (.inl rfl) c.mo
        show (liB c.y5 45 1 c.mo).length ≤ 400
        omega
      have hex : c.ex = c.y6 ++ (if 0 < c.n6 then exB [] 41 (pvB [] (chT c.T c.A c.n6) 2 ++ pvB [] (chD c.D c.n6) 2) else []) := by
        have hx3 : c.x3 = c.y6 := rfl
        unfold Cli.ex
        rw [hx3]
        split
        · rw [exB_pre, idB, ← pvB_app (pvB [] _ 2)]
        · rw [List.append_nil]
      have t7 : c.ex.length ≤ 1700 := by
        rw [hex]
        split
        · rw [List.length_append, lE, List.length_append, lB, lB]; omega
        · rw [List.length_append]; show c.y6.length + 0 ≤ _; omega
      have w1 : 0 < c.n2 → c.y1 = [] ++ exB [] 43 (pvB [] (chN c.L2 c.n2) 1) := fun d => liB_pos (by rw [chN_len]; omega)
      have w2 : 0 < c.n3 → c.y2 = c.y1 ++ exB [] 10 (pvB [] (chN c.L3 c.n3) 2) := fun d => liB_pos (by rw [chN_len]; omega)
      have w3 : 0 < c.n4 → c.y3 = c.y2 ++ exB [] 13 (pvB [] (chN c.L4 c.n4) 2) := fun d => liB_pos (by rw [chN_len]; omega)
      have w4 : 0 < c.n5 → c.y4 = c.y3 ++ exB [] 51 (pvB [] (chSh c.G c.K c.n5) 2) := fun d => liB_pos ((chSh_pos _ _ _).2 d)
      have w5 : 0 < c.co.length → c.y5 = c.y4 ++ exB [] 44 (pvB [] c.co 2) := fun d => liB_pos d
      have w6 : 0 < c.mo.length → c.y6 = c.y5 ++ exB [] 45 (pvB [] c.mo 1) := fun d => liB_pos d
      have w7 : 0 < c.n6 → c.ex = c.y6 ++ exB [] 41 (pvB [] (chT c.T c.A c.n6) 2 ++ pvB [] (chD c.D c.n6) 2) := fun d => by rw [hex, if_pos d]
      have v1 : ¬ 0 < c.n2 → c.y1 = [] := fun d => liB_zero (by rw [chN_len]; omega)
      have v2 : ¬ 0 < c.n3 → c.y2 = c.y1 := fun d => liB_zero (by rw [chN_len]; omega)
      have v3 : ¬ 0 < c.n4 → c.y3 = c.y2 := fun d => liB_zero (by rw [chN_len]; omega)
      have v4 : ¬ 0 < c.n5 → c.y4 = c.y3 := fun d => liB_zero (by rw [chSh_pos]; exact d)
      have v5 : ¬ 0 < c.co.length → c.y5 = c.y4 := fun d => liB_zero d
      have v6 : ¬ 0 < c.mo.length → c.y6 = c.y5 := fun d => liB_zero d
      have v7 : ¬ 0 < c.n6 → c.ex = c.y6 := fun d => by rw [hex, if_neg d, List.append_nil]
      have hby : c.by = [3#8, 3#8] ++ rg 32 c.R ++ pvB [] c.s 1 ++ pvB [] (chN c.L1 c.n1) 2 ++ [1#8, 0#8] ++ pvB [] c.ex 2 := by
        unfold Cli.by Cli.hd hdB
        rw [← pvB_app (pvB _ _ _), ← pvB_app (pvB _ _ 2), ← pvB_app (pvB _ _ 1), ← pvB_app (puB _ _ _ ++ _)]
        rfl
      have hokB := Cli.okB_iff.2 h
      have hpB : c.pB = c.by := by unfold Cli.pB; rw [if_pos hokB]
      rw [hpB] at hk hB
      rw [hokB] at he
      have lN : ∀ (L : Nat → Int) n, (chN (fun j => L j) n).length = 2 * n := fun L n => chN_len L n
      have lR := rg_length 32 c.R
      refine ⟨⟨fun d => ?_, fun d => ⟨h, by rw [v1 (by omega)]; rfl, v1 (by omega)⟩⟩, fun _ => ⟨⟨fun d => ?_, fun d => ⟨h, by rw [v2 (by omega)], v2 (by omega)⟩⟩, fun _ => ⟨⟨fun d => ?_, fun d => ⟨h, by rw [v3 (by omega)], v3 (by omega)⟩⟩, fun _ => ⟨⟨fun d => ?_, fun d => ⟨h, by rw [v4 (by omega)], v4 (by omega)⟩⟩, fun _ => ⟨⟨fun d => ?_, fun d => ⟨h, by rw [v5 (by omega)], v5 (by omega)⟩⟩, fun _ => ⟨⟨fun d => ?_, fun d => ⟨h, by rw [v6 (by omega)], v6 (by omega)⟩⟩, fun _ => ⟨⟨fun d => ?_, fun d => ⟨h, by rw [v7 (by omega)], v7 (by omega)⟩⟩, fun _ => ?_⟩⟩⟩⟩⟩⟩⟩
      · refine ⟨by omega, h.i2, (lN _ _).symm, by rw [lN]; omega, by decide, by rw [lA, lN]; omega, by unfold roomFor; rw [lE, lA, lN]; omega, h, by rw [w1 (by omega), List.length_append]; rfl, w1 (by omega)⟩
      · refine ⟨by omega, h.i3, (lN _ _).symm, by rw [lN]; omega, by decide, by rw [lB, lN]; omega, by unfold roomFor; rw [lE, lB, lN]; omega, h, by rw [w2 (by omega), List.length_append], w2 (by omega)⟩
      · refine ⟨by omega, h.i4, (lN _ _).symm, by rw [lN]; omega, by decide, by rw [lB, lN]; omega, by unfold roomFor; rw [lE, lB, lN]; omega, h, by rw [w3 (by omega), List.length_append], w3 (by omega)⟩
      · refine ⟨by omega, by decide, by rw [lB]; omega, by unfold roomFor; rw [lE, lB]; omega, h, by rw [w4 (by omega), List.length_append], w4 (by omega)⟩
      · refine ⟨by omega, by decide, by rw [lB]; omega, by unfold roomFor; rw [lE, lB]; omega, h, by rw [w5 (by omega), List.length_append], w5 (by omega)⟩
      · refine ⟨by omega, by decide, by rw [lA]; omega, by unfold roomFor; rw [lE, lA]; omega, h, by rw [w6 (by omega), List.length_append], w6 (by omega)⟩
      · refine ⟨by omega, by omega, by unfold roomFor; rw [lB, lB]; omega, by rw [List.length_append], by decide, by rw [List.length_append, lB, lB]; omega, by unfold roomFor; rw [lE, List.length_append, lB, lB]; omega, h, by rw [w7 (by omega), List.length_append], w7 (by omega)⟩
      · have l2 : ([3#8, 3#8] : By).length = 2 := rfl
        have l3 : ([1#8, 0#8] : By).length = 2 := rfl
        refine ⟨by unfold roomFor; omega, by omega, by rw [List.length_append, l2], by unfold roomFor; rw [lA]; omega, by omega, h.i1, (lN _ _).symm, by rw [lN]; omega, by simp only [List.length_append, l2], by unfold roomFor; rw [lA, lB, lN]; omega, by simp only [List.length_append, l2], by unfold roomFor; rw [lA, lB, lN]; omega, by omega, by simp only [List.length_append, l2, l3], by unfold roomFor; rw [lA, lB, lN, lB]; omega, ?_, he.symm, ?_⟩
        · rw [← hk, hby]; simp only [List.length_append, l2, l3]
        · rw [← hB]; exact hby
end Go.Sym

set_option linter.unusedSimpArgs false
namespace Go.Sym
open Go.Proofs Go.Spec
set_option linter.unusedVariables false
def asCliW (cs : List AV) (k : Cli → List Prop → TL) : TL :=
  match cs.drop 32, rdU8 (cs.take 32) with
  | [.rb false s .unk, .ros true 1 n1 g1 u1, .ros true 1 n2 g2 u2, .ros true 1 n3 g3 u3, .ros true 1 n4 g4 u4, .ros true 2 n5 g5 u5, .rb false co .unk, .rb false mo .unk, .ros true 2 n6 g6 u6, .ros true 1 n7 g7 u7], some l =>
    (match l.length == 32 with
    | true => k ⟨fn8 l, s, n1, rowI g1, n2, rowI g2, n3, rowI g3, n4, rowI g4, n5, rowG g5, rowK g5, co, mo, n6, rowT g6, rowA g6, n7, rowD g7⟩ [isRowI g1, isRowI g2, isRowI g3, isRowI g4, isRowS g5, isRowT g6, isRowD g7]
    | false => .no)
  | _, _ => .no
theorem asCliW_sel {cs : List AV} {k : Cli → List Prop → TL} {r : RL} (h : (asCliW cs k).sel = some r) : ∃ c o, (k c o).sel = some r ∧ (obsT o → ∃ u, AV.agg cs = cliW c u) := by
  unfold asCliW at h
  split at h
  · rename_i s n1 g1 u1 n2 g2 u2 n3 g3 u3 n4 g4 u4 n5 g5 u5 co mo n6 g6 u6 n7 g7 u7 l hd hl
    split at h
    · rename_i hn
      refine ⟨_, _, h, fun ho => ⟨⟨u1, u2, u3, u4, u5, rowKc g5, u6, rowTc g6, u7, rowDc g7⟩, ?_⟩⟩
      obtain ⟨i1, ho⟩ := obsT_cons.1 ho
      obtain ⟨i2, ho⟩ := obsT_cons.1 ho
      obtain ⟨i3, ho⟩ := obsT_cons.1 ho
      obtain ⟨i4, ho⟩ := obsT_cons.1 ho
      obtain ⟨i5, ho⟩ := obsT_cons.1 ho
      obtain ⟨i6, ho⟩ := obsT_cons.1 ho
      have i7 := obsT_one.1 ho
      have e := List.take_append_drop 32 cs
      have e8 := agB_of hl hn
      unfold aggB at e8
      rw [AV.agg.injEq] at e8
      rw [hd, e8] at e
      unfold cliW cliA cliC inR shR idR biR
      rw [← e]
      congr 2
      unfold isRowI at i1 i2 i3 i4
      unfold isRowS at i5
      unfold isRowT at i6
      unfold isRowD at i7
      rw [← i1, ← i2, ← i3, ← i4, ← i5, ← i6, ← i7]
    · simp [TL.sel] at h
  · simp [TL.sel] at h
noncomputable def gd16 (xs : List AV) (bs : List ABlk) : TL := match xs, bs with
  | [.agg cs], [] => asCliW cs fun c o => .ok ⟨c.sz :: o, .tup [.slice 0 0 1 c.pB.length .ow .unk, .bool c.okB], [], [⟨.bytes c.pB, true, 1⟩]⟩
  | _, _ => .no
noncomputable def spd16 : Spec := ⟨[cliK], fun _ _ => [], fun _ _ => [], gd16⟩
theorem cd16 : COK Tryd.prog gl0 16 (mkF spd16) := by
  refine ctrE (fn := Tryd.f16) [] 20000 (by kernel_rfl) (by kernel_rfl) okGe3 (by kernel_rfl) (fun args w => by kernel_rfl) fun xs bs r hs ho => ?_
  replace hs : (gd16 xs bs).sel = some r := hs
  unfold gd16 at hs
  split at hs
  · obtain ⟨c, o, hs, hc⟩ := asCliW_sel hs
    simp only [TL.sel, Option.some.injEq] at hs
    subst hs
    obtain ⟨hz, ho⟩ := obsT_cons.1 ho
    obtain ⟨u, e⟩ := hc ho
    rw [e]
    exact ⟨_, bd16 c u hz⟩
  · simp [TL.sel] at hs
end Go.Sym

set_option linter.unusedSimpArgs false
namespace Go.Sym
open Go.Proofs Go.Spec
set_option linter.unusedVariables false
structure Clf where
  u1 : NL
  u2 : NL
  u3 : NL
  u4 : NL
  u5 : NL
  u6 : NL
  u7 : NL
  us : NL
  uc : NL
  um : NL
def shN (n : Nat) (G : Nat → Int) (K : Nat → By) (nl : NL) : AV := .ros true 2 n (fun j => [.int .i64 (G j), .rb true (K j) .unk]) nl
def idN (n : Nat) (T : Nat → By) (A : Nat → Int) (nl : NL) : AV := .ros true 2 n (fun j => [.rb true (T j) .unk, .int .i64 (A j)]) nl
def biN (n : Nat) (D : Nat → By) (nl : NL) : AV := .ros true 1 n (fun j => [.rb true (D j) .unk]) nl
/-- A client that was read, by its cells. -/
def cliF (c : Cli) (u : Clf) : AV := cliA c.R [.rb true c.s u.us, inR true c.n1 c.L1 u.u1, inR true c.n2 c.L2 u.u2, inR true c.n3 c.L3 u.u3, inR true c.n4 c.L4 u.u4, shN c.n5 c.G c.K u.u5, .rb true c.co u.uc, .rb true c.mo u.um, idN c.n6 c.T c.A u.u6, biN c.n7 c.D u.u7]
def bxFr (c : Cli)  (sh ids : AV) : ABlk := ⟨.cells (cliC c.R [.rb true c.s .unk, inR true c.n1 c.L1 .unk, inR true c.n2 c.L2 .unk, inR true c.n3 c.L3 .unk, inR true c.n4 c.L4 .unk, sh, .rb true c.co .unk, .rb true c.mo .unk, ids, biN c.n7 c.D .unk]), true, 0⟩
def shF (c : Cli)  (j : Nat) : ABlk := ⟨.rows 2 j (fun k => [.int .i64 (c.G k), .rb true (c.K k) .unk]), true, 2⟩
def idF (c : Cli)  (j : Nat) : ABlk := ⟨.rows 2 j (fun k => [.rb true (c.T k) .unk, .int .i64 (c.A k)]), true, 2⟩
def lsF1 (c : Cli)  : LS := ⟨Nat, fun j => [(1, .ptr 101 0 0 0), (2, .ptr 102 0 0 0), (3, .ptr 103 0 0 0), (4, .int .i64 j)],
  fun j => [(101, bxFr c (shN c.n5 c.G c.K .unk) (idN c.n6 c.T c.A .unk)), (102, bxZ), (103, bxFr c (.slice 104 0 2 j .ow .unk) .nils), (104, shF c j)], 1000, fun j => c.n5 - j, fun j => j ≤ c.n5, fun _ => []⟩
def lsF2 (c : Cli)  : LS := ⟨Nat, fun j => [(1, .ptr 101 0 0 0), (2, .ptr 102 0 0 0), (3, .ptr 103 0 0 0), (5, .int .i64 j)],
  fun j => [(101, bxFr c (shN c.n5 c.G c.K .unk) (idN c.n6 c.T c.A .unk)), (102, bxZ), (103, bxFr c (.slice 104 0 2 c.n5 .ow .unk) (.slice 105 0 2 j .ow .unk)), (104, shF c c.n5), (105, idF c j)], 1000, fun j => c.n6 - j, fun j => j ≤ c.n6, fun _ => []⟩
def ls21 (c : Cli)  : List (Nat × LS) := [(4, lsF1 c), (8, lsF2 c)]
def rFr (c : Cli)  : RL := ⟨[], .agg (cliC c.R [.rb true c.s .unk, inR true c.n1 c.L1 .unk, inR true c.n2 c.L2 .unk, inR true c.n3 c.L3 .unk, inR true c.n4 c.L4 .unk, .slice 0 0 2 c.n5 .ow .unk, .rb true c.co .unk, .rb true c.mo .unk, .slice 1 0 2 c.n6 .ow .unk, biN c.n7 c.D .unk]), [], [shF c c.n5, idF c c.n6]⟩
end Go.Sym

namespace Go.Sym
open Go.Proofs Go.Spec
set_option linter.unusedVariables false
set_option maxRecDepth 100000 in
theorem vf21 (c : Cli) (u : Clf) : bodyP Tryd.prog Ge3 gl0 [] (ls21 c) 3000 Tryd.f21 0 [cliF c u] [] (retQ Tryd.prog Tryd.f21 0 (rFr c)) = (
let x1 := ∀ (y : Nat), y < c.n7 → datas Bool.true [AV.rb Bool.true (c.D y) NL.unk] = Bool.true ∧ c.D y = c.D y ∧ True; let x2 := ∀ (y : Nat), y < c.n4 → datas Bool.true [AV.int IntKind.i64 (c.L4 y)] = Bool.true ∧ c.L4 y = c.L4 y ∧ True; let x3 := ∀ (y : Nat), y < c.n2 → datas Bool.true [AV.int IntKind.i64 (c.L2 y)] = Bool.true ∧ c.L2 y = c.L2 y ∧ True; let x4 := ∀ (y : Nat), y < c.n3 → datas Bool.true [AV.int IntKind.i64 (c.L3 y)] = Bool.true ∧ c.L3 y = c.L3 y ∧ True; let x5 := ∀ (y : Nat), y < c.n1 → datas Bool.true [AV.int IntKind.i64 (c.L1 y)] = Bool.true ∧ c.L1 y = c.L1 y ∧ True; let x6 := ∀ (y : Nat), y < c.n5 → datas Bool.true [AV.int IntKind.i64 (c.G y), AV.rb Bool.true (c.K y) NL.unk] = Bool.true ∧ c.G y = c.G y ∧ c.K y = c.K y ∧ True; let x7 := ∀ (y : Nat), y < c.n6 → datas Bool.true [AV.rb Bool.true (c.T y) NL.unk, AV.int IntKind.i64 (c.A y)] = Bool.true ∧ c.T y = c.T y ∧ c.A y = c.A y ∧ True; let x8 := ∀ (y : Nat), y < c.n5 → datas Bool.false [AV.int IntKind.i64 (c.G y), AV.rb Bool.true (c.K y) NL.unk] = Bool.true ∧ [AV.int IntKind.i64 (c.G y), AV.rb Bool.true (c.K y) NL.unk] = [AV.int IntKind.i64 (c.G y), AV.rb Bool.true (c.K y) NL.unk]; let x9 := fun (i : Nat) => c.R i = c.R i; (∃ (x : Nat), x.le c.n5 ∧ 0 = 0 ∧ 0 = 0 ∧ 0 = 0 ∧ (↑x : Int) = (0 : Int) ∧ allP x9 0 32 (c.s = c.s ∧ c.n1 = c.n1 ∧ x5 ∧ c.n2 = c.n2 ∧ x3 ∧ c.n3 = c.n3 ∧ x4 ∧ c.n4 = c.n4 ∧ x2 ∧ c.n5 = c.n5 ∧ x6 ∧ c.co = c.co ∧ c.mo = c.mo ∧ c.n6 = c.n6 ∧ x7 ∧ c.n7 = c.n7 ∧ x1 ∧ allP (fun (i : Nat) => (0 : BitVec 8) = BitVec.ofNat 8 0) 0 32 (allP x9 0 32 (c.s = c.s ∧ c.n1 = c.n1 ∧ x5 ∧ c.n2 = c.n2 ∧ x3 ∧ c.n3 = c.n3 ∧ x4 ∧ c.n4 = c.n4 ∧ x2 ∧ x = 0 ∧ c.co = c.co ∧ c.mo = c.mo ∧ c.n7 = c.n7 ∧ x1 ∧ x = 0 ∧ True)))) ∧ ∀ (x : Nat), x.le c.n5 → @Bool.rec (fun _ => Prop) ((∃ (x_1 : Nat), x_1.le c.n6 ∧ 0 = 0 ∧ 0 = 0 ∧ 0 = 0 ∧ (↑x_1 : Int) = (0 : Int) ∧ allP x9 0 32 (c.s = c.s ∧ c.n1 = c.n1 ∧ x5 ∧ c.n2 = c.n2 ∧ x3 ∧ c.n3 = c.n3 ∧ x4 ∧ c.n4 = c.n4 ∧ x2 ∧ c.n5 = c.n5 ∧ x6 ∧ c.co = c.co ∧ c.mo = c.mo ∧ c.n6 = c.n6 ∧ x7 ∧ c.n7 = c.n7 ∧ x1 ∧ allP (fun (i : Nat) => (0 : BitVec 8) = (0 : BitVec 8)) 0 32 (allP x9 0 32 (c.s = c.s ∧ c.n1 = c.n1 ∧ x5 ∧ c.n2 = c.n2 ∧ x3 ∧ c.n3 = c.n3 ∧ x4 ∧ c.n4 = c.n4 ∧ x2 ∧ 0 = 0 ∧ 0 = 0 ∧ 0 = 0 ∧ c.n5 = x ∧ c.co = c.co ∧ c.mo = c.mo ∧ x_1 = 0 ∧ c.n7 = c.n7 ∧ x1 ∧ c.n5 = x ∧ x8 ∧ x_1 = 0 ∧ True)))) ∧ ∀ (x : Nat), x.le c.n6 → @Bool.rec (fun _ => Prop) ((∀ (y : Nat), y < c.n5 → outs Bool.true [AV.int IntKind.i64 (c.G y), AV.rb Bool.true (c.K y) NL.unk] = Bool.true) ∧ (∀ (y : Nat), y < c.n6 → outs Bool.true [AV.rb Bool.true (c.T y) NL.unk, AV.int IntKind.i64 (c.A y)] = Bool.true) ∧ allP x9 0 32 (c.s = c.s ∧ c.n1 = c.n1 ∧ x5 ∧ c.n2 = c.n2 ∧ x3 ∧ c.n3 = c.n3 ∧ x4 ∧ c.n4 = c.n4 ∧ x2 ∧ 0 = 0 ∧ 0 = 0 ∧ 0 = 0 ∧ c.n5 = c.n5 ∧ c.co = c.co ∧ c.mo = c.mo ∧ 0 = 0 ∧ 0 = 0 ∧ 0 = 0 ∧ c.n6 = x ∧ c.n7 = c.n7 ∧ x1 ∧ c.n5 = c.n5 ∧ x8 ∧ c.n6 = x ∧ (∀ (y : Nat), y < c.n6 → datas Bool.false [AV.rb Bool.true (c.T y) NL.unk, AV.int IntKind.i64 (c.A y)] = Bool.true ∧ [AV.rb Bool.true (c.T y) NL.unk, AV.int IntKind.i64 (c.A y)] = [AV.rb Bool.true (c.T y) NL.unk, AV.int IntKind.i64 (c.A y)]) ∧ True)) ((0 : Int) ≤ (↑x : Int) ∧ (↑x : Int).toNat < c.n6 ∧ (0 : Int) ≤ (↑x : Int) ∧ (↑x : Int).toNat < c.n6 ∧ x = x ∧ roomFor x 1 32 ∧ ∃ (y : Nat), c.n6 - y < c.n6 - x ∧ y.le c.n6 ∧ 0 = 0 ∧ 0 = 0 ∧ 0 = 0 ∧ (↑y : Int) = IntKind.i64.wrap ((↑x : Int) + (1 : Int)) ∧ allP x9 0 32 (c.s = c.s ∧ c.n1 = c.n1 ∧ x5 ∧ c.n2 = c.n2 ∧ x3 ∧ c.n3 = c.n3 ∧ x4 ∧ c.n4 = c.n4 ∧ x2 ∧ c.n5 = c.n5 ∧ x6 ∧ c.co = c.co ∧ c.mo = c.mo ∧ c.n6 = c.n6 ∧ x7 ∧ c.n7 = c.n7 ∧ x1 ∧ allP (fun (i : Nat) => (0 : BitVec 8) = (0 : BitVec 8)) 0 32 (allP x9 0 32 (c.s = c.s ∧ c.n1 = c.n1 ∧ x5 ∧ c.n2 = c.n2 ∧ x3 ∧ c.n3 = c.n3 ∧ x4 ∧ c.n4 = c.n4 ∧ x2 ∧ 0 = 0 ∧ 0 = 0 ∧ 0 = 0 ∧ c.n5 = c.n5 ∧ c.co = c.co ∧ c.mo = c.mo ∧ 0 = 0 ∧ 0 = 0 ∧ 0 = 0 ∧ y = x + 1 ∧ c.n7 = c.n7 ∧ x1 ∧ c.n5 = c.n5 ∧ x8 ∧ y = x + 1 ∧ (∀ (y_1 : Nat), y_1 < y → datas Bool.false [AV.rb Bool.true (c.T y_1) NL.unk, AV.int IntKind.i64 (c.A y_1)] = Bool.true ∧ glue (fun (j : Nat) => [AV.rb Bool.true (c.T j) NL.unk, AV.int IntKind.i64 (c.A j)]) x (cut 2 (List.take 2 (List.drop 0 [AV.rb Bool.true (c.T (↑x : Int).toNat) NL.unk, AV.int IntKind.i64 (c.A (↑x : Int).toNat)]))) y_1 = [AV.rb Bool.true (c.T y_1) NL.unk, AV.int IntKind.i64 (c.A y_1)]) ∧ True)))) (decide ((↑x : Int) < (↑c.n6 : Int)))) ((0 : Int) ≤ (↑x : Int) ∧ (↑x : Int).toNat < c.n5 ∧ (0 : Int) ≤ (↑x : Int) ∧ (↑x : Int).toNat < c.n5 ∧ x = x ∧ roomFor x 1 32 ∧ ∃ (y : Nat), c.n5 - y < c.n5 - x ∧ y.le c.n5 ∧ 0 = 0 ∧ 0 = 0 ∧ 0 = 0 ∧ (↑y : Int) = IntKind.i64.wrap ((↑x : Int) + (1 : Int)) ∧ allP x9 0 32 (c.s = c.s ∧ c.n1 = c.n1 ∧ x5 ∧ c.n2 = c.n2 ∧ x3 ∧ c.n3 = c.n3 ∧ x4 ∧ c.n4 = c.n4 ∧ x2 ∧ c.n5 = c.n5 ∧ x6 ∧ c.co = c.co ∧ c.mo = c.mo ∧ c.n6 = c.n6 ∧ x7 ∧ c.n7 = c.n7 ∧ x1 ∧ allP (fun (i : Nat) => (0 : BitVec 8) = (0 : BitVec 8)) 0 32 (allP x9 0 32 (c.s = c.s ∧ c.n1 = c.n1 ∧ x5 ∧ c.n2 = c.n2 ∧ x3 ∧ c.n3 = c.n3 ∧ x4 ∧ c.n4 = c.n4 ∧ x2 ∧ 0 = 0 ∧ 0 = 0 ∧ 0 = 0 ∧ y = x + 1 ∧ c.co = c.co ∧ c.mo = c.mo ∧ c.n7 = c.n7 ∧ x1 ∧ y = x + 1 ∧ (∀ (y_1 : Nat), y_1 < y → datas Bool.false [AV.int IntKind.i64 (c.G y_1), AV.rb Bool.true (c.K y_1) NL.unk] = Bool.true ∧ glue (fun (j : Nat) => [AV.int IntKind.i64 (c.G j), AV.rb Bool.true (c.K j) NL.unk]) x (cut 2 (List.take 2 (List.drop 0 [AV.int IntKind.i64 (c.G (↑x : Int).toNat), AV.rb Bool.true (c.K (↑x : Int).toNat) NL.unk]))) y_1 = [AV.int IntKind.i64 (c.G y_1), AV.rb Bool.true (c.K y_1) NL.unk]) ∧ True)))) (decide ((↑x : Int) < (↑c.n5 : Int))) : Prop) := by kernel_rfl
end Go.Sym

set_option linter.unusedSimpArgs false
namespace Go.Sym
open Go.Proofs Go.Spec
set_option linter.unusedVariables false
theorem bf21 (c : Cli) (u : Clf) (h5 : c.n5 < 1099511627) (h6 : c.n6 < 1099511627) : Must (bodyP Tryd.prog Ge3 gl0 [] (ls21 c) 3000 Tryd.f21 0 [cliF c u] [] (retQ Tryd.prog Tryd.f21 0 (rFr c))) := by
  constructor
  rw [vf21]
  set_option simprocs false in
  simp only [eq_self_iff_true, true_and, and_true, implies_true, allP_tt, datas_int, datas_rb, datas_nil, outs_nil, outs_rb, outs_int, brec_eq, decide_eq_true_eq, decide_eq_false_iff_not, Int.toNat_natCast]
  have gl : ∀ (f : Nat → List AV) (x y : Nat), y < x + 1 → (f x).length = 2 → glue f x (cut 2 (List.take 2 (List.drop 0 (f x)))) y = f y := by
    intro f x y hy hl
    unfold glue
    by_cases h : y < x
    · simp [h]
    · obtain rfl : y = x := by omega
      match e : f y, hl with
      | [a, b], _ => simp [cut]
  refine ⟨⟨0, Nat.zero_le _, rfl, allP_of 32 0 (fun _ _ _ => rfl) ⟨rfl, rfl⟩⟩, fun x hx => ⟨fun d => ⟨by omega, by omega, by omega, by omega, ?_, x + 1, by omega, (by show x + 1 ≤ c.n5; omega), (wrap_nat (x + 1) (by omega) (by omega)).symm, rfl, rfl, fun y hy => gl (fun k => [AV.int IntKind.i64 (c.G k), AV.rb true (c.K k) .unk]) x y hy rfl⟩, fun d => ?_⟩⟩
  · unfold roomFor; have hx : x ≤ c.n5 := hx; omega
  · have hx : x ≤ c.n5 := hx
    obtain rfl : x = c.n5 := by omega
    refine ⟨⟨0, Nat.zero_le _, rfl, rfl, rfl, rfl, rfl⟩, fun x hx => ?_⟩
    have hx : x ≤ c.n6 := hx
    refine ⟨fun d => ⟨by omega, by omega, by omega, by omega, ?_, x + 1, by omega, (by show x + 1 ≤ c.n6; omega), (wrap_nat (x + 1) (by omega) (by omega)).symm, rfl, rfl, fun y hy => gl (fun k => [AV.rb true (c.T k) .unk, AV.int IntKind.i64 (c.A k)]) x y hy rfl⟩, fun d => by omega⟩
    unfold roomFor; omega
def isRowSn (g : Nat → List AV) : Prop := g = fun j => [.int .i64 (rowG g j), .rb true (rowK g j) .unk]
def isRowTn (g : Nat → List AV) : Prop := g = fun j => [.rb true (rowT g j) .unk, .int .i64 (rowA g j)]
def isRowDn (g : Nat → List AV) : Prop := g = fun j => [.rb true (rowD g j) .unk]
def asCliF (cs : List AV) (k : Cli → Clf → List Prop → TL) : TL :=
  match cs.drop 32, rdU8 (cs.take 32) with
  | [.rb true s us, .ros true 1 n1 g1 u1, .ros true 1 n2 g2 u2, .ros true 1 n3 g3 u3, .ros true 1 n4 g4 u4, .ros true 2 n5 g5 u5, .rb true co uc, .rb true mo um, .ros true 2 n6 g6 u6, .ros true 1 n7 g7 u7], some l =>
    (match l.length == 32 with
    | true => k ⟨fn8 l, s, n1, rowI g1, n2, rowI g2, n3, rowI g3, n4, rowI g4, n5, rowG g5, rowK g5, co, mo, n6, rowT g6, rowA g6, n7, rowD g7⟩ ⟨u1, u2, u3, u4, u5, u6, u7, us, uc, um⟩ [isRowI g1, isRowI g2, isRowI g3, isRowI g4, isRowSn g5, isRowTn g6, isRowDn g7]
    | false => .no)
  | _, _ => .no
theorem asCliF_sel {cs : List AV} {k : Cli → Clf → List Prop → TL} {r : RL} (h : (asCliF cs k).sel = some r) : ∃ c u o, (k c u o).sel = some r ∧ (obsT o → AV.agg cs = cliF c u) := by
  unfold asCliF at h
  split at h
  · rename_i s us n1 g1 u1 n2 g2 u2 n3 g3 u3 n4 g4 u4 n5 g5 u5 co uc mo um n6 g6 u6 n7 g7 u7 l hd hl
    split at h
    · rename_i hn
      refine ⟨_, _, _, h, fun ho => ?_⟩
      obtain ⟨i1, ho⟩ := obsT_cons.1 ho
      obtain ⟨i2, ho⟩ := obsT_cons.1 ho
      obtain ⟨i3, ho⟩ := obsT_cons.1 ho
      obtain ⟨i4, ho⟩ := obsT_cons.1 ho
      obtain ⟨i5, ho⟩ := obsT_cons.1 ho
      obtain ⟨i6, ho⟩ := obsT_cons.1 ho
      have i7 := obsT_one.1 ho
      have e := List.take_append_drop 32 cs
      have e8 := agB_of hl hn
      unfold aggB at e8
      rw [AV.agg.injEq] at e8
      rw [hd, e8] at e
      unfold cliF cliA cliC inR shN idN biN
      rw [← e]
      congr 2
      unfold isRowI at i1 i2 i3 i4
      unfold isRowSn at i5
      unfold isRowTn at i6
      unfold isRowDn at i7
      rw [← i1, ← i2, ← i3, ← i4, ← i5, ← i6, ← i7]
    · simp [TL.sel] at h
  · simp [TL.sel] at h
def gf21 (xs : List AV) (bs : List ABlk) : TL := match xs, bs with
  | [.agg cs], [] => asCliF cs fun c u o => .ok { rFr c with ob := (c.n5 < 1099511627) :: (c.n6 < 1099511627) :: o }
  | _, _ => .no
def spf21 : Spec := ⟨[.kp], fun _ _ => [], fun _ _ => [], gf21⟩
theorem cf21 : COK Tryd.prog gl0 21 (mkF spf21) := by
  refine ctrE (fn := Tryd.f21) [] 3000 (by kernel_rfl) (by kernel_rfl) okGe3 (by kernel_rfl) (fun args w => by kernel_rfl) fun xs bs r hs ho => ?_
  replace hs : (gf21 xs bs).sel = some r := hs
  unfold gf21 at hs
  split at hs
  · obtain ⟨c, u, o, hs, hc⟩ := asCliF_sel hs
    simp only [TL.sel, Option.some.injEq] at hs
    subst hs
    obtain ⟨h5, ho⟩ := obsT_cons.1 ho
    obtain ⟨h6, ho⟩ := obsT_cons.1 ho
    rw [hc ho]
    exact ⟨_, bf21 c u h5 h6⟩
  · simp [TL.sel] at hs
end Go.Sym
