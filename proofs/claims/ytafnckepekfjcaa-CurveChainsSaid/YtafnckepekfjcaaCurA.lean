/- Numbers modulo 2^255 - 19 in five limbs: the calls of the program. -/
import Derived.Test.YtafnckepekfjcaaSymC
import Derived.OpenShut
import Derived.KernelRfl
import Derived.Test.YtafnckepekfjcaaProg
import Derived.Laws.Externs
/- What is handed in from outside: plain data of any shape. -/
namespace Go.Sym
set_option linter.unusedVariables false
set_option linter.unusedSimpArgs false
open Go.ChangeShapes Go.WideShapes
inductive Sh where
  | i (k : IntKind)
  | b
  | s
  | y
def Sh.ok : Sh → AV → Prop
  | .i .u8, a => ∃ x, a = .u8 x
  | .i .u16, a => ∃ x, a = .u16 x
  | .i .u32, a => ∃ x, a = .u32 x
  | .i .u64, a => ∃ x, a = .u64 x
  | .i k, a => ∃ n, a = .int k n ∧ (Lit.int k n).wf = true
  | .b, a => ∃ c, a = .bool c
  | .s, a => ∃ l, a = .str l ∧ l.length ≤ maxLen
  | .y, a => ∃ l c, a = .rb true l (.is c) ∧ (c = true → l = []) ∧ l.length ≤ maxLen
def shAll : List Sh → List AV → Prop
  | [], [] => True
  | k :: ss, a :: az => k.ok a ∧ shAll ss az
  | _, _ => False
theorem shAll_append : ∀ {l m : List Sh} {az bs : List AV}, shAll l az → shAll m bs → shAll (l ++ m) (az ++ bs)
  | [], _, [], _, _, k => k
  | _ :: _, _, _ :: _, _, h, k => ⟨h.1, shAll_append h.2 k⟩
  | [], _, _ :: _, _, h, _ => h.elim
  | _ :: _, _, [], _, h, _ => h.elim
theorem datas_append {p : Bool} : ∀ {az bs : List AV}, datas p az = true → datas p bs = true → datas p (az ++ bs) = true
  | [], _, _, k => k
  | a :: az, _, h, k => by
    simp only [datas, Bool.and_eq_true, List.cons_append] at h ⊢
    exact ⟨h.1, datas_append h.2 k⟩
def flatFs (P : Program) (g : TypeId → Option (List Sh)) : List Field → Nat → Option (List Sh)
  | [], _ => some []
  | f :: fs, o => if f.offset = o then (g f.type).bind fun l => if P.cellsOf f.type = l.length then (flatFs P g fs (o + l.length)).map (l ++ ·) else none else none
def flat (P : Program) : Nat → TypeId → Option (List Sh)
  | 0, _ => none
  | f + 1, t => match P.underlying t with
    | some (.int k) => some [.i k]
    | some .bool => some [.b]
    | some .string => some [.s]
    | some (.slice e) => (match P.underlying e with | some (.int .u8) => if P.cellsOf e = 1 then some [.y] else none | _ => none)
    | some (.array n e) => (flat P f e).bind fun l => if P.cellsOf e = l.length ∧ P.cellsOf t = n * l.length then some (List.replicate n l).flatten else none
    | some (.struct fs) => (flatFs P (flat P f) fs.toList 0).bind fun l => if P.cellsOf t = l.length then some l else none
    | _ => none

section
variable {H : Type} {enc : TypeId × Value → H} {P : Program} {W : World} {base : Nat} {spare : Nat → Bool} {held : Bool}
def Read (W : World) (l : List Sh) (cs : List Value) : Prop := ∃ avs, shAll l avs ∧ datas true avs = true ∧ VRels (κW W) avs cs
theorem Read.append {l m : List Sh} {cs ds : List Value} (h : Read W l cs) (k : Read W m ds) : Read W (l ++ m) (cs ++ ds) := by
  obtain ⟨a, h1, h2, h3⟩ := h
  obtain ⟨b, k1, k2, k3⟩ := k
  exact ⟨a ++ b, shAll_append h1 k1, datas_append h2 k2, VRels.append h3 k3⟩
theorem read_arr {l : List Sh} {m : Nat} : ∀ (n : Nat) (cs : List Value), cs.length = n * m → (∀ i, i < n → Read W l ((cs.drop (i * m)).take m)) → Read W (List.replicate n l).flatten cs
  | 0, cs, hl, _ => by
    have : cs = [] := List.eq_nil_of_length_eq_zero (by simpa using hl)
    subst this
    exact ⟨[], trivial, rfl, rfl⟩
  | n + 1, cs, hl, h => by
    have h0 := h 0 (by omega)
    simp only [Nat.zero_mul, List.drop_zero] at h0
    have hr := read_arr (m := m) n (cs.drop m) (by rw [List.length_drop, hl, Nat.succ_mul]; omega) (fun i hi => by
      have := h (i + 1) (by omega)
      rw [List.drop_drop]
      rw [Nat.add_mul, Nat.one_mul, Nat.add_comm] at this
      exact this)
    have := h0.append hr
    rw [List.take_append_drop] at this
    simpa [List.replicate_succ] using this
theorem read_fs {g : TypeId → Option (List Sh)} {cs : List Value} : ∀ (fs : List Field) (o : Nat) (l : List Sh), flatFs P g fs o = some l → cs.length = o + l.length →
    (∀ f l', f ∈ fs → g f.type = some l' → Read W l' ((cs.drop f.offset).take (P.cellsOf f.type))) → Read W l (cs.drop o)
  | [], o, l, h, hl, _ => by
    simp only [flatFs, Option.some.injEq] at h
    subst h
    have : cs.drop o = [] := List.drop_eq_nil_of_le (by simp at hl; omega)
    rw [this]
    exact ⟨[], trivial, rfl, rfl⟩
  | f :: fs, o, l, h, hl, hr => by
    simp only [flatFs] at h
    split at h
    · rename_i ho
      simp only [Option.bind_eq_some_iff] at h
      obtain ⟨l1, h1, h2⟩ := h
      split at h2
      · rename_i hc
        simp only [Option.map_eq_some_iff] at h2
        obtain ⟨l2, h3, rfl⟩ := h2
        have k1 := hr f l1 (by simp) h1
        rw [ho, hc] at k1
        have k2 := read_fs fs (o + l1.length) l2 h3 (by simp at hl; omega) (fun f' l' hf hg => hr f' l' (by simp [hf]) hg)
        have := k1.append k2
        rw [← List.drop_drop, List.take_append_drop] at this
        exact this
      · cases h2
    · cases h
theorem rd_flat : ∀ (f : Nat) (t : TypeId) (l : List Sh) (fuel : Nat) (cs : List Value) (x : DataW H × List MemPlace), flat P f t = some l → DataW.trod enc P W base spare held fuel t cs = some x → Read W l cs
  | 0, _, _, _, _, _, h, _ => by cases h
  | f + 1, t, l, fuel, cs, x, h, hd => by
    unfold flat at h
    split at h
    · rename_i k ht
      simp only [Option.some.injEq] at h
      subst h
      obtain ⟨n, rfl, _, hw⟩ := DataW.trod_int ht hd
      have hn : absC0 (.int k n) = absC0 (.int k n) := rfl
      cases k
      case u8 =>
        simp [Lit.wf, IntKind.min, IntKind.max, IntKind.signed, IntKind.bits] at hw
        exact ⟨[.u8 (BitVec.ofNat 8 n.toNat)], ⟨⟨_, rfl⟩, trivial⟩, rfl, _, [], rfl, by simp only [VRel, BitVec.toNat_ofNat]; congr 1; omega, rfl⟩
      case u16 =>
        simp [Lit.wf, IntKind.min, IntKind.max, IntKind.signed, IntKind.bits] at hw
        exact ⟨[.u16 (BitVec.ofNat 16 n.toNat)], ⟨⟨_, rfl⟩, trivial⟩, rfl, _, [], rfl, by simp only [VRel, BitVec.toNat_ofNat]; congr 1; omega, rfl⟩
      case u32 =>
        simp [Lit.wf, IntKind.min, IntKind.max, IntKind.signed, IntKind.bits] at hw
        exact ⟨[.u32 (BitVec.ofNat 32 n.toNat)], ⟨⟨_, rfl⟩, trivial⟩, rfl, _, [], rfl, by simp only [VRel, BitVec.toNat_ofNat]; congr 1; omega, rfl⟩
      case u64 =>
        simp [Lit.wf, IntKind.min, IntKind.max, IntKind.signed, IntKind.bits] at hw
        exact ⟨[.u64 (BitVec.ofNat 64 n.toNat)], ⟨⟨_, rfl⟩, trivial⟩, rfl, _, [], rfl, by simp only [VRel, BitVec.toNat_ofNat]; congr 1; omega, rfl⟩
      all_goals exact ⟨[.int _ n], ⟨⟨_, rfl, hw⟩, trivial⟩, rfl, _, [], rfl, rfl, rfl⟩
    · rename_i ht
      simp only [Option.some.injEq] at h
      subst h
      obtain ⟨b, rfl, _⟩ := DataW.trod_bool ht hd
      exact ⟨[.bool b], ⟨⟨_, rfl⟩, trivial⟩, rfl, _, [], rfl, rfl, rfl⟩
    · rename_i ht
      simp only [Option.some.injEq] at h
      subst h
      obtain ⟨s, rfl, _, hs⟩ := DataW.trod_string ht hd
      have hb := bytesStr_strBytes s
      refine ⟨[.str (strBytes s)], ⟨⟨_, rfl, ?_⟩, trivial⟩, rfl, _, [], rfl, by simp only [VRel, hb], rfl⟩
      rw [← bytesStr_size, hb]
      exact hs
    · rename_i e ht
      split at h
      · rename_i he
        split at h
        · rename_i hc
          simp only [Option.some.injEq] at h
          subst h
          obtain ⟨v, l, c, rfl, h1, h2, h3⟩ := rd_bytes ht he hc hd
          exact ⟨[.rb true l (.is c)], ⟨⟨l, c, rfl, h1, h2⟩, trivial⟩, rfl, _, [], rfl, h3, rfl⟩
        · cases h
      · cases h
    · rename_i n e ht
      simp only [Option.bind_eq_some_iff] at h
      obtain ⟨l1, h1, h2⟩ := h
      split at h2
      · rename_i hc
        simp only [Option.some.injEq] at h2
        subst h2
        obtain ⟨xs, m, _, _, hl, hn, hel⟩ := DataW.trod_array ht hd
        refine read_arr (m := l1.length) n cs (by rw [hl, hc.2]) fun i hi => ?_
        have := hel i hi
        rw [List.getElem?_eq_getElem (by omega), hc.1] at this
        exact rd_flat f e l1 _ _ _ h1 this
      · cases h2
    · rename_i fs ht
      simp only [Option.bind_eq_some_iff] at h
      obtain ⟨l1, h1, h2⟩ := h
      split at h2
      · rename_i hc
        simp only [Option.some.injEq] at h2
        subst h2
        obtain ⟨xs, m, _, _, hl, hn, hel⟩ := DataW.trod_struct ht hd
        have := read_fs (W := W) (cs := cs) fs.toList 0 l1 h1 (by rw [hl, hc]; omega) fun f0 l' hf hg => by
          obtain ⟨i, hi⟩ := List.getElem?_of_mem hf
          have hlt := (List.getElem?_eq_some_iff.1 hi).1
          have := hel i f0 (by simpa using hi)
          rw [List.getElem?_eq_getElem (by simp at hlt; omega)] at this
          exact rd_flat f f0.type l' _ _ _ hg this
        simpa using this
      · cases h2
    · cases h
theorem agg_of_cells {v : Value} {avs : List AV} (h : VRels (κW W) avs v.cells.toList) (hl : 2 ≤ avs.length) : VRel (κW W) (.agg avs) v := by
  have hn := h.length
  cases v
  case agg cs => exact ⟨cs, rfl, h⟩
  all_goals (exfalso; simp [Value.cells] at hn; omega)
/-- Bytes of an array. -/
theorem sh_u8 : ∀ {n : Nat} {avs : List AV}, shAll (List.replicate n (.i .u8)) avs → ∃ l : List (BitVec 8), l.length = n ∧ avs = l.map .u8
  | 0, [], _ => ⟨[], rfl, rfl⟩
  | 0, _ :: _, h => h.elim
  | n + 1, [], h => h.elim
  | n + 1, a :: az, h => by
    obtain ⟨⟨x, rfl⟩, h2⟩ := h
    obtain ⟨l, h3, rfl⟩ := sh_u8 h2
    exact ⟨x :: l, by simp [h3], rfl⟩
end
theorem sh_cons {k : Sh} {ks : List Sh} {avs : List AV} (h : shAll (k :: ks) avs) : ∃ a az, avs = a :: az ∧ k.ok a ∧ shAll ks az := by
  cases avs with
  | nil => exact h.elim
  | cons a az => exact ⟨a, az, rfl, h.1, h.2⟩
theorem sh_nil {avs : List AV} (h : shAll [] avs) : avs = [] := by
  cases avs with
  | nil => rfl
  | cons a az => exact h.elim
theorem sh_i64 {a : AV} (h : (Sh.i .i64).ok a) : ∃ n, a = .int .i64 n := by
  obtain ⟨n, h, _⟩ := h
  exact ⟨n, h⟩
theorem rel_u32 {κ : Ker} {n : Int} (h : (Lit.int .u32 n).wf = true) : VRel κ (.u32 (BitVec.ofInt 32 n)) (.int .u32 n) := by
  simp [Lit.wf, IntKind.has, IntKind.min, IntKind.max, IntKind.signed, IntKind.bits] at h
  simp only [VRel, BitVec.toNat_ofInt]
  congr 1
  omega
theorem rel_u64 {κ : Ker} {n : Int} (h : (Lit.int .u64 n).wf = true) : VRel κ (.u64 (BitVec.ofInt 64 n)) (.int .u64 n) := by
  simp [Lit.wf, IntKind.has, IntKind.min, IntKind.max, IntKind.signed, IntKind.bits] at h
  simp only [VRel, BitVec.toNat_ofInt]
  congr 1
  omega
theorem rel_u8 {κ : Ker} {n : Int} (h : (Lit.int .u8 n).wf = true) : VRel κ (.u8 (BitVec.ofInt 8 n)) (.int .u8 n) := by
  simp [Lit.wf, IntKind.has, IntKind.min, IntKind.max, IntKind.signed, IntKind.bits] at h
  simp only [VRel, BitVec.toNat_ofInt]
  congr 1
  omega
end Go.Sym

/- Rows of like terms, by a function. -/
namespace Go.Spec
def rgA {α : Type} (F : Nat → α) : Nat → Nat → List α → List α
  | _, 0, r => r
  | s, n + 1, r => F s :: rgA F (s + 1) n r
def rg {α : Type} (n : Nat) (F : Nat → α) : List α := rgA F 0 n []
def allP (p : Nat → Prop) : Nat → Nat → Prop → Prop
  | _, 0, r => r
  | s, n + 1, r => p s ∧ allP p (s + 1) n r
def andP (p : Nat → Bool) : Nat → Nat → Bool → Bool
  | _, 0, r => r
  | s, n + 1, r => p s && andP p (s + 1) n r
theorem allP_of {p : Nat → Prop} {r : Prop} : ∀ (n s : Nat), (∀ j, s ≤ j → j < s + n → p j) → r → allP p s n r
  | 0, _, _, hr => hr
  | n + 1, s, h, hr => ⟨h s (Nat.le_refl _) (by omega), allP_of n (s + 1) (fun j h1 h2 => h j (by omega) (by omega)) hr⟩
theorem allP_rfl {α : Type} {f : Nat → α} {s n : Nat} {r : Prop} (hr : r) : allP (fun i => f i = f i) s n r := allP_of n s (fun _ _ _ => rfl) hr
theorem allP_tt {s n : Nat} {r : Prop} : allP (fun _ => True) s n r = r := by
  induction n generalizing s with
  | zero => rfl
  | succ n ih => simp only [allP, ih, true_and]
theorem andP_of {p : Nat → Bool} {r : Bool} : ∀ (n s : Nat), (∀ j, s ≤ j → j < s + n → p j = true) → r = true → andP p s n r = true
  | 0, _, _, hr => hr
  | n + 1, s, h, hr => by
    simp only [andP, h s (Nat.le_refl _) (by omega), Bool.true_and]
    exact andP_of n (s + 1) (fun j h1 h2 => h j (by omega) (by omega)) hr
theorem andP_tt {s n : Nat} {r : Bool} : andP (fun _ => true) s n r = r := by
  induction n generalizing s with
  | zero => rfl
  | succ n ih => simp only [andP, ih, Bool.true_and]
theorem andP_iff {p : Nat → Bool} {r : Bool} : ∀ (n s : Nat), andP p s n r = true ↔ (∀ j, s ≤ j → j < s + n → p j = true) ∧ r = true
  | 0, s => by simp only [andP]; exact ⟨fun h => ⟨fun j h1 h2 => by omega, h⟩, fun h => h.2⟩
  | n + 1, s => by
    simp only [andP, Bool.and_eq_true, andP_iff n (s + 1)]
    constructor
    · rintro ⟨h1, h2, h3⟩
      refine ⟨fun j hj hk => ?_, h3⟩
      rcases Nat.eq_or_lt_of_le hj with e | e
      · exact e ▸ h1
      · exact h2 j e (by omega)
    · rintro ⟨h1, h2⟩
      exact ⟨h1 s (Nat.le_refl _) (by omega), fun j hj hk => h1 j (by omega) (by omega), h2⟩
theorem rgA_eq {α : Type} (F : Nat → α) : ∀ (n s : Nat) (r : List α), rgA F s n r = ((List.range n).map fun i => F (s + i)) ++ r
  | 0, _, _ => rfl
  | n + 1, s, r => by
    rw [rgA, rgA_eq F n (s + 1) r, List.range_succ_eq_map, List.map_cons, List.map_map, List.cons_append]
    congr 2
    apply List.map_congr_left
    intro i _
    simp only [Function.comp_apply]
    congr 1
    omega
theorem rg_eq {α : Type} (n : Nat) (F : Nat → α) : rg n F = (List.range n).map F := by
  unfold rg
  rw [rgA_eq, List.append_nil]
  simp
theorem rg_length {α : Type} (n : Nat) (F : Nat → α) : (rg n F).length = n := by rw [rg_eq]; simp
theorem rg_getD {α : Type} (n : Nat) (F : Nat → α) (i : Nat) (d : α) (h : i < n) : (rg n F).getD i d = F i := by
  rw [rg_eq]
  simp [List.getD, h]
theorem rg_congr {α : Type} {n : Nat} {F G : Nat → α} (h : ∀ i, i < n → F i = G i) : rg n F = rg n G := by
  rw [rg_eq, rg_eq]
  apply List.map_congr_left
  intro i hi
  exact h i (by simpa using hi)
theorem rg_self {α : Type} {n : Nat} {l : List α} (d : α) (h : l.length = n) : rg n (fun i => l.getD i d) = l := by
  rw [rg_eq]
  apply List.ext_getElem
  · simp [h]
  · intro i h1 h2
    simp [List.getD, h2]
end Go.Spec

/- Numbers modulo 2^255 - 19 in five limbs of 51 bits: sums and carries. -/
namespace Go.Spec
def PZ : Nat := 57896044618658097711785492504343953926634992332820282019728792003956564819949
def limb (x0 x1 x2 x3 x4 : Nat) : Nat := x0 + 2251799813685248 * x1 + 5070602400912917605986812821504 * x2 + 11417981541647679048466287755595961091061972992 * x3 + 25711008708143844408671393477458601640355247900524685364822016 * x4
theorem car_nat (x0 x1 x2 x3 x4 c0 c1 c2 c3 c4 : Nat) (h0 : c0 = x0 / 2251799813685248) (h1 : c1 = (x1 + c0) / 2251799813685248) (h2 : c2 = (x2 + c1) / 2251799813685248) (h3 : c3 = (x3 + c2) / 2251799813685248) (h4 : c4 = (x4 + c3) / 2251799813685248) :
    limb (x0 % 2251799813685248 + 19 * c4) ((x1 + c0) % 2251799813685248) ((x2 + c1) % 2251799813685248) ((x3 + c2) % 2251799813685248) ((x4 + c3) % 2251799813685248) + PZ * c4 = limb x0 x1 x2 x3 x4 := by
  unfold limb PZ
  omega
end Go.Spec

namespace Go.Spec
theorem limb_mul (a0 a1 a2 a3 a4 b0 b1 b2 b3 b4 : Nat) :
    limb a0 a1 a2 a3 a4 * limb b0 b1 b2 b3 b4 = limb (a0 * b0 + 19 * (a1 * b4 + a2 * b3 + a3 * b2 + a4 * b1)) (a0 * b1 + a1 * b0 + 19 * (a2 * b4 + a3 * b3 + a4 * b2)) (a0 * b2 + a1 * b1 + a2 * b0 + 19 * (a3 * b4 + a4 * b3)) (a0 * b3 + a1 * b2 + a2 * b1 + a3 * b0 + 19 * (a4 * b4)) (a0 * b4 + a1 * b3 + a2 * b2 + a3 * b1 + a4 * b0)
      + PZ * ((a1 * b4 + a2 * b3 + a3 * b2 + a4 * b1) + 2251799813685248 * (a2 * b4 + a3 * b3 + a4 * b2) + 5070602400912917605986812821504 * (a3 * b4 + a4 * b3) + 11417981541647679048466287755595961091061972992 * (a4 * b4)) := by
  unfold limb PZ
  grind
end Go.Spec

namespace Go.Spec
abbrev B64 := BitVec 64
abbrev N5 := Nat → BitVec 64
/-- Products and sums of two numbers of 64 bits, high and low. -/
def mulHi (x y : B64) : B64 := BitVec.ofNat 64 (x.toNat * y.toNat / 18446744073709551616)
def mulLo (x y : B64) : B64 := BitVec.ofNat 64 (x.toNat * y.toNat)
def addC (x y c : B64) : B64 := BitVec.ofNat 64 ((x.toNat + y.toNat + c.toNat) / 18446744073709551616)
def addS (x y c : B64) : B64 := BitVec.ofNat 64 (x.toNat + y.toNat + c.toNat)
def mac (s : B64 × B64) (x y : B64) : B64 × B64 := (s.1 + (mulHi x y + addC s.2 (mulLo x y) 0), addS s.2 (mulLo x y) 0)
theorem mac_val (s : B64 × B64) (x y : B64) (h : s.1.toNat * 18446744073709551616 + s.2.toNat + x.toNat * y.toNat < 340282366920938463463374607431768211456) :
    (mac s x y).1.toNat * 18446744073709551616 + (mac s x y).2.toNat = s.1.toNat * 18446744073709551616 + s.2.toNat + x.toNat * y.toNat := by
  have h1 := s.1.isLt
  have h2 := s.2.isLt
  generalize hp : x.toNat * y.toNat = p at *
  simp only [mac, mulHi, mulLo, addC, addS, BitVec.toNat_add, BitVec.toNat_ofNat, hp]
  have z : (0 : B64).toNat = 0 := rfl
  rw [z]
  omega
def tN (a : N5) (i : Nat) : Nat := (a i).toNat
/-- The bound that all answers keep. -/
structure okN (a : N5) : Prop where
  h0 : tN a 0 < 2251799813685312
  h1 : tN a 1 < 2251799813685248
  h2 : tN a 2 < 2251799813685248
  h3 : tN a 3 < 2251799813685248
  h4 : tN a 4 < 2251799813685248
def vN (a : N5) : Nat := limb (tN a 0) (tN a 1) (tN a 2) (tN a 3) (tN a 4)
def msk : B64 := 2251799813685247#64
/-- Carries. -/
def carO (x : N5) : Nat → B64
  | 0 => 0#64
  | i + 1 => (x i + carO x i) >>> 51
def carL (x : N5) : N5 := fun i => if i = 0 then ((x 0 + carO x 0) &&& msk) + 19#64 * carO x 5 else (x i + carO x i) &&& msk
theorem msk_and (x : B64) : (x &&& msk).toNat = x.toNat % 2251799813685248 := by
  show (x &&& 2251799813685247#64).toNat = _
  rw [BitVec.toNat_and]
  exact Nat.and_two_pow_sub_one_eq_mod x.toNat 51
theorem shr51 (x : B64) : (x >>> 51).toNat = x.toNat / 2251799813685248 := by
  rw [BitVec.toNat_ushiftRight, Nat.shiftRight_eq_div_pow]
theorem carL_val (x : N5) (m : Nat) (hm : m ≤ 9223372036854775808) (h0 : tN x 0 < m) (h1 : tN x 1 < m) (h2 : tN x 2 < m) (h3 : tN x 3 < m) (h4 : tN x 4 < m) :
    ∃ c, c ≤ (m + m / 2251799813685248 + 1) / 2251799813685248 ∧ vN (carL x) + PZ * c = vN x ∧ tN (carL x) 0 < 2251799813685248 + 19 * c ∧ tN (carL x) 0 = tN x 0 % 2251799813685248 + 19 * c ∧ tN (carL x) 1 < 2251799813685248 ∧ tN (carL x) 2 < 2251799813685248 ∧ tN (carL x) 3 < 2251799813685248 ∧ tN (carL x) 4 < 2251799813685248 := by
  unfold tN at *
  have o0 : (carO x 0).toNat = 0 := rfl
  have s0 : (x 0 + carO x 0).toNat = (x 0).toNat := by rw [BitVec.toNat_add, o0]; omega
  have o1 : (carO x 1).toNat = (x 0).toNat / 2251799813685248 := by show ((x 0 + carO x 0) >>> 51).toNat = _; rw [shr51, s0]
  have s1 : (x 1 + carO x 1).toNat = (x 1).toNat + (carO x 1).toNat := by rw [BitVec.toNat_add, o1]; omega
  have o2 : (carO x 2).toNat = ((x 1).toNat + (carO x 1).toNat) / 2251799813685248 := by show ((x 1 + carO x 1) >>> 51).toNat = _; rw [shr51, s1]
  have s2 : (x 2 + carO x 2).toNat = (x 2).toNat + (carO x 2).toNat := by rw [BitVec.toNat_add, o2, o1]; omega
  have o3 : (carO x 3).toNat = ((x 2).toNat + (carO x 2).toNat) / 2251799813685248 := by show ((x 2 + carO x 2) >>> 51).toNat = _; rw [shr51, s2]
  have s3 : (x 3 + carO x 3).toNat = (x 3).toNat + (carO x 3).toNat := by rw [BitVec.toNat_add, o3, o2, o1]; omega
  have o4 : (carO x 4).toNat = ((x 3).toNat + (carO x 3).toNat) / 2251799813685248 := by show ((x 3 + carO x 3) >>> 51).toNat = _; rw [shr51, s3]
  have s4 : (x 4 + carO x 4).toNat = (x 4).toNat + (carO x 4).toNat := by rw [BitVec.toNat_add, o4, o3, o2, o1]; omega
  have o5 : (carO x 5).toNat = ((x 4).toNat + (carO x 4).toNat) / 2251799813685248 := by show ((x 4 + carO x 4) >>> 51).toNat = _; rw [shr51, s4]
  have b1 : (carO x 1).toNat ≤ m / 2251799813685248 := by rw [o1]; omega
  have b2 : (carO x 2).toNat ≤ m / 2251799813685248 + 1 := by rw [o2]; omega
  have b3 : (carO x 3).toNat ≤ m / 2251799813685248 + 1 := by rw [o3]; omega
  have b4 : (carO x 4).toNat ≤ m / 2251799813685248 + 1 := by rw [o4]; omega
  have b5 : (carO x 5).toNat ≤ (m + m / 2251799813685248 + 1) / 2251799813685248 := by rw [o5]; omega
  have e0 : (carL x 0).toNat = (x 0).toNat % 2251799813685248 + 19 * (carO x 5).toNat := by
    show (((x 0 + carO x 0) &&& msk) + 19#64 * carO x 5).toNat = _
    rw [BitVec.toNat_add, BitVec.toNat_mul, msk_and, s0]
    have : (19#64).toNat = 19 := rfl
    rw [this]
    omega
  have e1 : (carL x 1).toNat = ((x 1).toNat + (carO x 1).toNat) % 2251799813685248 := by show ((x 1 + carO x 1) &&& msk).toNat = _; rw [msk_and, s1]
  have e2 : (carL x 2).toNat = ((x 2).toNat + (carO x 2).toNat) % 2251799813685248 := by show ((x 2 + carO x 2) &&& msk).toNat = _; rw [msk_and, s2]
  have e3 : (carL x 3).toNat = ((x 3).toNat + (carO x 3).toNat) % 2251799813685248 := by show ((x 3 + carO x 3) &&& msk).toNat = _; rw [msk_and, s3]
  have e4 : (carL x 4).toNat = ((x 4).toNat + (carO x 4).toNat) % 2251799813685248 := by show ((x 4 + carO x 4) &&& msk).toNat = _; rw [msk_and, s4]
  refine ⟨(carO x 5).toNat, b5, ?_, by omega, e0, by omega, by omega, by omega, by omega⟩
  unfold vN tN
  rw [e0, e1, e2, e3, e4]
  exact car_nat _ _ _ _ _ _ _ _ _ _ o1 o2 o3 o4 o5
end Go.Spec

/- Numbers of 64 bits and bytes in rows of cells, as the calls meet them. -/
namespace Go.Spec
abbrev By := List (BitVec 8)
abbrev F8 := Nat → BitVec 8
abbrev B32 := BitVec 32
end Go.Spec
namespace Go.Sym
open Go.Proofs Go.Spec
set_option linter.unusedVariables false
def gl0 : Gl := fun _ => []
def aggB (n : Nat) (f : Nat → BitVec 8) : AV := .agg ((List.range n).map fun i => .u8 (f i))
def agW (n : Nat) (f : Nat → B32) : AV := .agg ((List.range n).map fun i => .u32 (f i))
def agD (n : Nat) (f : Nat → B64) : AV := .agg ((List.range n).map fun i => .u64 (f i))
def fn8 (l : List (BitVec 8)) : F8 := fun i => l.getD i 0
def fn32 (l : List (BitVec 32)) : Nat → B32 := fun i => l.getD i 0
def fn64 (l : List (BitVec 64)) : Nat → B64 := fun i => l.getD i 0
theorem agB_of {n : Nat} {cs : List AV} {l : List (BitVec 8)} (h : rdU8 cs = some l) (hl : (l.length == n) = true) : AV.agg cs = aggB n (fn8 l) := by
  have hl : l.length = n := by simpa using hl
  rw [rdU8_eq h]
  unfold aggB
  congr 1
  apply List.ext_getElem
  · simp [hl]
  · intro i h1 h2
    have : i < l.length := by simpa using h1
    simp [fn8, List.getD, this]
theorem agW_of {n : Nat} {cs : List AV} {l : List (BitVec 32)} (h : rd32 cs = some l) (hl : (l.length == n) = true) : AV.agg cs = agW n (fn32 l) := by
  have hl : l.length = n := by simpa using hl
  rw [rd32_eq h]
  unfold agW
  congr 1
  apply List.ext_getElem
  · simp [hl]
  · intro i h1 h2
    have : i < l.length := by simpa using h1
    simp [fn32, List.getD, this]
theorem agD_of {n : Nat} {cs : List AV} {l : List (BitVec 64)} (h : rd64 cs = some l) (hl : (l.length == n) = true) : AV.agg cs = agD n (fn64 l) := by
  have hl : l.length = n := by simpa using hl
  rw [rd64_eq h]
  unfold agD
  congr 1
  apply List.ext_getElem
  · simp [hl]
  · intro i h1 h2
    have : i < l.length := by simpa using h1
    simp [fn64, List.getD, this]
/-- Bytes of a row of cells, so many. -/
def asB (n : Nat) (cs : List AV) (k : F8 → TL) : TL := match rdU8 cs with | some l => (match l.length == n with | true => k (fn8 l) | false => .no) | none => .no
def asW (n : Nat) (cs : List AV) (k : (Nat → B32) → TL) : TL := match rd32 cs with | some l => (match l.length == n with | true => k (fn32 l) | false => .no) | none => .no
def asD (n : Nat) (cs : List AV) (k : (Nat → B64) → TL) : TL := match rd64 cs with | some l => (match l.length == n with | true => k (fn64 l) | false => .no) | none => .no
theorem asB_sel {n : Nat} {cs : List AV} {k : F8 → TL} {r : RL} (h : (asB n cs k).sel = some r) : ∃ f, AV.agg cs = aggB n f ∧ (k f).sel = some r := by
  unfold asB at h
  split at h
  · rename_i l hl
    split at h
    · rename_i hn
      exact ⟨_, agB_of hl hn, h⟩
    · simp [TL.sel] at h
  · simp [TL.sel] at h
theorem asW_sel {n : Nat} {cs : List AV} {k : (Nat → B32) → TL} {r : RL} (h : (asW n cs k).sel = some r) : ∃ f, AV.agg cs = agW n f ∧ (k f).sel = some r := by
  unfold asW at h
  split at h
  · rename_i l hl
    split at h
    · rename_i hn
      exact ⟨_, agW_of hl hn, h⟩
    · simp [TL.sel] at h
  · simp [TL.sel] at h
theorem asD_sel {n : Nat} {cs : List AV} {k : (Nat → B64) → TL} {r : RL} (h : (asD n cs k).sel = some r) : ∃ f, AV.agg cs = agD n f ∧ (k f).sel = some r := by
  unfold asD at h
  split at h
  · rename_i l hl
    split at h
    · rename_i hn
      exact ⟨_, agD_of hl hn, h⟩
    · simp [TL.sel] at h
  · simp [TL.sel] at h
def rt (v : AV) : RL := ⟨[], v, [], []⟩
def spK (n : Nat) (g : List AV → TL) : Spec := ⟨List.replicate n .kp, fun _ _ => [], fun _ _ => [], fun xs bs => match bs with | [] => g xs | _ => .no⟩
theorem spK_sel {n : Nat} {g : List AV → TL} {xs : List AV} {bs : List ABlk} {r : RL} (h : ((spK n g).G xs bs).sel = some r) : bs = [] ∧ (g xs).sel = some r := by
  simp only [spK] at h
  split at h
  · exact ⟨rfl, h⟩
  · simp [TL.sel] at h
/-- Five numbers in five cells, each by its own name: no part of them is reckoned twice. -/
def mk5 (a b c d e : B64) : N5 := fun i => [a, b, c, d, e].getD i 0
def ag5 (f : N5) : AV := .agg [.u64 (f 0), .u64 (f 1), .u64 (f 2), .u64 (f 3), .u64 (f 4)]
def asD5 (cs : List AV) (k : N5 → TL) : TL := match cs with | [.u64 a, .u64 b, .u64 c, .u64 d, .u64 e] => k (mk5 a b c d e) | _ => .no
theorem asD5_sel {cs : List AV} {k : N5 → TL} {r : RL} (h : (asD5 cs k).sel = some r) : ∃ f, AV.agg cs = agD 5 f ∧ (k f).sel = some r := by
  unfold asD5 at h
  split at h
  · exact ⟨_, rfl, h⟩
  · simp [TL.sel] at h
noncomputable def V0 : Ctx := .none []
theorem okV0 : COKs Try.prog gl0 V0 := COKs.none
end Go.Sym

namespace Go.Sym
open Go.Proofs Go.Spec
set_option linter.unusedVariables false
/-- The sum of two numbers of 64 bits and a carry: the model answers it itself. -/
def cAdd : Ctr := fun h xs fr => match xs with
  | [.u64 x, .u64 y, .u64 c] => .ok ⟨[c.toNat ≤ 1], .tup [.u64 (addS x y c), .u64 (addC x y c)], []⟩
  | _ => .no
theorem eadd : EOK Try.prog 28 cAdd := by
  intro M w κ hs h xs vals fr r hr hle hvs hsel hob
  unfold cAdd at hsel
  split at hsel
  · rename_i x y c
    simp only [T.sel, Option.some.injEq] at hsel
    subst hsel
    have hc := obsT_one.1 hob
    obtain ⟨v1, r1, e1, hv1, v2, r2, e2, hv2, v3, r3, e3, hv3, e4⟩ := hvs
    simp only [VRels] at e4
    subst e4 e3 e2
    obtain rfl : vals = #[v1, v2, v3] := by cases vals; simp_all
    have hv1 : v1 = .int .u64 x.toNat := hv1
    have hv2 : v2 = .int .u64 y.toNat := hv2
    have hv3 : v3 = .int .u64 c.toNat := hv3
    subst hv1 hv2 hv3
    refine ⟨rfl, .tuple #[.int .u64 (addS x y c).toNat, .int .u64 (addC x y c).toNat], ?_, ?_⟩
    · rw [run_callFunc_extern (e := add64Entry) (fn := Try.f28) (by kernel_rfl) (by kernel_rfl) (by kernel_rfl) (by kernel_rfl) (by kernel_rfl)]
      rw [run_add64 _ _ _ (Int.natCast_nonneg _) (Int.natCast_nonneg _) (Int.natCast_nonneg _) (by omega)]
      have h1 := x.isLt
      have h2 := y.isLt
      have a1 : (((addS x y c).toNat : Nat) : Int) = ((x.toNat : Int) + y.toNat + c.toNat) % 18446744073709551616 := by
        unfold addS; rw [BitVec.toNat_ofNat]; omega
      have a2 : (((addC x y c).toNat : Nat) : Int) = ((x.toNat : Int) + y.toNat + c.toNat) / 18446744073709551616 := by
        unfold addC; rw [BitVec.toNat_ofNat]; omega
      rw [a1, a2]
      rfl
    · exact ⟨_, rfl, _, _, rfl, rfl, _, _, rfl, rfl, rfl⟩
  · simp [T.sel] at hsel
end Go.Sym

namespace Go.Sym
open Go.Proofs Go.Spec
set_option linter.unusedVariables false
set_option maxRecDepth 100000 in
theorem vmul (x y h l : B64) : bodyP Try.prog V0 gl0 [] [] 3000 Try.f27 0 [.u64 x, .u64 y] [] (retQ Try.prog Try.f27 0 ⟨[], .tup [.u64 h, .u64 l], [], []⟩) = (
h = x >>> 32 * y >>> 32 + (x >>> 32 * (y &&& BitVec.ofNat 64 4294967295) + ((x &&& BitVec.ofNat 64 4294967295) * (y &&& BitVec.ofNat 64 4294967295)) >>> 32) >>> 32 + ((x >>> 32 * (y &&& BitVec.ofNat 64 4294967295) + ((x &&& BitVec.ofNat 64 4294967295) * (y &&& BitVec.ofNat 64 4294967295)) >>> 32 &&& BitVec.ofNat 64 4294967295) + (x &&& BitVec.ofNat 64 4294967295) * y >>> 32) >>> 32 ∧ l = x * y ∧ True : Prop) := by kernel_rfl
set_option maxRecDepth 100000 in
theorem vcar (x y : N5) : bodyP Try.prog V0 gl0 [] [] 3000 Try.f29 0 [agD 5 x] [] (retQ Try.prog Try.f29 0 ⟨[], agD 5 y, [], []⟩) = (
let x1 := x 2 + (x 1 + (x 0 + BitVec.ofNat 64 0) >>> 51) >>> 51; (0 : Int) ≤ (0 : Int) ∧ (0 : Int) ≤ (0 : Int) ∧ (0 : Int) ≤ Int.ofNat 1 ∧ (0 : Int) ≤ Int.ofNat 1 ∧ (0 : Int) ≤ Int.ofNat 2 ∧ (0 : Int) ≤ Int.ofNat 2 ∧ (0 : Int) ≤ Int.ofNat 3 ∧ (0 : Int) ≤ Int.ofNat 3 ∧ (0 : Int) ≤ Int.ofNat 4 ∧ (0 : Int) ≤ Int.ofNat 4 ∧ y 0 = (x 0 + BitVec.ofNat 64 0 &&& BitVec.ofNat 64 2251799813685247) + BitVec.ofNat 64 19 * (x 4 + (x 3 + x1 >>> 51) >>> 51) >>> 51 ∧ y 1 = x 1 + (x 0 + BitVec.ofNat 64 0) >>> 51 &&& BitVec.ofNat 64 2251799813685247 ∧ y 2 = x1 &&& BitVec.ofNat 64 2251799813685247 ∧ y 3 = x 3 + x1 >>> 51 &&& BitVec.ofNat 64 2251799813685247 ∧ y 4 = x 4 + (x 3 + x1 >>> 51) >>> 51 &&& BitVec.ofNat 64 2251799813685247 ∧ True : Prop) := by kernel_rfl
set_option maxRecDepth 100000 in
theorem vcho (x y z : N5) (b : B64) : bodyP Try.prog V0 gl0 [] [] 3000 Try.f22 0 [agD 5 x, agD 5 y, .u64 b] [] (retQ Try.prog Try.f22 0 ⟨[], agD 5 z, [], []⟩) = (
(0 : Int) ≤ (0 : Int) ∧ (0 : Int) ≤ (0 : Int) ∧ (0 : Int) ≤ (0 : Int) ∧ (0 : Int) ≤ (0 : Int) ∧ (0 : Int) ≤ Int.ofNat 1 ∧ (0 : Int) ≤ Int.ofNat 1 ∧ (0 : Int) ≤ Int.ofNat 1 ∧ (0 : Int) ≤ Int.ofNat 1 ∧ (0 : Int) ≤ Int.ofNat 2 ∧ (0 : Int) ≤ Int.ofNat 2 ∧ (0 : Int) ≤ Int.ofNat 2 ∧ (0 : Int) ≤ Int.ofNat 2 ∧ (0 : Int) ≤ Int.ofNat 3 ∧ (0 : Int) ≤ Int.ofNat 3 ∧ (0 : Int) ≤ Int.ofNat 3 ∧ (0 : Int) ≤ Int.ofNat 3 ∧ (0 : Int) ≤ Int.ofNat 4 ∧ (0 : Int) ≤ Int.ofNat 4 ∧ (0 : Int) ≤ Int.ofNat 4 ∧ (0 : Int) ≤ Int.ofNat 4 ∧ z 0 = x 0 ^^^ (0 : BitVec 64) - b &&& (x 0 ^^^ y 0) ∧ z 1 = x 1 ^^^ (0 : BitVec 64) - b &&& (x 1 ^^^ y 1) ∧ z 2 = x 2 ^^^ (0 : BitVec 64) - b &&& (x 2 ^^^ y 2) ∧ z 3 = x 3 ^^^ (0 : BitVec 64) - b &&& (x 3 ^^^ y 3) ∧ z 4 = x 4 ^^^ (0 : BitVec 64) - b &&& (x 4 ^^^ y 4) ∧ True : Prop) := by kernel_rfl
end Go.Sym

namespace Go.Spec
theorem lo32 (x : B64) : (x &&& BitVec.ofNat 64 4294967295).toNat = x.toNat % 4294967296 := by
  rw [BitVec.toNat_and]
  exact Nat.and_two_pow_sub_one_eq_mod x.toNat 32
theorem hi32 (x : B64) : (x >>> 32).toNat = x.toNat / 4294967296 := by
  rw [BitVec.toNat_ushiftRight, Nat.shiftRight_eq_div_pow]
theorem mul_hi (x y : B64) : x >>> 32 * y >>> 32 + (x >>> 32 * (y &&& BitVec.ofNat 64 4294967295) + ((x &&& BitVec.ofNat 64 4294967295) * (y &&& BitVec.ofNat 64 4294967295)) >>> 32) >>> 32 + ((x >>> 32 * (y &&& BitVec.ofNat 64 4294967295) + ((x &&& BitVec.ofNat 64 4294967295) * (y &&& BitVec.ofNat 64 4294967295)) >>> 32 &&& BitVec.ofNat 64 4294967295) + (x &&& BitVec.ofNat 64 4294967295) * y >>> 32) >>> 32 = mulHi x y := by
  apply BitVec.eq_of_toNat_eq
  have hx := x.isLt
  have hy := y.isLt
  have b1 : (x &&& BitVec.ofNat 64 4294967295).toNat = x.toNat % 4294967296 := lo32 x
  have b2 : (y &&& BitVec.ofNat 64 4294967295).toNat = y.toNat % 4294967296 := lo32 y
  generalize ha : x.toNat / 4294967296 = a at *
  generalize hb : x.toNat % 4294967296 = b at *
  generalize hc : y.toNat / 4294967296 = c at *
  generalize hd : y.toNat % 4294967296 = d at *
  have ex : x.toNat = a * 4294967296 + b := by omega
  have ey : y.toNat = c * 4294967296 + d := by omega
  have la : a ≤ 4294967295 := by omega
  have lb : b ≤ 4294967295 := by omega
  have lc : c ≤ 4294967295 := by omega
  have ld : d ≤ 4294967295 := by omega
  have pac := Nat.mul_le_mul la lc
  have pad := Nat.mul_le_mul la ld
  have pbc := Nat.mul_le_mul lb lc
  have pbd := Nat.mul_le_mul lb ld
  have xy : x.toNat * y.toNat = a * c * 18446744073709551616 + (a * d + b * c) * 4294967296 + b * d := by
    rw [ex, ey]
    grind
  unfold mulHi
  rw [xy]
  simp only [BitVec.toNat_add, BitVec.toNat_mul, hi32, lo32, BitVec.toNat_ofNat, b1, b2, ha, hc]
  generalize a * c = p at *
  generalize a * d = q at *
  generalize b * c = r at *
  generalize b * d = s at *
  omega
theorem mul_lo (x y : B64) : x * y = mulLo x y := by
  apply BitVec.eq_of_toNat_eq
  unfold mulLo
  rw [BitVec.toNat_mul, BitVec.toNat_ofNat]
def choL (x y : N5) (b : B64) : N5 := fun i => x i ^^^ (0 - b &&& (x i ^^^ y i))


end Go.Spec
namespace Go.Sym
open Go.Proofs Go.Spec
set_option linter.unusedVariables false
def gMul (xs : List AV) : TL := match xs with | [.u64 x, .u64 y] => .ok (rt (.tup [.u64 (mulHi x y), .u64 (mulLo x y)])) | _ => .no
def gCar (xs : List AV) : TL := match xs with | [.agg cs] => asD5 cs fun x => .ok (rt (ag5 (carL x))) | _ => .no
def gCho (xs : List AV) : TL := match xs with | [.agg cs, .agg ds, .u64 b] => asD5 cs fun x => asD5 ds fun y => .ok (rt (ag5 (choL x y b))) | _ => .no
theorem cmul : COK Try.prog gl0 27 (mkF (spK 2 gMul)) := by
  refine ctrE (fn := Try.f27) [] 3000 (by kernel_rfl) (by kernel_rfl) okV0 (by kernel_rfl) (fun args w => by kernel_rfl) fun xs bs r hs ho => ?_
  obtain ⟨rfl, hs0⟩ := spK_sel hs
  clear hs
  rename (TL.sel _ = _) => hs
  unfold gMul at hs
  split at hs
  · rename_i x y
    simp only [TL.sel, Option.some.injEq] at hs
    subst hs
    refine ⟨[], ⟨?_⟩⟩
    show bodyP Try.prog V0 gl0 [] [] 3000 Try.f27 0 [.u64 x, .u64 y] [] (retQ Try.prog Try.f27 0 ⟨[], .tup [.u64 (mulHi x y), .u64 (mulLo x y)], [], []⟩)
    rw [vmul]
    exact ⟨(mul_hi x y).symm, (mul_lo x y).symm, trivial⟩
  · simp [TL.sel] at hs
theorem ccar : COK Try.prog gl0 29 (mkF (spK 1 gCar)) := by
  refine ctrE (fn := Try.f29) [] 3000 (by kernel_rfl) (by kernel_rfl) okV0 (by kernel_rfl) (fun args w => by kernel_rfl) fun xs bs r hs ho => ?_
  obtain ⟨rfl, hs0⟩ := spK_sel hs
  clear hs
  rename (TL.sel _ = _) => hs
  unfold gCar at hs
  split at hs
  · obtain ⟨x, e, hs⟩ := asD5_sel hs
    simp only [TL.sel, Option.some.injEq] at hs
    subst hs
    rw [e]
    refine ⟨[], ⟨?_⟩⟩
    show bodyP Try.prog V0 gl0 [] [] 3000 Try.f29 0 [agD 5 x] [] (retQ Try.prog Try.f29 0 ⟨[], agD 5 (carL x), [], []⟩)
    rw [vcar]
    intro x1
    and_intros <;> first | decide | rfl | trivial
  · simp [TL.sel] at hs
theorem ccho : COK Try.prog gl0 22 (mkF (spK 3 gCho)) := by
  refine ctrE (fn := Try.f22) [] 3000 (by kernel_rfl) (by kernel_rfl) okV0 (by kernel_rfl) (fun args w => by kernel_rfl) fun xs bs r hs ho => ?_
  obtain ⟨rfl, hs0⟩ := spK_sel hs
  clear hs
  rename (TL.sel _ = _) => hs
  unfold gCho at hs
  split at hs
  · obtain ⟨x, e, hs⟩ := asD5_sel hs
    obtain ⟨y, e2, hs⟩ := asD5_sel hs
    rename_i b
    simp only [TL.sel, Option.some.injEq] at hs
    subst hs
    rw [e, e2]
    refine ⟨[], ⟨?_⟩⟩
    show bodyP Try.prog V0 gl0 [] [] 3000 Try.f22 0 [agD 5 x, agD 5 y, .u64 _] [] (retQ Try.prog Try.f22 0 ⟨[], agD 5 (choL x y _), [], []⟩)
    rw [vcho]
    and_intros <;> first | decide | rfl | trivial
  · simp [TL.sel] at hs
noncomputable def V1 : Ctx := (((V0.add 28 cAdd).add 27 (mkF (spK 2 gMul))).add 29 (mkF (spK 1 gCar))).add 22 (mkF (spK 3 gCho))
theorem okV1 : COKs Try.prog gl0 V1 := (((okV0.add (.inr eadd)).add cmul).add ccar).add ccho
end Go.Sym

namespace Go.Spec
open Go.Sym
def foldT (y : N5) (i : Nat) : B64 := if i < 5 then 19#64 * y i else y (i - 5)
def rowT (x y : N5) (k : Nat) (s : B64 × B64) : B64 × B64 := mac (mac (mac (mac (mac s (x 0) (foldT y (5 + k))) (x 1) (foldT y (4 + k))) (x 2) (foldT y (3 + k))) (x 3) (foldT y (2 + k))) (x 4) (foldT y (1 + k))
def moreT (s : B64 × B64) : B64 := s.1 <<< 13 ||| s.2 >>> 51
def rowsT (x y : N5) : Nat → B64 × B64
  | 0 => rowT x y 0 (0, 0)
  | k + 1 => rowT x y (k + 1) (0, moreT (rowsT x y k))
def timO (x y : N5) : N5 := fun i => if i = 0 then ((rowsT x y 0).2 &&& msk) + 19#64 * moreT (rowsT x y 4) else (rowsT x y i).2 &&& msk
def re5 (f : N5) : N5 := mk5 (f 0) (f 1) (f 2) (f 3) (f 4)
def timesL (x y : N5) : N5 := carL (re5 (timO x y))
end Go.Spec

namespace Go.Sym
open Go.Proofs Go.Spec
set_option linter.unusedVariables false
set_option maxRecDepth 100000 in
theorem vtim (x y : N5) : bodyP Try.prog V1 gl0 [] [] 3000 Try.f14 0 [agD 5 x, agD 5 y] [] (retQ Try.prog Try.f14 0 ⟨[], agD 5 (timesL x y), [], []⟩) = ((0 : Int) ≤ (0 : Int) ∧ (0 : Int) ≤ (0 : Int) ∧ (0 : Int) ≤ Int.ofNat (5 : Nat) ∧ (0 : Int) ≤ Int.ofNat (1 : Nat) ∧ (0 : Int) ≤ Int.ofNat (1 : Nat) ∧ (0 : Int) ≤ Int.ofNat (6 : Nat) ∧ (0 : Int) ≤ Int.ofNat (2 : Nat) ∧ (0 : Int) ≤ Int.ofNat (2 : Nat) ∧ (0 : Int) ≤ Int.ofNat (7 : Nat) ∧ (0 : Int) ≤ Int.ofNat (3 : Nat) ∧ (0 : Int) ≤ Int.ofNat (3 : Nat) ∧ (0 : Int) ≤ Int.ofNat (8 : Nat) ∧ (0 : Int) ≤ Int.ofNat (4 : Nat) ∧ (0 : Int) ≤ Int.ofNat (4 : Nat) ∧ (0 : Int) ≤ Int.ofNat (9 : Nat) ∧ (0 : Int) ≤ (0 : Int) ∧ (0 : Int) ≤ Int.ofNat (5 : Nat) ∧ (0 : Nat) ≤ (1 : Nat) ∧ (0 : Int) ≤ Int.ofNat (1 : Nat) ∧ (0 : Int) ≤ Int.ofNat (4 : Nat) ∧ (0 : Nat) ≤ (1 : Nat) ∧ (0 : Int) ≤ Int.ofNat (2 : Nat) ∧ (0 : Int) ≤ Int.ofNat (3 : Nat) ∧ (0 : Nat) ≤ (1 : Nat) ∧ (0 : Int) ≤ Int.ofNat (3 : Nat) ∧ (0 : Int) ≤ Int.ofNat (2 : Nat) ∧ (0 : Nat) ≤ (1 : Nat) ∧ (0 : Int) ≤ Int.ofNat (4 : Nat) ∧ (0 : Int) ≤ Int.ofNat (1 : Nat) ∧ (0 : Nat) ≤ (1 : Nat) ∧ (0 : Int) ≤ (0 : Int) ∧ (0 : Int) ≤ (0 : Int) ∧ (0 : Int) ≤ Int.ofNat (6 : Nat) ∧ (0 : Nat) ≤ (1 : Nat) ∧ (0 : Int) ≤ Int.ofNat (1 : Nat) ∧ (0 : Int) ≤ Int.ofNat (5 : Nat) ∧ (0 : Nat) ≤ (1 : Nat) ∧ (0 : Int) ≤ Int.ofNat (2 : Nat) ∧ (0 : Int) ≤ Int.ofNat (4 : Nat) ∧ (0 : Nat) ≤ (1 : Nat) ∧ (0 : Int) ≤ Int.ofNat (3 : Nat) ∧ (0 : Int) ≤ Int.ofNat (3 : Nat) ∧ (0 : Nat) ≤ (1 : Nat) ∧ (0 : Int) ≤ Int.ofNat (4 : Nat) ∧ (0 : Int) ≤ Int.ofNat (2 : Nat) ∧ (0 : Nat) ≤ (1 : Nat) ∧ (0 : Int) ≤ Int.ofNat (1 : Nat) ∧ (0 : Int) ≤ (0 : Int) ∧ (0 : Int) ≤ Int.ofNat (7 : Nat) ∧ (0 : Nat) ≤ (1 : Nat) ∧ (0 : Int) ≤ Int.ofNat (1 : Nat) ∧ (0 : Int) ≤ Int.ofNat (6 : Nat) ∧ (0 : Nat) ≤ (1 : Nat) ∧ (0 : Int) ≤ Int.ofNat (2 : Nat) ∧ (0 : Int) ≤ Int.ofNat (5 : Nat) ∧ (0 : Nat) ≤ (1 : Nat) ∧ (0 : Int) ≤ Int.ofNat (3 : Nat) ∧ (0 : Int) ≤ Int.ofNat (4 : Nat) ∧ (0 : Nat) ≤ (1 : Nat) ∧ (0 : Int) ≤ Int.ofNat (4 : Nat) ∧ (0 : Int) ≤ Int.ofNat (3 : Nat) ∧ (0 : Nat) ≤ (1 : Nat) ∧ (0 : Int) ≤ Int.ofNat (2 : Nat) ∧ (0 : Int) ≤ (0 : Int) ∧ (0 : Int) ≤ Int.ofNat (8 : Nat) ∧ (0 : Nat) ≤ (1 : Nat) ∧ (0 : Int) ≤ Int.ofNat (1 : Nat) ∧ (0 : Int) ≤ Int.ofNat (7 : Nat) ∧ (0 : Nat) ≤ (1 : Nat) ∧ (0 : Int) ≤ Int.ofNat (2 : Nat) ∧ (0 : Int) ≤ Int.ofNat (6 : Nat) ∧ (0 : Nat) ≤ (1 : Nat) ∧ (0 : Int) ≤ Int.ofNat (3 : Nat) ∧ (0 : Int) ≤ Int.ofNat (5 : Nat) ∧ (0 : Nat) ≤ (1 : Nat) ∧ (0 : Int) ≤ Int.ofNat (4 : Nat) ∧ (0 : Int) ≤ Int.ofNat (4 : Nat) ∧ (0 : Nat) ≤ (1 : Nat) ∧ (0 : Int) ≤ Int.ofNat (3 : Nat) ∧ (0 : Int) ≤ (0 : Int) ∧ (0 : Int) ≤ Int.ofNat (9 : Nat) ∧ (0 : Nat) ≤ (1 : Nat) ∧ (0 : Int) ≤ Int.ofNat (1 : Nat) ∧ (0 : Int) ≤ Int.ofNat (8 : Nat) ∧ (0 : Nat) ≤ (1 : Nat) ∧ (0 : Int) ≤ Int.ofNat (2 : Nat) ∧ (0 : Int) ≤ Int.ofNat (7 : Nat) ∧ (0 : Nat) ≤ (1 : Nat) ∧ (0 : Int) ≤ Int.ofNat (3 : Nat) ∧ (0 : Int) ≤ Int.ofNat (6 : Nat) ∧ (0 : Nat) ≤ (1 : Nat) ∧ (0 : Int) ≤ Int.ofNat (4 : Nat) ∧ (0 : Int) ≤ Int.ofNat (5 : Nat) ∧ (0 : Nat) ≤ (1 : Nat) ∧ (0 : Int) ≤ Int.ofNat (4 : Nat) ∧ timesL x y 0 = timesL x y 0 ∧ timesL x y 1 = timesL x y 1 ∧ timesL x y 2 = timesL x y 2 ∧ timesL x y 3 = timesL x y 3 ∧ timesL x y 4 = timesL x y 4 ∧ True : Prop) := by kernel_rfl
end Go.Sym

namespace Go.Sym
open Go.Proofs Go.Spec
set_option linter.unusedVariables false
set_option maxRecDepth 100000 in
theorem vplus (x y z : N5) : bodyP Try.prog V1 gl0 [] [] 3000 Try.f23 0 [agD 5 x, agD 5 y] [] (retQ Try.prog Try.f23 0 ⟨[], agD 5 z, [], []⟩) = (
let x1 := fun (i : Nat) => [x 0 + y 0, x 1 + y 1, x 2 + y 2, x 3 + y 3, x 4 + y 4].getD i (0 : B64); (0 : Int) ≤ (0 : Int) ∧ (0 : Int) ≤ (0 : Int) ∧ (0 : Int) ≤ (0 : Int) ∧ (0 : Int) ≤ Int.ofNat 1 ∧ (0 : Int) ≤ Int.ofNat 1 ∧ (0 : Int) ≤ Int.ofNat 1 ∧ (0 : Int) ≤ Int.ofNat 2 ∧ (0 : Int) ≤ Int.ofNat 2 ∧ (0 : Int) ≤ Int.ofNat 2 ∧ (0 : Int) ≤ Int.ofNat 3 ∧ (0 : Int) ≤ Int.ofNat 3 ∧ (0 : Int) ≤ Int.ofNat 3 ∧ (0 : Int) ≤ Int.ofNat 4 ∧ (0 : Int) ≤ Int.ofNat 4 ∧ (0 : Int) ≤ Int.ofNat 4 ∧ z 0 = carL x1 0 ∧ z 1 = carL x1 1 ∧ z 2 = carL x1 2 ∧ z 3 = carL x1 3 ∧ z 4 = carL x1 4 ∧ True : Prop) := by kernel_rfl
set_option maxRecDepth 100000 in
theorem vmin (x y z : N5) : bodyP Try.prog V1 gl0 [] [] 3000 Try.f24 0 [agD 5 x, agD 5 y] [] (retQ Try.prog Try.f24 0 ⟨[], agD 5 z, [], []⟩) = (
let x1 := fun (i : Nat) => [x 0 + (BitVec.ofNat 64 4503599627370458 - y 0), x 1 + (BitVec.ofNat 64 4503599627370494 - y 1), x 2 + (BitVec.ofNat 64 4503599627370494 - y 2), x 3 + (BitVec.ofNat 64 4503599627370494 - y 3), x 4 + (BitVec.ofNat 64 4503599627370494 - y 4)].getD i (0 : B64); (0 : Int) ≤ (0 : Int) ∧ (0 : Int) ≤ (0 : Int) ∧ (0 : Int) ≤ (0 : Int) ∧ (0 : Int) ≤ Int.ofNat 1 ∧ (0 : Int) ≤ Int.ofNat 1 ∧ (0 : Int) ≤ Int.ofNat 1 ∧ (0 : Int) ≤ Int.ofNat 2 ∧ (0 : Int) ≤ Int.ofNat 2 ∧ (0 : Int) ≤ Int.ofNat 2 ∧ (0 : Int) ≤ Int.ofNat 3 ∧ (0 : Int) ≤ Int.ofNat 3 ∧ (0 : Int) ≤ Int.ofNat 3 ∧ (0 : Int) ≤ Int.ofNat 4 ∧ (0 : Int) ≤ Int.ofNat 4 ∧ (0 : Int) ≤ Int.ofNat 4 ∧ z 0 = carL x1 0 ∧ z 1 = carL x1 1 ∧ z 2 = carL x1 2 ∧ z 3 = carL x1 3 ∧ z 4 = carL x1 4 ∧ True : Prop) := by kernel_rfl
set_option maxRecDepth 100000 in
theorem vlea (x z : N5) : bodyP Try.prog V1 gl0 [] [] 3000 Try.f26 0 [agD 5 x] [] (retQ Try.prog Try.f26 0 ⟨[], agD 5 z, [], []⟩) = (
let x1 := fun (i : Nat) => [x 0, x 1, x 2, x 3, x 4].getD i (0 : B64); let x2 := fun (i : Nat) => [carL x1 0 + BitVec.ofNat 64 19 &&& BitVec.ofNat 64 2251799813685247, carL x1 1 + (carL x1 0 + BitVec.ofNat 64 19) >>> 51 &&& BitVec.ofNat 64 2251799813685247, carL x1 2 + (carL x1 1 + (carL x1 0 + BitVec.ofNat 64 19) >>> 51) >>> 51 &&& BitVec.ofNat 64 2251799813685247, carL x1 3 + (carL x1 2 + (carL x1 1 + (carL x1 0 + BitVec.ofNat 64 19) >>> 51) >>> 51) >>> 51 &&& BitVec.ofNat 64 2251799813685247, carL x1 4 + (carL x1 3 + (carL x1 2 + (carL x1 1 + (carL x1 0 + BitVec.ofNat 64 19) >>> 51) >>> 51) >>> 51) >>> 51 &&& BitVec.ofNat 64 2251799813685247].getD i (0 : B64); let x3 := (carL x1 4 + (carL x1 3 + (carL x1 2 + (carL x1 1 + (carL x1 0 + BitVec.ofNat 64 19) >>> 51) >>> 51) >>> 51) >>> 51) >>> 51; let x4 := fun (i : Nat) => [carL x1 0, carL x1 1, carL x1 2, carL x1 3, carL x1 4].getD i (0 : B64); (0 : Int) ≤ Int.ofNat 1 ∧ (0 : Int) ≤ (0 : Int) ∧ (0 : Int) ≤ Int.ofNat 1 ∧ (0 : Int) ≤ (0 : Int) ∧ (0 : Int) ≤ (0 : Int) ∧ (0 : Int) ≤ Int.ofNat 2 ∧ (0 : Int) ≤ Int.ofNat 1 ∧ (0 : Int) ≤ Int.ofNat 2 ∧ (0 : Int) ≤ Int.ofNat 1 ∧ (0 : Int) ≤ Int.ofNat 1 ∧ (0 : Int) ≤ Int.ofNat 3 ∧ (0 : Int) ≤ Int.ofNat 2 ∧ (0 : Int) ≤ Int.ofNat 3 ∧ (0 : Int) ≤ Int.ofNat 2 ∧ (0 : Int) ≤ Int.ofNat 2 ∧ (0 : Int) ≤ Int.ofNat 4 ∧ (0 : Int) ≤ Int.ofNat 3 ∧ (0 : Int) ≤ Int.ofNat 4 ∧ (0 : Int) ≤ Int.ofNat 3 ∧ (0 : Int) ≤ Int.ofNat 3 ∧ z 0 = choL x4 x2 x3 0 ∧ z 1 = choL x4 x2 x3 1 ∧ z 2 = choL x4 x2 x3 2 ∧ z 3 = choL x4 x2 x3 3 ∧ z 4 = choL x4 x2 x3 4 ∧ True : Prop) := by kernel_rfl
set_option maxRecDepth 100000 in
theorem vcla (x z : F8) : bodyP Try.prog V1 gl0 [] [] 3000 Try.f9 0 [aggB 32 x] [] (retQ Try.prog Try.f9 0 ⟨[], aggB 32 z, [], []⟩) = (
z 0 = x 0 &&& BitVec.ofNat 8 248 ∧ allP (fun (i : Nat) => z i = x i) 1 30 (z 31 = x 31 &&& BitVec.ofNat 8 127 ||| BitVec.ofNat 8 64 ∧ True) : Prop) := by kernel_rfl
end Go.Sym

namespace Go.Spec
/-- Two more times p, and less a number. -/
def mnO (x y : N5) : N5 := fun i => x i + ((if i = 0 then 4503599627370458#64 else 4503599627370494#64) - y i)
def lsO (x : N5) : Nat → B64
  | 0 => x 0 + 19#64
  | i + 1 => x (i + 1) + lsO x i >>> 51
/-- The least one. -/
def leaL (x : N5) : N5 := choL (re5 (carL (re5 x))) (re5 fun i => lsO (carL (re5 x)) i &&& msk) (lsO (carL (re5 x)) 4 >>> 51)
def plsL (x y : N5) : N5 := carL (re5 fun i => x i + y i)
def mnsL (x y : N5) : N5 := carL (re5 (mnO x y))
def claL (s : F8) : F8 := fun i => if i = 0 then s 0 &&& BitVec.ofNat 8 248 else if i = 31 then s 31 &&& BitVec.ofNat 8 127 ||| BitVec.ofNat 8 64 else s i
end Go.Spec
namespace Go.Sym
open Go.Proofs Go.Spec
set_option linter.unusedVariables false
def gPls (xs : List AV) : TL := match xs with | [.agg cs, .agg ds] => asD5 cs fun x => asD5 ds fun y => .ok (rt (ag5 (plsL x y))) | _ => .no
def gMns (xs : List AV) : TL := match xs with | [.agg cs, .agg ds] => asD5 cs fun x => asD5 ds fun y => .ok (rt (ag5 (mnsL x y))) | _ => .no
def gTim (xs : List AV) : TL := match xs with | [.agg cs, .agg ds] => asD5 cs fun x => asD5 ds fun y => .ok (rt (ag5 (timesL x y))) | _ => .no
def gLea (xs : List AV) : TL := match xs with | [.agg cs] => asD5 cs fun x => .ok (rt (ag5 (leaL x))) | _ => .no
def gCla (xs : List AV) : TL := match xs with | [.agg cs] => asB 32 cs fun x => .ok (rt (aggB 32 (claL x))) | _ => .no
theorem bpls (x y : N5) : Must (bodyP Try.prog V1 gl0 [] [] 3000 Try.f23 0 [agD 5 x, agD 5 y] [] (retQ Try.prog Try.f23 0 ⟨[], agD 5 (plsL x y), [], []⟩)) := by
  constructor
  rw [vplus]
  intro x1
  and_intros <;> first | decide | rfl | trivial
theorem bmns (x y : N5) : Must (bodyP Try.prog V1 gl0 [] [] 3000 Try.f24 0 [agD 5 x, agD 5 y] [] (retQ Try.prog Try.f24 0 ⟨[], agD 5 (mnsL x y), [], []⟩)) := by
  constructor
  rw [vmin]
  intro x1
  and_intros <;> first | decide | rfl | trivial
theorem btim (x y : N5) : Must (bodyP Try.prog V1 gl0 [] [] 3000 Try.f14 0 [agD 5 x, agD 5 y] [] (retQ Try.prog Try.f14 0 ⟨[], agD 5 (timesL x y), [], []⟩)) := by
  constructor
  rw [vtim]
  and_intros <;> first | exact rfl | decide | trivial
theorem blea (x : N5) : Must (bodyP Try.prog V1 gl0 [] [] 3000 Try.f26 0 [agD 5 x] [] (retQ Try.prog Try.f26 0 ⟨[], agD 5 (leaL x), [], []⟩)) := by
  constructor
  rw [vlea]
  intro x1 x2 x3 x4
  and_intros <;> first | exact trivial | decide | rfl
theorem bcla (x : F8) : Must (bodyP Try.prog V1 gl0 [] [] 3000 Try.f9 0 [aggB 32 x] [] (retQ Try.prog Try.f9 0 ⟨[], aggB 32 (claL x), [], []⟩)) := by
  constructor
  rw [vcla]
  refine ⟨rfl, allP_of _ _ (fun j h1 h2 => ?_) ⟨rfl, trivial⟩⟩
  unfold claL
  rw [if_neg (by omega), if_neg (by omega)]
theorem cpls : COK Try.prog gl0 23 (mkF (spK 2 gPls)) := by
  refine ctrE (fn := Try.f23) [] 3000 (by kernel_rfl) (by kernel_rfl) okV1 (by kernel_rfl) (fun args w => by kernel_rfl) fun xs bs r hs ho => ?_
  obtain ⟨rfl, hs0⟩ := spK_sel hs
  clear hs
  rename (TL.sel _ = _) => hs
  unfold gPls at hs
  split at hs
  · obtain ⟨x, e, hs⟩ := asD5_sel hs
    obtain ⟨y, e2, hs⟩ := asD5_sel hs
    simp only [TL.sel, Option.some.injEq] at hs
    subst hs
    rw [e, e2]
    exact ⟨[], bpls x y⟩
  · simp [TL.sel] at hs
theorem cmns : COK Try.prog gl0 24 (mkF (spK 2 gMns)) := by
  refine ctrE (fn := Try.f24) [] 3000 (by kernel_rfl) (by kernel_rfl) okV1 (by kernel_rfl) (fun args w => by kernel_rfl) fun xs bs r hs ho => ?_
  obtain ⟨rfl, hs0⟩ := spK_sel hs
  clear hs
  rename (TL.sel _ = _) => hs
  unfold gMns at hs
  split at hs
  · obtain ⟨x, e, hs⟩ := asD5_sel hs
    obtain ⟨y, e2, hs⟩ := asD5_sel hs
    simp only [TL.sel, Option.some.injEq] at hs
    subst hs
    rw [e, e2]
    exact ⟨[], bmns x y⟩
  · simp [TL.sel] at hs
theorem ctim : COK Try.prog gl0 14 (mkF (spK 2 gTim)) := by
  refine ctrE (fn := Try.f14) [] 3000 (by kernel_rfl) (by kernel_rfl) okV1 (by kernel_rfl) (fun args w => by kernel_rfl) fun xs bs r hs ho => ?_
  obtain ⟨rfl, hs0⟩ := spK_sel hs
  clear hs
  rename (TL.sel _ = _) => hs
  unfold gTim at hs
  split at hs
  · obtain ⟨x, e, hs⟩ := asD5_sel hs
    obtain ⟨y, e2, hs⟩ := asD5_sel hs
    simp only [TL.sel, Option.some.injEq] at hs
    subst hs
    rw [e, e2]
    exact ⟨[], btim x y⟩
  · simp [TL.sel] at hs
theorem clea : COK Try.prog gl0 26 (mkF (spK 1 gLea)) := by
  refine ctrE (fn := Try.f26) [] 3000 (by kernel_rfl) (by kernel_rfl) okV1 (by kernel_rfl) (fun args w => by kernel_rfl) fun xs bs r hs ho => ?_
  obtain ⟨rfl, hs0⟩ := spK_sel hs
  clear hs
  rename (TL.sel _ = _) => hs
  unfold gLea at hs
  split at hs
  · obtain ⟨x, e, hs⟩ := asD5_sel hs
    simp only [TL.sel, Option.some.injEq] at hs
    subst hs
    rw [e]
    exact ⟨[], blea x⟩
  · simp [TL.sel] at hs
theorem ccla : COK Try.prog gl0 9 (mkF (spK 1 gCla)) := by
  refine ctrE (fn := Try.f9) [] 3000 (by kernel_rfl) (by kernel_rfl) okV1 (by kernel_rfl) (fun args w => by kernel_rfl) fun xs bs r hs ho => ?_
  obtain ⟨rfl, hs0⟩ := spK_sel hs
  clear hs
  rename (TL.sel _ = _) => hs
  unfold gCla at hs
  split at hs
  · obtain ⟨x, e, hs⟩ := asB_sel hs
    simp only [TL.sel, Option.some.injEq] at hs
    subst hs
    rw [e]
    exact ⟨[], bcla x⟩
  · simp [TL.sel] at hs
noncomputable def V2 : Ctx := ((((V1.add 23 (mkF (spK 2 gPls))).add 24 (mkF (spK 2 gMns))).add 14 (mkF (spK 2 gTim))).add 26 (mkF (spK 1 gLea))).add 9 (mkF (spK 1 gCla))
theorem okV2 : COKs Try.prog gl0 V2 := ((((okV1.add cpls).add cmns).add ctim).add clea).add ccla
noncomputable def V3 : Ctx := V2.exe Try.prog gl0 [] 3000 Try.f25.params.size 25 Try.f25
theorem okV3 : COKs Try.prog gl0 V3 := okV2.exe [] 3000 _ (by kernel_rfl) (by kernel_rfl) (by kernel_rfl) (fun args w => by kernel_rfl)
end Go.Sym
