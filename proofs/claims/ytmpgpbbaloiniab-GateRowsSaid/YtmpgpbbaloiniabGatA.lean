/- Gates: the calls of the program. -/
import Derived.Test.YtmpgpbbaloiniabSymC
import Derived.OpenShut
import Derived.Test.YtmpgpbbaloiniabProg
import Derived.KernelRfl
/- What is handed in from outside: plain data of any shape. -/
namespace Go.Sym
set_option linter.unusedVariables false
set_option linter.unusedSimpArgs false
open Go.ChangeShapes Go.WideShapes
inductive Sh where
  | i (k : IntKind)
  | b
  | s
  | y
def Sh.ok : Sh → AV → Prop
  | .i .u8, a => ∃ x, a = .u8 x
  | .i .u16, a => ∃ x, a = .u16 x
  | .i .u32, a => ∃ x, a = .u32 x
  | .i .u64, a => ∃ x, a = .u64 x
  | .i k, a => ∃ n, a = .int k n ∧ (Lit.int k n).wf = true
  | .b, a => ∃ c, a = .bool c
  | .s, a => ∃ l, a = .str l ∧ l.length ≤ maxLen
  | .y, a => ∃ l c, a = .rb true l (.is c) ∧ (c = true → l = []) ∧ l.length ≤ maxLen
def shAll : List Sh → List AV → Prop
  | [], [] => True
  | k :: ss, a :: az => k.ok a ∧ shAll ss az
  | _, _ => False
theorem shAll_append : ∀ {l m : List Sh} {az bs : List AV}, shAll l az → shAll m bs → shAll (l ++ m) (az ++ bs)
  | [], _, [], _, _, k => k
  | _ :: _, _, _ :: _, _, h, k => ⟨h.1, shAll_append h.2 k⟩
  | [], _, _ :: _, _, h, _ => h.elim
  | _ :: _, _, [], _, h, _ => h.elim
theorem datas_append {p : Bool} : ∀ {az bs : List AV}, datas p az = true → datas p bs = true → datas p (az ++ bs) = true
  | [], _, _, k => k
  | a :: az, _, h, k => by
    simp only [datas, Bool.and_eq_true, List.cons_append] at h ⊢
    exact ⟨h.1, datas_append h.2 k⟩
def flatFs (P : Program) (g : TypeId → Option (List Sh)) : List Field → Nat → Option (List Sh)
  | [], _ => some []
  | f :: fs, o => if f.offset = o then (g f.type).bind fun l => if P.cellsOf f.type = l.length then (flatFs P g fs (o + l.length)).map (l ++ ·) else none else none
def flat (P : Program) : Nat → TypeId → Option (List Sh)
  | 0, _ => none
  | f + 1, t => match P.underlying t with
    | some (.int k) => some [.i k]
    | some .bool => some [.b]
    | some .string => some [.s]
    | some (.slice e) => (match P.underlying e with | some (.int .u8) => if P.cellsOf e = 1 then some [.y] else none | _ => none)
    | some (.array n e) => (flat P f e).bind fun l => if P.cellsOf e = l.length ∧ P.cellsOf t = n * l.length then some (List.replicate n l).flatten else none
    | some (.struct fs) => (flatFs P (flat P f) fs.toList 0).bind fun l => if P.cellsOf t = l.length then some l else none
    | _ => none

section
variable {H : Type} {enc : TypeId × Value → H} {P : Program} {W : World} {base : Nat} {spare : Nat → Bool} {held : Bool}
def Read (W : World) (l : List Sh) (cs : List Value) : Prop := ∃ avs, shAll l avs ∧ datas true avs = true ∧ VRels (κW W) avs cs
theorem Read.append {l m : List Sh} {cs ds : List Value} (h : Read W l cs) (k : Read W m ds) : Read W (l ++ m) (cs ++ ds) := by
  obtain ⟨a, h1, h2, h3⟩ := h
  obtain ⟨b, k1, k2, k3⟩ := k
  exact ⟨a ++ b, shAll_append h1 k1, datas_append h2 k2, VRels.append h3 k3⟩
theorem read_arr {l : List Sh} {m : Nat} : ∀ (n : Nat) (cs : List Value), cs.length = n * m → (∀ i, i < n → Read W l ((cs.drop (i * m)).take m)) → Read W (List.replicate n l).flatten cs
  | 0, cs, hl, _ => by
    have : cs = [] := List.eq_nil_of_length_eq_zero (by simpa using hl)
    subst this
    exact ⟨[], trivial, rfl, rfl⟩
  | n + 1, cs, hl, h => by
    have h0 := h 0 (by omega)
    simp only [Nat.zero_mul, List.drop_zero] at h0
    have hr := read_arr (m := m) n (cs.drop m) (by rw [List.length_drop, hl, Nat.succ_mul]; omega) (fun i hi => by
      have := h (i + 1) (by omega)
      rw [List.drop_drop]
      rw [Nat.add_mul, Nat.one_mul, Nat.add_comm] at this
      exact this)
    have := h0.append hr
    rw [List.take_append_drop] at this
    simpa [List.replicate_succ] using this
theorem read_fs {g : TypeId → Option (List Sh)} {cs : List Value} : ∀ (fs : List Field) (o : Nat) (l : List Sh), flatFs P g fs o = some l → cs.length = o + l.length →
    (∀ f l', f ∈ fs → g f.type = some l' → Read W l' ((cs.drop f.offset).take (P.cellsOf f.type))) → Read W l (cs.drop o)
  | [], o, l, h, hl, _ => by
    simp only [flatFs, Option.some.injEq] at h
    subst h
    have : cs.drop o = [] := List.drop_eq_nil_of_le (by simp at hl; omega)
    rw [this]
    exact ⟨[], trivial, rfl, rfl⟩
  | f :: fs, o, l, h, hl, hr => by
    simp only [flatFs] at h
    split at h
    · rename_i ho
      simp only [Option.bind_eq_some_iff] at h
      obtain ⟨l1, h1, h2⟩ := h
      split at h2
      · rename_i hc
        simp only [Option.map_eq_some_iff] at h2
        obtain ⟨l2, h3, rfl⟩ := h2
        have k1 := hr f l1 (by simp) h1
        rw [ho, hc] at k1
        have k2 := read_fs fs (o + l1.length) l2 h3 (by simp at hl; omega) (fun f' l' hf hg => hr f' l' (by simp [hf]) hg)
        have := k1.append k2
        rw [← List.drop_drop, List.take_append_drop] at this
        exact this
      · cases h2
    · cases h
theorem rd_flat : ∀ (f : Nat) (t : TypeId) (l : List Sh) (fuel : Nat) (cs : List Value) (x : DataW H × List MemPlace), flat P f t = some l → DataW.trod enc P W base spare held fuel t cs = some x → Read W l cs
  | 0, _, _, _, _, _, h, _ => by cases h
  | f + 1, t, l, fuel, cs, x, h, hd => by
    unfold flat at h
    split at h
    · rename_i k ht
      simp only [Option.some.injEq] at h
      subst h
      obtain ⟨n, rfl, _, hw⟩ := DataW.trod_int ht hd
      have hn : absC0 (.int k n) = absC0 (.int k n) := rfl
      cases k
      case u8 =>
        simp [Lit.wf, IntKind.min, IntKind.max, IntKind.signed, IntKind.bits] at hw
        exact ⟨[.u8 (BitVec.ofNat 8 n.toNat)], ⟨⟨_, rfl⟩, trivial⟩, rfl, _, [], rfl, by simp only [VRel, BitVec.toNat_ofNat]; congr 1; omega, rfl⟩
      case u16 =>
        simp [Lit.wf, IntKind.min, IntKind.max, IntKind.signed, IntKind.bits] at hw
        exact ⟨[.u16 (BitVec.ofNat 16 n.toNat)], ⟨⟨_, rfl⟩, trivial⟩, rfl, _, [], rfl, by simp only [VRel, BitVec.toNat_ofNat]; congr 1; omega, rfl⟩
      case u32 =>
        simp [Lit.wf, IntKind.min, IntKind.max, IntKind.signed, IntKind.bits] at hw
        exact ⟨[.u32 (BitVec.ofNat 32 n.toNat)], ⟨⟨_, rfl⟩, trivial⟩, rfl, _, [], rfl, by simp only [VRel, BitVec.toNat_ofNat]; congr 1; omega, rfl⟩
      case u64 =>
        simp [Lit.wf, IntKind.min, IntKind.max, IntKind.signed, IntKind.bits] at hw
        exact ⟨[.u64 (BitVec.ofNat 64 n.toNat)], ⟨⟨_, rfl⟩, trivial⟩, rfl, _, [], rfl, by simp only [VRel, BitVec.toNat_ofNat]; congr 1; omega, rfl⟩
      all_goals exact ⟨[.int _ n], ⟨⟨_, rfl, hw⟩, trivial⟩, rfl, _, [], rfl, rfl, rfl⟩
    · rename_i ht
      simp only [Option.some.injEq] at h
      subst h
      obtain ⟨b, rfl, _⟩ := DataW.trod_bool ht hd
      exact ⟨[.bool b], ⟨⟨_, rfl⟩, trivial⟩, rfl, _, [], rfl, rfl, rfl⟩
    · rename_i ht
      simp only [Option.some.injEq] at h
      subst h
      obtain ⟨s, rfl, _, hs⟩ := DataW.trod_string ht hd
      have hb := bytesStr_strBytes s
      refine ⟨[.str (strBytes s)], ⟨⟨_, rfl, ?_⟩, trivial⟩, rfl, _, [], rfl, by simp only [VRel, hb], rfl⟩
      rw [← bytesStr_size, hb]
      exact hs
    · rename_i e ht
      split at h
      · rename_i he
        split at h
        · rename_i hc
          simp only [Option.some.injEq] at h
          subst h
          obtain ⟨v, l, c, rfl, h1, h2, h3⟩ := rd_bytes ht he hc hd
          exact ⟨[.rb true l (.is c)], ⟨⟨l, c, rfl, h1, h2⟩, trivial⟩, rfl, _, [], rfl, h3, rfl⟩
        · cases h
      · cases h
    · rename_i n e ht
      simp only [Option.bind_eq_some_iff] at h
      obtain ⟨l1, h1, h2⟩ := h
      split at h2
      · rename_i hc
        simp only [Option.some.injEq] at h2
        subst h2
        obtain ⟨xs, m, _, _, hl, hn, hel⟩ := DataW.trod_array ht hd
        refine read_arr (m := l1.length) n cs (by rw [hl, hc.2]) fun i hi => ?_
        have := hel i hi
        rw [List.getElem?_eq_getElem (by omega), hc.1] at this
        exact rd_flat f e l1 _ _ _ h1 this
      · cases h2
    · rename_i fs ht
      simp only [Option.bind_eq_some_iff] at h
      obtain ⟨l1, h1, h2⟩ := h
      split at h2
      · rename_i hc
        simp only [Option.some.injEq] at h2
        subst h2
        obtain ⟨xs, m, _, _, hl, hn, hel⟩ := DataW.trod_struct ht hd
        have := read_fs (W := W) (cs := cs) fs.toList 0 l1 h1 (by rw [hl, hc]; omega) fun f0 l' hf hg => by
          obtain ⟨i, hi⟩ := List.getElem?_of_mem hf
          have hlt := (List.getElem?_eq_some_iff.1 hi).1
          have := hel i f0 (by simpa using hi)
          rw [List.getElem?_eq_getElem (by simp at hlt; omega)] at this
          exact rd_flat f f0.type l' _ _ _ hg this
        simpa using this
      · cases h2
    · cases h
theorem agg_of_cells {v : Value} {avs : List AV} (h : VRels (κW W) avs v.cells.toList) (hl : 2 ≤ avs.length) : VRel (κW W) (.agg avs) v := by
  have hn := h.length
  cases v
  case agg cs => exact ⟨cs, rfl, h⟩
  all_goals (exfalso; simp [Value.cells] at hn; omega)
/-- Bytes of an array. -/
theorem sh_u8 : ∀ {n : Nat} {avs : List AV}, shAll (List.replicate n (.i .u8)) avs → ∃ l : List (BitVec 8), l.length = n ∧ avs = l.map .u8
  | 0, [], _ => ⟨[], rfl, rfl⟩
  | 0, _ :: _, h => h.elim
  | n + 1, [], h => h.elim
  | n + 1, a :: az, h => by
    obtain ⟨⟨x, rfl⟩, h2⟩ := h
    obtain ⟨l, h3, rfl⟩ := sh_u8 h2
    exact ⟨x :: l, by simp [h3], rfl⟩
end
theorem sh_cons {k : Sh} {ks : List Sh} {avs : List AV} (h : shAll (k :: ks) avs) : ∃ a az, avs = a :: az ∧ k.ok a ∧ shAll ks az := by
  cases avs with
  | nil => exact h.elim
  | cons a az => exact ⟨a, az, rfl, h.1, h.2⟩
theorem sh_nil {avs : List AV} (h : shAll [] avs) : avs = [] := by
  cases avs with
  | nil => rfl
  | cons a az => exact h.elim
theorem sh_i64 {a : AV} (h : (Sh.i .i64).ok a) : ∃ n, a = .int .i64 n := by
  obtain ⟨n, h, _⟩ := h
  exact ⟨n, h⟩
theorem rel_u32 {κ : Ker} {n : Int} (h : (Lit.int .u32 n).wf = true) : VRel κ (.u32 (BitVec.ofInt 32 n)) (.int .u32 n) := by
  simp [Lit.wf, IntKind.has, IntKind.min, IntKind.max, IntKind.signed, IntKind.bits] at h
  simp only [VRel, BitVec.toNat_ofInt]
  congr 1
  omega
theorem rel_u64 {κ : Ker} {n : Int} (h : (Lit.int .u64 n).wf = true) : VRel κ (.u64 (BitVec.ofInt 64 n)) (.int .u64 n) := by
  simp [Lit.wf, IntKind.has, IntKind.min, IntKind.max, IntKind.signed, IntKind.bits] at h
  simp only [VRel, BitVec.toNat_ofInt]
  congr 1
  omega
theorem rel_u8 {κ : Ker} {n : Int} (h : (Lit.int .u8 n).wf = true) : VRel κ (.u8 (BitVec.ofInt 8 n)) (.int .u8 n) := by
  simp [Lit.wf, IntKind.has, IntKind.min, IntKind.max, IntKind.signed, IntKind.bits] at h
  simp only [VRel, BitVec.toNat_ofInt]
  congr 1
  omega
end Go.Sym

/- Rows of like terms, by a function. -/
namespace Go.Spec
def rgA {α : Type} (F : Nat → α) : Nat → Nat → List α → List α
  | _, 0, r => r
  | s, n + 1, r => F s :: rgA F (s + 1) n r
def rg {α : Type} (n : Nat) (F : Nat → α) : List α := rgA F 0 n []
def allP (p : Nat → Prop) : Nat → Nat → Prop → Prop
  | _, 0, r => r
  | s, n + 1, r => p s ∧ allP p (s + 1) n r
def andP (p : Nat → Bool) : Nat → Nat → Bool → Bool
  | _, 0, r => r
  | s, n + 1, r => p s && andP p (s + 1) n r
theorem allP_of {p : Nat → Prop} {r : Prop} : ∀ (n s : Nat), (∀ j, s ≤ j → j < s + n → p j) → r → allP p s n r
  | 0, _, _, hr => hr
  | n + 1, s, h, hr => ⟨h s (Nat.le_refl _) (by omega), allP_of n (s + 1) (fun j h1 h2 => h j (by omega) (by omega)) hr⟩
theorem allP_rfl {α : Type} {f : Nat → α} {s n : Nat} {r : Prop} (hr : r) : allP (fun i => f i = f i) s n r := allP_of n s (fun _ _ _ => rfl) hr
theorem allP_tt {s n : Nat} {r : Prop} : allP (fun _ => True) s n r = r := by
  induction n generalizing s with
  | zero => rfl
  | succ n ih => simp only [allP, ih, true_and]
theorem andP_of {p : Nat → Bool} {r : Bool} : ∀ (n s : Nat), (∀ j, s ≤ j → j < s + n → p j = true) → r = true → andP p s n r = true
  | 0, _, _, hr => hr
  | n + 1, s, h, hr => by
    simp only [andP, h s (Nat.le_refl _) (by omega), Bool.true_and]
    exact andP_of n (s + 1) (fun j h1 h2 => h j (by omega) (by omega)) hr
theorem andP_tt {s n : Nat} {r : Bool} : andP (fun _ => true) s n r = r := by
  induction n generalizing s with
  | zero => rfl
  | succ n ih => simp only [andP, ih, Bool.true_and]
theorem andP_iff {p : Nat → Bool} {r : Bool} : ∀ (n s : Nat), andP p s n r = true ↔ (∀ j, s ≤ j → j < s + n → p j = true) ∧ r = true
  | 0, s => by simp only [andP]; exact ⟨fun h => ⟨fun j h1 h2 => by omega, h⟩, fun h => h.2⟩
  | n + 1, s => by
    simp only [andP, Bool.and_eq_true, andP_iff n (s + 1)]
    constructor
    · rintro ⟨h1, h2, h3⟩
      refine ⟨fun j hj hk => ?_, h3⟩
      rcases Nat.eq_or_lt_of_le hj with e | e
      · exact e ▸ h1
      · exact h2 j e (by omega)
    · rintro ⟨h1, h2⟩
      exact ⟨h1 s (Nat.le_refl _) (by omega), fun j hj hk => h1 j (by omega) (by omega), h2⟩
theorem rgA_eq {α : Type} (F : Nat → α) : ∀ (n s : Nat) (r : List α), rgA F s n r = ((List.range n).map fun i => F (s + i)) ++ r
  | 0, _, _ => rfl
  | n + 1, s, r => by
    rw [rgA, rgA_eq F n (s + 1) r, List.range_succ_eq_map, List.map_cons, List.map_map, List.cons_append]
    congr 2
    apply List.map_congr_left
    intro i _
    simp only [Function.comp_apply]
    congr 1
    omega
theorem rg_eq {α : Type} (n : Nat) (F : Nat → α) : rg n F = (List.range n).map F := by
  unfold rg
  rw [rgA_eq, List.append_nil]
  simp
theorem rg_length {α : Type} (n : Nat) (F : Nat → α) : (rg n F).length = n := by rw [rg_eq]; simp
theorem rg_getD {α : Type} (n : Nat) (F : Nat → α) (i : Nat) (d : α) (h : i < n) : (rg n F).getD i d = F i := by
  rw [rg_eq]
  simp [List.getD, h]
theorem rg_congr {α : Type} {n : Nat} {F G : Nat → α} (h : ∀ i, i < n → F i = G i) : rg n F = rg n G := by
  rw [rg_eq, rg_eq]
  apply List.map_congr_left
  intro i hi
  exact h i (by simpa using hi)
theorem rg_self {α : Type} {n : Nat} {l : List α} (d : α) (h : l.length = n) : rg n (fun i => l.getD i d) = l := by
  rw [rg_eq]
  apply List.ext_getElem
  · simp [h]
  · intro i h1 h2
    simp [List.getD, h2]
end Go.Spec

namespace Go.Sym
set_option linter.unusedVariables false
open Go.ChangeShapes Go.WideShapes
section
variable {H : Type} {enc : TypeId × Value → H} {P : Program} {W : World} {base : Nat} {spare : Nat → Bool} {held : Bool}
theorem rd_rowsF {t e : TypeId} {fuel : Nat} {cs : List Value} {x : DataW H × List MemPlace} {sz : Nat} {l : List Sh} {av0 : List AV} (ht : P.underlying t = some (.slice e)) (hsz : P.cellsOf e = sz) (hpos : 0 < sz) (hfl : flat P 9 e = some l) (h0 : shAll l av0)
    (h : DataW.trod enc P W base spare held fuel t cs = some x) : ∃ v n g c, cs = [v] ∧ (c = true → n = 0) ∧ n ≤ maxLen ∧ (∀ y, shAll l (g y)) ∧ VRel (κW W) (.ros true sz n g (.is c)) v :=
  rd_rows ht hsz hpos h0 (fun n xs y hh => rd_flat 9 e l n xs y hfl hh) h
end
/-- Rows of four numbers. -/
theorem sh_four {g : Nat → List AV} (h : ∀ y, shAll [.i .i64, .i .i64, .i .i64, .i .i64] (g y)) : ∃ A B C D : Nat → Int, g = fun y => [.int .i64 (A y), .int .i64 (B y), .int .i64 (C y), .int .i64 (D y)] := by
  have each : ∀ y, ∃ a b c d : Int, g y = [.int .i64 a, .int .i64 b, .int .i64 c, .int .i64 d] := by
    intro y
    obtain ⟨a, r, e1, ⟨n1, k1, _⟩, h1⟩ := sh_cons (h y)
    obtain ⟨b, r, e2, ⟨n2, k2, _⟩, h2⟩ := sh_cons h1
    obtain ⟨c, r, e3, ⟨n3, k3, _⟩, h3⟩ := sh_cons h2
    obtain ⟨d, r, e4, ⟨n4, k4, _⟩, h4⟩ := sh_cons h3
    have e5 := sh_nil h4
    subst e5
    exact ⟨n1, n2, n3, n4, by rw [e1, e2, e3, e4, k1, k2, k3, k4]⟩
  refine ⟨fun y => Classical.choose (each y), fun y => Classical.choose (Classical.choose_spec (each y)), fun y => Classical.choose (Classical.choose_spec (Classical.choose_spec (each y))), fun y => Classical.choose (Classical.choose_spec (Classical.choose_spec (Classical.choose_spec (each y)))), ?_⟩
  funext y
  exact Classical.choose_spec (Classical.choose_spec (Classical.choose_spec (Classical.choose_spec (each y))))
/-- Rows of bytes. -/
theorem sh_rb {g : Nat → List AV} (h : ∀ y, shAll [.y] (g y)) : ∃ (F : Nat → List (BitVec 8)) (C : Nat → Bool), g = (fun y => [.rb true (F y) (.is (C y))]) ∧ ∀ y, (C y = true → F y = []) ∧ (F y).length ≤ maxLen := by
  have each : ∀ y, ∃ (l : List (BitVec 8)) (c : Bool), g y = [.rb true l (.is c)] ∧ (c = true → l = []) ∧ l.length ≤ maxLen := by
    intro y
    obtain ⟨a, r, e1, ⟨l, c, k1, k2, k3⟩, h1⟩ := sh_cons (h y)
    have e5 := sh_nil h1
    subst e5
    exact ⟨l, c, by rw [e1, k1], k2, k3⟩
  refine ⟨fun y => Classical.choose (each y), fun y => Classical.choose (Classical.choose_spec (each y)), ?_, fun y => (Classical.choose_spec (Classical.choose_spec (each y))).2⟩
  funext y
  exact (Classical.choose_spec (Classical.choose_spec (each y))).1
end Go.Sym

namespace Go.Sym
/-- Rows of numbers. -/
theorem sh_one {g : Nat → List AV} (h : ∀ y, shAll [.i .i64] (g y)) : ∃ A : Nat → Int, g = fun y => [.int .i64 (A y)] := by
  have each : ∀ y, ∃ a : Int, g y = [.int .i64 a] := by
    intro y
    obtain ⟨a, r, e1, ⟨n1, k1, _⟩, h1⟩ := sh_cons (h y)
    have e5 := sh_nil h1
    subst e5
    exact ⟨n1, by rw [e1, k1]⟩
  exact ⟨fun y => Classical.choose (each y), funext fun y => Classical.choose_spec (each y)⟩
end Go.Sym

/- A gate: the calls of the program. -/
namespace Go.Sym
open Go.Proofs
set_option linter.unusedVariables false
def gl0 : Gl := fun _ => []
noncomputable def G0 : Ctx := .none []
theorem okG0 : COKs Try.prog gl0 G0 := COKs.none
noncomputable def G1 : Ctx := G0.exe Try.prog gl0 [] 400 Try.f12.params.size 12 Try.f12
theorem okG1 : COKs Try.prog gl0 G1 := okG0.exe [] 400 _ (by kernel_rfl) (by kernel_rfl) (by kernel_rfl) (fun args w => by kernel_rfl)
noncomputable def G2 : Ctx := G1.exe Try.prog gl0 [] 400 Try.f9.params.size 9 Try.f9
theorem okG2 : COKs Try.prog gl0 G2 := okG1.exe [] 400 _ (by kernel_rfl) (by kernel_rfl) (by kernel_rfl) (fun args w => by kernel_rfl)
noncomputable def G3 : Ctx := G2.exe Try.prog gl0 [] 400 Try.f4.params.size 4 Try.f4
theorem okG3 : COKs Try.prog gl0 G3 := okG2.exe [] 400 _ (by kernel_rfl) (by kernel_rfl) (by kernel_rfl) (fun args w => by kernel_rfl)
noncomputable def G4 : Ctx := G3.exe Try.prog gl0 [] 400 Try.f5.params.size 5 Try.f5
theorem okG4 : COKs Try.prog gl0 G4 := okG3.exe [] 400 _ (by kernel_rfl) (by kernel_rfl) (by kernel_rfl) (fun args w => by kernel_rfl)
noncomputable def G5 : Ctx := G4.exe Try.prog gl0 [] 400 Try.f11.params.size 11 Try.f11
theorem okG5 : COKs Try.prog gl0 G5 := okG4.exe [] 400 _ (by kernel_rfl) (by kernel_rfl) (by kernel_rfl) (fun args w => by kernel_rfl)
noncomputable def G6 : Ctx := G5.exe Try.prog gl0 [] 400 Try.f6.params.size 6 Try.f6
theorem okG6 : COKs Try.prog gl0 G6 := okG5.exe [] 400 _ (by kernel_rfl) (by kernel_rfl) (by kernel_rfl) (fun args w => by kernel_rfl)
noncomputable def G7 : Ctx := G6.exe Try.prog gl0 [] 400 Try.f7.params.size 7 Try.f7
theorem okG7 : COKs Try.prog gl0 G7 := okG6.exe [] 400 _ (by kernel_rfl) (by kernel_rfl) (by kernel_rfl) (fun args w => by kernel_rfl)
noncomputable def G8 : Ctx := G7.exe Try.prog gl0 [] 400 Try.f8.params.size 8 Try.f8
theorem okG8 : COKs Try.prog gl0 G8 := okG7.exe [] 400 _ (by kernel_rfl) (by kernel_rfl) (by kernel_rfl) (fun args w => by kernel_rfl)
/-- A gate that may be. -/
structure gR (e n u : Int) : Prop where
  e0 : 0 ≤ e
  n0 : 0 ≤ n
  nu : n ≤ u
  u6 : u ≤ 64
  u8 : u.tmod 8 = 0
def gA (e n u : Int) : AV := .agg [.int .i64 e, .int .i64 n, .int .i64 u]
end Go.Sym

namespace Go.Sym
open Go.Proofs
set_option linter.unusedVariables false
theorem dt' {p : Prop} [Decidable p] (h : decide p = true) : p := of_decide_eq_true h
theorem df' {p : Prop} [Decidable p] (h : decide p = false) : ¬ p := of_decide_eq_false h
def gG9 (xs : List AV) (bs : List ABlk) : TL := match xs, bs with
  | [.agg [.int .i64 e, .int .i64 n, .int .i64 u]], [] => .ok ⟨[gR e n u], .bool true, [], []⟩
  | _, _ => .no
def spG9 : Spec := ⟨[.a [.kp, .kp, .kp]], fun _ _ => [], fun _ _ => [], gG9⟩
set_option maxRecDepth 100000 in
theorem vg9 (e n u : Int) (q : Bool) : bodyP Try.prog G1 gl0 [] [] 3000 Try.f9 0 [gA e n u] [] (retQ Try.prog Try.f9 0 ⟨[], .bool q, [], []⟩) = (
@Bool.rec (fun _ => Prop) (q = false ∧ True) (@Bool.rec (fun _ => Prop) (q = false ∧ True) (@Bool.rec (fun _ => Prop) (q = false ∧ True) (@Bool.rec (fun _ => Prop) (q = false ∧ True) (@Bool.rec (fun _ => Prop) (q = false ∧ True) (q = decide (n ≤ u) ∧ True) (decide ((0 : Int) ≤ n))) (decide (u.tmod (8 : Int) = (0 : Int)))) (decide (u ≤ (64 : Int)))) (decide ((0 : Int) ≤ u))) (decide ((0 : Int) ≤ e)) : Prop) := by kernel_rfl
theorem bg9 {e n u : Int} (h : gR e n u) : Must (bodyP Try.prog G1 gl0 [] [] 3000 Try.f9 0 [gA e n u] [] (retQ Try.prog Try.f9 0 ⟨[], .bool true, [], []⟩)) := by
  constructor
  rw [vg9]
  have := h.n0
  have := h.nu
  rw [decide_eq_true h.e0, decide_eq_true (show 0 ≤ u by omega), decide_eq_true h.u6, decide_eq_true h.u8, decide_eq_true h.n0, decide_eq_true h.nu]
  exact ⟨rfl, trivial⟩
theorem cg9 : COK Try.prog gl0 9 (mkF spG9) := by
  refine ctrE (fn := Try.f9) [] 3000 (by kernel_rfl) (by kernel_rfl) okG1 (by kernel_rfl) (fun args w => by kernel_rfl) fun xs bs r hs ho => ?_
  replace hs : (gG9 xs bs).sel = some r := hs
  unfold gG9 at hs
  split at hs
  · simp only [TL.sel, Option.some.injEq] at hs
    subst hs
    exact ⟨[], bg9 (obsT_one.1 ho)⟩
  · simp [TL.sel] at hs
/-- No call asks for more than this: nothing at all is known of opens but its answer. -/
def gG10 (xs : List AV) (bs : List ABlk) : TL := match xs, bs with
  | [], [] => .ok ⟨[], .bool true, [], []⟩
  | _, _ => .no
def spG10 : Spec := ⟨[], fun _ _ => [], fun _ _ => [], gG10⟩
set_option maxRecDepth 100000 in
theorem vg10 : bodyP Try.prog G8 gl0 [] [] 3000 Try.f10 0 [] [] (retQ Try.prog Try.f10 0 ⟨[], .bool true, [], []⟩) = (true = true ∧ True) := by kernel_rfl
theorem bg10 : Must (bodyP Try.prog G8 gl0 [] [] 3000 Try.f10 0 [] [] (retQ Try.prog Try.f10 0 ⟨[], .bool true, [], []⟩)) := ⟨by rw [vg10]; exact ⟨rfl, trivial⟩⟩
theorem cg10 : COK Try.prog gl0 10 (mkF spG10) := by
  refine ctrE (fn := Try.f10) [] 3000 (by kernel_rfl) (by kernel_rfl) okG8 (by kernel_rfl) (fun args w => by kernel_rfl) fun xs bs r hs ho => ?_
  replace hs : (gG10 xs bs).sel = some r := hs
  unfold gG10 at hs
  split at hs
  · simp only [TL.sel, Option.some.injEq] at hs
    subst hs
    exact ⟨[], bg10⟩
  · simp [TL.sel] at hs
noncomputable def K1 : Ctx := G1.add 9 (mkF spG9)
theorem okK1 : COKs Try.prog gl0 K1 := okG1.add cg9
noncomputable def K2 : Ctx := K1.exe Try.prog gl0 [] 400 Try.f4.params.size 4 Try.f4
theorem okK2 : COKs Try.prog gl0 K2 := okK1.exe [] 400 _ (by kernel_rfl) (by kernel_rfl) (by kernel_rfl) (fun args w => by kernel_rfl)
noncomputable def K3 : Ctx := K2.exe Try.prog gl0 [] 400 Try.f11.params.size 11 Try.f11
theorem okK3 : COKs Try.prog gl0 K3 := okK2.exe [] 400 _ (by kernel_rfl) (by kernel_rfl) (by kernel_rfl) (fun args w => by kernel_rfl)
end Go.Sym

namespace Go.Sym
open Go.Proofs
set_option linter.unusedVariables false
set_option maxRecDepth 100000 in
theorem vg5 (e n u e' n' u' : Int) : bodyP Try.prog K3 gl0 [] [] 3000 Try.f5 0 [gA e n u] [] (retQ Try.prog Try.f5 0 ⟨[], gA e' n' u', [], []⟩) = (
gR e n u ∧ e' = Max.max (IntKind.i64.wrap (e + (1 : Int))) (0 : Int) ∧ n' = (0 : Int) ∧ u' = (0 : Int) ∧ True : Prop) := by kernel_rfl
set_option maxRecDepth 100000 in
theorem vg6 (e n u k q : Int) : bodyP Try.prog K3 gl0 [] [] 3000 Try.f6 0 [gA e n u, .int .i64 k] [] (retQ Try.prog Try.f6 0 ⟨[], .int .i64 q, [], []⟩) = (
gR e n u ∧ gR e n u ∧ q = Max.max u (IntKind.i64.wrap (IntKind.i64.wrap ((IntKind.i64.wrap (IntKind.i64.wrap (IntKind.i64.wrap (n + Min.min (Max.max k (0 : Int)) (IntKind.i64.wrap ((64 : Int) - n))) + (8 : Int)) - (1 : Int))).tdiv (8 : Int)) * (8 : Int))) ∧ True : Prop) := by kernel_rfl
set_option maxRecDepth 100000 in
theorem vg7 (e n u k e' n' u' q : Int) : bodyP Try.prog K3 gl0 [] [] 3000 Try.f7 0 [gA e n u, .int .i64 k] [] (retQ Try.prog Try.f7 0 ⟨[], .tup [gA e' n' u', .int .i64 q], [], []⟩) = (
let x1 := e' = (0 : Int) ∧ n' = (0 : Int) ∧ u' = (0 : Int) ∧ q = (1 : Int) ∧ True; gR e n u ∧ @Bool.rec (fun _ => Prop) x1 (@Bool.rec (fun _ => Prop) x1 (@Bool.rec (fun _ => Prop) x1 (@Bool.rec (fun _ => Prop) (e' = e ∧ n' = n ∧ u' = k ∧ q = (0 : Int) ∧ True) x1 (decide (k < u))) !!decide (k.tmod (8 : Int) = (0 : Int))) (decide (k ≤ (64 : Int)))) (decide ((0 : Int) ≤ k)) : Prop) := by kernel_rfl
set_option maxRecDepth 100000 in
theorem vg8 (e n u e' n' u' k q : Int) : bodyP Try.prog K3 gl0 [] [] 3000 Try.f8 0 [gA e n u] [] (retQ Try.prog Try.f8 0 ⟨[], .tup [gA e' n' u', .int .i64 k, .int .i64 q], [], []⟩) = (
gR e n u ∧ @Bool.rec (fun _ => Prop) (@Bool.rec (fun _ => Prop) (e' = e ∧ n' = IntKind.i64.wrap (n + (1 : Int)) ∧ u' = u ∧ k = n ∧ q = (0 : Int) ∧ True) (e' = (0 : Int) ∧ n' = (0 : Int) ∧ u' = (0 : Int) ∧ k = (0 : Int) ∧ q = (7 : Int) ∧ True) (decide (n = u))) (e' = (0 : Int) ∧ n' = (0 : Int) ∧ u' = (0 : Int) ∧ k = (0 : Int) ∧ q = (8 : Int) ∧ True) (decide (n = (64 : Int))) : Prop) := by kernel_rfl
def gW (n u k : Int) : Int := max u ((n + min k (64 - n) + 7) / 8 * 8)
theorem gR.m {e n u : Int} (h : gR e n u) : u % 8 = 0 := by
  have := h.u8
  have h0 := h.n0
  have h1 := h.nu
  rwa [Int.tmod_eq_emod_of_nonneg (by omega)] at this
theorem gR.of {e n u : Int} (h0 : 0 ≤ e) (h1 : 0 ≤ n) (h2 : n ≤ u) (h3 : u ≤ 64) (h4 : u % 8 = 0) : gR e n u := ⟨h0, h1, h2, h3, by rwa [Int.tmod_eq_emod_of_nonneg (by omega)]⟩
theorem gW_ok {e n u k : Int} (h : gR e n u) (hk : 0 ≤ k) : u ≤ gW n u k ∧ gW n u k ≤ 64 ∧ gW n u k % 8 = 0 := by
  have := h.n0
  have := h.nu
  have := h.u6
  have := h.m
  unfold gW
  omega
theorem bg5 {e n u : Int} (h : gR e n u) (he : e < 1000000) : Must (bodyP Try.prog K3 gl0 [] [] 3000 Try.f5 0 [gA e n u] [] (retQ Try.prog Try.f5 0 ⟨[], gA (e + 1) 0 0, [], []⟩)) := by
  constructor
  rw [vg5]
  have := h.e0
  rw [wrap_i64 (by omega) (by omega)]
  exact ⟨h, by omega, rfl, rfl, trivial⟩
theorem bg6 {e n u k : Int} (h : gR e n u) (hk : 0 ≤ k ∧ k ≤ 64) : Must (bodyP Try.prog K3 gl0 [] [] 3000 Try.f6 0 [gA e n u, .int .i64 k] [] (retQ Try.prog Try.f6 0 ⟨[], .int .i64 (gW n u k), [], []⟩)) := by
  constructor
  rw [vg6]
  have := h.n0
  have := h.nu
  have := h.u6
  refine ⟨h, h, ?_, trivial⟩
  have e1 : IntKind.i64.wrap (64 - n) = 64 - n := wrap_i64 (by omega) (by omega)
  rw [e1]
  have e2 : IntKind.i64.wrap (n + min (max k 0) (64 - n)) = n + min k (64 - n) := by
    rw [wrap_i64 (by omega) (by omega)]; omega
  rw [e2]
  have e3 : IntKind.i64.wrap (IntKind.i64.wrap (n + min k (64 - n) + 8) - 1) = n + min k (64 - n) + 7 := by
    rw [wrap_i64 (x := n + min k (64 - n) + 8) (by omega) (by omega), wrap_i64 (by omega) (by omega)]; omega
  rw [e3, Int.tdiv_eq_ediv_of_nonneg (by omega)]
  rw [wrap_i64 (x := (n + min k (64 - n) + 7) / 8) (by omega) (by omega), wrap_i64 (by omega) (by omega)]
  rfl
theorem bg7 {e n u k : Int} (h : gR e n u) (hk : u ≤ k) (h4 : k ≤ 64) (h8 : k % 8 = 0) : Must (bodyP Try.prog K3 gl0 [] [] 3000 Try.f7 0 [gA e n u, .int .i64 k] [] (retQ Try.prog Try.f7 0 ⟨[], .tup [gA e n k, .int .i64 0], [], []⟩)) := by
  constructor
  rw [vg7]
  have := h.n0
  have := h.nu
  intro x1
  clear_value x1
  rw [Int.tmod_eq_emod_of_nonneg (by omega), decide_eq_true (show 0 ≤ k by omega), decide_eq_true h4, decide_eq_true h8, decide_eq_false (show ¬ k < u by omega)]
  exact ⟨h, rfl, rfl, rfl, rfl, trivial⟩
def gU (e n u : Int) : TL := .br (decide (n = 64)) (.ok ⟨[gR e n u], .tup [gA 0 0 0, .int .i64 0, .int .i64 8], [], []⟩) (.br (decide (n = u)) (.ok ⟨[gR e n u], .tup [gA 0 0 0, .int .i64 0, .int .i64 7], [], []⟩) (.ok ⟨[gR e n u], .tup [gA e (n + 1) u, .int .i64 n, .int .i64 0], [], []⟩))
theorem bg8 {e n u : Int} {r : RL} (hr : (gU e n u).sel = some r) (h : obsT r.ob) : Must (bodyP Try.prog K3 gl0 [] [] 3000 Try.f8 0 [gA e n u] [] (retQ Try.prog Try.f8 0 r)) := by
  constructor
  unfold gU at hr
  cases c1 : decide (n = 64) with
  | true =>
    rw [c1] at hr
    simp only [TL.sel, Option.some.injEq] at hr
    subst hr
    show bodyP Try.prog K3 gl0 [] [] 3000 Try.f8 0 [gA e n u] [] (retQ Try.prog Try.f8 0 ⟨[], .tup [gA 0 0 0, .int .i64 0, .int .i64 8], [], []⟩)
    rw [vg8, c1]
    exact ⟨obsT_one.1 h, rfl, rfl, rfl, rfl, rfl, trivial⟩
  | false =>
    rw [c1] at hr
    cases c2 : decide (n = u) with
    | true =>
      rw [c2] at hr
      simp only [TL.sel, Option.some.injEq] at hr
      subst hr
      show bodyP Try.prog K3 gl0 [] [] 3000 Try.f8 0 [gA e n u] [] (retQ Try.prog Try.f8 0 ⟨[], .tup [gA 0 0 0, .int .i64 0, .int .i64 7], [], []⟩)
      rw [vg8, c1, c2]
      exact ⟨obsT_one.1 h, rfl, rfl, rfl, rfl, rfl, trivial⟩
    | false =>
      rw [c2] at hr
      simp only [TL.sel, Option.some.injEq] at hr
      subst hr
      show bodyP Try.prog K3 gl0 [] [] 3000 Try.f8 0 [gA e n u] [] (retQ Try.prog Try.f8 0 ⟨[], .tup [gA e (n + 1) u, .int .i64 n, .int .i64 0], [], []⟩)
      rw [vg8, c1, c2]
      have h := obsT_one.1 h
      have := h.n0
      have := h.nu
      have := h.u6
      rw [wrap_i64 (by omega) (by omega)]
      exact ⟨h, rfl, rfl, rfl, rfl, rfl, trivial⟩
def gG5 (xs : List AV) (bs : List ABlk) : TL := match xs, bs with
  | [.agg [.int .i64 e, .int .i64 n, .int .i64 u]], [] => .ok ⟨[gR e n u, e < 1000000], gA (e + 1) 0 0, [], []⟩
  | _, _ => .no
def spG5 : Spec := ⟨[.a [.kp, .kp, .kp]], fun _ _ => [], fun _ _ => [], gG5⟩
theorem cg5 : COK Try.prog gl0 5 (mkF spG5) := by
  refine ctrE (fn := Try.f5) [] 3000 (by kernel_rfl) (by kernel_rfl) okK3 (by kernel_rfl) (fun args w => by kernel_rfl) fun xs bs r hs ho => ?_
  replace hs : (gG5 xs bs).sel = some r := hs
  unfold gG5 at hs
  split at hs
  · simp only [TL.sel, Option.some.injEq] at hs
    subst hs
    obtain ⟨h1, h2⟩ := obsT_cons.1 ho
    exact ⟨[], bg5 h1 (obsT_one.1 h2)⟩
  · simp [TL.sel] at hs
def gG6 (xs : List AV) (bs : List ABlk) : TL := match xs, bs with
  | [.agg [.int .i64 e, .int .i64 n, .int .i64 u], .int .i64 k], [] => .ok ⟨[gR e n u, 0 ≤ k ∧ k ≤ 64], .int .i64 (gW n u k), [], []⟩
  | _, _ => .no
def spG6 : Spec := ⟨[.a [.kp, .kp, .kp], .kp], fun _ _ => [], fun _ _ => [], gG6⟩
theorem cg6 : COK Try.prog gl0 6 (mkF spG6) := by
  refine ctrE (fn := Try.f6) [] 3000 (by kernel_rfl) (by kernel_rfl) okK3 (by kernel_rfl) (fun args w => by kernel_rfl) fun xs bs r hs ho => ?_
  replace hs : (gG6 xs bs).sel = some r := hs
  unfold gG6 at hs
  split at hs
  · simp only [TL.sel, Option.some.injEq] at hs
    subst hs
    obtain ⟨h1, h2⟩ := obsT_cons.1 ho
    exact ⟨[], bg6 h1 (obsT_one.1 h2)⟩
  · simp [TL.sel] at hs
def gG7 (xs : List AV) (bs : List ABlk) : TL := match xs, bs with
  | [.agg [.int .i64 e, .int .i64 n, .int .i64 u], .int .i64 k], [] => .ok ⟨[gR e n u, u ≤ k, k ≤ 64, k % 8 = 0], .tup [gA e n k, .int .i64 0], [], []⟩
  | _, _ => .no
def spG7 : Spec := ⟨[.a [.kp, .kp, .kp], .kp], fun _ _ => [], fun _ _ => [], gG7⟩
theorem cg7 : COK Try.prog gl0 7 (mkF spG7) := by
  refine ctrE (fn := Try.f7) [] 3000 (by kernel_rfl) (by kernel_rfl) okK3 (by kernel_rfl) (fun args w => by kernel_rfl) fun xs bs r hs ho => ?_
  replace hs : (gG7 xs bs).sel = some r := hs
  unfold gG7 at hs
  split at hs
  · simp only [TL.sel, Option.some.injEq] at hs
    subst hs
    obtain ⟨h1, h2⟩ := obsT_cons.1 ho
    obtain ⟨h3, h4⟩ := obsT_cons.1 h2
    obtain ⟨h5, h6⟩ := obsT_cons.1 h4
    exact ⟨[], bg7 h1 h3 h5 (obsT_one.1 h6)⟩
  · simp [TL.sel] at hs
def gG8 (xs : List AV) (bs : List ABlk) : TL := match xs, bs with
  | [.agg [.int .i64 e, .int .i64 n, .int .i64 u]], [] => gU e n u
  | _, _ => .no
def spG8 : Spec := ⟨[.a [.kp, .kp, .kp]], fun _ _ => [], fun _ _ => [], gG8⟩
theorem cg8 : COK Try.prog gl0 8 (mkF spG8) := by
  refine ctrE (fn := Try.f8) [] 3000 (by kernel_rfl) (by kernel_rfl) okK3 (by kernel_rfl) (fun args w => by kernel_rfl) fun xs bs r hs ho => ?_
  replace hs : (gG8 xs bs).sel = some r := hs
  unfold gG8 at hs
  split at hs
  · exact ⟨[], bg8 hs ho⟩
  · simp [TL.sel] at hs
noncomputable def K4 : Ctx := ((((K2.add 5 (mkF spG5)).add 6 (mkF spG6)).add 7 (mkF spG7)).add 8 (mkF spG8)).add 10 (mkF spG10)
theorem okK4 : COKs Try.prog gl0 K4 := ((((okK2.add cg5).add cg6).add cg7).add cg8).add cg10
/-- How far a row of acts is: how many; the gate; which numbers were told. -/
structure GS where
  i : Nat
  e : Int
  n : Int
  u : Int
  P : List Int → Bool
structure gI (m : Nat) (x : GS) : Prop where
  i3 : x.i ≤ 300
  im : x.i ≤ m
  ei : x.e ≤ x.i
  R : gR x.e x.n x.u
  P : ∀ a b, x.P [a, b] = true → a < x.e ∨ (a = x.e ∧ b < x.n)
def lsG (m : Nat) (A : Nat → Int) : LS := ⟨GS, fun x => [(0, .ros true 1 m (fun j => [.int .i64 (A j)]) .unk), (6, .int .i64 x.i), (5, .int .i64 x.u), (3, .ptr 100 0 0 0), (4, .mp 101)],
  fun x => [(100, ⟨.cells [.int .i64 x.e, .int .i64 x.n, .int .i64 x.u], true, 0⟩), (101, ⟨.mp 2 x.P (fun _ => .bool true), true, 0⟩)], 1000, fun x => 300 - x.i, fun x => gI m x, fun _ => []⟩
end Go.Sym
