/- A disk: the calls of the program. -/
import Derived.Test.YtmpgpbbaloiniaaSymC
import Derived.OpenShut
import Derived.Test.YtmpgpbbaloiniaaProg
import Derived.KernelRfl
/- What is handed in from outside: plain data of any shape. -/
namespace Go.Sym
set_option linter.unusedVariables false
set_option linter.unusedSimpArgs false
open Go.ChangeShapes Go.WideShapes
inductive Sh where
  | i (k : IntKind)
  | b
  | s
  | y
def Sh.ok : Sh → AV → Prop
  | .i .u8, a => ∃ x, a = .u8 x
  | .i .u16, a => ∃ x, a = .u16 x
  | .i .u32, a => ∃ x, a = .u32 x
  | .i .u64, a => ∃ x, a = .u64 x
  | .i k, a => ∃ n, a = .int k n ∧ (Lit.int k n).wf = true
  | .b, a => ∃ c, a = .bool c
  | .s, a => ∃ l, a = .str l ∧ l.length ≤ maxLen
  | .y, a => ∃ l c, a = .rb true l (.is c) ∧ (c = true → l = []) ∧ l.length ≤ maxLen
def shAll : List Sh → List AV → Prop
  | [], [] => True
  | k :: ss, a :: az => k.ok a ∧ shAll ss az
  | _, _ => False
theorem shAll_append : ∀ {l m : List Sh} {az bs : List AV}, shAll l az → shAll m bs → shAll (l ++ m) (az ++ bs)
  | [], _, [], _, _, k => k
  | _ :: _, _, _ :: _, _, h, k => ⟨h.1, shAll_append h.2 k⟩
  | [], _, _ :: _, _, h, _ => h.elim
  | _ :: _, _, [], _, h, _ => h.elim
theorem datas_append {p : Bool} : ∀ {az bs : List AV}, datas p az = true → datas p bs = true → datas p (az ++ bs) = true
  | [], _, _, k => k
  | a :: az, _, h, k => by
    simp only [datas, Bool.and_eq_true, List.cons_append] at h ⊢
    exact ⟨h.1, datas_append h.2 k⟩
def flatFs (P : Program) (g : TypeId → Option (List Sh)) : List Field → Nat → Option (List Sh)
  | [], _ => some []
  | f :: fs, o => if f.offset = o then (g f.type).bind fun l => if P.cellsOf f.type = l.length then (flatFs P g fs (o + l.length)).map (l ++ ·) else none else none
def flat (P : Program) : Nat → TypeId → Option (List Sh)
  | 0, _ => none
  | f + 1, t => match P.underlying t with
    | some (.int k) => some [.i k]
    | some .bool => some [.b]
    | some .string => some [.s]
    | some (.slice e) => (match P.underlying e with | some (.int .u8) => if P.cellsOf e = 1 then some [.y] else none | _ => none)
    | some (.array n e) => (flat P f e).bind fun l => if P.cellsOf e = l.length ∧ P.cellsOf t = n * l.length then some (List.replicate n l).flatten else none
    | some (.struct fs) => (flatFs P (flat P f) fs.toList 0).bind fun l => if P.cellsOf t = l.length then some l else none
    | _ => none

section
variable {H : Type} {enc : TypeId × Value → H} {P : Program} {W : World} {base : Nat} {spare : Nat → Bool} {held : Bool}
def Read (W : World) (l : List Sh) (cs : List Value) : Prop := ∃ avs, shAll l avs ∧ datas true avs = true ∧ VRels (κW W) avs cs
theorem Read.append {l m : List Sh} {cs ds : List Value} (h : Read W l cs) (k : Read W m ds) : Read W (l ++ m) (cs ++ ds) := by
  obtain ⟨a, h1, h2, h3⟩ := h
  obtain ⟨b, k1, k2, k3⟩ := k
  exact ⟨a ++ b, shAll_append h1 k1, datas_append h2 k2, VRels.append h3 k3⟩
theorem read_arr {l : List Sh} {m : Nat} : ∀ (n : Nat) (cs : List Value), cs.length = n * m → (∀ i, i < n → Read W l ((cs.drop (i * m)).take m)) → Read W (List.replicate n l).flatten cs
  | 0, cs, hl, _ => by
    have : cs = [] := List.eq_nil_of_length_eq_zero (by simpa using hl)
    subst this
    exact ⟨[], trivial, rfl, rfl⟩
  | n + 1, cs, hl, h => by
    have h0 := h 0 (by omega)
    simp only [Nat.zero_mul, List.drop_zero] at h0
    have hr := read_arr (m := m) n (cs.drop m) (by rw [List.length_drop, hl, Nat.succ_mul]; omega) (fun i hi => by
      have := h (i + 1) (by omega)
      rw [List.drop_drop]
      rw [Nat.add_mul, Nat.one_mul, Nat.add_comm] at this
      exact this)
    have := h0.append hr
    rw [List.take_append_drop] at this
    simpa [List.replicate_succ] using this
theorem read_fs {g : TypeId → Option (List Sh)} {cs : List Value} : ∀ (fs : List Field) (o : Nat) (l : List Sh), flatFs P g fs o = some l → cs.length = o + l.length →
    (∀ f l', f ∈ fs → g f.type = some l' → Read W l' ((cs.drop f.offset).take (P.cellsOf f.type))) → Read W l (cs.drop o)
  | [], o, l, h, hl, _ => by
    simp only [flatFs, Option.some.injEq] at h
    subst h
    have : cs.drop o = [] := List.drop_eq_nil_of_le (by simp at hl; omega)
    rw [this]
    exact ⟨[], trivial, rfl, rfl⟩
  | f :: fs, o, l, h, hl, hr => by
    simp only [flatFs] at h
    split at h
    · rename_i ho
      simp only [Option.bind_eq_some_iff] at h
      obtain ⟨l1, h1, h2⟩ := h
      split at h2
      · rename_i hc
        simp only [Option.map_eq_some_iff] at h2
        obtain ⟨l2, h3, rfl⟩ := h2
        have k1 := hr f l1 (by simp) h1
        rw [ho, hc] at k1
        have k2 := read_fs fs (o + l1.length) l2 h3 (by simp at hl; omega) (fun f' l' hf hg => hr f' l' (by simp [hf]) hg)
        have := k1.append k2
        rw [← List.drop_drop, List.take_append_drop] at this
        exact this
      · cases h2
    · cases h
theorem rd_flat : ∀ (f : Nat) (t : TypeId) (l : List Sh) (fuel : Nat) (cs : List Value) (x : DataW H × List MemPlace), flat P f t = some l → DataW.trod enc P W base spare held fuel t cs = some x → Read W l cs
  | 0, _, _, _, _, _, h, _ => by cases h
  | f + 1, t, l, fuel, cs, x, h, hd => by
    unfold flat at h
    split at h
    · rename_i k ht
      simp only [Option.some.injEq] at h
      subst h
      obtain ⟨n, rfl, _, hw⟩ := DataW.trod_int ht hd
      have hn : absC0 (.int k n) = absC0 (.int k n) := rfl
      cases k
      case u8 =>
        simp [Lit.wf, IntKind.min, IntKind.max, IntKind.signed, IntKind.bits] at hw
        exact ⟨[.u8 (BitVec.ofNat 8 n.toNat)], ⟨⟨_, rfl⟩, trivial⟩, rfl, _, [], rfl, by simp only [VRel, BitVec.toNat_ofNat]; congr 1; omega, rfl⟩
      case u16 =>
        simp [Lit.wf, IntKind.min, IntKind.max, IntKind.signed, IntKind.bits] at hw
        exact ⟨[.u16 (BitVec.ofNat 16 n.toNat)], ⟨⟨_, rfl⟩, trivial⟩, rfl, _, [], rfl, by simp only [VRel, BitVec.toNat_ofNat]; congr 1; omega, rfl⟩
      case u32 =>
        simp [Lit.wf, IntKind.min, IntKind.max, IntKind.signed, IntKind.bits] at hw
        exact ⟨[.u32 (BitVec.ofNat 32 n.toNat)], ⟨⟨_, rfl⟩, trivial⟩, rfl, _, [], rfl, by simp only [VRel, BitVec.toNat_ofNat]; congr 1; omega, rfl⟩
      case u64 =>
        simp [Lit.wf, IntKind.min, IntKind.max, IntKind.signed, IntKind.bits] at hw
        exact ⟨[.u64 (BitVec.ofNat 64 n.toNat)], ⟨⟨_, rfl⟩, trivial⟩, rfl, _, [], rfl, by simp only [VRel, BitVec.toNat_ofNat]; congr 1; omega, rfl⟩
      all_goals exact ⟨[.int _ n], ⟨⟨_, rfl, hw⟩, trivial⟩, rfl, _, [], rfl, rfl, rfl⟩
    · rename_i ht
      simp only [Option.some.injEq] at h
      subst h
      obtain ⟨b, rfl, _⟩ := DataW.trod_bool ht hd
      exact ⟨[.bool b], ⟨⟨_, rfl⟩, trivial⟩, rfl, _, [], rfl, rfl, rfl⟩
    · rename_i ht
      simp only [Option.some.injEq] at h
      subst h
      obtain ⟨s, rfl, _, hs⟩ := DataW.trod_string ht hd
      have hb := bytesStr_strBytes s
      refine ⟨[.str (strBytes s)], ⟨⟨_, rfl, ?_⟩, trivial⟩, rfl, _, [], rfl, by simp only [VRel, hb], rfl⟩
      rw [← bytesStr_size, hb]
      exact hs
    · rename_i e ht
      split at h
      · rename_i he
        split at h
        · rename_i hc
          simp only [Option.some.injEq] at h
          subst h
          obtain ⟨v, l, c, rfl, h1, h2, h3⟩ := rd_bytes ht he hc hd
          exact ⟨[.rb true l (.is c)], ⟨⟨l, c, rfl, h1, h2⟩, trivial⟩, rfl, _, [], rfl, h3, rfl⟩
        · cases h
      · cases h
    · rename_i n e ht
      simp only [Option.bind_eq_some_iff] at h
      obtain ⟨l1, h1, h2⟩ := h
      split at h2
      · rename_i hc
        simp only [Option.some.injEq] at h2
        subst h2
        obtain ⟨xs, m, _, _, hl, hn, hel⟩ := DataW.trod_array ht hd
        refine read_arr (m := l1.length) n cs (by rw [hl, hc.2]) fun i hi => ?_
        have := hel i hi
        rw [List.getElem?_eq_getElem (by omega), hc.1] at this
        exact rd_flat f e l1 _ _ _ h1 this
      · cases h2
    · rename_i fs ht
      simp only [Option.bind_eq_some_iff] at h
      obtain ⟨l1, h1, h2⟩ := h
      split at h2
      · rename_i hc
        simp only [Option.some.injEq] at h2
        subst h2
        obtain ⟨xs, m, _, _, hl, hn, hel⟩ := DataW.trod_struct ht hd
        have := read_fs (W := W) (cs := cs) fs.toList 0 l1 h1 (by rw [hl, hc]; omega) fun f0 l' hf hg => by
          obtain ⟨i, hi⟩ := List.getElem?_of_mem hf
          have hlt := (List.getElem?_eq_some_iff.1 hi).1
          have := hel i f0 (by simpa using hi)
          rw [List.getElem?_eq_getElem (by simp at hlt; omega)] at this
          exact rd_flat f f0.type l' _ _ _ hg this
        simpa using this
      · cases h2
    · cases h
theorem agg_of_cells {v : Value} {avs : List AV} (h : VRels (κW W) avs v.cells.toList) (hl : 2 ≤ avs.length) : VRel (κW W) (.agg avs) v := by
  have hn := h.length
  cases v
  case agg cs => exact ⟨cs, rfl, h⟩
  all_goals (exfalso; simp [Value.cells] at hn; omega)
/-- Bytes of an array. -/
theorem sh_u8 : ∀ {n : Nat} {avs : List AV}, shAll (List.replicate n (.i .u8)) avs → ∃ l : List (BitVec 8), l.length = n ∧ avs = l.map .u8
  | 0, [], _ => ⟨[], rfl, rfl⟩
  | 0, _ :: _, h => h.elim
  | n + 1, [], h => h.elim
  | n + 1, a :: az, h => by
    obtain ⟨⟨x, rfl⟩, h2⟩ := h
    obtain ⟨l, h3, rfl⟩ := sh_u8 h2
    exact ⟨x :: l, by simp [h3], rfl⟩
end
theorem sh_cons {k : Sh} {ks : List Sh} {avs : List AV} (h : shAll (k :: ks) avs) : ∃ a az, avs = a :: az ∧ k.ok a ∧ shAll ks az := by
  cases avs with
  | nil => exact h.elim
  | cons a az => exact ⟨a, az, rfl, h.1, h.2⟩
theorem sh_nil {avs : List AV} (h : shAll [] avs) : avs = [] := by
  cases avs with
  | nil => rfl
  | cons a az => exact h.elim
theorem sh_i64 {a : AV} (h : (Sh.i .i64).ok a) : ∃ n, a = .int .i64 n := by
  obtain ⟨n, h, _⟩ := h
  exact ⟨n, h⟩
theorem rel_u32 {κ : Ker} {n : Int} (h : (Lit.int .u32 n).wf = true) : VRel κ (.u32 (BitVec.ofInt 32 n)) (.int .u32 n) := by
  simp [Lit.wf, IntKind.has, IntKind.min, IntKind.max, IntKind.signed, IntKind.bits] at h
  simp only [VRel, BitVec.toNat_ofInt]
  congr 1
  omega
theorem rel_u64 {κ : Ker} {n : Int} (h : (Lit.int .u64 n).wf = true) : VRel κ (.u64 (BitVec.ofInt 64 n)) (.int .u64 n) := by
  simp [Lit.wf, IntKind.has, IntKind.min, IntKind.max, IntKind.signed, IntKind.bits] at h
  simp only [VRel, BitVec.toNat_ofInt]
  congr 1
  omega
theorem rel_u8 {κ : Ker} {n : Int} (h : (Lit.int .u8 n).wf = true) : VRel κ (.u8 (BitVec.ofInt 8 n)) (.int .u8 n) := by
  simp [Lit.wf, IntKind.has, IntKind.min, IntKind.max, IntKind.signed, IntKind.bits] at h
  simp only [VRel, BitVec.toNat_ofInt]
  congr 1
  omega
end Go.Sym

/- Rows of like terms, by a function. -/
namespace Go.Spec
def rgA {α : Type} (F : Nat → α) : Nat → Nat → List α → List α
  | _, 0, r => r
  | s, n + 1, r => F s :: rgA F (s + 1) n r
def rg {α : Type} (n : Nat) (F : Nat → α) : List α := rgA F 0 n []
def allP (p : Nat → Prop) : Nat → Nat → Prop → Prop
  | _, 0, r => r
  | s, n + 1, r => p s ∧ allP p (s + 1) n r
def andP (p : Nat → Bool) : Nat → Nat → Bool → Bool
  | _, 0, r => r
  | s, n + 1, r => p s && andP p (s + 1) n r
theorem allP_of {p : Nat → Prop} {r : Prop} : ∀ (n s : Nat), (∀ j, s ≤ j → j < s + n → p j) → r → allP p s n r
  | 0, _, _, hr => hr
  | n + 1, s, h, hr => ⟨h s (Nat.le_refl _) (by omega), allP_of n (s + 1) (fun j h1 h2 => h j (by omega) (by omega)) hr⟩
theorem allP_rfl {α : Type} {f : Nat → α} {s n : Nat} {r : Prop} (hr : r) : allP (fun i => f i = f i) s n r := allP_of n s (fun _ _ _ => rfl) hr
theorem allP_tt {s n : Nat} {r : Prop} : allP (fun _ => True) s n r = r := by
  induction n generalizing s with
  | zero => rfl
  | succ n ih => simp only [allP, ih, true_and]
theorem andP_of {p : Nat → Bool} {r : Bool} : ∀ (n s : Nat), (∀ j, s ≤ j → j < s + n → p j = true) → r = true → andP p s n r = true
  | 0, _, _, hr => hr
  | n + 1, s, h, hr => by
    simp only [andP, h s (Nat.le_refl _) (by omega), Bool.true_and]
    exact andP_of n (s + 1) (fun j h1 h2 => h j (by omega) (by omega)) hr
theorem andP_tt {s n : Nat} {r : Bool} : andP (fun _ => true) s n r = r := by
  induction n generalizing s with
  | zero => rfl
  | succ n ih => simp only [andP, ih, Bool.true_and]
theorem andP_iff {p : Nat → Bool} {r : Bool} : ∀ (n s : Nat), andP p s n r = true ↔ (∀ j, s ≤ j → j < s + n → p j = true) ∧ r = true
  | 0, s => by simp only [andP]; exact ⟨fun h => ⟨fun j h1 h2 => by omega, h⟩, fun h => h.2⟩
  | n + 1, s => by
    simp only [andP, Bool.and_eq_true, andP_iff n (s + 1)]
    constructor
    · rintro ⟨h1, h2, h3⟩
      refine ⟨fun j hj hk => ?_, h3⟩
      rcases Nat.eq_or_lt_of_le hj with e | e
      · exact e ▸ h1
      · exact h2 j e (by omega)
    · rintro ⟨h1, h2⟩
      exact ⟨h1 s (Nat.le_refl _) (by omega), fun j hj hk => h1 j (by omega) (by omega), h2⟩
theorem rgA_eq {α : Type} (F : Nat → α) : ∀ (n s : Nat) (r : List α), rgA F s n r = ((List.range n).map fun i => F (s + i)) ++ r
  | 0, _, _ => rfl
  | n + 1, s, r => by
    rw [rgA, rgA_eq F n (s + 1) r, List.range_succ_eq_map, List.map_cons, List.map_map, List.cons_append]
    congr 2
    apply List.map_congr_left
    intro i _
    simp only [Function.comp_apply]
    congr 1
    omega
theorem rg_eq {α : Type} (n : Nat) (F : Nat → α) : rg n F = (List.range n).map F := by
  unfold rg
  rw [rgA_eq, List.append_nil]
  simp
theorem rg_length {α : Type} (n : Nat) (F : Nat → α) : (rg n F).length = n := by rw [rg_eq]; simp
theorem rg_getD {α : Type} (n : Nat) (F : Nat → α) (i : Nat) (d : α) (h : i < n) : (rg n F).getD i d = F i := by
  rw [rg_eq]
  simp [List.getD, h]
theorem rg_congr {α : Type} {n : Nat} {F G : Nat → α} (h : ∀ i, i < n → F i = G i) : rg n F = rg n G := by
  rw [rg_eq, rg_eq]
  apply List.map_congr_left
  intro i hi
  exact h i (by simpa using hi)
theorem rg_self {α : Type} {n : Nat} {l : List α} (d : α) (h : l.length = n) : rg n (fun i => l.getD i d) = l := by
  rw [rg_eq]
  apply List.ext_getElem
  · simp [h]
  · intro i h1 h2
    simp [List.getD, h2]
end Go.Spec

/- SHA-256, as sums of lists of bytes. -/
namespace Go.Spec
set_option linter.unusedVariables false
abbrev W32 := BitVec 32
abbrev By := List (BitVec 8)
def rl (x : W32) (k : Nat) : W32 := x <<< k ||| x >>> (32 - k)
def bigS1 (e : W32) : W32 := rl e 26 ^^^ rl e 21 ^^^ rl e 7
def bigS0 (a : W32) : W32 := rl a 30 ^^^ rl a 19 ^^^ rl a 10
def smS0 (x : W32) : W32 := rl x 25 ^^^ rl x 14 ^^^ x >>> 3
def smS1 (x : W32) : W32 := rl x 15 ^^^ rl x 13 ^^^ x >>> 10
def shaK : List W32 := [
  0x428a2f98#32, 0x71374491#32, 0xb5c0fbcf#32, 0xe9b5dba5#32, 0x3956c25b#32, 0x59f111f1#32, 0x923f82a4#32, 0xab1c5ed5#32,
  0xd807aa98#32, 0x12835b01#32, 0x243185be#32, 0x550c7dc3#32, 0x72be5d74#32, 0x80deb1fe#32, 0x9bdc06a7#32, 0xc19bf174#32,
  0xe49b69c1#32, 0xefbe4786#32, 0x0fc19dc6#32, 0x240ca1cc#32, 0x2de92c6f#32, 0x4a7484aa#32, 0x5cb0a9dc#32, 0x76f988da#32,
  0x983e5152#32, 0xa831c66d#32, 0xb00327c8#32, 0xbf597fc7#32, 0xc6e00bf3#32, 0xd5a79147#32, 0x06ca6351#32, 0x14292967#32,
  0x27b70a85#32, 0x2e1b2138#32, 0x4d2c6dfc#32, 0x53380d13#32, 0x650a7354#32, 0x766a0abb#32, 0x81c2c92e#32, 0x92722c85#32,
  0xa2bfe8a1#32, 0xa81a664b#32, 0xc24b8b70#32, 0xc76c51a3#32, 0xd192e819#32, 0xd6990624#32, 0xf40e3585#32, 0x106aa070#32,
  0x19a4c116#32, 0x1e376c08#32, 0x2748774c#32, 0x34b0bcb5#32, 0x391c0cb3#32, 0x4ed8aa4a#32, 0x5b9cca4f#32, 0x682e6ff3#32,
  0x748f82ee#32, 0x78a5636f#32, 0x84c87814#32, 0x8cc70208#32, 0x90befffa#32, 0xa4506ceb#32, 0xbef9a3f7#32, 0xc67178f2#32]
def shaBegin : List W32 := [0x6a09e667#32, 0xbb67ae85#32, 0x3c6ef372#32, 0xa54ff53a#32, 0x510e527f#32, 0x9b05688c#32, 0x1f83d9ab#32, 0x5be0cd19#32]
/-- A block's first numbers. -/
def partW (l : By) (i : Nat) : Nat → W32
  | 0 => 0
  | j + 1 => partW l i j <<< 8 ||| (l.getD (4 * i + j) 0).setWidth 32
def word (l : By) (i : Nat) : W32 := partW l i 4
def schStep (L : List W32) (i : Nat) : W32 := smS1 (L.getD (i - 2) 0) + L.getD (i - 7) 0 + smS0 (L.getD (i - 15) 0) + L.getD (i - 16) 0
/-- The first so many numbers behind the sixteen. -/
def schL (l : By) : Nat → List W32
  | 0 => (List.range 16).map (word l)
  | k + 1 => schL l k ++ [schStep (schL l k) (16 + k)]
def sch (l : By) (i : Nat) : W32 := (schL l 48).getD i 0
/-- A round. -/
def rnd (k w : W32) (v : Nat → W32) : Nat → W32 :=
  fun i =>
    match i with
    | 0 => (v 7 + bigS1 (v 4) + ((v 4 &&& v 5) ^^^ (~~~(v 4) &&& v 6)) + k + w) + (bigS0 (v 0) + ((v 0 &&& v 1) ^^^ (v 0 &&& v 2) ^^^ (v 1 &&& v 2)))
    | 1 => v 0
    | 2 => v 1
    | 3 => v 2
    | 4 => v 3 + (v 7 + bigS1 (v 4) + ((v 4 &&& v 5) ^^^ (~~~(v 4) &&& v 6)) + k + w)
    | 5 => v 4
    | 6 => v 5
    | 7 => v 6
    | _ => 0
def rnds (W : Nat → W32) (v : Nat → W32) : Nat → Nat → W32
  | 0 => v
  | i + 1 => rnd (shaK.getD i 0) (W i) (rnds W v i)
def compress (v : Nat → W32) (l : By) : Nat → W32 := fun i => v i + rnds (sch l) v 64 i
/-- So many blocks. -/
def blocks (v : Nat → W32) (l : By) : Nat → Nat → W32
  | 0 => v
  | j + 1 => compress (blocks v l j) ((l.drop (64 * j)).take 64)
def outByte (v : Nat → W32) (j : Nat) : BitVec 8 := (v (j / 4) >>> (24 - 8 * (j % 4))).setWidth 8
def outBytes (v : Nat → W32) : By := (List.range 32).map (outByte v)
end Go.Spec
namespace Go.Sym
open Go.Spec
def aggL32 (L : List W32) : AV := .agg (L.map .u32)
def agg8 (v : Nat → W32) : AV := .agg ((List.range 8).map fun i => .u32 (v i))
def aggB (n : Nat) (f : Nat → BitVec 8) : AV := .agg ((List.range n).map fun i => .u8 (f i))
def agg64 (f : Nat → W32) : AV := .agg ((List.range 64).map fun i => .u32 (f i))

end Go.Sym
namespace Go.Spec
theorem schL_len (l : By) : ∀ k, (schL l k).length = 16 + k
  | 0 => by simp [schL]
  | k + 1 => by simp [schL, schL_len l k]; omega
theorem schL_get (l : By) : ∀ k m i, k ≤ m → i < 16 + k → (schL l m).getD i 0 = (schL l k).getD i 0 := by
  intro k m i hkm hi
  induction m with
  | zero => obtain rfl : k = 0 := by omega
            rfl
  | succ m ih =>
    rcases Nat.lt_or_ge m k with h | h
    · obtain rfl : k = m + 1 := by omega
      rfl
    · rw [← ih h]
      simp only [schL, List.getD]
      rw [List.getElem?_append_left (by rw [schL_len]; omega)]
theorem sch_word (l : By) (i : Nat) (h : i < 16) : sch l i = word l i := by
  unfold sch
  rw [schL_get l 0 48 i (by omega) (by omega)]
  simp [schL, List.getD, h]
theorem sch_step (l : By) (i : Nat) (h : 16 ≤ i) (h2 : i < 64) : sch l i = smS1 (sch l (i - 2)) + sch l (i - 7) + smS0 (sch l (i - 15)) + sch l (i - 16) := by
  have e : sch l i = schStep (schL l (i - 16)) i := by
    unfold sch
    rw [schL_get l (i - 16 + 1) 48 i (by omega) (by omega)]
    simp only [schL, List.getD]
    rw [List.getElem?_append_right (by rw [schL_len]; omega), schL_len]
    rw [show i - (16 + (i - 16)) = 0 by omega, show 16 + (i - 16) = i by omega]
    rfl
  rw [e]
  unfold schStep sch
  rw [schL_get l (i - 16) 48 (i - 2) (by omega) (by omega), schL_get l (i - 16) 48 (i - 7) (by omega) (by omega), schL_get l (i - 16) 48 (i - 15) (by omega) (by omega), schL_get l (i - 16) 48 (i - 16) (by omega) (by omega)]
end Go.Spec

namespace Go.Spec
def st8 (a b c d e f g h : W32) : Nat → W32 := fun i => match i with | 0 => a | 1 => b | 2 => c | 3 => d | 4 => e | 5 => f | 6 => g | 7 => h | _ => 0
def begin8 : Nat → W32 := st8 0x6a09e667#32 0xbb67ae85#32 0x3c6ef372#32 0xa54ff53a#32 0x510e527f#32 0x9b05688c#32 0x1f83d9ab#32 0x5be0cd19#32
theorem st8_eta {v : Nat → W32} (hv : ∀ i, 8 ≤ i → v i = 0) : st8 (v 0) (v 1) (v 2) (v 3) (v 4) (v 5) (v 6) (v 7) = v := by
  funext i
  match i with
  | 0 | 1 | 2 | 3 | 4 | 5 | 6 | 7 => rfl
  | i + 8 => rw [hv (i + 8) (by omega)]; rfl
theorem st8_end (a b c d e f g h : W32) (i : Nat) (hi : 8 ≤ i) : st8 a b c d e f g h i = 0 := by
  obtain ⟨i, rfl⟩ : ∃ j, i = j + 8 := ⟨i - 8, by omega⟩
  rfl
theorem rnd_end (k w : W32) (v : Nat → W32) (i : Nat) (hi : 8 ≤ i) : rnd k w v i = 0 := by
  obtain ⟨i, rfl⟩ : ∃ j, i = j + 8 := ⟨i - 8, by omega⟩
  rfl
theorem compress_end {v : Nat → W32} (hv : ∀ i, 8 ≤ i → v i = 0) (l : By) (i : Nat) (hi : 8 ≤ i) : compress v l i = 0 := by
  unfold compress
  rw [hv i hi]
  show 0 + rnd _ _ _ i = 0
  rw [rnd_end _ _ _ _ hi]
  rfl
theorem blocks_end {v : Nat → W32} (hv : ∀ i, 8 ≤ i → v i = 0) (l : By) : ∀ (j i : Nat), 8 ≤ i → blocks v l j i = 0
  | 0, i, hi => hv i hi
  | j + 1, i, hi => compress_end (fun i hi => blocks_end hv l j i hi) _ i hi
theorem begin8_end (i : Nat) (hi : 8 ≤ i) : begin8 i = 0 := st8_end _ _ _ _ _ _ _ _ i hi
end Go.Spec
namespace Go.Spec
def count8 (c : BitVec 64) : By := (List.range 8).map fun i => (c >>> (8 * (7 - i))).setWidth 8
/-- What stands behind the whole blocks. -/
def rest64 (l : By) : By := l.drop (64 * (l.length / 64))
def tailEnd (n : Nat) : Nat := if 64 < n + 9 then 128 else 64
def padTail (ahead : BitVec 64) (l : By) : By :=
  rest64 l ++ (0x80#8 :: (List.replicate (tailEnd (rest64 l).length - (rest64 l).length - 9) 0#8 ++ count8 (8#64 * (ahead + BitVec.ofNat 64 l.length))))
/-- The state behind all. -/
def shaSt (v : Nat → W32) (ahead : BitVec 64) (l : By) : Nat → W32 :=
  blocks (blocks v l (l.length / 64)) (padTail ahead l) (tailEnd (rest64 l).length / 64)
end Go.Spec
namespace Go.Spec
def tailSt (v : Nat → W32) (b T : By) (k : Nat) : Nat → W32 := blocks (blocks v b (b.length / 64)) T k
end Go.Spec
namespace Go.Spec
theorem shutEx {α : Type} (a : α) : ∃ b, b = a := ⟨a, rfl⟩
/-- The same, but nothing that the kernel could reckon. -/
noncomputable def shut {α : Type} (a : α) : α := Classical.choose (shutEx a)
theorem shut_eq {α : Type} (a : α) : shut a = a := Classical.choose_spec (shutEx a)
noncomputable def sameB (a b : By) : Bool := shut (decide (a = b))
theorem sameB_eq (a b : By) : sameB a b = decide (a = b) := shut_eq _
/-- The sum's bytes. -/
def shaU (l : By) : Nat → BitVec 8 := outByte (shaSt begin8 0#64 l)
noncomputable def shaB (l : By) : Nat → BitVec 8 := shut (shaU l)
theorem shaB_eq (l : By) : shaB l = shaU l := shut_eq _
noncomputable def sha (l : By) : By := (List.range 32).map (shaB l)
noncomputable def macKey (key : By) : By := if 64 < key.length then sha key else key
noncomputable def padBlock (key : By) (pad : BitVec 8) : By := (List.range 64).map fun i => (macKey key).getD i 0 ^^^ pad
noncomputable def padSt (key : By) (pad : BitVec 8) : Nat → W32 := compress begin8 (padBlock key pad)
def eta8 (v : Nat → W32) : Nat → W32 := st8 (v 0) (v 1) (v 2) (v 3) (v 4) (v 5) (v 6) (v 7)
noncomputable def macIn (key b : By) : By := (List.range 32).map (outByte (shaSt (eta8 (padSt key 0x36#8)) 64#64 b))
noncomputable def macU (key b : By) : Nat → BitVec 8 := outByte (shaSt (eta8 (padSt key 0x5c#8)) 64#64 (macIn key b))
noncomputable def macB (key b : By) : Nat → BitVec 8 := shut (macU key b)
theorem macB_un (key b : By) : macB key b = macU key b := shut_eq _
theorem eta8_padSt (key : By) (p : BitVec 8) : eta8 (padSt key p) = padSt key p := st8_eta (compress_end begin8_end _)
end Go.Spec
namespace Go.Spec
def orD (a b : By) : Nat → BitVec 8
  | 0 => 0
  | i + 1 => orD a b i ||| (a.getD i 0 ^^^ b.getD i 0)
theorem or_zero {x y : BitVec 8} : x ||| y = 0#8 ↔ x = 0#8 ∧ y = 0#8 := by
  constructor
  · intro h
    have hb : ∀ i, (x ||| y).getLsbD i = false := fun i => by rw [h]; simp
    constructor <;> (apply BitVec.eq_of_getLsbD_eq; intro i hi; have := hb i; simp at this; simp [this])
  · rintro ⟨rfl, rfl⟩; rfl
theorem xor_zero {x y : BitVec 8} : x ^^^ y = 0#8 ↔ x = y := by
  constructor
  · intro h
    apply BitVec.eq_of_getLsbD_eq
    intro i hi
    have : (x ^^^ y).getLsbD i = false := by rw [h]; simp
    simpa using this
  · rintro rfl; simp
theorem orD_zero (a b : By) : ∀ n, orD a b n = 0#8 ↔ ∀ i, i < n → a.getD i 0 = b.getD i 0
  | 0 => by simp [orD]
  | n + 1 => by
    simp only [orD]
    rw [or_zero, orD_zero a b n, xor_zero]
    constructor
    · rintro ⟨h1, h2⟩ i hi
      rcases Nat.lt_succ_iff_lt_or_eq.1 hi with h | h
      · exact h1 i h
      · rw [h]; exact h2
    · intro h
      exact ⟨fun i hi => h i (by omega), h n (by omega)⟩
theorem orD_same (a b : By) (hl : a.length = b.length) : orD a b a.length = 0#8 ↔ a = b := by
  rw [orD_zero]
  constructor
  · intro h
    apply List.ext_getElem hl
    intro i h1 h2
    have := h i h1
    simpa [List.getD, h1, h2] using this
  · rintro rfl i _; rfl
end Go.Spec
namespace Go.Sym
def allRefl {α : Type} (f : Nat → α) : Nat → Nat → Prop
  | _, 0 => True
  | i, n + 1 => f i = f i ∧ allRefl f (i + 1) n
theorem allRefl_true {α : Type} (f : Nat → α) : ∀ n i, allRefl f i n
  | 0, _ => trivial
  | n + 1, i => ⟨rfl, allRefl_true f n (i + 1)⟩
end Go.Sym
namespace Go.Spec
/-- The first so many bits. -/
def lowR (x : W32) : Nat → W32
  | 0 => 0
  | i + 1 => lowR x i ||| (if x.getLsbD i then 1#32 else 0#32) <<< i
theorem lowR_get (x : W32) (j : Nat) (hj : j < 32) : ∀ i, i ≤ 32 → (lowR x i).getLsbD j = (decide (j < i) && x.getLsbD j)
  | 0, _ => by simp [lowR]
  | i + 1, hi => by
    simp only [lowR, BitVec.getLsbD_or, lowR_get x j hj i (by omega), BitVec.getLsbD_shiftLeft]
    rcases Nat.lt_trichotomy j i with h | h | h
    · simp [h, show j < i + 1 by omega]
    · subst h
      have hb : ∀ bb : Bool, (if bb = true then 1#32 else 0#32 : W32).getLsbD 0 = bb := by decide
      simp only [Nat.lt_irrefl, decide_false, Bool.false_and, Bool.false_or, Nat.sub_self, hj, decide_true, Bool.true_and, Bool.not_false, hb, Nat.lt_succ_self]
    · have h1 : ¬ j < i := by omega
      have h2 : ¬ j < i + 1 := by omega
      have h3 : j - i ≠ 0 := by omega
      split <;> simp [h1, h2, h3]
theorem lowR_all (x : W32) : lowR x 32 = x := by
  apply BitVec.eq_of_getLsbD_eq
  intro j hj
  rw [lowR_get x j hj 32 (by omega)]
  simp [hj]
theorem bit_eq (x : W32) (i : Nat) : x >>> i &&& 1#32 = if x.getLsbD i then 1#32 else 0#32 := by
  apply BitVec.eq_of_getLsbD_eq
  intro j hj
  simp only [BitVec.getLsbD_and, BitVec.getLsbD_ushiftRight]
  cases j with
  | zero => by_cases h : x.getLsbD i <;> simp [h]
  | succ j => by_cases h : x.getLsbD i <;> simp [h]
def chS (a b c : W32) : W32 := a &&& b ^^^ ~~~a &&& c
def mjS (a b c : W32) : W32 := a &&& b ^^^ a &&& c ^^^ b &&& c
end Go.Spec
namespace Go.Spec
theorem mj_bit (a b c : W32) (i : Nat) (_hi : i < 32) : ((a >>> i &&& 1#32) + (b >>> i &&& 1#32) + (c >>> i &&& 1#32)) / 2#32 = if (mjS a b c).getLsbD i then 1#32 else 0#32 := by
  rw [bit_eq, bit_eq, bit_eq]
  have : (mjS a b c).getLsbD i = ((a.getLsbD i && b.getLsbD i) ^^ (a.getLsbD i && c.getLsbD i) ^^ (b.getLsbD i && c.getLsbD i)) := by
    simp only [mjS, BitVec.getLsbD_xor, BitVec.getLsbD_and]
  rw [this]
  generalize a.getLsbD i = x
  generalize b.getLsbD i = y
  generalize c.getLsbD i = z
  revert x y z
  decide
theorem ch_bit1 (a b c : W32) (i : Nat) (_hi : i < 32) (h : a >>> i &&& 1#32 = 1#32) : b >>> i &&& 1#32 = if (chS a b c).getLsbD i then 1#32 else 0#32 := by
  rw [bit_eq] at h ⊢
  have ha : a.getLsbD i = true := by
    cases hb : a.getLsbD i with
    | true => rfl
    | false => rw [hb] at h; simp at h
  have : (chS a b c).getLsbD i = b.getLsbD i := by
    simp only [chS, BitVec.getLsbD_xor, BitVec.getLsbD_and, BitVec.getLsbD_not, ha]
    simp
  rw [this]
theorem ch_bit0 (a b c : W32) (i : Nat) (hi : i < 32) (h : ¬ a >>> i &&& 1#32 = 1#32) : c >>> i &&& 1#32 = if (chS a b c).getLsbD i then 1#32 else 0#32 := by
  rw [bit_eq] at h ⊢
  have ha : a.getLsbD i = false := by
    cases hb : a.getLsbD i with
    | false => rfl
    | true => rw [hb] at h; simp at h
  have : (chS a b c).getLsbD i = c.getLsbD i := by
    simp only [chS, BitVec.getLsbD_xor, BitVec.getLsbD_and, BitVec.getLsbD_not, ha, hi]
    simp
  rw [this]
theorem mul256 (x : W32) (z : BitVec 8) : x * 256#32 + z.setWidth 32 = x <<< 8 ||| z.setWidth 32 := by
  have e : x * 256#32 = x <<< 8 := by
    apply BitVec.eq_of_toNat_eq
    simp [BitVec.toNat_mul, BitVec.toNat_shiftLeft, Nat.shiftLeft_eq]
  rw [e]
  apply BitVec.add_eq_or_of_and_eq_zero
  apply BitVec.eq_of_getLsbD_eq
  intro j hj
  simp only [BitVec.getLsbD_and, BitVec.getLsbD_shiftLeft, BitVec.getLsbD_zero]
  by_cases h8 : j < 8
  · simp [h8]
  · have : (z.setWidth 32).getLsbD j = false := by
      rw [BitVec.getLsbD_setWidth, BitVec.getLsbD_of_ge _ _ (by omega)]
      simp
    simp [this]
/-- How many noughts stand behind. -/
def zc (n : Nat) : Nat := (119 - n % 64) % 64
def shaPad (b : By) : By := b ++ (0x80#8 :: (List.replicate (zc b.length) 0#8 ++ count8 (BitVec.ofNat 64 b.length * 8#64)))
def refSt (b : By) (j : Nat) : Nat → W32 := blocks begin8 (shaPad b) j
def refBlk (b : By) (j : Nat) : By := ((shaPad b).drop (64 * j)).take 64
end Go.Spec
namespace Go.Spec
theorem count8_len (c : BitVec 64) : (count8 c).length = 8 := by simp [count8]
theorem shaPad_len (b : By) : (shaPad b).length = b.length + 1 + zc b.length + 8 := by
  simp only [shaPad, List.length_append, List.length_cons, List.length_replicate, count8_len]; omega
theorem shaPad_mod (b : By) : (shaPad b).length % 64 = 0 := by
  rw [shaPad_len]; unfold zc; omega
theorem count8_step (c : BitVec 64) (i : Nat) (hi : i < 8) : (count8 c).take i ++ [(c >>> (8 * (7 - i))).setWidth 8] = (count8 c).take (i + 1) := by
  rw [List.take_add_one]
  congr 1
  simp [count8, hi]
theorem refBlk_get (b : By) (j k : Nat) (hk : k < 64) : (refBlk b j).getD k 0 = (shaPad b).getD (64 * j + k) 0 := by
  unfold refBlk
  simp only [List.getD]
  rw [List.getElem?_take, if_pos hk, List.getElem?_drop]
end Go.Spec

/- A disk: the calls of the program. -/
namespace Go.Spec
/-- The cells 1, 2, .. of the first i bytes. -/
def dkN (j : Nat) : BitVec 8 := BitVec.ofNat 8 (j + 1)
def dkFb (i j : Nat) : BitVec 8 := if j < i then dkN j else 0
def dkF (i : Nat) : By := (List.range 64).map (dkFb i)
/-- What stands on the disk behind i writes, of which the k-th was torn behind t bytes. -/
def dkB (k t i x : Nat) : BitVec 8 := if x / 64 < i ∧ (x / 64 < k ∨ (x / 64 = k ∧ x % 64 < t)) then dkN (x % 64) else 0
def dkS (k t i : Nat) : By := (List.range 1920).map (dkB k t i)
end Go.Spec
namespace Go.Sym
open Go.Proofs Go.Spec
set_option linter.unusedVariables false
def gl0 : Gl := fun _ => []
noncomputable def D0 : Ctx := .none ["#disk.go:27"]
theorem okD0 : COKs Try.prog gl0 D0 := COKs.none
noncomputable def D1 : Ctx := D0.exe Try.prog gl0 [] 400 Try.f21.params.size 21 Try.f21
theorem okD1 : COKs Try.prog gl0 D1 := okD0.exe [] 400 _ (by kernel_rfl) (by kernel_rfl) (by kernel_rfl) (fun args w => by kernel_rfl)
noncomputable def D2 : Ctx := D1.exe Try.prog gl0 [] 400 Try.f41.params.size 41 Try.f41
theorem okD2 : COKs Try.prog gl0 D2 := okD1.exe [] 400 _ (by kernel_rfl) (by kernel_rfl) (by kernel_rfl) (fun args w => by kernel_rfl)
noncomputable def D3 : Ctx := D2.exe Try.prog gl0 [] 400 Try.f42.params.size 42 Try.f42
theorem okD3 : COKs Try.prog gl0 D3 := okD2.exe [] 400 _ (by kernel_rfl) (by kernel_rfl) (by kernel_rfl) (fun args w => by kernel_rfl)
noncomputable def D4 : Ctx := D3.exe Try.prog gl0 [] 400 Try.f16.params.size 16 Try.f16
theorem okD4 : COKs Try.prog gl0 D4 := okD3.exe [] 400 _ (by kernel_rfl) (by kernel_rfl) (by kernel_rfl) (fun args w => by kernel_rfl)
noncomputable def D5 : Ctx := D4.exe Try.prog gl0 [] 400 Try.f12.params.size 12 Try.f12
theorem okD5 : COKs Try.prog gl0 D5 := okD4.exe [] 400 _ (by kernel_rfl) (by kernel_rfl) (by kernel_rfl) (fun args w => by kernel_rfl)
noncomputable def D6 : Ctx := D5.exe Try.prog gl0 [] 400 Try.f13.params.size 13 Try.f13
theorem okD6 : COKs Try.prog gl0 D6 := okD5.exe [] 400 _ (by kernel_rfl) (by kernel_rfl) (by kernel_rfl) (fun args w => by kernel_rfl)
noncomputable def D7 : Ctx := D6.exe Try.prog gl0 [] 400 Try.f14.params.size 14 Try.f14
theorem okD7 : COKs Try.prog gl0 D7 := okD6.exe [] 400 _ (by kernel_rfl) (by kernel_rfl) (by kernel_rfl) (fun args w => by kernel_rfl)
noncomputable def D8 : Ctx := D7.exe Try.prog gl0 [] 400 Try.f17.params.size 17 Try.f17
theorem okD8 : COKs Try.prog gl0 D8 := okD7.exe [] 400 _ (by kernel_rfl) (by kernel_rfl) (by kernel_rfl) (fun args w => by kernel_rfl)
noncomputable def D9 : Ctx := D8.exe Try.prog gl0 [] 400 Try.f18.params.size 18 Try.f18
theorem okD9 : COKs Try.prog gl0 D9 := okD8.exe [] 400 _ (by kernel_rfl) (by kernel_rfl) (by kernel_rfl) (fun args w => by kernel_rfl)
noncomputable def D10 : Ctx := D9.exe Try.prog gl0 [] 400 Try.f19.params.size 19 Try.f19
theorem okD10 : COKs Try.prog gl0 D10 := okD9.exe [] 400 _ (by kernel_rfl) (by kernel_rfl) (by kernel_rfl) (fun args w => by kernel_rfl)
noncomputable def D11 : Ctx := D10.exe Try.prog gl0 [] 400 Try.f11.params.size 11 Try.f11
theorem okD11 : COKs Try.prog gl0 D11 := okD10.exe [] 400 _ (by kernel_rfl) (by kernel_rfl) (by kernel_rfl) (fun args w => by kernel_rfl)
end Go.Sym
