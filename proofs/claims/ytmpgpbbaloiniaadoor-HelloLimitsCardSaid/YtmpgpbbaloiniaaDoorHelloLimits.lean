/- HelloLimits: lists of as many as may be are put, and one more isn't. Condition: the two tables of the package start as the text of the program lays them, which the card ties. -/
import Derived.Test.YtmpgpbbaloiniaaDoorSymC
import Derived.Test.YtmpgpbbaloiniaaDoorShaB
import Derived.Test.YtmpgpbbaloiniaaDoorShaA
import Derived.OpenShut
/- What is handed in from outside: plain data of any shape. -/
namespace Go.Sym
set_option linter.unusedVariables false
set_option linter.unusedSimpArgs false
open Go.ChangeShapes Go.WideShapes
inductive Sh where
  | i (k : IntKind)
  | b
  | s
  | y
def Sh.ok : Sh → AV → Prop
  | .i .u8, a => ∃ x, a = .u8 x
  | .i .u16, a => ∃ x, a = .u16 x
  | .i .u32, a => ∃ x, a = .u32 x
  | .i .u64, a => ∃ x, a = .u64 x
  | .i k, a => ∃ n, a = .int k n ∧ (Lit.int k n).wf = true
  | .b, a => ∃ c, a = .bool c
  | .s, a => ∃ l, a = .str l ∧ l.length ≤ maxLen
  | .y, a => ∃ l c, a = .rb true l (.is c) ∧ (c = true → l = []) ∧ l.length ≤ maxLen
def shAll : List Sh → List AV → Prop
  | [], [] => True
  | k :: ss, a :: az => k.ok a ∧ shAll ss az
  | _, _ => False
theorem shAll_append : ∀ {l m : List Sh} {az bs : List AV}, shAll l az → shAll m bs → shAll (l ++ m) (az ++ bs)
  | [], _, [], _, _, k => k
  | _ :: _, _, _ :: _, _, h, k => ⟨h.1, shAll_append h.2 k⟩
  | [], _, _ :: _, _, h, _ => h.elim
  | _ :: _, _, [], _, h, _ => h.elim
theorem datas_append {p : Bool} : ∀ {az bs : List AV}, datas p az = true → datas p bs = true → datas p (az ++ bs) = true
  | [], _, _, k => k
  | a :: az, _, h, k => by
    simp only [datas, Bool.and_eq_true, List.cons_append] at h ⊢
    exact ⟨h.1, datas_append h.2 k⟩
def flatFs (P : Program) (g : TypeId → Option (List Sh)) : List Field → Nat → Option (List Sh)
  | [], _ => some []
  | f :: fs, o => if f.offset = o then (g f.type).bind fun l => if P.cellsOf f.type = l.length then (flatFs P g fs (o + l.length)).map (l ++ ·) else none else none
def flat (P : Program) : Nat → TypeId → Option (List Sh)
  | 0, _ => none
  | f + 1, t => match P.underlying t with
    | some (.int k) => some [.i k]
    | some .bool => some [.b]
    | some .string => some [.s]
    | some (.slice e) => (match P.underlying e with | some (.int .u8) => if P.cellsOf e = 1 then some [.y] else none | _ => none)
    | some (.array n e) => (flat P f e).bind fun l => if P.cellsOf e = l.length ∧ P.cellsOf t = n * l.length then some (List.replicate n l).flatten else none
    | some (.struct fs) => (flatFs P (flat P f) fs.toList 0).bind fun l => if P.cellsOf t = l.length then some l else none
    | _ => none

section
variable {H : Type} {enc : TypeId × Value → H} {P : Program} {W : World} {base : Nat} {spare : Nat → Bool} {held : Bool}
def Read (W : World) (l : List Sh) (cs : List Value) : Prop := ∃ avs, shAll l avs ∧ datas true avs = true ∧ VRels (κW W) avs cs
theorem Read.append {l m : List Sh} {cs ds : List Value} (h : Read W l cs) (k : Read W m ds) : Read W (l ++ m) (cs ++ ds) := by
  obtain ⟨a, h1, h2, h3⟩ := h
  obtain ⟨b, k1, k2, k3⟩ := k
  exact ⟨a ++ b, shAll_append h1 k1, datas_append h2 k2, VRels.append h3 k3⟩
theorem read_arr {l : List Sh} {m : Nat} : ∀ (n : Nat) (cs : List Value), cs.length = n * m → (∀ i, i < n → Read W l ((cs.drop (i * m)).take m)) → Read W (List.replicate n l).flatten cs
  | 0, cs, hl, _ => by
    have : cs = [] := List.eq_nil_of_length_eq_zero (by simpa using hl)
    subst this
    exact ⟨[], trivial, rfl, rfl⟩
  | n + 1, cs, hl, h => by
    have h0 := h 0 (by omega)
    simp only [Nat.zero_mul, List.drop_zero] at h0
    have hr := read_arr (m := m) n (cs.drop m) (by rw [List.length_drop, hl, Nat.succ_mul]; omega) (fun i hi => by
      have := h (i + 1) (by omega)
      rw [List.drop_drop]
      rw [Nat.add_mul, Nat.one_mul, Nat.add_comm] at this
      exact this)
    have := h0.append hr
    rw [List.take_append_drop] at this
    simpa [List.replicate_succ] using this
theorem read_fs {g : TypeId → Option (List Sh)} {cs : List Value} : ∀ (fs : List Field) (o : Nat) (l : List Sh), flatFs P g fs o = some l → cs.length = o + l.length →
    (∀ f l', f ∈ fs → g f.type = some l' → Read W l' ((cs.drop f.offset).take (P.cellsOf f.type))) → Read W l (cs.drop o)
  | [], o, l, h, hl, _ => by
    simp only [flatFs, Option.some.injEq] at h
    subst h
    have : cs.drop o = [] := List.drop_eq_nil_of_le (by simp at hl; omega)
    rw [this]
    exact ⟨[], trivial, rfl, rfl⟩
  | f :: fs, o, l, h, hl, hr => by
    simp only [flatFs] at h
    split at h
    · rename_i ho
      simp only [Option.bind_eq_some_iff] at h
      obtain ⟨l1, h1, h2⟩ := h
      split at h2
      · rename_i hc
        simp only [Option.map_eq_some_iff] at h2
        obtain ⟨l2, h3, rfl⟩ := h2
        have k1 := hr f l1 (by simp) h1
        rw [ho, hc] at k1
        have k2 := read_fs fs (o + l1.length) l2 h3 (by simp at hl; omega) (fun f' l' hf hg => hr f' l' (by simp [hf]) hg)
        have := k1.append k2
        rw [← List.drop_drop, List.take_append_drop] at this
        exact this
      · cases h2
    · cases h
theorem rd_flat : ∀ (f : Nat) (t : TypeId) (l : List Sh) (fuel : Nat) (cs : List Value) (x : DataW H × List MemPlace), flat P f t = some l → DataW.trod enc P W base spare held fuel t cs = some x → Read W l cs
  | 0, _, _, _, _, _, h, _ => by cases h
  | f + 1, t, l, fuel, cs, x, h, hd => by
    unfold flat at h
    split at h
    · rename_i k ht
      simp only [Option.some.injEq] at h
      subst h
      obtain ⟨n, rfl, _, hw⟩ := DataW.trod_int ht hd
      have hn : absC0 (.int k n) = absC0 (.int k n) := rfl
      cases k
      case u8 =>
        simp [Lit.wf, IntKind.min, IntKind.max, IntKind.signed, IntKind.bits] at hw
        exact ⟨[.u8 (BitVec.ofNat 8 n.toNat)], ⟨⟨_, rfl⟩, trivial⟩, rfl, _, [], rfl, by simp only [VRel, BitVec.toNat_ofNat]; congr 1; omega, rfl⟩
      case u16 =>
        simp [Lit.wf, IntKind.min, IntKind.max, IntKind.signed, IntKind.bits] at hw
        exact ⟨[.u16 (BitVec.ofNat 16 n.toNat)], ⟨⟨_, rfl⟩, trivial⟩, rfl, _, [], rfl, by simp only [VRel, BitVec.toNat_ofNat]; congr 1; omega, rfl⟩
      case u32 =>
        simp [Lit.wf, IntKind.min, IntKind.max, IntKind.signed, IntKind.bits] at hw
        exact ⟨[.u32 (BitVec.ofNat 32 n.toNat)], ⟨⟨_, rfl⟩, trivial⟩, rfl, _, [], rfl, by simp only [VRel, BitVec.toNat_ofNat]; congr 1; omega, rfl⟩
      case u64 =>
        simp [Lit.wf, IntKind.min, IntKind.max, IntKind.signed, IntKind.bits] at hw
        exact ⟨[.u64 (BitVec.ofNat 64 n.toNat)], ⟨⟨_, rfl⟩, trivial⟩, rfl, _, [], rfl, by simp only [VRel, BitVec.toNat_ofNat]; congr 1; omega, rfl⟩
      all_goals exact ⟨[.int _ n], ⟨⟨_, rfl, hw⟩, trivial⟩, rfl, _, [], rfl, rfl, rfl⟩
    · rename_i ht
      simp only [Option.some.injEq] at h
      subst h
      obtain ⟨b, rfl, _⟩ := DataW.trod_bool ht hd
      exact ⟨[.bool b], ⟨⟨_, rfl⟩, trivial⟩, rfl, _, [], rfl, rfl, rfl⟩
    · rename_i ht
      simp only [Option.some.injEq] at h
      subst h
      obtain ⟨s, rfl, _, hs⟩ := DataW.trod_string ht hd
      have hb := bytesStr_strBytes s
      refine ⟨[.str (strBytes s)], ⟨⟨_, rfl, ?_⟩, trivial⟩, rfl, _, [], rfl, by simp only [VRel, hb], rfl⟩
      rw [← bytesStr_size, hb]
      exact hs
    · rename_i e ht
      split at h
      · rename_i he
        split at h
        · rename_i hc
          simp only [Option.some.injEq] at h
          subst h
          obtain ⟨v, l, c, rfl, h1, h2, h3⟩ := rd_bytes ht he hc hd
          exact ⟨[.rb true l (.is c)], ⟨⟨l, c, rfl, h1, h2⟩, trivial⟩, rfl, _, [], rfl, h3, rfl⟩
        · cases h
      · cases h
    · rename_i n e ht
      simp only [Option.bind_eq_some_iff] at h
      obtain ⟨l1, h1, h2⟩ := h
      split at h2
      · rename_i hc
        simp only [Option.some.injEq] at h2
        subst h2
        obtain ⟨xs, m, _, _, hl, hn, hel⟩ := DataW.trod_array ht hd
        refine read_arr (m := l1.length) n cs (by rw [hl, hc.2]) fun i hi => ?_
        have := hel i hi
        rw [List.getElem?_eq_getElem (by omega), hc.1] at this
        exact rd_flat f e l1 _ _ _ h1 this
      · cases h2
    · rename_i fs ht
      simp only [Option.bind_eq_some_iff] at h
      obtain ⟨l1, h1, h2⟩ := h
      split at h2
      · rename_i hc
        simp only [Option.some.injEq] at h2
        subst h2
        obtain ⟨xs, m, _, _, hl, hn, hel⟩ := DataW.trod_struct ht hd
        have := read_fs (W := W) (cs := cs) fs.toList 0 l1 h1 (by rw [hl, hc]; omega) fun f0 l' hf hg => by
          obtain ⟨i, hi⟩ := List.getElem?_of_mem hf
          have hlt := (List.getElem?_eq_some_iff.1 hi).1
          have := hel i f0 (by simpa using hi)
          rw [List.getElem?_eq_getElem (by simp at hlt; omega)] at this
          exact rd_flat f f0.type l' _ _ _ hg this
        simpa using this
      · cases h2
    · cases h
theorem agg_of_cells {v : Value} {avs : List AV} (h : VRels (κW W) avs v.cells.toList) (hl : 2 ≤ avs.length) : VRel (κW W) (.agg avs) v := by
  have hn := h.length
  cases v
  case agg cs => exact ⟨cs, rfl, h⟩
  all_goals (exfalso; simp [Value.cells] at hn; omega)
/-- Bytes of an array. -/
theorem sh_u8 : ∀ {n : Nat} {avs : List AV}, shAll (List.replicate n (.i .u8)) avs → ∃ l : List (BitVec 8), l.length = n ∧ avs = l.map .u8
  | 0, [], _ => ⟨[], rfl, rfl⟩
  | 0, _ :: _, h => h.elim
  | n + 1, [], h => h.elim
  | n + 1, a :: az, h => by
    obtain ⟨⟨x, rfl⟩, h2⟩ := h
    obtain ⟨l, h3, rfl⟩ := sh_u8 h2
    exact ⟨x :: l, by simp [h3], rfl⟩
end
theorem sh_cons {k : Sh} {ks : List Sh} {avs : List AV} (h : shAll (k :: ks) avs) : ∃ a az, avs = a :: az ∧ k.ok a ∧ shAll ks az := by
  cases avs with
  | nil => exact h.elim
  | cons a az => exact ⟨a, az, rfl, h.1, h.2⟩
theorem sh_nil {avs : List AV} (h : shAll [] avs) : avs = [] := by
  cases avs with
  | nil => rfl
  | cons a az => exact h.elim
theorem sh_i64 {a : AV} (h : (Sh.i .i64).ok a) : ∃ n, a = .int .i64 n := by
  obtain ⟨n, h, _⟩ := h
  exact ⟨n, h⟩
theorem rel_u32 {κ : Ker} {n : Int} (h : (Lit.int .u32 n).wf = true) : VRel κ (.u32 (BitVec.ofInt 32 n)) (.int .u32 n) := by
  simp [Lit.wf, IntKind.has, IntKind.min, IntKind.max, IntKind.signed, IntKind.bits] at h
  simp only [VRel, BitVec.toNat_ofInt]
  congr 1
  omega
theorem rel_u64 {κ : Ker} {n : Int} (h : (Lit.int .u64 n).wf = true) : VRel κ (.u64 (BitVec.ofInt 64 n)) (.int .u64 n) := by
  simp [Lit.wf, IntKind.has, IntKind.min, IntKind.max, IntKind.signed, IntKind.bits] at h
  simp only [VRel, BitVec.toNat_ofInt]
  congr 1
  omega
theorem rel_u8 {κ : Ker} {n : Int} (h : (Lit.int .u8 n).wf = true) : VRel κ (.u8 (BitVec.ofInt 8 n)) (.int .u8 n) := by
  simp [Lit.wf, IntKind.has, IntKind.min, IntKind.max, IntKind.signed, IntKind.bits] at h
  simp only [VRel, BitVec.toNat_ofInt]
  congr 1
  omega
end Go.Sym

/- Greetings: what is carried out call by call. -/
namespace Go.Sym
open Go.Proofs Go.Spec
set_option linter.unusedVariables false
noncomputable def H0 : Ctx := B5
theorem okH0 : COKs Tryd.prog gl0 H0 := okB5
noncomputable def H1 : Ctx := H0.exe Tryd.prog gl0 [] 400 Tryd.f62.params.size 62 Tryd.f62
theorem okH1 : COKs Tryd.prog gl0 H1 := okH0.exe [] 400 _ (by kernel_rfl) (by kernel_rfl) (by kernel_rfl) (fun args w => by kernel_rfl)
noncomputable def H2 : Ctx := H1.exe Tryd.prog gl0 [] 400 Tryd.f145.params.size 145 Tryd.f145
theorem okH2 : COKs Tryd.prog gl0 H2 := okH1.exe [] 400 _ (by kernel_rfl) (by kernel_rfl) (by kernel_rfl) (fun args w => by kernel_rfl)
noncomputable def H3 : Ctx := H2.exe Tryd.prog gl0 [] 400 Tryd.f128.params.size 128 Tryd.f128
theorem okH3 : COKs Tryd.prog gl0 H3 := okH2.exe [] 400 _ (by kernel_rfl) (by kernel_rfl) (by kernel_rfl) (fun args w => by kernel_rfl)
noncomputable def H4 : Ctx := H3.exe Tryd.prog gl0 [] 400 Tryd.f129.params.size 129 Tryd.f129
theorem okH4 : COKs Tryd.prog gl0 H4 := okH3.exe [] 400 _ (by kernel_rfl) (by kernel_rfl) (by kernel_rfl) (fun args w => by kernel_rfl)
noncomputable def H5 : Ctx := H4.exe Tryd.prog gl0 [] 400 Tryd.f94.params.size 94 Tryd.f94
theorem okH5 : COKs Tryd.prog gl0 H5 := okH4.exe [] 400 _ (by kernel_rfl) (by kernel_rfl) (by kernel_rfl) (fun args w => by kernel_rfl)
noncomputable def H6 : Ctx := H5.exe Tryd.prog gl0 [] 400 Tryd.f127.params.size 127 Tryd.f127
theorem okH6 : COKs Tryd.prog gl0 H6 := okH5.exe [] 400 _ (by kernel_rfl) (by kernel_rfl) (by kernel_rfl) (fun args w => by kernel_rfl)
noncomputable def H7 : Ctx := H6.exe Tryd.prog gl0 [] 400 Tryd.f98.params.size 98 Tryd.f98
theorem okH7 : COKs Tryd.prog gl0 H7 := okH6.exe [] 400 _ (by kernel_rfl) (by kernel_rfl) (by kernel_rfl) (fun args w => by kernel_rfl)
noncomputable def H8 : Ctx := H7.exe Tryd.prog gl0 [] 400 Tryd.f118.params.size 118 Tryd.f118
theorem okH8 : COKs Tryd.prog gl0 H8 := okH7.exe [] 400 _ (by kernel_rfl) (by kernel_rfl) (by kernel_rfl) (fun args w => by kernel_rfl)
noncomputable def H9 : Ctx := H8.exe Tryd.prog gl0 [] 400 Tryd.f79.params.size 79 Tryd.f79
theorem okH9 : COKs Tryd.prog gl0 H9 := okH8.exe [] 400 _ (by kernel_rfl) (by kernel_rfl) (by kernel_rfl) (fun args w => by kernel_rfl)
noncomputable def H10 : Ctx := H9.exe Tryd.prog gl0 [] 400 Tryd.f83.params.size 83 Tryd.f83
theorem okH10 : COKs Tryd.prog gl0 H10 := okH9.exe [] 400 _ (by kernel_rfl) (by kernel_rfl) (by kernel_rfl) (fun args w => by kernel_rfl)
noncomputable def H11 : Ctx := H10.exe Tryd.prog gl0 [] 400 Tryd.f81.params.size 81 Tryd.f81
theorem okH11 : COKs Tryd.prog gl0 H11 := okH10.exe [] 400 _ (by kernel_rfl) (by kernel_rfl) (by kernel_rfl) (fun args w => by kernel_rfl)
noncomputable def H12 : Ctx := H11.exe Tryd.prog gl0 [] 400 Tryd.f71.params.size 71 Tryd.f71
theorem okH12 : COKs Tryd.prog gl0 H12 := okH11.exe [] 400 _ (by kernel_rfl) (by kernel_rfl) (by kernel_rfl) (fun args w => by kernel_rfl)
noncomputable def H13 : Ctx := H12.exe Tryd.prog gl0 [] 400 Tryd.f113.params.size 113 Tryd.f113
theorem okH13 : COKs Tryd.prog gl0 H13 := okH12.exe [] 400 _ (by kernel_rfl) (by kernel_rfl) (by kernel_rfl) (fun args w => by kernel_rfl)
noncomputable def H14 : Ctx := H13.exe Tryd.prog gl0 [] 400 Tryd.f121.params.size 121 Tryd.f121
theorem okH14 : COKs Tryd.prog gl0 H14 := okH13.exe [] 400 _ (by kernel_rfl) (by kernel_rfl) (by kernel_rfl) (fun args w => by kernel_rfl)
noncomputable def H15 : Ctx := H14.exe Tryd.prog gl0 [] 400 Tryd.f119.params.size 119 Tryd.f119
theorem okH15 : COKs Tryd.prog gl0 H15 := okH14.exe [] 400 _ (by kernel_rfl) (by kernel_rfl) (by kernel_rfl) (fun args w => by kernel_rfl)
noncomputable def H16 : Ctx := H15.exe Tryd.prog gl0 [] 400 Tryd.f120.params.size 120 Tryd.f120
theorem okH16 : COKs Tryd.prog gl0 H16 := okH15.exe [] 400 _ (by kernel_rfl) (by kernel_rfl) (by kernel_rfl) (fun args w => by kernel_rfl)
noncomputable def H17 : Ctx := H16.exe Tryd.prog gl0 [] 400 Tryd.f85.params.size 85 Tryd.f85
theorem okH17 : COKs Tryd.prog gl0 H17 := okH16.exe [] 400 _ (by kernel_rfl) (by kernel_rfl) (by kernel_rfl) (fun args w => by kernel_rfl)
noncomputable def H18 : Ctx := H17.exe Tryd.prog gl0 [] 400 Tryd.f78.params.size 78 Tryd.f78
theorem okH18 : COKs Tryd.prog gl0 H18 := okH17.exe [] 400 _ (by kernel_rfl) (by kernel_rfl) (by kernel_rfl) (fun args w => by kernel_rfl)
noncomputable def H19 : Ctx := H18.exe Tryd.prog gl0 [] 400 Tryd.f122.params.size 122 Tryd.f122
theorem okH19 : COKs Tryd.prog gl0 H19 := okH18.exe [] 400 _ (by kernel_rfl) (by kernel_rfl) (by kernel_rfl) (fun args w => by kernel_rfl)
noncomputable def H20 : Ctx := H19.exe Tryd.prog gl0 [] 400 Tryd.f86.params.size 86 Tryd.f86
theorem okH20 : COKs Tryd.prog gl0 H20 := okH19.exe [] 400 _ (by kernel_rfl) (by kernel_rfl) (by kernel_rfl) (fun args w => by kernel_rfl)
noncomputable def H21 : Ctx := H20.exe Tryd.prog gl0 [] 400 Tryd.f45.params.size 45 Tryd.f45
theorem okH21 : COKs Tryd.prog gl0 H21 := okH20.exe [] 400 _ (by kernel_rfl) (by kernel_rfl) (by kernel_rfl) (fun args w => by kernel_rfl)
noncomputable def H22 : Ctx := H21.exe Tryd.prog gl0 [] 400 Tryd.f88.params.size 88 Tryd.f88
theorem okH22 : COKs Tryd.prog gl0 H22 := okH21.exe [] 400 _ (by kernel_rfl) (by kernel_rfl) (by kernel_rfl) (fun args w => by kernel_rfl)
noncomputable def H23 : Ctx := H22.exe Tryd.prog gl0 [] 400 Tryd.f126.params.size 126 Tryd.f126
theorem okH23 : COKs Tryd.prog gl0 H23 := okH22.exe [] 400 _ (by kernel_rfl) (by kernel_rfl) (by kernel_rfl) (fun args w => by kernel_rfl)
noncomputable def H24 : Ctx := H23.exe Tryd.prog gl0 [] 400 Tryd.f123.params.size 123 Tryd.f123
theorem okH24 : COKs Tryd.prog gl0 H24 := okH23.exe [] 400 _ (by kernel_rfl) (by kernel_rfl) (by kernel_rfl) (fun args w => by kernel_rfl)
noncomputable def H25 : Ctx := H24.exe Tryd.prog gl0 [] 400 Tryd.f93.params.size 93 Tryd.f93
theorem okH25 : COKs Tryd.prog gl0 H25 := okH24.exe [] 400 _ (by kernel_rfl) (by kernel_rfl) (by kernel_rfl) (fun args w => by kernel_rfl)
noncomputable def H26 : Ctx := H25.exe Tryd.prog gl0 [] 400 Tryd.f89.params.size 89 Tryd.f89
theorem okH26 : COKs Tryd.prog gl0 H26 := okH25.exe [] 400 _ (by kernel_rfl) (by kernel_rfl) (by kernel_rfl) (fun args w => by kernel_rfl)
noncomputable def H27 : Ctx := H26.exe Tryd.prog gl0 [] 400 Tryd.f125.params.size 125 Tryd.f125
theorem okH27 : COKs Tryd.prog gl0 H27 := okH26.exe [] 400 _ (by kernel_rfl) (by kernel_rfl) (by kernel_rfl) (fun args w => by kernel_rfl)
noncomputable def H28 : Ctx := H27.exe Tryd.prog gl0 [] 400 3 124 Tryd.f124
theorem okH28 : COKs Tryd.prog gl0 H28 := okH27.exe [] 400 _ (by kernel_rfl) (by kernel_rfl) (by kernel_rfl) (fun args w => by kernel_rfl)
noncomputable def H29 : Ctx := H28.exe Tryd.prog gl0 [] 400 Tryd.f95.params.size 95 Tryd.f95
theorem okH29 : COKs Tryd.prog gl0 H29 := okH28.exe [] 400 _ (by kernel_rfl) (by kernel_rfl) (by kernel_rfl) (fun args w => by kernel_rfl)
noncomputable def H30 : Ctx := H29.exe Tryd.prog gl0 [] 400 Tryd.f87.params.size 87 Tryd.f87
theorem okH30 : COKs Tryd.prog gl0 H30 := okH29.exe [] 400 _ (by kernel_rfl) (by kernel_rfl) (by kernel_rfl) (fun args w => by kernel_rfl)
noncomputable def H31 : Ctx := H30.exe Tryd.prog gl0 [] 400 Tryd.f46.params.size 46 Tryd.f46
theorem okH31 : COKs Tryd.prog gl0 H31 := okH30.exe [] 400 _ (by kernel_rfl) (by kernel_rfl) (by kernel_rfl) (fun args w => by kernel_rfl)
end Go.Sym

namespace Go.Spec
open Go.Sym
/-- The text of which a retry's random bytes are the sum. -/
def hrr : By := [72#8, 101#8, 108#8, 108#8, 111#8, 82#8, 101#8, 116#8, 114#8, 121#8, 82#8, 101#8, 113#8, 117#8, 101#8, 115#8, 116#8]
theorem hrr0 : shaB hrr 0 = 207#8 := by rw [shaB_eq]; kernel_rfl
theorem hrr_and : andP (fun (i : Nat) => decide (BitVec.ofNat 8 0 = shaB hrr i)) 0 32 true = false := by
  show (decide (BitVec.ofNat 8 0 = shaB hrr 0) && _) = false
  rw [hrr0]
  rfl
end Go.Spec
namespace Go.Sym
open Go.Proofs Go.Spec
set_option linter.unusedVariables false
set_option maxHeartbeats 0 in
set_option maxRecDepth 100000 in
theorem vh17  : bodyP Tryd.prog H31 gl0 [] [] 3000 Tryd.f17 0 [] [] (retQ Tryd.prog Tryd.f17 0 ⟨[], .bool true, [], []⟩) = (
let x1 := andP (fun (i : Nat) => decide (BitVec.ofNat 8 0 = shaB [BitVec.ofNat 8 72, BitVec.ofNat 8 101, BitVec.ofNat 8 108, BitVec.ofNat 8 108, BitVec.ofNat 8 111, BitVec.ofNat 8 82, BitVec.ofNat 8 101, BitVec.ofNat 8 116, BitVec.ofNat 8 114, BitVec.ofNat 8 121, BitVec.ofNat 8 82, BitVec.ofNat 8 101, BitVec.ofNat 8 113, BitVec.ofNat 8 117, BitVec.ofNat 8 101, BitVec.ofNat 8 115, BitVec.ofNat 8 116] i)) 0 32 Bool.true; let x2 := 0 < 17 ∧ 0 < 17 ∧ 17 = 17 ∧ 17 < 4611686018427387904 ∧ Bool.true = Bool.false ∧ True; @Bool.rec (fun _ => Prop) (0 < 17 ∧ 0 < 17 ∧ 17 = 17 ∧ 17 < 4611686018427387904 ∧ @Bool.rec (fun _ => Prop) (@Bool.rec (fun _ => Prop) (0 < 17 ∧ 0 < 17 ∧ 17 = 17 ∧ 17 < 4611686018427387904 ∧ x2) (0 < 17 ∧ 0 < 17 ∧ 17 = 17 ∧ 17 < 4611686018427387904 ∧ x2) !x1) x2 x1) (0 < 17 ∧ 0 < 17 ∧ 17 = 17 ∧ 17 < 4611686018427387904 ∧ (0 : Int) ≤ Int.ofNat 16 ∧ (0 : Int) ≤ Int.ofNat 8 ∧ 1 = 1 ∧ roomFor 0 1 1 ∧ (0 : Int) ≤ Int.ofNat 0 ∧ 1 = 1 ∧ 1 = 1 ∧ roomFor 1 1 1 ∧ 2 = 2 ∧ roomFor 2 32 1 ∧ (0 : Int) ≤ Int.ofNat 8 ∧ 34 = 34 ∧ 0 = 0 ∧ roomFor 0 34 1 ∧ (0 : Int) ≤ Int.ofNat 0 ∧ 1 = 1 ∧ 34 = 34 ∧ roomFor 34 1 1 ∧ 35 = 35 ∧ roomFor 35 0 1 ∧ (0 : Int) ≤ Int.ofNat 16 ∧ 35 = 35 ∧ 0 = 0 ∧ roomFor 0 35 1 ∧ (0 : Int) ≤ Int.ofNat 8 ∧ 1 = 1 ∧ 35 = 35 ∧ roomFor 35 1 1 ∧ (0 : Int) ≤ Int.ofNat 0 ∧ 1 = 1 ∧ 36 = 36 ∧ roomFor 36 1 1 ∧ (0 : Int) ≤ Int.ofNat 8 ∧ 37 = 37 ∧ 0 = 0 ∧ roomFor 0 37 1 ∧ (0 : Int) ≤ Int.ofNat 0 ∧ 1 = 1 ∧ 37 = 37 ∧ roomFor 37 1 1 ∧ (0 : Int) ≤ Int.ofNat 16 ∧ (0 : Int) ≤ Int.ofNat 8 ∧ 1 = 1 ∧ roomFor 0 1 1 ∧ (0 : Int) ≤ Int.ofNat 0 ∧ 1 = 1 ∧ 1 = 1 ∧ roomFor 1 1 1 ∧ (0 : Int) ≤ Int.ofNat 16 ∧ (0 : Int) ≤ Int.ofNat 8 ∧ 1 = 1 ∧ roomFor 0 1 1 ∧ (0 : Int) ≤ Int.ofNat 0 ∧ 1 = 1 ∧ 1 = 1 ∧ roomFor 1 1 1 ∧ (0 : Int) ≤ Int.ofNat 16 ∧ 2 = 2 ∧ 0 = 0 ∧ roomFor 0 2 1 ∧ (0 : Int) ≤ Int.ofNat 8 ∧ 1 = 1 ∧ 2 = 2 ∧ roomFor 2 1 1 ∧ (0 : Int) ≤ Int.ofNat 0 ∧ 1 = 1 ∧ 3 = 3 ∧ roomFor 3 1 1 ∧ 2 = 2 ∧ 4 = 4 ∧ roomFor 4 2 1 ∧ (0 : Int) ≤ Int.ofNat 16 ∧ 38 = 38 ∧ 0 = 0 ∧ roomFor 0 38 1 ∧ (0 : Int) ≤ Int.ofNat 8 ∧ 1 = 1 ∧ 38 = 38 ∧ roomFor 38 1 1 ∧ (0 : Int) ≤ Int.ofNat 0 ∧ 1 = 1 ∧ 39 = 39 ∧ roomFor 39 1 1 ∧ 6 = 6 ∧ 40 = 40 ∧ roomFor 40 6 1 ∧ @Bool.rec (fun _ => Prop) (@Bool.rec (fun _ => Prop) (46 = 46 ∧ 0 = 0 ∧ roomFor 0 46 1 ∧ (0 : Int) ≤ (2 : Int) ∧ 2 ≤ 46 ∧ 2 ≤ 46 ∧ 0 = 0 ∧ roomFor 0 2 1 ∧ (0 : Int) ≤ (2 : Int) ∧ 2 ≤ 46 ∧ (0 : Int) ≤ (0 : Int) ∧ 0 < 2 ∧ 0 < 2 ∧ (0 : Int) ≤ Int.ofNat 1 ∧ 1 < 2 ∧ 1 < 2 ∧ (0 : Int) ≤ (32 : Int) ∧ 32 ≤ 44 ∧ 34 ≤ 46 ∧ 0 = 0 ∧ roomFor 0 32 1 ∧ (0 : Int) ≤ (32 : Int) ∧ 32 ≤ 44 ∧ 32 = 32 ∧ (0 : Int) ≤ (1 : Int) ∧ 1 ≤ 12 ∧ 35 ≤ 46 ∧ 0 = 0 ∧ roomFor 0 1 1 ∧ (0 : Int) ≤ (1 : Int) ∧ 1 ≤ 12 ∧ (0 : Int) ≤ (0 : Int) ∧ 0 < 1 ∧ 0 < 1 ∧ (0 : Int) ≤ Int.ofNat 0 ∧ 0 ≤ 11 ∧ 35 ≤ 46 ∧ 0 = 0 ∧ roomFor 0 0 1 ∧ (0 : Int) ≤ Int.ofNat 0 ∧ 0 ≤ 11 ∧ 0 < 17 ∧ 0 < 17 ∧ 17 = 17 ∧ 17 < 4611686018427387904 ∧ (0 : Int) ≤ (2 : Int) ∧ 2 ≤ 11 ∧ 37 ≤ 46 ∧ 0 = 0 ∧ roomFor 0 2 1 ∧ (0 : Int) ≤ (2 : Int) ∧ 2 ≤ 11 ∧ (0 : Int) ≤ (0 : Int) ∧ 0 < 2 ∧ 0 < 2 ∧ (0 : Int) ≤ Int.ofNat 1 ∧ 1 < 2 ∧ 1 < 2 ∧ (0 : Int) ≤ (1 : Int) ∧ 1 ≤ 9 ∧ 38 ≤ 46 ∧ 0 = 0 ∧ roomFor 0 1 1 ∧ (0 : Int) ≤ (1 : Int) ∧ 1 ≤ 9 ∧ (0 : Int) ≤ (0 : Int) ∧ 0 < 1 ∧ 0 < 1 ∧ (0 : Int) ≤ (2 : Int) ∧ 2 ≤ 8 ∧ 40 ≤ 46 ∧ 0 = 0 ∧ roomFor 0 2 1 ∧ (0 : Int) ≤ (2 : Int) ∧ 2 ≤ 8 ∧ (0 : Int) ≤ (0 : Int) ∧ 0 < 2 ∧ 0 < 2 ∧ (0 : Int) ≤ Int.ofNat 1 ∧ 1 < 2 ∧ 1 < 2 ∧ (0 : Int) ≤ Int.ofNat 6 ∧ 6 ≤ 6 ∧ 46 ≤ 46 ∧ 0 = 0 ∧ roomFor 0 6 1 ∧ (0 : Int) ≤ Int.ofNat 6 ∧ 6 ≤ 6 ∧ 6 = 6 ∧ 0 = 0 ∧ roomFor 0 6 1 ∧ (0 : Int) ≤ (2 : Int) ∧ 2 ≤ 6 ∧ 2 ≤ 6 ∧ 0 = 0 ∧ roomFor 0 2 1 ∧ (0 : Int) ≤ (2 : Int) ∧ 2 ≤ 6 ∧ (0 : Int) ≤ (0 : Int) ∧ 0 < 2 ∧ 0 < 2 ∧ (0 : Int) ≤ Int.ofNat 1 ∧ 1 < 2 ∧ 1 < 2 ∧ (0 : Int) ≤ (2 : Int) ∧ 2 ≤ 4 ∧ 4 ≤ 6 ∧ 0 = 0 ∧ roomFor 0 2 1 ∧ (0 : Int) ≤ (2 : Int) ∧ 2 ≤ 4 ∧ (0 : Int) ≤ (0 : Int) ∧ 0 < 2 ∧ 0 < 2 ∧ (0 : Int) ≤ Int.ofNat 1 ∧ 1 < 2 ∧ 1 < 2 ∧ (0 : Int) ≤ Int.ofNat 2 ∧ 2 ≤ 2 ∧ 6 ≤ 6 ∧ 0 = 0 ∧ roomFor 0 2 1 ∧ (0 : Int) ≤ Int.ofNat 2 ∧ 2 ≤ 2 ∧ 2 = 2 ∧ 0 = 0 ∧ roomFor 0 2 1 ∧ (0 : Int) ≤ (2 : Int) ∧ 2 ≤ 2 ∧ 2 ≤ 2 ∧ 0 = 0 ∧ roomFor 0 2 1 ∧ (0 : Int) ≤ (2 : Int) ∧ 2 ≤ 2 ∧ (0 : Int) ≤ (0 : Int) ∧ 0 < 2 ∧ 0 < 2 ∧ (0 : Int) ≤ Int.ofNat 1 ∧ 1 < 2 ∧ 1 < 2 ∧ x2) (46 = 46 ∧ 0 = 0 ∧ roomFor 0 46 1 ∧ (0 : Int) ≤ (2 : Int) ∧ 2 ≤ 46 ∧ 2 ≤ 46 ∧ 0 = 0 ∧ roomFor 0 2 1 ∧ (0 : Int) ≤ (2 : Int) ∧ 2 ≤ 46 ∧ (0 : Int) ≤ (0 : Int) ∧ 0 < 2 ∧ 0 < 2 ∧ (0 : Int) ≤ Int.ofNat 1 ∧ 1 < 2 ∧ 1 < 2 ∧ (0 : Int) ≤ (32 : Int) ∧ 32 ≤ 44 ∧ 34 ≤ 46 ∧ 0 = 0 ∧ roomFor 0 32 1 ∧ (0 : Int) ≤ (32 : Int) ∧ 32 ≤ 44 ∧ 32 = 32 ∧ (0 : Int) ≤ (1 : Int) ∧ 1 ≤ 12 ∧ 35 ≤ 46 ∧ 0 = 0 ∧ roomFor 0 1 1 ∧ (0 : Int) ≤ (1 : Int) ∧ 1 ≤ 12 ∧ (0 : Int) ≤ (0 : Int) ∧ 0 < 1 ∧ 0 < 1 ∧ (0 : Int) ≤ Int.ofNat 0 ∧ 0 ≤ 11 ∧ 35 ≤ 46 ∧ 0 = 0 ∧ roomFor 0 0 1 ∧ (0 : Int) ≤ Int.ofNat 0 ∧ 0 ≤ 11 ∧ 0 < 17 ∧ 0 < 17 ∧ 17 = 17 ∧ 17 < 4611686018427387904 ∧ (0 : Int) ≤ (2 : Int) ∧ 2 ≤ 11 ∧ 37 ≤ 46 ∧ 0 = 0 ∧ roomFor 0 2 1 ∧ (0 : Int) ≤ (2 : Int) ∧ 2 ≤ 11 ∧ (0 : Int) ≤ (0 : Int) ∧ 0 < 2 ∧ 0 < 2 ∧ (0 : Int) ≤ Int.ofNat 1 ∧ 1 < 2 ∧ 1 < 2 ∧ (0 : Int) ≤ (1 : Int) ∧ 1 ≤ 9 ∧ 38 ≤ 46 ∧ 0 = 0 ∧ roomFor 0 1 1 ∧ (0 : Int) ≤ (1 : Int) ∧ 1 ≤ 9 ∧ (0 : Int) ≤ (0 : Int) ∧ 0 < 1 ∧ 0 < 1 ∧ (0 : Int) ≤ (2 : Int) ∧ 2 ≤ 8 ∧ 40 ≤ 46 ∧ 0 = 0 ∧ roomFor 0 2 1 ∧ (0 : Int) ≤ (2 : Int) ∧ 2 ≤ 8 ∧ (0 : Int) ≤ (0 : Int) ∧ 0 < 2 ∧ 0 < 2 ∧ (0 : Int) ≤ Int.ofNat 1 ∧ 1 < 2 ∧ 1 < 2 ∧ (0 : Int) ≤ Int.ofNat 6 ∧ 6 ≤ 6 ∧ 46 ≤ 46 ∧ 0 = 0 ∧ roomFor 0 6 1 ∧ (0 : Int) ≤ Int.ofNat 6 ∧ 6 ≤ 6 ∧ 6 = 6 ∧ 0 = 0 ∧ roomFor 0 6 1 ∧ (0 : Int) ≤ (2 : Int) ∧ 2 ≤ 6 ∧ 2 ≤ 6 ∧ 0 = 0 ∧ roomFor 0 2 1 ∧ (0 : Int) ≤ (2 : Int) ∧ 2 ≤ 6 ∧ (0 : Int) ≤ (0 : Int) ∧ 0 < 2 ∧ 0 < 2 ∧ (0 : Int) ≤ Int.ofNat 1 ∧ 1 < 2 ∧ 1 < 2 ∧ (0 : Int) ≤ (2 : Int) ∧ 2 ≤ 4 ∧ 4 ≤ 6 ∧ 0 = 0 ∧ roomFor 0 2 1 ∧ (0 : Int) ≤ (2 : Int) ∧ 2 ≤ 4 ∧ (0 : Int) ≤ (0 : Int) ∧ 0 < 2 ∧ 0 < 2 ∧ (0 : Int) ≤ Int.ofNat 1 ∧ 1 < 2 ∧ 1 < 2 ∧ (0 : Int) ≤ Int.ofNat 2 ∧ 2 ≤ 2 ∧ 6 ≤ 6 ∧ 0 = 0 ∧ roomFor 0 2 1 ∧ (0 : Int) ≤ Int.ofNat 2 ∧ 2 ≤ 2 ∧ 2 = 2 ∧ 0 = 0 ∧ roomFor 0 2 1 ∧ (0 : Int) ≤ (2 : Int) ∧ 2 ≤ 2 ∧ 2 ≤ 2 ∧ 0 = 0 ∧ roomFor 0 2 1 ∧ (0 : Int) ≤ (2 : Int) ∧ 2 ≤ 2 ∧ (0 : Int) ≤ (0 : Int) ∧ 0 < 2 ∧ 0 < 2 ∧ (0 : Int) ≤ Int.ofNat 1 ∧ 1 < 2 ∧ 1 < 2 ∧ 0 < 17 ∧ 0 < 17 ∧ 17 = 17 ∧ 17 < 4611686018427387904 ∧ Bool.true = Bool.true ∧ True) !x1) (46 = 46 ∧ 0 = 0 ∧ roomFor 0 46 1 ∧ (0 : Int) ≤ (2 : Int) ∧ 2 ≤ 46 ∧ 2 ≤ 46 ∧ 0 = 0 ∧ roomFor 0 2 1 ∧ (0 : Int) ≤ (2 : Int) ∧ 2 ≤ 46 ∧ (0 : Int) ≤ (0 : Int) ∧ 0 < 2 ∧ 0 < 2 ∧ (0 : Int) ≤ Int.ofNat 1 ∧ 1 < 2 ∧ 1 < 2 ∧ (0 : Int) ≤ (32 : Int) ∧ 32 ≤ 44 ∧ 34 ≤ 46 ∧ 0 = 0 ∧ roomFor 0 32 1 ∧ (0 : Int) ≤ (32 : Int) ∧ 32 ≤ 44 ∧ 32 = 32 ∧ (0 : Int) ≤ (1 : Int) ∧ 1 ≤ 12 ∧ 35 ≤ 46 ∧ 0 = 0 ∧ roomFor 0 1 1 ∧ (0 : Int) ≤ (1 : Int) ∧ 1 ≤ 12 ∧ (0 : Int) ≤ (0 : Int) ∧ 0 < 1 ∧ 0 < 1 ∧ (0 : Int) ≤ Int.ofNat 0 ∧ 0 ≤ 11 ∧ 35 ≤ 46 ∧ 0 = 0 ∧ roomFor 0 0 1 ∧ (0 : Int) ≤ Int.ofNat 0 ∧ 0 ≤ 11 ∧ 0 < 17 ∧ 0 < 17 ∧ 17 = 17 ∧ 17 < 4611686018427387904 ∧ (0 : Int) ≤ (2 : Int) ∧ 2 ≤ 11 ∧ 37 ≤ 46 ∧ 0 = 0 ∧ roomFor 0 2 1 ∧ (0 : Int) ≤ (2 : Int) ∧ 2 ≤ 11 ∧ (0 : Int) ≤ (0 : Int) ∧ 0 < 2 ∧ 0 < 2 ∧ (0 : Int) ≤ Int.ofNat 1 ∧ 1 < 2 ∧ 1 < 2 ∧ (0 : Int) ≤ (1 : Int) ∧ 1 ≤ 9 ∧ 38 ≤ 46 ∧ 0 = 0 ∧ roomFor 0 1 1 ∧ (0 : Int) ≤ (1 : Int) ∧ 1 ≤ 9 ∧ (0 : Int) ≤ (0 : Int) ∧ 0 < 1 ∧ 0 < 1 ∧ (0 : Int) ≤ (2 : Int) ∧ 2 ≤ 8 ∧ 40 ≤ 46 ∧ 0 = 0 ∧ roomFor 0 2 1 ∧ (0 : Int) ≤ (2 : Int) ∧ 2 ≤ 8 ∧ (0 : Int) ≤ (0 : Int) ∧ 0 < 2 ∧ 0 < 2 ∧ (0 : Int) ≤ Int.ofNat 1 ∧ 1 < 2 ∧ 1 < 2 ∧ (0 : Int) ≤ Int.ofNat 6 ∧ 6 ≤ 6 ∧ 46 ≤ 46 ∧ 0 = 0 ∧ roomFor 0 6 1 ∧ (0 : Int) ≤ Int.ofNat 6 ∧ 6 ≤ 6 ∧ 6 = 6 ∧ 0 = 0 ∧ roomFor 0 6 1 ∧ (0 : Int) ≤ (2 : Int) ∧ 2 ≤ 6 ∧ 2 ≤ 6 ∧ 0 = 0 ∧ roomFor 0 2 1 ∧ (0 : Int) ≤ (2 : Int) ∧ 2 ≤ 6 ∧ (0 : Int) ≤ (0 : Int) ∧ 0 < 2 ∧ 0 < 2 ∧ (0 : Int) ≤ Int.ofNat 1 ∧ 1 < 2 ∧ 1 < 2 ∧ (0 : Int) ≤ (2 : Int) ∧ 2 ≤ 4 ∧ 4 ≤ 6 ∧ 0 = 0 ∧ roomFor 0 2 1 ∧ (0 : Int) ≤ (2 : Int) ∧ 2 ≤ 4 ∧ (0 : Int) ≤ (0 : Int) ∧ 0 < 2 ∧ 0 < 2 ∧ (0 : Int) ≤ Int.ofNat 1 ∧ 1 < 2 ∧ 1 < 2 ∧ (0 : Int) ≤ Int.ofNat 2 ∧ 2 ≤ 2 ∧ 6 ≤ 6 ∧ 0 = 0 ∧ roomFor 0 2 1 ∧ (0 : Int) ≤ Int.ofNat 2 ∧ 2 ≤ 2 ∧ 2 = 2 ∧ 0 = 0 ∧ roomFor 0 2 1 ∧ (0 : Int) ≤ (2 : Int) ∧ 2 ≤ 2 ∧ 2 ≤ 2 ∧ 0 = 0 ∧ roomFor 0 2 1 ∧ (0 : Int) ≤ (2 : Int) ∧ 2 ≤ 2 ∧ (0 : Int) ≤ (0 : Int) ∧ 0 < 2 ∧ 0 < 2 ∧ (0 : Int) ≤ Int.ofNat 1 ∧ 1 < 2 ∧ 1 < 2 ∧ Bool.true = Bool.false ∧ True) x1) !x1 : Prop) := by kernel_rfl
set_option maxHeartbeats 0 in
set_option maxRecDepth 100000 in
theorem bh17 : Must (bodyP Tryd.prog H31 gl0 [] [] 3000 Tryd.f17 0 [] [] (retQ Tryd.prog Tryd.f17 0 ⟨[], .bool true, [], []⟩)) := by
  constructor
  rw [vh17]
  intro x1 x2
  have h1 : x1 = false := hrr_and
  clear_value x1
  subst h1
  repeat' first
    | decide
    | exact trivial
    | (unfold roomFor; decide)
    | refine ⟨?_, ?_⟩
    | refine brec (fun h => ?_) (fun h => absurd h (by decide))
    | refine brec (fun h => absurd h (by decide)) (fun h => ?_)
end Go.Sym

namespace Go.Sym
open Go.Proofs Go.Spec
set_option linter.unusedVariables false
def gGr (xs : List AV) (bs : List ABlk) : TL := match xs, bs with
  | [], [] => .ok ⟨[], .bool true, [], []⟩
  | _, _ => .no
def spGr : Spec := ⟨[], fun _ _ => [], fun _ _ => [], gGr⟩
theorem ch17 : COK Tryd.prog gl0 17 (mkF spGr) := by
  refine ctrE (fn := Tryd.f17) [] 3000 (by kernel_rfl) (by kernel_rfl) okH31 (by kernel_rfl) (fun args w => by kernel_rfl) fun xs bs r hs ho => ?_
  replace hs : (gGr xs bs).sel = some r := hs
  unfold gGr at hs
  split at hs
  · simp only [TL.sel, Option.some.injEq] at hs
    subst hs
    exact ⟨[], bh17⟩
  · simp [TL.sel] at hs
noncomputable def L0 : Ctx := H31.add 17 (mkF spGr)
theorem okL0 : COKs Tryd.prog gl0 L0 := okH31.add ch17
noncomputable def L1 : Ctx := L0.exe Tryd.prog gl0 [] 600 2 110 Tryd.f110
theorem okL1 : COKs Tryd.prog gl0 L1 := okL0.exe [] 600 _ (by kernel_rfl) (by kernel_rfl) (by kernel_rfl) (fun args w => by kernel_rfl)
noncomputable def L2 : Ctx := L1.exe Tryd.prog gl0 [] 600 Tryd.f141.params.size 141 Tryd.f141
theorem okL2 : COKs Tryd.prog gl0 L2 := okL1.exe [] 600 _ (by kernel_rfl) (by kernel_rfl) (by kernel_rfl) (fun args w => by kernel_rfl)
noncomputable def L3 : Ctx := L2.exe Tryd.prog gl0 [] 600 Tryd.f109.params.size 109 Tryd.f109
theorem okL3 : COKs Tryd.prog gl0 L3 := okL2.exe [] 600 _ (by kernel_rfl) (by kernel_rfl) (by kernel_rfl) (fun args w => by kernel_rfl)
noncomputable def L4 : Ctx := L3.exe Tryd.prog gl0 [] 600 Tryd.f70.params.size 70 Tryd.f70
theorem okL4 : COKs Tryd.prog gl0 L4 := okL3.exe [] 600 _ (by kernel_rfl) (by kernel_rfl) (by kernel_rfl) (fun args w => by kernel_rfl)
noncomputable def L5 : Ctx := L4.exe Tryd.prog gl0 [] 600 Tryd.f73.params.size 73 Tryd.f73
theorem okL5 : COKs Tryd.prog gl0 L5 := okL4.exe [] 600 _ (by kernel_rfl) (by kernel_rfl) (by kernel_rfl) (fun args w => by kernel_rfl)
noncomputable def L6 : Ctx := L5.exe Tryd.prog gl0 [] 600 2 112 Tryd.f112
theorem okL6 : COKs Tryd.prog gl0 L6 := okL5.exe [] 600 _ (by kernel_rfl) (by kernel_rfl) (by kernel_rfl) (fun args w => by kernel_rfl)
noncomputable def L7 : Ctx := L6.exe Tryd.prog gl0 [] 600 Tryd.f142.params.size 142 Tryd.f142
theorem okL7 : COKs Tryd.prog gl0 L7 := okL6.exe [] 600 _ (by kernel_rfl) (by kernel_rfl) (by kernel_rfl) (fun args w => by kernel_rfl)
noncomputable def L8 : Ctx := L7.exe Tryd.prog gl0 [] 600 Tryd.f111.params.size 111 Tryd.f111
theorem okL8 : COKs Tryd.prog gl0 L8 := okL7.exe [] 600 _ (by kernel_rfl) (by kernel_rfl) (by kernel_rfl) (fun args w => by kernel_rfl)
noncomputable def L9 : Ctx := L8.exe Tryd.prog gl0 [] 600 Tryd.f72.params.size 72 Tryd.f72
theorem okL9 : COKs Tryd.prog gl0 L9 := okL8.exe [] 600 _ (by kernel_rfl) (by kernel_rfl) (by kernel_rfl) (fun args w => by kernel_rfl)
noncomputable def L10 : Ctx := L9.exe Tryd.prog gl0 [] 600 Tryd.f75.params.size 75 Tryd.f75
theorem okL10 : COKs Tryd.prog gl0 L10 := okL9.exe [] 600 _ (by kernel_rfl) (by kernel_rfl) (by kernel_rfl) (fun args w => by kernel_rfl)
noncomputable def L11 : Ctx := L10.exe Tryd.prog gl0 [] 600 2 115 Tryd.f115
theorem okL11 : COKs Tryd.prog gl0 L11 := okL10.exe [] 600 _ (by kernel_rfl) (by kernel_rfl) (by kernel_rfl) (fun args w => by kernel_rfl)
noncomputable def L12 : Ctx := L11.exe Tryd.prog gl0 [] 600 Tryd.f143.params.size 143 Tryd.f143
theorem okL12 : COKs Tryd.prog gl0 L12 := okL11.exe [] 600 _ (by kernel_rfl) (by kernel_rfl) (by kernel_rfl) (fun args w => by kernel_rfl)
noncomputable def L13 : Ctx := L12.exe Tryd.prog gl0 [] 600 Tryd.f114.params.size 114 Tryd.f114
theorem okL13 : COKs Tryd.prog gl0 L13 := okL12.exe [] 600 _ (by kernel_rfl) (by kernel_rfl) (by kernel_rfl) (fun args w => by kernel_rfl)
noncomputable def L14 : Ctx := L13.exe Tryd.prog gl0 [] 600 Tryd.f74.params.size 74 Tryd.f74
theorem okL14 : COKs Tryd.prog gl0 L14 := okL13.exe [] 600 _ (by kernel_rfl) (by kernel_rfl) (by kernel_rfl) (fun args w => by kernel_rfl)
noncomputable def L15 : Ctx := L14.exe Tryd.prog gl0 [] 600 Tryd.f77.params.size 77 Tryd.f77
theorem okL15 : COKs Tryd.prog gl0 L15 := okL14.exe [] 600 _ (by kernel_rfl) (by kernel_rfl) (by kernel_rfl) (fun args w => by kernel_rfl)
noncomputable def L16 : Ctx := L15.exe Tryd.prog gl0 [] 600 2 117 Tryd.f117
theorem okL16 : COKs Tryd.prog gl0 L16 := okL15.exe [] 600 _ (by kernel_rfl) (by kernel_rfl) (by kernel_rfl) (fun args w => by kernel_rfl)
noncomputable def L17 : Ctx := L16.exe Tryd.prog gl0 [] 600 Tryd.f144.params.size 144 Tryd.f144
theorem okL17 : COKs Tryd.prog gl0 L17 := okL16.exe [] 600 _ (by kernel_rfl) (by kernel_rfl) (by kernel_rfl) (fun args w => by kernel_rfl)
noncomputable def L18 : Ctx := L17.exe Tryd.prog gl0 [] 600 Tryd.f116.params.size 116 Tryd.f116
theorem okL18 : COKs Tryd.prog gl0 L18 := okL17.exe [] 600 _ (by kernel_rfl) (by kernel_rfl) (by kernel_rfl) (fun args w => by kernel_rfl)
noncomputable def L19 : Ctx := L18.exe Tryd.prog gl0 [] 600 Tryd.f76.params.size 76 Tryd.f76
theorem okL19 : COKs Tryd.prog gl0 L19 := okL18.exe [] 600 _ (by kernel_rfl) (by kernel_rfl) (by kernel_rfl) (fun args w => by kernel_rfl)
noncomputable def L20 : Ctx := L19.exe Tryd.prog gl0 [] 600 Tryd.f37.params.size 37 Tryd.f37
theorem okL20 : COKs Tryd.prog gl0 L20 := okL19.exe [] 600 _ (by kernel_rfl) (by kernel_rfl) (by kernel_rfl) (fun args w => by kernel_rfl)
noncomputable def L21 : Ctx := L20.exe Tryd.prog gl0 [] 600 Tryd.f80.params.size 80 Tryd.f80
theorem okL21 : COKs Tryd.prog gl0 L21 := okL20.exe [] 600 _ (by kernel_rfl) (by kernel_rfl) (by kernel_rfl) (fun args w => by kernel_rfl)
noncomputable def L22 : Ctx := L21.exe Tryd.prog gl0 [] 600 Tryd.f82.params.size 82 Tryd.f82
theorem okL22 : COKs Tryd.prog gl0 L22 := okL21.exe [] 600 _ (by kernel_rfl) (by kernel_rfl) (by kernel_rfl) (fun args w => by kernel_rfl)
noncomputable def L23 : Ctx := L22.exe Tryd.prog gl0 [] 600 Tryd.f84.params.size 84 Tryd.f84
theorem okL23 : COKs Tryd.prog gl0 L23 := okL22.exe [] 600 _ (by kernel_rfl) (by kernel_rfl) (by kernel_rfl) (fun args w => by kernel_rfl)
noncomputable def L24 : Ctx := L23.exe Tryd.prog gl0 [] 600 Tryd.f38.params.size 38 Tryd.f38
theorem okL24 : COKs Tryd.prog gl0 L24 := okL23.exe [] 600 _ (by kernel_rfl) (by kernel_rfl) (by kernel_rfl) (fun args w => by kernel_rfl)
noncomputable def L25 : Ctx := L24.exe Tryd.prog gl0 [] 600 Tryd.f14.params.size 14 Tryd.f14
theorem okL25 : COKs Tryd.prog gl0 L25 := okL24.exe [] 600 _ (by kernel_rfl) (by kernel_rfl) (by kernel_rfl) (fun args w => by kernel_rfl)
noncomputable def L26 : Ctx := L25.exe Tryd.prog gl0 [] 600 Tryd.f15.params.size 15 Tryd.f15
theorem okL26 : COKs Tryd.prog gl0 L26 := okL25.exe [] 600 _ (by kernel_rfl) (by kernel_rfl) (by kernel_rfl) (fun args w => by kernel_rfl)
end Go.Sym

namespace Go.Sym
open Go.Proofs Go.Spec
set_option linter.unusedVariables false
set_option maxHeartbeats 0 in
set_option maxRecDepth 100000 in
theorem vh7 (a : Int) (more : Bool) : bodyP Tryd.prog L26 gl0 [] [] 3000 Tryd.f7 0 [.int .i64 a, .bool more] [] (retQ Tryd.prog Tryd.f7 0 ⟨[], .bool true, [], []⟩) = ( let x1 := (0 : Int) ≤ (0 : Int) ∧ 0 < 1 ∧ (0 : Int) ≤ (0 : Int) ∧ 0 < 4 ∧ (0 : Int) ≤ Int.ofNat 1 ∧ 1 < 4 ∧ (0 : Int) ≤ Int.ofNat 2 ∧ 2 < 4 ∧ (0 : Int) ≤ Int.ofNat 3 ∧ 3 < 4 ∧ (0 : Int) ≤ Int.ofNat 16 ∧ (0 : Int) ≤ Int.ofNat 8 ∧ 1 = 1 ∧ roomFor 0 1 1 ∧ (0 : Int) ≤ Int.ofNat 0 ∧ 1 = 1 ∧ 1 = 1 ∧ roomFor 1 1 1 ∧ 2 = 2 ∧ roomFor 2 32 1 ∧ (0 : Int) ≤ Int.ofNat 8 ∧ 34 = 34 ∧ 0 = 0 ∧ roomFor 0 34 1 ∧ (0 : Int) ≤ Int.ofNat 0 ∧ 1 = 1 ∧ 34 = 34 ∧ roomFor 34 1 1 ∧ 35 = 35 ∧ roomFor 35 0 1 ∧ (0 : Int) ≤ (0 : Int) ∧ 0 < 1 ∧ (0 : Int) ≤ Int.ofNat 16 ∧ (0 : Int) ≤ Int.ofNat 8 ∧ 1 = 1 ∧ roomFor 0 1 1 ∧ (0 : Int) ≤ Int.ofNat 0 ∧ 1 = 1 ∧ 1 = 1 ∧ roomFor 1 1 1 ∧ (0 : Int) ≤ Int.ofNat 16 ∧ 35 = 35 ∧ 0 = 0 ∧ roomFor 0 35 1 ∧ (0 : Int) ≤ Int.ofNat 8 ∧ 1 = 1 ∧ 35 = 35 ∧ roomFor 35 1 1 ∧ (0 : Int) ≤ Int.ofNat 0 ∧ 1 = 1 ∧ 36 = 36 ∧ roomFor 36 1 1 ∧ 2 = 2 ∧ 37 = 37 ∧ roomFor 37 2 1 ∧ (0 : Int) ≤ Int.ofNat 8 ∧ 39 = 39 ∧ 0 = 0 ∧ roomFor 0 39 1 ∧ (0 : Int) ≤ Int.ofNat 0 ∧ 1 = 1 ∧ 39 = 39 ∧ roomFor 39 1 1 ∧ 1 = 1 ∧ 40 = 40 ∧ roomFor 40 1 1 ∧ (0 : Int) ≤ (0 : Int) ∧ 0 < 4 ∧ (0 : Int) ≤ Int.ofNat 16 ∧ (0 : Int) ≤ Int.ofNat 8 ∧ 1 = 1 ∧ roomFor 0 1 1 ∧ (0 : Int) ≤ Int.ofNat 0 ∧ 1 = 1 ∧ 1 = 1 ∧ roomFor 1 1 1 ∧ (0 : Int) ≤ Int.ofNat 1 ∧ 1 < 4 ∧ (0 : Int) ≤ Int.ofNat 16 ∧ 2 = 2 ∧ 0 = 0 ∧ roomFor 0 2 1 ∧ (0 : Int) ≤ Int.ofNat 8 ∧ 1 = 1 ∧ 2 = 2 ∧ roomFor 2 1 1 ∧ (0 : Int) ≤ Int.ofNat 0 ∧ 1 = 1 ∧ 3 = 3 ∧ roomFor 3 1 1 ∧ (0 : Int) ≤ Int.ofNat 2 ∧ 2 < 4 ∧ (0 : Int) ≤ Int.ofNat 16 ∧ 4 = 4 ∧ 0 = 0 ∧ roomFor 0 4 1 ∧ (0 : Int) ≤ Int.ofNat 8 ∧ 1 = 1 ∧ 4 = 4 ∧ roomFor 4 1 1 ∧ (0 : Int) ≤ Int.ofNat 0 ∧ 1 = 1 ∧ 5 = 5 ∧ roomFor 5 1 1 ∧ (0 : Int) ≤ Int.ofNat 3 ∧ 3 < 4 ∧ (0 : Int) ≤ Int.ofNat 16 ∧ 6 = 6 ∧ 0 = 0 ∧ roomFor 0 6 1 ∧ (0 : Int) ≤ Int.ofNat 8 ∧ 1 = 1 ∧ 6 = 6 ∧ roomFor 6 1 1 ∧ (0 : Int) ≤ Int.ofNat 0 ∧ 1 = 1 ∧ 7 = 7 ∧ roomFor 7 1 1 ∧ (0 : Int) ≤ Int.ofNat 16 ∧ (0 : Int) ≤ Int.ofNat 8 ∧ 1 = 1 ∧ roomFor 0 1 1 ∧ (0 : Int) ≤ Int.ofNat 0 ∧ 1 = 1 ∧ 1 = 1 ∧ roomFor 1 1 1 ∧ 8 = 8 ∧ 2 = 2 ∧ roomFor 2 8 1 ∧ (0 : Int) ≤ Int.ofNat 16 ∧ (0 : Int) ≤ Int.ofNat 8 ∧ 1 = 1 ∧ roomFor 0 1 1 ∧ (0 : Int) ≤ Int.ofNat 0 ∧ 1 = 1 ∧ 1 = 1 ∧ roomFor 1 1 1 ∧ (0 : Int) ≤ Int.ofNat 16 ∧ 2 = 2 ∧ 0 = 0 ∧ roomFor 0 2 1 ∧ (0 : Int) ≤ Int.ofNat 8 ∧ 1 = 1 ∧ 2 = 2 ∧ roomFor 2 1 1 ∧ (0 : Int) ≤ Int.ofNat 0 ∧ 1 = 1 ∧ 3 = 3 ∧ roomFor 3 1 1 ∧ 10 = 10 ∧ 4 = 4 ∧ roomFor 4 10 1 ∧ (0 : Int) ≤ Int.ofNat 16 ∧ 41 = 41 ∧ 0 = 0 ∧ roomFor 0 41 1 ∧ (0 : Int) ≤ Int.ofNat 8 ∧ 1 = 1 ∧ 41 = 41 ∧ roomFor 41 1 1 ∧ (0 : Int) ≤ Int.ofNat 0 ∧ 1 = 1 ∧ 42 = 42 ∧ roomFor 42 1 1 ∧ 14 = 14 ∧ 43 = 43 ∧ roomFor 43 14 1 ∧ @Bool.rec (fun _ => Prop) (Bool.true = Bool.false ∧ True) (Bool.true = decide (Bool.true = !more) ∧ True) (decide (Bool.false = more)); let x2 := (0 : Int) ≤ (0 : Int) ∧ 0 < 1 ∧ (0 : Int) ≤ Int.ofNat 16 ∧ (0 : Int) ≤ Int.ofNat 8 ∧ 1 = 1 ∧ roomFor 0 1 1 ∧ (0 : Int) ≤ Int.ofNat 0 ∧ 1 = 1 ∧ 1 = 1 ∧ roomFor 1 1 1 ∧ 2 = 2 ∧ roomFor 2 32 1 ∧ (0 : Int) ≤ Int.ofNat 8 ∧ 34 = 34 ∧ 0 = 0 ∧ roomFor 0 34 1 ∧ (0 : Int) ≤ Int.ofNat 0 ∧ 1 = 1 ∧ 34 = 34 ∧ roomFor 34 1 1 ∧ 35 = 35 ∧ roomFor 35 0 1 ∧ (0 : Int) ≤ (0 : Int) ∧ 0 < 1 ∧ (0 : Int) ≤ Int.ofNat 16 ∧ (0 : Int) ≤ Int.ofNat 8 ∧ 1 = 1 ∧ roomFor 0 1 1 ∧ (0 : Int) ≤ Int.ofNat 0 ∧ 1 = 1 ∧ 1 = 1 ∧ roomFor 1 1 1 ∧ (0 : Int) ≤ Int.ofNat 16 ∧ 35 = 35 ∧ 0 = 0 ∧ roomFor 0 35 1 ∧ (0 : Int) ≤ Int.ofNat 8 ∧ 1 = 1 ∧ 35 = 35 ∧ roomFor 35 1 1 ∧ (0 : Int) ≤ Int.ofNat 0 ∧ 1 = 1 ∧ 36 = 36 ∧ roomFor 36 1 1 ∧ 2 = 2 ∧ 37 = 37 ∧ roomFor 37 2 1 ∧ (0 : Int) ≤ Int.ofNat 8 ∧ 39 = 39 ∧ 0 = 0 ∧ roomFor 0 39 1 ∧ (0 : Int) ≤ Int.ofNat 0 ∧ 1 = 1 ∧ 39 = 39 ∧ roomFor 39 1 1 ∧ 1 = 1 ∧ 40 = 40 ∧ roomFor 40 1 1 ∧ (0 : Int) ≤ Int.ofNat 16 ∧ 41 = 41 ∧ 0 = 0 ∧ roomFor 0 41 1 ∧ (0 : Int) ≤ Int.ofNat 8 ∧ 1 = 1 ∧ 41 = 41 ∧ roomFor 41 1 1 ∧ (0 : Int) ≤ Int.ofNat 0 ∧ 1 = 1 ∧ 42 = 42 ∧ roomFor 42 1 1 ∧ 43 = 43 ∧ roomFor 43 0 1 ∧ @Bool.rec (fun _ => Prop) (Bool.true = Bool.false ∧ True) (Bool.true = decide (Bool.true = !more) ∧ True) (decide (Bool.false = more)); let x3 := IntKind.i64.wrap (↑(BitVec.ofInt 64 a % BitVec.ofNat 64 6).toNat : Int); let x4 := (0 : Int) ≤ (0 : Int) ∧ 0 < 1 ∧ @Bool.rec (fun _ => Prop) (Bool.true = Bool.false ∧ True) (Bool.true = decide (Bool.false = !more) ∧ True) (decide (Bool.true = more)); let x5 := @Bool.rec (fun _ => Prop) (Bool.true = Bool.false ∧ True) (Bool.true = decide (Bool.true = !more) ∧ True) (decide (Bool.false = more)); @Bool.rec (fun _ => Prop) (roomFor 0 1 8 ∧ roomFor 1 1 8 ∧ roomFor 2 1 8 ∧ roomFor 3 1 8 ∧ @Bool.rec (fun _ => Prop) (@Bool.rec (fun _ => Prop) (@Bool.rec (fun _ => Prop) (@Bool.rec (fun _ => Prop) (@Bool.rec (fun _ => Prop) (@Bool.rec (fun _ => Prop) x2 (roomFor 0 1 32 ∧ 32 ≤ 32 ∧ 32 ≤ 281474976710656 ∧ 32 ≤ 9223372036854775807 ∧ roomFor 0 1 24 ∧ roomFor 1 1 32 ∧ 32 ≤ 32 ∧ 32 ≤ 281474976710656 ∧ 32 ≤ 9223372036854775807 ∧ roomFor 1 1 24 ∧ roomFor 2 1 32 ∧ 32 ≤ 32 ∧ 32 ≤ 281474976710656 ∧ 32 ≤ 9223372036854775807 ∧ roomFor 2 1 24 ∧ roomFor 3 1 32 ∧ 32 ≤ 32 ∧ 32 ≤ 281474976710656 ∧ 32 ≤ 9223372036854775807 ∧ roomFor 3 1 24 ∧ (0 : Int) ≤ (0 : Int) ∧ 0 < 4 ∧ (0 : Int) ≤ (0 : Int) ∧ 0 < 4 ∧ roomFor 0 1 32 ∧ (0 : Int) ≤ Int.ofNat 1 ∧ 1 < 4 ∧ (0 : Int) ≤ Int.ofNat 1 ∧ 1 < 4 ∧ roomFor 1 1 32 ∧ (0 : Int) ≤ Int.ofNat 2 ∧ 2 < 4 ∧ (0 : Int) ≤ Int.ofNat 2 ∧ 2 < 4 ∧ roomFor 2 1 32 ∧ (0 : Int) ≤ Int.ofNat 3 ∧ 3 < 4 ∧ (0 : Int) ≤ Int.ofNat 3 ∧ 3 < 4 ∧ roomFor 3 1 32 ∧ (0 : Int) ≤ (0 : Int) ∧ 0 < 1 ∧ (0 : Int) ≤ (0 : Int) ∧ 0 < 4 ∧ (0 : Int) ≤ Int.ofNat 1 ∧ 1 < 4 ∧ (0 : Int) ≤ Int.ofNat 2 ∧ 2 < 4 ∧ (0 : Int) ≤ Int.ofNat 3 ∧ 3 < 4 ∧ (0 : Int) ≤ (0 : Int) ∧ 0 < 4 ∧ (0 : Int) ≤ Int.ofNat 1 ∧ 1 < 4 ∧ (0 : Int) ≤ Int.ofNat 2 ∧ 2 < 4 ∧ (0 : Int) ≤ Int.ofNat 3 ∧ 3 < 4 ∧ (0 : Int) ≤ Int.ofNat 16 ∧ (0 : Int) ≤ Int.ofNat 8 ∧ 1 = 1 ∧ roomFor 0 1 1 ∧ (0 : Int) ≤ Int.ofNat 0 ∧ 1 = 1 ∧ 1 = 1 ∧ roomFor 1 1 1 ∧ 2 = 2 ∧ roomFor 2 32 1 ∧ (0 : Int) ≤ Int.ofNat 8 ∧ 34 = 34 ∧ 0 = 0 ∧ roomFor 0 34 1 ∧ (0 : Int) ≤ Int.ofNat 0 ∧ 1 = 1 ∧ 34 = 34 ∧ roomFor 34 1 1 ∧ 35 = 35 ∧ roomFor 35 0 1 ∧ (0 : Int) ≤ (0 : Int) ∧ 0 < 1 ∧ (0 : Int) ≤ Int.ofNat 16 ∧ (0 : Int) ≤ Int.ofNat 8 ∧ 1 = 1 ∧ roomFor 0 1 1 ∧ (0 : Int) ≤ Int.ofNat 0 ∧ 1 = 1 ∧ 1 = 1 ∧ roomFor 1 1 1 ∧ (0 : Int) ≤ Int.ofNat 16 ∧ 35 = 35 ∧ 0 = 0 ∧ roomFor 0 35 1 ∧ (0 : Int) ≤ Int.ofNat 8 ∧ 1 = 1 ∧ 35 = 35 ∧ roomFor 35 1 1 ∧ (0 : Int) ≤ Int.ofNat 0 ∧ 1 = 1 ∧ 36 = 36 ∧ roomFor 36 1 1 ∧ 2 = 2 ∧ 37 = 37 ∧ roomFor 37 2 1 ∧ (0 : Int) ≤ Int.ofNat 8 ∧ 39 = 39 ∧ 0 = 0 ∧ roomFor 0 39 1 ∧ (0 : Int) ≤ Int.ofNat 0 ∧ 1 = 1 ∧ 39 = 39 ∧ roomFor 39 1 1 ∧ 1 = 1 ∧ 40 = 40 ∧ roomFor 40 1 1 ∧ (0 : Int) ≤ (0 : Int) ∧ 0 < 4 ∧ (0 : Int) ≤ Int.ofNat 16 ∧ (0 : Int) ≤ Int.ofNat 8 ∧ 1 = 1 ∧ roomFor 0 1 1 ∧ (0 : Int) ≤ Int.ofNat 0 ∧ 1 = 1 ∧ 1 = 1 ∧ roomFor 1 1 1 ∧ 1 = 1 ∧ 2 = 2 ∧ roomFor 2 1 1 ∧ (0 : Int) ≤ Int.ofNat 32 ∧ 3 = 3 ∧ 0 = 0 ∧ roomFor 0 3 1 ∧ (0 : Int) ≤ Int.ofNat 24 ∧ 1 = 1 ∧ 3 = 3 ∧ roomFor 3 1 1 ∧ (0 : Int) ≤ Int.ofNat 16 ∧ 1 = 1 ∧ 4 = 4 ∧ roomFor 4 1 1 ∧ (0 : Int) ≤ Int.ofNat 8 ∧ 1 = 1 ∧ 5 = 5 ∧ roomFor 5 1 1 ∧ (0 : Int) ≤ Int.ofNat 0 ∧ 1 = 1 ∧ 6 = 6 ∧ roomFor 6 1 1 ∧ (0 : Int) ≤ (0 : Int) ∧ 0 < 4 ∧ (0 : Int) ≤ Int.ofNat 8 ∧ (0 : Int) ≤ Int.ofNat 0 ∧ 1 = 1 ∧ roomFor 0 1 1 ∧ 32 = 32 ∧ 1 = 1 ∧ roomFor 1 32 1 ∧ (0 : Int) ≤ Int.ofNat 1 ∧ 1 < 4 ∧ (0 : Int) ≤ Int.ofNat 16 ∧ 7 = 7 ∧ 0 = 0 ∧ roomFor 0 7 1 ∧ (0 : Int) ≤ Int.ofNat 8 ∧ 1 = 1 ∧ 7 = 7 ∧ roomFor 7 1 1 ∧ (0 : Int) ≤ Int.ofNat 0 ∧ 1 = 1 ∧ 8 = 8 ∧ roomFor 8 1 1 ∧ 1 = 1 ∧ 9 = 9 ∧ roomFor 9 1 1 ∧ (0 : Int) ≤ Int.ofNat 32 ∧ 10 = 10 ∧ 0 = 0 ∧ roomFor 0 10 1 ∧ (0 : Int) ≤ Int.ofNat 24 ∧ 1 = 1 ∧ 10 = 10 ∧ roomFor 10 1 1 ∧ (0 : Int) ≤ Int.ofNat 16 ∧ 1 = 1 ∧ 11 = 11 ∧ roomFor 11 1 1 ∧ (0 : Int) ≤ Int.ofNat 8 ∧ 1 = 1 ∧ 12 = 12 ∧ roomFor 12 1 1 ∧ (0 : Int) ≤ Int.ofNat 0 ∧ 1 = 1 ∧ 13 = 13 ∧ roomFor 13 1 1 ∧ (0 : Int) ≤ Int.ofNat 1 ∧ 1 < 4 ∧ (0 : Int) ≤ Int.ofNat 8 ∧ 33 = 33 ∧ 0 = 0 ∧ roomFor 0 33 1 ∧ (0 : Int) ≤ Int.ofNat 0 ∧ 1 = 1 ∧ 33 = 33 ∧ roomFor 33 1 1 ∧ 32 = 32 ∧ 34 = 34 ∧ roomFor 34 32 1 ∧ (0 : Int) ≤ Int.ofNat 2 ∧ 2 < 4 ∧ (0 : Int) ≤ Int.ofNat 16 ∧ 14 = 14 ∧ 0 = 0 ∧ roomFor 0 14 1 ∧ (0 : Int) ≤ Int.ofNat 8 ∧ 1 = 1 ∧ 14 = 14 ∧ roomFor 14 1 1 ∧ (0 : Int) ≤ Int.ofNat 0 ∧ 1 = 1 ∧ 15 = 15 ∧ roomFor 15 1 1 ∧ 1 = 1 ∧ 16 = 16 ∧ roomFor 16 1 1 ∧ (0 : Int) ≤ Int.ofNat 32 ∧ 17 = 17 ∧ 0 = 0 ∧ roomFor 0 17 1 ∧ (0 : Int) ≤ Int.ofNat 24 ∧ 1 = 1 ∧ 17 = 17 ∧ roomFor 17 1 1 ∧ (0 : Int) ≤ Int.ofNat 16 ∧ 1 = 1 ∧ 18 = 18 ∧ roomFor 18 1 1 ∧ (0 : Int) ≤ Int.ofNat 8 ∧ 1 = 1 ∧ 19 = 19 ∧ roomFor 19 1 1 ∧ (0 : Int) ≤ Int.ofNat 0 ∧ 1 = 1 ∧ 20 = 20 ∧ roomFor 20 1 1 ∧ (0 : Int) ≤ Int.ofNat 2 ∧ 2 < 4 ∧ (0 : Int) ≤ Int.ofNat 8 ∧ 66 = 66 ∧ 0 = 0 ∧ roomFor 0 66 1 ∧ (0 : Int) ≤ Int.ofNat 0 ∧ 1 = 1 ∧ 66 = 66 ∧ roomFor 66 1 1 ∧ 32 = 32 ∧ 67 = 67 ∧ roomFor 67 32 1 ∧ (0 : Int) ≤ Int.ofNat 3 ∧ 3 < 4 ∧ (0 : Int) ≤ Int.ofNat 16 ∧ 21 = 21 ∧ 0 = 0 ∧ roomFor 0 21 1 ∧ (0 : Int) ≤ Int.ofNat 8 ∧ 1 = 1 ∧ 21 = 21 ∧ roomFor 21 1 1 ∧ (0 : Int) ≤ Int.ofNat 0 ∧ 1 = 1 ∧ 22 = 22 ∧ roomFor 22 1 1 ∧ 1 = 1 ∧ 23 = 23 ∧ roomFor 23 1 1 ∧ (0 : Int) ≤ Int.ofNat 32 ∧ 24 = 24 ∧ 0 = 0 ∧ roomFor 0 24 1 ∧ (0 : Int) ≤ Int.ofNat 24 ∧ 1 = 1 ∧ 24 = 24 ∧ roomFor 24 1 1 ∧ (0 : Int) ≤ Int.ofNat 16 ∧ 1 = 1 ∧ 25 = 25 ∧ roomFor 25 1 1 ∧ (0 : Int) ≤ Int.ofNat 8 ∧ 1 = 1 ∧ 26 = 26 ∧ roomFor 26 1 1 ∧ (0 : Int) ≤ Int.ofNat 0 ∧ 1 = 1 ∧ 27 = 27 ∧ roomFor 27 1 1 ∧ (0 : Int) ≤ Int.ofNat 3 ∧ 3 < 4 ∧ (0 : Int) ≤ Int.ofNat 8 ∧ 99 = 99 ∧ 0 = 0 ∧ roomFor 0 99 1 ∧ (0 : Int) ≤ Int.ofNat 0 ∧ 1 = 1 ∧ 99 = 99 ∧ roomFor 99 1 1 ∧ 32 = 32 ∧ 100 = 100 ∧ roomFor 100 32 1 ∧ (0 : Int) ≤ Int.ofNat 16 ∧ (0 : Int) ≤ Int.ofNat 8 ∧ 1 = 1 ∧ roomFor 0 1 1 ∧ (0 : Int) ≤ Int.ofNat 0 ∧ 1 = 1 ∧ 1 = 1 ∧ roomFor 1 1 1 ∧ 28 = 28 ∧ 2 = 2 ∧ roomFor 2 28 1 ∧ (0 : Int) ≤ Int.ofNat 16 ∧ 30 = 30 ∧ 0 = 0 ∧ roomFor 0 30 1 ∧ (0 : Int) ≤ Int.ofNat 8 ∧ 1 = 1 ∧ 30 = 30 ∧ roomFor 30 1 1 ∧ (0 : Int) ≤ Int.ofNat 0 ∧ 1 = 1 ∧ 31 = 31 ∧ roomFor 31 1 1 ∧ 132 = 132 ∧ 32 = 32 ∧ roomFor 32 132 1 ∧ (0 : Int) ≤ Int.ofNat 16 ∧ (0 : Int) ≤ Int.ofNat 8 ∧ 1 = 1 ∧ roomFor 0 1 1 ∧ (0 : Int) ≤ Int.ofNat 0 ∧ 1 = 1 ∧ 1 = 1 ∧ roomFor 1 1 1 ∧ (0 : Int) ≤ Int.ofNat 16 ∧ 2 = 2 ∧ 0 = 0 ∧ roomFor 0 2 1 ∧ (0 : Int) ≤ Int.ofNat 8 ∧ 1 = 1 ∧ 2 = 2 ∧ roomFor 2 1 1 ∧ (0 : Int) ≤ Int.ofNat 0 ∧ 1 = 1 ∧ 3 = 3 ∧ roomFor 3 1 1 ∧ 164 = 164 ∧ 4 = 4 ∧ roomFor 4 164 1 ∧ (0 : Int) ≤ Int.ofNat 16 ∧ 41 = 41 ∧ 0 = 0 ∧ roomFor 0 41 1 ∧ (0 : Int) ≤ Int.ofNat 8 ∧ 1 = 1 ∧ 41 = 41 ∧ roomFor 41 1 1 ∧ (0 : Int) ≤ Int.ofNat 0 ∧ 1 = 1 ∧ 42 = 42 ∧ roomFor 42 1 1 ∧ 168 = 168 ∧ 43 = 43 ∧ roomFor 43 168 1 ∧ x5) (decide (x3 = (5 : Int)))) (roomFor 0 4 8 ∧ roomFor 4 4 8 ∧ (0 : Int) ≤ (0 : Int) ∧ 0 < 8 ∧ (0 : Int) ≤ Int.ofNat 1 ∧ 1 < 8 ∧ (0 : Int) ≤ Int.ofNat 2 ∧ 2 < 8 ∧ (0 : Int) ≤ Int.ofNat 3 ∧ 3 < 8 ∧ (0 : Int) ≤ Int.ofNat 4 ∧ 4 < 8 ∧ (0 : Int) ≤ Int.ofNat 5 ∧ 5 < 8 ∧ (0 : Int) ≤ Int.ofNat 6 ∧ 6 < 8 ∧ (0 : Int) ≤ Int.ofNat 7 ∧ 7 < 8 ∧ (0 : Int) ≤ Int.ofNat 16 ∧ (0 : Int) ≤ Int.ofNat 8 ∧ 1 = 1 ∧ roomFor 0 1 1 ∧ (0 : Int) ≤ Int.ofNat 0 ∧ 1 = 1 ∧ 1 = 1 ∧ roomFor 1 1 1 ∧ 2 = 2 ∧ roomFor 2 32 1 ∧ (0 : Int) ≤ Int.ofNat 8 ∧ 34 = 34 ∧ 0 = 0 ∧ roomFor 0 34 1 ∧ (0 : Int) ≤ Int.ofNat 0 ∧ 1 = 1 ∧ 34 = 34 ∧ roomFor 34 1 1 ∧ 35 = 35 ∧ roomFor 35 0 1 ∧ (0 : Int) ≤ (0 : Int) ∧ 0 < 8 ∧ (0 : Int) ≤ Int.ofNat 16 ∧ (0 : Int) ≤ Int.ofNat 8 ∧ 1 = 1 ∧ roomFor 0 1 1 ∧ (0 : Int) ≤ Int.ofNat 0 ∧ 1 = 1 ∧ 1 = 1 ∧ roomFor 1 1 1 ∧ (0 : Int) ≤ Int.ofNat 1 ∧ 1 < 8 ∧ (0 : Int) ≤ Int.ofNat 16 ∧ 2 = 2 ∧ 0 = 0 ∧ roomFor 0 2 1 ∧ (0 : Int) ≤ Int.ofNat 8 ∧ 1 = 1 ∧ 2 = 2 ∧ roomFor 2 1 1 ∧ (0 : Int) ≤ Int.ofNat 0 ∧ 1 = 1 ∧ 3 = 3 ∧ roomFor 3 1 1 ∧ (0 : Int) ≤ Int.ofNat 2 ∧ 2 < 8 ∧ (0 : Int) ≤ Int.ofNat 16 ∧ 4 = 4 ∧ 0 = 0 ∧ roomFor 0 4 1 ∧ (0 : Int) ≤ Int.ofNat 8 ∧ 1 = 1 ∧ 4 = 4 ∧ roomFor 4 1 1 ∧ (0 : Int) ≤ Int.ofNat 0 ∧ 1 = 1 ∧ 5 = 5 ∧ roomFor 5 1 1 ∧ (0 : Int) ≤ Int.ofNat 3 ∧ 3 < 8 ∧ (0 : Int) ≤ Int.ofNat 16 ∧ 6 = 6 ∧ 0 = 0 ∧ roomFor 0 6 1 ∧ (0 : Int) ≤ Int.ofNat 8 ∧ 1 = 1 ∧ 6 = 6 ∧ roomFor 6 1 1 ∧ (0 : Int) ≤ Int.ofNat 0 ∧ 1 = 1 ∧ 7 = 7 ∧ roomFor 7 1 1 ∧ (0 : Int) ≤ Int.ofNat 4 ∧ 4 < 8 ∧ (0 : Int) ≤ Int.ofNat 16 ∧ 8 = 8 ∧ 0 = 0 ∧ roomFor 0 8 1 ∧ (0 : Int) ≤ Int.ofNat 8 ∧ 1 = 1 ∧ 8 = 8 ∧ roomFor 8 1 1 ∧ (0 : Int) ≤ Int.ofNat 0 ∧ 1 = 1 ∧ 9 = 9 ∧ roomFor 9 1 1 ∧ (0 : Int) ≤ Int.ofNat 5 ∧ 5 < 8 ∧ (0 : Int) ≤ Int.ofNat 16 ∧ 10 = 10 ∧ 0 = 0 ∧ roomFor 0 10 1 ∧ (0 : Int) ≤ Int.ofNat 8 ∧ 1 = 1 ∧ 10 = 10 ∧ roomFor 10 1 1 ∧ (0 : Int) ≤ Int.ofNat 0 ∧ 1 = 1 ∧ 11 = 11 ∧ roomFor 11 1 1 ∧ (0 : Int) ≤ Int.ofNat 6 ∧ 6 < 8 ∧ (0 : Int) ≤ Int.ofNat 16 ∧ 12 = 12 ∧ 0 = 0 ∧ roomFor 0 12 1 ∧ (0 : Int) ≤ Int.ofNat 8 ∧ 1 = 1 ∧ 12 = 12 ∧ roomFor 12 1 1 ∧ (0 : Int) ≤ Int.ofNat 0 ∧ 1 = 1 ∧ 13 = 13 ∧ roomFor 13 1 1 ∧ (0 : Int) ≤ Int.ofNat 7 ∧ 7 < 8 ∧ (0 : Int) ≤ Int.ofNat 16 ∧ 14 = 14 ∧ 0 = 0 ∧ roomFor 0 14 1 ∧ (0 : Int) ≤ Int.ofNat 8 ∧ 1 = 1 ∧ 14 = 14 ∧ roomFor 14 1 1 ∧ (0 : Int) ≤ Int.ofNat 0 ∧ 1 = 1 ∧ 15 = 15 ∧ roomFor 15 1 1 ∧ (0 : Int) ≤ Int.ofNat 16 ∧ 35 = 35 ∧ 0 = 0 ∧ roomFor 0 35 1 ∧ (0 : Int) ≤ Int.ofNat 8 ∧ 1 = 1 ∧ 35 = 35 ∧ roomFor 35 1 1 ∧ (0 : Int) ≤ Int.ofNat 0 ∧ 1 = 1 ∧ 36 = 36 ∧ roomFor 36 1 1 ∧ 16 = 16 ∧ 37 = 37 ∧ roomFor 37 16 1 ∧ (0 : Int) ≤ Int.ofNat 8 ∧ 53 = 53 ∧ 0 = 0 ∧ roomFor 0 53 1 ∧ (0 : Int) ≤ Int.ofNat 0 ∧ 1 = 1 ∧ 53 = 53 ∧ roomFor 53 1 1 ∧ 1 = 1 ∧ 54 = 54 ∧ roomFor 54 1 1 ∧ (0 : Int) ≤ Int.ofNat 16 ∧ 55 = 55 ∧ 0 = 0 ∧ roomFor 0 55 1 ∧ (0 : Int) ≤ Int.ofNat 8 ∧ 1 = 1 ∧ 55 = 55 ∧ roomFor 55 1 1 ∧ (0 : Int) ≤ Int.ofNat 0 ∧ 1 = 1 ∧ 56 = 56 ∧ roomFor 56 1 1 ∧ 57 = 57 ∧ roomFor 57 0 1 ∧ x5) (decide (x3 = (4 : Int)))) ((0 : Int) ≤ (4 : Int) ∧ (0 : Int) ≤ (4 : Int) ∧ 4 ≤ 4 ∧ 4 ≤ 281474976710656 ∧ 4 ≤ 9223372036854775807 ∧ (0 : Int) ≤ (0 : Int) ∧ 0 < 1 ∧ (0 : Int) ≤ Int.ofNat 16 ∧ (0 : Int) ≤ Int.ofNat 8 ∧ 1 = 1 ∧ roomFor 0 1 1 ∧ (0 : Int) ≤ Int.ofNat 0 ∧ 1 = 1 ∧ 1 = 1 ∧ roomFor 1 1 1 ∧ 2 = 2 ∧ roomFor 2 32 1 ∧ (0 : Int) ≤ Int.ofNat 8 ∧ 34 = 34 ∧ 0 = 0 ∧ roomFor 0 34 1 ∧ (0 : Int) ≤ Int.ofNat 0 ∧ 1 = 1 ∧ 34 = 34 ∧ roomFor 34 1 1 ∧ 35 = 35 ∧ roomFor 35 0 1 ∧ (0 : Int) ≤ (0 : Int) ∧ 0 < 1 ∧ (0 : Int) ≤ Int.ofNat 16 ∧ (0 : Int) ≤ Int.ofNat 8 ∧ 1 = 1 ∧ roomFor 0 1 1 ∧ (0 : Int) ≤ Int.ofNat 0 ∧ 1 = 1 ∧ 1 = 1 ∧ roomFor 1 1 1 ∧ (0 : Int) ≤ Int.ofNat 16 ∧ 35 = 35 ∧ 0 = 0 ∧ roomFor 0 35 1 ∧ (0 : Int) ≤ Int.ofNat 8 ∧ 1 = 1 ∧ 35 = 35 ∧ roomFor 35 1 1 ∧ (0 : Int) ≤ Int.ofNat 0 ∧ 1 = 1 ∧ 36 = 36 ∧ roomFor 36 1 1 ∧ 2 = 2 ∧ 37 = 37 ∧ roomFor 37 2 1 ∧ (0 : Int) ≤ Int.ofNat 8 ∧ 39 = 39 ∧ 0 = 0 ∧ roomFor 0 39 1 ∧ (0 : Int) ≤ Int.ofNat 0 ∧ 1 = 1 ∧ 39 = 39 ∧ roomFor 39 1 1 ∧ 1 = 1 ∧ 40 = 40 ∧ roomFor 40 1 1 ∧ (0 : Int) ≤ Int.ofNat 8 ∧ (0 : Int) ≤ Int.ofNat 0 ∧ 1 = 1 ∧ roomFor 0 1 1 ∧ 4 = 4 ∧ 1 = 1 ∧ roomFor 1 4 1 ∧ (0 : Int) ≤ Int.ofNat 16 ∧ (0 : Int) ≤ Int.ofNat 8 ∧ 1 = 1 ∧ roomFor 0 1 1 ∧ (0 : Int) ≤ Int.ofNat 0 ∧ 1 = 1 ∧ 1 = 1 ∧ roomFor 1 1 1 ∧ (0 : Int) ≤ Int.ofNat 16 ∧ 2 = 2 ∧ 0 = 0 ∧ roomFor 0 2 1 ∧ (0 : Int) ≤ Int.ofNat 8 ∧ 1 = 1 ∧ 2 = 2 ∧ roomFor 2 1 1 ∧ (0 : Int) ≤ Int.ofNat 0 ∧ 1 = 1 ∧ 3 = 3 ∧ roomFor 3 1 1 ∧ 5 = 5 ∧ 4 = 4 ∧ roomFor 4 5 1 ∧ (0 : Int) ≤ Int.ofNat 16 ∧ 41 = 41 ∧ 0 = 0 ∧ roomFor 0 41 1 ∧ (0 : Int) ≤ Int.ofNat 8 ∧ 1 = 1 ∧ 41 = 41 ∧ roomFor 41 1 1 ∧ (0 : Int) ≤ Int.ofNat 0 ∧ 1 = 1 ∧ 42 = 42 ∧ roomFor 42 1 1 ∧ 9 = 9 ∧ 43 = 43 ∧ roomFor 43 9 1 ∧ x5) (decide (x3 = (3 : Int)))) x1 (decide (x3 = (2 : Int)))) x1 (decide (x3 = (1 : Int)))) ((0 : Int) ≤ (0 : Int) ∧ 0 < 1 ∧ (0 : Int) ≤ (0 : Int) ∧ 0 < 4 ∧ (0 : Int) ≤ Int.ofNat 1 ∧ 1 < 4 ∧ (0 : Int) ≤ Int.ofNat 2 ∧ 2 < 4 ∧ (0 : Int) ≤ Int.ofNat 3 ∧ 3 < 4 ∧ (0 : Int) ≤ Int.ofNat 16 ∧ (0 : Int) ≤ Int.ofNat 8 ∧ 1 = 1 ∧ roomFor 0 1 1 ∧ (0 : Int) ≤ Int.ofNat 0 ∧ 1 = 1 ∧ 1 = 1 ∧ roomFor 1 1 1 ∧ 2 = 2 ∧ roomFor 2 32 1 ∧ (0 : Int) ≤ Int.ofNat 8 ∧ 34 = 34 ∧ 0 = 0 ∧ roomFor 0 34 1 ∧ (0 : Int) ≤ Int.ofNat 0 ∧ 1 = 1 ∧ 34 = 34 ∧ roomFor 34 1 1 ∧ 35 = 35 ∧ roomFor 35 0 1 ∧ (0 : Int) ≤ (0 : Int) ∧ 0 < 1 ∧ (0 : Int) ≤ Int.ofNat 16 ∧ (0 : Int) ≤ Int.ofNat 8 ∧ 1 = 1 ∧ roomFor 0 1 1 ∧ (0 : Int) ≤ Int.ofNat 0 ∧ 1 = 1 ∧ 1 = 1 ∧ roomFor 1 1 1 ∧ (0 : Int) ≤ Int.ofNat 16 ∧ 35 = 35 ∧ 0 = 0 ∧ roomFor 0 35 1 ∧ (0 : Int) ≤ Int.ofNat 8 ∧ 1 = 1 ∧ 35 = 35 ∧ roomFor 35 1 1 ∧ (0 : Int) ≤ Int.ofNat 0 ∧ 1 = 1 ∧ 36 = 36 ∧ roomFor 36 1 1 ∧ 2 = 2 ∧ 37 = 37 ∧ roomFor 37 2 1 ∧ (0 : Int) ≤ Int.ofNat 8 ∧ 39 = 39 ∧ 0 = 0 ∧ roomFor 0 39 1 ∧ (0 : Int) ≤ Int.ofNat 0 ∧ 1 = 1 ∧ 39 = 39 ∧ roomFor 39 1 1 ∧ 1 = 1 ∧ 40 = 40 ∧ roomFor 40 1 1 ∧ (0 : Int) ≤ (0 : Int) ∧ 0 < 4 ∧ (0 : Int) ≤ Int.ofNat 16 ∧ (0 : Int) ≤ Int.ofNat 8 ∧ 1 = 1 ∧ roomFor 0 1 1 ∧ (0 : Int) ≤ Int.ofNat 0 ∧ 1 = 1 ∧ 1 = 1 ∧ roomFor 1 1 1 ∧ (0 : Int) ≤ Int.ofNat 1 ∧ 1 < 4 ∧ (0 : Int) ≤ Int.ofNat 16 ∧ 2 = 2 ∧ 0 = 0 ∧ roomFor 0 2 1 ∧ (0 : Int) ≤ Int.ofNat 8 ∧ 1 = 1 ∧ 2 = 2 ∧ roomFor 2 1 1 ∧ (0 : Int) ≤ Int.ofNat 0 ∧ 1 = 1 ∧ 3 = 3 ∧ roomFor 3 1 1 ∧ (0 : Int) ≤ Int.ofNat 2 ∧ 2 < 4 ∧ (0 : Int) ≤ Int.ofNat 16 ∧ 4 = 4 ∧ 0 = 0 ∧ roomFor 0 4 1 ∧ (0 : Int) ≤ Int.ofNat 8 ∧ 1 = 1 ∧ 4 = 4 ∧ roomFor 4 1 1 ∧ (0 : Int) ≤ Int.ofNat 0 ∧ 1 = 1 ∧ 5 = 5 ∧ roomFor 5 1 1 ∧ (0 : Int) ≤ Int.ofNat 3 ∧ 3 < 4 ∧ (0 : Int) ≤ Int.ofNat 16 ∧ 6 = 6 ∧ 0 = 0 ∧ roomFor 0 6 1 ∧ (0 : Int) ≤ Int.ofNat 8 ∧ 1 = 1 ∧ 6 = 6 ∧ roomFor 6 1 1 ∧ (0 : Int) ≤ Int.ofNat 0 ∧ 1 = 1 ∧ 7 = 7 ∧ roomFor 7 1 1 ∧ (0 : Int) ≤ Int.ofNat 8 ∧ (0 : Int) ≤ Int.ofNat 0 ∧ 1 = 1 ∧ roomFor 0 1 1 ∧ 8 = 8 ∧ 1 = 1 ∧ roomFor 1 8 1 ∧ (0 : Int) ≤ Int.ofNat 16 ∧ (0 : Int) ≤ Int.ofNat 8 ∧ 1 = 1 ∧ roomFor 0 1 1 ∧ (0 : Int) ≤ Int.ofNat 0 ∧ 1 = 1 ∧ 1 = 1 ∧ roomFor 1 1 1 ∧ (0 : Int) ≤ Int.ofNat 16 ∧ 2 = 2 ∧ 0 = 0 ∧ roomFor 0 2 1 ∧ (0 : Int) ≤ Int.ofNat 8 ∧ 1 = 1 ∧ 2 = 2 ∧ roomFor 2 1 1 ∧ (0 : Int) ≤ Int.ofNat 0 ∧ 1 = 1 ∧ 3 = 3 ∧ roomFor 3 1 1 ∧ 9 = 9 ∧ 4 = 4 ∧ roomFor 4 9 1 ∧ (0 : Int) ≤ Int.ofNat 16 ∧ 41 = 41 ∧ 0 = 0 ∧ roomFor 0 41 1 ∧ (0 : Int) ≤ Int.ofNat 8 ∧ 1 = 1 ∧ 41 = 41 ∧ roomFor 41 1 1 ∧ (0 : Int) ≤ Int.ofNat 0 ∧ 1 = 1 ∧ 42 = 42 ∧ roomFor 42 1 1 ∧ 13 = 13 ∧ 43 = 43 ∧ roomFor 43 13 1 ∧ x5) (decide (x3 = (0 : Int)))) (roomFor 0 1 8 ∧ roomFor 1 1 8 ∧ roomFor 2 1 8 ∧ roomFor 3 1 8 ∧ roomFor 4 1 8 ∧ @Bool.rec (fun _ => Prop) (@Bool.rec (fun _ => Prop) (@Bool.rec (fun _ => Prop) (@Bool.rec (fun _ => Prop) (@Bool.rec (fun _ => Prop) (@Bool.rec (fun _ => Prop) x2 (roomFor 0 1 32 ∧ 32 ≤ 32 ∧ 32 ≤ 281474976710656 ∧ 32 ≤ 9223372036854775807 ∧ roomFor 0 1 24 ∧ roomFor 1 1 32 ∧ 32 ≤ 32 ∧ 32 ≤ 281474976710656 ∧ 32 ≤ 9223372036854775807 ∧ roomFor 1 1 24 ∧ roomFor 2 1 32 ∧ 32 ≤ 32 ∧ 32 ≤ 281474976710656 ∧ 32 ≤ 9223372036854775807 ∧ roomFor 2 1 24 ∧ roomFor 3 1 32 ∧ 32 ≤ 32 ∧ 32 ≤ 281474976710656 ∧ 32 ≤ 9223372036854775807 ∧ roomFor 3 1 24 ∧ roomFor 4 1 32 ∧ 32 ≤ 32 ∧ 32 ≤ 281474976710656 ∧ 32 ≤ 9223372036854775807 ∧ roomFor 4 1 24 ∧ (0 : Int) ≤ (0 : Int) ∧ 0 < 5 ∧ (0 : Int) ≤ (0 : Int) ∧ 0 < 5 ∧ roomFor 0 1 32 ∧ (0 : Int) ≤ Int.ofNat 1 ∧ 1 < 5 ∧ (0 : Int) ≤ Int.ofNat 1 ∧ 1 < 5 ∧ roomFor 1 1 32 ∧ (0 : Int) ≤ Int.ofNat 2 ∧ 2 < 5 ∧ (0 : Int) ≤ Int.ofNat 2 ∧ 2 < 5 ∧ roomFor 2 1 32 ∧ (0 : Int) ≤ Int.ofNat 3 ∧ 3 < 5 ∧ (0 : Int) ≤ Int.ofNat 3 ∧ 3 < 5 ∧ roomFor 3 1 32 ∧ (0 : Int) ≤ Int.ofNat 4 ∧ 4 < 5 ∧ (0 : Int) ≤ Int.ofNat 4 ∧ 4 < 5 ∧ roomFor 4 1 32 ∧ x4) (decide (x3 = (5 : Int)))) (roomFor 0 5 8 ∧ roomFor 5 4 8 ∧ @Bool.rec (fun _ => Prop) (Bool.true = Bool.false ∧ True) (Bool.true = decide (Bool.false = !more) ∧ True) (decide (Bool.true = more))) (decide (x3 = (4 : Int)))) ((0 : Int) ≤ (5 : Int) ∧ (0 : Int) ≤ (5 : Int) ∧ 5 ≤ 5 ∧ 5 ≤ 281474976710656 ∧ 5 ≤ 9223372036854775807 ∧ x4) (decide (x3 = (3 : Int)))) x4 (decide (x3 = (2 : Int)))) x4 (decide (x3 = (1 : Int)))) x4 (decide (x3 = (0 : Int)))) more : Prop) := by kernel_rfl 
set_option maxHeartbeats 0 in
set_option maxRecDepth 100000 in
theorem bh7 (a : Int) (more : Bool) : Must (bodyP Tryd.prog L26 gl0 [] [] 3000 Tryd.f7 0 [.int .i64 a, .bool more] [] (retQ Tryd.prog Tryd.f7 0 ⟨[], .bool true, [], []⟩)) := by
  constructor
  rw [vh7]
  intro x1 x2 x3 x4 x5
  have h3 : ∃ k : Nat, k < 6 ∧ x3 = (k : Int) := by
    have h : (BitVec.ofInt 64 a % BitVec.ofNat 64 6).toNat < 6 := by
      rw [BitVec.toNat_umod]
      exact Nat.mod_lt _ (by decide)
    exact ⟨_, h, wrap_nat _ rfl (by omega)⟩
  clear_value x3
  obtain ⟨k, hk, rfl⟩ := h3
  have hk6 : k = 0 ∨ k = 1 ∨ k = 2 ∨ k = 3 ∨ k = 4 ∨ k = 5 := by omega
  clear hk
  rcases hk6 with rfl | rfl | rfl | rfl | rfl | rfl <;> cases more
  all_goals
    repeat' first
      | decide
      | exact trivial
      | (unfold roomFor; decide)
      | refine ⟨?_, ?_⟩
      | refine brec (fun h => ?_) (fun h => absurd h (by decide))
      | refine brec (fun h => absurd h (by decide)) (fun h => ?_)
end Go.Sym

/- HelloLimits: lists of as many as may be are put, and one more isn't. Condition: the two tables of the package start as the text of the program lays them, which the card ties. -/
namespace Go.Sym
open Go.Proofs Go.Spec
theorem w7 (W : World) (hG : GW gl0 W) (n0 : Int) (n1 : Bool) :
    Calls Tryd.prog 7 #[.int .i64 n0, .bool n1] W fun e w' => e = .returned (.bool true) ∧ RowKit.Below W.heap.size W w' := by
  have hv : VRels (κW W) [.int .i64 n0, .bool n1] [.int .i64 n0, .bool n1] := by
    simp only [VRels]
    exact ⟨_, _, rfl, rfl, _, _, rfl, rfl, rfl⟩
  refine law_walk (gl := gl0) (Γ := L26) (fn := Tryd.f7) (av := [.int .i64 n0, .bool n1]) (ls := []) [] 3000 (by kernel_rfl) (by kernel_rfl) okL26 (by kernel_rfl) hG (by kernel_rfl) hv ?_
  exact bh7 n0 n1
end Go.Sym
namespace Go.Proofs.YtmpgpbbaloiniaaDoor.helloLimits
open Go.ChangeShapes Go.WideShapes Go.ChangeAt Go.WideMaps Go.WideElems Go.RowKit
set_option linter.unusedVariables false
set_option maxRecDepth 100000 in
theorem lifted (os : Os) (started : os.Started) (H : Type) (enc : TypeId × Value → H) :
    ReturnsInHanded {} Tryd.checked os 7 .any (fun w args => (Rows.helloLimitsSpec.pre enc Tryd.prog Tryd.f7 [] false w args ∧ laidMetH Tryd.prog laid2 w) ∧ sizedMet enc Tryd.prog Tryd.f7 (OpenSpec.ofChange Rows.helloLimitsSpec) false w args)
      (Rows.helloLimitsSpec.post enc Tryd.prog Tryd.f7 false true false false) := by
  refine returnsInHanded_of_change_and (C := Tryd.checked) (X := fun w _ => laidMetH Tryd.prog laid2 w) (fun _ _ _ hh h => h.of_heap hh) own started (by kernel_rfl) Tryd.func7
    (ChangeSpec.witness_shaped (enc := enc) (C := Tryd.checked) (os := os) (X := fun w _ => laidMetH Tryd.prog laid2 w) false (World.doorLaid Tryd.prog 400 os) #[.int .i64 0, .bool false] 8 rfl (World.shaped_of_RefB (by kernel_rfl) (by kernel_rfl)) (by kernel_rfl) (by kernel_rfl) (by kernel_rfl) (door_met os _)) ?_
  intro W base args ds gs before hval0 hW _ _ hL _
  have hval : ∀ (j : Nat) t v, Tryd.f7.params[j]? = some t → args[j]? = some v → Value.okWide Tryd.prog W .any base t v := hval0
  have hW' := hW
  obtain ⟨p, q, hA0, hV, rfl, hfz, hnd⟩ := hW
  have hA : DataW.TrodAll enc Tryd.prog W 0 (fun _ => true) true Tryd.f7.params.toList args.toList ds p := hA0
  rw [Tryd.params7] at hA hval
  obtain ⟨v0, vs0, d0, ds0, p0, q0, hargs, rfl, rfl, h0, r0⟩ := trodAll_cons hA
  obtain ⟨v1, vs1, d1, ds1, p1, q1, rfl, rfl, rfl, h1, r1⟩ := trodAll_cons r0
  obtain ⟨rfl, rfl, rfl⟩ := trodAll_nil r1
  obtain rfl : args = #[v0, v1] := by cases args; simp_all
  obtain ⟨rfl, rfl⟩ := trodVars_none hV
  obtain ⟨a0, rfl, rfl, rfl, w0⟩ := open_int Tryd.underlying3 (hval 0 3 v0 rfl rfl) h0
  obtain ⟨a1, rfl, rfl, rfl⟩ := open_bool Tryd.underlying4 (hval 1 4 v1 rfl rfl) h1
  clear hA0 hval0
  refine (Go.Sym.w7 W (gw_laid hL) a0 a1).mono fun e W' ⟨he, bel⟩ => ?_
  subst he
  exact ⟨_, rfl, _, _, _, [], _, [], hW', trodAll_mk1 (shut_bool Tryd.underlying4 _), (trodAll_cons_mk (shut_int Tryd.underlying3 w0) (trodAll_cons_mk (shut_bool Tryd.underlying4 _) trodAll_mk0)), rfl, bel.frame _, fun h => by cases h⟩

theorem over : Rows.helloLimitsRow.holds Tryd.pinned (OpenSpec.ofChange Rows.helloLimitsSpec) :=
  OpenClaim.holds_of_wide 7 Tryd.f7 rfl rfl rfl rfl rfl rfl rfl ⟨rfl, rfl, rfl, rfl, rfl⟩ rfl rfl rfl rfl rfl (by kernel_rfl) Tryd.func7 (by kernel_rfl)
    (of_decide_eq_true (by kernel_rfl)) (by unfold Func.isWrapper; first | (rw [if_pos (by decide +kernel)]; kernel_rfl) | (rw [if_neg (by decide +kernel)]; exact ⟨rfl, rfl⟩))
    (fun os started H enc _ => lifted os started H enc)

theorem proved : Rows.HelloLimitsCardSaid :=
  Claim7.holds_tied_plain_at .later [] [.data, .data] true (true, "509a89b67618beb9fd1f9164ca8e5d72b3360772a5436b980171c475dab6690a") false
    over (fun _ h => by cases h) (by kernel_rfl) (fun _ h => by cases h) helloLimits_row_tie rfl ⟨rfl, rfl⟩ (by kernel_rfl) rfl
    (fun f fn hf hfn => by
      obtain rfl : f = 7 := Option.some.inj ((show Tryd.prog.funcNamed "relay/relaylaw08.HelloLimits" = some 7 by kernel_rfl).symm.trans hf) |>.symm
      obtain rfl : fn = Tryd.f7 := (Option.some.inj (Tryd.func7.symm.trans hfn)).symm
      exact ⟨by kernel_rfl, fun j t ht => by
        rw [Tryd.params7] at ht
        have hm : t ∈ [3, 4] := by simpa using Array.mem_of_getElem? ht
        have hall : ([3, 4].all fun u => !Tryd.prog.wantsStandIn u) = true := by kernel_rfl
        exact (show Tryd.prog.wantsStandIn t = false by simpa using List.all_eq_true.1 hall t hm)⟩)
    (by kernel_rfl)
#print axioms proved
end Go.Proofs.YtmpgpbbaloiniaaDoor.helloLimits
