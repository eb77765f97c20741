/- Greetings with extensions of other kinds behind. -/
import Derived.Test.YtmpgpbbaloiniaaDoorSymC
import Derived.Test.YtmpgpbbaloiniaaDoorShaB
import Derived.Test.YtmpgpbbaloiniaaDoorShaA
import Derived.Test.YtmpgpbbaloiniaaDoorHelD
import Derived.OpenShut
/- What is handed in from outside: plain data of any shape. -/
namespace Go.Sym
set_option linter.unusedVariables false
set_option linter.unusedSimpArgs false
open Go.ChangeShapes Go.WideShapes
inductive Sh where
  | i (k : IntKind)
  | b
  | s
  | y
def Sh.ok : Sh → AV → Prop
  | .i .u8, a => ∃ x, a = .u8 x
  | .i .u16, a => ∃ x, a = .u16 x
  | .i .u32, a => ∃ x, a = .u32 x
  | .i .u64, a => ∃ x, a = .u64 x
  | .i k, a => ∃ n, a = .int k n ∧ (Lit.int k n).wf = true
  | .b, a => ∃ c, a = .bool c
  | .s, a => ∃ l, a = .str l ∧ l.length ≤ maxLen
  | .y, a => ∃ l c, a = .rb true l (.is c) ∧ (c = true → l = []) ∧ l.length ≤ maxLen
def shAll : List Sh → List AV → Prop
  | [], [] => True
  | k :: ss, a :: az => k.ok a ∧ shAll ss az
  | _, _ => False
theorem shAll_append : ∀ {l m : List Sh} {az bs : List AV}, shAll l az → shAll m bs → shAll (l ++ m) (az ++ bs)
  | [], _, [], _, _, k => k
  | _ :: _, _, _ :: _, _, h, k => ⟨h.1, shAll_append h.2 k⟩
  | [], _, _ :: _, _, h, _ => h.elim
  | _ :: _, _, [], _, h, _ => h.elim
theorem datas_append {p : Bool} : ∀ {az bs : List AV}, datas p az = true → datas p bs = true → datas p (az ++ bs) = true
  | [], _, _, k => k
  | a :: az, _, h, k => by
    simp only [datas, Bool.and_eq_true, List.cons_append] at h ⊢
    exact ⟨h.1, datas_append h.2 k⟩
def flatFs (P : Program) (g : TypeId → Option (List Sh)) : List Field → Nat → Option (List Sh)
  | [], _ => some []
  | f :: fs, o => if f.offset = o then (g f.type).bind fun l => if P.cellsOf f.type = l.length then (flatFs P g fs (o + l.length)).map (l ++ ·) else none else none
def flat (P : Program) : Nat → TypeId → Option (List Sh)
  | 0, _ => none
  | f + 1, t => match P.underlying t with
    | some (.int k) => some [.i k]
    | some .bool => some [.b]
    | some .string => some [.s]
    | some (.slice e) => (match P.underlying e with | some (.int .u8) => if P.cellsOf e = 1 then some [.y] else none | _ => none)
    | some (.array n e) => (flat P f e).bind fun l => if P.cellsOf e = l.length ∧ P.cellsOf t = n * l.length then some (List.replicate n l).flatten else none
    | some (.struct fs) => (flatFs P (flat P f) fs.toList 0).bind fun l => if P.cellsOf t = l.length then some l else none
    | _ => none

section
variable {H : Type} {enc : TypeId × Value → H} {P : Program} {W : World} {base : Nat} {spare : Nat → Bool} {held : Bool}
def Read (W : World) (l : List Sh) (cs : List Value) : Prop := ∃ avs, shAll l avs ∧ datas true avs = true ∧ VRels (κW W) avs cs
theorem Read.append {l m : List Sh} {cs ds : List Value} (h : Read W l cs) (k : Read W m ds) : Read W (l ++ m) (cs ++ ds) := by
  obtain ⟨a, h1, h2, h3⟩ := h
  obtain ⟨b, k1, k2, k3⟩ := k
  exact ⟨a ++ b, shAll_append h1 k1, datas_append h2 k2, VRels.append h3 k3⟩
theorem read_arr {l : List Sh} {m : Nat} : ∀ (n : Nat) (cs : List Value), cs.length = n * m → (∀ i, i < n → Read W l ((cs.drop (i * m)).take m)) → Read W (List.replicate n l).flatten cs
  | 0, cs, hl, _ => by
    have : cs = [] := List.eq_nil_of_length_eq_zero (by simpa using hl)
    subst this
    exact ⟨[], trivial, rfl, rfl⟩
  | n + 1, cs, hl, h => by
    have h0 := h 0 (by omega)
    simp only [Nat.zero_mul, List.drop_zero] at h0
    have hr := read_arr (m := m) n (cs.drop m) (by rw [List.length_drop, hl, Nat.succ_mul]; omega) (fun i hi => by
      have := h (i + 1) (by omega)
      rw [List.drop_drop]
      rw [Nat.add_mul, Nat.one_mul, Nat.add_comm] at this
      exact this)
    have := h0.append hr
    rw [List.take_append_drop] at this
    simpa [List.replicate_succ] using this
theorem read_fs {g : TypeId → Option (List Sh)} {cs : List Value} : ∀ (fs : List Field) (o : Nat) (l : List Sh), flatFs P g fs o = some l → cs.length = o + l.length →
    (∀ f l', f ∈ fs → g f.type = some l' → Read W l' ((cs.drop f.offset).take (P.cellsOf f.type))) → Read W l (cs.drop o)
  | [], o, l, h, hl, _ => by
    simp only [flatFs, Option.some.injEq] at h
    subst h
    have : cs.drop o = [] := List.drop_eq_nil_of_le (by simp at hl; omega)
    rw [this]
    exact ⟨[], trivial, rfl, rfl⟩
  | f :: fs, o, l, h, hl, hr => by
    simp only [flatFs] at h
    split at h
    · rename_i ho
      simp only [Option.bind_eq_some_iff] at h
      obtain ⟨l1, h1, h2⟩ := h
      split at h2
      · rename_i hc
        simp only [Option.map_eq_some_iff] at h2
        obtain ⟨l2, h3, rfl⟩ := h2
        have k1 := hr f l1 (by simp) h1
        rw [ho, hc] at k1
        have k2 := read_fs fs (o + l1.length) l2 h3 (by simp at hl; omega) (fun f' l' hf hg => hr f' l' (by simp [hf]) hg)
        have := k1.append k2
        rw [← List.drop_drop, List.take_append_drop] at this
        exact this
      · cases h2
    · cases h
theorem rd_flat : ∀ (f : Nat) (t : TypeId) (l : List Sh) (fuel : Nat) (cs : List Value) (x : DataW H × List MemPlace), flat P f t = some l → DataW.trod enc P W base spare held fuel t cs = some x → Read W l cs
  | 0, _, _, _, _, _, h, _ => by cases h
  | f + 1, t, l, fuel, cs, x, h, hd => by
    unfold flat at h
    split at h
    · rename_i k ht
      simp only [Option.some.injEq] at h
      subst h
      obtain ⟨n, rfl, _, hw⟩ := DataW.trod_int ht hd
      have hn : absC0 (.int k n) = absC0 (.int k n) := rfl
      cases k
      case u8 =>
        simp [Lit.wf, IntKind.min, IntKind.max, IntKind.signed, IntKind.bits] at hw
        exact ⟨[.u8 (BitVec.ofNat 8 n.toNat)], ⟨⟨_, rfl⟩, trivial⟩, rfl, _, [], rfl, by simp only [VRel, BitVec.toNat_ofNat]; congr 1; omega, rfl⟩
      case u16 =>
        simp [Lit.wf, IntKind.min, IntKind.max, IntKind.signed, IntKind.bits] at hw
        exact ⟨[.u16 (BitVec.ofNat 16 n.toNat)], ⟨⟨_, rfl⟩, trivial⟩, rfl, _, [], rfl, by simp only [VRel, BitVec.toNat_ofNat]; congr 1; omega, rfl⟩
      case u32 =>
        simp [Lit.wf, IntKind.min, IntKind.max, IntKind.signed, IntKind.bits] at hw
        exact ⟨[.u32 (BitVec.ofNat 32 n.toNat)], ⟨⟨_, rfl⟩, trivial⟩, rfl, _, [], rfl, by simp only [VRel, BitVec.toNat_ofNat]; congr 1; omega, rfl⟩
      case u64 =>
        simp [Lit.wf, IntKind.min, IntKind.max, IntKind.signed, IntKind.bits] at hw
        exact ⟨[.u64 (BitVec.ofNat 64 n.toNat)], ⟨⟨_, rfl⟩, trivial⟩, rfl, _, [], rfl, by simp only [VRel, BitVec.toNat_ofNat]; congr 1; omega, rfl⟩
      all_goals exact ⟨[.int _ n], ⟨⟨_, rfl, hw⟩, trivial⟩, rfl, _, [], rfl, rfl, rfl⟩
    · rename_i ht
      simp only [Option.some.injEq] at h
      subst h
      obtain ⟨b, rfl, _⟩ := DataW.trod_bool ht hd
      exact ⟨[.bool b], ⟨⟨_, rfl⟩, trivial⟩, rfl, _, [], rfl, rfl, rfl⟩
    · rename_i ht
      simp only [Option.some.injEq] at h
      subst h
      obtain ⟨s, rfl, _, hs⟩ := DataW.trod_string ht hd
      have hb := bytesStr_strBytes s
      refine ⟨[.str (strBytes s)], ⟨⟨_, rfl, ?_⟩, trivial⟩, rfl, _, [], rfl, by simp only [VRel, hb], rfl⟩
      rw [← bytesStr_size, hb]
      exact hs
    · rename_i e ht
      split at h
      · rename_i he
        split at h
        · rename_i hc
          simp only [Option.some.injEq] at h
          subst h
          obtain ⟨v, l, c, rfl, h1, h2, h3⟩ := rd_bytes ht he hc hd
          exact ⟨[.rb true l (.is c)], ⟨⟨l, c, rfl, h1, h2⟩, trivial⟩, rfl, _, [], rfl, h3, rfl⟩
        · cases h
      · cases h
    · rename_i n e ht
      simp only [Option.bind_eq_some_iff] at h
      obtain ⟨l1, h1, h2⟩ := h
      split at h2
      · rename_i hc
        simp only [Option.some.injEq] at h2
        subst h2
        obtain ⟨xs, m, _, _, hl, hn, hel⟩ := DataW.trod_array ht hd
        refine read_arr (m := l1.length) n cs (by rw [hl, hc.2]) fun i hi => ?_
        have := hel i hi
        rw [List.getElem?_eq_getElem (by omega), hc.1] at this
        exact rd_flat f e l1 _ _ _ h1 this
      · cases h2
    · rename_i fs ht
      simp only [Option.bind_eq_some_iff] at h
      obtain ⟨l1, h1, h2⟩ := h
      split at h2
      · rename_i hc
        simp only [Option.some.injEq] at h2
        subst h2
        obtain ⟨xs, m, _, _, hl, hn, hel⟩ := DataW.trod_struct ht hd
        have := read_fs (W := W) (cs := cs) fs.toList 0 l1 h1 (by rw [hl, hc]; omega) fun f0 l' hf hg => by
          obtain ⟨i, hi⟩ := List.getElem?_of_mem hf
          have hlt := (List.getElem?_eq_some_iff.1 hi).1
          have := hel i f0 (by simpa using hi)
          rw [List.getElem?_eq_getElem (by simp at hlt; omega)] at this
          exact rd_flat f f0.type l' _ _ _ hg this
        simpa using this
      · cases h2
    · cases h
theorem agg_of_cells {v : Value} {avs : List AV} (h : VRels (κW W) avs v.cells.toList) (hl : 2 ≤ avs.length) : VRel (κW W) (.agg avs) v := by
  have hn := h.length
  cases v
  case agg cs => exact ⟨cs, rfl, h⟩
  all_goals (exfalso; simp [Value.cells] at hn; omega)
/-- Bytes of an array. -/
theorem sh_u8 : ∀ {n : Nat} {avs : List AV}, shAll (List.replicate n (.i .u8)) avs → ∃ l : List (BitVec 8), l.length = n ∧ avs = l.map .u8
  | 0, [], _ => ⟨[], rfl, rfl⟩
  | 0, _ :: _, h => h.elim
  | n + 1, [], h => h.elim
  | n + 1, a :: az, h => by
    obtain ⟨⟨x, rfl⟩, h2⟩ := h
    obtain ⟨l, h3, rfl⟩ := sh_u8 h2
    exact ⟨x :: l, by simp [h3], rfl⟩
end
theorem sh_cons {k : Sh} {ks : List Sh} {avs : List AV} (h : shAll (k :: ks) avs) : ∃ a az, avs = a :: az ∧ k.ok a ∧ shAll ks az := by
  cases avs with
  | nil => exact h.elim
  | cons a az => exact ⟨a, az, rfl, h.1, h.2⟩
theorem sh_nil {avs : List AV} (h : shAll [] avs) : avs = [] := by
  cases avs with
  | nil => rfl
  | cons a az => exact h.elim
theorem sh_i64 {a : AV} (h : (Sh.i .i64).ok a) : ∃ n, a = .int .i64 n := by
  obtain ⟨n, h, _⟩ := h
  exact ⟨n, h⟩
theorem rel_u32 {κ : Ker} {n : Int} (h : (Lit.int .u32 n).wf = true) : VRel κ (.u32 (BitVec.ofInt 32 n)) (.int .u32 n) := by
  simp [Lit.wf, IntKind.has, IntKind.min, IntKind.max, IntKind.signed, IntKind.bits] at h
  simp only [VRel, BitVec.toNat_ofInt]
  congr 1
  omega
theorem rel_u64 {κ : Ker} {n : Int} (h : (Lit.int .u64 n).wf = true) : VRel κ (.u64 (BitVec.ofInt 64 n)) (.int .u64 n) := by
  simp [Lit.wf, IntKind.has, IntKind.min, IntKind.max, IntKind.signed, IntKind.bits] at h
  simp only [VRel, BitVec.toNat_ofInt]
  congr 1
  omega
theorem rel_u8 {κ : Ker} {n : Int} (h : (Lit.int .u8 n).wf = true) : VRel κ (.u8 (BitVec.ofInt 8 n)) (.int .u8 n) := by
  simp [Lit.wf, IntKind.has, IntKind.min, IntKind.max, IntKind.signed, IntKind.bits] at h
  simp only [VRel, BitVec.toNat_ofInt]
  congr 1
  omega
end Go.Sym

/- Greetings: what is carried out call by call. -/
namespace Go.Sym
open Go.Proofs Go.Spec
set_option linter.unusedVariables false
noncomputable def H0 : Ctx := B5
theorem okH0 : COKs Tryd.prog gl0 H0 := okB5
noncomputable def H1 : Ctx := H0.exe Tryd.prog gl0 [] 400 Tryd.f62.params.size 62 Tryd.f62
theorem okH1 : COKs Tryd.prog gl0 H1 := okH0.exe [] 400 _ (by kernel_rfl) (by kernel_rfl) (by kernel_rfl) (fun args w => by kernel_rfl)
noncomputable def H2 : Ctx := H1.exe Tryd.prog gl0 [] 400 Tryd.f145.params.size 145 Tryd.f145
theorem okH2 : COKs Tryd.prog gl0 H2 := okH1.exe [] 400 _ (by kernel_rfl) (by kernel_rfl) (by kernel_rfl) (fun args w => by kernel_rfl)
noncomputable def H3 : Ctx := H2.exe Tryd.prog gl0 [] 400 Tryd.f128.params.size 128 Tryd.f128
theorem okH3 : COKs Tryd.prog gl0 H3 := okH2.exe [] 400 _ (by kernel_rfl) (by kernel_rfl) (by kernel_rfl) (fun args w => by kernel_rfl)
noncomputable def H4 : Ctx := H3.exe Tryd.prog gl0 [] 400 Tryd.f129.params.size 129 Tryd.f129
theorem okH4 : COKs Tryd.prog gl0 H4 := okH3.exe [] 400 _ (by kernel_rfl) (by kernel_rfl) (by kernel_rfl) (fun args w => by kernel_rfl)
noncomputable def H5 : Ctx := H4.exe Tryd.prog gl0 [] 400 Tryd.f94.params.size 94 Tryd.f94
theorem okH5 : COKs Tryd.prog gl0 H5 := okH4.exe [] 400 _ (by kernel_rfl) (by kernel_rfl) (by kernel_rfl) (fun args w => by kernel_rfl)
noncomputable def H6 : Ctx := H5.exe Tryd.prog gl0 [] 400 Tryd.f127.params.size 127 Tryd.f127
theorem okH6 : COKs Tryd.prog gl0 H6 := okH5.exe [] 400 _ (by kernel_rfl) (by kernel_rfl) (by kernel_rfl) (fun args w => by kernel_rfl)
noncomputable def H7 : Ctx := H6.exe Tryd.prog gl0 [] 400 Tryd.f98.params.size 98 Tryd.f98
theorem okH7 : COKs Tryd.prog gl0 H7 := okH6.exe [] 400 _ (by kernel_rfl) (by kernel_rfl) (by kernel_rfl) (fun args w => by kernel_rfl)
noncomputable def H8 : Ctx := H7.exe Tryd.prog gl0 [] 400 Tryd.f118.params.size 118 Tryd.f118
theorem okH8 : COKs Tryd.prog gl0 H8 := okH7.exe [] 400 _ (by kernel_rfl) (by kernel_rfl) (by kernel_rfl) (fun args w => by kernel_rfl)
noncomputable def H9 : Ctx := H8.exe Tryd.prog gl0 [] 400 Tryd.f79.params.size 79 Tryd.f79
theorem okH9 : COKs Tryd.prog gl0 H9 := okH8.exe [] 400 _ (by kernel_rfl) (by kernel_rfl) (by kernel_rfl) (fun args w => by kernel_rfl)
noncomputable def H10 : Ctx := H9.exe Tryd.prog gl0 [] 400 Tryd.f83.params.size 83 Tryd.f83
theorem okH10 : COKs Tryd.prog gl0 H10 := okH9.exe [] 400 _ (by kernel_rfl) (by kernel_rfl) (by kernel_rfl) (fun args w => by kernel_rfl)
noncomputable def H11 : Ctx := H10.exe Tryd.prog gl0 [] 400 Tryd.f81.params.size 81 Tryd.f81
theorem okH11 : COKs Tryd.prog gl0 H11 := okH10.exe [] 400 _ (by kernel_rfl) (by kernel_rfl) (by kernel_rfl) (fun args w => by kernel_rfl)
noncomputable def H12 : Ctx := H11.exe Tryd.prog gl0 [] 400 Tryd.f71.params.size 71 Tryd.f71
theorem okH12 : COKs Tryd.prog gl0 H12 := okH11.exe [] 400 _ (by kernel_rfl) (by kernel_rfl) (by kernel_rfl) (fun args w => by kernel_rfl)
noncomputable def H13 : Ctx := H12.exe Tryd.prog gl0 [] 400 Tryd.f113.params.size 113 Tryd.f113
theorem okH13 : COKs Tryd.prog gl0 H13 := okH12.exe [] 400 _ (by kernel_rfl) (by kernel_rfl) (by kernel_rfl) (fun args w => by kernel_rfl)
noncomputable def H14 : Ctx := H13.exe Tryd.prog gl0 [] 400 Tryd.f121.params.size 121 Tryd.f121
theorem okH14 : COKs Tryd.prog gl0 H14 := okH13.exe [] 400 _ (by kernel_rfl) (by kernel_rfl) (by kernel_rfl) (fun args w => by kernel_rfl)
noncomputable def H15 : Ctx := H14.exe Tryd.prog gl0 [] 400 Tryd.f119.params.size 119 Tryd.f119
theorem okH15 : COKs Tryd.prog gl0 H15 := okH14.exe [] 400 _ (by kernel_rfl) (by kernel_rfl) (by kernel_rfl) (fun args w => by kernel_rfl)
noncomputable def H16 : Ctx := H15.exe Tryd.prog gl0 [] 400 Tryd.f120.params.size 120 Tryd.f120
theorem okH16 : COKs Tryd.prog gl0 H16 := okH15.exe [] 400 _ (by kernel_rfl) (by kernel_rfl) (by kernel_rfl) (fun args w => by kernel_rfl)
noncomputable def H17 : Ctx := H16.exe Tryd.prog gl0 [] 400 Tryd.f85.params.size 85 Tryd.f85
theorem okH17 : COKs Tryd.prog gl0 H17 := okH16.exe [] 400 _ (by kernel_rfl) (by kernel_rfl) (by kernel_rfl) (fun args w => by kernel_rfl)
noncomputable def H18 : Ctx := H17.exe Tryd.prog gl0 [] 400 Tryd.f78.params.size 78 Tryd.f78
theorem okH18 : COKs Tryd.prog gl0 H18 := okH17.exe [] 400 _ (by kernel_rfl) (by kernel_rfl) (by kernel_rfl) (fun args w => by kernel_rfl)
noncomputable def H19 : Ctx := H18.exe Tryd.prog gl0 [] 400 Tryd.f122.params.size 122 Tryd.f122
theorem okH19 : COKs Tryd.prog gl0 H19 := okH18.exe [] 400 _ (by kernel_rfl) (by kernel_rfl) (by kernel_rfl) (fun args w => by kernel_rfl)
noncomputable def H20 : Ctx := H19.exe Tryd.prog gl0 [] 400 Tryd.f86.params.size 86 Tryd.f86
theorem okH20 : COKs Tryd.prog gl0 H20 := okH19.exe [] 400 _ (by kernel_rfl) (by kernel_rfl) (by kernel_rfl) (fun args w => by kernel_rfl)
noncomputable def H21 : Ctx := H20.exe Tryd.prog gl0 [] 400 Tryd.f45.params.size 45 Tryd.f45
theorem okH21 : COKs Tryd.prog gl0 H21 := okH20.exe [] 400 _ (by kernel_rfl) (by kernel_rfl) (by kernel_rfl) (fun args w => by kernel_rfl)
noncomputable def H22 : Ctx := H21.exe Tryd.prog gl0 [] 400 Tryd.f88.params.size 88 Tryd.f88
theorem okH22 : COKs Tryd.prog gl0 H22 := okH21.exe [] 400 _ (by kernel_rfl) (by kernel_rfl) (by kernel_rfl) (fun args w => by kernel_rfl)
noncomputable def H23 : Ctx := H22.exe Tryd.prog gl0 [] 400 Tryd.f126.params.size 126 Tryd.f126
theorem okH23 : COKs Tryd.prog gl0 H23 := okH22.exe [] 400 _ (by kernel_rfl) (by kernel_rfl) (by kernel_rfl) (fun args w => by kernel_rfl)
noncomputable def H24 : Ctx := H23.exe Tryd.prog gl0 [] 400 Tryd.f123.params.size 123 Tryd.f123
theorem okH24 : COKs Tryd.prog gl0 H24 := okH23.exe [] 400 _ (by kernel_rfl) (by kernel_rfl) (by kernel_rfl) (fun args w => by kernel_rfl)
noncomputable def H25 : Ctx := H24.exe Tryd.prog gl0 [] 400 Tryd.f93.params.size 93 Tryd.f93
theorem okH25 : COKs Tryd.prog gl0 H25 := okH24.exe [] 400 _ (by kernel_rfl) (by kernel_rfl) (by kernel_rfl) (fun args w => by kernel_rfl)
noncomputable def H26 : Ctx := H25.exe Tryd.prog gl0 [] 400 Tryd.f89.params.size 89 Tryd.f89
theorem okH26 : COKs Tryd.prog gl0 H26 := okH25.exe [] 400 _ (by kernel_rfl) (by kernel_rfl) (by kernel_rfl) (fun args w => by kernel_rfl)
noncomputable def H27 : Ctx := H26.exe Tryd.prog gl0 [] 400 Tryd.f125.params.size 125 Tryd.f125
theorem okH27 : COKs Tryd.prog gl0 H27 := okH26.exe [] 400 _ (by kernel_rfl) (by kernel_rfl) (by kernel_rfl) (fun args w => by kernel_rfl)
noncomputable def H28 : Ctx := H27.exe Tryd.prog gl0 [] 400 3 124 Tryd.f124
theorem okH28 : COKs Tryd.prog gl0 H28 := okH27.exe [] 400 _ (by kernel_rfl) (by kernel_rfl) (by kernel_rfl) (fun args w => by kernel_rfl)
noncomputable def H29 : Ctx := H28.exe Tryd.prog gl0 [] 400 Tryd.f95.params.size 95 Tryd.f95
theorem okH29 : COKs Tryd.prog gl0 H29 := okH28.exe [] 400 _ (by kernel_rfl) (by kernel_rfl) (by kernel_rfl) (fun args w => by kernel_rfl)
noncomputable def H30 : Ctx := H29.exe Tryd.prog gl0 [] 400 Tryd.f87.params.size 87 Tryd.f87
theorem okH30 : COKs Tryd.prog gl0 H30 := okH29.exe [] 400 _ (by kernel_rfl) (by kernel_rfl) (by kernel_rfl) (fun args w => by kernel_rfl)
noncomputable def H31 : Ctx := H30.exe Tryd.prog gl0 [] 400 Tryd.f46.params.size 46 Tryd.f46
theorem okH31 : COKs Tryd.prog gl0 H31 := okH30.exe [] 400 _ (by kernel_rfl) (by kernel_rfl) (by kernel_rfl) (fun args w => by kernel_rfl)
end Go.Sym

namespace Go.Spec
open Go.Sym
/-- The text of which a retry's random bytes are the sum. -/
def hrr : By := [72#8, 101#8, 108#8, 108#8, 111#8, 82#8, 101#8, 116#8, 114#8, 121#8, 82#8, 101#8, 113#8, 117#8, 101#8, 115#8, 116#8]
theorem hrr0 : shaB hrr 0 = 207#8 := by rw [shaB_eq]; kernel_rfl
theorem hrr_and : andP (fun (i : Nat) => decide (BitVec.ofNat 8 0 = shaB hrr i)) 0 32 true = false := by
  show (decide (BitVec.ofNat 8 0 = shaB hrr 0) && _) = false
  rw [hrr0]
  rfl
end Go.Spec
namespace Go.Sym
open Go.Proofs Go.Spec
set_option linter.unusedVariables false
set_option maxHeartbeats 0 in
set_option maxRecDepth 100000 in
theorem vh17  : bodyP Tryd.prog H31 gl0 [] [] 3000 Tryd.f17 0 [] [] (retQ Tryd.prog Tryd.f17 0 ⟨[], .bool true, [], []⟩) = (
let x1 := andP (fun (i : Nat) => decide (BitVec.ofNat 8 0 = shaB [BitVec.ofNat 8 72, BitVec.ofNat 8 101, BitVec.ofNat 8 108, BitVec.ofNat 8 108, BitVec.ofNat 8 111, BitVec.ofNat 8 82, BitVec.ofNat 8 101, BitVec.ofNat 8 116, BitVec.ofNat 8 114, BitVec.ofNat 8 121, BitVec.ofNat 8 82, BitVec.ofNat 8 101, BitVec.ofNat 8 113, BitVec.ofNat 8 117, BitVec.ofNat 8 101, BitVec.ofNat 8 115, BitVec.ofNat 8 116] i)) 0 32 Bool.true; let x2 := 0 < 17 ∧ 0 < 17 ∧ 17 = 17 ∧ 17 < 4611686018427387904 ∧ Bool.true = Bool.false ∧ True; @Bool.rec (fun _ => Prop) (0 < 17 ∧ 0 < 17 ∧ 17 = 17 ∧ 17 < 4611686018427387904 ∧ @Bool.rec (fun _ => Prop) (@Bool.rec (fun _ => Prop) (0 < 17 ∧ 0 < 17 ∧ 17 = 17 ∧ 17 < 4611686018427387904 ∧ x2) (0 < 17 ∧ 0 < 17 ∧ 17 = 17 ∧ 17 < 4611686018427387904 ∧ x2) !x1) x2 x1) (0 < 17 ∧ 0 < 17 ∧ 17 = 17 ∧ 17 < 4611686018427387904 ∧ (0 : Int) ≤ Int.ofNat 16 ∧ (0 : Int) ≤ Int.ofNat 8 ∧ 1 = 1 ∧ roomFor 0 1 1 ∧ (0 : Int) ≤ Int.ofNat 0 ∧ 1 = 1 ∧ 1 = 1 ∧ roomFor 1 1 1 ∧ 2 = 2 ∧ roomFor 2 32 1 ∧ (0 : Int) ≤ Int.ofNat 8 ∧ 34 = 34 ∧ 0 = 0 ∧ roomFor 0 34 1 ∧ (0 : Int) ≤ Int.ofNat 0 ∧ 1 = 1 ∧ 34 = 34 ∧ roomFor 34 1 1 ∧ 35 = 35 ∧ roomFor 35 0 1 ∧ (0 : Int) ≤ Int.ofNat 16 ∧ 35 = 35 ∧ 0 = 0 ∧ roomFor 0 35 1 ∧ (0 : Int) ≤ Int.ofNat 8 ∧ 1 = 1 ∧ 35 = 35 ∧ roomFor 35 1 1 ∧ (0 : Int) ≤ Int.ofNat 0 ∧ 1 = 1 ∧ 36 = 36 ∧ roomFor 36 1 1 ∧ (0 : Int) ≤ Int.ofNat 8 ∧ 37 = 37 ∧ 0 = 0 ∧ roomFor 0 37 1 ∧ (0 : Int) ≤ Int.ofNat 0 ∧ 1 = 1 ∧ 37 = 37 ∧ roomFor 37 1 1 ∧ (0 : Int) ≤ Int.ofNat 16 ∧ (0 : Int) ≤ Int.ofNat 8 ∧ 1 = 1 ∧ roomFor 0 1 1 ∧ (0 : Int) ≤ Int.ofNat 0 ∧ 1 = 1 ∧ 1 = 1 ∧ roomFor 1 1 1 ∧ (0 : Int) ≤ Int.ofNat 16 ∧ (0 : Int) ≤ Int.ofNat 8 ∧ 1 = 1 ∧ roomFor 0 1 1 ∧ (0 : Int) ≤ Int.ofNat 0 ∧ 1 = 1 ∧ 1 = 1 ∧ roomFor 1 1 1 ∧ (0 : Int) ≤ Int.ofNat 16 ∧ 2 = 2 ∧ 0 = 0 ∧ roomFor 0 2 1 ∧ (0 : Int) ≤ Int.ofNat 8 ∧ 1 = 1 ∧ 2 = 2 ∧ roomFor 2 1 1 ∧ (0 : Int) ≤ Int.ofNat 0 ∧ 1 = 1 ∧ 3 = 3 ∧ roomFor 3 1 1 ∧ 2 = 2 ∧ 4 = 4 ∧ roomFor 4 2 1 ∧ (0 : Int) ≤ Int.ofNat 16 ∧ 38 = 38 ∧ 0 = 0 ∧ roomFor 0 38 1 ∧ (0 : Int) ≤ Int.ofNat 8 ∧ 1 = 1 ∧ 38 = 38 ∧ roomFor 38 1 1 ∧ (0 : Int) ≤ Int.ofNat 0 ∧ 1 = 1 ∧ 39 = 39 ∧ roomFor 39 1 1 ∧ 6 = 6 ∧ 40 = 40 ∧ roomFor 40 6 1 ∧ @Bool.rec (fun _ => Prop) (@Bool.rec (fun _ => Prop) (46 = 46 ∧ 0 = 0 ∧ roomFor 0 46 1 ∧ (0 : Int) ≤ (2 : Int) ∧ 2 ≤ 46 ∧ 2 ≤ 46 ∧ 0 = 0 ∧ roomFor 0 2 1 ∧ (0 : Int) ≤ (2 : Int) ∧ 2 ≤ 46 ∧ (0 : Int) ≤ (0 : Int) ∧ 0 < 2 ∧ 0 < 2 ∧ (0 : Int) ≤ Int.ofNat 1 ∧ 1 < 2 ∧ 1 < 2 ∧ (0 : Int) ≤ (32 : Int) ∧ 32 ≤ 44 ∧ 34 ≤ 46 ∧ 0 = 0 ∧ roomFor 0 32 1 ∧ (0 : Int) ≤ (32 : Int) ∧ 32 ≤ 44 ∧ 32 = 32 ∧ (0 : Int) ≤ (1 : Int) ∧ 1 ≤ 12 ∧ 35 ≤ 46 ∧ 0 = 0 ∧ roomFor 0 1 1 ∧ (0 : Int) ≤ (1 : Int) ∧ 1 ≤ 12 ∧ (0 : Int) ≤ (0 : Int) ∧ 0 < 1 ∧ 0 < 1 ∧ (0 : Int) ≤ Int.ofNat 0 ∧ 0 ≤ 11 ∧ 35 ≤ 46 ∧ 0 = 0 ∧ roomFor 0 0 1 ∧ (0 : Int) ≤ Int.ofNat 0 ∧ 0 ≤ 11 ∧ 0 < 17 ∧ 0 < 17 ∧ 17 = 17 ∧ 17 < 4611686018427387904 ∧ (0 : Int) ≤ (2 : Int) ∧ 2 ≤ 11 ∧ 37 ≤ 46 ∧ 0 = 0 ∧ roomFor 0 2 1 ∧ (0 : Int) ≤ (2 : Int) ∧ 2 ≤ 11 ∧ (0 : Int) ≤ (0 : Int) ∧ 0 < 2 ∧ 0 < 2 ∧ (0 : Int) ≤ Int.ofNat 1 ∧ 1 < 2 ∧ 1 < 2 ∧ (0 : Int) ≤ (1 : Int) ∧ 1 ≤ 9 ∧ 38 ≤ 46 ∧ 0 = 0 ∧ roomFor 0 1 1 ∧ (0 : Int) ≤ (1 : Int) ∧ 1 ≤ 9 ∧ (0 : Int) ≤ (0 : Int) ∧ 0 < 1 ∧ 0 < 1 ∧ (0 : Int) ≤ (2 : Int) ∧ 2 ≤ 8 ∧ 40 ≤ 46 ∧ 0 = 0 ∧ roomFor 0 2 1 ∧ (0 : Int) ≤ (2 : Int) ∧ 2 ≤ 8 ∧ (0 : Int) ≤ (0 : Int) ∧ 0 < 2 ∧ 0 < 2 ∧ (0 : Int) ≤ Int.ofNat 1 ∧ 1 < 2 ∧ 1 < 2 ∧ (0 : Int) ≤ Int.ofNat 6 ∧ 6 ≤ 6 ∧ 46 ≤ 46 ∧ 0 = 0 ∧ roomFor 0 6 1 ∧ (0 : Int) ≤ Int.ofNat 6 ∧ 6 ≤ 6 ∧ 6 = 6 ∧ 0 = 0 ∧ roomFor 0 6 1 ∧ (0 : Int) ≤ (2 : Int) ∧ 2 ≤ 6 ∧ 2 ≤ 6 ∧ 0 = 0 ∧ roomFor 0 2 1 ∧ (0 : Int) ≤ (2 : Int) ∧ 2 ≤ 6 ∧ (0 : Int) ≤ (0 : Int) ∧ 0 < 2 ∧ 0 < 2 ∧ (0 : Int) ≤ Int.ofNat 1 ∧ 1 < 2 ∧ 1 < 2 ∧ (0 : Int) ≤ (2 : Int) ∧ 2 ≤ 4 ∧ 4 ≤ 6 ∧ 0 = 0 ∧ roomFor 0 2 1 ∧ (0 : Int) ≤ (2 : Int) ∧ 2 ≤ 4 ∧ (0 : Int) ≤ (0 : Int) ∧ 0 < 2 ∧ 0 < 2 ∧ (0 : Int) ≤ Int.ofNat 1 ∧ 1 < 2 ∧ 1 < 2 ∧ (0 : Int) ≤ Int.ofNat 2 ∧ 2 ≤ 2 ∧ 6 ≤ 6 ∧ 0 = 0 ∧ roomFor 0 2 1 ∧ (0 : Int) ≤ Int.ofNat 2 ∧ 2 ≤ 2 ∧ 2 = 2 ∧ 0 = 0 ∧ roomFor 0 2 1 ∧ (0 : Int) ≤ (2 : Int) ∧ 2 ≤ 2 ∧ 2 ≤ 2 ∧ 0 = 0 ∧ roomFor 0 2 1 ∧ (0 : Int) ≤ (2 : Int) ∧ 2 ≤ 2 ∧ (0 : Int) ≤ (0 : Int) ∧ 0 < 2 ∧ 0 < 2 ∧ (0 : Int) ≤ Int.ofNat 1 ∧ 1 < 2 ∧ 1 < 2 ∧ x2) (46 = 46 ∧ 0 = 0 ∧ roomFor 0 46 1 ∧ (0 : Int) ≤ (2 : Int) ∧ 2 ≤ 46 ∧ 2 ≤ 46 ∧ 0 = 0 ∧ roomFor 0 2 1 ∧ (0 : Int) ≤ (2 : Int) ∧ 2 ≤ 46 ∧ (0 : Int) ≤ (0 : Int) ∧ 0 < 2 ∧ 0 < 2 ∧ (0 : Int) ≤ Int.ofNat 1 ∧ 1 < 2 ∧ 1 < 2 ∧ (0 : Int) ≤ (32 : Int) ∧ 32 ≤ 44 ∧ 34 ≤ 46 ∧ 0 = 0 ∧ roomFor 0 32 1 ∧ (0 : Int) ≤ (32 : Int) ∧ 32 ≤ 44 ∧ 32 = 32 ∧ (0 : Int) ≤ (1 : Int) ∧ 1 ≤ 12 ∧ 35 ≤ 46 ∧ 0 = 0 ∧ roomFor 0 1 1 ∧ (0 : Int) ≤ (1 : Int) ∧ 1 ≤ 12 ∧ (0 : Int) ≤ (0 : Int) ∧ 0 < 1 ∧ 0 < 1 ∧ (0 : Int) ≤ Int.ofNat 0 ∧ 0 ≤ 11 ∧ 35 ≤ 46 ∧ 0 = 0 ∧ roomFor 0 0 1 ∧ (0 : Int) ≤ Int.ofNat 0 ∧ 0 ≤ 11 ∧ 0 < 17 ∧ 0 < 17 ∧ 17 = 17 ∧ 17 < 4611686018427387904 ∧ (0 : Int) ≤ (2 : Int) ∧ 2 ≤ 11 ∧ 37 ≤ 46 ∧ 0 = 0 ∧ roomFor 0 2 1 ∧ (0 : Int) ≤ (2 : Int) ∧ 2 ≤ 11 ∧ (0 : Int) ≤ (0 : Int) ∧ 0 < 2 ∧ 0 < 2 ∧ (0 : Int) ≤ Int.ofNat 1 ∧ 1 < 2 ∧ 1 < 2 ∧ (0 : Int) ≤ (1 : Int) ∧ 1 ≤ 9 ∧ 38 ≤ 46 ∧ 0 = 0 ∧ roomFor 0 1 1 ∧ (0 : Int) ≤ (1 : Int) ∧ 1 ≤ 9 ∧ (0 : Int) ≤ (0 : Int) ∧ 0 < 1 ∧ 0 < 1 ∧ (0 : Int) ≤ (2 : Int) ∧ 2 ≤ 8 ∧ 40 ≤ 46 ∧ 0 = 0 ∧ roomFor 0 2 1 ∧ (0 : Int) ≤ (2 : Int) ∧ 2 ≤ 8 ∧ (0 : Int) ≤ (0 : Int) ∧ 0 < 2 ∧ 0 < 2 ∧ (0 : Int) ≤ Int.ofNat 1 ∧ 1 < 2 ∧ 1 < 2 ∧ (0 : Int) ≤ Int.ofNat 6 ∧ 6 ≤ 6 ∧ 46 ≤ 46 ∧ 0 = 0 ∧ roomFor 0 6 1 ∧ (0 : Int) ≤ Int.ofNat 6 ∧ 6 ≤ 6 ∧ 6 = 6 ∧ 0 = 0 ∧ roomFor 0 6 1 ∧ (0 : Int) ≤ (2 : Int) ∧ 2 ≤ 6 ∧ 2 ≤ 6 ∧ 0 = 0 ∧ roomFor 0 2 1 ∧ (0 : Int) ≤ (2 : Int) ∧ 2 ≤ 6 ∧ (0 : Int) ≤ (0 : Int) ∧ 0 < 2 ∧ 0 < 2 ∧ (0 : Int) ≤ Int.ofNat 1 ∧ 1 < 2 ∧ 1 < 2 ∧ (0 : Int) ≤ (2 : Int) ∧ 2 ≤ 4 ∧ 4 ≤ 6 ∧ 0 = 0 ∧ roomFor 0 2 1 ∧ (0 : Int) ≤ (2 : Int) ∧ 2 ≤ 4 ∧ (0 : Int) ≤ (0 : Int) ∧ 0 < 2 ∧ 0 < 2 ∧ (0 : Int) ≤ Int.ofNat 1 ∧ 1 < 2 ∧ 1 < 2 ∧ (0 : Int) ≤ Int.ofNat 2 ∧ 2 ≤ 2 ∧ 6 ≤ 6 ∧ 0 = 0 ∧ roomFor 0 2 1 ∧ (0 : Int) ≤ Int.ofNat 2 ∧ 2 ≤ 2 ∧ 2 = 2 ∧ 0 = 0 ∧ roomFor 0 2 1 ∧ (0 : Int) ≤ (2 : Int) ∧ 2 ≤ 2 ∧ 2 ≤ 2 ∧ 0 = 0 ∧ roomFor 0 2 1 ∧ (0 : Int) ≤ (2 : Int) ∧ 2 ≤ 2 ∧ (0 : Int) ≤ (0 : Int) ∧ 0 < 2 ∧ 0 < 2 ∧ (0 : Int) ≤ Int.ofNat 1 ∧ 1 < 2 ∧ 1 < 2 ∧ 0 < 17 ∧ 0 < 17 ∧ 17 = 17 ∧ 17 < 4611686018427387904 ∧ Bool.true = Bool.true ∧ True) !x1) (46 = 46 ∧ 0 = 0 ∧ roomFor 0 46 1 ∧ (0 : Int) ≤ (2 : Int) ∧ 2 ≤ 46 ∧ 2 ≤ 46 ∧ 0 = 0 ∧ roomFor 0 2 1 ∧ (0 : Int) ≤ (2 : Int) ∧ 2 ≤ 46 ∧ (0 : Int) ≤ (0 : Int) ∧ 0 < 2 ∧ 0 < 2 ∧ (0 : Int) ≤ Int.ofNat 1 ∧ 1 < 2 ∧ 1 < 2 ∧ (0 : Int) ≤ (32 : Int) ∧ 32 ≤ 44 ∧ 34 ≤ 46 ∧ 0 = 0 ∧ roomFor 0 32 1 ∧ (0 : Int) ≤ (32 : Int) ∧ 32 ≤ 44 ∧ 32 = 32 ∧ (0 : Int) ≤ (1 : Int) ∧ 1 ≤ 12 ∧ 35 ≤ 46 ∧ 0 = 0 ∧ roomFor 0 1 1 ∧ (0 : Int) ≤ (1 : Int) ∧ 1 ≤ 12 ∧ (0 : Int) ≤ (0 : Int) ∧ 0 < 1 ∧ 0 < 1 ∧ (0 : Int) ≤ Int.ofNat 0 ∧ 0 ≤ 11 ∧ 35 ≤ 46 ∧ 0 = 0 ∧ roomFor 0 0 1 ∧ (0 : Int) ≤ Int.ofNat 0 ∧ 0 ≤ 11 ∧ 0 < 17 ∧ 0 < 17 ∧ 17 = 17 ∧ 17 < 4611686018427387904 ∧ (0 : Int) ≤ (2 : Int) ∧ 2 ≤ 11 ∧ 37 ≤ 46 ∧ 0 = 0 ∧ roomFor 0 2 1 ∧ (0 : Int) ≤ (2 : Int) ∧ 2 ≤ 11 ∧ (0 : Int) ≤ (0 : Int) ∧ 0 < 2 ∧ 0 < 2 ∧ (0 : Int) ≤ Int.ofNat 1 ∧ 1 < 2 ∧ 1 < 2 ∧ (0 : Int) ≤ (1 : Int) ∧ 1 ≤ 9 ∧ 38 ≤ 46 ∧ 0 = 0 ∧ roomFor 0 1 1 ∧ (0 : Int) ≤ (1 : Int) ∧ 1 ≤ 9 ∧ (0 : Int) ≤ (0 : Int) ∧ 0 < 1 ∧ 0 < 1 ∧ (0 : Int) ≤ (2 : Int) ∧ 2 ≤ 8 ∧ 40 ≤ 46 ∧ 0 = 0 ∧ roomFor 0 2 1 ∧ (0 : Int) ≤ (2 : Int) ∧ 2 ≤ 8 ∧ (0 : Int) ≤ (0 : Int) ∧ 0 < 2 ∧ 0 < 2 ∧ (0 : Int) ≤ Int.ofNat 1 ∧ 1 < 2 ∧ 1 < 2 ∧ (0 : Int) ≤ Int.ofNat 6 ∧ 6 ≤ 6 ∧ 46 ≤ 46 ∧ 0 = 0 ∧ roomFor 0 6 1 ∧ (0 : Int) ≤ Int.ofNat 6 ∧ 6 ≤ 6 ∧ 6 = 6 ∧ 0 = 0 ∧ roomFor 0 6 1 ∧ (0 : Int) ≤ (2 : Int) ∧ 2 ≤ 6 ∧ 2 ≤ 6 ∧ 0 = 0 ∧ roomFor 0 2 1 ∧ (0 : Int) ≤ (2 : Int) ∧ 2 ≤ 6 ∧ (0 : Int) ≤ (0 : Int) ∧ 0 < 2 ∧ 0 < 2 ∧ (0 : Int) ≤ Int.ofNat 1 ∧ 1 < 2 ∧ 1 < 2 ∧ (0 : Int) ≤ (2 : Int) ∧ 2 ≤ 4 ∧ 4 ≤ 6 ∧ 0 = 0 ∧ roomFor 0 2 1 ∧ (0 : Int) ≤ (2 : Int) ∧ 2 ≤ 4 ∧ (0 : Int) ≤ (0 : Int) ∧ 0 < 2 ∧ 0 < 2 ∧ (0 : Int) ≤ Int.ofNat 1 ∧ 1 < 2 ∧ 1 < 2 ∧ (0 : Int) ≤ Int.ofNat 2 ∧ 2 ≤ 2 ∧ 6 ≤ 6 ∧ 0 = 0 ∧ roomFor 0 2 1 ∧ (0 : Int) ≤ Int.ofNat 2 ∧ 2 ≤ 2 ∧ 2 = 2 ∧ 0 = 0 ∧ roomFor 0 2 1 ∧ (0 : Int) ≤ (2 : Int) ∧ 2 ≤ 2 ∧ 2 ≤ 2 ∧ 0 = 0 ∧ roomFor 0 2 1 ∧ (0 : Int) ≤ (2 : Int) ∧ 2 ≤ 2 ∧ (0 : Int) ≤ (0 : Int) ∧ 0 < 2 ∧ 0 < 2 ∧ (0 : Int) ≤ Int.ofNat 1 ∧ 1 < 2 ∧ 1 < 2 ∧ Bool.true = Bool.false ∧ True) x1) !x1 : Prop) := by kernel_rfl
set_option maxHeartbeats 0 in
set_option maxRecDepth 100000 in
theorem bh17 : Must (bodyP Tryd.prog H31 gl0 [] [] 3000 Tryd.f17 0 [] [] (retQ Tryd.prog Tryd.f17 0 ⟨[], .bool true, [], []⟩)) := by
  constructor
  rw [vh17]
  intro x1 x2
  have h1 : x1 = false := hrr_and
  clear_value x1
  subst h1
  repeat' first
    | decide
    | exact trivial
    | (unfold roomFor; decide)
    | refine ⟨?_, ?_⟩
    | refine brec (fun h => ?_) (fun h => absurd h (by decide))
    | refine brec (fun h => absurd h (by decide)) (fun h => ?_)
end Go.Sym

namespace Go.Sym
open Go.Proofs Go.Spec
set_option linter.unusedVariables false
def gGr (xs : List AV) (bs : List ABlk) : TL := match xs, bs with
  | [], [] => .ok ⟨[], .bool true, [], []⟩
  | _, _ => .no
def spGr : Spec := ⟨[], fun _ _ => [], fun _ _ => [], gGr⟩
theorem ch17 : COK Tryd.prog gl0 17 (mkF spGr) := by
  refine ctrE (fn := Tryd.f17) [] 3000 (by kernel_rfl) (by kernel_rfl) okH31 (by kernel_rfl) (fun args w => by kernel_rfl) fun xs bs r hs ho => ?_
  replace hs : (gGr xs bs).sel = some r := hs
  unfold gGr at hs
  split at hs
  · simp only [TL.sel, Option.some.injEq] at hs
    subst hs
    exact ⟨[], bh17⟩
  · simp [TL.sel] at hs
noncomputable def L0 : Ctx := H31.add 17 (mkF spGr)
theorem okL0 : COKs Tryd.prog gl0 L0 := okH31.add ch17
noncomputable def L1 : Ctx := L0.exe Tryd.prog gl0 [] 600 2 110 Tryd.f110
theorem okL1 : COKs Tryd.prog gl0 L1 := okL0.exe [] 600 _ (by kernel_rfl) (by kernel_rfl) (by kernel_rfl) (fun args w => by kernel_rfl)
noncomputable def L2 : Ctx := L1.exe Tryd.prog gl0 [] 600 Tryd.f141.params.size 141 Tryd.f141
theorem okL2 : COKs Tryd.prog gl0 L2 := okL1.exe [] 600 _ (by kernel_rfl) (by kernel_rfl) (by kernel_rfl) (fun args w => by kernel_rfl)
noncomputable def L3 : Ctx := L2.exe Tryd.prog gl0 [] 600 Tryd.f109.params.size 109 Tryd.f109
theorem okL3 : COKs Tryd.prog gl0 L3 := okL2.exe [] 600 _ (by kernel_rfl) (by kernel_rfl) (by kernel_rfl) (fun args w => by kernel_rfl)
noncomputable def L4 : Ctx := L3.exe Tryd.prog gl0 [] 600 Tryd.f70.params.size 70 Tryd.f70
theorem okL4 : COKs Tryd.prog gl0 L4 := okL3.exe [] 600 _ (by kernel_rfl) (by kernel_rfl) (by kernel_rfl) (fun args w => by kernel_rfl)
noncomputable def L5 : Ctx := L4.exe Tryd.prog gl0 [] 600 Tryd.f73.params.size 73 Tryd.f73
theorem okL5 : COKs Tryd.prog gl0 L5 := okL4.exe [] 600 _ (by kernel_rfl) (by kernel_rfl) (by kernel_rfl) (fun args w => by kernel_rfl)
noncomputable def L6 : Ctx := L5.exe Tryd.prog gl0 [] 600 2 112 Tryd.f112
theorem okL6 : COKs Tryd.prog gl0 L6 := okL5.exe [] 600 _ (by kernel_rfl) (by kernel_rfl) (by kernel_rfl) (fun args w => by kernel_rfl)
noncomputable def L7 : Ctx := L6.exe Tryd.prog gl0 [] 600 Tryd.f142.params.size 142 Tryd.f142
theorem okL7 : COKs Tryd.prog gl0 L7 := okL6.exe [] 600 _ (by kernel_rfl) (by kernel_rfl) (by kernel_rfl) (fun args w => by kernel_rfl)
noncomputable def L8 : Ctx := L7.exe Tryd.prog gl0 [] 600 Tryd.f111.params.size 111 Tryd.f111
theorem okL8 : COKs Tryd.prog gl0 L8 := okL7.exe [] 600 _ (by kernel_rfl) (by kernel_rfl) (by kernel_rfl) (fun args w => by kernel_rfl)
noncomputable def L9 : Ctx := L8.exe Tryd.prog gl0 [] 600 Tryd.f72.params.size 72 Tryd.f72
theorem okL9 : COKs Tryd.prog gl0 L9 := okL8.exe [] 600 _ (by kernel_rfl) (by kernel_rfl) (by kernel_rfl) (fun args w => by kernel_rfl)
noncomputable def L10 : Ctx := L9.exe Tryd.prog gl0 [] 600 Tryd.f75.params.size 75 Tryd.f75
theorem okL10 : COKs Tryd.prog gl0 L10 := okL9.exe [] 600 _ (by kernel_rfl) (by kernel_rfl) (by kernel_rfl) (fun args w => by kernel_rfl)
noncomputable def L11 : Ctx := L10.exe Tryd.prog gl0 [] 600 2 115 Tryd.f115
theorem okL11 : COKs Tryd.prog gl0 L11 := okL10.exe [] 600 _ (by kernel_rfl) (by kernel_rfl) (by kernel_rfl) (fun args w => by kernel_rfl)
noncomputable def L12 : Ctx := L11.exe Tryd.prog gl0 [] 600 Tryd.f143.params.size 143 Tryd.f143
theorem okL12 : COKs Tryd.prog gl0 L12 := okL11.exe [] 600 _ (by kernel_rfl) (by kernel_rfl) (by kernel_rfl) (fun args w => by kernel_rfl)
noncomputable def L13 : Ctx := L12.exe Tryd.prog gl0 [] 600 Tryd.f114.params.size 114 Tryd.f114
theorem okL13 : COKs Tryd.prog gl0 L13 := okL12.exe [] 600 _ (by kernel_rfl) (by kernel_rfl) (by kernel_rfl) (fun args w => by kernel_rfl)
noncomputable def L14 : Ctx := L13.exe Tryd.prog gl0 [] 600 Tryd.f74.params.size 74 Tryd.f74
theorem okL14 : COKs Tryd.prog gl0 L14 := okL13.exe [] 600 _ (by kernel_rfl) (by kernel_rfl) (by kernel_rfl) (fun args w => by kernel_rfl)
noncomputable def L15 : Ctx := L14.exe Tryd.prog gl0 [] 600 Tryd.f77.params.size 77 Tryd.f77
theorem okL15 : COKs Tryd.prog gl0 L15 := okL14.exe [] 600 _ (by kernel_rfl) (by kernel_rfl) (by kernel_rfl) (fun args w => by kernel_rfl)
noncomputable def L16 : Ctx := L15.exe Tryd.prog gl0 [] 600 2 117 Tryd.f117
theorem okL16 : COKs Tryd.prog gl0 L16 := okL15.exe [] 600 _ (by kernel_rfl) (by kernel_rfl) (by kernel_rfl) (fun args w => by kernel_rfl)
noncomputable def L17 : Ctx := L16.exe Tryd.prog gl0 [] 600 Tryd.f144.params.size 144 Tryd.f144
theorem okL17 : COKs Tryd.prog gl0 L17 := okL16.exe [] 600 _ (by kernel_rfl) (by kernel_rfl) (by kernel_rfl) (fun args w => by kernel_rfl)
noncomputable def L18 : Ctx := L17.exe Tryd.prog gl0 [] 600 Tryd.f116.params.size 116 Tryd.f116
theorem okL18 : COKs Tryd.prog gl0 L18 := okL17.exe [] 600 _ (by kernel_rfl) (by kernel_rfl) (by kernel_rfl) (fun args w => by kernel_rfl)
noncomputable def L19 : Ctx := L18.exe Tryd.prog gl0 [] 600 Tryd.f76.params.size 76 Tryd.f76
theorem okL19 : COKs Tryd.prog gl0 L19 := okL18.exe [] 600 _ (by kernel_rfl) (by kernel_rfl) (by kernel_rfl) (fun args w => by kernel_rfl)
noncomputable def L20 : Ctx := L19.exe Tryd.prog gl0 [] 600 Tryd.f37.params.size 37 Tryd.f37
theorem okL20 : COKs Tryd.prog gl0 L20 := okL19.exe [] 600 _ (by kernel_rfl) (by kernel_rfl) (by kernel_rfl) (fun args w => by kernel_rfl)
noncomputable def L21 : Ctx := L20.exe Tryd.prog gl0 [] 600 Tryd.f80.params.size 80 Tryd.f80
theorem okL21 : COKs Tryd.prog gl0 L21 := okL20.exe [] 600 _ (by kernel_rfl) (by kernel_rfl) (by kernel_rfl) (fun args w => by kernel_rfl)
noncomputable def L22 : Ctx := L21.exe Tryd.prog gl0 [] 600 Tryd.f82.params.size 82 Tryd.f82
theorem okL22 : COKs Tryd.prog gl0 L22 := okL21.exe [] 600 _ (by kernel_rfl) (by kernel_rfl) (by kernel_rfl) (fun args w => by kernel_rfl)
noncomputable def L23 : Ctx := L22.exe Tryd.prog gl0 [] 600 Tryd.f84.params.size 84 Tryd.f84
theorem okL23 : COKs Tryd.prog gl0 L23 := okL22.exe [] 600 _ (by kernel_rfl) (by kernel_rfl) (by kernel_rfl) (fun args w => by kernel_rfl)
noncomputable def L24 : Ctx := L23.exe Tryd.prog gl0 [] 600 Tryd.f38.params.size 38 Tryd.f38
theorem okL24 : COKs Tryd.prog gl0 L24 := okL23.exe [] 600 _ (by kernel_rfl) (by kernel_rfl) (by kernel_rfl) (fun args w => by kernel_rfl)
noncomputable def L25 : Ctx := L24.exe Tryd.prog gl0 [] 600 Tryd.f14.params.size 14 Tryd.f14
theorem okL25 : COKs Tryd.prog gl0 L25 := okL24.exe [] 600 _ (by kernel_rfl) (by kernel_rfl) (by kernel_rfl) (fun args w => by kernel_rfl)
noncomputable def L26 : Ctx := L25.exe Tryd.prog gl0 [] 600 Tryd.f15.params.size 15 Tryd.f15
theorem okL26 : COKs Tryd.prog gl0 L26 := okL25.exe [] 600 _ (by kernel_rfl) (by kernel_rfl) (by kernel_rfl) (fun args w => by kernel_rfl)
end Go.Sym

set_option linter.unusedSimpArgs false
namespace Go.Spec
open Go.Sym
def Cli.cN (c : Cli) : Int := if 0 < c.n6 then (c.by.length : Int) - 2 - 33 * c.n6 else 0
def Cli.cE (c : Cli) : Int := if 0 < c.n6 then 0 else 13
end Go.Spec
namespace Go.Sym
open Go.Proofs Go.Spec
set_option linter.unusedVariables false
theorem bx19 (c : Cli) (h : c.ok) : Must (bodyP Tryd.prog (Gb5 c) gl0 [] [] 3000 Tryd.f19 0 [.rb false c.by .unk] [] (retQ Tryd.prog Tryd.f19 0 ⟨[], .tup [.int .i64 c.cN, .int .i64 c.cE], [], []⟩)) := by
  constructor
  rw [vx19]
  have hb := (byAt_of c h).l
  have h6 := h.h6.1
  have h7 := h.h7
  unfold Cli.cN Cli.cE
  refine ⟨h, rfl, ?_⟩
  refine brec (fun d => ?_) (fun d => ?_)
  · have d : (c.n6 : Int) = 0 := of_decide_eq_true d
    rw [if_neg (by omega), if_neg (by omega)]
    exact ⟨rfl, rfl, trivial⟩
  · have d : ¬ (c.n6 : Int) = 0 := of_decide_eq_false d
    rw [if_pos (by omega), if_pos (by omega), h7]
    have w1 : IntKind.i64.wrap ((c.n6 : Int) * 33) = 33 * c.n6 := by rw [wrap_i64 (by omega) (by omega)]; omega
    have w2 : IntKind.i64.wrap ((c.by.length : Int) - 2) = (c.by.length : Int) - 2 := wrap_i64 (by omega) (by omega)
    rw [w1, w2, wrap_i64 (by omega) (by omega)]
    exact ⟨rfl, rfl, trivial⟩
def gg19 (c : Cli) (xs : List AV) (bs : List ABlk) : TL := match xs, bs with
  | [.rb false b .unk], [] => .ok ⟨[c.ok, b = c.by], .tup [.int .i64 c.cN, .int .i64 c.cE], [], []⟩
  | _, _ => .no
def sp19 (c : Cli) : Spec := ⟨[.by0], fun _ _ => [], fun _ _ => [], gg19 c⟩
theorem cg19 (c : Cli) : COK Tryd.prog gl0 19 (mkF (sp19 c)) := by
  refine ctrE (fn := Tryd.f19) [] 3000 (by kernel_rfl) (by kernel_rfl) (okGb5 c) (by kernel_rfl) (fun args w => by kernel_rfl) fun xs bs r hs ho => ?_
  replace hs : (gg19 c xs bs).sel = some r := hs
  unfold gg19 at hs
  split at hs
  · simp only [TL.sel, Option.some.injEq] at hs
    subst hs
    obtain ⟨h, h2⟩ := obsT_cons.1 ho
    have h2 := obsT_one.1 h2
    subst h2
    exact ⟨_, bx19 c h⟩
  · simp [TL.sel] at hs
noncomputable def Gy (c : Cli) : Ctx := ((((((((Ctx.none []).add 15 (mkF spt15)).add 14 (mkF spn14)).add 16 (mkF spd16)).add 17 (mkF spGr)).add 18 (mkF (sp47 c))).add 19 (mkF (sp19 c))).add 20 (mkF sps20)).add 21 (mkF spf21)
theorem okGy (c : Cli) : COKs Tryd.prog gl0 (Gy c) := ((((((((COKs.none (keep := [])).add ct15).add cn14).add cd16).add ch17).add (cg18 c)).add (cg19 c)).add cs20).add cf21
end Go.Sym

set_option linter.unusedSimpArgs false
namespace Go.Spec
open Go.Sym
theorem Cli.re_re (c : Cli) : c.re.re = c.re := by
  show ({ c with R := fun i => (rg 32 (fun i => (rg 32 c.R).getD i (0 : BitVec 8))).getD i 0 } : Cli) = { c with R := fun i => (rg 32 c.R).getD i (0 : BitVec 8) }
  rw [rgf]
theorem Cli.re_pB (c : Cli) : c.re.pB = c.pB := by unfold Cli.pB; rw [c.re_okB, c.re_by]
theorem Cli.re_pE (c : Cli) : c.re.pE = c.pE := by unfold Cli.pE; rw [c.re_okB]
theorem Cli.re_sz (c : Cli) (h : c.sz) : c.re.sz := ⟨h.h1, h.h2, h.h3, h.h4, h.h5, h.h6, h.k5, h.k6, h.k7⟩
end Go.Spec
namespace Go.Sym
open Go.Proofs Go.Spec
set_option linter.unusedVariables false
def rowsF (c : Cli) (P : Prop) : Prop := ((fun (j : Nat) => [AV.int IntKind.i64 (c.L1 j)]) = fun (j : Nat) => [AV.int IntKind.i64 (c.L1 j)]) ∧ ((fun (j : Nat) => [AV.int IntKind.i64 (c.L2 j)]) = fun (j : Nat) => [AV.int IntKind.i64 (c.L2 j)]) ∧ ((fun (j : Nat) => [AV.int IntKind.i64 (c.L3 j)]) = fun (j : Nat) => [AV.int IntKind.i64 (c.L3 j)]) ∧ ((fun (j : Nat) => [AV.int IntKind.i64 (c.L4 j)]) = fun (j : Nat) => [AV.int IntKind.i64 (c.L4 j)]) ∧ ((fun (j : Nat) => [AV.int IntKind.i64 (c.G j), AV.rb Bool.true (c.K j) NL.unk]) = fun (j : Nat) => [AV.int IntKind.i64 (c.G j), AV.rb Bool.true (c.K j) NL.unk]) ∧ ((fun (j : Nat) => [AV.rb Bool.true (c.T j) NL.unk, AV.int IntKind.i64 (c.A j)]) = fun (j : Nat) => [AV.rb Bool.true (c.T j) NL.unk, AV.int IntKind.i64 (c.A j)]) ∧ ((fun (j : Nat) => [AV.rb Bool.true (c.D j) NL.unk]) = fun (j : Nat) => [AV.rb Bool.true (c.D j) NL.unk]) ∧ P
theorem rowsF_of {c : Cli} {P : Prop} (h : P) : rowsF c P := ⟨rfl, rfl, rfl, rfl, rfl, rfl, rfl, h⟩
def dC (c : Cli) (s t : Nat → NL) (P : Prop) : Prop := 0 + c.n5 ≤ c.n5 ∧ (∀ y, y < c.n5 → datas false [AV.int IntKind.i64 (c.G y), AV.rb true (c.K y) (s y)] = true ∧ [AV.int IntKind.i64 (c.G y), AV.rb true (c.K y) (s y)].length ≤ 2) ∧ 0 + c.n6 ≤ c.n6 ∧ (∀ y, y < c.n6 → datas false [AV.rb true (c.T y) (t y), AV.int IntKind.i64 (c.A y)] = true ∧ [AV.rb true (c.T y) (t y), AV.int IntKind.i64 (c.A y)].length ≤ 2) ∧ P
theorem dC_of {c : Cli} {s t : Nat → NL} {P : Prop} (h : P) : dC c s t P := ⟨by omega, fun _ _ => ⟨rfl, Nat.le_refl _⟩, by omega, fun _ _ => ⟨rfl, Nat.le_refl _⟩, h⟩
def ff : Prop := true = false ∧ True
def c14 (c : Cli) : Prop := @Bool.rec (fun _ => Prop) ff (true = decide (c.cN = IntKind.i64.wrap (IntKind.i64.wrap ((c.re.re.pB.length : Int) - (2 : Int)) - IntKind.i64.wrap ((33 : Int) * (c.n6 : Int)))) ∧ True) (decide (c.cE = (0 : Int)))
def okb (c : Cli) (u : Clt) : Prop := c.re.re.pB.length = c.re.re.pB.length ∧ c.ok ∧ c.re.re.pB = c.by ∧ c.re.re.pB.length = c.re.re.pB.length ∧ c.ok ∧ c.re.re.pB = c.by ∧ c.n5 < 1099511627 ∧ c.n6 < 1099511627 ∧ rowsF c (dC c (fun _ => .unk) (fun _ => .unk) (sm20 c.re.re c.re ∧ rowsF c True ∧ rowsE c u.toClu (@Bool.rec (fun _ => Prop) (@Bool.rec (fun _ => Prop) (c14 c) (@Bool.rec (fun _ => Prop) (true = true ∧ True) (c14 c) (!decide (c.cN = (0 : Int)))) (decide (c.cE = (13 : Int)))) ff (!decide (decide (c.cE = (0 : Int)) = decide ((0 : Int) < (c.n6 : Int)))))))
set_option maxRecDepth 100000 in
theorem vl5 (c : Cli) (u : Clt) : bodyP Tryd.prog (Gy c) gl0 [] [] 3000 Tryd.f5 0 [cliT c u] [] (retQ Tryd.prog Tryd.f5 0 ⟨[], .bool true, [], []⟩) = (
  c.n5 * 32 ≤ 140737488351232 ∧ c.n6 * 32 ≤ 140737488351232 ∧ rowsE c u.toClu (dC c (fun y => .is (u.C y)) (fun y => .is (u.F y)) (rowsE c u.toClu (c.re.sz ∧ rowsE c u.toClu
    (@Bool.rec (fun _ => Prop) ff (c.re.re.pB.length = c.re.re.pB.length ∧ c.re.pB.length = c.re.pB.length ∧
      @Bool.rec (fun _ => Prop) (@Bool.rec (fun _ => Prop) (okb c u) (true = decide (c.re.re.pE = (1 : Int)) ∧ True) (!decide (c.re.re.pE = (0 : Int)))) ff (!decide (c.re.re.pB = c.re.pB))) (!!decide (decide (c.re.re.pE = (0 : Int)) = c.re.okB)))))) ) := by kernel_rfl
theorem bl5 (c : Cli) (u : Clt) (hz : c.sz) : Must (bodyP Tryd.prog (Gy c) gl0 [] [] 3000 Tryd.f5 0 [cliT c u] [] (retQ Tryd.prog Tryd.f5 0 ⟨[], .bool true, [], []⟩)) := by
  constructor
  rw [vl5]
  refine ⟨hz.h5, hz.h6, rowsE_of (dC_of (rowsE_of ⟨c.re_sz hz, rowsE_of ?_⟩))⟩
  unfold okb c14
  rw [c.re_re, c.re_pB, c.re_pE, c.re_okB]
  refine brec (fun d => ⟨rfl, rfl, ?_⟩) (fun d => ?_)
  · refine brec (fun d2 => ?_) (fun _ => ?_)
    · simp at d2
    · refine brec (fun d3 => ?_) (fun d3 => ?_)
      · have d3 : ¬ c.pE = 0 := by simpa using d3
        refine ⟨?_, trivial⟩
        unfold Cli.pE at d3 ⊢
        by_cases h : c.okB = true
        · rw [if_pos h] at d3; exact absurd rfl d3
        · rw [if_neg h]; rfl
      · have d3 : c.pE = 0 := by simpa using d3
        have hk : c.okB = true := by
          unfold Cli.pE at d3
          by_cases h : c.okB = true
          · exact h
          · rw [if_neg h] at d3; cases d3
        have h : c.ok := Cli.okB_iff.1 hk
        have hB : c.pB = c.by := by unfold Cli.pB; rw [if_pos hk]
        have hb := (byAt_of c h).l
        have h6 := h.h6.1
        rw [hB]
        have g1 := h.h1
        have g2 := h.h2
        have g3 := h.h3
        have g4 := h.h4
        have g5 := h.h5.1
        refine ⟨rfl, h, rfl, rfl, h, rfl, by omega, by omega, rowsF_of (dC_of ⟨⟨rfl, by show c.n1 < _; omega, by show c.n2 < _; omega, by show c.n3 < _; omega, by show c.n4 < _; omega, by show c.n5 < _; omega, by show c.n6 < _; omega, h.h7⟩, rowsF_of trivial, rowsE_of ?_⟩)⟩
        have w1 : IntKind.i64.wrap ((33 : Int) * (c.n6 : Int)) = 33 * c.n6 := wrap_i64 (by omega) (by omega)
        have w2 : IntKind.i64.wrap ((c.by.length : Int) - 2) = (c.by.length : Int) - 2 := wrap_i64 (by omega) (by omega)
        rw [w1, w2, wrap_i64 (by omega) (by omega)]
        unfold Cli.cE Cli.cN
        by_cases h0 : 0 < c.n6
        · have h0i : (0 : Int) < (c.n6 : Int) := by omega
          simp only [if_pos h0, h0i, decide_true]
          exact ⟨trivial, trivial⟩
        · have h0i : ¬ (0 : Int) < (c.n6 : Int) := by omega
          simp only [if_neg h0, h0i, decide_false]
          exact ⟨trivial, trivial⟩
  · exfalso
    have : decide (c.pE = 0) = c.okB := by
      unfold Cli.pE
      cases c.okB <;> rfl
    rw [this] at d
    simp at d
end Go.Sym

set_option linter.unusedSimpArgs false
namespace Go.Spec
open Go.Sym
/-- So many times the same. -/
def rpB (v : By) : Nat → By
  | 0 => []
  | m + 1 => v ++ rpB v m
theorem rpB_len (v : By) : ∀ m, (rpB v m).length = m * v.length
  | 0 => by rw [Nat.zero_mul]; rfl
  | m + 1 => by rw [rpB, List.length_append, rpB_len v m, Nat.succ_mul]; omega
/-- What is left of the extensions, with so many others behind them. -/
def Cli.tX (c : Cli) (v : By) (N i : Nat) : By := c.tl (min i 7) ++ rpB v (N - (i - 7))
def Cli.eX (c : Cli) (v : By) (N : Nat) : By := c.ex ++ rpB v N
end Go.Spec
namespace Go.Sym
open Go.Proofs Go.Spec
set_option linter.unusedVariables false
def rUk (c : Cli) (B : By) (n : Nat) : RL := ⟨[], .bool false, [some (some (bxG (c.at 6))), some (some (rdCn 2 0 n)), some (some (rdL B))], []⟩
end Go.Sym

namespace Go.Sym
open Go.Proofs Go.Spec
set_option linter.unusedVariables false
set_option maxRecDepth 100000 in
theorem vuk (c : Cli) (B : By) (n : Nat) (k : Int) : bodyP Tryd.prog (Ga7 c) gl0 [] [] 3000 Tryd.f97 3 [.ptr 0 0 0 0, .int .i64 k, .ptr 1 0 0 0] [bxG (c.at 6), rdCn 2 0 n, rdL B] (retQ Tryd.prog Tryd.f97 3 (rUk c B n)) = (
let x1 := ∀ (y : Nat), y < (c.at 6).n5 → datas Bool.true [AV.int IntKind.i64 ((c.at 6).G y), AV.rb Bool.true ((c.at 6).K y) NL.unk] = Bool.true ∧ (c.at 6).G y = (c.at 6).G y ∧ (c.at 6).K y = (c.at 6).K y ∧ True; let x2 := ∀ (y : Nat), y < (c.at 6).n6 → datas Bool.true [AV.rb Bool.true ((c.at 6).T y) NL.unk, AV.int IntKind.i64 ((c.at 6).A y)] = Bool.true ∧ (c.at 6).T y = (c.at 6).T y ∧ (c.at 6).A y = (c.at 6).A y ∧ True; let x3 := ∀ (y : Nat), y < (c.at 6).n1 → datas Bool.true [AV.int IntKind.i64 ((c.at 6).L1 y)] = Bool.true ∧ (c.at 6).L1 y = (c.at 6).L1 y ∧ True; let x4 := ∀ (y : Nat), y < (c.at 6).n4 → datas Bool.true [AV.int IntKind.i64 ((c.at 6).L4 y)] = Bool.true ∧ (c.at 6).L4 y = (c.at 6).L4 y ∧ True; let x5 := ∀ (y : Nat), y < (c.at 6).n3 → datas Bool.true [AV.int IntKind.i64 ((c.at 6).L3 y)] = Bool.true ∧ (c.at 6).L3 y = (c.at 6).L3 y ∧ True; let x6 := ∀ (y : Nat), y < (c.at 6).n2 → datas Bool.true [AV.int IntKind.i64 ((c.at 6).L2 y)] = Bool.true ∧ (c.at 6).L2 y = (c.at 6).L2 y ∧ True; let x7 := ∀ (y : Nat), y < (c.at 6).n7 → datas Bool.true [AV.rb Bool.true ((c.at 6).D y) NL.unk] = Bool.true ∧ (c.at 6).D y = (c.at 6).D y ∧ True; let x8 := fun (i : Nat) => (c.at 6).R i = (c.at 6).R i; let x9 := (c.at 6).n5 = (c.at 6).n5 ∧ x1 ∧ (c.at 6).co = (c.at 6).co ∧ (c.at 6).mo = (c.at 6).mo ∧ (c.at 6).n6 = (c.at 6).n6 ∧ x2 ∧ (c.at 6).n7 = (c.at 6).n7 ∧ x7 ∧ 0 = 2 + List.length (vecB B 0 (2 : Int)) ∧ 0 = 0 ∧ 0 = 2 + List.length (vecB B 0 (2 : Int)) ∧ n = List.length B - (2 + List.length (vecB B 0 (2 : Int))) ∧ (0 : Int) = (0 : Int) ∧ B = B ∧ True; let x10 := List.length (vecB B 0 (2 : Int)) / 2; let x11 := 2 + List.length (chT c.T c.A c.n6) + 2 + List.length (chD c.D c.n7); let x12 := (c.at 6).s = (c.at 6).s; let x13 := (c.at 6).n1 = (c.at 6).n1; let x14 := (c.at 6).n2 = (c.at 6).n2; let x15 := (c.at 6).n3 = (c.at 6).n3; let x16 := (c.at 6).n4 = (c.at 6).n4; let x17 := (c.at 6).co = (c.at 6).co; let x18 := (c.at 6).n5 = (c.at 6).n5; let x19 := (0 : Int) = (0 : Int) ∧ B = B ∧ True; let x20 := (c.at 6).mo = (c.at 6).mo; let x21 := ∀ (y : Nat), y < (c.at 6).n6 → datas Bool.true [AV.rb Bool.true ((c.at 6).T y) NL.unk, AV.int IntKind.i64 ((c.at 6).A y)] = Bool.true ∧ (c.at 6).T y = c.T y ∧ (c.at 6).A y = c.A y ∧ True; let x22 := List.length (vecB B 0 (1 : Int)) / 2; let x23 := (c.at 6).n6 = (c.at 6).n6; let x24 := (c.at 6).n7 = (c.at 6).n7; let x25 := ∀ (y : Nat), y < x10 → datas Bool.true [AV.int IntKind.i64 (dN (vecB B 0 (2 : Int)) y)] = Bool.true ∧ [AV.int IntKind.i64 (dN (vecB B 0 (2 : Int)) y)].length ≤ 1; let x26 := ∀ (y : Nat), y < (c.at 6).n7 → datas Bool.true [AV.rb Bool.true ((c.at 6).D y) NL.unk] = Bool.true ∧ (c.at 6).D y = c.D y ∧ True; @Bool.rec (fun _ => Prop) (@Bool.rec (fun _ => Prop) (@Bool.rec (fun _ => Prop) (@Bool.rec (fun _ => Prop) (@Bool.rec (fun _ => Prop) (@Bool.rec (fun _ => Prop) (@Bool.rec (fun _ => Prop) (Bool.false = Bool.false ∧ allP x8 0 32 (x12 ∧ x13 ∧ x3 ∧ x14 ∧ x6 ∧ x15 ∧ x5 ∧ x16 ∧ x4 ∧ x18 ∧ x1 ∧ x17 ∧ x20 ∧ x23 ∧ x2 ∧ x24 ∧ x7 ∧ 0 = 0 ∧ 0 = 0 ∧ 0 = 0 ∧ n = n ∧ x19)) (vAt B 0 n (2 : Int) (chT c.T c.A c.n6) ∧ ((∀ (j : Nat), j < c.n6 → (1 ≤ List.length (c.T j) ∧ List.length (c.T j) ≤ 255) ∧ (0 : Int) ≤ c.A j ∧ c.A j ≤ (4294967295 : Int)) ∧ c.n6 ≤ 4) ∧ (↑c.n6 : Int) ≤ (4 : Int) ∧ 0 + c.n6 ≤ c.n6 ∧ (∀ (y : Nat), y < c.n6 → datas Bool.true [AV.rb Bool.true (c.T y) NL.unk, AV.int IntKind.i64 (c.A y)] = Bool.true ∧ [AV.rb Bool.true (c.T y) NL.unk, AV.int IntKind.i64 (c.A y)].length ≤ 2) ∧ vAt B (0 + Int.toNat (2 : Int) + List.length (chT c.T c.A c.n6)) (List.length B - (0 + Int.toNat (2 : Int) + List.length (chT c.T c.A c.n6))) (2 : Int) (chD c.D c.n7) ∧ ((∀ (j : Nat), j < c.n7 → List.length (c.D j) = 32) ∧ c.n7 ≤ 4) ∧ (↑c.n7 : Int) ≤ (4 : Int) ∧ 0 + c.n7 ≤ c.n7 ∧ (∀ (y : Nat), y < c.n7 → datas Bool.true [AV.rb Bool.true (c.D y) NL.unk] = Bool.true ∧ [AV.rb Bool.true (c.D y) NL.unk].length ≤ 1) ∧ @Bool.rec (fun _ => Prop) (Bool.false = Bool.true ∧ allP x8 0 32 (x12 ∧ x13 ∧ x3 ∧ x14 ∧ x6 ∧ x15 ∧ x5 ∧ x16 ∧ x4 ∧ x18 ∧ x1 ∧ x17 ∧ x20 ∧ (c.at 6).n6 = c.n6 ∧ x21 ∧ (c.at 6).n7 = c.n7 ∧ x26 ∧ 0 = x11 ∧ 0 = 0 ∧ 0 = x11 ∧ n = List.length B - x11 ∧ x19)) (Bool.false = Bool.true ∧ allP x8 0 32 (x12 ∧ x13 ∧ x3 ∧ x14 ∧ x6 ∧ x15 ∧ x5 ∧ x16 ∧ x4 ∧ x18 ∧ x1 ∧ x17 ∧ x20 ∧ (c.at 6).n6 = c.n6 ∧ x21 ∧ (c.at 6).n7 = c.n7 ∧ x26 ∧ 0 = x11 ∧ 0 = 0 ∧ 0 = x11 ∧ n = List.length B - x11 ∧ (0 : Int) = Int.ofNat 3 ∧ B = B ∧ True)) !decide ((↑c.n7 : Int) = (↑c.n6 : Int))) (decide (k = (41 : Int)))) (0 + n = List.length B ∧ List.length B < 1099511627776 ∧ ((1 : Int) ≤ (1 : Int) ∧ (1 : Int) ≤ (4 : Int)) ∧ (1 + beN (cutB B 0 1) ≤ List.length B ∧ (1 : Int) ≤ (↑(beN (cutB B 0 1)) : Int) ∧ (↑(beN (cutB B 0 1)) : Int) ≤ (4 : Int)) ∧ beN (cutB B 0 1) = List.length (cutB B 1 (beN (cutB B 0 1))) ∧ Bool.false = Bool.true ∧ allP x8 0 32 (x12 ∧ x13 ∧ x3 ∧ x14 ∧ x6 ∧ x15 ∧ x5 ∧ x16 ∧ x4 ∧ x18 ∧ x1 ∧ x17 ∧ (c.at 6).mo = cutB B 1 (beN (cutB B 0 1)) ∧ x23 ∧ x2 ∧ x24 ∧ x7 ∧ 0 = 1 + beN (cutB B 0 1) ∧ 0 = 0 ∧ 0 = 1 + beN (cutB B 0 1) ∧ n = List.length B - (1 + beN (cutB B 0 1)) ∧ x19)) (decide (k = (45 : Int)))) (0 + n = List.length B ∧ List.length B < 1099511627776 ∧ ((1 : Int) ≤ (2 : Int) ∧ (2 : Int) ≤ (4 : Int)) ∧ (2 + beN (cutB B 0 2) ≤ List.length B ∧ (1 : Int) ≤ (↑(beN (cutB B 0 2)) : Int) ∧ (↑(beN (cutB B 0 2)) : Int) ≤ (64 : Int)) ∧ beN (cutB B 0 2) = List.length (cutB B 2 (beN (cutB B 0 2))) ∧ Bool.false = Bool.true ∧ allP x8 0 32 (x12 ∧ x13 ∧ x3 ∧ x14 ∧ x6 ∧ x15 ∧ x5 ∧ x16 ∧ x4 ∧ x18 ∧ x1 ∧ (c.at 6).co = cutB B 2 (beN (cutB B 0 2)) ∧ x20 ∧ x23 ∧ x2 ∧ x24 ∧ x7 ∧ 0 = 2 + beN (cutB B 0 2) ∧ 0 = 0 ∧ 0 = 2 + beN (cutB B 0 2) ∧ n = List.length B - (2 + beN (cutB B 0 2)) ∧ x19)) (decide (k = (44 : Int)))) (vAt B 0 n (2 : Int) (chSh c.G c.K c.n5) ∧ (c.n5 ≤ 4 ∧ ∀ (j : Nat), j < c.n5 → ((0 : Int) ≤ c.G j ∧ c.G j ≤ (65535 : Int)) ∧ 1 ≤ List.length (c.K j) ∧ List.length (c.K j) ≤ 64) ∧ (↑c.n5 : Int) ≤ (4 : Int) ∧ 0 + c.n5 ≤ c.n5 ∧ (∀ (y : Nat), y < c.n5 → datas Bool.true [AV.int IntKind.i64 (c.G y), AV.rb Bool.true (c.K y) NL.unk] = Bool.true ∧ [AV.int IntKind.i64 (c.G y), AV.rb Bool.true (c.K y) NL.unk].length ≤ 2) ∧ Bool.false = Bool.true ∧ allP x8 0 32 (x12 ∧ x13 ∧ x3 ∧ x14 ∧ x6 ∧ x15 ∧ x5 ∧ x16 ∧ x4 ∧ (c.at 6).n5 = c.n5 ∧ (∀ (y : Nat), y < (c.at 6).n5 → datas Bool.true [AV.int IntKind.i64 ((c.at 6).G y), AV.rb Bool.true ((c.at 6).K y) NL.unk] = Bool.true ∧ (c.at 6).G y = c.G y ∧ (c.at 6).K y = c.K y ∧ True) ∧ x17 ∧ x20 ∧ x23 ∧ x2 ∧ x24 ∧ x7 ∧ 0 = 2 + List.length (chSh c.G c.K c.n5) ∧ 0 = 0 ∧ 0 = 2 + List.length (chSh c.G c.K c.n5) ∧ n = List.length B - (2 + List.length (chSh c.G c.K c.n5)) ∧ x19)) (decide (k = (51 : Int)))) (vAt B 0 n (2 : Int) (vecB B 0 (2 : Int)) ∧ List.length (vecB B 0 (2 : Int)) = 2 * x10 ∧ (↑x10 : Int) ≤ (4 : Int) ∧ 0 + x10 ≤ x10 ∧ x25 ∧ Bool.false = Bool.true ∧ allP x8 0 32 (x12 ∧ x13 ∧ x3 ∧ x14 ∧ x6 ∧ x15 ∧ x5 ∧ (c.at 6).n4 = x10 ∧ (∀ (y : Nat), y < (c.at 6).n4 → datas Bool.true [AV.int IntKind.i64 ((c.at 6).L4 y)] = Bool.true ∧ (c.at 6).L4 y = dN (vecB B 0 (2 : Int)) y ∧ True) ∧ x9)) (decide (k = (13 : Int)))) (vAt B 0 n (2 : Int) (vecB B 0 (2 : Int)) ∧ List.length (vecB B 0 (2 : Int)) = 2 * x10 ∧ (↑x10 : Int) ≤ (4 : Int) ∧ 0 + x10 ≤ x10 ∧ x25 ∧ Bool.false = Bool.true ∧ allP x8 0 32 (x12 ∧ x13 ∧ x3 ∧ x14 ∧ x6 ∧ (c.at 6).n3 = x10 ∧ (∀ (y : Nat), y < (c.at 6).n3 → datas Bool.true [AV.int IntKind.i64 ((c.at 6).L3 y)] = Bool.true ∧ (c.at 6).L3 y = dN (vecB B 0 (2 : Int)) y ∧ True) ∧ x16 ∧ x4 ∧ x9)) (decide (k = (10 : Int)))) (vAt B 0 n (1 : Int) (vecB B 0 (1 : Int)) ∧ List.length (vecB B 0 (1 : Int)) = 2 * x22 ∧ (↑x22 : Int) ≤ (4 : Int) ∧ 0 + x22 ≤ x22 ∧ (∀ (y : Nat), y < x22 → datas Bool.true [AV.int IntKind.i64 (dN (vecB B 0 (1 : Int)) y)] = Bool.true ∧ [AV.int IntKind.i64 (dN (vecB B 0 (1 : Int)) y)].length ≤ 1) ∧ Bool.false = Bool.true ∧ allP x8 0 32 (x12 ∧ x13 ∧ x3 ∧ (c.at 6).n2 = x22 ∧ (∀ (y : Nat), y < (c.at 6).n2 → datas Bool.true [AV.int IntKind.i64 ((c.at 6).L2 y)] = Bool.true ∧ (c.at 6).L2 y = dN (vecB B 0 (1 : Int)) y ∧ True) ∧ x15 ∧ x5 ∧ x16 ∧ x4 ∧ x18 ∧ x1 ∧ x17 ∧ x20 ∧ x23 ∧ x2 ∧ x24 ∧ x7 ∧ 0 = 1 + List.length (vecB B 0 (1 : Int)) ∧ 0 = 0 ∧ 0 = 1 + List.length (vecB B 0 (1 : Int)) ∧ n = List.length B - (1 + List.length (vecB B 0 (1 : Int))) ∧ x19)) (decide (k = (43 : Int))) : Prop) := by kernel_rfl
end Go.Sym

set_option linter.unusedSimpArgs false
namespace Go.Sym
open Go.Proofs Go.Spec
set_option linter.unusedVariables false
theorem buk (c : Cli) (B : By) (n : Nat) (k : Int) (hk : 52 ≤ k) (hn : n = B.length) : Must (bodyP Tryd.prog (Ga7 c) gl0 [] [] 3000 Tryd.f97 3 [.ptr 0 0 0 0, .int .i64 k, .ptr 1 0 0 0] [bxG (c.at 6), rdCn 2 0 n, rdL B] (retQ Tryd.prog Tryd.f97 3 (rUk c B n))) := by
  constructor
  rw [vuk]
  have e1 : decide (k = 43) = false := decide_eq_false (by omega)
  have e2 : decide (k = 10) = false := decide_eq_false (by omega)
  have e3 : decide (k = 13) = false := decide_eq_false (by omega)
  have e4 : decide (k = 51) = false := decide_eq_false (by omega)
  have e5 : decide (k = 44) = false := decide_eq_false (by omega)
  have e6 : decide (k = 45) = false := decide_eq_false (by omega)
  have e7 : decide (k = 41) = false := decide_eq_false (by omega)
  rw [e1, e2, e3, e4, e5, e6, e7]
  intros
  refine (⟨rfl, sameC_of rfl ?_⟩ : false = false ∧ sameC (c.at 6) (c.at 6) _)
  and_intros <;> first | rfl | trivial
noncomputable def gx97 (c : Cli) (kk : Int) (xs : List AV) (bs : List ABlk) : TL := match xs, bs with
  | [.ptr 0 0 0 0, .int .i64 k, .ptr 1 0 0 0], [⟨.cells cs, true, 0⟩, ⟨.cells [.slice 2 0 1 n .ox .unk, .int .i64 0], true, 0⟩, ⟨.bytes B, true, 1⟩] =>
    .br (decide (k = kk)) (.ok { rUk c B n with ob := [52 ≤ kk, cs = cliG (c.at 6), n = B.length] }) (.ok { rTk (c.at (iX k + 1)) B with ob := [c.ok, iX k < 7 ∧ k = kX (iX k) ∧ c.hX (iX k) = true ∧ B = c.bX (iX k) ∧ n = B.length, cs = cliG (c.at (iX k))] })
  | _, _ => .no
theorem cx97 (c : Cli) (kk : Int) : COK Tryd.prog gl0 97 (mkF (reSp 3 (gx97 c kk))) := by
  refine ctrE (fn := Tryd.f97) [] 3000 (by kernel_rfl) (by kernel_rfl) (okGa7 c) (by kernel_rfl) (fun args w => by kernel_rfl) fun xs bs r hs ho => ?_
  replace hs : (gx97 c kk xs bs).sel = some r := hs
  unfold gx97 at hs
  split at hs
  · rename_i k cs n B
    cases hb : decide (k = kk) <;> rw [hb] at hs
    · simp only [TL.sel, Option.some.injEq] at hs
      subst hs
      obtain ⟨h, ⟨hi, hk, hx, hB, hn⟩, hc⟩ := obs3 ho
      refine ⟨[], ?_⟩
      generalize iX k = i at *
      subst hk hB hn hc
      have hb : Must (bodK c i (kX i)) := by
        match i, hi, hx with
        | 0, _, hx => exact bk43 c h hx
        | 1, _, hx => exact bk10 c h hx
        | 2, _, hx => exact bk13 c h hx
        | 3, _, hx => exact bk51 c h hx
        | 4, _, hx => exact bk44 c h hx
        | 5, _, hx => exact bk45 c h hx
        | 6, _, hx => exact bk41 c h hx
      exact hb
    · have hk := of_decide_eq_true hb
      subst hk
      simp only [TL.sel, Option.some.injEq] at hs
      subst hs
      obtain ⟨h, hc, hn⟩ := obs3 ho
      subst hc
      exact ⟨[], buk c B n k h hn⟩
  · simp [TL.sel] at hs
noncomputable def Gx8 (c : Cli) (k : Int) : Ctx := (Ga6 c).add 97 (mkF (reSp 3 (gx97 c k)))
theorem okGx8 (c : Cli) (k : Int) : COKs Tryd.prog gl0 (Gx8 c k) := (okGa6 c).add (cx97 c k)
noncomputable def Gx9 (c : Cli) (k : Int) : Ctx := (Gx8 c k).exe Tryd.prog gl0 [] 300 3 96 Tryd.f96
theorem okGx9 (c : Cli) (k : Int) : COKs Tryd.prog gl0 (Gx9 c k) := (okGx8 c k).exe [] 300 _ (by kernel_rfl) (by kernel_rfl) (by kernel_rfl) (fun args w => by kernel_rfl)
def rdCe (i x : Nat) (e : Int) : ABlk := ⟨.cells [.slice i x 1 0 .ox .unk, .int .i64 e], true, 0⟩
/-- The same loop, with others behind: nothing was wrong yet; the same came twice. -/
def lsXa (c : Cli) (L : By) (k : Int) (v : By) (N : Nat) : LS := ⟨XS, fun s => [(0, .ptr 0 0 0 0), (1, .fn 96 [] [.ptr 2 0 0 0]), (4, .ptr 100 0 0 0), (5, .mp 102)],
  fun s => [(0, rdCn 1 L.length 0), (1, rdL L), (2, bxG (c.at s.i)), (100, rdCn 101 ((c.eX v N).length - (c.tX v N s.i).length) (c.tX v N s.i).length), (101, rdL (c.eX v N)), (102, ⟨.mp 0 s.p (fun _ => .agg []), true, 0⟩)],
  1000, fun s => 9 - s.i, fun s => s.i ≤ 7 + N ∧ s.i ≤ 8 ∧ (s.i < 7 → c.hX s.i = true) ∧ (∀ j, s.i ≤ j → j < 7 → s.p [kX j] = false) ∧ (s.i ≤ 7 → s.p [k] = false) ∧ (s.i = 8 → s.p [k] = true), fun _ => []⟩
def lsXb (c : Cli) (L : By) (v : By) (N : Nat) : LS := ⟨List Int → Bool, fun _ => [(0, .ptr 0 0 0 0), (1, .fn 96 [] [.ptr 2 0 0 0]), (4, .ptr 100 0 0 0), (5, .mp 102)],
  fun p => [(0, rdCn 1 L.length 0), (1, rdL L), (2, bxG (c.at 7)), (100, rdCe 101 (c.eX v N).length 3), (101, rdL (c.eX v N)), (102, ⟨.mp 0 p (fun _ => .agg []), true, 0⟩)],
  1000, fun _ => 0, fun _ => N = 2, fun _ => []⟩
def rEy (c : Cli) (L : By) (e : Int) : RL := ⟨[], .tup [], [some (some (rdCe 1 L.length e)), some (some (rdL L)), some (some (bxG c))], []⟩
end Go.Sym

namespace Go.Sym
open Go.Proofs Go.Spec
set_option linter.unusedVariables false
set_option maxRecDepth 100000 in
theorem vy95 (c : Cli) (L v : By) (x n N : Nat) (k e : Int) : bodyP Tryd.prog (Gx9 c k) gl0 [] [(3, lsXa c L k v N), (3, lsXb c L v N)] 3000 Tryd.f95 3 [.ptr 0 0 0 0, .fn 96 [] [.ptr 2 0 0 0]] [rdCn 1 x n, rdL L, bxG (c.at 0)] (retQ Tryd.prog Tryd.f95 3 (rEy c L e)) = (
let x1 := x + 2 + beN (cutB L x 2); let x2 := c.eX v N = c.eX v N; let x3 := ∀ (y : Nat), y < (c.at 7).n5 → datas Bool.true [AV.int IntKind.i64 ((c.at 7).G y), AV.rb Bool.true ((c.at 7).K y) NL.unk] = Bool.true ∧ (c.at 7).G y = (c.at 6).G y ∧ (c.at 7).K y = (c.at 6).K y ∧ True; let x4 := ∀ (y : Nat), y < (c.at 7).n6 → datas Bool.true [AV.rb Bool.true ((c.at 7).T y) NL.unk, AV.int IntKind.i64 ((c.at 7).A y)] = Bool.true ∧ (c.at 7).T y = (c.at 6).T y ∧ (c.at 7).A y = (c.at 6).A y ∧ True; let x5 := cutB L (x + 2) (beN (cutB L x 2)); let x6 := ∀ (y : Nat), y < (c.at 7).n7 → datas Bool.true [AV.rb Bool.true ((c.at 7).D y) NL.unk] = Bool.true ∧ (c.at 7).D y = (c.at 6).D y ∧ True; let x7 := ∀ (y : Nat), y < (c.at 7).n1 → datas Bool.true [AV.int IntKind.i64 ((c.at 7).L1 y)] = Bool.true ∧ (c.at 7).L1 y = (c.at 6).L1 y ∧ True; let x8 := ∀ (y : Nat), y < (c.at 7).n4 → datas Bool.true [AV.int IntKind.i64 ((c.at 7).L4 y)] = Bool.true ∧ (c.at 7).L4 y = (c.at 6).L4 y ∧ True; let x9 := ∀ (y : Nat), y < (c.at 7).n2 → datas Bool.true [AV.int IntKind.i64 ((c.at 7).L2 y)] = Bool.true ∧ (c.at 7).L2 y = (c.at 6).L2 y ∧ True; let x10 := ∀ (y : Nat), y < (c.at 7).n3 → datas Bool.true [AV.int IntKind.i64 ((c.at 7).L3 y)] = Bool.true ∧ (c.at 7).L3 y = (c.at 6).L3 y ∧ True; x + n = List.length L ∧ List.length L < 1099511627776 ∧ ((1 : Int) ≤ (2 : Int) ∧ (2 : Int) ≤ (4 : Int)) ∧ (x1 ≤ List.length L ∧ (0 : Int) ≤ (↑(beN (cutB L x 2)) : Int) ∧ (↑(beN (cutB L x 2)) : Int) ≤ (65535 : Int)) ∧ beN (cutB L x 2) = List.length x5 ∧ List.length x5 < 1099511627776 ∧ ((∃ (y : XS), True ∧ (y.1 ≤ 7 + N ∧ y.1 ≤ 8 ∧ (y.1 < 7 → c.hX y.1 = Bool.true) ∧ (∀ (j : Nat), y.1 ≤ j → j < 7 → y.2 [kX j] = Bool.false) ∧ (y.1 ≤ 7 → y.2 [k] = Bool.false) ∧ (y.1 = 8 → y.2 [k] = Bool.true)) ∧ 0 = 0 ∧ 0 = 0 ∧ 0 = 0 ∧ List.length L = x1 ∧ 0 = 0 ∧ List.length L = x1 ∧ 0 = List.length L - x1 ∧ (0 : Int) = (0 : Int) ∧ L = L ∧ allP (fun (i : Nat) => (c.at y.1).R i = (c.at 0).R i) 0 32 ((c.at y.1).s = (c.at 0).s ∧ (c.at y.1).n1 = (c.at 0).n1 ∧ (∀ (y_1 : Nat), y_1 < (c.at y.1).n1 → datas Bool.true [AV.int IntKind.i64 ((c.at y.1).L1 y_1)] = Bool.true ∧ (c.at y.1).L1 y_1 = (c.at 0).L1 y_1 ∧ True) ∧ (c.at y.1).n2 = (c.at 0).n2 ∧ (∀ (y_1 : Nat), y_1 < (c.at y.1).n2 → datas Bool.true [AV.int IntKind.i64 ((c.at y.1).L2 y_1)] = Bool.true ∧ (c.at y.1).L2 y_1 = (c.at 0).L2 y_1 ∧ True) ∧ (c.at y.1).n3 = (c.at 0).n3 ∧ (∀ (y_1 : Nat), y_1 < (c.at y.1).n3 → datas Bool.true [AV.int IntKind.i64 ((c.at y.1).L3 y_1)] = Bool.true ∧ (c.at y.1).L3 y_1 = (c.at 0).L3 y_1 ∧ True) ∧ (c.at y.1).n4 = (c.at 0).n4 ∧ (∀ (y_1 : Nat), y_1 < (c.at y.1).n4 → datas Bool.true [AV.int IntKind.i64 ((c.at y.1).L4 y_1)] = Bool.true ∧ (c.at y.1).L4 y_1 = (c.at 0).L4 y_1 ∧ True) ∧ (c.at y.1).n5 = (c.at 0).n5 ∧ (∀ (y_1 : Nat), y_1 < (c.at y.1).n5 → datas Bool.true [AV.int IntKind.i64 ((c.at y.1).G y_1), AV.rb Bool.true ((c.at y.1).K y_1) NL.unk] = Bool.true ∧ (c.at y.1).G y_1 = (c.at 0).G y_1 ∧ (c.at y.1).K y_1 = (c.at 0).K y_1 ∧ True) ∧ (c.at y.1).co = (c.at 0).co ∧ (c.at y.1).mo = (c.at 0).mo ∧ (c.at y.1).n6 = (c.at 0).n6 ∧ (∀ (y_1 : Nat), y_1 < (c.at y.1).n6 → datas Bool.true [AV.rb Bool.true ((c.at y.1).T y_1) NL.unk, AV.int IntKind.i64 ((c.at y.1).A y_1)] = Bool.true ∧ (c.at y.1).T y_1 = (c.at 0).T y_1 ∧ (c.at y.1).A y_1 = (c.at 0).A y_1 ∧ True) ∧ (c.at y.1).n7 = (c.at 0).n7 ∧ (∀ (y_1 : Nat), y_1 < (c.at y.1).n7 → datas Bool.true [AV.rb Bool.true ((c.at y.1).D y_1) NL.unk] = Bool.true ∧ (c.at y.1).D y_1 = (c.at 0).D y_1 ∧ True) ∧ List.length (c.eX v N) - List.length (c.tX v N y.1) = 0 ∧ 0 = 0 ∧ List.length (c.eX v N) - List.length (c.tX v N y.1) = 0 ∧ List.length (c.tX v N y.1) = List.length x5 ∧ (0 : Int) = (0 : Int) ∧ c.eX v N = x5 ∧ (∀ (k : List Int), Bool.false = y.2 k) ∧ (∀ (k : List Int), y.2 k = Bool.true → True) ∧ True)) ∨ ∃ (y : List Int → Bool), True ∧ N = 2 ∧ 0 = 0 ∧ 0 = 0 ∧ 0 = 0 ∧ List.length L = x1 ∧ 0 = 0 ∧ List.length L = x1 ∧ 0 = List.length L - x1 ∧ (0 : Int) = (0 : Int) ∧ L = L ∧ allP (fun (i : Nat) => (c.at 7).R i = (c.at 0).R i) 0 32 ((c.at 7).s = (c.at 0).s ∧ (c.at 7).n1 = (c.at 0).n1 ∧ (∀ (y : Nat), y < (c.at 7).n1 → datas Bool.true [AV.int IntKind.i64 ((c.at 7).L1 y)] = Bool.true ∧ (c.at 7).L1 y = (c.at 0).L1 y ∧ True) ∧ (c.at 7).n2 = (c.at 0).n2 ∧ (∀ (y : Nat), y < (c.at 7).n2 → datas Bool.true [AV.int IntKind.i64 ((c.at 7).L2 y)] = Bool.true ∧ (c.at 7).L2 y = (c.at 0).L2 y ∧ True) ∧ (c.at 7).n3 = (c.at 0).n3 ∧ (∀ (y : Nat), y < (c.at 7).n3 → datas Bool.true [AV.int IntKind.i64 ((c.at 7).L3 y)] = Bool.true ∧ (c.at 7).L3 y = (c.at 0).L3 y ∧ True) ∧ (c.at 7).n4 = (c.at 0).n4 ∧ (∀ (y : Nat), y < (c.at 7).n4 → datas Bool.true [AV.int IntKind.i64 ((c.at 7).L4 y)] = Bool.true ∧ (c.at 7).L4 y = (c.at 0).L4 y ∧ True) ∧ (c.at 7).n5 = (c.at 0).n5 ∧ (∀ (y : Nat), y < (c.at 7).n5 → datas Bool.true [AV.int IntKind.i64 ((c.at 7).G y), AV.rb Bool.true ((c.at 7).K y) NL.unk] = Bool.true ∧ (c.at 7).G y = (c.at 0).G y ∧ (c.at 7).K y = (c.at 0).K y ∧ True) ∧ (c.at 7).co = (c.at 0).co ∧ (c.at 7).mo = (c.at 0).mo ∧ (c.at 7).n6 = (c.at 0).n6 ∧ (∀ (y : Nat), y < (c.at 7).n6 → datas Bool.true [AV.rb Bool.true ((c.at 7).T y) NL.unk, AV.int IntKind.i64 ((c.at 7).A y)] = Bool.true ∧ (c.at 7).T y = (c.at 0).T y ∧ (c.at 7).A y = (c.at 0).A y ∧ True) ∧ (c.at 7).n7 = (c.at 0).n7 ∧ (∀ (y : Nat), y < (c.at 7).n7 → datas Bool.true [AV.rb Bool.true ((c.at 7).D y) NL.unk] = Bool.true ∧ (c.at 7).D y = (c.at 0).D y ∧ True) ∧ List.length (c.eX v N) = 0 ∧ 0 = 0 ∧ List.length (c.eX v N) = 0 ∧ 0 = List.length x5 ∧ (3 : Int) = (0 : Int) ∧ c.eX v N = x5 ∧ (∀ (k : List Int), Bool.false = y k) ∧ (∀ (k : List Int), y k = Bool.true → True) ∧ True)) ∧ (∀ (x : XS), let x1 := List.length (c.eX v N) - List.length (c.tX v N x.1); let x2_1 := c.at (iX (↑(beN (cutB (c.eX v N) x1 2)) : Int) + 1); let x3_1 := rgA (fun (i : Nat) => AV.u8 ((c.at x.1).R i)) 0 32 [AV.rb Bool.true (c.at x.1).s NL.unk, AV.ros Bool.true 1 (c.at x.1).n1 (fun (j : Nat) => [AV.int IntKind.i64 ((c.at x.1).L1 j)]) NL.unk, AV.ros Bool.true 1 (c.at x.1).n2 (fun (j : Nat) => [AV.int IntKind.i64 ((c.at x.1).L2 j)]) NL.unk, AV.ros Bool.true 1 (c.at x.1).n3 (fun (j : Nat) => [AV.int IntKind.i64 ((c.at x.1).L3 j)]) NL.unk, AV.ros Bool.true 1 (c.at x.1).n4 (fun (j : Nat) => [AV.int IntKind.i64 ((c.at x.1).L4 j)]) NL.unk, AV.ros Bool.true 2 (c.at x.1).n5 (fun (j : Nat) => [AV.int IntKind.i64 ((c.at x.1).G j), AV.rb Bool.true ((c.at x.1).K j) NL.unk]) NL.unk, AV.rb Bool.true (c.at x.1).co NL.unk, AV.rb Bool.true (c.at x.1).mo NL.unk, AV.ros Bool.true 2 (c.at x.1).n6 (fun (j : Nat) => [AV.rb Bool.true ((c.at x.1).T j) NL.unk, AV.int IntKind.i64 ((c.at x.1).A j)]) NL.unk, AV.ros Bool.true 1 (c.at x.1).n7 (fun (j : Nat) => [AV.rb Bool.true ((c.at x.1).D j) NL.unk]) NL.unk]; let x4_1 := x1 + 2 + 2 + beN (cutB (c.eX v N) (x1 + 2) 2); let x5 := cutB (c.eX v N) (x1 + 2 + 2) (beN (cutB (c.eX v N) (x1 + 2) 2)); let x6_1 := (↑(beN (cutB (c.eX v N) x1 2)) : Int); let x7_1 := ∀ (y : Nat), y < (c.at 7).n5 → datas Bool.true [AV.int IntKind.i64 ((c.at 7).G y), AV.rb Bool.true ((c.at 7).K y) NL.unk] = Bool.true ∧ (c.at 7).G y = x2_1.G y ∧ (c.at 7).K y = x2_1.K y ∧ True; let x8_1 := ∀ (y : Nat), y < (c.at 7).n6 → datas Bool.true [AV.rb Bool.true ((c.at 7).T y) NL.unk, AV.int IntKind.i64 ((c.at 7).A y)] = Bool.true ∧ (c.at 7).T y = x2_1.T y ∧ (c.at 7).A y = x2_1.A y ∧ True; let x9_1 := ∀ (y : Nat), y < (c.at 7).n7 → datas Bool.true [AV.rb Bool.true ((c.at 7).D y) NL.unk] = Bool.true ∧ (c.at 7).D y = x2_1.D y ∧ True; let x10_1 := ∀ (y : Nat), y < (c.at 7).n1 → datas Bool.true [AV.int IntKind.i64 ((c.at 7).L1 y)] = Bool.true ∧ (c.at 7).L1 y = x2_1.L1 y ∧ True; let x11 := ∀ (y : Nat), y < (c.at 7).n2 → datas Bool.true [AV.int IntKind.i64 ((c.at 7).L2 y)] = Bool.true ∧ (c.at 7).L2 y = x2_1.L2 y ∧ True; let x12 := ∀ (y : Nat), y < (c.at 7).n3 → datas Bool.true [AV.int IntKind.i64 ((c.at 7).L3 y)] = Bool.true ∧ (c.at 7).L3 y = x2_1.L3 y ∧ True; let x13 := ∀ (y : Nat), y < (c.at 7).n4 → datas Bool.true [AV.int IntKind.i64 ((c.at 7).L4 y)] = Bool.true ∧ (c.at 7).L4 y = x2_1.L4 y ∧ True; x.1 ≤ 7 + N ∧ x.1 ≤ 8 ∧ (x.1 < 7 → c.hX x.1 = Bool.true) ∧ (∀ (j : Nat), x.1 ≤ j → j < 7 → x.2 [kX j] = Bool.false) ∧ (x.1 ≤ 7 → x.2 [k] = Bool.false) ∧ (x.1 = 8 → x.2 [k] = Bool.true) → @Bool.rec (fun _ => Prop) (List.length L = List.length L ∧ 0 = 0 ∧ List.length L = List.length L ∧ 0 = 0 ∧ e = (0 : Int) ∧ L = L ∧ allP (fun (i : Nat) => c.R i = (c.at x.1).R i) 0 32 (c.s = (c.at x.1).s ∧ c.n1 = (c.at x.1).n1 ∧ (∀ (y : Nat), y < c.n1 → datas Bool.true [AV.int IntKind.i64 (c.L1 y)] = Bool.true ∧ c.L1 y = (c.at x.1).L1 y ∧ True) ∧ c.n2 = (c.at x.1).n2 ∧ (∀ (y : Nat), y < c.n2 → datas Bool.true [AV.int IntKind.i64 (c.L2 y)] = Bool.true ∧ c.L2 y = (c.at x.1).L2 y ∧ True) ∧ c.n3 = (c.at x.1).n3 ∧ (∀ (y : Nat), y < c.n3 → datas Bool.true [AV.int IntKind.i64 (c.L3 y)] = Bool.true ∧ c.L3 y = (c.at x.1).L3 y ∧ True) ∧ c.n4 = (c.at x.1).n4 ∧ (∀ (y : Nat), y < c.n4 → datas Bool.true [AV.int IntKind.i64 (c.L4 y)] = Bool.true ∧ c.L4 y = (c.at x.1).L4 y ∧ True) ∧ c.n5 = (c.at x.1).n5 ∧ (∀ (y : Nat), y < c.n5 → datas Bool.true [AV.int IntKind.i64 (c.G y), AV.rb Bool.true (c.K y) NL.unk] = Bool.true ∧ c.G y = (c.at x.1).G y ∧ c.K y = (c.at x.1).K y ∧ True) ∧ c.co = (c.at x.1).co ∧ c.mo = (c.at x.1).mo ∧ c.n6 = (c.at x.1).n6 ∧ (∀ (y : Nat), y < c.n6 → datas Bool.true [AV.rb Bool.true (c.T y) NL.unk, AV.int IntKind.i64 (c.A y)] = Bool.true ∧ c.T y = (c.at x.1).T y ∧ c.A y = (c.at x.1).A y ∧ True) ∧ c.n7 = (c.at x.1).n7 ∧ (∀ (y : Nat), y < c.n7 → datas Bool.true [AV.rb Bool.true (c.D y) NL.unk] = Bool.true ∧ c.D y = (c.at x.1).D y ∧ True) ∧ True)) (x1 + List.length (c.tX v N x.1) = List.length (c.eX v N) ∧ List.length (c.eX v N) < 1099511627776 ∧ ((1 : Int) ≤ (2 : Int) ∧ (2 : Int) ≤ (4 : Int)) ∧ x1 + 2 ≤ List.length (c.eX v N) ∧ x1 + 2 + (List.length (c.eX v N) - (x1 + 2)) = List.length (c.eX v N) ∧ List.length (c.eX v N) < 1099511627776 ∧ ((1 : Int) ≤ (2 : Int) ∧ (2 : Int) ≤ (4 : Int)) ∧ (x4_1 ≤ List.length (c.eX v N) ∧ (0 : Int) ≤ (↑(beN (cutB (c.eX v N) (x1 + 2) 2)) : Int) ∧ (↑(beN (cutB (c.eX v N) (x1 + 2) 2)) : Int) ≤ (65535 : Int)) ∧ beN (cutB (c.eX v N) (x1 + 2) 2) = List.length x5 ∧ List.length x5 < 1099511627776 ∧ @Bool.rec (fun _ => Prop) (@Bool.rec (fun _ => Prop) (c.ok ∧ (iX x6_1 < 7 ∧ x6_1 = kX (iX x6_1) ∧ c.hX (iX x6_1) = Bool.true ∧ x5 = c.bX (iX x6_1) ∧ List.length x5 = List.length x5) ∧ x3_1 = cliG (c.at (iX x6_1)) ∧ ((∃ (y : XS), 9 - y.1 < 9 - x.1 ∧ (y.1 ≤ 7 + N ∧ y.1 ≤ 8 ∧ (y.1 < 7 → c.hX y.1 = Bool.true) ∧ (∀ (j : Nat), y.1 ≤ j → j < 7 → y.2 [kX j] = Bool.false) ∧ (y.1 ≤ 7 → y.2 [k] = Bool.false) ∧ (y.1 = 8 → y.2 [k] = Bool.true)) ∧ 0 = 0 ∧ 0 = 0 ∧ 0 = 0 ∧ List.length L = List.length L ∧ 0 = 0 ∧ List.length L = List.length L ∧ 0 = 0 ∧ (0 : Int) = (0 : Int) ∧ L = L ∧ allP (fun (i : Nat) => (c.at y.1).R i = x2_1.R i) 0 32 ((c.at y.1).s = x2_1.s ∧ (c.at y.1).n1 = x2_1.n1 ∧ (∀ (y_1 : Nat), y_1 < (c.at y.1).n1 → datas Bool.true [AV.int IntKind.i64 ((c.at y.1).L1 y_1)] = Bool.true ∧ (c.at y.1).L1 y_1 = x2_1.L1 y_1 ∧ True) ∧ (c.at y.1).n2 = x2_1.n2 ∧ (∀ (y_1 : Nat), y_1 < (c.at y.1).n2 → datas Bool.true [AV.int IntKind.i64 ((c.at y.1).L2 y_1)] = Bool.true ∧ (c.at y.1).L2 y_1 = x2_1.L2 y_1 ∧ True) ∧ (c.at y.1).n3 = x2_1.n3 ∧ (∀ (y_1 : Nat), y_1 < (c.at y.1).n3 → datas Bool.true [AV.int IntKind.i64 ((c.at y.1).L3 y_1)] = Bool.true ∧ (c.at y.1).L3 y_1 = x2_1.L3 y_1 ∧ True) ∧ (c.at y.1).n4 = x2_1.n4 ∧ (∀ (y_1 : Nat), y_1 < (c.at y.1).n4 → datas Bool.true [AV.int IntKind.i64 ((c.at y.1).L4 y_1)] = Bool.true ∧ (c.at y.1).L4 y_1 = x2_1.L4 y_1 ∧ True) ∧ (c.at y.1).n5 = x2_1.n5 ∧ (∀ (y_1 : Nat), y_1 < (c.at y.1).n5 → datas Bool.true [AV.int IntKind.i64 ((c.at y.1).G y_1), AV.rb Bool.true ((c.at y.1).K y_1) NL.unk] = Bool.true ∧ (c.at y.1).G y_1 = x2_1.G y_1 ∧ (c.at y.1).K y_1 = x2_1.K y_1 ∧ True) ∧ (c.at y.1).co = x2_1.co ∧ (c.at y.1).mo = x2_1.mo ∧ (c.at y.1).n6 = x2_1.n6 ∧ (∀ (y_1 : Nat), y_1 < (c.at y.1).n6 → datas Bool.true [AV.rb Bool.true ((c.at y.1).T y_1) NL.unk, AV.int IntKind.i64 ((c.at y.1).A y_1)] = Bool.true ∧ (c.at y.1).T y_1 = x2_1.T y_1 ∧ (c.at y.1).A y_1 = x2_1.A y_1 ∧ True) ∧ (c.at y.1).n7 = x2_1.n7 ∧ (∀ (y_1 : Nat), y_1 < (c.at y.1).n7 → datas Bool.true [AV.rb Bool.true ((c.at y.1).D y_1) NL.unk] = Bool.true ∧ (c.at y.1).D y_1 = x2_1.D y_1 ∧ True) ∧ List.length (c.eX v N) - List.length (c.tX v N y.1) = x4_1 ∧ 0 = 0 ∧ List.length (c.eX v N) - List.length (c.tX v N y.1) = x4_1 ∧ List.length (c.tX v N y.1) = List.length (c.eX v N) - x4_1 ∧ (0 : Int) = (0 : Int) ∧ x2 ∧ (∀ (k : List Int), (k == [x6_1] || x.2 k) = y.2 k) ∧ (∀ (k : List Int), y.2 k = Bool.true → True) ∧ True)) ∨ ∃ (y : List Int → Bool), 0 < 9 - x.1 ∧ N = 2 ∧ 0 = 0 ∧ 0 = 0 ∧ 0 = 0 ∧ List.length L = List.length L ∧ 0 = 0 ∧ List.length L = List.length L ∧ 0 = 0 ∧ (0 : Int) = (0 : Int) ∧ L = L ∧ allP (fun (i : Nat) => (c.at 7).R i = x2_1.R i) 0 32 ((c.at 7).s = x2_1.s ∧ (c.at 7).n1 = x2_1.n1 ∧ x10_1 ∧ (c.at 7).n2 = x2_1.n2 ∧ x11 ∧ (c.at 7).n3 = x2_1.n3 ∧ x12 ∧ (c.at 7).n4 = x2_1.n4 ∧ x13 ∧ (c.at 7).n5 = x2_1.n5 ∧ x7_1 ∧ (c.at 7).co = x2_1.co ∧ (c.at 7).mo = x2_1.mo ∧ (c.at 7).n6 = x2_1.n6 ∧ x8_1 ∧ (c.at 7).n7 = x2_1.n7 ∧ x9_1 ∧ List.length (c.eX v N) = x4_1 ∧ 0 = 0 ∧ List.length (c.eX v N) = x4_1 ∧ 0 = List.length (c.eX v N) - x4_1 ∧ (3 : Int) = (0 : Int) ∧ x2 ∧ (∀ (k : List Int), (k == [x6_1] || x.2 k) = y k) ∧ (∀ (k : List Int), y k = Bool.true → True) ∧ True))) ((52 : Int) ≤ k ∧ x3_1 = cliG (c.at 6) ∧ List.length x5 = List.length x5 ∧ ((∃ (y : XS), 9 - y.1 < 9 - x.1 ∧ (y.1 ≤ 7 + N ∧ y.1 ≤ 8 ∧ (y.1 < 7 → c.hX y.1 = Bool.true) ∧ (∀ (j : Nat), y.1 ≤ j → j < 7 → y.2 [kX j] = Bool.false) ∧ (y.1 ≤ 7 → y.2 [k] = Bool.false) ∧ (y.1 = 8 → y.2 [k] = Bool.true)) ∧ 0 = 0 ∧ 0 = 0 ∧ 0 = 0 ∧ List.length L = List.length L ∧ 0 = 0 ∧ List.length L = List.length L ∧ 0 = 0 ∧ (0 : Int) = (0 : Int) ∧ L = L ∧ allP (fun (i : Nat) => (c.at y.1).R i = (c.at 6).R i) 0 32 ((c.at y.1).s = (c.at 6).s ∧ (c.at y.1).n1 = (c.at 6).n1 ∧ (∀ (y_1 : Nat), y_1 < (c.at y.1).n1 → datas Bool.true [AV.int IntKind.i64 ((c.at y.1).L1 y_1)] = Bool.true ∧ (c.at y.1).L1 y_1 = (c.at 6).L1 y_1 ∧ True) ∧ (c.at y.1).n2 = (c.at 6).n2 ∧ (∀ (y_1 : Nat), y_1 < (c.at y.1).n2 → datas Bool.true [AV.int IntKind.i64 ((c.at y.1).L2 y_1)] = Bool.true ∧ (c.at y.1).L2 y_1 = (c.at 6).L2 y_1 ∧ True) ∧ (c.at y.1).n3 = (c.at 6).n3 ∧ (∀ (y_1 : Nat), y_1 < (c.at y.1).n3 → datas Bool.true [AV.int IntKind.i64 ((c.at y.1).L3 y_1)] = Bool.true ∧ (c.at y.1).L3 y_1 = (c.at 6).L3 y_1 ∧ True) ∧ (c.at y.1).n4 = (c.at 6).n4 ∧ (∀ (y_1 : Nat), y_1 < (c.at y.1).n4 → datas Bool.true [AV.int IntKind.i64 ((c.at y.1).L4 y_1)] = Bool.true ∧ (c.at y.1).L4 y_1 = (c.at 6).L4 y_1 ∧ True) ∧ (c.at y.1).n5 = (c.at 6).n5 ∧ (∀ (y_1 : Nat), y_1 < (c.at y.1).n5 → datas Bool.true [AV.int IntKind.i64 ((c.at y.1).G y_1), AV.rb Bool.true ((c.at y.1).K y_1) NL.unk] = Bool.true ∧ (c.at y.1).G y_1 = (c.at 6).G y_1 ∧ (c.at y.1).K y_1 = (c.at 6).K y_1 ∧ True) ∧ (c.at y.1).co = (c.at 6).co ∧ (c.at y.1).mo = (c.at 6).mo ∧ (c.at y.1).n6 = (c.at 6).n6 ∧ (∀ (y_1 : Nat), y_1 < (c.at y.1).n6 → datas Bool.true [AV.rb Bool.true ((c.at y.1).T y_1) NL.unk, AV.int IntKind.i64 ((c.at y.1).A y_1)] = Bool.true ∧ (c.at y.1).T y_1 = (c.at 6).T y_1 ∧ (c.at y.1).A y_1 = (c.at 6).A y_1 ∧ True) ∧ (c.at y.1).n7 = (c.at 6).n7 ∧ (∀ (y_1 : Nat), y_1 < (c.at y.1).n7 → datas Bool.true [AV.rb Bool.true ((c.at y.1).D y_1) NL.unk] = Bool.true ∧ (c.at y.1).D y_1 = (c.at 6).D y_1 ∧ True) ∧ List.length (c.eX v N) - List.length (c.tX v N y.1) = x4_1 ∧ 0 = 0 ∧ List.length (c.eX v N) - List.length (c.tX v N y.1) = x4_1 ∧ List.length (c.tX v N y.1) = List.length (c.eX v N) - x4_1 ∧ (0 : Int) = (0 : Int) ∧ x2 ∧ (∀ (k : List Int), (k == [x6_1] || x.2 k) = y.2 k) ∧ (∀ (k : List Int), y.2 k = Bool.true → True) ∧ True)) ∨ ∃ (y : List Int → Bool), 0 < 9 - x.1 ∧ N = 2 ∧ 0 = 0 ∧ 0 = 0 ∧ 0 = 0 ∧ List.length L = List.length L ∧ 0 = 0 ∧ List.length L = List.length L ∧ 0 = 0 ∧ (0 : Int) = (0 : Int) ∧ L = L ∧ allP (fun (i : Nat) => (c.at 7).R i = (c.at 6).R i) 0 32 ((c.at 7).s = (c.at 6).s ∧ (c.at 7).n1 = (c.at 6).n1 ∧ x7 ∧ (c.at 7).n2 = (c.at 6).n2 ∧ x9 ∧ (c.at 7).n3 = (c.at 6).n3 ∧ x10 ∧ (c.at 7).n4 = (c.at 6).n4 ∧ x8 ∧ (c.at 7).n5 = (c.at 6).n5 ∧ x3 ∧ (c.at 7).co = (c.at 6).co ∧ (c.at 7).mo = (c.at 6).mo ∧ (c.at 7).n6 = (c.at 6).n6 ∧ x4 ∧ (c.at 7).n7 = (c.at 6).n7 ∧ x6 ∧ List.length (c.eX v N) = x4_1 ∧ 0 = 0 ∧ List.length (c.eX v N) = x4_1 ∧ 0 = List.length (c.eX v N) - x4_1 ∧ (3 : Int) = (0 : Int) ∧ x2 ∧ (∀ (k : List Int), (k == [x6_1] || x.2 k) = y k) ∧ (∀ (k : List Int), y k = Bool.true → True) ∧ True))) (decide (x6_1 = k))) (@Bool.rec (fun _ => Prop) (c.ok ∧ (iX x6_1 < 7 ∧ x6_1 = kX (iX x6_1) ∧ c.hX (iX x6_1) = Bool.true ∧ x5 = c.bX (iX x6_1) ∧ List.length x5 = List.length x5) ∧ x3_1 = cliG (c.at (iX x6_1)) ∧ ((∃ (y : XS), 9 - y.1 < 9 - x.1 ∧ (y.1 ≤ 7 + N ∧ y.1 ≤ 8 ∧ (y.1 < 7 → c.hX y.1 = Bool.true) ∧ (∀ (j : Nat), y.1 ≤ j → j < 7 → y.2 [kX j] = Bool.false) ∧ (y.1 ≤ 7 → y.2 [k] = Bool.false) ∧ (y.1 = 8 → y.2 [k] = Bool.true)) ∧ 0 = 0 ∧ 0 = 0 ∧ 0 = 0 ∧ List.length L = List.length L ∧ 0 = 0 ∧ List.length L = List.length L ∧ 0 = 0 ∧ (0 : Int) = (0 : Int) ∧ L = L ∧ allP (fun (i : Nat) => (c.at y.1).R i = x2_1.R i) 0 32 ((c.at y.1).s = x2_1.s ∧ (c.at y.1).n1 = x2_1.n1 ∧ (∀ (y_1 : Nat), y_1 < (c.at y.1).n1 → datas Bool.true [AV.int IntKind.i64 ((c.at y.1).L1 y_1)] = Bool.true ∧ (c.at y.1).L1 y_1 = x2_1.L1 y_1 ∧ True) ∧ (c.at y.1).n2 = x2_1.n2 ∧ (∀ (y_1 : Nat), y_1 < (c.at y.1).n2 → datas Bool.true [AV.int IntKind.i64 ((c.at y.1).L2 y_1)] = Bool.true ∧ (c.at y.1).L2 y_1 = x2_1.L2 y_1 ∧ True) ∧ (c.at y.1).n3 = x2_1.n3 ∧ (∀ (y_1 : Nat), y_1 < (c.at y.1).n3 → datas Bool.true [AV.int IntKind.i64 ((c.at y.1).L3 y_1)] = Bool.true ∧ (c.at y.1).L3 y_1 = x2_1.L3 y_1 ∧ True) ∧ (c.at y.1).n4 = x2_1.n4 ∧ (∀ (y_1 : Nat), y_1 < (c.at y.1).n4 → datas Bool.true [AV.int IntKind.i64 ((c.at y.1).L4 y_1)] = Bool.true ∧ (c.at y.1).L4 y_1 = x2_1.L4 y_1 ∧ True) ∧ (c.at y.1).n5 = x2_1.n5 ∧ (∀ (y_1 : Nat), y_1 < (c.at y.1).n5 → datas Bool.true [AV.int IntKind.i64 ((c.at y.1).G y_1), AV.rb Bool.true ((c.at y.1).K y_1) NL.unk] = Bool.true ∧ (c.at y.1).G y_1 = x2_1.G y_1 ∧ (c.at y.1).K y_1 = x2_1.K y_1 ∧ True) ∧ (c.at y.1).co = x2_1.co ∧ (c.at y.1).mo = x2_1.mo ∧ (c.at y.1).n6 = x2_1.n6 ∧ (∀ (y_1 : Nat), y_1 < (c.at y.1).n6 → datas Bool.true [AV.rb Bool.true ((c.at y.1).T y_1) NL.unk, AV.int IntKind.i64 ((c.at y.1).A y_1)] = Bool.true ∧ (c.at y.1).T y_1 = x2_1.T y_1 ∧ (c.at y.1).A y_1 = x2_1.A y_1 ∧ True) ∧ (c.at y.1).n7 = x2_1.n7 ∧ (∀ (y_1 : Nat), y_1 < (c.at y.1).n7 → datas Bool.true [AV.rb Bool.true ((c.at y.1).D y_1) NL.unk] = Bool.true ∧ (c.at y.1).D y_1 = x2_1.D y_1 ∧ True) ∧ List.length (c.eX v N) - List.length (c.tX v N y.1) = x4_1 ∧ 0 = 0 ∧ List.length (c.eX v N) - List.length (c.tX v N y.1) = x4_1 ∧ List.length (c.tX v N y.1) = List.length (c.eX v N) - x4_1 ∧ (0 : Int) = Int.ofNat 3 ∧ x2 ∧ (∀ (k : List Int), (k == [x6_1] || x.2 k) = y.2 k) ∧ (∀ (k : List Int), y.2 k = Bool.true → True) ∧ True)) ∨ ∃ (y : List Int → Bool), 0 < 9 - x.1 ∧ N = 2 ∧ 0 = 0 ∧ 0 = 0 ∧ 0 = 0 ∧ List.length L = List.length L ∧ 0 = 0 ∧ List.length L = List.length L ∧ 0 = 0 ∧ (0 : Int) = (0 : Int) ∧ L = L ∧ allP (fun (i : Nat) => (c.at 7).R i = x2_1.R i) 0 32 ((c.at 7).s = x2_1.s ∧ (c.at 7).n1 = x2_1.n1 ∧ x10_1 ∧ (c.at 7).n2 = x2_1.n2 ∧ x11 ∧ (c.at 7).n3 = x2_1.n3 ∧ x12 ∧ (c.at 7).n4 = x2_1.n4 ∧ x13 ∧ (c.at 7).n5 = x2_1.n5 ∧ x7_1 ∧ (c.at 7).co = x2_1.co ∧ (c.at 7).mo = x2_1.mo ∧ (c.at 7).n6 = x2_1.n6 ∧ x8_1 ∧ (c.at 7).n7 = x2_1.n7 ∧ x9_1 ∧ List.length (c.eX v N) = x4_1 ∧ 0 = 0 ∧ List.length (c.eX v N) = x4_1 ∧ 0 = List.length (c.eX v N) - x4_1 ∧ (3 : Int) = Int.ofNat 3 ∧ x2 ∧ (∀ (k : List Int), (k == [x6_1] || x.2 k) = y k) ∧ (∀ (k : List Int), y k = Bool.true → True) ∧ True))) ((52 : Int) ≤ k ∧ x3_1 = cliG (c.at 6) ∧ List.length x5 = List.length x5 ∧ ((∃ (y : XS), 9 - y.1 < 9 - x.1 ∧ (y.1 ≤ 7 + N ∧ y.1 ≤ 8 ∧ (y.1 < 7 → c.hX y.1 = Bool.true) ∧ (∀ (j : Nat), y.1 ≤ j → j < 7 → y.2 [kX j] = Bool.false) ∧ (y.1 ≤ 7 → y.2 [k] = Bool.false) ∧ (y.1 = 8 → y.2 [k] = Bool.true)) ∧ 0 = 0 ∧ 0 = 0 ∧ 0 = 0 ∧ List.length L = List.length L ∧ 0 = 0 ∧ List.length L = List.length L ∧ 0 = 0 ∧ (0 : Int) = (0 : Int) ∧ L = L ∧ allP (fun (i : Nat) => (c.at y.1).R i = (c.at 6).R i) 0 32 ((c.at y.1).s = (c.at 6).s ∧ (c.at y.1).n1 = (c.at 6).n1 ∧ (∀ (y_1 : Nat), y_1 < (c.at y.1).n1 → datas Bool.true [AV.int IntKind.i64 ((c.at y.1).L1 y_1)] = Bool.true ∧ (c.at y.1).L1 y_1 = (c.at 6).L1 y_1 ∧ True) ∧ (c.at y.1).n2 = (c.at 6).n2 ∧ (∀ (y_1 : Nat), y_1 < (c.at y.1).n2 → datas Bool.true [AV.int IntKind.i64 ((c.at y.1).L2 y_1)] = Bool.true ∧ (c.at y.1).L2 y_1 = (c.at 6).L2 y_1 ∧ True) ∧ (c.at y.1).n3 = (c.at 6).n3 ∧ (∀ (y_1 : Nat), y_1 < (c.at y.1).n3 → datas Bool.true [AV.int IntKind.i64 ((c.at y.1).L3 y_1)] = Bool.true ∧ (c.at y.1).L3 y_1 = (c.at 6).L3 y_1 ∧ True) ∧ (c.at y.1).n4 = (c.at 6).n4 ∧ (∀ (y_1 : Nat), y_1 < (c.at y.1).n4 → datas Bool.true [AV.int IntKind.i64 ((c.at y.1).L4 y_1)] = Bool.true ∧ (c.at y.1).L4 y_1 = (c.at 6).L4 y_1 ∧ True) ∧ (c.at y.1).n5 = (c.at 6).n5 ∧ (∀ (y_1 : Nat), y_1 < (c.at y.1).n5 → datas Bool.true [AV.int IntKind.i64 ((c.at y.1).G y_1), AV.rb Bool.true ((c.at y.1).K y_1) NL.unk] = Bool.true ∧ (c.at y.1).G y_1 = (c.at 6).G y_1 ∧ (c.at y.1).K y_1 = (c.at 6).K y_1 ∧ True) ∧ (c.at y.1).co = (c.at 6).co ∧ (c.at y.1).mo = (c.at 6).mo ∧ (c.at y.1).n6 = (c.at 6).n6 ∧ (∀ (y_1 : Nat), y_1 < (c.at y.1).n6 → datas Bool.true [AV.rb Bool.true ((c.at y.1).T y_1) NL.unk, AV.int IntKind.i64 ((c.at y.1).A y_1)] = Bool.true ∧ (c.at y.1).T y_1 = (c.at 6).T y_1 ∧ (c.at y.1).A y_1 = (c.at 6).A y_1 ∧ True) ∧ (c.at y.1).n7 = (c.at 6).n7 ∧ (∀ (y_1 : Nat), y_1 < (c.at y.1).n7 → datas Bool.true [AV.rb Bool.true ((c.at y.1).D y_1) NL.unk] = Bool.true ∧ (c.at y.1).D y_1 = (c.at 6).D y_1 ∧ True) ∧ List.length (c.eX v N) - List.length (c.tX v N y.1) = x4_1 ∧ 0 = 0 ∧ List.length (c.eX v N) - List.length (c.tX v N y.1) = x4_1 ∧ List.length (c.tX v N y.1) = List.length (c.eX v N) - x4_1 ∧ (0 : Int) = Int.ofNat 3 ∧ x2 ∧ (∀ (k : List Int), (k == [x6_1] || x.2 k) = y.2 k) ∧ (∀ (k : List Int), y.2 k = Bool.true → True) ∧ True)) ∨ ∃ (y : List Int → Bool), 0 < 9 - x.1 ∧ N = 2 ∧ 0 = 0 ∧ 0 = 0 ∧ 0 = 0 ∧ List.length L = List.length L ∧ 0 = 0 ∧ List.length L = List.length L ∧ 0 = 0 ∧ (0 : Int) = (0 : Int) ∧ L = L ∧ allP (fun (i : Nat) => (c.at 7).R i = (c.at 6).R i) 0 32 ((c.at 7).s = (c.at 6).s ∧ (c.at 7).n1 = (c.at 6).n1 ∧ x7 ∧ (c.at 7).n2 = (c.at 6).n2 ∧ x9 ∧ (c.at 7).n3 = (c.at 6).n3 ∧ x10 ∧ (c.at 7).n4 = (c.at 6).n4 ∧ x8 ∧ (c.at 7).n5 = (c.at 6).n5 ∧ x3 ∧ (c.at 7).co = (c.at 6).co ∧ (c.at 7).mo = (c.at 6).mo ∧ (c.at 7).n6 = (c.at 6).n6 ∧ x4 ∧ (c.at 7).n7 = (c.at 6).n7 ∧ x6 ∧ List.length (c.eX v N) = x4_1 ∧ 0 = 0 ∧ List.length (c.eX v N) = x4_1 ∧ 0 = List.length (c.eX v N) - x4_1 ∧ (3 : Int) = Int.ofNat 3 ∧ x2 ∧ (∀ (k : List Int), (k == [x6_1] || x.2 k) = y k) ∧ (∀ (k : List Int), y k = Bool.true → True) ∧ True))) (decide (x6_1 = k))) (x.2 [x6_1])) (decide ((0 : Int) < lfV (List.length (c.tX v N x.1)) (0 : Int)))) ∧ ∀ (x : List Int → Bool), N = 2 → List.length L = List.length L ∧ 0 = 0 ∧ List.length L = List.length L ∧ 0 = 0 ∧ e = Int.ofNat 3 ∧ L = L ∧ allP (fun (i : Nat) => c.R i = (c.at 7).R i) 0 32 (c.s = (c.at 7).s ∧ c.n1 = (c.at 7).n1 ∧ (∀ (y : Nat), y < c.n1 → datas Bool.true [AV.int IntKind.i64 (c.L1 y)] = Bool.true ∧ c.L1 y = (c.at 7).L1 y ∧ True) ∧ c.n2 = (c.at 7).n2 ∧ (∀ (y : Nat), y < c.n2 → datas Bool.true [AV.int IntKind.i64 (c.L2 y)] = Bool.true ∧ c.L2 y = (c.at 7).L2 y ∧ True) ∧ c.n3 = (c.at 7).n3 ∧ (∀ (y : Nat), y < c.n3 → datas Bool.true [AV.int IntKind.i64 (c.L3 y)] = Bool.true ∧ c.L3 y = (c.at 7).L3 y ∧ True) ∧ c.n4 = (c.at 7).n4 ∧ (∀ (y : Nat), y < c.n4 → datas Bool.true [AV.int IntKind.i64 (c.L4 y)] = Bool.true ∧ c.L4 y = (c.at 7).L4 y ∧ True) ∧ c.n5 = (c.at 7).n5 ∧ (∀ (y : Nat), y < c.n5 → datas Bool.true [AV.int IntKind.i64 (c.G y), AV.rb Bool.true (c.K y) NL.unk] = Bool.true ∧ c.G y = (c.at 7).G y ∧ c.K y = (c.at 7).K y ∧ True) ∧ c.co = (c.at 7).co ∧ c.mo = (c.at 7).mo ∧ c.n6 = (c.at 7).n6 ∧ (∀ (y : Nat), y < c.n6 → datas Bool.true [AV.rb Bool.true (c.T y) NL.unk, AV.int IntKind.i64 (c.A y)] = Bool.true ∧ c.T y = (c.at 7).T y ∧ c.A y = (c.at 7).A y ∧ True) ∧ c.n7 = (c.at 7).n7 ∧ (∀ (y : Nat), y < c.n7 → datas Bool.true [AV.rb Bool.true (c.D y) NL.unk] = Bool.true ∧ c.D y = (c.at 7).D y ∧ True) ∧ True) : Prop) := by kernel_rfl
end Go.Sym

set_option linter.unusedSimpArgs false
namespace Go.Spec
open Go.Sym
structure xtAt (c : Cli) (L : By) (x n : Nat) (k : Int) (b v : By) (N : Nat) : Prop where
  h : c.ok
  h6 : c.n6 = 0
  k1 : 52 ≤ k
  k2 : k < 65536
  b1 : b.length ≤ 40
  v1 : v = exB [] k b
  e : x + n = L.length
  l : L.length < 1099511627776
  c0 : beN (cutB L x 2) = (c.eX v N).length
  s : cutB L (x + 2) (c.eX v N).length = c.eX v N
  b2 : x + 2 + (c.eX v N).length = L.length
  x6 : (c.eX v N).length ≤ 65535
theorem Cli.tX_yes (c : Cli) (v : By) (N : Nat) {i : Nat} (hi : i < 7) (h : c.hX i = true) : c.tX v N i = exB [] (kX i) (c.bX i) ++ c.tX v N (i + 1) := by
  unfold Cli.tX
  have e1 : min i 7 = i := Nat.min_eq_left (by omega)
  have e2 : min (i + 1) 7 = i + 1 := Nat.min_eq_left (by omega)
  have e3 : i - 7 = 0 := by omega
  have e4 : i + 1 - 7 = 0 := by omega
  rw [e1, e2, e3, e4, c.tl_yes h, List.append_assoc]
theorem Cli.tX_nx (c : Cli) (v : By) (N : Nat) {i j : Nat} (hi : i ≤ 7) (hj : j ≤ 7) (h : c.tl i = c.tl j) : c.tX v N i = c.tX v N j := by
  unfold Cli.tX
  have e1 : min i 7 = i := Nat.min_eq_left (by omega)
  have e2 : min j 7 = j := Nat.min_eq_left (by omega)
  have e3 : i - 7 = 0 := by omega
  have e4 : j - 7 = 0 := by omega
  rw [e1, e2, e3, e4, h]
theorem Cli.tX_ge (c : Cli) (v : By) (N m : Nat) : c.tX v N (7 + m) = rpB v (N - m) := by
  unfold Cli.tX
  have e1 : min (7 + m) 7 = 7 := Nat.min_eq_right (by omega)
  have e2 : 7 + m - 7 = m := by omega
  rw [e1, e2, c.tl_end, List.nil_append]
theorem Cli.tX_suf (c : Cli) (v : By) (N : Nat) (hN : 1 ≤ N) : ∀ i, i ≤ 8 → ∃ A, c.eX v N = A ++ c.tX v N i := by
  intro i hi
  rcases Nat.lt_or_ge i 8 with h1 | h1
  · obtain ⟨A, e⟩ := c.tl_suf i (by omega)
    refine ⟨A, ?_⟩
    unfold Cli.eX Cli.tX
    have e1 : min i 7 = i := Nat.min_eq_left (by omega)
    have e3 : i - 7 = 0 := by omega
    rw [e1, e3, e, List.append_assoc, Nat.sub_zero]
  · obtain rfl : i = 7 + 1 := by omega
    refine ⟨c.ex ++ v, ?_⟩
    rw [c.tX_ge]
    unfold Cli.eX
    obtain ⟨m, rfl⟩ : ∃ m, N = m + 1 := ⟨N - 1, by omega⟩
    rw [rpB, Nat.add_sub_cancel, List.append_assoc]
/-- What is read where an extension stands. -/
theorem ext_at {X A T bb : By} {kk : Int} {P : Nat} (hX : X = A ++ (exB [] kk bb ++ T)) (hP : P = A.length) (k0 : 0 ≤ kk) (k1 : kk < 65536) (hb : bb.length < 65536) :
    ((beN (cutB X P 2) : Nat) : Int) = kk ∧ beN (cutB X (P + 2) 2) = bb.length ∧ cutB X (P + 2 + 2) bb.length = bb ∧ (exB [] kk bb ++ T).length = 4 + bb.length + T.length ∧ X.length = A.length + (4 + bb.length + T.length) := by
  have p2 : (256 : Nat) ^ 2 = 65536 := rfl
  have ht : exB [] kk bb ++ T = puL kk.toNat 2 ++ (puL bb.length 2 ++ (bb ++ T)) := exB_parts kk bb T
  have lt : (exB [] kk bb ++ T).length = 4 + bb.length + T.length := by rw [ht]; simp only [List.length_append, puL_len]; omega
  refine ⟨?_, ?_, ?_, lt, by rw [hX, List.length_append, lt]⟩
  · rw [hX, ht, beN_at hP (by omega)]; omega
  · have e : X = (A ++ puL kk.toNat 2) ++ (puL bb.length 2 ++ (bb ++ T)) := by rw [hX, ht]; simp only [List.append_assoc]
    rw [e, beN_at (by rw [List.length_append, puL_len, hP]) (by omega)]
  · have e : X = (A ++ puL kk.toNat 2 ++ puL bb.length 2) ++ (bb ++ T) := by rw [hX, ht]; simp only [List.append_assoc]
    rw [e, cutB_at (by simp only [List.length_append, puL_len, hP]) rfl]
theorem kX_lt (i : Nat) : kX i < 52 := by
  unfold kX
  split <;> decide
end Go.Spec
namespace Go.Sym
open Go.Proofs Go.Spec
set_option linter.unusedVariables false
theorem bx95y (c : Cli) (L v b : By) (x n N : Nat) (k e : Int) (h : xtAt c L x n k b v N) (hN : N = 1 ∧ e = 0 ∨ N = 2 ∧ e = 3) : Must (bodyP Tryd.prog (Gx9 c k) gl0 [] [(3, lsXa c L k v N), (3, lsXb c L v N)] 3000 Tryd.f95 3 [.ptr 0 0 0 0, .fn 96 [] [.ptr 2 0 0 0]] [rdCn 1 x n, rdL L, bxG (c.at 0)] (retQ Tryd.prog Tryd.f95 3 (rEy c L e))) := by
  constructor
  rw [vy95, h.c0, h.s]
  have hb := h.b2
  have hl := h.l
  have x6 := h.x6
  have k1 := h.k1
  have k2 := h.k2
  have b1 := h.b1
  have h7 := h.h.h7
  have h6 := h.h6
  have n1 : 1 ≤ N := by omega
  have n2 : N ≤ 2 := by omega
  have lv : v.length = 4 + b.length := by
    rw [h.v1, exB_len]
    have e0 : ([] : By).length = 0 := rfl
    omega
  have x7 : c.hX 6 = false := by
    show decide (0 < c.n6) = false
    rw [h6]; rfl
  have a67 : c.at 6 = c.at 7 := c.at_skip h7 (by omega) fun j h1 h2 => by
    obtain rfl : j = 6 := by omega
    exact x7
  have a7 : ∀ i, 7 ≤ i → c.at i = c.at 7 := fun i hi => (c.at_skip h7 hi fun j h1 h2 => by
    obtain ⟨m, rfl⟩ : ∃ m, j = m + 7 := ⟨j - 7, by omega⟩
    rfl).symm
  obtain ⟨m1, m2, m3, m4, m5⟩ := c.nx_spec (i := 0) (by omega)
  intro t1 t2 t3 t4 t5 t6 t7 t8 t9 t10
  have q1 : t1 = L.length := hb
  refine ⟨h.e, hl, by decide, ⟨by omega, by omega, by omega⟩, rfl, by show (c.eX v N).length < _; omega, .inl ⟨⟨c.nx 0, fun _ => false⟩, trivial, ⟨by show c.nx 0 ≤ 7 + N; omega, by show c.nx 0 ≤ 8; omega, m3, fun _ _ _ => rfl, fun _ => rfl, fun h8 => ?_⟩, rfl, rfl, rfl, q1.symm, rfl, q1.symm, by omega, rfl, rfl, ?_⟩, fun s => ?_, fun p hN2 => ?_⟩
  · have h8 : c.nx 0 = 8 := h8
    omega
  · refine sameC_of (c.at_skip h7 m1 m4).symm ?_
    have e1 : c.tX v N (c.nx 0) = c.eX v N := by
      rw [c.tX_nx v N m2 (by omega : 0 ≤ 7) (by rw [← m5])]
      show c.tl 0 ++ rpB v N = c.ex ++ rpB v N
      rw [c.ex_tl]
    show (c.eX v N).length - (c.tX v N (c.nx 0)).length = 0 ∧ 0 = 0 ∧ (c.eX v N).length - (c.tX v N (c.nx 0)).length = 0 ∧ (c.tX v N (c.nx 0)).length = (c.eX v N).length ∧ (0 : Int) = 0 ∧ c.eX v N = c.eX v N ∧ _
    rw [e1]
    exact ⟨by omega, rfl, by omega, rfl, rfl, rfl, fun _ => rfl, fun _ _ => trivial, trivial⟩
  · obtain ⟨i, p⟩ := s
    intro a1 a2 a3 a4 a5 a6 a7' a8 a9 a10 a11 a12 a13
    rintro ⟨hi, hi8, hx, hp, hk0, hk1⟩
    have hi : i ≤ 7 + N := hi
    have hi8 : i ≤ 8 := hi8
    have hx : i < 7 → c.hX i = true := hx
    have hp : ∀ j, i ≤ j → j < 7 → p [kX j] = false := hp
    have hk0 : i ≤ 7 → p [k] = false := hk0
    have hk1 : i = 8 → p [k] = true := hk1
    obtain ⟨A, hA⟩ := c.tX_suf v N n1 i hi8
    have lA : (c.eX v N).length = A.length + (c.tX v N i).length := by
      have := congrArg List.length hA
      rwa [List.length_append] at this
    have hP : a1 = A.length := by show (c.eX v N).length - (c.tX v N i).length = A.length; omega
    refine brec (fun d => ?_) (fun d => ?_)
    · have d : (0 : Int) < ((c.tX v N i).length : Int) := of_decide_eq_true d
      rcases Nat.lt_or_ge i 7 with hi7 | hi7
      · have hxi := hx hi7
        have ht := c.tX_yes v N hi7 hxi
        rw [ht] at hA
        have hk := kX_le i
        have hk52 := kX_lt i
        have lbb : (c.bX i).length < 65536 := by
          have : (exB [] (kX i) (c.bX i)).length ≤ (c.eX v N).length := by rw [hA]; simp only [List.length_append]; omega
          rw [exB_len] at this
          omega
        obtain ⟨r1, r2, r3, r4, r5⟩ := ext_at hA hP hk.1 hk.2 lbb
        have q6 : a6 = kX i := r1
        have q2 : a2 = c.at (i + 1) := by
          show c.at (iX ((beN (cutB (c.eX v N) a1 2) : Nat) : Int) + 1) = _
          rw [r1, iX_kX hi7]
        have q4 : a4 = A.length + 4 + (c.bX i).length := by
          show a1 + 2 + 2 + beN (cutB (c.eX v N) (a1 + 2) 2) = _
          rw [r2, hP]
        have q5 : a5 = c.bX i := by
          show cutB (c.eX v N) (a1 + 2 + 2) (beN (cutB (c.eX v N) (a1 + 2) 2)) = _
          rw [r2, r3]
        have q3 : a3 = cliG (c.at i) := rfl
        obtain ⟨m1, m2, m3, m4, m5⟩ := c.nx_spec (i := i + 1) (by omega)
        rw [← ht] at r4
        clear_value a1 a2 a3 a4 a5 a6
        subst q6 q2 q3 q5
        rw [iX_kX hi7, r2]
        refine ⟨by show a1 + (c.tX v N i).length = _; omega, by omega, by decide, by omega, by omega, by omega, by decide, ⟨by omega, by omega, by omega⟩, rfl, by omega, ?_⟩
        refine brec (fun d2 => ?_) (fun d2 => ?_)
        · have d2 : p [kX i] = true := d2
          rw [hp i (Nat.le_refl _) hi7] at d2
          cases d2
        · refine brec (fun d3 => ?_) (fun d3 => ?_)
          · have := of_decide_eq_true d3
            omega
          · refine ⟨h.h, ⟨hi7, rfl, hxi, rfl, rfl⟩, rfl, .inl ⟨⟨c.nx (i + 1), fun k => k == [kX i] || p k⟩, ?_, ⟨?_, ?_, m3, fun j h1 h2 => ?_, fun h1 => ?_, fun h1 => ?_⟩, rfl, rfl, rfl, rfl, rfl, rfl, rfl, rfl, rfl, ?_⟩⟩
            · show 9 - c.nx (i + 1) < 9 - i; omega
            · show c.nx (i + 1) ≤ 7 + N; omega
            · show c.nx (i + 1) ≤ 8; omega
            · have h1 : c.nx (i + 1) ≤ j := h1
              show (([kX j] : List Int) == [kX i] || p [kX j]) = false
              rw [hp j (by omega) h2, Bool.or_false]
              have : ¬ kX j = kX i := fun e => by
                have := congrArg iX e
                rw [iX_kX h2, iX_kX hi7] at this
                omega
              simp [this]
            · show (([k] : List Int) == [kX i] || p [k]) = false
              rw [hk0 (by omega), Bool.or_false]
              have : ¬ k = kX i := by omega
              simp [this]
            · have h1 : c.nx (i + 1) = 8 := h1
              omega
            · refine sameC_of (c.at_skip h7 m1 m4).symm ?_
              have e1 : c.tX v N (c.nx (i + 1)) = c.tX v N (i + 1) := c.tX_nx v N m2 (by omega) m5.symm
              show (c.eX v N).length - (c.tX v N (c.nx (i + 1))).length = a4 ∧ 0 = 0 ∧ (c.eX v N).length - (c.tX v N (c.nx (i + 1))).length = a4 ∧ (c.tX v N (c.nx (i + 1))).length = (c.eX v N).length - a4 ∧ _
              rw [e1]
              exact ⟨by omega, rfl, by omega, by omega, rfl, rfl, fun _ => rfl, fun _ _ => trivial, trivial⟩
      · obtain ⟨m, rfl⟩ : ∃ m, i = 7 + m := ⟨i - 7, by omega⟩
        have htx := c.tX_ge v N m
        have hmN : m < N := by
          rcases Nat.lt_or_ge m N with h1 | h1
          · exact h1
          · rw [htx, show N - m = 0 by omega] at d
            have e0 : (rpB v 0).length = 0 := rfl
            omega
        have ht : c.tX v N (7 + m) = exB [] k b ++ rpB v (N - m - 1) := by
          rw [htx, show N - m = (N - m - 1) + 1 by omega, rpB, Nat.add_sub_cancel, h.v1]
        rw [ht] at hA
        obtain ⟨r1, r2, r3, r4, r5⟩ := ext_at hA hP (by omega) k2 (by omega)
        have q6 : a6 = k := r1
        have q4 : a4 = A.length + 4 + b.length := by
          show a1 + 2 + 2 + beN (cutB (c.eX v N) (a1 + 2) 2) = _
          rw [r2, hP]
        have q5 : a5 = b := by
          show cutB (c.eX v N) (a1 + 2 + 2) (beN (cutB (c.eX v N) (a1 + 2) 2)) = _
          rw [r2, r3]
        have q3 : a3 = cliG (c.at 6) := by
          show cliG (c.at (7 + m)) = _
          rw [a7 (7 + m) (by omega), a67]
        have ld : (rpB v (N - m - 1)).length = (N - m - 1) * (4 + b.length) := by rw [rpB_len, lv]
        rw [← ht] at r4
        clear_value a1 a2 a3 a4 a5 a6
        subst q6 q3 q5
        rw [r2]
        refine ⟨by show a1 + (c.tX v N (7 + m)).length = _; omega, by omega, by decide, by omega, by omega, by omega, by decide, ⟨by omega, by omega, by omega⟩, rfl, by omega, ?_⟩
        refine brec (fun d2 => ?_) (fun d2 => ?_)
        · have d2 : p [a6] = true := d2
          have hm1 : m = 1 := by
            rcases Nat.lt_or_ge 0 m with h1 | h1
            · omega
            · rw [hk0 (by omega)] at d2; cases d2
          subst hm1
          have hN2 : N = 2 := by omega
          have ld0 : (rpB v (N - 1 - 1)).length = 0 := by rw [ld, hN2]; omega
          refine brec (fun d3 => ?_) (fun d3 => absurd rfl (of_decide_eq_false d3))
          exact ⟨k1, rfl, rfl, .inr ⟨fun k => k == [a6] || p k, by omega, hN2, rfl, rfl, rfl, rfl, rfl, rfl, rfl, rfl, rfl, sameC_of a67.symm ⟨by omega, rfl, by omega, by omega, rfl, rfl, fun _ => rfl, fun _ _ => trivial, trivial⟩⟩⟩
        · have d2 : p [a6] = false := d2
          have hm0 : m = 0 := by
            rcases Nat.lt_or_ge 0 m with h1 | h1
            · rw [hk1 (by omega)] at d2; cases d2
            · omega
          subst hm0
          refine brec (fun d3 => ?_) (fun d3 => absurd rfl (of_decide_eq_false d3))
          refine ⟨k1, rfl, rfl, .inl ⟨⟨8, fun k => k == [a6] || p k⟩, ?_, ⟨?_, ?_, ?_, fun j h1 h2 => ?_, fun h1 => ?_, fun h1 => ?_⟩, rfl, rfl, rfl, rfl, rfl, rfl, rfl, rfl, rfl, ?_⟩⟩
          · show 9 - 8 < 9 - (7 + 0); omega
          · show 8 ≤ 7 + N; omega
          · show 8 ≤ 8; omega
          · intro h1; have h1 : 8 < 7 := h1; omega
          · have h1 : 8 ≤ j := h1; omega
          · have h1 : 8 ≤ 7 := h1; omega
          · show (([a6] : List Int) == [a6] || p [a6]) = true
            simp
          · refine sameC_of (by rw [a7 8 (by omega), a67]) ?_
            have e1 : c.tX v N 8 = rpB v (N - 0 - 1) := c.tX_ge v N 1
            show (c.eX v N).length - (c.tX v N 8).length = a4 ∧ 0 = 0 ∧ (c.eX v N).length - (c.tX v N 8).length = a4 ∧ (c.tX v N 8).length = (c.eX v N).length - a4 ∧ _
            rw [e1]
            exact ⟨by omega, rfl, by omega, by omega, rfl, rfl, fun _ => rfl, fun _ _ => trivial, trivial⟩
    · have d : ¬ (0 : Int) < ((c.tX v N i).length : Int) := of_decide_eq_false d
      have hi7 : 7 ≤ i := by
        rcases Nat.lt_or_ge i 7 with h1 | h1
        · exfalso
          have ht := c.tX_yes v N h1 (hx h1)
          have : (c.tX v N i).length = 4 + (c.bX i).length + (c.tX v N (i + 1)).length := by
            rw [ht, List.length_append, exB_len]
            have e0 : ([] : By).length = 0 := rfl
            omega
          omega
        · exact h1
      obtain ⟨m, rfl⟩ : ∃ m, i = 7 + m := ⟨i - 7, by omega⟩
      rw [c.tX_ge, rpB_len, lv] at d
      have hm : m = N := by
        rcases Nat.lt_or_ge m N with h1 | h1
        · exfalso
          obtain ⟨q, hq⟩ : ∃ q, N - m = q + 1 := ⟨N - m - 1, by omega⟩
          rw [hq, Nat.succ_mul] at d
          omega
        · omega
      have hN1 : N = 1 := by omega
      have he : e = 0 := by omega
      exact ⟨rfl, rfl, rfl, rfl, he, rfl, sameC_of (by rw [a7 (7 + m) (by omega), c.at_all]) trivial⟩
  · have hN2 : N = 2 := hN2
    have he : e = 3 := by omega
    exact ⟨rfl, rfl, rfl, rfl, he, rfl, sameC_of (c.at_all).symm trivial⟩
end Go.Sym

set_option linter.unusedSimpArgs false
namespace Go.Spec
open Go.Sym
theorem Cli.byX_eq (c : Cli) (X : By) : pvB c.hd X 2 = puL 771 2 ++ (rg 32 c.R ++ (puL c.s.length 1 ++ (c.s ++ (puL (chN c.L1 c.n1).length 2 ++ (chN c.L1 c.n1 ++ (puL 1 1 ++ ([0#8] ++ (puL X.length 2 ++ (X ++ []))))))))) := by
  unfold Cli.hd hdB pvB puB
  simp only [List.nil_append, List.append_assoc, List.append_nil, Int.toNat_natCast]
  rfl
/-- How often the other extension is there; what is told then. -/
noncomputable def Cli.nO (c : Cli) (v L : By) : Nat := @ite _ (L = pvB c.hd (c.eX v 2) 2) (Classical.propDecidable _) 2 1
noncomputable def Cli.eO (c : Cli) (v L : By) : Int := @ite _ (L = pvB c.hd (c.eX v 2) 2) (Classical.propDecidable _) 3 0
theorem Cli.nO_eO (c : Cli) (v L : By) : c.nO v L = 1 ∧ c.eO v L = 0 ∨ c.nO v L = 2 ∧ c.eO v L = 3 := by
  unfold Cli.nO Cli.eO
  by_cases h : L = pvB c.hd (c.eX v 2) 2
  · rw [if_pos h, if_pos h]; exact .inr ⟨rfl, rfl⟩
  · rw [if_neg h, if_neg h]; exact .inl ⟨rfl, rfl⟩
/-- Where the parts of a greeting stand, with whatever extensions. -/
structure hdAt (c : Cli) (L X : By) : Prop where
  l : L.length < 1099511627776
  a : beN (cutB L 0 2) = 771
  r : cutB L 2 32 = rg 32 c.R
  s0 : beN (cutB L 34 1) = c.s.length
  s1 : cutB L 35 c.s.length = c.s
  s2 : c.s.length ≤ 32
  v1 : vAt L (35 + c.s.length) (L.length - (35 + c.s.length)) 2 (chN c.L1 c.n1)
  z0 : beN (cutB L (37 + c.s.length + 2 * c.n1) 1) = 1
  z1 : cutB L (38 + c.s.length + 2 * c.n1) 1 = [0#8]
  e : 39 + c.s.length + 2 * c.n1 + (L.length - (39 + c.s.length + 2 * c.n1)) = L.length
  c0 : beN (cutB L (39 + c.s.length + 2 * c.n1) 2) = X.length
  x : cutB L (39 + c.s.length + 2 * c.n1 + 2) X.length = X
  b : 39 + c.s.length + 2 * c.n1 + 2 + X.length = L.length
theorem hdAt_of (c : Cli) (h : c.ok) (X : By) (hx : X.length ≤ 1800) : hdAt c (pvB c.hd X 2) X := by
  have hs := h.hs
  have h0 := h.h0
  have h1 := h.h1
  have lN : (chN c.L1 c.n1).length = 2 * c.n1 := chN_len ..
  have lR := rg_length 32 c.R
  have e := c.byX_eq X
  have p1 : (256 : Nat) ^ 1 = 256 := rfl
  have p2 : (256 : Nat) ^ 2 = 65536 := rfl
  have lz : ([0#8] : By).length = 1 := rfl
  have ll : (pvB c.hd X 2).length = 41 + c.s.length + 2 * c.n1 + X.length := by
    rw [e]; simp only [List.length_append, puL_len, lR, lN, lz, List.length_nil]; omega
  have e1 : pvB c.hd X 2 = [] ++ (puL 771 2 ++ (rg 32 c.R ++ (puL c.s.length 1 ++ (c.s ++ (puL (chN c.L1 c.n1).length 2 ++ (chN c.L1 c.n1 ++ (puL 1 1 ++ ([0#8] ++ (puL X.length 2 ++ (X ++ [])))))))))) := by rw [e]; rfl
  have e2 : pvB c.hd X 2 = (puL 771 2) ++ (rg 32 c.R ++ (puL c.s.length 1 ++ (c.s ++ (puL (chN c.L1 c.n1).length 2 ++ (chN c.L1 c.n1 ++ (puL 1 1 ++ ([0#8] ++ (puL X.length 2 ++ (X ++ []))))))))) := e
  have e3 : pvB c.hd X 2 = (puL 771 2 ++ rg 32 c.R) ++ (puL c.s.length 1 ++ (c.s ++ (puL (chN c.L1 c.n1).length 2 ++ (chN c.L1 c.n1 ++ (puL 1 1 ++ ([0#8] ++ (puL X.length 2 ++ (X ++ [])))))))) := by rw [e]; simp only [List.append_assoc]
  have e4 : pvB c.hd X 2 = (puL 771 2 ++ rg 32 c.R ++ puL c.s.length 1) ++ (c.s ++ (puL (chN c.L1 c.n1).length 2 ++ (chN c.L1 c.n1 ++ (puL 1 1 ++ ([0#8] ++ (puL X.length 2 ++ (X ++ []))))))) := by rw [e]; simp only [List.append_assoc]
  have e5 : pvB c.hd X 2 = (puL 771 2 ++ rg 32 c.R ++ puL c.s.length 1 ++ c.s) ++ (puL (chN c.L1 c.n1).length 2 ++ (chN c.L1 c.n1 ++ (puL 1 1 ++ ([0#8] ++ (puL X.length 2 ++ (X ++ [])))))) := by rw [e]; simp only [List.append_assoc]
  have e6 : pvB c.hd X 2 = (puL 771 2 ++ rg 32 c.R ++ puL c.s.length 1 ++ c.s ++ puL (chN c.L1 c.n1).length 2 ++ chN c.L1 c.n1) ++ (puL 1 1 ++ ([0#8] ++ (puL X.length 2 ++ (X ++ [])))) := by rw [e]; simp only [List.append_assoc]
  have e7 : pvB c.hd X 2 = (puL 771 2 ++ rg 32 c.R ++ puL c.s.length 1 ++ c.s ++ puL (chN c.L1 c.n1).length 2 ++ chN c.L1 c.n1 ++ puL 1 1) ++ ([0#8] ++ (puL X.length 2 ++ (X ++ []))) := by rw [e]; simp only [List.append_assoc]
  have e8 : pvB c.hd X 2 = (puL 771 2 ++ rg 32 c.R ++ puL c.s.length 1 ++ c.s ++ puL (chN c.L1 c.n1).length 2 ++ chN c.L1 c.n1 ++ puL 1 1 ++ [0#8]) ++ (puL X.length 2 ++ (X ++ [])) := by rw [e]; simp only [List.append_assoc]
  have e9 : pvB c.hd X 2 = (puL 771 2 ++ rg 32 c.R ++ puL c.s.length 1 ++ c.s ++ puL (chN c.L1 c.n1).length 2 ++ chN c.L1 c.n1 ++ puL 1 1 ++ [0#8] ++ puL X.length 2) ++ (X ++ []) := by rw [e]; simp only [List.append_assoc]
  refine ⟨by omega, ?_, ?_, ?_, ?_, hs, ?_, ?_, ?_, by omega, ?_, ?_, by omega⟩
  · rw [e1]; exact beN_at (A := []) rfl (by omega)
  · rw [e2, cutB_at (by rw [puL_len]) lR.symm]
  · rw [e3, beN_at (by simp only [List.length_append, puL_len, lR]) (by omega)]
  · rw [e4, cutB_at (by simp only [List.length_append, puL_len, lR]) rfl]
  · exact vAt_of e5 (by simp only [List.length_append, puL_len, lR]) (by omega) (by omega) rfl (by decide) (by decide) (by omega) (by omega) (by omega)
  · rw [e6, beN_at (by simp only [List.length_append, puL_len, lR, lN]; omega) (by omega)]
  · rw [e7]; exact cutB_at (v := [0#8]) (by simp only [List.length_append, puL_len, lR, lN]; omega) rfl
  · rw [e8, beN_at (by simp only [List.length_append, puL_len, lR, lN, lz]; omega) (by omega)]
  · rw [e9, cutB_at (by simp only [List.length_append, puL_len, lR, lN, lz]; omega) rfl]
end Go.Spec
namespace Go.Sym
open Go.Proofs Go.Spec
set_option linter.unusedVariables false
theorem bh89x (c : Cli) (L X : By) (n : Nat) (h : hdAt c L X) (hn : n = L.length) : Must (bodyP Tryd.prog Ga5 gl0 [] [] 3000 Tryd.f89 2 [.ptr 0 0 0 0] [rdC 0 n 0, rdL L] (retQ Tryd.prog Tryd.f89 2 (rHd c L))) := by
  constructor
  unfold rHd
  rw [vh89, h.a, h.r, h.s0, h.s1]
  have hl := h.l
  have hs := h.s2
  have hv := h.v1.b
  have e2 : (2 : Int).toNat = 2 := rfl
  have lR := rg_length 32 c.R
  refine ⟨by omega, hl, by decide, by omega, ?_⟩
  refine ⟨by omega, hl, by decide, by omega, lR.symm, by omega, hl, by decide, ⟨by omega, by omega, by omega⟩, allP_of 32 0 (fun i h1 h2 => ?_) ⟨rfl, rfl, rfl, rfl, rfl, rfl, rfl, rfl, rfl, rfl, rfl, trivial⟩⟩
  rw [if_pos (by omega), rg_getD 32 c.R i _ (by omega)]
noncomputable def gx89 (c : Cli) (v : By) (xs : List AV) (bs : List ABlk) : TL := match xs, bs with
  | [.ptr 0 0 0 0], [⟨.cells [.slice 1 0 1 n .ox .unk, .int .i64 0], true, 0⟩, ⟨.bytes L, true, 1⟩] => .ok { rHd c L with ob := [hdAt c L (c.eX v (c.nO v L)), n = L.length] }
  | _, _ => .no
theorem cx89 (c : Cli) (v : By) : COK Tryd.prog gl0 89 (mkF (reSp 1 (gx89 c v))) := by
  refine ctrE (fn := Tryd.f89) [] 3000 (by kernel_rfl) (by kernel_rfl) okGa5 (by kernel_rfl) (fun args w => by kernel_rfl) fun xs bs r hs ho => ?_
  replace hs : (gx89 c v xs bs).sel = some r := hs
  unfold gx89 at hs
  split at hs
  · simp only [TL.sel, Option.some.injEq] at hs
    subst hs
    obtain ⟨h, h2⟩ := obsT_cons.1 ho
    exact ⟨_, bh89x c _ _ _ h (obsT_one.1 h2)⟩
  · simp [TL.sel] at hs
noncomputable def gx95 (c : Cli) (k : Int) (b v : By) (xs : List AV) (bs : List ABlk) : TL := match xs, bs with
  | [.ptr 0 0 0 0, .fn 96 [] [.ptr 2 0 0 0]], [⟨.cells [.slice 1 x 1 n .ox .unk, .int .i64 0], true, 0⟩, ⟨.bytes L, true, 1⟩, ⟨.cells cs, true, 0⟩] =>
    .ok { rEy c L (c.eO v L) with ob := [xtAt c L x n k b v (c.nO v L), cs = cliG (c.at 0)] }
  | _, _ => .no
theorem cx95 (c : Cli) (k : Int) (b v : By) : COK Tryd.prog gl0 95 (mkF (reSp 2 (gx95 c k b v))) := by
  refine ctrE (fn := Tryd.f95) [] 3000 (by kernel_rfl) (by kernel_rfl) (okGx9 c k) (by kernel_rfl) (fun args w => by kernel_rfl) fun xs bs r hs ho => ?_
  replace hs : (gx95 c k b v xs bs).sel = some r := hs
  unfold gx95 at hs
  split at hs
  · simp only [TL.sel, Option.some.injEq] at hs
    subst hs
    obtain ⟨h, h2⟩ := obsT_cons.1 ho
    have h2 := obsT_one.1 h2
    subst h2
    exact ⟨_, bx95y c _ v b _ _ _ k _ h (c.nO_eO v _)⟩
  · simp [TL.sel] at hs
noncomputable def Gy1 (c : Cli) (k : Int) (b v : By) : Ctx := (((Ga6 c).add 89 (mkF (reSp 1 (gx89 c v)))).add 95 (mkF (reSp 2 (gx95 c k b v)))).add 98 (mkF (reSp 1 gq22))
theorem okGy1 (c : Cli) (k : Int) (b v : By) : COKs Tryd.prog gl0 (Gy1 c k b v) := (((okGa6 c).add (cx89 c v)).add (cx95 c k b v)).add cq22
noncomputable def Gy2 (c : Cli) (k : Int) (b v : By) : Ctx := (Gy1 c k b v).exe Tryd.prog gl0 [] 300 Tryd.f92.params.size 92 Tryd.f92
theorem okGy2 (c : Cli) (k : Int) (b v : By) : COKs Tryd.prog gl0 (Gy2 c k b v) := (okGy1 c k b v).exe [] 300 _ (by kernel_rfl) (by kernel_rfl) (by kernel_rfl) (fun args w => by kernel_rfl)
noncomputable def Gy3 (c : Cli) (k : Int) (b v : By) : Ctx := (Gy2 c k b v).withFrz [(10, [.kp, .by8]), (16, [.r 1])]
theorem okGy3 (c : Cli) (k : Int) (b v : By) : COKs Tryd.prog gl0 (Gy3 c k b v) := (okGy2 c k b v).withFrz _
def lsY47 (c : Cli) (L : By) : LS := ⟨Unit, fun _ => [(2, .ptr 103 0 0 0), (3, .int .i64 0), (4, .ptr 100 0 0 0), (5, .ptr 102 0 0 0)],
  fun _ => [(100, rdCn 101 (39 + c.s.length + 2 * c.n1) (L.length - (39 + c.s.length + 2 * c.n1))), (101, rdL L), (102, bxG (c.at 0)), (103, bxZ)], 1000, fun _ => 0, fun _ => c.ok, fun _ => []⟩
def rGy (c : Cli) (e : Int) : RL := ⟨[], .tup [.agg (cliG c), .int .i64 e], [], []⟩
end Go.Sym

namespace Go.Sym
open Go.Proofs Go.Spec
set_option linter.unusedVariables false
set_option maxRecDepth 100000 in
theorem vy47 (c : Cli) (L v b : By) (k f : Int) : bodyP Tryd.prog (Gy3 c k b v) gl0 [] [(10007, lsY47 c L)] 3000 Tryd.f47 0 [.rb false L .unk] [] (retQ Tryd.prog Tryd.f47 0 (rGy c f)) = (
let x1 := 35 + List.length c.s + 2 + List.length (vecB L (35 + List.length c.s) (2 : Int)); let x2 := L = L ∧ allP (fun (i : Nat) => (c.at 0).R i = c.R i) 0 32 ((c.at 0).s = c.s ∧ (c.at 0).n1 = List.length (vecB L (35 + List.length c.s) (2 : Int)) / 2 ∧ (∀ (y : Nat), y < (c.at 0).n1 → datas Bool.true [AV.int IntKind.i64 ((c.at 0).L1 y)] = Bool.true ∧ (c.at 0).L1 y = dN (vecB L (35 + List.length c.s) (2 : Int)) y ∧ True) ∧ (c.at 0).n2 = 0 ∧ (c.at 0).n3 = 0 ∧ (c.at 0).n4 = 0 ∧ (c.at 0).n5 = 0 ∧ (c.at 0).co = [] ∧ (c.at 0).mo = [] ∧ (c.at 0).n6 = 0 ∧ (c.at 0).n7 = 0 ∧ allP (fun (i : Nat) => (0 : BitVec 8) = BitVec.ofNat 8 0) 0 32 True); let x3 := 39 + List.length c.s + 2 * c.n1; let x4 := vecB L (35 + List.length c.s) (2 : Int); let x5 := x1 + 1 + beN (cutB L x1 1); List.length L < 1099511627776 ∧ hdAt c L (c.eX v (c.nO v L)) ∧ List.length L = List.length L ∧ List.length c.s = List.length c.s ∧ vAt L (35 + List.length c.s) (List.length L - (35 + List.length c.s)) (2 : Int) x4 ∧ List.length x4 = 2 * (List.length x4 / 2) ∧ (↑(List.length x4 / 2) : Int) ≤ (8 : Int) ∧ 0 + List.length x4 / 2 ≤ List.length x4 / 2 ∧ (∀ (y : Nat), y < List.length x4 / 2 → datas Bool.true [AV.int IntKind.i64 (dN x4 y)] = Bool.true ∧ [AV.int IntKind.i64 (dN x4 y)].length ≤ 1) ∧ x1 + (List.length L - x1) = List.length L ∧ List.length L < 1099511627776 ∧ ((1 : Int) ≤ (1 : Int) ∧ (1 : Int) ≤ (4 : Int)) ∧ (x5 ≤ List.length L ∧ (1 : Int) ≤ (↑(beN (cutB L x1 1)) : Int) ∧ (↑(beN (cutB L x1 1)) : Int) ≤ (1 : Int)) ∧ beN (cutB L x1 1) = List.length (cutB L (x1 + 1) (beN (cutB L x1 1))) ∧ 1 = 1 ∧ @Bool.rec (fun _ => Prop) (∃ (y : Unit), c.ok ∧ 0 = 0 ∧ (0 : Int) = (0 : Int) ∧ 0 = 0 ∧ 0 = 0 ∧ x3 = x5 ∧ 0 = 0 ∧ x3 = x5 ∧ List.length L - x3 = List.length L - x5 ∧ (0 : Int) = (0 : Int) ∧ x2) (∃ (y : Unit), c.ok ∧ 0 = 0 ∧ (0 : Int) = (0 : Int) ∧ 0 = 0 ∧ 0 = 0 ∧ x3 = x5 ∧ 0 = 0 ∧ x3 = x5 ∧ List.length L - x3 = List.length L - x5 ∧ (0 : Int) = Int.ofNat 3 ∧ x2) !decide (cutB L (x1 + 1) (beN (cutB L x1 1)) = [BitVec.ofNat 8 0]) ∧ ∀ (x : Unit), c.ok → xtAt c L x3 (List.length L - x3) k b v (c.nO v L) ∧ rgA (fun (i : Nat) => AV.u8 ((c.at 0).R i)) 0 32 [AV.rb Bool.true (c.at 0).s NL.unk, AV.ros Bool.true 1 (c.at 0).n1 (fun (j : Nat) => [AV.int IntKind.i64 ((c.at 0).L1 j)]) NL.unk, AV.ros Bool.true 1 (c.at 0).n2 (fun (j : Nat) => [AV.int IntKind.i64 ((c.at 0).L2 j)]) NL.unk, AV.ros Bool.true 1 (c.at 0).n3 (fun (j : Nat) => [AV.int IntKind.i64 ((c.at 0).L3 j)]) NL.unk, AV.ros Bool.true 1 (c.at 0).n4 (fun (j : Nat) => [AV.int IntKind.i64 ((c.at 0).L4 j)]) NL.unk, AV.ros Bool.true 2 (c.at 0).n5 (fun (j : Nat) => [AV.int IntKind.i64 ((c.at 0).G j), AV.rb Bool.true ((c.at 0).K j) NL.unk]) NL.unk, AV.rb Bool.true (c.at 0).co NL.unk, AV.rb Bool.true (c.at 0).mo NL.unk, AV.ros Bool.true 2 (c.at 0).n6 (fun (j : Nat) => [AV.rb Bool.true ((c.at 0).T j) NL.unk, AV.int IntKind.i64 ((c.at 0).A j)]) NL.unk, AV.ros Bool.true 1 (c.at 0).n7 (fun (j : Nat) => [AV.rb Bool.true ((c.at 0).D j) NL.unk]) NL.unk] = cliG (c.at 0) ∧ allP (fun (i : Nat) => c.R i = c.R i) 0 32 (c.s = c.s ∧ c.n1 = c.n1 ∧ (∀ (y : Nat), y < c.n1 → datas Bool.true [AV.int IntKind.i64 (c.L1 y)] = Bool.true ∧ c.L1 y = c.L1 y ∧ True) ∧ c.n2 = c.n2 ∧ (∀ (y : Nat), y < c.n2 → datas Bool.true [AV.int IntKind.i64 (c.L2 y)] = Bool.true ∧ c.L2 y = c.L2 y ∧ True) ∧ c.n3 = c.n3 ∧ (∀ (y : Nat), y < c.n3 → datas Bool.true [AV.int IntKind.i64 (c.L3 y)] = Bool.true ∧ c.L3 y = c.L3 y ∧ True) ∧ c.n4 = c.n4 ∧ (∀ (y : Nat), y < c.n4 → datas Bool.true [AV.int IntKind.i64 (c.L4 y)] = Bool.true ∧ c.L4 y = c.L4 y ∧ True) ∧ c.n5 = c.n5 ∧ (∀ (y : Nat), y < c.n5 → datas Bool.true [AV.int IntKind.i64 (c.G y), AV.rb Bool.true (c.K y) NL.unk] = Bool.true ∧ c.G y = c.G y ∧ c.K y = c.K y ∧ True) ∧ c.co = c.co ∧ c.mo = c.mo ∧ c.n6 = c.n6 ∧ (∀ (y : Nat), y < c.n6 → datas Bool.true [AV.rb Bool.true (c.T y) NL.unk, AV.int IntKind.i64 (c.A y)] = Bool.true ∧ c.T y = c.T y ∧ c.A y = c.A y ∧ True) ∧ c.n7 = c.n7 ∧ (∀ (y : Nat), y < c.n7 → datas Bool.true [AV.rb Bool.true (c.D y) NL.unk] = Bool.true ∧ c.D y = c.D y ∧ True) ∧ f = dnV 0 (c.eO v L) ∧ True) : Prop) := by kernel_rfl
end Go.Sym

set_option linter.unusedSimpArgs false
namespace Go.Sym
open Go.Proofs Go.Spec
set_option linter.unusedVariables false
theorem by47 (c : Cli) (L v b : By) (k : Int) (hb : hdAt c L (c.eX v (c.nO v L))) (hx : xtAt c L (39 + c.s.length + 2 * c.n1) (L.length - (39 + c.s.length + 2 * c.n1)) k b v (c.nO v L)) : Must (bodyP Tryd.prog (Gy3 c k b v) gl0 [] [(10007, lsY47 c L)] 3000 Tryd.f47 0 [.rb false L .unk] [] (retQ Tryd.prog Tryd.f47 0 (rGy c (c.eO v L)))) := by
  have h := hx.h
  constructor
  rw [vy47]
  have hl := hb.l
  have hv := hb.v1
  have hvec := hv.vec
  have lN : (chN c.L1 c.n1).length = 2 * c.n1 := chN_len ..
  have h8 := h.h1
  have hvb := hv.b
  have e2 : (2 : Int).toNat = 2 := rfl
  intro x1 x2 x4 x3 x5
  have q3 : x3 = chN c.L1 c.n1 := hvec
  have q1 : x1 = 37 + c.s.length + 2 * c.n1 := by
    show 35 + c.s.length + 2 + (vecB L (35 + c.s.length) 2).length = _
    rw [hvec, lN]; omega
  have q5 : x5 = x4 := by
    show x1 + 1 + beN (cutB L x1 1) = 39 + c.s.length + 2 * c.n1
    rw [q1, hb.z0]; omega
  have hxe := hb.b
  have q2 : x2 := by
    refine ⟨rfl, allP_of 32 0 (fun _ _ _ => rfl) ⟨rfl, ?_, fun y hy => ⟨rfl, ?_, trivial⟩, rfl, rfl, rfl, rfl, rfl, rfl, rfl, rfl, allP_of 32 0 (fun _ _ _ => rfl) trivial⟩⟩
    · show c.n1 = (vecB L (35 + c.s.length) 2).length / 2
      rw [hvec, lN]; omega
    · show c.L1 y = dN (vecB L (35 + c.s.length) 2) y
      rw [hvec]
      exact (dN_chN h.i1 hy).symm
  have z0 : beN (cutB L x1 1) = 1 := by rw [q1]; exact hb.z0
  have z1 : cutB L (x1 + 1) 1 = [0#8] := by
    have e : x1 + 1 = 38 + c.s.length + 2 * c.n1 := by omega
    rw [e]; exact hb.z1
  have q4 : x4 = 39 + c.s.length + 2 * c.n1 := rfl
  have he : c.eO v L = dnV 0 (c.eO v L) := by
    rcases c.nO_eO v L with ⟨_, h⟩ | ⟨_, h⟩ <;> rw [h] <;> rfl
  clear_value x1 x2 x3 x5
  subst q3
  rw [z0, z1, lN]
  rw [lN] at hvb
  refine ⟨hl, hb, rfl, rfl, hv, by omega, by omega, by omega, fun _ _ => ⟨rfl, Nat.le_refl _⟩, by omega, hl, by decide, ⟨by omega, by omega, by omega⟩, rfl, rfl, ?_, fun _ _ => ⟨hx, rfl, sameC_of rfl ⟨he, trivial⟩⟩⟩
  exact ⟨(), h, rfl, rfl, rfl, rfl, q5.symm, rfl, q5.symm, by rw [q5], rfl, q2⟩
structure yAt (c : Cli) (L : By) (k : Int) (b v : By) : Prop where
  a : hdAt c L (c.eX v (c.nO v L))
  x : xtAt c L (39 + c.s.length + 2 * c.n1) (L.length - (39 + c.s.length + 2 * c.n1)) k b v (c.nO v L)
noncomputable def gy47 (c : Cli) (k : Int) (b v : By) (xs : List AV) (bs : List ABlk) : TL := match xs, bs with
  | [.rb false L .unk], [] => .ok { rGy c (c.eO v L) with ob := [yAt c L k b v] }
  | _, _ => .no
noncomputable def spy47 (c : Cli) (k : Int) (b v : By) : Spec := ⟨[.by0], fun _ _ => [], fun _ _ => [], gy47 c k b v⟩
theorem cy47 (c : Cli) (k : Int) (b v : By) : COK Tryd.prog gl0 47 (mkF (spy47 c k b v)) := by
  refine ctrE (fn := Tryd.f47) [] 3000 (by kernel_rfl) (by kernel_rfl) (okGy3 c k b v) (by kernel_rfl) (fun args w => by kernel_rfl) fun xs bs r hs ho => ?_
  replace hs : (gy47 c k b v xs bs).sel = some r := hs
  unfold gy47 at hs
  split at hs
  · simp only [TL.sel, Option.some.injEq] at hs
    subst hs
    have h := obsT_one.1 ho
    exact ⟨_, by47 c _ v b k h.a h.x⟩
  · simp [TL.sel] at hs
noncomputable def Gy4 (c : Cli) (k : Int) (b v : By) : Ctx := (Gy2 c k b v).add 47 (mkF (spy47 c k b v))
theorem okGy4 (c : Cli) (k : Int) (b v : By) : COKs Tryd.prog gl0 (Gy4 c k b v) := (okGy2 c k b v).add (cy47 c k b v)
def zCli : AV := .agg (cliC (fun _ => 0) [.nils, .nils, .nils, .nils, .nils, .nils, .nils, .nils, .nils, .nils])
end Go.Sym

set_option linter.unusedSimpArgs false
namespace Go.Spec
open Go.Sym
/-- With an extension more: the count behind p is another one. -/
def exD (a : By) (p n : Int) (x : By) : By := ((a.set p.toNat (BitVec.ofInt 8 ((n + x.length).fdiv 256))).set (p + 1).toNat (BitVec.ofInt 8 (n + x.length))) ++ x
end Go.Spec
namespace Go.Sym
open Go.Proofs Go.Spec
set_option linter.unusedVariables false
set_option maxRecDepth 100000 in
theorem vy18a (c : Cli) (L v b : By) (k : Int) : bodyP Tryd.prog (Gy4 c k b v) gl0 [] [] 3000 Tryd.f18 0 [.rb false L .unk] [] (retQ Tryd.prog Tryd.f18 0 (rGy c 0)) = (yAt c L k b v ∧ @Bool.rec (fun _ => Prop) (sameC c c ((0 : Int) = (0 : Int) ∧ True)) (allP (fun (i : Nat) => c.R i = BitVec.ofNat 8 0) 0 32 (c.s = [] ∧ c.n1 = 0 ∧ c.n2 = 0 ∧ c.n3 = 0 ∧ c.n4 = 0 ∧ c.n5 = 0 ∧ c.co = [] ∧ c.mo = [] ∧ c.n6 = 0 ∧ c.n7 = 0 ∧ (0 : Int) = c.eO v L ∧ True)) (!decide (c.eO v L = (0 : Int)))) := by kernel_rfl
set_option maxRecDepth 100000 in
theorem vy18b (c : Cli) (L v b : By) (k : Int) : bodyP Tryd.prog (Gy4 c k b v) gl0 [] [] 3000 Tryd.f18 0 [.rb false L .unk] [] (retQ Tryd.prog Tryd.f18 0 ⟨[], .tup [zCli, .int .i64 3], [], []⟩) = (yAt c L k b v ∧ @Bool.rec (fun _ => Prop) False (allP (fun (i : Nat) => (0 : BitVec 8) = BitVec.ofNat 8 0) 0 32 ((3 : Int) = c.eO v L ∧ True)) (!decide (c.eO v L = (0 : Int)))) := by kernel_rfl
theorem by18a (c : Cli) (L v b : By) (k : Int) (h : yAt c L k b v) (he : c.eO v L = 0) : Must (bodyP Tryd.prog (Gy4 c k b v) gl0 [] [] 3000 Tryd.f18 0 [.rb false L .unk] [] (retQ Tryd.prog Tryd.f18 0 (rGy c 0))) := by
  constructor
  rw [vy18a]
  refine ⟨h, brec (fun d => ?_) (fun _ => sameC_of rfl ⟨rfl, trivial⟩)⟩
  rw [he] at d
  exact absurd d (by decide)
theorem by18b (c : Cli) (L v b : By) (k : Int) (h : yAt c L k b v) (he : c.eO v L = 3) : Must (bodyP Tryd.prog (Gy4 c k b v) gl0 [] [] 3000 Tryd.f18 0 [.rb false L .unk] [] (retQ Tryd.prog Tryd.f18 0 ⟨[], .tup [zCli, .int .i64 3], [], []⟩)) := by
  constructor
  rw [vy18b]
  refine ⟨h, brec (fun _ => allP_of 32 0 (fun _ _ _ => rfl) ⟨he.symm, trivial⟩) (fun d => ?_)⟩
  rw [he] at d
  exact absurd d (by decide)
noncomputable def gy18 (c : Cli) (k : Int) (b v : By) (xs : List AV) (bs : List ABlk) : TL := match xs, bs with
  | [.rb false L .unk], [] => .br (decide (c.eO v L = 0)) (.ok { rGy c 0 with ob := [yAt c L k b v] }) (.ok ⟨[yAt c L k b v], .tup [zCli, .int .i64 3], [], []⟩)
  | _, _ => .no
noncomputable def spy18 (c : Cli) (k : Int) (b v : By) : Spec := ⟨[.by0], fun _ _ => [], fun _ _ => [], gy18 c k b v⟩
theorem cy18 (c : Cli) (k : Int) (b v : By) : COK Tryd.prog gl0 18 (mkF (spy18 c k b v)) := by
  refine ctrE (fn := Tryd.f18) [] 3000 (by kernel_rfl) (by kernel_rfl) (okGy4 c k b v) (by kernel_rfl) (fun args w => by kernel_rfl) fun xs bs r hs ho => ?_
  replace hs : (gy18 c k b v xs bs).sel = some r := hs
  unfold gy18 at hs
  split at hs
  · rename_i L
    cases hb : decide (c.eO v L = 0) <;> rw [hb] at hs
    · simp only [TL.sel, Option.some.injEq] at hs
      subst hs
      have h0 := of_decide_eq_false hb
      have h3 : c.eO v L = 3 := by rcases c.nO_eO v L with ⟨_, h⟩ | ⟨_, h⟩; exact absurd h h0; exact h
      exact ⟨_, by18b c L v b k (obsT_one.1 ho) h3⟩
    · simp only [TL.sel, Option.some.injEq] at hs
      subst hs
      exact ⟨_, by18a c L v b k (obsT_one.1 ho) (of_decide_eq_true hb)⟩
  · simp [TL.sel] at hs
set_option maxRecDepth 100000 in
theorem ve22 (a x B : By) (p n : Int) (m : Nat) : bodyP Tryd.prog ((Ctx.none []).withSym [28, 29]) gl0 [] [] 3000 Tryd.f22 0 [.rb false a .unk, .int .i64 p, .int .i64 n, .rb false x .unk] [] (retQ Tryd.prog Tryd.f22 0 (rNu m B)) = (
let x1 := ([] ++ a).set p.toNat (BitVec.ofInt (8 : Nat) ((IntKind.i64.wrap (n + (↑(List.length x) : Int))).fdiv (Int.ofNat (256 : Nat))));
(0 : Nat) = (0 : Nat) ∧ roomFor (0 : Nat) (List.length a) (1 : Nat) ∧ (0 : Int) ≤ p ∧ p.toNat < (0 : Nat) + List.length a ∧ p.toNat < ([] ++ a).length ∧ (0 : Int) ≤ IntKind.i64.wrap (p + (1 : Int)) ∧ (IntKind.i64.wrap (p + (1 : Int))).toNat < (0 : Nat) + List.length a ∧ (IntKind.i64.wrap (p + (1 : Int))).toNat < x1.length ∧ (0 : Nat) + List.length a = (x1.set (IntKind.i64.wrap (p + (1 : Int))).toNat (BitVec.ofInt (8 : Nat) (IntKind.i64.wrap (n + (↑(List.length x) : Int))))).length ∧ roomFor ((0 : Nat) + List.length a) (List.length x) (1 : Nat) ∧ (0 : Nat) = (0 : Nat) ∧ (0 : Nat) = (0 : Nat) ∧ (0 : Nat) = (0 : Nat) ∧ m = (0 : Nat) + List.length a + List.length x ∧ B = x1.set (IntKind.i64.wrap (p + (1 : Int))).toNat (BitVec.ofInt (8 : Nat) (IntKind.i64.wrap (n + (↑(List.length x) : Int)))) ++ x ∧ True) := by kernel_rfl
theorem exD_len (a : By) (p n : Int) (x : By) : (exD a p n x).length = a.length + x.length := by
  unfold exD
  rw [List.length_append, List.length_set, List.length_set]
theorem be22 (a x : By) (p n : Int) (hp : 0 ≤ p) (hp2 : p.toNat + 1 < a.length) (ha : a.length < 1099511627776) (hx : x.length < 1099511627776) (hn : 0 ≤ n) (hn2 : n < 1099511627776) : Must (bodyP Tryd.prog ((Ctx.none []).withSym [28, 29]) gl0 [] [] 3000 Tryd.f22 0 [.rb false a .unk, .int .i64 p, .int .i64 n, .rb false x .unk] [] (retQ Tryd.prog Tryd.f22 0 (rNu (exD a p n x).length (exD a p n x)))) := by
  constructor
  rw [ve22]
  have w1 : IntKind.i64.wrap (p + 1) = p + 1 := wrap_i64 (by omega) (by omega)
  have w2 : IntKind.i64.wrap (n + (x.length : Int)) = n + (x.length : Int) := wrap_i64 (by omega) (by omega)
  rw [w1, w2]
  intro x1
  have l1 : x1.length = a.length := by show (([] ++ a).set _ _).length = _; rw [List.length_set]; rfl
  have e0 : ([] ++ a : By).length = a.length := rfl
  refine ⟨rfl, by unfold roomFor; omega, hp, by omega, by omega, by omega, by omega, by omega, by rw [List.length_set, l1]; omega, by unfold roomFor; omega, rfl, rfl, rfl, by rw [exD_len]; omega, rfl, trivial⟩
def ge22 (xs : List AV) (bs : List ABlk) : TL := match xs, bs with
  | [.rb false a .unk, .int .i64 p, .int .i64 n, .rb false x .unk], [] => .ok ⟨[0 ≤ p ∧ p.toNat + 1 < a.length, a.length < 1099511627776 ∧ x.length < 1099511627776, 0 ≤ n ∧ n < 1099511627776], .slice 0 0 1 (exD a p n x).length .ow .unk, [], [⟨.bytes (exD a p n x), true, 1⟩]⟩
  | _, _ => .no
def spe22 : Spec := ⟨[.by0, .kp, .kp, .by0], fun _ _ => [], fun _ _ => [], ge22⟩
theorem ce22 : COK Tryd.prog gl0 22 (mkF spe22) := by
  refine ctrE (fn := Tryd.f22) [] 3000 (by kernel_rfl) (by kernel_rfl) ((COKs.none (keep := [])).withSym [28, 29]) (by kernel_rfl) (fun args w => by kernel_rfl) fun xs bs r hs ho => ?_
  replace hs : (ge22 xs bs).sel = some r := hs
  unfold ge22 at hs
  split at hs
  · simp only [TL.sel, Option.some.injEq] at hs
    subst hs
    obtain ⟨h1, h2, h3⟩ := obs3 ho
    exact ⟨_, be22 _ _ _ _ h1.1 h1.2 h2.1 h2.2 h3.1 h3.2⟩
  · simp [TL.sel] at hs
noncomputable def Gz (c : Cli) (k : Int) (b v : By) : Ctx := ((((((Ctx.none []).add 16 (mkF spd16)).add 17 (mkF spGr)).add 18 (mkF (spy18 c k b v))).add 20 (mkF sps20)).add 21 (mkF spf21)).add 22 (mkF spe22)
theorem okGz (c : Cli) (k : Int) (b v : By) : COKs Tryd.prog gl0 (Gz c k b v) := ((((((COKs.none (keep := [])).add cd16).add ch17).add (cy18 c k b v)).add cs20).add cf21).add ce22
/-- The same without tickets. -/
def c0 (c : Cli) : Cli := { c with n6 := 0, n7 := 0 }
def lsZ6 (c : Cli) (u : Clt) (kd : Int) (b : By) : LS := ⟨Unit, fun _ => [(1, .int .i64 kd), (2, .rb true b .unk), (3, .ptr 100 0 0 0), (6, .bool false)],
  fun _ => [(100, ⟨.cells (cliC c.R [.rb true c.s .unk, inR true c.n1 c.L1 .unk, inR true c.n2 c.L2 .unk, inR true c.n3 c.L3 .unk, inR true c.n4 c.L4 .unk, shR true c.n5 c.G c.K u.C .unk, .rb true c.co .unk, .rb true c.mo .unk, idR true 0 c.T c.A u.F .unk, biR true 0 c.D u.E .unk]), true, 0⟩)], 1000, fun _ => 0, fun _ => True, fun _ => []⟩
end Go.Sym

set_option linter.unusedSimpArgs false
namespace Go.Spec
open Go.Sym
def Cli.pX (c : Cli) : Int := 39 + (c.s.length : Int) + 2 * (c.n1 : Int)
def Cli.nX (c : Cli) : Int := (c.ex.length : Int)
def Cli.yX (c : Cli) (v : By) (N : Nat) : By := pvB c.hd (c.eX v N) 2
end Go.Spec
namespace Go.Sym
open Go.Proofs Go.Spec
set_option linter.unusedVariables false
def zB (c : Cli) (u : Clt) : ABlk := ⟨.cells (cliC c.R [.rb true c.s .unk, inR true c.n1 c.L1 .unk, inR true c.n2 c.L2 .unk, inR true c.n3 c.L3 .unk, inR true c.n4 c.L4 .unk, shR true c.n5 c.G c.K u.C .unk, .rb true c.co .unk, .rb true c.mo .unk, idR true 0 c.T c.A u.F .unk, biR true 0 c.D u.E .unk]), true, 0⟩
def lsZ9 (c : Cli) (u : Clt) (v : By) : LS := ⟨Unit, fun _ => [(3, .ptr 100 0 0 0), (6, .bool false), (7, .slice 101 0 1 (c0 c).by.length .ow .unk), (10, .slice 102 0 1 v.length .ow .unk), (11, .int .i64 (c0 c).pX)],
  fun _ => [(100, zB c u), (101, ⟨.bytes (c0 c).by, true, 1⟩), (102, ⟨.bytes v, true, 1⟩)], 1000, fun _ => 0, fun _ => (c0 c).ok, fun _ => []⟩
def lsZ10 (c : Cli) (u : Clt) (v : By) : LS := ⟨Unit, fun _ => [(3, .ptr 100 0 0 0), (6, .bool false), (7, .slice 101 0 1 (c0 c).by.length .ow .unk), (10, .slice 102 0 1 v.length .ow .unk), (11, .int .i64 (c0 c).pX), (12, .int .i64 (c0 c).nX)],
  fun _ => [(100, zB c u), (101, ⟨.bytes (c0 c).by, true, 1⟩), (102, ⟨.bytes v, true, 1⟩)], 1000, fun _ => 0, fun _ => (c0 c).ok, fun _ => []⟩
def lsZ12 (c : Cli) (u : Clt) (v : By) : LS := ⟨Unit, fun _ => [(3, .ptr 100 0 0 0), (6, .bool false), (13, .slice 103 0 1 ((c0 c).yX v 1).length .ow .unk), (14, .slice 104 0 1 ((c0 c).yX v 2).length .ow .unk)],
  fun _ => [(100, zB c u), (103, ⟨.bytes ((c0 c).yX v 1), true, 1⟩), (104, ⟨.bytes ((c0 c).yX v 2), true, 1⟩)], 1000, fun _ => 0, fun _ => (c0 c).ok, fun _ => []⟩
def lsZ (c : Cli) (u : Clt) (kd : Int) (v x : By) : List (Nat × LS) := [(20002, lsZ6 c u kd x), (20009, lsZ9 c u v), (20010, lsZ10 c u v), (20012, lsZ12 c u v)]
end Go.Sym

namespace Go.Sym
open Go.Proofs Go.Spec
set_option linter.unusedVariables false
set_option maxRecDepth 100000 in
theorem vl6 (c : Cli) (u : Clt) (kd k : Int) (b v x : By) (nl : NL) : bodyP Tryd.prog ((Gz (c0 c) k b v).withSym [67, 68, 74, 75]) gl0 [] (lsZ c u kd v x) 3000 Tryd.f6 0 [cliT c u, .int .i64 kd, .rb true x nl] [] (retQ Tryd.prog Tryd.f6 0 ⟨[], .bool true, [], []⟩) = (
let x1 : Cli := { R := fn8 ((fun (x : List (BitVec 8)) => (c0 c).R 0 :: x) ((fun (x : List (BitVec 8)) => (c0 c).R 1 :: x) ((fun (x : List (BitVec 8)) => (c0 c).R 2 :: x) ((fun (x : List (BitVec 8)) => (c0 c).R 3 :: x) ((fun (x : List (BitVec 8)) => (c0 c).R 4 :: x) ((fun (x : List (BitVec 8)) => (c0 c).R 5 :: x) ((fun (x : List (BitVec 8)) => (c0 c).R 6 :: x) ((fun (x : List (BitVec 8)) => (c0 c).R 7 :: x) ((fun (x : List (BitVec 8)) => (c0 c).R 8 :: x) ((fun (x : List (BitVec 8)) => (c0 c).R 9 :: x) ((fun (x : List (BitVec 8)) => (c0 c).R 10 :: x) ((fun (x : List (BitVec 8)) => (c0 c).R 11 :: x) ((fun (x : List (BitVec 8)) => (c0 c).R 12 :: x) ((fun (x : List (BitVec 8)) => (c0 c).R 13 :: x) ((fun (x : List (BitVec 8)) => (c0 c).R 14 :: x) ((fun (x : List (BitVec 8)) => (c0 c).R 15 :: x) ((fun (x : List (BitVec 8)) => (c0 c).R 16 :: x) ((fun (x : List (BitVec 8)) => (c0 c).R 17 :: x) ((fun (x : List (BitVec 8)) => (c0 c).R 18 :: x) ((fun (x : List (BitVec 8)) => (c0 c).R 19 :: x) ((fun (x : List (BitVec 8)) => (c0 c).R 20 :: x) ((fun (x : List (BitVec 8)) => (c0 c).R 21 :: x) ((fun (x : List (BitVec 8)) => (c0 c).R 22 :: x) ((fun (x : List (BitVec 8)) => (c0 c).R 23 :: x) ((fun (x : List (BitVec 8)) => (c0 c).R 24 :: x) ((fun (x : List (BitVec 8)) => (c0 c).R 25 :: x) ((fun (x : List (BitVec 8)) => (c0 c).R 26 :: x) ((fun (x : List (BitVec 8)) => (c0 c).R 27 :: x) ((fun (x : List (BitVec 8)) => (c0 c).R 28 :: x) ((fun (x : List (BitVec 8)) => (c0 c).R 29 :: x) ((fun (x : List (BitVec 8)) => (c0 c).R 30 :: x) ((fun (x : List (BitVec 8)) => (c0 c).R 31 :: x) [])))))))))))))))))))))))))))))))), s := (c0 c).s, n1 := (c0 c).n1, L1 := rowI fun (j : Nat) => [AV.int IntKind.i64 ((c0 c).L1 j)], n2 := (c0 c).n2, L2 := rowI fun (j : Nat) => [AV.int IntKind.i64 ((c0 c).L2 j)], n3 := (c0 c).n3, L3 := rowI fun (j : Nat) => [AV.int IntKind.i64 ((c0 c).L3 j)], n4 := (c0 c).n4, L4 := rowI fun (j : Nat) => [AV.int IntKind.i64 ((c0 c).L4 j)], n5 := (c0 c).n5, G := rowG fun (j : Nat) => [AV.int IntKind.i64 ((c0 c).G j), AV.rb Bool.true ((c0 c).K j) NL.unk], K := rowK fun (j : Nat) => [AV.int IntKind.i64 ((c0 c).G j), AV.rb Bool.true ((c0 c).K j) NL.unk], co := (c0 c).co, mo := (c0 c).mo, n6 := (c0 c).n6, T := rowT fun (j : Nat) => [AV.rb Bool.true ((c0 c).T j) NL.unk, AV.int IntKind.i64 ((c0 c).A j)], A := rowA fun (j : Nat) => [AV.rb Bool.true ((c0 c).T j) NL.unk, AV.int IntKind.i64 ((c0 c).A j)], n7 := (c0 c).n7, D := rowD fun (j : Nat) => [AV.rb Bool.true ((c0 c).D j) NL.unk] }; let x2 : Cli := { R := c.R, s := c.s, n1 := c.n1, L1 := c.L1, n2 := c.n2, L2 := c.L2, n3 := c.n3, L3 := c.L3, n4 := c.n4, L4 := c.L4, n5 := c.n5, G := c.G, K := c.K, co := c.co, mo := c.mo, n6 := 0, T := c.T, A := c.A, n7 := 0, D := c.D }; let x3 : Cli := { R := fn8 ((fun (x : List (BitVec 8)) => c.R 0 :: x) ((fun (x : List (BitVec 8)) => c.R 1 :: x) ((fun (x : List (BitVec 8)) => c.R 2 :: x) ((fun (x : List (BitVec 8)) => c.R 3 :: x) ((fun (x : List (BitVec 8)) => c.R 4 :: x) ((fun (x : List (BitVec 8)) => c.R 5 :: x) ((fun (x : List (BitVec 8)) => c.R 6 :: x) ((fun (x : List (BitVec 8)) => c.R 7 :: x) ((fun (x : List (BitVec 8)) => c.R 8 :: x) ((fun (x : List (BitVec 8)) => c.R 9 :: x) ((fun (x : List (BitVec 8)) => c.R 10 :: x) ((fun (x : List (BitVec 8)) => c.R 11 :: x) ((fun (x : List (BitVec 8)) => c.R 12 :: x) ((fun (x : List (BitVec 8)) => c.R 13 :: x) ((fun (x : List (BitVec 8)) => c.R 14 :: x) ((fun (x : List (BitVec 8)) => c.R 15 :: x) ((fun (x : List (BitVec 8)) => c.R 16 :: x) ((fun (x : List (BitVec 8)) => c.R 17 :: x) ((fun (x : List (BitVec 8)) => c.R 18 :: x) ((fun (x : List (BitVec 8)) => c.R 19 :: x) ((fun (x : List (BitVec 8)) => c.R 20 :: x) ((fun (x : List (BitVec 8)) => c.R 21 :: x) ((fun (x : List (BitVec 8)) => c.R 22 :: x) ((fun (x : List (BitVec 8)) => c.R 23 :: x) ((fun (x : List (BitVec 8)) => c.R 24 :: x) ((fun (x : List (BitVec 8)) => c.R 25 :: x) ((fun (x : List (BitVec 8)) => c.R 26 :: x) ((fun (x : List (BitVec 8)) => c.R 27 :: x) ((fun (x : List (BitVec 8)) => c.R 28 :: x) ((fun (x : List (BitVec 8)) => c.R 29 :: x) ((fun (x : List (BitVec 8)) => c.R 30 :: x) ((fun (x : List (BitVec 8)) => c.R 31 :: x) [])))))))))))))))))))))))))))))))), s := c.s, n1 := c.n1, L1 := rowI fun (j : Nat) => [AV.int IntKind.i64 (c.L1 j)], n2 := c.n2, L2 := rowI fun (j : Nat) => [AV.int IntKind.i64 (c.L2 j)], n3 := c.n3, L3 := rowI fun (j : Nat) => [AV.int IntKind.i64 (c.L3 j)], n4 := c.n4, L4 := rowI fun (j : Nat) => [AV.int IntKind.i64 (c.L4 j)], n5 := c.n5, G := rowG fun (j : Nat) => [AV.int IntKind.i64 (c.G j), AV.rb Bool.true (c.K j) (NL.is (u.C j))], K := rowK fun (j : Nat) => [AV.int IntKind.i64 (c.G j), AV.rb Bool.true (c.K j) (NL.is (u.C j))], co := c.co, mo := c.mo, n6 := 0, T := rowT fun (j : Nat) => [AV.rb Bool.true (c.T j) (NL.is (u.F j)), AV.int IntKind.i64 (c.A j)], A := rowA fun (j : Nat) => [AV.rb Bool.true (c.T j) (NL.is (u.F j)), AV.int IntKind.i64 (c.A j)], n7 := 0, D := rowD fun (j : Nat) => [AV.rb Bool.true (c.D j) (NL.is (u.E j))] }; let x4 := ((fun (j : Nat) => [AV.int IntKind.i64 (c.L1 j)]) = fun (j : Nat) => [AV.int IntKind.i64 (c.L1 j)]) ∧ ((fun (j : Nat) => [AV.int IntKind.i64 (c.L2 j)]) = fun (j : Nat) => [AV.int IntKind.i64 (c.L2 j)]) ∧ ((fun (j : Nat) => [AV.int IntKind.i64 (c.L3 j)]) = fun (j : Nat) => [AV.int IntKind.i64 (c.L3 j)]) ∧ ((fun (j : Nat) => [AV.int IntKind.i64 (c.L4 j)]) = fun (j : Nat) => [AV.int IntKind.i64 (c.L4 j)]) ∧ ((fun (j : Nat) => [AV.int IntKind.i64 (c.G j), AV.rb Bool.true (c.K j) NL.unk]) = fun (j : Nat) => [AV.int IntKind.i64 (c.G j), AV.rb Bool.true (c.K j) NL.unk]) ∧ ((fun (j : Nat) => [AV.rb Bool.true (c.T j) NL.unk, AV.int IntKind.i64 (c.A j)]) = fun (j : Nat) => [AV.rb Bool.true (c.T j) NL.unk, AV.int IntKind.i64 (c.A j)]) ∧ ((fun (j : Nat) => [AV.rb Bool.true (c.D j) NL.unk]) = fun (j : Nat) => [AV.rb Bool.true (c.D j) NL.unk]) ∧ True; let x5 : Cli := { R := fun (i : Nat) => (rg 32 c.R).getD i (0 : BitVec 8), s := c.s, n1 := c.n1, L1 := fun (j : Nat) => c.L1 j, n2 := c.n2, L2 := fun (j : Nat) => c.L2 j, n3 := c.n3, L3 := fun (j : Nat) => c.L3 j, n4 := c.n4, L4 := fun (j : Nat) => c.L4 j, n5 := c.n5, G := fun (j : Nat) => c.G j, K := fun (j : Nat) => c.K j, co := c.co, mo := c.mo, n6 := 0, T := fun (j : Nat) => c.T j, A := fun (j : Nat) => c.A j, n7 := 0, D := fun (j : Nat) => c.D j }; let x6 := sm20 { R := fn8 ((fun (x : List (BitVec 8)) => x1.R 0 :: x) ((fun (x : List (BitVec 8)) => x1.R 1 :: x) ((fun (x : List (BitVec 8)) => x1.R 2 :: x) ((fun (x : List (BitVec 8)) => x1.R 3 :: x) ((fun (x : List (BitVec 8)) => x1.R 4 :: x) ((fun (x : List (BitVec 8)) => x1.R 5 :: x) ((fun (x : List (BitVec 8)) => x1.R 6 :: x) ((fun (x : List (BitVec 8)) => x1.R 7 :: x) ((fun (x : List (BitVec 8)) => x1.R 8 :: x) ((fun (x : List (BitVec 8)) => x1.R 9 :: x) ((fun (x : List (BitVec 8)) => x1.R 10 :: x) ((fun (x : List (BitVec 8)) => x1.R 11 :: x) ((fun (x : List (BitVec 8)) => x1.R 12 :: x) ((fun (x : List (BitVec 8)) => x1.R 13 :: x) ((fun (x : List (BitVec 8)) => x1.R 14 :: x) ((fun (x : List (BitVec 8)) => x1.R 15 :: x) ((fun (x : List (BitVec 8)) => x1.R 16 :: x) ((fun (x : List (BitVec 8)) => x1.R 17 :: x) ((fun (x : List (BitVec 8)) => x1.R 18 :: x) ((fun (x : List (BitVec 8)) => x1.R 19 :: x) ((fun (x : List (BitVec 8)) => x1.R 20 :: x) ((fun (x : List (BitVec 8)) => x1.R 21 :: x) ((fun (x : List (BitVec 8)) => x1.R 22 :: x) ((fun (x : List (BitVec 8)) => x1.R 23 :: x) ((fun (x : List (BitVec 8)) => x1.R 24 :: x) ((fun (x : List (BitVec 8)) => x1.R 25 :: x) ((fun (x : List (BitVec 8)) => x1.R 26 :: x) ((fun (x : List (BitVec 8)) => x1.R 27 :: x) ((fun (x : List (BitVec 8)) => x1.R 28 :: x) ((fun (x : List (BitVec 8)) => x1.R 29 :: x) ((fun (x : List (BitVec 8)) => x1.R 30 :: x) ((fun (x : List (BitVec 8)) => x1.R 31 :: x) [])))))))))))))))))))))))))))))))), s := x1.s, n1 := x1.n1, L1 := rowI fun (j : Nat) => [AV.int IntKind.i64 (x1.L1 j)], n2 := x1.n2, L2 := rowI fun (j : Nat) => [AV.int IntKind.i64 (x1.L2 j)], n3 := x1.n3, L3 := rowI fun (j : Nat) => [AV.int IntKind.i64 (x1.L3 j)], n4 := x1.n4, L4 := rowI fun (j : Nat) => [AV.int IntKind.i64 (x1.L4 j)], n5 := x1.n5, G := rowG fun (y : Nat) => (fun (y : Nat) => renL (rn [] (2279 + 1)) ((fun (k : Nat) => [AV.int IntKind.i64 (x1.G k), AV.rb Bool.true (x1.K k) NL.unk]) y)) (plus 0 y), K := rowK fun (y : Nat) => (fun (y : Nat) => renL (rn [] (2279 + 1)) ((fun (k : Nat) => [AV.int IntKind.i64 (x1.G k), AV.rb Bool.true (x1.K k) NL.unk]) y)) (plus 0 y), co := x1.co, mo := x1.mo, n6 := x1.n6, T := rowT fun (y : Nat) => (fun (y : Nat) => renL (rn [] (2279 + 1)) ((fun (k : Nat) => [AV.rb Bool.true (x1.T k) NL.unk, AV.int IntKind.i64 (x1.A k)]) y)) (plus 0 y), A := rowA fun (y : Nat) => (fun (y : Nat) => renL (rn [] (2279 + 1)) ((fun (k : Nat) => [AV.rb Bool.true (x1.T k) NL.unk, AV.int IntKind.i64 (x1.A k)]) y)) (plus 0 y), n7 := x1.n7, D := rowD fun (j : Nat) => [AV.rb Bool.true (x1.D j) NL.unk] } x3; let x7 := ∀ (y : Nat), y < c.n5 → datas Bool.true [AV.int IntKind.i64 (c.G y), AV.rb Bool.true (c.K y) (NL.is (u.1.6 y))] = Bool.true ∧ c.G y = c.G y ∧ u.1.6 y = u.1.6 y ∧ c.K y = c.K y ∧ True; let x8 := ∀ (y : Nat), y < 0 → datas Bool.true [AV.rb Bool.true (c.T y) (NL.is (u.1.8 y)), AV.int IntKind.i64 (c.A y)] = Bool.true ∧ u.1.8 y = u.1.8 y ∧ c.T y = c.T y ∧ c.A y = c.A y ∧ True; let x9 := fun (j : Nat) => [AV.rb Bool.true (c.T j) (NL.is (u.1.8 j)), AV.int IntKind.i64 (c.A j)]; let x10 := fun (j : Nat) => [AV.int IntKind.i64 (c.G j), AV.rb Bool.true (c.K j) (NL.is (u.1.6 j))]; let x11 := yAt (c0 c) ([List.length ((c0 c).yX v 2) = List.length ((c0 c).yX v 2)], (c0 c).yX v 2).snd k b v; let x12 := fun (j : Nat) => [AV.int IntKind.i64 (c.L1 j)]; let x13 := fun (j : Nat) => [AV.int IntKind.i64 (c.L2 j)]; let x14 := fun (j : Nat) => [AV.int IntKind.i64 (c.L3 j)]; let x15 := fun (j : Nat) => [AV.int IntKind.i64 (c.L4 j)]; let x16 := ∀ (y : Nat), y < c.n4 → datas Bool.true [AV.int IntKind.i64 (c.L4 y)] = Bool.true ∧ c.L4 y = c.L4 y ∧ True; let x17 := ∀ (y : Nat), y < c.n3 → datas Bool.true [AV.int IntKind.i64 (c.L3 y)] = Bool.true ∧ c.L3 y = c.L3 y ∧ True; let x18 := ∀ (y : Nat), y < c.n2 → datas Bool.true [AV.int IntKind.i64 (c.L2 y)] = Bool.true ∧ c.L2 y = c.L2 y ∧ True; let x19 := ∀ (y : Nat), y < c.n1 → datas Bool.true [AV.int IntKind.i64 (c.L1 y)] = Bool.true ∧ c.L1 y = c.L1 y ∧ True; let x20 := [BitVec.ofInt 8 ((IntKind.i64.wrap ((100 : Int) + IntKind.i64.wrap (↑(BitVec.ofInt 64 kd % BitVec.ofNat 64 60000).toNat : Int))).fdiv (Int.ofNat 256)), BitVec.ofInt 8 (IntKind.i64.wrap ((100 : Int) + IntKind.i64.wrap (↑(BitVec.ofInt 64 kd % BitVec.ofNat 64 60000).toNat : Int))), BitVec.ofNat 8 0, BitVec.ofInt 8 (↑(List.take (Min.min (↑(List.length x) : Int) (40 : Int)).toNat x).length : Int)]; let x21 := ∀ (y : Nat), y < 0 → datas Bool.true [AV.rb Bool.true (c.D y) (NL.is (u.1.10 y))] = Bool.true ∧ u.1.10 y = u.1.10 y ∧ c.D y = c.D y ∧ True; let x22 := fun (j : Nat) => [AV.rb Bool.true (c.D j) (NL.is (u.1.10 j))]; let x23 := exD x2.by x2.pX x2.nX v; let x24 := fun (j : Nat) => [AV.rb Bool.true (c.T j) NL.unk, AV.int IntKind.i64 (c.A j)]; let x25 := fun (j : Nat) => [AV.int IntKind.i64 (c.G j), AV.rb Bool.true (c.K j) NL.unk]; let x26 := ∀ (y : Nat), y < 0 → datas Bool.false [AV.rb Bool.true (c.T y) NL.unk, AV.int IntKind.i64 (c.A y)] = Bool.true ∧ [AV.rb Bool.true (c.T y) NL.unk, AV.int IntKind.i64 (c.A y)].length ≤ 2; let x27 := ∀ (y : Nat), y < c.n5 → datas Bool.false [AV.int IntKind.i64 (c.G y), AV.rb Bool.true (c.K y) NL.unk] = Bool.true ∧ [AV.int IntKind.i64 (c.G y), AV.rb Bool.true (c.K y) NL.unk].length ≤ 2; (∃ (y : Unit), True ∧ kd = kd ∧ x = x ∧ 0 = 0 ∧ Bool.false = Bool.false ∧ allP (fun (i : Nat) => c.R i = c.R i) 0 32 (c.s = c.s ∧ c.n1 = c.n1 ∧ x19 ∧ c.n2 = c.n2 ∧ x18 ∧ c.n3 = c.n3 ∧ x17 ∧ c.n4 = c.n4 ∧ x16 ∧ c.n5 = c.n5 ∧ x7 ∧ c.co = c.co ∧ c.mo = c.mo ∧ 0 = 0 ∧ 0 = 0 ∧ True)) ∧ ∀ (x_1 : Unit), True → x3.sz ∧ x12 = x12 ∧ x13 = x13 ∧ x14 = x14 ∧ x15 = x15 ∧ x10 = x10 ∧ x9 = x9 ∧ x22 = x22 ∧ @Bool.rec (fun _ => Prop) ((0 : Int) ≤ Min.min (↑(List.length x) : Int) (40 : Int) ∧ (Min.min (↑(List.length x) : Int) (40 : Int)).toNat ≤ List.length x ∧ 4 = x20.length ∧ roomFor 4 (List.take (Min.min (↑(List.length x) : Int) (40 : Int)).toNat x).length 1 ∧ (∃ (y : Unit), (c0 c).ok ∧ 0 = 0 ∧ Bool.false = Bool.false ∧ 0 = 0 ∧ 0 = 0 ∧ 0 = 0 ∧ List.length x2.by = List.length x5.pB ∧ 0 = 0 ∧ 0 = 0 ∧ 0 = 0 ∧ List.length v = 4 + (List.take (Min.min (↑(List.length x) : Int) (40 : Int)).toNat x).length ∧ x2.pX = IntKind.i64.wrap (IntKind.i64.wrap (IntKind.i64.wrap (IntKind.i64.wrap ((35 : Int) + (↑(List.length c.s) : Int)) + (2 : Int)) + IntKind.i64.wrap ((2 : Int) * (↑c.n1 : Int))) + (2 : Int)) ∧ allP (fun (i : Nat) => c.R i = c.R i) 0 32 (c.s = c.s ∧ c.n1 = c.n1 ∧ x19 ∧ c.n2 = c.n2 ∧ x18 ∧ c.n3 = c.n3 ∧ x17 ∧ c.n4 = c.n4 ∧ x16 ∧ c.n5 = c.n5 ∧ x7 ∧ c.co = c.co ∧ c.mo = c.mo ∧ 0 = 0 ∧ x8 ∧ 0 = 0 ∧ x21 ∧ x2.by = x5.pB ∧ v = x20 ++ List.take (Min.min (↑(List.length x) : Int) (40 : Int)).toNat x ∧ True)) ∧ ∀ (x : Unit), (c0 c).ok → ((0 : Int) ≤ x2.pX ∧ x2.pX.toNat < List.length x2.by ∧ x2.pX.toNat < List.length x2.by ∧ (0 : Int) ≤ IntKind.i64.wrap (x2.pX + (1 : Int)) ∧ (IntKind.i64.wrap (x2.pX + (1 : Int))).toNat < List.length x2.by ∧ (IntKind.i64.wrap (x2.pX + (1 : Int))).toNat < List.length x2.by ∧ ∃ (y : Unit), (c0 c).ok ∧ 0 = 0 ∧ Bool.false = Bool.false ∧ 0 = 0 ∧ 0 = 0 ∧ 0 = 0 ∧ List.length x2.by = List.length x2.by ∧ 0 = 0 ∧ 0 = 0 ∧ 0 = 0 ∧ List.length v = List.length v ∧ x2.pX = x2.pX ∧ x2.nX = IntKind.i64.wrap (IntKind.i64.wrap ((↑(List.getD x2.by x2.pX.toNat (0 : BitVec 8)).toNat : Int) * (256 : Int)) + (↑(List.getD x2.by (IntKind.i64.wrap (x2.pX + (1 : Int))).toNat (0 : BitVec 8)).toNat : Int)) ∧ allP (fun (i : Nat) => c.R i = c.R i) 0 32 (c.s = c.s ∧ c.n1 = c.n1 ∧ x19 ∧ c.n2 = c.n2 ∧ x18 ∧ c.n3 = c.n3 ∧ x17 ∧ c.n4 = c.n4 ∧ x16 ∧ c.n5 = c.n5 ∧ x7 ∧ c.co = c.co ∧ c.mo = c.mo ∧ 0 = 0 ∧ x8 ∧ 0 = 0 ∧ x21 ∧ x2.by = x2.by ∧ v = v ∧ True)) ∧ ∀ (x : Unit), (c0 c).ok → List.length x2.by = List.length x2.by ∧ List.length v = List.length v ∧ ((0 : Int) ≤ x2.pX ∧ x2.pX.toNat + 1 < List.length x2.by) ∧ (List.length x2.by < 1099511627776 ∧ List.length v < 1099511627776) ∧ ((0 : Int) ≤ x2.nX ∧ x2.nX < (1099511627776 : Int)) ∧ (List.length x23 = List.length x23 ∧ List.length v = List.length v ∧ ((0 : Int) ≤ x2.pX ∧ x2.pX.toNat + 1 < List.length x23) ∧ (List.length x23 < 1099511627776 ∧ List.length v < 1099511627776) ∧ ((0 : Int) ≤ IntKind.i64.wrap (x2.nX + (↑(List.length v) : Int)) ∧ IntKind.i64.wrap (x2.nX + (↑(List.length v) : Int)) < (1099511627776 : Int)) ∧ ∃ (y : Unit), (c0 c).ok ∧ 0 = 0 ∧ Bool.false = Bool.false ∧ 0 = 0 ∧ 0 = 0 ∧ 0 = 0 ∧ List.length (x2.yX v 1) = List.length x23 ∧ 0 = 0 ∧ 0 = 0 ∧ 0 = 0 ∧ List.length (x2.yX v 2) = List.length (exD x23 x2.pX (IntKind.i64.wrap (x2.nX + (↑(List.length v) : Int))) v) ∧ allP (fun (i : Nat) => c.R i = c.R i) 0 32 (c.s = c.s ∧ c.n1 = c.n1 ∧ x19 ∧ c.n2 = c.n2 ∧ x18 ∧ c.n3 = c.n3 ∧ x17 ∧ c.n4 = c.n4 ∧ x16 ∧ c.n5 = c.n5 ∧ x7 ∧ c.co = c.co ∧ c.mo = c.mo ∧ 0 = 0 ∧ x8 ∧ 0 = 0 ∧ x21 ∧ x2.yX v 1 = x23 ∧ x2.yX v 2 = exD x23 x2.pX (IntKind.i64.wrap (x2.nX + (↑(List.length v) : Int))) v ∧ True)) ∧ ∀ (x : Unit), (c0 c).ok → @Bool.rec (fun _ => Prop) (List.length (x2.yX v 1) = List.length (x2.yX v 1) ∧ yAt (c0 c) ([List.length ((c0 c).yX v 1) = List.length ((c0 c).yX v 1)], (c0 c).yX v 1).snd k b v ∧ @Bool.rec (fun _ => Prop) (List.length (x2.yX v 2) = List.length (x2.yX v 2) ∧ x11 ∧ Bool.true = Bool.false ∧ True) (List.length (x2.yX v 2) = List.length (x2.yX v 2) ∧ x11 ∧ Bool.true = Bool.false ∧ True) (decide (x2.eO v (x2.yX v 2) = (0 : Int)))) (List.length (x2.yX v 1) = List.length (x2.yX v 1) ∧ yAt (c0 c) ([List.length ((c0 c).yX v 1) = List.length ((c0 c).yX v 1)], (c0 c).yX v 1).snd k b v ∧ @Bool.rec (fun _ => Prop) (List.length (x2.yX v 2) = List.length (x2.yX v 2) ∧ x11 ∧ c.n5 < 1099511627 ∧ 0 < 1099511627 ∧ x12 = x12 ∧ x13 = x13 ∧ x14 = x14 ∧ x15 = x15 ∧ x25 = x25 ∧ x24 = x24 ∧ ((fun (j : Nat) => [AV.rb Bool.true (c.D j) NL.unk]) = fun (j : Nat) => [AV.rb Bool.true (c.D j) NL.unk]) ∧ 0 + c.n5 ≤ c.n5 ∧ x27 ∧ 0 + 0 ≤ 0 ∧ x26 ∧ x6 ∧ x4 ∧ x12 = x12 ∧ x13 = x13 ∧ x14 = x14 ∧ x15 = x15 ∧ x10 = x10 ∧ x9 = x9 ∧ x22 = x22 ∧ Bool.true = Bool.true ∧ True) (List.length (x2.yX v 2) = List.length (x2.yX v 2) ∧ x11 ∧ c.n5 < 1099511627 ∧ 0 < 1099511627 ∧ x12 = x12 ∧ x13 = x13 ∧ x14 = x14 ∧ x15 = x15 ∧ x25 = x25 ∧ x24 = x24 ∧ ((fun (j : Nat) => [AV.rb Bool.true (c.D j) NL.unk]) = fun (j : Nat) => [AV.rb Bool.true (c.D j) NL.unk]) ∧ 0 + c.n5 ≤ c.n5 ∧ x27 ∧ 0 + 0 ≤ 0 ∧ x26 ∧ x6 ∧ x4 ∧ x12 = x12 ∧ x13 = x13 ∧ x14 = x14 ∧ x15 = x15 ∧ x10 = x10 ∧ x9 = x9 ∧ x22 = x22 ∧ Bool.true = Bool.false ∧ True) (decide (x2.eO v (x2.yX v 2) = (0 : Int)))) (decide (x2.eO v (x2.yX v 1) = (0 : Int)))) (Bool.true = Bool.true ∧ True) !x5.okB : Prop) := by kernel_rfl
end Go.Sym

set_option linter.unusedSimpArgs false
namespace Go.Spec
open Go.Sym
theorem puL2 (n : Nat) : puL n 2 = [BitVec.ofNat 8 (n / 256), BitVec.ofNat 8 n] := by
  show [BitVec.ofNat 8 (n / 256 ^ 1), BitVec.ofNat 8 (n / 256 ^ 0)] = _
  rw [Nat.pow_one, Nat.pow_zero, Nat.div_one]
theorem set_at {A E : By} {h l h' l' : BitVec 8} : ((A ++ (h :: l :: E)).set A.length h').set (A.length + 1) l' = A ++ (h' :: l' :: E) := by
  rw [List.set_append_right _ _ (Nat.le_refl _), Nat.sub_self, List.set_cons_zero, List.set_append_right _ _ (by omega), show A.length + 1 - A.length = 1 by omega]
  rfl
theorem exD_at {A E x : By} {n : Nat} {p m : Int} (hp : p = (A.length : Int)) (hm : m = (n : Int)) : exD (A ++ (puL n 2 ++ E)) p m x = A ++ (puL (n + x.length) 2 ++ (E ++ x)) := by
  subst hp hm
  have e : [BitVec.ofInt 8 (((n : Int) + x.length).fdiv 256), BitVec.ofInt 8 ((n : Int) + x.length)] = puL (n + x.length) 2 := by
    have := u2_puL (n := ((n + x.length : Nat) : Int)) (by omega)
    rw [Int.toNat_natCast] at this
    rw [← this]
    unfold u2
    rw [Int.natCast_add]
    rfl
  rw [puL2 (n + x.length), List.cons.injEq, List.cons.injEq] at e
  unfold exD
  rw [Int.toNat_natCast, show ((A.length : Int) + 1).toNat = A.length + 1 by omega, puL2 n, puL2 (n + x.length), e.1, e.2.1]
  show ((A ++ (_ :: _ :: E)).set A.length _).set (A.length + 1) _ ++ x = A ++ (_ :: _ :: (E ++ x))
  rw [set_at, List.append_assoc]
  rfl
theorem getD_at {A E : By} {n : Nat} (h : n < 65536) : ((List.getD (A ++ (puL n 2 ++ E)) A.length (0 : BitVec 8)).toNat : Int) * 256 + ((List.getD (A ++ (puL n 2 ++ E)) (A.length + 1) (0 : BitVec 8)).toNat : Int) = n := by
  have e1 : List.getD (A ++ (puL n 2 ++ E)) A.length (0 : BitVec 8) = BitVec.ofNat 8 (n / 256) := by
    rw [puL2]; simp [List.getD]
  have e2 : List.getD (A ++ (puL n 2 ++ E)) (A.length + 1) (0 : BitVec 8) = BitVec.ofNat 8 n := by
    rw [puL2]; simp [List.getD]
  rw [e1, e2, BitVec.toNat_ofNat, BitVec.toNat_ofNat]
  omega
theorem Cli.yX_eq (c : Cli) (v : By) (N : Nat) : c.yX v N = c.hd ++ (puL (c.eX v N).length 2 ++ c.eX v N) := by
  unfold Cli.yX pvB puB
  rw [List.append_assoc, Int.toNat_natCast]
  rfl
theorem Cli.by_hd (c : Cli) : c.by = c.hd ++ (puL c.ex.length 2 ++ c.ex) := by
  unfold Cli.by pvB puB
  rw [List.append_assoc, Int.toNat_natCast]
  rfl
theorem Cli.hd_len (c : Cli) : (c.hd.length : Int) = c.pX := by
  unfold Cli.hd Cli.pX
  rw [pvB_len, pvB_len, hdB_len, chN_len]
  have e1 : (2 : Int).toNat = 2 := rfl
  have e2 : (1 : Int).toNat = 1 := rfl
  have e3 : ([0#8] : By).length = 1 := rfl
  rw [e1, e2, e3]
  omega
theorem Cli.eX_len (c : Cli) (v : By) (N : Nat) : (c.eX v N).length = c.ex.length + N * v.length := by unfold Cli.eX; rw [List.length_append, rpB_len]
theorem Cli.ye1 (c : Cli) (v : By) : exD c.by c.pX c.nX v = c.yX v 1 := by
  rw [c.by_hd, exD_at (n := c.ex.length) (m := c.nX) c.hd_len.symm rfl, c.yX_eq, c.eX_len, Nat.one_mul]
  unfold Cli.eX
  rw [show rpB v 1 = v from List.append_nil v]
theorem Cli.ye2 (c : Cli) (v : By) : exD (c.yX v 1) c.pX (c.nX + v.length) v = c.yX v 2 := by
  rw [c.yX_eq v 1, exD_at (n := (c.eX v 1).length) c.hd_len.symm (by rw [c.eX_len]; unfold Cli.nX; omega), c.yX_eq v 2, c.eX_len, c.eX_len, show c.ex.length + 1 * v.length + v.length = c.ex.length + 2 * v.length by omega]
  unfold Cli.eX
  rw [List.append_assoc, show rpB v 1 ++ v = rpB v 2 from by show (v ++ []) ++ v = v ++ (v ++ []); rw [List.append_nil]]
/-- The kind that the law takes; the bytes. -/
def kdN (kd : Int) : Nat := (BitVec.ofInt 64 kd % BitVec.ofNat 64 60000).toNat
theorem kdN_lt (kd : Int) : kdN kd < 60000 := by
  unfold kdN
  rw [BitVec.toNat_umod]
  exact Nat.mod_lt _ (by decide)
def kdK (kd : Int) : Int := 100 + (kdN kd : Int)
end Go.Spec
namespace Go.Sym
open Go.Proofs Go.Spec
set_option linter.unusedVariables false
theorem yAt_of (c : Cli) (h : c.ok) (h6 : c.n6 = 0) {k : Int} {b v : By} (k1 : 52 ≤ k) (k2 : k < 65536) (b1 : b.length ≤ 40) (hv : v = exB [] k b) {N : Nat} (hN : N = 1 ∨ N = 2) : yAt c (c.yX v N) k b v ∧ c.eO v (c.yX v N) = (if N = 2 then 3 else 0) := by
  have lv : v.length = 4 + b.length := by
    rw [hv, exB_len]
    have e0 : ([] : By).length = 0 := rfl
    omega
  have hx := c.ex_le h
  have hle : (c.eX v N).length ≤ 1800 := by
    rw [c.eX_len]
    rcases hN with rfl | rfl <;> omega
  have hn : c.nO v (c.yX v N) = N ∧ c.eO v (c.yX v N) = (if N = 2 then 3 else 0) := by
    unfold Cli.nO Cli.eO
    rcases hN with rfl | rfl
    · have ne : ¬ c.yX v 1 = pvB c.hd (c.eX v 2) 2 := fun e => by
        have := congrArg List.length e
        unfold Cli.yX at this
        rw [pvB_len, pvB_len, c.eX_len, c.eX_len] at this
        omega
      rw [if_neg ne, if_neg ne]
      exact ⟨rfl, rfl⟩
    · have e2 : c.yX v 2 = pvB c.hd (c.eX v 2) 2 := rfl
      rw [if_pos e2, if_pos e2]
      exact ⟨rfl, rfl⟩
  have hd := hdAt_of c h (c.eX v N) hle
  refine ⟨⟨?_, ?_⟩, hn.2⟩
  · rw [hn.1]; exact hd
  · rw [hn.1]
    exact ⟨h, h6, k1, k2, b1, hv, hd.e, hd.l, hd.c0, hd.x, hd.b, by omega⟩
set_option maxHeartbeats 1000000 in
theorem bl6 (c : Cli) (u : Clt) (kd : Int) (x : By) (nl : NL) (hz : c.sz) (b v : By) (hb : b = x.take (min x.length 40)) (hv : v = exB [] (kdK kd) b) : Must (bodyP Tryd.prog ((Gz (c0 c) (kdK kd) b v).withSym [67, 68, 74, 75]) gl0 [] (lsZ c u kd v x) 3000 Tryd.f6 0 [cliT c u, .int .i64 kd, .rb true x nl] [] (retQ Tryd.prog Tryd.f6 0 ⟨[], .bool true, [], []⟩)) := by
  constructor
  rw [vl6]
  intro x1 x2 x3 x4 x5 x6 x7 x8 x9 x10 x11 x12 x13 x14 x15 x16 x17 x18 x19 x20 x21 x22 x23 x24 x25 x26 x27
  have hk := kdN_lt kd
  have e20 : (Min.min ((x.length : Nat) : Int) 40).toNat = min x.length 40 := by omega
  have lb : b.length ≤ 40 := by rw [hb, List.length_take]; omega
  have lv : v.length = 4 + b.length := by
    rw [hv, exB_len]
    have e0 : ([] : By).length = 0 := rfl
    omega
  have wk : IntKind.i64.wrap ((100 : Int) + IntKind.i64.wrap (((BitVec.ofInt 64 kd % BitVec.ofNat 64 60000).toNat : Nat) : Int)) = kdK kd := by
    have e1 : IntKind.i64.wrap (((BitVec.ofInt 64 kd % BitVec.ofNat 64 60000).toNat : Nat) : Int) = (kdN kd : Int) := wrap_nat _ rfl (by show kdN kd < _; omega)
    rw [e1]
    exact wrap_i64 (by omega) (by omega)
  have hv2 : v = x20 ++ List.take (Min.min ((x.length : Nat) : Int) 40).toNat x := by
    show v = [BitVec.ofInt 8 ((IntKind.i64.wrap ((100 : Int) + IntKind.i64.wrap (((BitVec.ofInt 64 kd % BitVec.ofNat 64 60000).toNat : Nat) : Int))).fdiv (Int.ofNat 256)), BitVec.ofInt 8 (IntKind.i64.wrap ((100 : Int) + IntKind.i64.wrap (((BitVec.ofInt 64 kd % BitVec.ofNat 64 60000).toNat : Nat) : Int))), BitVec.ofNat 8 0, BitVec.ofInt 8 (((List.take (Min.min ((x.length : Nat) : Int) 40).toNat x).length : Nat) : Int)] ++ List.take (Min.min ((x.length : Nat) : Int) 40).toNat x
    rw [wk, e20, ← hb, hv]
    have e1 : u2 (kdK kd) = puL (kdK kd).toNat 2 := u2_puL (by unfold kdK; omega)
    have eb : BitVec.ofInt 8 ((b.length : Nat) : Int) = BitVec.ofNat 8 b.length := BitVec.ofInt_natCast ..
    unfold exB pvB puB
    rw [List.nil_append, show (2 : Int).toNat = 2 from rfl, ← e1, Int.toNat_natCast, puL2 b.length, show b.length / 256 = 0 by omega, eb]
    rfl
  have q5 : x5 = (c0 c).re := rfl
  have q2 : x2 = c0 c := rfl
  have hsz : (c0 c).sz := ⟨hz.h1, hz.h2, hz.h3, hz.h4, hz.h5, by show 0 * 32 ≤ _; omega, hz.k5, fun j hj => absurd hj (Nat.not_lt_zero j), fun j hj => absurd hj (Nat.not_lt_zero j)⟩
  have h3 : x3.sz := (c0 c).re_sz hsz
  have y19 : x19 := fun _ _ => ⟨rfl, rfl, trivial⟩
  have y18 : x18 := fun _ _ => ⟨rfl, rfl, trivial⟩
  have y17 : x17 := fun _ _ => ⟨rfl, rfl, trivial⟩
  have y16 : x16 := fun _ _ => ⟨rfl, rfl, trivial⟩
  have y7 : x7 := fun _ _ => ⟨rfl, rfl, rfl, rfl, trivial⟩
  have y8 : x8 := fun _ _ => ⟨rfl, rfl, rfl, rfl, trivial⟩
  have y21 : x21 := fun _ _ => ⟨rfl, rfl, rfl, trivial⟩
  have y4 : x4 := ⟨rfl, rfl, rfl, rfl, rfl, rfl, rfl, trivial⟩
  have y26 : x26 := fun _ _ => ⟨rfl, Nat.le_refl _⟩
  have y27 : x27 := fun _ _ => ⟨rfl, Nat.le_refl _⟩
  have e6 : x6 = sm20 (c0 c).re.re (c0 c).re := by kernel_rfl
  have kk : (52 : Int) ≤ kdK kd := by unfold kdK; omega
  have kk2 : kdK kd < 65536 := by unfold kdK; omega
  refine ⟨⟨(), trivial, rfl, rfl, rfl, rfl, allP_of 32 0 (fun _ _ _ => rfl) ⟨rfl, rfl, y19, rfl, y18, rfl, y17, rfl, y16, rfl, y7, rfl, rfl, rfl, rfl, trivial⟩⟩, fun _ _ => ⟨h3, rfl, rfl, rfl, rfl, rfl, rfl, rfl, ?_⟩⟩
  refine brec (fun _ => ⟨rfl, trivial⟩) (fun d => ?_)
  have hok : (c0 c).ok := by
    have d : (!(c0 c).re.okB) = false := d
    rw [(c0 c).re_okB] at d
    exact Cli.okB_iff.1 (by simpa using d)
  have hpB : x5.pB = (c0 c).by := by
    show (c0 c).re.pB = _
    rw [(c0 c).re_pB]
    unfold Cli.pB
    rw [if_pos (Cli.okB_iff.2 hok)]
  have hbl := (byAt_of (c0 c) hok).l
  have hxl := (c0 c).ex_le hok
  have hby := (c0 c).by_hd
  have lP := (c0 c).hd_len
  have lby : ((c0 c).by.length : Int) = (c0 c).pX + 2 + (c0 c).ex.length := by
    rw [hby]; simp only [List.length_append, puL_len]; omega
  have hP0 : 0 ≤ (c0 c).pX := by omega
  have hs := hok.hs
  have hn1 := hok.h1
  have hPl : (c0 c).pX < 100 := by
    unfold Cli.pX
    omega
  have wP : IntKind.i64.wrap ((c0 c).pX + 1) = (c0 c).pX + 1 := wrap_i64 (by omega) (by omega)
  have wn : IntKind.i64.wrap ((c0 c).nX + (v.length : Int)) = (c0 c).nX + (v.length : Int) := wrap_i64 (by unfold Cli.nX; omega) (by unfold Cli.nX; omega)
  have nX0 : 0 ≤ (c0 c).nX ∧ (c0 c).nX ≤ 1700 := by unfold Cli.nX; omega
  have lY : ∀ N, ((c0 c).yX v N).length = (c0 c).hd.length + 2 + ((c0 c).ex.length + N * v.length) := fun N => by
    rw [(c0 c).yX_eq, ← (c0 c).eX_len v N]; simp only [List.length_append, puL_len]; omega
  have lY1 := lY 1
  have lY2 := lY 2
  have e23 : x23 = (c0 c).yX v 1 := (c0 c).ye1 v
  have e24 : exD x23 (c0 c).pX (IntKind.i64.wrap ((c0 c).nX + (v.length : Int))) v = (c0 c).yX v 2 := by
    rw [e23, wn]; exact (c0 c).ye2 v
  have lt : (List.take (Min.min ((x.length : Nat) : Int) 40).toNat x).length = b.length := by rw [e20, hb]
  obtain ⟨ya, ea⟩ := yAt_of (c0 c) hok rfl kk kk2 lb hv (N := 1) (.inl rfl)
  obtain ⟨yb, eb⟩ := yAt_of (c0 c) hok rfl kk kk2 lb hv (N := 2) (.inr rfl)
  have ea : (c0 c).eO v ((c0 c).yX v 1) = 0 := ea
  have eb : (c0 c).eO v ((c0 c).yX v 2) = 3 := eb
  have gx : (c0 c).nX = IntKind.i64.wrap (IntKind.i64.wrap (((List.getD (c0 c).by (c0 c).pX.toNat (0 : BitVec 8)).toNat : Int) * 256) + ((List.getD (c0 c).by ((c0 c).pX + 1).toNat (0 : BitVec 8)).toNat : Int)) := by
    have g := getD_at (A := (c0 c).hd) (E := (c0 c).ex) (n := (c0 c).ex.length) (by omega)
    rw [← hby] at g
    have p1 : (c0 c).pX.toNat = (c0 c).hd.length := by omega
    have p2 : ((c0 c).pX + 1).toNat = (c0 c).hd.length + 1 := by omega
    rw [p1, p2]
    have b1 := (List.getD (c0 c).by (c0 c).hd.length (0 : BitVec 8)).isLt
    have w1 : IntKind.i64.wrap (((List.getD (c0 c).by (c0 c).hd.length (0 : BitVec 8)).toNat : Int) * 256) = ((List.getD (c0 c).by (c0 c).hd.length (0 : BitVec 8)).toNat : Int) * 256 := wrap_i64 (by omega) (by omega)
    rw [w1, g]
    exact (wrap_i64 (by omega) (by omega)).symm
  have n5 := hok.h5.1
  have hsm : x6 := by
    rw [e6, (c0 c).re_re]
    have g1 := hok.h1
    have g2 := hok.h2
    have g3 := hok.h3
    have g4 := hok.h4
    exact ⟨rfl, by show (c0 c).n1 < _; omega, by show (c0 c).n2 < _; omega, by show (c0 c).n3 < _; omega, by show (c0 c).n4 < _; omega, by show (c0 c).n5 < _; omega, by show 0 < _; omega, rfl⟩
  refine ⟨by omega, by omega, rfl, by unfold roomFor; rw [lt]; omega, ⟨(), hok, rfl, rfl, rfl, rfl, rfl, (by rw [hpB]; rfl), rfl, rfl, rfl, by rw [lt]; exact lv, ?_, allP_of 32 0 (fun _ _ _ => rfl) ⟨rfl, rfl, y19, rfl, y18, rfl, y17, rfl, y16, rfl, y7, rfl, rfl, rfl, y8, rfl, y21, hpB.symm, hv2, trivial⟩⟩, fun _ _ => ?_⟩
  · show (c0 c).pX = _
    have w1 : IntKind.i64.wrap ((35 : Int) + (c.s.length : Int)) = 35 + (c.s.length : Int) := wrap_i64 (by omega) (by have : c.s.length ≤ 32 := hs; omega)
    have hs' : c.s.length ≤ 32 := hs
    have hn' : c.n1 ≤ 8 := hn1
    rw [w1, wrap_i64 (x := 35 + (c.s.length : Int) + 2) (by omega) (by omega), wrap_i64 (x := 2 * (c.n1 : Int)) (by omega) (by omega), wrap_i64 (x := 35 + (c.s.length : Int) + 2 + 2 * (c.n1 : Int)) (by omega) (by omega), wrap_i64 (by omega) (by omega)]
    show 39 + (c.s.length : Int) + 2 * (c.n1 : Int) = _
    omega
  refine ⟨⟨hP0, by show (c0 c).pX.toNat < (c0 c).by.length; omega, by show (c0 c).pX.toNat < (c0 c).by.length; omega, by show 0 ≤ IntKind.i64.wrap ((c0 c).pX + 1); rw [wP]; omega, by show (IntKind.i64.wrap ((c0 c).pX + 1)).toNat < (c0 c).by.length; rw [wP]; omega, by show (IntKind.i64.wrap ((c0 c).pX + 1)).toNat < (c0 c).by.length; rw [wP]; omega, (), hok, rfl, rfl, rfl, rfl, rfl, rfl, rfl, rfl, rfl, rfl, rfl, ?_, allP_of 32 0 (fun _ _ _ => rfl) ⟨rfl, rfl, y19, rfl, y18, rfl, y17, rfl, y16, rfl, y7, rfl, rfl, rfl, y8, rfl, y21, rfl, rfl, trivial⟩⟩, fun _ _ => ?_⟩
  · show (c0 c).nX = IntKind.i64.wrap (IntKind.i64.wrap (((List.getD (c0 c).by (c0 c).pX.toNat (0 : BitVec 8)).toNat : Int) * 256) + ((List.getD (c0 c).by (IntKind.i64.wrap ((c0 c).pX + 1)).toNat (0 : BitVec 8)).toNat : Int))
    rw [wP]; exact gx
  refine ⟨rfl, rfl, ⟨hP0, by show (c0 c).pX.toNat + 1 < (c0 c).by.length; omega⟩, ⟨hbl, by omega⟩, ⟨nX0.1, by show (c0 c).nX < _; omega⟩, ⟨rfl, rfl, ⟨hP0, by rw [e23]; show (c0 c).pX.toNat + 1 < _; omega⟩, ⟨by rw [e23]; omega, by omega⟩, ⟨by show 0 ≤ IntKind.i64.wrap ((c0 c).nX + (v.length : Int)); rw [wn]; omega, by show IntKind.i64.wrap ((c0 c).nX + (v.length : Int)) < _; rw [wn]; omega⟩, (), hok, rfl, rfl, rfl, rfl, rfl, (by rw [e23]; rfl), rfl, rfl, rfl, by show _ = (exD x23 (c0 c).pX (IntKind.i64.wrap ((c0 c).nX + (v.length : Int))) v).length; rw [e24]; rfl, allP_of 32 0 (fun _ _ _ => rfl) ⟨rfl, rfl, y19, rfl, y18, rfl, y17, rfl, y16, rfl, y7, rfl, rfl, rfl, y8, rfl, y21, e23.symm, e24.symm, trivial⟩⟩, fun _ _ => ?_⟩
  refine brec (fun _ => ?_) (fun d => ?_)
  · refine ⟨rfl, ya, ?_⟩
    refine brec (fun d => ?_) (fun _ => ?_)
    · exfalso
      have d := of_decide_eq_true d
      have d : (c0 c).eO v ((c0 c).yX v 2) = 0 := d
      rw [eb] at d
      cases d
    · exact ⟨rfl, yb, by show (c0 c).n5 < _; omega, by omega, rfl, rfl, rfl, rfl, rfl, rfl, rfl, by omega, y27, by omega, y26, hsm, y4, rfl, rfl, rfl, rfl, rfl, rfl, rfl, rfl, trivial⟩
  · exact absurd ea (of_decide_eq_false d)
end Go.Sym
