/- HelloClients: of all greetings of clients the bytes are told, or that they cannot be; they are read again. Condition: the two tables of the package start as the text of the program lays them, which the card ties. -/
import Derived.Test.YtmpgpbbaloiniaaDoorSymC
import Derived.Test.YtmpgpbbaloiniaaDoorShaB
import Derived.Test.YtmpgpbbaloiniaaDoorShaA
import Derived.Test.YtmpgpbbaloiniaaDoorHelD
import Derived.OpenShut
import Derived.SizedLaws
/- What is handed in from outside: plain data of any shape. -/
namespace Go.Sym
set_option linter.unusedVariables false
set_option linter.unusedSimpArgs false
open Go.ChangeShapes Go.WideShapes
inductive Sh where
  | i (k : IntKind)
  | b
  | s
  | y
def Sh.ok : Sh → AV → Prop
  | .i .u8, a => ∃ x, a = .u8 x
  | .i .u16, a => ∃ x, a = .u16 x
  | .i .u32, a => ∃ x, a = .u32 x
  | .i .u64, a => ∃ x, a = .u64 x
  | .i k, a => ∃ n, a = .int k n ∧ (Lit.int k n).wf = true
  | .b, a => ∃ c, a = .bool c
  | .s, a => ∃ l, a = .str l ∧ l.length ≤ maxLen
  | .y, a => ∃ l c, a = .rb true l (.is c) ∧ (c = true → l = []) ∧ l.length ≤ maxLen
def shAll : List Sh → List AV → Prop
  | [], [] => True
  | k :: ss, a :: az => k.ok a ∧ shAll ss az
  | _, _ => False
theorem shAll_append : ∀ {l m : List Sh} {az bs : List AV}, shAll l az → shAll m bs → shAll (l ++ m) (az ++ bs)
  | [], _, [], _, _, k => k
  | _ :: _, _, _ :: _, _, h, k => ⟨h.1, shAll_append h.2 k⟩
  | [], _, _ :: _, _, h, _ => h.elim
  | _ :: _, _, [], _, h, _ => h.elim
theorem datas_append {p : Bool} : ∀ {az bs : List AV}, datas p az = true → datas p bs = true → datas p (az ++ bs) = true
  | [], _, _, k => k
  | a :: az, _, h, k => by
    simp only [datas, Bool.and_eq_true, List.cons_append] at h ⊢
    exact ⟨h.1, datas_append h.2 k⟩
def flatFs (P : Program) (g : TypeId → Option (List Sh)) : List Field → Nat → Option (List Sh)
  | [], _ => some []
  | f :: fs, o => if f.offset = o then (g f.type).bind fun l => if P.cellsOf f.type = l.length then (flatFs P g fs (o + l.length)).map (l ++ ·) else none else none
def flat (P : Program) : Nat → TypeId → Option (List Sh)
  | 0, _ => none
  | f + 1, t => match P.underlying t with
    | some (.int k) => some [.i k]
    | some .bool => some [.b]
    | some .string => some [.s]
    | some (.slice e) => (match P.underlying e with | some (.int .u8) => if P.cellsOf e = 1 then some [.y] else none | _ => none)
    | some (.array n e) => (flat P f e).bind fun l => if P.cellsOf e = l.length ∧ P.cellsOf t = n * l.length then some (List.replicate n l).flatten else none
    | some (.struct fs) => (flatFs P (flat P f) fs.toList 0).bind fun l => if P.cellsOf t = l.length then some l else none
    | _ => none

section
variable {H : Type} {enc : TypeId × Value → H} {P : Program} {W : World} {base : Nat} {spare : Nat → Bool} {held : Bool}
def Read (W : World) (l : List Sh) (cs : List Value) : Prop := ∃ avs, shAll l avs ∧ datas true avs = true ∧ VRels (κW W) avs cs
theorem Read.append {l m : List Sh} {cs ds : List Value} (h : Read W l cs) (k : Read W m ds) : Read W (l ++ m) (cs ++ ds) := by
  obtain ⟨a, h1, h2, h3⟩ := h
  obtain ⟨b, k1, k2, k3⟩ := k
  exact ⟨a ++ b, shAll_append h1 k1, datas_append h2 k2, VRels.append h3 k3⟩
theorem read_arr {l : List Sh} {m : Nat} : ∀ (n : Nat) (cs : List Value), cs.length = n * m → (∀ i, i < n → Read W l ((cs.drop (i * m)).take m)) → Read W (List.replicate n l).flatten cs
  | 0, cs, hl, _ => by
    have : cs = [] := List.eq_nil_of_length_eq_zero (by simpa using hl)
    subst this
    exact ⟨[], trivial, rfl, rfl⟩
  | n + 1, cs, hl, h => by
    have h0 := h 0 (by omega)
    simp only [Nat.zero_mul, List.drop_zero] at h0
    have hr := read_arr (m := m) n (cs.drop m) (by rw [List.length_drop, hl, Nat.succ_mul]; omega) (fun i hi => by
      have := h (i + 1) (by omega)
      rw [List.drop_drop]
      rw [Nat.add_mul, Nat.one_mul, Nat.add_comm] at this
      exact this)
    have := h0.append hr
    rw [List.take_append_drop] at this
    simpa [List.replicate_succ] using this
theorem read_fs {g : TypeId → Option (List Sh)} {cs : List Value} : ∀ (fs : List Field) (o : Nat) (l : List Sh), flatFs P g fs o = some l → cs.length = o + l.length →
    (∀ f l', f ∈ fs → g f.type = some l' → Read W l' ((cs.drop f.offset).take (P.cellsOf f.type))) → Read W l (cs.drop o)
  | [], o, l, h, hl, _ => by
    simp only [flatFs, Option.some.injEq] at h
    subst h
    have : cs.drop o = [] := List.drop_eq_nil_of_le (by simp at hl; omega)
    rw [this]
    exact ⟨[], trivial, rfl, rfl⟩
  | f :: fs, o, l, h, hl, hr => by
    simp only [flatFs] at h
    split at h
    · rename_i ho
      simp only [Option.bind_eq_some_iff] at h
      obtain ⟨l1, h1, h2⟩ := h
      split at h2
      · rename_i hc
        simp only [Option.map_eq_some_iff] at h2
        obtain ⟨l2, h3, rfl⟩ := h2
        have k1 := hr f l1 (by simp) h1
        rw [ho, hc] at k1
        have k2 := read_fs fs (o + l1.length) l2 h3 (by simp at hl; omega) (fun f' l' hf hg => hr f' l' (by simp [hf]) hg)
        have := k1.append k2
        rw [← List.drop_drop, List.take_append_drop] at this
        exact this
      · cases h2
    · cases h
theorem rd_flat : ∀ (f : Nat) (t : TypeId) (l : List Sh) (fuel : Nat) (cs : List Value) (x : DataW H × List MemPlace), flat P f t = some l → DataW.trod enc P W base spare held fuel t cs = some x → Read W l cs
  | 0, _, _, _, _, _, h, _ => by cases h
  | f + 1, t, l, fuel, cs, x, h, hd => by
    unfold flat at h
    split at h
    · rename_i k ht
      simp only [Option.some.injEq] at h
      subst h
      obtain ⟨n, rfl, _, hw⟩ := DataW.trod_int ht hd
      have hn : absC0 (.int k n) = absC0 (.int k n) := rfl
      cases k
      case u8 =>
        simp [Lit.wf, IntKind.min, IntKind.max, IntKind.signed, IntKind.bits] at hw
        exact ⟨[.u8 (BitVec.ofNat 8 n.toNat)], ⟨⟨_, rfl⟩, trivial⟩, rfl, _, [], rfl, by simp only [VRel, BitVec.toNat_ofNat]; congr 1; omega, rfl⟩
      case u16 =>
        simp [Lit.wf, IntKind.min, IntKind.max, IntKind.signed, IntKind.bits] at hw
        exact ⟨[.u16 (BitVec.ofNat 16 n.toNat)], ⟨⟨_, rfl⟩, trivial⟩, rfl, _, [], rfl, by simp only [VRel, BitVec.toNat_ofNat]; congr 1; omega, rfl⟩
      case u32 =>
        simp [Lit.wf, IntKind.min, IntKind.max, IntKind.signed, IntKind.bits] at hw
        exact ⟨[.u32 (BitVec.ofNat 32 n.toNat)], ⟨⟨_, rfl⟩, trivial⟩, rfl, _, [], rfl, by simp only [VRel, BitVec.toNat_ofNat]; congr 1; omega, rfl⟩
      case u64 =>
        simp [Lit.wf, IntKind.min, IntKind.max, IntKind.signed, IntKind.bits] at hw
        exact ⟨[.u64 (BitVec.ofNat 64 n.toNat)], ⟨⟨_, rfl⟩, trivial⟩, rfl, _, [], rfl, by simp only [VRel, BitVec.toNat_ofNat]; congr 1; omega, rfl⟩
      all_goals exact ⟨[.int _ n], ⟨⟨_, rfl, hw⟩, trivial⟩, rfl, _, [], rfl, rfl, rfl⟩
    · rename_i ht
      simp only [Option.some.injEq] at h
      subst h
      obtain ⟨b, rfl, _⟩ := DataW.trod_bool ht hd
      exact ⟨[.bool b], ⟨⟨_, rfl⟩, trivial⟩, rfl, _, [], rfl, rfl, rfl⟩
    · rename_i ht
      simp only [Option.some.injEq] at h
      subst h
      obtain ⟨s, rfl, _, hs⟩ := DataW.trod_string ht hd
      have hb := bytesStr_strBytes s
      refine ⟨[.str (strBytes s)], ⟨⟨_, rfl, ?_⟩, trivial⟩, rfl, _, [], rfl, by simp only [VRel, hb], rfl⟩
      rw [← bytesStr_size, hb]
      exact hs
    · rename_i e ht
      split at h
      · rename_i he
        split at h
        · rename_i hc
          simp only [Option.some.injEq] at h
          subst h
          obtain ⟨v, l, c, rfl, h1, h2, h3⟩ := rd_bytes ht he hc hd
          exact ⟨[.rb true l (.is c)], ⟨⟨l, c, rfl, h1, h2⟩, trivial⟩, rfl, _, [], rfl, h3, rfl⟩
        · cases h
      · cases h
    · rename_i n e ht
      simp only [Option.bind_eq_some_iff] at h
      obtain ⟨l1, h1, h2⟩ := h
      split at h2
      · rename_i hc
        simp only [Option.some.injEq] at h2
        subst h2
        obtain ⟨xs, m, _, _, hl, hn, hel⟩ := DataW.trod_array ht hd
        refine read_arr (m := l1.length) n cs (by rw [hl, hc.2]) fun i hi => ?_
        have := hel i hi
        rw [List.getElem?_eq_getElem (by omega), hc.1] at this
        exact rd_flat f e l1 _ _ _ h1 this
      · cases h2
    · rename_i fs ht
      simp only [Option.bind_eq_some_iff] at h
      obtain ⟨l1, h1, h2⟩ := h
      split at h2
      · rename_i hc
        simp only [Option.some.injEq] at h2
        subst h2
        obtain ⟨xs, m, _, _, hl, hn, hel⟩ := DataW.trod_struct ht hd
        have := read_fs (W := W) (cs := cs) fs.toList 0 l1 h1 (by rw [hl, hc]; omega) fun f0 l' hf hg => by
          obtain ⟨i, hi⟩ := List.getElem?_of_mem hf
          have hlt := (List.getElem?_eq_some_iff.1 hi).1
          have := hel i f0 (by simpa using hi)
          rw [List.getElem?_eq_getElem (by simp at hlt; omega)] at this
          exact rd_flat f f0.type l' _ _ _ hg this
        simpa using this
      · cases h2
    · cases h
theorem agg_of_cells {v : Value} {avs : List AV} (h : VRels (κW W) avs v.cells.toList) (hl : 2 ≤ avs.length) : VRel (κW W) (.agg avs) v := by
  have hn := h.length
  cases v
  case agg cs => exact ⟨cs, rfl, h⟩
  all_goals (exfalso; simp [Value.cells] at hn; omega)
/-- Bytes of an array. -/
theorem sh_u8 : ∀ {n : Nat} {avs : List AV}, shAll (List.replicate n (.i .u8)) avs → ∃ l : List (BitVec 8), l.length = n ∧ avs = l.map .u8
  | 0, [], _ => ⟨[], rfl, rfl⟩
  | 0, _ :: _, h => h.elim
  | n + 1, [], h => h.elim
  | n + 1, a :: az, h => by
    obtain ⟨⟨x, rfl⟩, h2⟩ := h
    obtain ⟨l, h3, rfl⟩ := sh_u8 h2
    exact ⟨x :: l, by simp [h3], rfl⟩
end
theorem sh_cons {k : Sh} {ks : List Sh} {avs : List AV} (h : shAll (k :: ks) avs) : ∃ a az, avs = a :: az ∧ k.ok a ∧ shAll ks az := by
  cases avs with
  | nil => exact h.elim
  | cons a az => exact ⟨a, az, rfl, h.1, h.2⟩
theorem sh_nil {avs : List AV} (h : shAll [] avs) : avs = [] := by
  cases avs with
  | nil => rfl
  | cons a az => exact h.elim
theorem sh_i64 {a : AV} (h : (Sh.i .i64).ok a) : ∃ n, a = .int .i64 n := by
  obtain ⟨n, h, _⟩ := h
  exact ⟨n, h⟩
theorem rel_u32 {κ : Ker} {n : Int} (h : (Lit.int .u32 n).wf = true) : VRel κ (.u32 (BitVec.ofInt 32 n)) (.int .u32 n) := by
  simp [Lit.wf, IntKind.has, IntKind.min, IntKind.max, IntKind.signed, IntKind.bits] at h
  simp only [VRel, BitVec.toNat_ofInt]
  congr 1
  omega
theorem rel_u64 {κ : Ker} {n : Int} (h : (Lit.int .u64 n).wf = true) : VRel κ (.u64 (BitVec.ofInt 64 n)) (.int .u64 n) := by
  simp [Lit.wf, IntKind.has, IntKind.min, IntKind.max, IntKind.signed, IntKind.bits] at h
  simp only [VRel, BitVec.toNat_ofInt]
  congr 1
  omega
theorem rel_u8 {κ : Ker} {n : Int} (h : (Lit.int .u8 n).wf = true) : VRel κ (.u8 (BitVec.ofInt 8 n)) (.int .u8 n) := by
  simp [Lit.wf, IntKind.has, IntKind.min, IntKind.max, IntKind.signed, IntKind.bits] at h
  simp only [VRel, BitVec.toNat_ofInt]
  congr 1
  omega
end Go.Sym

/- Greetings: what is carried out call by call. -/
namespace Go.Sym
open Go.Proofs Go.Spec
set_option linter.unusedVariables false
noncomputable def H0 : Ctx := B5
theorem okH0 : COKs Tryd.prog gl0 H0 := okB5
noncomputable def H1 : Ctx := H0.exe Tryd.prog gl0 [] 400 Tryd.f62.params.size 62 Tryd.f62
theorem okH1 : COKs Tryd.prog gl0 H1 := okH0.exe [] 400 _ (by kernel_rfl) (by kernel_rfl) (by kernel_rfl) (fun args w => by kernel_rfl)
noncomputable def H2 : Ctx := H1.exe Tryd.prog gl0 [] 400 Tryd.f145.params.size 145 Tryd.f145
theorem okH2 : COKs Tryd.prog gl0 H2 := okH1.exe [] 400 _ (by kernel_rfl) (by kernel_rfl) (by kernel_rfl) (fun args w => by kernel_rfl)
noncomputable def H3 : Ctx := H2.exe Tryd.prog gl0 [] 400 Tryd.f128.params.size 128 Tryd.f128
theorem okH3 : COKs Tryd.prog gl0 H3 := okH2.exe [] 400 _ (by kernel_rfl) (by kernel_rfl) (by kernel_rfl) (fun args w => by kernel_rfl)
noncomputable def H4 : Ctx := H3.exe Tryd.prog gl0 [] 400 Tryd.f129.params.size 129 Tryd.f129
theorem okH4 : COKs Tryd.prog gl0 H4 := okH3.exe [] 400 _ (by kernel_rfl) (by kernel_rfl) (by kernel_rfl) (fun args w => by kernel_rfl)
noncomputable def H5 : Ctx := H4.exe Tryd.prog gl0 [] 400 Tryd.f94.params.size 94 Tryd.f94
theorem okH5 : COKs Tryd.prog gl0 H5 := okH4.exe [] 400 _ (by kernel_rfl) (by kernel_rfl) (by kernel_rfl) (fun args w => by kernel_rfl)
noncomputable def H6 : Ctx := H5.exe Tryd.prog gl0 [] 400 Tryd.f127.params.size 127 Tryd.f127
theorem okH6 : COKs Tryd.prog gl0 H6 := okH5.exe [] 400 _ (by kernel_rfl) (by kernel_rfl) (by kernel_rfl) (fun args w => by kernel_rfl)
noncomputable def H7 : Ctx := H6.exe Tryd.prog gl0 [] 400 Tryd.f98.params.size 98 Tryd.f98
theorem okH7 : COKs Tryd.prog gl0 H7 := okH6.exe [] 400 _ (by kernel_rfl) (by kernel_rfl) (by kernel_rfl) (fun args w => by kernel_rfl)
noncomputable def H8 : Ctx := H7.exe Tryd.prog gl0 [] 400 Tryd.f118.params.size 118 Tryd.f118
theorem okH8 : COKs Tryd.prog gl0 H8 := okH7.exe [] 400 _ (by kernel_rfl) (by kernel_rfl) (by kernel_rfl) (fun args w => by kernel_rfl)
noncomputable def H9 : Ctx := H8.exe Tryd.prog gl0 [] 400 Tryd.f79.params.size 79 Tryd.f79
theorem okH9 : COKs Tryd.prog gl0 H9 := okH8.exe [] 400 _ (by kernel_rfl) (by kernel_rfl) (by kernel_rfl) (fun args w => by kernel_rfl)
noncomputable def H10 : Ctx := H9.exe Tryd.prog gl0 [] 400 Tryd.f83.params.size 83 Tryd.f83
theorem okH10 : COKs Tryd.prog gl0 H10 := okH9.exe [] 400 _ (by kernel_rfl) (by kernel_rfl) (by kernel_rfl) (fun args w => by kernel_rfl)
noncomputable def H11 : Ctx := H10.exe Tryd.prog gl0 [] 400 Tryd.f81.params.size 81 Tryd.f81
theorem okH11 : COKs Tryd.prog gl0 H11 := okH10.exe [] 400 _ (by kernel_rfl) (by kernel_rfl) (by kernel_rfl) (fun args w => by kernel_rfl)
noncomputable def H12 : Ctx := H11.exe Tryd.prog gl0 [] 400 Tryd.f71.params.size 71 Tryd.f71
theorem okH12 : COKs Tryd.prog gl0 H12 := okH11.exe [] 400 _ (by kernel_rfl) (by kernel_rfl) (by kernel_rfl) (fun args w => by kernel_rfl)
noncomputable def H13 : Ctx := H12.exe Tryd.prog gl0 [] 400 Tryd.f113.params.size 113 Tryd.f113
theorem okH13 : COKs Tryd.prog gl0 H13 := okH12.exe [] 400 _ (by kernel_rfl) (by kernel_rfl) (by kernel_rfl) (fun args w => by kernel_rfl)
noncomputable def H14 : Ctx := H13.exe Tryd.prog gl0 [] 400 Tryd.f121.params.size 121 Tryd.f121
theorem okH14 : COKs Tryd.prog gl0 H14 := okH13.exe [] 400 _ (by kernel_rfl) (by kernel_rfl) (by kernel_rfl) (fun args w => by kernel_rfl)
noncomputable def H15 : Ctx := H14.exe Tryd.prog gl0 [] 400 Tryd.f119.params.size 119 Tryd.f119
theorem okH15 : COKs Tryd.prog gl0 H15 := okH14.exe [] 400 _ (by kernel_rfl) (by kernel_rfl) (by kernel_rfl) (fun args w => by kernel_rfl)
noncomputable def H16 : Ctx := H15.exe Tryd.prog gl0 [] 400 Tryd.f120.params.size 120 Tryd.f120
theorem okH16 : COKs Tryd.prog gl0 H16 := okH15.exe [] 400 _ (by kernel_rfl) (by kernel_rfl) (by kernel_rfl) (fun args w => by kernel_rfl)
noncomputable def H17 : Ctx := H16.exe Tryd.prog gl0 [] 400 Tryd.f85.params.size 85 Tryd.f85
theorem okH17 : COKs Tryd.prog gl0 H17 := okH16.exe [] 400 _ (by kernel_rfl) (by kernel_rfl) (by kernel_rfl) (fun args w => by kernel_rfl)
noncomputable def H18 : Ctx := H17.exe Tryd.prog gl0 [] 400 Tryd.f78.params.size 78 Tryd.f78
theorem okH18 : COKs Tryd.prog gl0 H18 := okH17.exe [] 400 _ (by kernel_rfl) (by kernel_rfl) (by kernel_rfl) (fun args w => by kernel_rfl)
noncomputable def H19 : Ctx := H18.exe Tryd.prog gl0 [] 400 Tryd.f122.params.size 122 Tryd.f122
theorem okH19 : COKs Tryd.prog gl0 H19 := okH18.exe [] 400 _ (by kernel_rfl) (by kernel_rfl) (by kernel_rfl) (fun args w => by kernel_rfl)
noncomputable def H20 : Ctx := H19.exe Tryd.prog gl0 [] 400 Tryd.f86.params.size 86 Tryd.f86
theorem okH20 : COKs Tryd.prog gl0 H20 := okH19.exe [] 400 _ (by kernel_rfl) (by kernel_rfl) (by kernel_rfl) (fun args w => by kernel_rfl)
noncomputable def H21 : Ctx := H20.exe Tryd.prog gl0 [] 400 Tryd.f45.params.size 45 Tryd.f45
theorem okH21 : COKs Tryd.prog gl0 H21 := okH20.exe [] 400 _ (by kernel_rfl) (by kernel_rfl) (by kernel_rfl) (fun args w => by kernel_rfl)
noncomputable def H22 : Ctx := H21.exe Tryd.prog gl0 [] 400 Tryd.f88.params.size 88 Tryd.f88
theorem okH22 : COKs Tryd.prog gl0 H22 := okH21.exe [] 400 _ (by kernel_rfl) (by kernel_rfl) (by kernel_rfl) (fun args w => by kernel_rfl)
noncomputable def H23 : Ctx := H22.exe Tryd.prog gl0 [] 400 Tryd.f126.params.size 126 Tryd.f126
theorem okH23 : COKs Tryd.prog gl0 H23 := okH22.exe [] 400 _ (by kernel_rfl) (by kernel_rfl) (by kernel_rfl) (fun args w => by kernel_rfl)
noncomputable def H24 : Ctx := H23.exe Tryd.prog gl0 [] 400 Tryd.f123.params.size 123 Tryd.f123
theorem okH24 : COKs Tryd.prog gl0 H24 := okH23.exe [] 400 _ (by kernel_rfl) (by kernel_rfl) (by kernel_rfl) (fun args w => by kernel_rfl)
noncomputable def H25 : Ctx := H24.exe Tryd.prog gl0 [] 400 Tryd.f93.params.size 93 Tryd.f93
theorem okH25 : COKs Tryd.prog gl0 H25 := okH24.exe [] 400 _ (by kernel_rfl) (by kernel_rfl) (by kernel_rfl) (fun args w => by kernel_rfl)
noncomputable def H26 : Ctx := H25.exe Tryd.prog gl0 [] 400 Tryd.f89.params.size 89 Tryd.f89
theorem okH26 : COKs Tryd.prog gl0 H26 := okH25.exe [] 400 _ (by kernel_rfl) (by kernel_rfl) (by kernel_rfl) (fun args w => by kernel_rfl)
noncomputable def H27 : Ctx := H26.exe Tryd.prog gl0 [] 400 Tryd.f125.params.size 125 Tryd.f125
theorem okH27 : COKs Tryd.prog gl0 H27 := okH26.exe [] 400 _ (by kernel_rfl) (by kernel_rfl) (by kernel_rfl) (fun args w => by kernel_rfl)
noncomputable def H28 : Ctx := H27.exe Tryd.prog gl0 [] 400 3 124 Tryd.f124
theorem okH28 : COKs Tryd.prog gl0 H28 := okH27.exe [] 400 _ (by kernel_rfl) (by kernel_rfl) (by kernel_rfl) (fun args w => by kernel_rfl)
noncomputable def H29 : Ctx := H28.exe Tryd.prog gl0 [] 400 Tryd.f95.params.size 95 Tryd.f95
theorem okH29 : COKs Tryd.prog gl0 H29 := okH28.exe [] 400 _ (by kernel_rfl) (by kernel_rfl) (by kernel_rfl) (fun args w => by kernel_rfl)
noncomputable def H30 : Ctx := H29.exe Tryd.prog gl0 [] 400 Tryd.f87.params.size 87 Tryd.f87
theorem okH30 : COKs Tryd.prog gl0 H30 := okH29.exe [] 400 _ (by kernel_rfl) (by kernel_rfl) (by kernel_rfl) (fun args w => by kernel_rfl)
noncomputable def H31 : Ctx := H30.exe Tryd.prog gl0 [] 400 Tryd.f46.params.size 46 Tryd.f46
theorem okH31 : COKs Tryd.prog gl0 H31 := okH30.exe [] 400 _ (by kernel_rfl) (by kernel_rfl) (by kernel_rfl) (fun args w => by kernel_rfl)
end Go.Sym

namespace Go.Spec
open Go.Sym
/-- The text of which a retry's random bytes are the sum. -/
def hrr : By := [72#8, 101#8, 108#8, 108#8, 111#8, 82#8, 101#8, 116#8, 114#8, 121#8, 82#8, 101#8, 113#8, 117#8, 101#8, 115#8, 116#8]
theorem hrr0 : shaB hrr 0 = 207#8 := by rw [shaB_eq]; kernel_rfl
theorem hrr_and : andP (fun (i : Nat) => decide (BitVec.ofNat 8 0 = shaB hrr i)) 0 32 true = false := by
  show (decide (BitVec.ofNat 8 0 = shaB hrr 0) && _) = false
  rw [hrr0]
  rfl
end Go.Spec
namespace Go.Sym
open Go.Proofs Go.Spec
set_option linter.unusedVariables false
set_option maxHeartbeats 0 in
set_option maxRecDepth 100000 in
theorem vh17  : bodyP Tryd.prog H31 gl0 [] [] 3000 Tryd.f17 0 [] [] (retQ Tryd.prog Tryd.f17 0 ⟨[], .bool true, [], []⟩) = (
let x1 := andP (fun (i : Nat) => decide (BitVec.ofNat 8 0 = shaB [BitVec.ofNat 8 72, BitVec.ofNat 8 101, BitVec.ofNat 8 108, BitVec.ofNat 8 108, BitVec.ofNat 8 111, BitVec.ofNat 8 82, BitVec.ofNat 8 101, BitVec.ofNat 8 116, BitVec.ofNat 8 114, BitVec.ofNat 8 121, BitVec.ofNat 8 82, BitVec.ofNat 8 101, BitVec.ofNat 8 113, BitVec.ofNat 8 117, BitVec.ofNat 8 101, BitVec.ofNat 8 115, BitVec.ofNat 8 116] i)) 0 32 Bool.true; let x2 := 0 < 17 ∧ 0 < 17 ∧ 17 = 17 ∧ 17 < 4611686018427387904 ∧ Bool.true = Bool.false ∧ True; @Bool.rec (fun _ => Prop) (0 < 17 ∧ 0 < 17 ∧ 17 = 17 ∧ 17 < 4611686018427387904 ∧ @Bool.rec (fun _ => Prop) (@Bool.rec (fun _ => Prop) (0 < 17 ∧ 0 < 17 ∧ 17 = 17 ∧ 17 < 4611686018427387904 ∧ x2) (0 < 17 ∧ 0 < 17 ∧ 17 = 17 ∧ 17 < 4611686018427387904 ∧ x2) !x1) x2 x1) (0 < 17 ∧ 0 < 17 ∧ 17 = 17 ∧ 17 < 4611686018427387904 ∧ (0 : Int) ≤ Int.ofNat 16 ∧ (0 : Int) ≤ Int.ofNat 8 ∧ 1 = 1 ∧ roomFor 0 1 1 ∧ (0 : Int) ≤ Int.ofNat 0 ∧ 1 = 1 ∧ 1 = 1 ∧ roomFor 1 1 1 ∧ 2 = 2 ∧ roomFor 2 32 1 ∧ (0 : Int) ≤ Int.ofNat 8 ∧ 34 = 34 ∧ 0 = 0 ∧ roomFor 0 34 1 ∧ (0 : Int) ≤ Int.ofNat 0 ∧ 1 = 1 ∧ 34 = 34 ∧ roomFor 34 1 1 ∧ 35 = 35 ∧ roomFor 35 0 1 ∧ (0 : Int) ≤ Int.ofNat 16 ∧ 35 = 35 ∧ 0 = 0 ∧ roomFor 0 35 1 ∧ (0 : Int) ≤ Int.ofNat 8 ∧ 1 = 1 ∧ 35 = 35 ∧ roomFor 35 1 1 ∧ (0 : Int) ≤ Int.ofNat 0 ∧ 1 = 1 ∧ 36 = 36 ∧ roomFor 36 1 1 ∧ (0 : Int) ≤ Int.ofNat 8 ∧ 37 = 37 ∧ 0 = 0 ∧ roomFor 0 37 1 ∧ (0 : Int) ≤ Int.ofNat 0 ∧ 1 = 1 ∧ 37 = 37 ∧ roomFor 37 1 1 ∧ (0 : Int) ≤ Int.ofNat 16 ∧ (0 : Int) ≤ Int.ofNat 8 ∧ 1 = 1 ∧ roomFor 0 1 1 ∧ (0 : Int) ≤ Int.ofNat 0 ∧ 1 = 1 ∧ 1 = 1 ∧ roomFor 1 1 1 ∧ (0 : Int) ≤ Int.ofNat 16 ∧ (0 : Int) ≤ Int.ofNat 8 ∧ 1 = 1 ∧ roomFor 0 1 1 ∧ (0 : Int) ≤ Int.ofNat 0 ∧ 1 = 1 ∧ 1 = 1 ∧ roomFor 1 1 1 ∧ (0 : Int) ≤ Int.ofNat 16 ∧ 2 = 2 ∧ 0 = 0 ∧ roomFor 0 2 1 ∧ (0 : Int) ≤ Int.ofNat 8 ∧ 1 = 1 ∧ 2 = 2 ∧ roomFor 2 1 1 ∧ (0 : Int) ≤ Int.ofNat 0 ∧ 1 = 1 ∧ 3 = 3 ∧ roomFor 3 1 1 ∧ 2 = 2 ∧ 4 = 4 ∧ roomFor 4 2 1 ∧ (0 : Int) ≤ Int.ofNat 16 ∧ 38 = 38 ∧ 0 = 0 ∧ roomFor 0 38 1 ∧ (0 : Int) ≤ Int.ofNat 8 ∧ 1 = 1 ∧ 38 = 38 ∧ roomFor 38 1 1 ∧ (0 : Int) ≤ Int.ofNat 0 ∧ 1 = 1 ∧ 39 = 39 ∧ roomFor 39 1 1 ∧ 6 = 6 ∧ 40 = 40 ∧ roomFor 40 6 1 ∧ @Bool.rec (fun _ => Prop) (@Bool.rec (fun _ => Prop) (46 = 46 ∧ 0 = 0 ∧ roomFor 0 46 1 ∧ (0 : Int) ≤ (2 : Int) ∧ 2 ≤ 46 ∧ 2 ≤ 46 ∧ 0 = 0 ∧ roomFor 0 2 1 ∧ (0 : Int) ≤ (2 : Int) ∧ 2 ≤ 46 ∧ (0 : Int) ≤ (0 : Int) ∧ 0 < 2 ∧ 0 < 2 ∧ (0 : Int) ≤ Int.ofNat 1 ∧ 1 < 2 ∧ 1 < 2 ∧ (0 : Int) ≤ (32 : Int) ∧ 32 ≤ 44 ∧ 34 ≤ 46 ∧ 0 = 0 ∧ roomFor 0 32 1 ∧ (0 : Int) ≤ (32 : Int) ∧ 32 ≤ 44 ∧ 32 = 32 ∧ (0 : Int) ≤ (1 : Int) ∧ 1 ≤ 12 ∧ 35 ≤ 46 ∧ 0 = 0 ∧ roomFor 0 1 1 ∧ (0 : Int) ≤ (1 : Int) ∧ 1 ≤ 12 ∧ (0 : Int) ≤ (0 : Int) ∧ 0 < 1 ∧ 0 < 1 ∧ (0 : Int) ≤ Int.ofNat 0 ∧ 0 ≤ 11 ∧ 35 ≤ 46 ∧ 0 = 0 ∧ roomFor 0 0 1 ∧ (0 : Int) ≤ Int.ofNat 0 ∧ 0 ≤ 11 ∧ 0 < 17 ∧ 0 < 17 ∧ 17 = 17 ∧ 17 < 4611686018427387904 ∧ (0 : Int) ≤ (2 : Int) ∧ 2 ≤ 11 ∧ 37 ≤ 46 ∧ 0 = 0 ∧ roomFor 0 2 1 ∧ (0 : Int) ≤ (2 : Int) ∧ 2 ≤ 11 ∧ (0 : Int) ≤ (0 : Int) ∧ 0 < 2 ∧ 0 < 2 ∧ (0 : Int) ≤ Int.ofNat 1 ∧ 1 < 2 ∧ 1 < 2 ∧ (0 : Int) ≤ (1 : Int) ∧ 1 ≤ 9 ∧ 38 ≤ 46 ∧ 0 = 0 ∧ roomFor 0 1 1 ∧ (0 : Int) ≤ (1 : Int) ∧ 1 ≤ 9 ∧ (0 : Int) ≤ (0 : Int) ∧ 0 < 1 ∧ 0 < 1 ∧ (0 : Int) ≤ (2 : Int) ∧ 2 ≤ 8 ∧ 40 ≤ 46 ∧ 0 = 0 ∧ roomFor 0 2 1 ∧ (0 : Int) ≤ (2 : Int) ∧ 2 ≤ 8 ∧ (0 : Int) ≤ (0 : Int) ∧ 0 < 2 ∧ 0 < 2 ∧ (0 : Int) ≤ Int.ofNat 1 ∧ 1 < 2 ∧ 1 < 2 ∧ (0 : Int) ≤ Int.ofNat 6 ∧ 6 ≤ 6 ∧ 46 ≤ 46 ∧ 0 = 0 ∧ roomFor 0 6 1 ∧ (0 : Int) ≤ Int.ofNat 6 ∧ 6 ≤ 6 ∧ 6 = 6 ∧ 0 = 0 ∧ roomFor 0 6 1 ∧ (0 : Int) ≤ (2 : Int) ∧ 2 ≤ 6 ∧ 2 ≤ 6 ∧ 0 = 0 ∧ roomFor 0 2 1 ∧ (0 : Int) ≤ (2 : Int) ∧ 2 ≤ 6 ∧ (0 : Int) ≤ (0 : Int) ∧ 0 < 2 ∧ 0 < 2 ∧ (0 : Int) ≤ Int.ofNat 1 ∧ 1 < 2 ∧ 1 < 2 ∧ (0 : Int) ≤ (2 : Int) ∧ 2 ≤ 4 ∧ 4 ≤ 6 ∧ 0 = 0 ∧ roomFor 0 2 1 ∧ (0 : Int) ≤ (2 : Int) ∧ 2 ≤ 4 ∧ (0 : Int) ≤ (0 : Int) ∧ 0 < 2 ∧ 0 < 2 ∧ (0 : Int) ≤ Int.ofNat 1 ∧ 1 < 2 ∧ 1 < 2 ∧ (0 : Int) ≤ Int.ofNat 2 ∧ 2 ≤ 2 ∧ 6 ≤ 6 ∧ 0 = 0 ∧ roomFor 0 2 1 ∧ (0 : Int) ≤ Int.ofNat 2 ∧ 2 ≤ 2 ∧ 2 = 2 ∧ 0 = 0 ∧ roomFor 0 2 1 ∧ (0 : Int) ≤ (2 : Int) ∧ 2 ≤ 2 ∧ 2 ≤ 2 ∧ 0 = 0 ∧ roomFor 0 2 1 ∧ (0 : Int) ≤ (2 : Int) ∧ 2 ≤ 2 ∧ (0 : Int) ≤ (0 : Int) ∧ 0 < 2 ∧ 0 < 2 ∧ (0 : Int) ≤ Int.ofNat 1 ∧ 1 < 2 ∧ 1 < 2 ∧ x2) (46 = 46 ∧ 0 = 0 ∧ roomFor 0 46 1 ∧ (0 : Int) ≤ (2 : Int) ∧ 2 ≤ 46 ∧ 2 ≤ 46 ∧ 0 = 0 ∧ roomFor 0 2 1 ∧ (0 : Int) ≤ (2 : Int) ∧ 2 ≤ 46 ∧ (0 : Int) ≤ (0 : Int) ∧ 0 < 2 ∧ 0 < 2 ∧ (0 : Int) ≤ Int.ofNat 1 ∧ 1 < 2 ∧ 1 < 2 ∧ (0 : Int) ≤ (32 : Int) ∧ 32 ≤ 44 ∧ 34 ≤ 46 ∧ 0 = 0 ∧ roomFor 0 32 1 ∧ (0 : Int) ≤ (32 : Int) ∧ 32 ≤ 44 ∧ 32 = 32 ∧ (0 : Int) ≤ (1 : Int) ∧ 1 ≤ 12 ∧ 35 ≤ 46 ∧ 0 = 0 ∧ roomFor 0 1 1 ∧ (0 : Int) ≤ (1 : Int) ∧ 1 ≤ 12 ∧ (0 : Int) ≤ (0 : Int) ∧ 0 < 1 ∧ 0 < 1 ∧ (0 : Int) ≤ Int.ofNat 0 ∧ 0 ≤ 11 ∧ 35 ≤ 46 ∧ 0 = 0 ∧ roomFor 0 0 1 ∧ (0 : Int) ≤ Int.ofNat 0 ∧ 0 ≤ 11 ∧ 0 < 17 ∧ 0 < 17 ∧ 17 = 17 ∧ 17 < 4611686018427387904 ∧ (0 : Int) ≤ (2 : Int) ∧ 2 ≤ 11 ∧ 37 ≤ 46 ∧ 0 = 0 ∧ roomFor 0 2 1 ∧ (0 : Int) ≤ (2 : Int) ∧ 2 ≤ 11 ∧ (0 : Int) ≤ (0 : Int) ∧ 0 < 2 ∧ 0 < 2 ∧ (0 : Int) ≤ Int.ofNat 1 ∧ 1 < 2 ∧ 1 < 2 ∧ (0 : Int) ≤ (1 : Int) ∧ 1 ≤ 9 ∧ 38 ≤ 46 ∧ 0 = 0 ∧ roomFor 0 1 1 ∧ (0 : Int) ≤ (1 : Int) ∧ 1 ≤ 9 ∧ (0 : Int) ≤ (0 : Int) ∧ 0 < 1 ∧ 0 < 1 ∧ (0 : Int) ≤ (2 : Int) ∧ 2 ≤ 8 ∧ 40 ≤ 46 ∧ 0 = 0 ∧ roomFor 0 2 1 ∧ (0 : Int) ≤ (2 : Int) ∧ 2 ≤ 8 ∧ (0 : Int) ≤ (0 : Int) ∧ 0 < 2 ∧ 0 < 2 ∧ (0 : Int) ≤ Int.ofNat 1 ∧ 1 < 2 ∧ 1 < 2 ∧ (0 : Int) ≤ Int.ofNat 6 ∧ 6 ≤ 6 ∧ 46 ≤ 46 ∧ 0 = 0 ∧ roomFor 0 6 1 ∧ (0 : Int) ≤ Int.ofNat 6 ∧ 6 ≤ 6 ∧ 6 = 6 ∧ 0 = 0 ∧ roomFor 0 6 1 ∧ (0 : Int) ≤ (2 : Int) ∧ 2 ≤ 6 ∧ 2 ≤ 6 ∧ 0 = 0 ∧ roomFor 0 2 1 ∧ (0 : Int) ≤ (2 : Int) ∧ 2 ≤ 6 ∧ (0 : Int) ≤ (0 : Int) ∧ 0 < 2 ∧ 0 < 2 ∧ (0 : Int) ≤ Int.ofNat 1 ∧ 1 < 2 ∧ 1 < 2 ∧ (0 : Int) ≤ (2 : Int) ∧ 2 ≤ 4 ∧ 4 ≤ 6 ∧ 0 = 0 ∧ roomFor 0 2 1 ∧ (0 : Int) ≤ (2 : Int) ∧ 2 ≤ 4 ∧ (0 : Int) ≤ (0 : Int) ∧ 0 < 2 ∧ 0 < 2 ∧ (0 : Int) ≤ Int.ofNat 1 ∧ 1 < 2 ∧ 1 < 2 ∧ (0 : Int) ≤ Int.ofNat 2 ∧ 2 ≤ 2 ∧ 6 ≤ 6 ∧ 0 = 0 ∧ roomFor 0 2 1 ∧ (0 : Int) ≤ Int.ofNat 2 ∧ 2 ≤ 2 ∧ 2 = 2 ∧ 0 = 0 ∧ roomFor 0 2 1 ∧ (0 : Int) ≤ (2 : Int) ∧ 2 ≤ 2 ∧ 2 ≤ 2 ∧ 0 = 0 ∧ roomFor 0 2 1 ∧ (0 : Int) ≤ (2 : Int) ∧ 2 ≤ 2 ∧ (0 : Int) ≤ (0 : Int) ∧ 0 < 2 ∧ 0 < 2 ∧ (0 : Int) ≤ Int.ofNat 1 ∧ 1 < 2 ∧ 1 < 2 ∧ 0 < 17 ∧ 0 < 17 ∧ 17 = 17 ∧ 17 < 4611686018427387904 ∧ Bool.true = Bool.true ∧ True) !x1) (46 = 46 ∧ 0 = 0 ∧ roomFor 0 46 1 ∧ (0 : Int) ≤ (2 : Int) ∧ 2 ≤ 46 ∧ 2 ≤ 46 ∧ 0 = 0 ∧ roomFor 0 2 1 ∧ (0 : Int) ≤ (2 : Int) ∧ 2 ≤ 46 ∧ (0 : Int) ≤ (0 : Int) ∧ 0 < 2 ∧ 0 < 2 ∧ (0 : Int) ≤ Int.ofNat 1 ∧ 1 < 2 ∧ 1 < 2 ∧ (0 : Int) ≤ (32 : Int) ∧ 32 ≤ 44 ∧ 34 ≤ 46 ∧ 0 = 0 ∧ roomFor 0 32 1 ∧ (0 : Int) ≤ (32 : Int) ∧ 32 ≤ 44 ∧ 32 = 32 ∧ (0 : Int) ≤ (1 : Int) ∧ 1 ≤ 12 ∧ 35 ≤ 46 ∧ 0 = 0 ∧ roomFor 0 1 1 ∧ (0 : Int) ≤ (1 : Int) ∧ 1 ≤ 12 ∧ (0 : Int) ≤ (0 : Int) ∧ 0 < 1 ∧ 0 < 1 ∧ (0 : Int) ≤ Int.ofNat 0 ∧ 0 ≤ 11 ∧ 35 ≤ 46 ∧ 0 = 0 ∧ roomFor 0 0 1 ∧ (0 : Int) ≤ Int.ofNat 0 ∧ 0 ≤ 11 ∧ 0 < 17 ∧ 0 < 17 ∧ 17 = 17 ∧ 17 < 4611686018427387904 ∧ (0 : Int) ≤ (2 : Int) ∧ 2 ≤ 11 ∧ 37 ≤ 46 ∧ 0 = 0 ∧ roomFor 0 2 1 ∧ (0 : Int) ≤ (2 : Int) ∧ 2 ≤ 11 ∧ (0 : Int) ≤ (0 : Int) ∧ 0 < 2 ∧ 0 < 2 ∧ (0 : Int) ≤ Int.ofNat 1 ∧ 1 < 2 ∧ 1 < 2 ∧ (0 : Int) ≤ (1 : Int) ∧ 1 ≤ 9 ∧ 38 ≤ 46 ∧ 0 = 0 ∧ roomFor 0 1 1 ∧ (0 : Int) ≤ (1 : Int) ∧ 1 ≤ 9 ∧ (0 : Int) ≤ (0 : Int) ∧ 0 < 1 ∧ 0 < 1 ∧ (0 : Int) ≤ (2 : Int) ∧ 2 ≤ 8 ∧ 40 ≤ 46 ∧ 0 = 0 ∧ roomFor 0 2 1 ∧ (0 : Int) ≤ (2 : Int) ∧ 2 ≤ 8 ∧ (0 : Int) ≤ (0 : Int) ∧ 0 < 2 ∧ 0 < 2 ∧ (0 : Int) ≤ Int.ofNat 1 ∧ 1 < 2 ∧ 1 < 2 ∧ (0 : Int) ≤ Int.ofNat 6 ∧ 6 ≤ 6 ∧ 46 ≤ 46 ∧ 0 = 0 ∧ roomFor 0 6 1 ∧ (0 : Int) ≤ Int.ofNat 6 ∧ 6 ≤ 6 ∧ 6 = 6 ∧ 0 = 0 ∧ roomFor 0 6 1 ∧ (0 : Int) ≤ (2 : Int) ∧ 2 ≤ 6 ∧ 2 ≤ 6 ∧ 0 = 0 ∧ roomFor 0 2 1 ∧ (0 : Int) ≤ (2 : Int) ∧ 2 ≤ 6 ∧ (0 : Int) ≤ (0 : Int) ∧ 0 < 2 ∧ 0 < 2 ∧ (0 : Int) ≤ Int.ofNat 1 ∧ 1 < 2 ∧ 1 < 2 ∧ (0 : Int) ≤ (2 : Int) ∧ 2 ≤ 4 ∧ 4 ≤ 6 ∧ 0 = 0 ∧ roomFor 0 2 1 ∧ (0 : Int) ≤ (2 : Int) ∧ 2 ≤ 4 ∧ (0 : Int) ≤ (0 : Int) ∧ 0 < 2 ∧ 0 < 2 ∧ (0 : Int) ≤ Int.ofNat 1 ∧ 1 < 2 ∧ 1 < 2 ∧ (0 : Int) ≤ Int.ofNat 2 ∧ 2 ≤ 2 ∧ 6 ≤ 6 ∧ 0 = 0 ∧ roomFor 0 2 1 ∧ (0 : Int) ≤ Int.ofNat 2 ∧ 2 ≤ 2 ∧ 2 = 2 ∧ 0 = 0 ∧ roomFor 0 2 1 ∧ (0 : Int) ≤ (2 : Int) ∧ 2 ≤ 2 ∧ 2 ≤ 2 ∧ 0 = 0 ∧ roomFor 0 2 1 ∧ (0 : Int) ≤ (2 : Int) ∧ 2 ≤ 2 ∧ (0 : Int) ≤ (0 : Int) ∧ 0 < 2 ∧ 0 < 2 ∧ (0 : Int) ≤ Int.ofNat 1 ∧ 1 < 2 ∧ 1 < 2 ∧ Bool.true = Bool.false ∧ True) x1) !x1 : Prop) := by kernel_rfl
set_option maxHeartbeats 0 in
set_option maxRecDepth 100000 in
theorem bh17 : Must (bodyP Tryd.prog H31 gl0 [] [] 3000 Tryd.f17 0 [] [] (retQ Tryd.prog Tryd.f17 0 ⟨[], .bool true, [], []⟩)) := by
  constructor
  rw [vh17]
  intro x1 x2
  have h1 : x1 = false := hrr_and
  clear_value x1
  subst h1
  repeat' first
    | decide
    | exact trivial
    | (unfold roomFor; decide)
    | refine ⟨?_, ?_⟩
    | refine brec (fun h => ?_) (fun h => absurd h (by decide))
    | refine brec (fun h => absurd h (by decide)) (fun h => ?_)
end Go.Sym

namespace Go.Sym
open Go.Proofs Go.Spec
set_option linter.unusedVariables false
def gGr (xs : List AV) (bs : List ABlk) : TL := match xs, bs with
  | [], [] => .ok ⟨[], .bool true, [], []⟩
  | _, _ => .no
def spGr : Spec := ⟨[], fun _ _ => [], fun _ _ => [], gGr⟩
theorem ch17 : COK Tryd.prog gl0 17 (mkF spGr) := by
  refine ctrE (fn := Tryd.f17) [] 3000 (by kernel_rfl) (by kernel_rfl) okH31 (by kernel_rfl) (fun args w => by kernel_rfl) fun xs bs r hs ho => ?_
  replace hs : (gGr xs bs).sel = some r := hs
  unfold gGr at hs
  split at hs
  · simp only [TL.sel, Option.some.injEq] at hs
    subst hs
    exact ⟨[], bh17⟩
  · simp [TL.sel] at hs
noncomputable def L0 : Ctx := H31.add 17 (mkF spGr)
theorem okL0 : COKs Tryd.prog gl0 L0 := okH31.add ch17
noncomputable def L1 : Ctx := L0.exe Tryd.prog gl0 [] 600 2 110 Tryd.f110
theorem okL1 : COKs Tryd.prog gl0 L1 := okL0.exe [] 600 _ (by kernel_rfl) (by kernel_rfl) (by kernel_rfl) (fun args w => by kernel_rfl)
noncomputable def L2 : Ctx := L1.exe Tryd.prog gl0 [] 600 Tryd.f141.params.size 141 Tryd.f141
theorem okL2 : COKs Tryd.prog gl0 L2 := okL1.exe [] 600 _ (by kernel_rfl) (by kernel_rfl) (by kernel_rfl) (fun args w => by kernel_rfl)
noncomputable def L3 : Ctx := L2.exe Tryd.prog gl0 [] 600 Tryd.f109.params.size 109 Tryd.f109
theorem okL3 : COKs Tryd.prog gl0 L3 := okL2.exe [] 600 _ (by kernel_rfl) (by kernel_rfl) (by kernel_rfl) (fun args w => by kernel_rfl)
noncomputable def L4 : Ctx := L3.exe Tryd.prog gl0 [] 600 Tryd.f70.params.size 70 Tryd.f70
theorem okL4 : COKs Tryd.prog gl0 L4 := okL3.exe [] 600 _ (by kernel_rfl) (by kernel_rfl) (by kernel_rfl) (fun args w => by kernel_rfl)
noncomputable def L5 : Ctx := L4.exe Tryd.prog gl0 [] 600 Tryd.f73.params.size 73 Tryd.f73
theorem okL5 : COKs Tryd.prog gl0 L5 := okL4.exe [] 600 _ (by kernel_rfl) (by kernel_rfl) (by kernel_rfl) (fun args w => by kernel_rfl)
noncomputable def L6 : Ctx := L5.exe Tryd.prog gl0 [] 600 2 112 Tryd.f112
theorem okL6 : COKs Tryd.prog gl0 L6 := okL5.exe [] 600 _ (by kernel_rfl) (by kernel_rfl) (by kernel_rfl) (fun args w => by kernel_rfl)
noncomputable def L7 : Ctx := L6.exe Tryd.prog gl0 [] 600 Tryd.f142.params.size 142 Tryd.f142
theorem okL7 : COKs Tryd.prog gl0 L7 := okL6.exe [] 600 _ (by kernel_rfl) (by kernel_rfl) (by kernel_rfl) (fun args w => by kernel_rfl)
noncomputable def L8 : Ctx := L7.exe Tryd.prog gl0 [] 600 Tryd.f111.params.size 111 Tryd.f111
theorem okL8 : COKs Tryd.prog gl0 L8 := okL7.exe [] 600 _ (by kernel_rfl) (by kernel_rfl) (by kernel_rfl) (fun args w => by kernel_rfl)
noncomputable def L9 : Ctx := L8.exe Tryd.prog gl0 [] 600 Tryd.f72.params.size 72 Tryd.f72
theorem okL9 : COKs Tryd.prog gl0 L9 := okL8.exe [] 600 _ (by kernel_rfl) (by kernel_rfl) (by kernel_rfl) (fun args w => by kernel_rfl)
noncomputable def L10 : Ctx := L9.exe Tryd.prog gl0 [] 600 Tryd.f75.params.size 75 Tryd.f75
theorem okL10 : COKs Tryd.prog gl0 L10 := okL9.exe [] 600 _ (by kernel_rfl) (by kernel_rfl) (by kernel_rfl) (fun args w => by kernel_rfl)
noncomputable def L11 : Ctx := L10.exe Tryd.prog gl0 [] 600 2 115 Tryd.f115
theorem okL11 : COKs Tryd.prog gl0 L11 := okL10.exe [] 600 _ (by kernel_rfl) (by kernel_rfl) (by kernel_rfl) (fun args w => by kernel_rfl)
noncomputable def L12 : Ctx := L11.exe Tryd.prog gl0 [] 600 Tryd.f143.params.size 143 Tryd.f143
theorem okL12 : COKs Tryd.prog gl0 L12 := okL11.exe [] 600 _ (by kernel_rfl) (by kernel_rfl) (by kernel_rfl) (fun args w => by kernel_rfl)
noncomputable def L13 : Ctx := L12.exe Tryd.prog gl0 [] 600 Tryd.f114.params.size 114 Tryd.f114
theorem okL13 : COKs Tryd.prog gl0 L13 := okL12.exe [] 600 _ (by kernel_rfl) (by kernel_rfl) (by kernel_rfl) (fun args w => by kernel_rfl)
noncomputable def L14 : Ctx := L13.exe Tryd.prog gl0 [] 600 Tryd.f74.params.size 74 Tryd.f74
theorem okL14 : COKs Tryd.prog gl0 L14 := okL13.exe [] 600 _ (by kernel_rfl) (by kernel_rfl) (by kernel_rfl) (fun args w => by kernel_rfl)
noncomputable def L15 : Ctx := L14.exe Tryd.prog gl0 [] 600 Tryd.f77.params.size 77 Tryd.f77
theorem okL15 : COKs Tryd.prog gl0 L15 := okL14.exe [] 600 _ (by kernel_rfl) (by kernel_rfl) (by kernel_rfl) (fun args w => by kernel_rfl)
noncomputable def L16 : Ctx := L15.exe Tryd.prog gl0 [] 600 2 117 Tryd.f117
theorem okL16 : COKs Tryd.prog gl0 L16 := okL15.exe [] 600 _ (by kernel_rfl) (by kernel_rfl) (by kernel_rfl) (fun args w => by kernel_rfl)
noncomputable def L17 : Ctx := L16.exe Tryd.prog gl0 [] 600 Tryd.f144.params.size 144 Tryd.f144
theorem okL17 : COKs Tryd.prog gl0 L17 := okL16.exe [] 600 _ (by kernel_rfl) (by kernel_rfl) (by kernel_rfl) (fun args w => by kernel_rfl)
noncomputable def L18 : Ctx := L17.exe Tryd.prog gl0 [] 600 Tryd.f116.params.size 116 Tryd.f116
theorem okL18 : COKs Tryd.prog gl0 L18 := okL17.exe [] 600 _ (by kernel_rfl) (by kernel_rfl) (by kernel_rfl) (fun args w => by kernel_rfl)
noncomputable def L19 : Ctx := L18.exe Tryd.prog gl0 [] 600 Tryd.f76.params.size 76 Tryd.f76
theorem okL19 : COKs Tryd.prog gl0 L19 := okL18.exe [] 600 _ (by kernel_rfl) (by kernel_rfl) (by kernel_rfl) (fun args w => by kernel_rfl)
noncomputable def L20 : Ctx := L19.exe Tryd.prog gl0 [] 600 Tryd.f37.params.size 37 Tryd.f37
theorem okL20 : COKs Tryd.prog gl0 L20 := okL19.exe [] 600 _ (by kernel_rfl) (by kernel_rfl) (by kernel_rfl) (fun args w => by kernel_rfl)
noncomputable def L21 : Ctx := L20.exe Tryd.prog gl0 [] 600 Tryd.f80.params.size 80 Tryd.f80
theorem okL21 : COKs Tryd.prog gl0 L21 := okL20.exe [] 600 _ (by kernel_rfl) (by kernel_rfl) (by kernel_rfl) (fun args w => by kernel_rfl)
noncomputable def L22 : Ctx := L21.exe Tryd.prog gl0 [] 600 Tryd.f82.params.size 82 Tryd.f82
theorem okL22 : COKs Tryd.prog gl0 L22 := okL21.exe [] 600 _ (by kernel_rfl) (by kernel_rfl) (by kernel_rfl) (fun args w => by kernel_rfl)
noncomputable def L23 : Ctx := L22.exe Tryd.prog gl0 [] 600 Tryd.f84.params.size 84 Tryd.f84
theorem okL23 : COKs Tryd.prog gl0 L23 := okL22.exe [] 600 _ (by kernel_rfl) (by kernel_rfl) (by kernel_rfl) (fun args w => by kernel_rfl)
noncomputable def L24 : Ctx := L23.exe Tryd.prog gl0 [] 600 Tryd.f38.params.size 38 Tryd.f38
theorem okL24 : COKs Tryd.prog gl0 L24 := okL23.exe [] 600 _ (by kernel_rfl) (by kernel_rfl) (by kernel_rfl) (fun args w => by kernel_rfl)
noncomputable def L25 : Ctx := L24.exe Tryd.prog gl0 [] 600 Tryd.f14.params.size 14 Tryd.f14
theorem okL25 : COKs Tryd.prog gl0 L25 := okL24.exe [] 600 _ (by kernel_rfl) (by kernel_rfl) (by kernel_rfl) (fun args w => by kernel_rfl)
noncomputable def L26 : Ctx := L25.exe Tryd.prog gl0 [] 600 Tryd.f15.params.size 15 Tryd.f15
theorem okL26 : COKs Tryd.prog gl0 L26 := okL25.exe [] 600 _ (by kernel_rfl) (by kernel_rfl) (by kernel_rfl) (fun args w => by kernel_rfl)
end Go.Sym

set_option linter.unusedSimpArgs false
namespace Go.Spec
open Go.Sym
def Cli.cN (c : Cli) : Int := if 0 < c.n6 then (c.by.length : Int) - 2 - 33 * c.n6 else 0
def Cli.cE (c : Cli) : Int := if 0 < c.n6 then 0 else 13
end Go.Spec
namespace Go.Sym
open Go.Proofs Go.Spec
set_option linter.unusedVariables false
theorem bx19 (c : Cli) (h : c.ok) : Must (bodyP Tryd.prog (Gb5 c) gl0 [] [] 3000 Tryd.f19 0 [.rb false c.by .unk] [] (retQ Tryd.prog Tryd.f19 0 ⟨[], .tup [.int .i64 c.cN, .int .i64 c.cE], [], []⟩)) := by
  constructor
  rw [vx19]
  have hb := (byAt_of c h).l
  have h6 := h.h6.1
  have h7 := h.h7
  unfold Cli.cN Cli.cE
  refine ⟨h, rfl, ?_⟩
  refine brec (fun d => ?_) (fun d => ?_)
  · have d : (c.n6 : Int) = 0 := of_decide_eq_true d
    rw [if_neg (by omega), if_neg (by omega)]
    exact ⟨rfl, rfl, trivial⟩
  · have d : ¬ (c.n6 : Int) = 0 := of_decide_eq_false d
    rw [if_pos (by omega), if_pos (by omega), h7]
    have w1 : IntKind.i64.wrap ((c.n6 : Int) * 33) = 33 * c.n6 := by rw [wrap_i64 (by omega) (by omega)]; omega
    have w2 : IntKind.i64.wrap ((c.by.length : Int) - 2) = (c.by.length : Int) - 2 := wrap_i64 (by omega) (by omega)
    rw [w1, w2, wrap_i64 (by omega) (by omega)]
    exact ⟨rfl, rfl, trivial⟩
def gg19 (c : Cli) (xs : List AV) (bs : List ABlk) : TL := match xs, bs with
  | [.rb false b .unk], [] => .ok ⟨[c.ok, b = c.by], .tup [.int .i64 c.cN, .int .i64 c.cE], [], []⟩
  | _, _ => .no
def sp19 (c : Cli) : Spec := ⟨[.by0], fun _ _ => [], fun _ _ => [], gg19 c⟩
theorem cg19 (c : Cli) : COK Tryd.prog gl0 19 (mkF (sp19 c)) := by
  refine ctrE (fn := Tryd.f19) [] 3000 (by kernel_rfl) (by kernel_rfl) (okGb5 c) (by kernel_rfl) (fun args w => by kernel_rfl) fun xs bs r hs ho => ?_
  replace hs : (gg19 c xs bs).sel = some r := hs
  unfold gg19 at hs
  split at hs
  · simp only [TL.sel, Option.some.injEq] at hs
    subst hs
    obtain ⟨h, h2⟩ := obsT_cons.1 ho
    have h2 := obsT_one.1 h2
    subst h2
    exact ⟨_, bx19 c h⟩
  · simp [TL.sel] at hs
noncomputable def Gy (c : Cli) : Ctx := ((((((((Ctx.none []).add 15 (mkF spt15)).add 14 (mkF spn14)).add 16 (mkF spd16)).add 17 (mkF spGr)).add 18 (mkF (sp47 c))).add 19 (mkF (sp19 c))).add 20 (mkF sps20)).add 21 (mkF spf21)
theorem okGy (c : Cli) : COKs Tryd.prog gl0 (Gy c) := ((((((((COKs.none (keep := [])).add ct15).add cn14).add cd16).add ch17).add (cg18 c)).add (cg19 c)).add cs20).add cf21
end Go.Sym

set_option linter.unusedSimpArgs false
namespace Go.Spec
open Go.Sym
theorem Cli.re_re (c : Cli) : c.re.re = c.re := by
  show ({ c with R := fun i => (rg 32 (fun i => (rg 32 c.R).getD i (0 : BitVec 8))).getD i 0 } : Cli) = { c with R := fun i => (rg 32 c.R).getD i (0 : BitVec 8) }
  rw [rgf]
theorem Cli.re_pB (c : Cli) : c.re.pB = c.pB := by unfold Cli.pB; rw [c.re_okB, c.re_by]
theorem Cli.re_pE (c : Cli) : c.re.pE = c.pE := by unfold Cli.pE; rw [c.re_okB]
theorem Cli.re_sz (c : Cli) (h : c.sz) : c.re.sz := ⟨h.h1, h.h2, h.h3, h.h4, h.h5, h.h6, h.k5, h.k6, h.k7⟩
end Go.Spec
namespace Go.Sym
open Go.Proofs Go.Spec
set_option linter.unusedVariables false
def rowsF (c : Cli) (P : Prop) : Prop := ((fun (j : Nat) => [AV.int IntKind.i64 (c.L1 j)]) = fun (j : Nat) => [AV.int IntKind.i64 (c.L1 j)]) ∧ ((fun (j : Nat) => [AV.int IntKind.i64 (c.L2 j)]) = fun (j : Nat) => [AV.int IntKind.i64 (c.L2 j)]) ∧ ((fun (j : Nat) => [AV.int IntKind.i64 (c.L3 j)]) = fun (j : Nat) => [AV.int IntKind.i64 (c.L3 j)]) ∧ ((fun (j : Nat) => [AV.int IntKind.i64 (c.L4 j)]) = fun (j : Nat) => [AV.int IntKind.i64 (c.L4 j)]) ∧ ((fun (j : Nat) => [AV.int IntKind.i64 (c.G j), AV.rb Bool.true (c.K j) NL.unk]) = fun (j : Nat) => [AV.int IntKind.i64 (c.G j), AV.rb Bool.true (c.K j) NL.unk]) ∧ ((fun (j : Nat) => [AV.rb Bool.true (c.T j) NL.unk, AV.int IntKind.i64 (c.A j)]) = fun (j : Nat) => [AV.rb Bool.true (c.T j) NL.unk, AV.int IntKind.i64 (c.A j)]) ∧ ((fun (j : Nat) => [AV.rb Bool.true (c.D j) NL.unk]) = fun (j : Nat) => [AV.rb Bool.true (c.D j) NL.unk]) ∧ P
theorem rowsF_of {c : Cli} {P : Prop} (h : P) : rowsF c P := ⟨rfl, rfl, rfl, rfl, rfl, rfl, rfl, h⟩
def dC (c : Cli) (s t : Nat → NL) (P : Prop) : Prop := 0 + c.n5 ≤ c.n5 ∧ (∀ y, y < c.n5 → datas false [AV.int IntKind.i64 (c.G y), AV.rb true (c.K y) (s y)] = true ∧ [AV.int IntKind.i64 (c.G y), AV.rb true (c.K y) (s y)].length ≤ 2) ∧ 0 + c.n6 ≤ c.n6 ∧ (∀ y, y < c.n6 → datas false [AV.rb true (c.T y) (t y), AV.int IntKind.i64 (c.A y)] = true ∧ [AV.rb true (c.T y) (t y), AV.int IntKind.i64 (c.A y)].length ≤ 2) ∧ P
theorem dC_of {c : Cli} {s t : Nat → NL} {P : Prop} (h : P) : dC c s t P := ⟨by omega, fun _ _ => ⟨rfl, Nat.le_refl _⟩, by omega, fun _ _ => ⟨rfl, Nat.le_refl _⟩, h⟩
def ff : Prop := true = false ∧ True
def c14 (c : Cli) : Prop := @Bool.rec (fun _ => Prop) ff (true = decide (c.cN = IntKind.i64.wrap (IntKind.i64.wrap ((c.re.re.pB.length : Int) - (2 : Int)) - IntKind.i64.wrap ((33 : Int) * (c.n6 : Int)))) ∧ True) (decide (c.cE = (0 : Int)))
def okb (c : Cli) (u : Clt) : Prop := c.re.re.pB.length = c.re.re.pB.length ∧ c.ok ∧ c.re.re.pB = c.by ∧ c.re.re.pB.length = c.re.re.pB.length ∧ c.ok ∧ c.re.re.pB = c.by ∧ c.n5 < 1099511627 ∧ c.n6 < 1099511627 ∧ rowsF c (dC c (fun _ => .unk) (fun _ => .unk) (sm20 c.re.re c.re ∧ rowsF c True ∧ rowsE c u.toClu (@Bool.rec (fun _ => Prop) (@Bool.rec (fun _ => Prop) (c14 c) (@Bool.rec (fun _ => Prop) (true = true ∧ True) (c14 c) (!decide (c.cN = (0 : Int)))) (decide (c.cE = (13 : Int)))) ff (!decide (decide (c.cE = (0 : Int)) = decide ((0 : Int) < (c.n6 : Int)))))))
set_option maxRecDepth 100000 in
theorem vl5 (c : Cli) (u : Clt) : bodyP Tryd.prog (Gy c) gl0 [] [] 3000 Tryd.f5 0 [cliT c u] [] (retQ Tryd.prog Tryd.f5 0 ⟨[], .bool true, [], []⟩) = (
  c.n5 * 32 ≤ 140737488351232 ∧ c.n6 * 32 ≤ 140737488351232 ∧ rowsE c u.toClu (dC c (fun y => .is (u.C y)) (fun y => .is (u.F y)) (rowsE c u.toClu (c.re.sz ∧ rowsE c u.toClu
    (@Bool.rec (fun _ => Prop) ff (c.re.re.pB.length = c.re.re.pB.length ∧ c.re.pB.length = c.re.pB.length ∧
      @Bool.rec (fun _ => Prop) (@Bool.rec (fun _ => Prop) (okb c u) (true = decide (c.re.re.pE = (1 : Int)) ∧ True) (!decide (c.re.re.pE = (0 : Int)))) ff (!decide (c.re.re.pB = c.re.pB))) (!!decide (decide (c.re.re.pE = (0 : Int)) = c.re.okB)))))) ) := by kernel_rfl
theorem bl5 (c : Cli) (u : Clt) (hz : c.sz) : Must (bodyP Tryd.prog (Gy c) gl0 [] [] 3000 Tryd.f5 0 [cliT c u] [] (retQ Tryd.prog Tryd.f5 0 ⟨[], .bool true, [], []⟩)) := by
  constructor
  rw [vl5]
  refine ⟨hz.h5, hz.h6, rowsE_of (dC_of (rowsE_of ⟨c.re_sz hz, rowsE_of ?_⟩))⟩
  unfold okb c14
  rw [c.re_re, c.re_pB, c.re_pE, c.re_okB]
  refine brec (fun d => ⟨rfl, rfl, ?_⟩) (fun d => ?_)
  · refine brec (fun d2 => ?_) (fun _ => ?_)
    · simp at d2
    · refine brec (fun d3 => ?_) (fun d3 => ?_)
      · have d3 : ¬ c.pE = 0 := by simpa using d3
        refine ⟨?_, trivial⟩
        unfold Cli.pE at d3 ⊢
        by_cases h : c.okB = true
        · rw [if_pos h] at d3; exact absurd rfl d3
        · rw [if_neg h]; rfl
      · have d3 : c.pE = 0 := by simpa using d3
        have hk : c.okB = true := by
          unfold Cli.pE at d3
          by_cases h : c.okB = true
          · exact h
          · rw [if_neg h] at d3; cases d3
        have h : c.ok := Cli.okB_iff.1 hk
        have hB : c.pB = c.by := by unfold Cli.pB; rw [if_pos hk]
        have hb := (byAt_of c h).l
        have h6 := h.h6.1
        rw [hB]
        have g1 := h.h1
        have g2 := h.h2
        have g3 := h.h3
        have g4 := h.h4
        have g5 := h.h5.1
        refine ⟨rfl, h, rfl, rfl, h, rfl, by omega, by omega, rowsF_of (dC_of ⟨⟨rfl, by show c.n1 < _; omega, by show c.n2 < _; omega, by show c.n3 < _; omega, by show c.n4 < _; omega, by show c.n5 < _; omega, by show c.n6 < _; omega, h.h7⟩, rowsF_of trivial, rowsE_of ?_⟩)⟩
        have w1 : IntKind.i64.wrap ((33 : Int) * (c.n6 : Int)) = 33 * c.n6 := wrap_i64 (by omega) (by omega)
        have w2 : IntKind.i64.wrap ((c.by.length : Int) - 2) = (c.by.length : Int) - 2 := wrap_i64 (by omega) (by omega)
        rw [w1, w2, wrap_i64 (by omega) (by omega)]
        unfold Cli.cE Cli.cN
        by_cases h0 : 0 < c.n6
        · have h0i : (0 : Int) < (c.n6 : Int) := by omega
          simp only [if_pos h0, h0i, decide_true]
          exact ⟨trivial, trivial⟩
        · have h0i : ¬ (0 : Int) < (c.n6 : Int) := by omega
          simp only [if_neg h0, h0i, decide_false]
          exact ⟨trivial, trivial⟩
  · exfalso
    have : decide (c.pE = 0) = c.okB := by
      unfold Cli.pE
      cases c.okB <;> rfl
    rw [this] at d
    simp at d
end Go.Sym

namespace Go.Sym
set_option linter.unusedVariables false
open Go.Spec
open Go.ChangeShapes Go.WideShapes
section
variable {H : Type} {enc : TypeId × Value → H} {P : Program} {W : World} {base : Nat} {spare : Nat → Bool} {held : Bool}
/-- What is read takes no more room than what is read may. -/
def Wok (P : Program) (t : TypeId) (d : DataW H) : Prop := ∀ b ∈ d.weights P t, b ≤ reachBytes
theorem Wok.field {t : TypeId} {fs : Array Field} (ht : P.underlying t = some (.struct fs)) {parts : List (DataW H)} (h : Wok P t (.agg parts)) {i : Nat} {f : Field} {d : DataW H} (hf : fs[i]? = some f) (hd : parts[i]? = some d) : Wok P f.type d := by
  intro b hb
  refine h b ?_
  simp only [DataW.weights, ht]
  exact DataW.weights_mem_each (j := i) (by simp [hf]) hd b hb
theorem w_all {e : TypeId} {n : Nat} : ∀ {l : List (DataW H)} {i : Nat} {d : DataW H}, l[i]? = some d → n ∈ d.weights P e → n ∈ DataW.weightsAll P e l
  | [], i, d, h, _ => by simp at h
  | a :: l, 0, d, h, hn => by
    simp only [List.getElem?_cons_zero, Option.some.injEq] at h
    subst h
    simp only [DataW.weightsAll, List.mem_append]
    exact .inl hn
  | a :: l, i + 1, d, h, hn => by
    simp only [List.getElem?_cons_succ] at h
    simp only [DataW.weightsAll, List.mem_append]
    exact .inr (w_all h hn)
theorem Wok.elem {t e : TypeId} (ht : P.underlying t = some (.slice e)) {l s : List (DataW H)} (h : Wok P t (.slice l s)) {i : Nat} {d : DataW H} (hd : l[i]? = some d) : Wok P e d := by
  intro b hb
  refine h b ?_
  simp only [DataW.weights, ht, List.mem_cons, List.mem_append]
  exact .inr (.inl (w_all hd hb))
theorem Wok.len {t e : TypeId} (ht : P.underlying t = some (.slice e)) {l s : List (DataW H)} (h : Wok P t (.slice l s)) : l.length * P.bytesOf e ≤ reachBytes := by
  have := h ((l.length + s.length) * P.bytesOf e) (by simp only [DataW.weights, ht, List.mem_cons]; exact .inl trivial)
  exact Nat.le_trans (Nat.mul_le_mul_right _ (Nat.le_add_right _ _)) this
theorem rd_bytesZ {t e : TypeId} {fuel : Nat} {cs : List Value} {x : DataW H × List MemPlace} (ht : P.underlying t = some (.slice e)) (he : P.underlying e = some (.int .u8)) (hc : P.cellsOf e = 1) (hb : P.bytesOf e = 1)
    (h : DataW.trod enc P W base spare held fuel t cs = some x) (hz : Wok P t x.1) : ∃ v l c, cs = [v] ∧ (c = true → l = []) ∧ l.length ≤ reachBytes ∧ VRel (κW W) (.rb true l (.is c)) v := by
  obtain ⟨v, l, c, hcs, h1, h2, h3⟩ := rd_bytes ht he hc h
  refine ⟨v, l, c, hcs, h1, ?_, h3⟩
  obtain ⟨a, k, hv, _⟩ := h3
  rcases DataW.trod_slice ht h with ⟨hcs2, _⟩ | ⟨a2, len, cap, elems, rest, n, _, hcs2, hx, _, _, _, hlen, _⟩
  · rw [hcs, List.cons.injEq, hv, Value.slice.injEq] at hcs2
    rw [hcs2.1.2.1]
    exact Nat.zero_le _
  · rw [hcs, List.cons.injEq, hv, Value.slice.injEq] at hcs2
    rw [hcs2.1.2.1]
    rw [hx] at hz
    have := hz.len ht
    rw [List.length_map, hlen, hb, Nat.mul_one] at this
    exact this
theorem fieldZ {t : TypeId} {fs : Array Field} {fuel : Nat} {cs : List Value} {x : DataW H × List MemPlace} (ht : P.underlying t = some (.struct fs)) (h : DataW.trod enc P W base spare held fuel t cs = some x) (hz : Wok P t x.1) {i : Nat} {f : Field} (hf : fs[i]? = some f) :
    ∃ m y, DataW.trod enc P W base spare held m f.type ((cs.drop f.offset).take (P.cellsOf f.type)) = some y ∧ Wok P f.type y.1 := by
  obtain ⟨xs, m, _, hx, _, hn, hel⟩ := DataW.trod_struct ht h
  have hi := (Array.getElem?_eq_some_iff.1 hf).1
  have e : xs[i]? = some (xs[i]'(by omega)) := List.getElem?_eq_getElem (by omega)
  rw [hx] at hz
  exact ⟨m, _, by rw [hel i f hf, e], hz.field ht (i := i) hf (by rw [List.getElem?_map, e]; rfl)⟩
theorem two_of {l : List Value} (h : l.length = 2) : ∃ a b, l = [a, b] := by
  match l, h with
  | [a, b], _ => exact ⟨a, b, rfl⟩
theorem rd_rowsZ {t e : TypeId} {fuel : Nat} {cs : List Value} {x : DataW H × List MemPlace} {sz : Nat} {Sh : List AV → Prop} {av0 : List AV} (ht : P.underlying t = some (.slice e)) (hsz : P.cellsOf e = sz) (hpos : 0 < sz) (h0 : Sh av0)
    (hel : ∀ n xs y, DataW.trod enc P W base spare held n e xs = some y → Wok P e y.1 → ∃ av, Sh av ∧ datas true av = true ∧ VRels (κW W) av xs)
    (h : DataW.trod enc P W base spare held fuel t cs = some x) (hz : Wok P t x.1) : ∃ v n g c, cs = [v] ∧ (c = true → n = 0) ∧ n * P.bytesOf e ≤ reachBytes ∧ (∀ y, Sh (g y)) ∧ VRel (κW W) (.ros true sz n g (.is c)) v := by
  subst hsz
  rcases DataW.trod_slice ht h with ⟨hcs, _⟩ | ⟨a, len, cap, elems, rest, n, _, hcs, hx, hb, hl, hm, hlen, hE, _, _⟩
  · exact ⟨_, 0, fun _ => av0, true, hcs, fun _ => rfl, by rw [Nat.zero_mul]; exact Nat.zero_le _, fun _ => h0, none, 0, rfl, Nat.le_refl _, rfl, .inl rfl⟩
  · rw [hx] at hz
    have hln := hz.len ht
    rw [List.length_map, hlen] at hln
    have each : ∀ i, ∃ av, Sh av ∧ (i < len → datas true av = true ∧ ∃ xs, W.cells? base (a.add (i * P.cellsOf e)) (P.cellsOf e) = some xs ∧ VRels (κW W) av xs) := by
      intro i
      by_cases hi : i < len
      · have h1 := hE i hi
        rw [List.getElem?_eq_getElem (by omega), Option.bind_eq_some_iff] at h1
        obtain ⟨xs, h2, h3⟩ := h1
        obtain ⟨av, h4, h5, h6⟩ := hel n xs _ h3 (hz.elem ht (i := i) (by rw [List.getElem?_map, List.getElem?_eq_getElem (by omega)]; rfl))
        exact ⟨av, h4, fun _ => ⟨h5, xs, h2, h6⟩⟩
      · exact ⟨av0, h0, fun h => absurd h hi⟩
    refine ⟨_, len, fun i => Classical.choose (each i), false, hcs, nofun, hln, fun i => (Classical.choose_spec (each i)).1, some a, cap, rfl, hl, rfl, ?_⟩
    rcases Nat.eq_zero_or_pos len with hz | hlp
    · exact .inl hz
    · right
      obtain ⟨B, O, spot⟩ := a
      have hsp : spot = none := by
        obtain ⟨_, xs, h2, _⟩ := (Classical.choose_spec (each 0)).2 hlp
        have h3 := (World.cells?_some h2).2.2 0 hpos
        cases xs with
        | nil =>
          have := (World.cells?_some h2).2.1
          simp only [List.length_nil] at this
          omega
        | cons x0 xs =>
          simp only [Nat.zero_mul, Addr.add, if_true, List.getElem?_cons_zero] at h3
          exact spot_none h3
      subst hsp
      refine ⟨B, O, rfl, fun i hi => ?_⟩
      obtain ⟨h1, xs, h2, h3⟩ := (Classical.choose_spec (each i)).2 hi
      refine ⟨h1, xs, h3, fun c y hy => ?_⟩
      have hc : c < P.cellsOf e := by rw [← (World.cells?_some h2).2.1]; exact (List.getElem?_eq_some_iff.1 hy).1
      have h4 := (World.cells?_some h2).2.2 c hc
      rw [Addr.add_at, Addr.add_at, hy] at h4
      show W.cell? ⟨B, O + (i * P.cellsOf e + c), none⟩ = some y
      rw [← Nat.add_assoc]
      exact h4
end
section
variable {H : Type} {enc : TypeId × Value → H} {W : World} {base : Nat} {spare : Nat → Bool} {held : Bool}
open Go.Proofs
theorem cl3 : Tryd.prog.cellsOf 3 = 1 := by kernel_rfl
theorem cl5 : Tryd.prog.cellsOf 5 = 1 := by kernel_rfl
theorem cl22 : Tryd.prog.cellsOf 22 = 1 := by kernel_rfl
theorem cl57 : Tryd.prog.cellsOf 57 = 2 := by kernel_rfl
theorem cl83 : Tryd.prog.cellsOf 83 = 2 := by kernel_rfl
theorem cl27 : Tryd.prog.cellsOf 27 = 32 := by kernel_rfl
theorem cl30 : Tryd.prog.cellsOf 30 = 1 := by kernel_rfl
theorem cl31 : Tryd.prog.cellsOf 31 = 1 := by kernel_rfl
theorem cl32 : Tryd.prog.cellsOf 32 = 1 := by kernel_rfl
theorem cl33 : Tryd.prog.cellsOf 33 = 1 := by kernel_rfl
theorem cl35 : Tryd.prog.cellsOf 35 = 42 := by kernel_rfl
theorem by3 : Tryd.prog.bytesOf 3 = 8 := by kernel_rfl
theorem by5 : Tryd.prog.bytesOf 5 = 1 := by kernel_rfl
theorem by22 : Tryd.prog.bytesOf 22 = 24 := by kernel_rfl
theorem by57 : Tryd.prog.bytesOf 57 = 32 := by kernel_rfl
theorem by83 : Tryd.prog.bytesOf 83 = 32 := by kernel_rfl
def shI (av : List AV) : Prop := ∃ n, av = [.int .i64 n]
def shS (av : List AV) : Prop := ∃ (n : Int) (l : By) (c : Bool), av = [.int .i64 n, .rb true l (.is c)] ∧ l.length ≤ reachBytes
def shT (av : List AV) : Prop := ∃ (n : Int) (l : By) (c : Bool), av = [.rb true l (.is c), .int .i64 n] ∧ l.length ≤ reachBytes
def shD (av : List AV) : Prop := ∃ (l : By) (c : Bool), av = [.rb true l (.is c)] ∧ l.length ≤ reachBytes
theorem rd_I : ∀ n xs y, DataW.trod enc Tryd.prog W base spare held n 3 xs = some y → Wok Tryd.prog 3 y.1 → ∃ av, shI av ∧ datas true av = true ∧ VRels (κW W) av xs := by
  intro n xs y h _
  obtain ⟨k, rfl, _, _⟩ := DataW.trod_int Tryd.underlying3 h
  exact ⟨_, ⟨k, rfl⟩, rfl, _, [], rfl, rfl, rfl⟩
theorem rd_D : ∀ n xs y, DataW.trod enc Tryd.prog W base spare held n 22 xs = some y → Wok Tryd.prog 22 y.1 → ∃ av, shD av ∧ datas true av = true ∧ VRels (κW W) av xs := by
  intro n xs y h hz
  obtain ⟨v, l, c, rfl, _, h2, h3⟩ := rd_bytesZ Tryd.underlying22 Tryd.underlying5 cl5 by5 h hz
  exact ⟨_, ⟨l, c, rfl, h2⟩, rfl, _, [], rfl, h3, rfl⟩
theorem rd_S : ∀ n xs y, DataW.trod enc Tryd.prog W base spare held n 83 xs = some y → Wok Tryd.prog 83 y.1 → ∃ av, shS av ∧ datas true av = true ∧ VRels (κW W) av xs := by
  intro n cs y h hz
  have hl : cs.length = 2 := by
    obtain ⟨_, _, _, _, hl, _⟩ := DataW.trod_struct Tryd.underlying83 h
    rw [hl, cl83]
  obtain ⟨m0, y0, f0, _⟩ := fieldZ Tryd.underlying83 h hz (i := 0) (f := ⟨ "Group", 3, 0, false, "", "", 0⟩) rfl
  obtain ⟨m1, y1, f1, z1⟩ := fieldZ Tryd.underlying83 h hz (i := 1) (f := ⟨ "Key", 22, 1, false, "", "", 8⟩) rfl
  obtain ⟨a, b, rfl⟩ := two_of hl
  simp only [cl3, cl22] at f0 f1 z1
  obtain ⟨k, ek, _, _⟩ := DataW.trod_int Tryd.underlying3 f0
  obtain ⟨v, l, c, ev, _, h2, h3⟩ := rd_bytesZ Tryd.underlying22 Tryd.underlying5 cl5 by5 f1 z1
  simp at ek ev
  subst ek ev
  exact ⟨_, ⟨k, l, c, rfl, h2⟩, rfl, _, _, rfl, rfl, _, [], rfl, h3, rfl⟩
theorem rd_T : ∀ n xs y, DataW.trod enc Tryd.prog W base spare held n 57 xs = some y → Wok Tryd.prog 57 y.1 → ∃ av, shT av ∧ datas true av = true ∧ VRels (κW W) av xs := by
  intro n cs y h hz
  have hl : cs.length = 2 := by
    obtain ⟨_, _, _, _, hl, _⟩ := DataW.trod_struct Tryd.underlying57 h
    rw [hl, cl57]
  obtain ⟨m0, y0, f0, z0⟩ := fieldZ Tryd.underlying57 h hz (i := 0) (f := ⟨ "Ticket", 22, 0, false, "", "", 0⟩) rfl
  obtain ⟨m1, y1, f1, _⟩ := fieldZ Tryd.underlying57 h hz (i := 1) (f := ⟨ "Age", 3, 1, false, "", "", 24⟩) rfl
  obtain ⟨a, b, rfl⟩ := two_of hl
  simp only [cl3, cl22] at f0 f1 z0
  obtain ⟨k, ek, _, _⟩ := DataW.trod_int Tryd.underlying3 f1
  obtain ⟨v, l, c, ev, _, h2, h3⟩ := rd_bytesZ Tryd.underlying22 Tryd.underlying5 cl5 by5 f0 z0
  simp at ek ev
  subst ek ev
  exact ⟨_, ⟨k, l, c, rfl, h2⟩, rfl, _, _, rfl, h3, _, [], rfl, rfl, rfl⟩
theorem rowsI {g : Nat → List AV} (h : ∀ y, shI (g y)) : ∃ L : Nat → Int, g = fun j => [.int .i64 (L j)] :=
  ⟨fun y => Classical.choose (h y), funext fun y => Classical.choose_spec (h y)⟩
theorem rowsS {g : Nat → List AV} (h : ∀ y, shS (g y)) : ∃ (G : Nat → Int) (K : Nat → By) (C : Nat → Bool), g = (fun j => [.int .i64 (G j), .rb true (K j) (.is (C j))]) ∧ ∀ j, (K j).length ≤ reachBytes :=
  ⟨fun y => Classical.choose (h y), fun y => Classical.choose (Classical.choose_spec (h y)), fun y => Classical.choose (Classical.choose_spec (Classical.choose_spec (h y))),
    funext fun y => (Classical.choose_spec (Classical.choose_spec (Classical.choose_spec (h y)))).1, fun y => (Classical.choose_spec (Classical.choose_spec (Classical.choose_spec (h y)))).2⟩
theorem rowsT {g : Nat → List AV} (h : ∀ y, shT (g y)) : ∃ (G : Nat → Int) (K : Nat → By) (C : Nat → Bool), g = (fun j => [.rb true (K j) (.is (C j)), .int .i64 (G j)]) ∧ ∀ j, (K j).length ≤ reachBytes :=
  ⟨fun y => Classical.choose (h y), fun y => Classical.choose (Classical.choose_spec (h y)), fun y => Classical.choose (Classical.choose_spec (Classical.choose_spec (h y))),
    funext fun y => (Classical.choose_spec (Classical.choose_spec (Classical.choose_spec (h y)))).1, fun y => (Classical.choose_spec (Classical.choose_spec (Classical.choose_spec (h y)))).2⟩
theorem rowsD {g : Nat → List AV} (h : ∀ y, shD (g y)) : ∃ (K : Nat → By) (C : Nat → Bool), g = (fun j => [.rb true (K j) (.is (C j))]) ∧ ∀ j, (K j).length ≤ reachBytes :=
  ⟨fun y => Classical.choose (h y), fun y => Classical.choose (Classical.choose_spec (h y)), funext fun y => (Classical.choose_spec (Classical.choose_spec (h y))).1, fun y => (Classical.choose_spec (Classical.choose_spec (h y))).2⟩
theorem sh_by {n : Nat} {avs : List AV} (h : shAll (List.replicate n (.i .u8)) avs) : ∃ k : Nat → BitVec 8, avs = (List.range n).map fun i => .u8 (k i) := by
  obtain ⟨l, hl, rfl⟩ := sh_u8 h
  refine ⟨fun i => l.getD i 0, ?_⟩
  apply List.ext_getElem
  · simp [hl]
  · intro i h1 h2
    have : i < l.length := by simpa using h1
    simp [List.getD, this]
theorem rd_cli {fuel : Nat} {cs : List Value} {x : DataW H × List MemPlace} (h : DataW.trod enc Tryd.prog W base spare held fuel 35 cs = some x) (hz : Wok Tryd.prog 35 x.1) :
    ∃ (c : Cli) (u : Clt), c.sz ∧ VRels (κW W) (cliC c.R [.rb true c.s u.us, inR true c.n1 c.L1 u.u1, inR true c.n2 c.L2 u.u2, inR true c.n3 c.L3 u.u3, inR true c.n4 c.L4 u.u4, shR true c.n5 c.G c.K u.C u.u5, .rb true c.co u.uc, .rb true c.mo u.um, idR true c.n6 c.T c.A u.F u.u6, biR true c.n7 c.D u.E u.u7]) cs := by
  have hl : cs.length = 42 := by
    obtain ⟨_, _, _, _, hl, _⟩ := DataW.trod_struct Tryd.underlying35 h
    rw [hl, cl35]
  obtain ⟨m0, y0, f0, z0⟩ := fieldZ Tryd.underlying35 h hz (i := 0) (f := ⟨ "Random", 27, 0, false, "", "", 0⟩) rfl
  obtain ⟨m1, y1, f1, z1⟩ := fieldZ Tryd.underlying35 h hz (i := 1) (f := ⟨ "Session", 22, 32, false, "", "", 32⟩) rfl
  obtain ⟨m2, y2, f2, z2⟩ := fieldZ Tryd.underlying35 h hz (i := 2) (f := ⟨ "Suites", 30, 33, false, "", "", 56⟩) rfl
  obtain ⟨m3, y3, f3, z3⟩ := fieldZ Tryd.underlying35 h hz (i := 3) (f := ⟨ "Versions", 30, 34, false, "", "", 80⟩) rfl
  obtain ⟨m4, y4, f4, z4⟩ := fieldZ Tryd.underlying35 h hz (i := 4) (f := ⟨ "Groups", 30, 35, false, "", "", 104⟩) rfl
  obtain ⟨m5, y5, f5, z5⟩ := fieldZ Tryd.underlying35 h hz (i := 5) (f := ⟨ "Schemes", 30, 36, false, "", "", 128⟩) rfl
  obtain ⟨m6, y6, f6, z6⟩ := fieldZ Tryd.underlying35 h hz (i := 6) (f := ⟨ "Shares", 31, 37, false, "", "", 152⟩) rfl
  obtain ⟨m7, y7, f7, z7⟩ := fieldZ Tryd.underlying35 h hz (i := 7) (f := ⟨ "Cookie", 22, 38, false, "", "", 176⟩) rfl
  obtain ⟨m8, y8, f8, z8⟩ := fieldZ Tryd.underlying35 h hz (i := 8) (f := ⟨ "Modes", 22, 39, false, "", "", 200⟩) rfl
  obtain ⟨m9, y9, f9, z9⟩ := fieldZ Tryd.underlying35 h hz (i := 9) (f := ⟨ "Ids", 32, 40, false, "", "", 224⟩) rfl
  obtain ⟨ma, ya, fa, za⟩ := fieldZ Tryd.underlying35 h hz (i := 10) (f := ⟨ "Binders", 33, 41, false, "", "", 248⟩) rfl
  simp only [cl27, cl22, cl30, cl31, cl32, cl33] at f0 f1 f2 f3 f4 f5 f6 f7 f8 f9 fa
  have dk : ∀ k, cs.drop k = (cs.drop k).take 1 ++ cs.drop (k + 1) := fun k => by
    rw [← List.drop_drop, List.take_append_drop]
  have d42 : cs.drop 42 = [] := List.drop_eq_nil_of_le (by omega)
  obtain ⟨avs, hs0, _, hv0⟩ := rd_flat 9 27 (List.replicate 32 (.i .u8)) _ _ _ (by kernel_rfl) f0
  obtain ⟨R, rfl⟩ := sh_by hs0
  obtain ⟨v1, s, us, e1, _, _, r1⟩ := rd_bytesZ Tryd.underlying22 Tryd.underlying5 cl5 by5 f1 z1
  obtain ⟨v2, n1, g1, u1, e2, _, w1, k1, r2⟩ := rd_rowsZ Tryd.underlying30 cl3 (by decide) ⟨0, rfl⟩ rd_I f2 z2
  obtain ⟨v3, n2, g2, u2, e3, _, w2, k2, r3⟩ := rd_rowsZ Tryd.underlying30 cl3 (by decide) ⟨0, rfl⟩ rd_I f3 z3
  obtain ⟨v4, n3, g3, u3, e4, _, w3, k3, r4⟩ := rd_rowsZ Tryd.underlying30 cl3 (by decide) ⟨0, rfl⟩ rd_I f4 z4
  obtain ⟨v5, n4, g4, u4, e5, _, w4, k4, r5⟩ := rd_rowsZ Tryd.underlying30 cl3 (by decide) ⟨0, rfl⟩ rd_I f5 z5
  obtain ⟨v6, n5, g5, u5, e6, _, w5, k5, r6⟩ := rd_rowsZ Tryd.underlying31 cl83 (by decide) ⟨0, [], true, rfl, Nat.zero_le _⟩ rd_S f6 z6
  obtain ⟨v7, co, uc, e7, _, _, r7⟩ := rd_bytesZ Tryd.underlying22 Tryd.underlying5 cl5 by5 f7 z7
  obtain ⟨v8, mo, um, e8, _, _, r8⟩ := rd_bytesZ Tryd.underlying22 Tryd.underlying5 cl5 by5 f8 z8
  obtain ⟨v9, n6, g6, u6, e9, _, w6, k6, r9⟩ := rd_rowsZ Tryd.underlying32 cl57 (by decide) ⟨0, [], true, rfl, Nat.zero_le _⟩ rd_T f9 z9
  obtain ⟨va, n7, g7, u7, ea, _, w7, k7, ra⟩ := rd_rowsZ Tryd.underlying33 cl22 (by decide) ⟨[], true, rfl, Nat.zero_le _⟩ rd_D fa za
  obtain ⟨L1, rfl⟩ := rowsI k1
  obtain ⟨L2, rfl⟩ := rowsI k2
  obtain ⟨L3, rfl⟩ := rowsI k3
  obtain ⟨L4, rfl⟩ := rowsI k4
  obtain ⟨G, K, C, rfl, lK⟩ := rowsS k5
  obtain ⟨A, T, F, rfl, lT⟩ := rowsT k6
  obtain ⟨D, E, rfl, lD⟩ := rowsD k7
  rw [by3] at w1 w2 w3 w4
  rw [by83] at w5
  rw [by57] at w6
  have er : reachBytes = 140737488351232 := rfl
  have ecs : cs = cs.take 32 ++ [v1, v2, v3, v4, v5, v6, v7, v8, v9, va] := by
    have e0 := (List.take_append_drop 32 cs).symm
    rw [dk 32, dk 33, dk 34, dk 35, dk 36, dk 37, dk 38, dk 39, dk 40, dk 41, d42, e1, e2, e3, e4, e5, e6, e7, e8, e9, ea] at e0
    exact e0
  refine ⟨⟨R, s, n1, L1, n2, L2, n3, L3, n4, L4, n5, G, K, co, mo, n6, T, A, n7, D⟩, ⟨⟨.is u1, .is u2, .is u3, .is u4, .is u5, C, .is u6, F, .is u7, E⟩, .is us, .is uc, .is um⟩, ⟨by show n1 < _; omega, by show n2 < _; omega, by show n3 < _; omega, by show n4 < _; omega, by show n5 * 32 ≤ _; omega, by show n6 * 32 ≤ _; omega, fun j _ => by show (K j).length ≤ _; have := lK j; omega, fun j _ => by show (T j).length ≤ _; have := lT j; omega, fun j _ => by show (D j).length ≤ _; have := lD j; omega⟩, ?_⟩
  rw [ecs]
  refine VRels.append ?_ ?_
  · rw [List.drop_zero] at hv0
    exact hv0
  · exact ⟨_, _, rfl, r1, _, _, rfl, r2, _, _, rfl, r3, _, _, rfl, r4, _, _, rfl, r5, _, _, rfl, r6, _, _, rfl, r7, _, _, rfl, r8, _, _, rfl, r9, _, _, rfl, ra, rfl⟩
end
end Go.Sym

/- HelloClients: of all clients' greetings the bytes are the document's, or they can't be; they are read again. Condition: the two tables of the package start as the text of the program lays them, which the card ties. -/
namespace Go.Sym
open Go.Proofs Go.Spec
theorem w5 (W : World) (hG : GW gl0 W) (v0 : Value) (c : Cli) (u : Clt) (h0 : VRel (κW W) (cliT c u) v0) (hz : c.sz) :
    Calls Tryd.prog 5 #[v0] W fun e w' => e = .returned (.bool true) ∧ RowKit.Below W.heap.size W w' := by
  have hv : VRels (κW W) [cliT c u] [v0] := ⟨_, _, rfl, h0, rfl⟩
  refine law_walk (gl := gl0) (Γ := Gy c) (fn := Tryd.f5) (av := [cliT c u]) (ls := []) [] 3000 (by kernel_rfl) (by kernel_rfl) (okGy c) (by kernel_rfl) hG (by kernel_rfl) hv ?_
  exact bl5 c u hz
theorem cliT_of {W : World} {c : Cli} {u : Clt} {v : Value} (h : VRels (κW W) (cliC c.R [.rb true c.s u.us, inR true c.n1 c.L1 u.u1, inR true c.n2 c.L2 u.u2, inR true c.n3 c.L3 u.u3, inR true c.n4 c.L4 u.u4, shR true c.n5 c.G c.K u.C u.u5, .rb true c.co u.uc, .rb true c.mo u.um, idR true c.n6 c.T c.A u.F u.u6, biR true c.n7 c.D u.E u.u7]) v.cells.toList) : VRel (κW W) (cliT c u) v :=
  agg_of_cells h (by simp [cliC])
end Go.Sym
namespace Go.Proofs.YtmpgpbbaloiniaaDoor.helloClients
open Go.ChangeShapes Go.WideShapes Go.ChangeAt Go.WideMaps Go.WideElems Go.RowKit
set_option linter.unusedVariables false
set_option maxRecDepth 100000 in
theorem lifted (os : Os) (started : os.Started) (H : Type) (enc : TypeId × Value → H) :
    ReturnsInHanded {} Tryd.checked os 5 .any (fun w args => (Rows.helloClientsSpec.pre enc Tryd.prog Tryd.f5 [] false w args ∧ laidMetH Tryd.prog laid2 w) ∧ sizedMet enc Tryd.prog Tryd.f5 (OpenSpec.ofChange Rows.helloClientsSpec) false w args)
      (Rows.helloClientsSpec.post enc Tryd.prog Tryd.f5 false true false false) := by
  refine returnsInHanded_of_change_and (C := Tryd.checked) (X := fun w _ => laidMetH Tryd.prog laid2 w) (fun _ _ _ hh h => h.of_heap hh) own started (by kernel_rfl) Tryd.func5
    (ChangeSpec.witness_shaped (enc := enc) (C := Tryd.checked) (os := os) (X := fun w _ => laidMetH Tryd.prog laid2 w) false (World.doorLaid Tryd.prog 400 os) #[.agg (Array.replicate 32 (.int .u8 0) ++ Array.replicate 10 (.slice none 0 0))] 8 rfl (World.shaped_of_RefB (by kernel_rfl) (by kernel_rfl)) (by kernel_rfl) (by kernel_rfl) (by kernel_rfl) (door_met os _)) ?_
  intro W base args ds gs before hval0 hW _ hsz hL _
  have hval : ∀ (j : Nat) t v, Tryd.f5.params[j]? = some t → args[j]? = some v → Value.okWide Tryd.prog W .any base t v := hval0
  have hW' := hW
  obtain ⟨p, q, hA0, hV, rfl, hfz, hnd⟩ := hW
  have hA : DataW.TrodAll enc Tryd.prog W 0 (fun _ => true) true Tryd.f5.params.toList args.toList ds p := hA0
  rw [Tryd.params5] at hA hval hsz
  obtain ⟨v0, vs0, d0, ds0, p0, q0, hargs, rfl, rfl, h0, r0⟩ := trodAll_cons hA
  obtain ⟨rfl, rfl, rfl⟩ := trodAll_nil r0
  obtain rfl : args = #[v0] := by cases args; simp_all
  obtain ⟨rfl, rfl⟩ := trodVars_none hV
  clear hA0 hval0
  have hlt0 : ∀ x ∈ p0, x.block < W.heap.size := fun x hx => hW'.lt x (by simp [hx])
  obtain ⟨fuel0, hf0⟩ := h0
  have hz0 : Go.Sym.Wok Tryd.prog 35 d0 := fun b hb => by
    have := List.all_eq_true.1 hsz b (DataW.weights_mem_each (j := 0) rfl rfl b hb)
    simpa using this
  obtain ⟨c, u, hz, hr⟩ := Go.Sym.rd_cli hf0 hz0
  refine (Go.Sym.w5 W (gw_laid hL) v0 c u (Go.Sym.cliT_of hr) hz).mono fun e W' ⟨he, bel⟩ => ?_
  subst he
  exact ⟨_, rfl, _, _, _, [], _, [], hW', trodAll_mk1 (shut_bool Tryd.underlying4 _), (trodAll_cons_mk (Below.trod laidO (by kernel_rfl) (of_decide_eq_true (by kernel_rfl)) ⟨fuel0, hf0⟩ bel hlt0) trodAll_mk0), rfl, bel.frame _, fun h => by cases h⟩

theorem over : Rows.helloClientsRow.holds Tryd.pinned (OpenSpec.ofChange Rows.helloClientsSpec) :=
  OpenClaim.holds_of_wide 5 Tryd.f5 rfl rfl rfl rfl rfl rfl rfl ⟨rfl, rfl, rfl, rfl, rfl⟩ rfl rfl rfl rfl rfl (by kernel_rfl) Tryd.func5 (by kernel_rfl)
    (of_decide_eq_true (by kernel_rfl)) (by unfold Func.isWrapper; first | (rw [if_pos (by decide +kernel)]; kernel_rfl) | (rw [if_neg (by decide +kernel)]; exact ⟨rfl, rfl⟩))
    (fun os started H enc _ => lifted os started H enc)

theorem proved : Rows.HelloClientsCardSaid :=
  Claim7.holds_tied_plain_at .later [] [.data, .data] true (true, "509a89b67618beb9fd1f9164ca8e5d72b3360772a5436b980171c475dab6690a") false
    over (fun _ h => by cases h) (by kernel_rfl) (fun _ h => by cases h) helloClients_row_tie rfl ⟨rfl, rfl⟩ (by kernel_rfl) rfl
    (fun f fn hf hfn => by
      obtain rfl : f = 5 := Option.some.inj ((show Tryd.prog.funcNamed "relay/relaylaw08.HelloClients" = some 5 by kernel_rfl).symm.trans hf) |>.symm
      obtain rfl : fn = Tryd.f5 := (Option.some.inj (Tryd.func5.symm.trans hfn)).symm
      exact ⟨by kernel_rfl, fun j t ht => by
        rw [Tryd.params5] at ht
        have hm : t ∈ [35] := by simpa using Array.mem_of_getElem? ht
        have hall : ([35].all fun u => !Tryd.prog.wantsStandIn u) = true := by kernel_rfl
        exact (show Tryd.prog.wantsStandIn t = false by simpa using List.all_eq_true.1 hall t hm)⟩)
    (by kernel_rfl)
#print axioms proved
end Go.Proofs.YtmpgpbbaloiniaaDoor.helloClients
