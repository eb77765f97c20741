/- RelayGreetings: through the layers 7 to 9, a greeting that stands in a message, in a vector, is read again, as it was; with a byte less it isn't. Condition: the two tables of the package start as the text of the program lays them, which the card ties. -/
import Derived.Test.YtmpgpbbaloiniabDoorSymC
import Derived.Test.YtmpgpbbaloiniabDoorHelD
import Derived.Test.YtmpgpbbaloiniabDoorShaB
import Derived.OpenShut
/- What is handed in from outside: plain data of any shape. -/
namespace Go.Sym
set_option linter.unusedVariables false
set_option linter.unusedSimpArgs false
open Go.ChangeShapes Go.WideShapes
inductive Sh where
  | i (k : IntKind)
  | b
  | s
  | y
def Sh.ok : Sh → AV → Prop
  | .i .u8, a => ∃ x, a = .u8 x
  | .i .u16, a => ∃ x, a = .u16 x
  | .i .u32, a => ∃ x, a = .u32 x
  | .i .u64, a => ∃ x, a = .u64 x
  | .i k, a => ∃ n, a = .int k n ∧ (Lit.int k n).wf = true
  | .b, a => ∃ c, a = .bool c
  | .s, a => ∃ l, a = .str l ∧ l.length ≤ maxLen
  | .y, a => ∃ l c, a = .rb true l (.is c) ∧ (c = true → l = []) ∧ l.length ≤ maxLen
def shAll : List Sh → List AV → Prop
  | [], [] => True
  | k :: ss, a :: az => k.ok a ∧ shAll ss az
  | _, _ => False
theorem shAll_append : ∀ {l m : List Sh} {az bs : List AV}, shAll l az → shAll m bs → shAll (l ++ m) (az ++ bs)
  | [], _, [], _, _, k => k
  | _ :: _, _, _ :: _, _, h, k => ⟨h.1, shAll_append h.2 k⟩
  | [], _, _ :: _, _, h, _ => h.elim
  | _ :: _, _, [], _, h, _ => h.elim
theorem datas_append {p : Bool} : ∀ {az bs : List AV}, datas p az = true → datas p bs = true → datas p (az ++ bs) = true
  | [], _, _, k => k
  | a :: az, _, h, k => by
    simp only [datas, Bool.and_eq_true, List.cons_append] at h ⊢
    exact ⟨h.1, datas_append h.2 k⟩
def flatFs (P : Program) (g : TypeId → Option (List Sh)) : List Field → Nat → Option (List Sh)
  | [], _ => some []
  | f :: fs, o => if f.offset = o then (g f.type).bind fun l => if P.cellsOf f.type = l.length then (flatFs P g fs (o + l.length)).map (l ++ ·) else none else none
def flat (P : Program) : Nat → TypeId → Option (List Sh)
  | 0, _ => none
  | f + 1, t => match P.underlying t with
    | some (.int k) => some [.i k]
    | some .bool => some [.b]
    | some .string => some [.s]
    | some (.slice e) => (match P.underlying e with | some (.int .u8) => if P.cellsOf e = 1 then some [.y] else none | _ => none)
    | some (.array n e) => (flat P f e).bind fun l => if P.cellsOf e = l.length ∧ P.cellsOf t = n * l.length then some (List.replicate n l).flatten else none
    | some (.struct fs) => (flatFs P (flat P f) fs.toList 0).bind fun l => if P.cellsOf t = l.length then some l else none
    | _ => none

section
variable {H : Type} {enc : TypeId × Value → H} {P : Program} {W : World} {base : Nat} {spare : Nat → Bool} {held : Bool}
def Read (W : World) (l : List Sh) (cs : List Value) : Prop := ∃ avs, shAll l avs ∧ datas true avs = true ∧ VRels (κW W) avs cs
theorem Read.append {l m : List Sh} {cs ds : List Value} (h : Read W l cs) (k : Read W m ds) : Read W (l ++ m) (cs ++ ds) := by
  obtain ⟨a, h1, h2, h3⟩ := h
  obtain ⟨b, k1, k2, k3⟩ := k
  exact ⟨a ++ b, shAll_append h1 k1, datas_append h2 k2, VRels.append h3 k3⟩
theorem read_arr {l : List Sh} {m : Nat} : ∀ (n : Nat) (cs : List Value), cs.length = n * m → (∀ i, i < n → Read W l ((cs.drop (i * m)).take m)) → Read W (List.replicate n l).flatten cs
  | 0, cs, hl, _ => by
    have : cs = [] := List.eq_nil_of_length_eq_zero (by simpa using hl)
    subst this
    exact ⟨[], trivial, rfl, rfl⟩
  | n + 1, cs, hl, h => by
    have h0 := h 0 (by omega)
    simp only [Nat.zero_mul, List.drop_zero] at h0
    have hr := read_arr (m := m) n (cs.drop m) (by rw [List.length_drop, hl, Nat.succ_mul]; omega) (fun i hi => by
      have := h (i + 1) (by omega)
      rw [List.drop_drop]
      rw [Nat.add_mul, Nat.one_mul, Nat.add_comm] at this
      exact this)
    have := h0.append hr
    rw [List.take_append_drop] at this
    simpa [List.replicate_succ] using this
theorem read_fs {g : TypeId → Option (List Sh)} {cs : List Value} : ∀ (fs : List Field) (o : Nat) (l : List Sh), flatFs P g fs o = some l → cs.length = o + l.length →
    (∀ f l', f ∈ fs → g f.type = some l' → Read W l' ((cs.drop f.offset).take (P.cellsOf f.type))) → Read W l (cs.drop o)
  | [], o, l, h, hl, _ => by
    simp only [flatFs, Option.some.injEq] at h
    subst h
    have : cs.drop o = [] := List.drop_eq_nil_of_le (by simp at hl; omega)
    rw [this]
    exact ⟨[], trivial, rfl, rfl⟩
  | f :: fs, o, l, h, hl, hr => by
    simp only [flatFs] at h
    split at h
    · rename_i ho
      simp only [Option.bind_eq_some_iff] at h
      obtain ⟨l1, h1, h2⟩ := h
      split at h2
      · rename_i hc
        simp only [Option.map_eq_some_iff] at h2
        obtain ⟨l2, h3, rfl⟩ := h2
        have k1 := hr f l1 (by simp) h1
        rw [ho, hc] at k1
        have k2 := read_fs fs (o + l1.length) l2 h3 (by simp at hl; omega) (fun f' l' hf hg => hr f' l' (by simp [hf]) hg)
        have := k1.append k2
        rw [← List.drop_drop, List.take_append_drop] at this
        exact this
      · cases h2
    · cases h
theorem rd_flat : ∀ (f : Nat) (t : TypeId) (l : List Sh) (fuel : Nat) (cs : List Value) (x : DataW H × List MemPlace), flat P f t = some l → DataW.trod enc P W base spare held fuel t cs = some x → Read W l cs
  | 0, _, _, _, _, _, h, _ => by cases h
  | f + 1, t, l, fuel, cs, x, h, hd => by
    unfold flat at h
    split at h
    · rename_i k ht
      simp only [Option.some.injEq] at h
      subst h
      obtain ⟨n, rfl, _, hw⟩ := DataW.trod_int ht hd
      have hn : absC0 (.int k n) = absC0 (.int k n) := rfl
      cases k
      case u8 =>
        simp [Lit.wf, IntKind.min, IntKind.max, IntKind.signed, IntKind.bits] at hw
        exact ⟨[.u8 (BitVec.ofNat 8 n.toNat)], ⟨⟨_, rfl⟩, trivial⟩, rfl, _, [], rfl, by simp only [VRel, BitVec.toNat_ofNat]; congr 1; omega, rfl⟩
      case u16 =>
        simp [Lit.wf, IntKind.min, IntKind.max, IntKind.signed, IntKind.bits] at hw
        exact ⟨[.u16 (BitVec.ofNat 16 n.toNat)], ⟨⟨_, rfl⟩, trivial⟩, rfl, _, [], rfl, by simp only [VRel, BitVec.toNat_ofNat]; congr 1; omega, rfl⟩
      case u32 =>
        simp [Lit.wf, IntKind.min, IntKind.max, IntKind.signed, IntKind.bits] at hw
        exact ⟨[.u32 (BitVec.ofNat 32 n.toNat)], ⟨⟨_, rfl⟩, trivial⟩, rfl, _, [], rfl, by simp only [VRel, BitVec.toNat_ofNat]; congr 1; omega, rfl⟩
      case u64 =>
        simp [Lit.wf, IntKind.min, IntKind.max, IntKind.signed, IntKind.bits] at hw
        exact ⟨[.u64 (BitVec.ofNat 64 n.toNat)], ⟨⟨_, rfl⟩, trivial⟩, rfl, _, [], rfl, by simp only [VRel, BitVec.toNat_ofNat]; congr 1; omega, rfl⟩
      all_goals exact ⟨[.int _ n], ⟨⟨_, rfl, hw⟩, trivial⟩, rfl, _, [], rfl, rfl, rfl⟩
    · rename_i ht
      simp only [Option.some.injEq] at h
      subst h
      obtain ⟨b, rfl, _⟩ := DataW.trod_bool ht hd
      exact ⟨[.bool b], ⟨⟨_, rfl⟩, trivial⟩, rfl, _, [], rfl, rfl, rfl⟩
    · rename_i ht
      simp only [Option.some.injEq] at h
      subst h
      obtain ⟨s, rfl, _, hs⟩ := DataW.trod_string ht hd
      have hb := bytesStr_strBytes s
      refine ⟨[.str (strBytes s)], ⟨⟨_, rfl, ?_⟩, trivial⟩, rfl, _, [], rfl, by simp only [VRel, hb], rfl⟩
      rw [← bytesStr_size, hb]
      exact hs
    · rename_i e ht
      split at h
      · rename_i he
        split at h
        · rename_i hc
          simp only [Option.some.injEq] at h
          subst h
          obtain ⟨v, l, c, rfl, h1, h2, h3⟩ := rd_bytes ht he hc hd
          exact ⟨[.rb true l (.is c)], ⟨⟨l, c, rfl, h1, h2⟩, trivial⟩, rfl, _, [], rfl, h3, rfl⟩
        · cases h
      · cases h
    · rename_i n e ht
      simp only [Option.bind_eq_some_iff] at h
      obtain ⟨l1, h1, h2⟩ := h
      split at h2
      · rename_i hc
        simp only [Option.some.injEq] at h2
        subst h2
        obtain ⟨xs, m, _, _, hl, hn, hel⟩ := DataW.trod_array ht hd
        refine read_arr (m := l1.length) n cs (by rw [hl, hc.2]) fun i hi => ?_
        have := hel i hi
        rw [List.getElem?_eq_getElem (by omega), hc.1] at this
        exact rd_flat f e l1 _ _ _ h1 this
      · cases h2
    · rename_i fs ht
      simp only [Option.bind_eq_some_iff] at h
      obtain ⟨l1, h1, h2⟩ := h
      split at h2
      · rename_i hc
        simp only [Option.some.injEq] at h2
        subst h2
        obtain ⟨xs, m, _, _, hl, hn, hel⟩ := DataW.trod_struct ht hd
        have := read_fs (W := W) (cs := cs) fs.toList 0 l1 h1 (by rw [hl, hc]; omega) fun f0 l' hf hg => by
          obtain ⟨i, hi⟩ := List.getElem?_of_mem hf
          have hlt := (List.getElem?_eq_some_iff.1 hi).1
          have := hel i f0 (by simpa using hi)
          rw [List.getElem?_eq_getElem (by simp at hlt; omega)] at this
          exact rd_flat f f0.type l' _ _ _ hg this
        simpa using this
      · cases h2
    · cases h
theorem agg_of_cells {v : Value} {avs : List AV} (h : VRels (κW W) avs v.cells.toList) (hl : 2 ≤ avs.length) : VRel (κW W) (.agg avs) v := by
  have hn := h.length
  cases v
  case agg cs => exact ⟨cs, rfl, h⟩
  all_goals (exfalso; simp [Value.cells] at hn; omega)
/-- Bytes of an array. -/
theorem sh_u8 : ∀ {n : Nat} {avs : List AV}, shAll (List.replicate n (.i .u8)) avs → ∃ l : List (BitVec 8), l.length = n ∧ avs = l.map .u8
  | 0, [], _ => ⟨[], rfl, rfl⟩
  | 0, _ :: _, h => h.elim
  | n + 1, [], h => h.elim
  | n + 1, a :: az, h => by
    obtain ⟨⟨x, rfl⟩, h2⟩ := h
    obtain ⟨l, h3, rfl⟩ := sh_u8 h2
    exact ⟨x :: l, by simp [h3], rfl⟩
end
theorem sh_cons {k : Sh} {ks : List Sh} {avs : List AV} (h : shAll (k :: ks) avs) : ∃ a az, avs = a :: az ∧ k.ok a ∧ shAll ks az := by
  cases avs with
  | nil => exact h.elim
  | cons a az => exact ⟨a, az, rfl, h.1, h.2⟩
theorem sh_nil {avs : List AV} (h : shAll [] avs) : avs = [] := by
  cases avs with
  | nil => rfl
  | cons a az => exact h.elim
theorem sh_i64 {a : AV} (h : (Sh.i .i64).ok a) : ∃ n, a = .int .i64 n := by
  obtain ⟨n, h, _⟩ := h
  exact ⟨n, h⟩
theorem rel_u32 {κ : Ker} {n : Int} (h : (Lit.int .u32 n).wf = true) : VRel κ (.u32 (BitVec.ofInt 32 n)) (.int .u32 n) := by
  simp [Lit.wf, IntKind.has, IntKind.min, IntKind.max, IntKind.signed, IntKind.bits] at h
  simp only [VRel, BitVec.toNat_ofInt]
  congr 1
  omega
theorem rel_u64 {κ : Ker} {n : Int} (h : (Lit.int .u64 n).wf = true) : VRel κ (.u64 (BitVec.ofInt 64 n)) (.int .u64 n) := by
  simp [Lit.wf, IntKind.has, IntKind.min, IntKind.max, IntKind.signed, IntKind.bits] at h
  simp only [VRel, BitVec.toNat_ofInt]
  congr 1
  omega
theorem rel_u8 {κ : Ker} {n : Int} (h : (Lit.int .u8 n).wf = true) : VRel κ (.u8 (BitVec.ofInt 8 n)) (.int .u8 n) := by
  simp [Lit.wf, IntKind.has, IntKind.min, IntKind.max, IntKind.signed, IntKind.bits] at h
  simp only [VRel, BitVec.toNat_ofInt]
  congr 1
  omega
end Go.Sym

set_option linter.unusedSimpArgs false
namespace Go.Spec
open Go.Sym
theorem getD_takeq {L : By} {n i : Nat} (h : i < n) : (L.take n).getD i 0 = L.getD i 0 := by
  simp only [List.getD, List.getElem?_take, if_pos h]
theorem cut_take {L : By} {n x m : Nat} (h : x + m ≤ n) : cutB (L.take n) x m = cutB L x m := by
  unfold cutB
  exact rg_congr fun i hi => getD_takeq (by omega)
/-- Without its last byte a greeting's extensions are cut. -/
theorem hdZ_of (c : Cli) (h : c.ok) (hx : 1 ≤ c.ex.length) : hdZ c (c.by.take (c.by.length - 1)) := by
  have b := byAt_of c h
  have hl := b.l
  have hs := b.s2
  have xb := b.x.b
  have xe := b.x.e
  have lN : (chN c.L1 c.n1).length = 2 * c.n1 := chN_len ..
  have hn : (c.by.take (c.by.length - 1)).length = c.by.length - 1 := by rw [List.length_take]; omega
  have vb := b.v1.b
  have w2 : (2 : Int).toNat = 2 := rfl
  rw [lN, w2] at vb
  have vc := b.v1.c
  have vs := b.v1.s
  rw [w2, lN] at vc
  rw [w2, lN] at vs
  refine ⟨by omega, ?_, ?_, ?_, ?_, hs, ⟨by omega, by omega, b.v1.w1, b.v1.w4, ?_, ?_, ?_, b.v1.v1, b.v1.v6⟩, ?_, ?_, by omega, ?_⟩
  · rw [cut_take (by omega), b.a]
  · rw [cut_take (by omega), b.r]
  · rw [cut_take (by omega), b.s0]
  · rw [cut_take (by omega), b.s1]
  · rw [w2, cut_take (by omega), vc, lN]
  · rw [w2, lN, cut_take (by omega), vs]
  · rw [w2, lN, hn]; omega
  · rw [cut_take (by omega), b.z0]
  · rw [cut_take (by omega), b.z1]
  · rw [hn, cut_take (by omega), b.x.c0]; omega
end Go.Spec
namespace Go.Sym
open Go.Proofs Go.Spec
set_option linter.unusedVariables false
noncomputable def Y1 : Ctx := ((Ga1.add 46 (mkF spt30)).add 24 (mkF spt31)).add 52 (mkF spSu)
theorem okY1 : COKs Tryd.prog gl0 Y1 := ((okGa1.add ct30).add ct31).add c13
noncomputable def Y2 : Ctx := Y1.exe Tryd.prog gl0 [] 300 Tryd.f45.params.size 45 Tryd.f45
theorem okY2 : COKs Tryd.prog gl0 Y2 := okY1.exe [] 300 _ (by kernel_rfl) (by kernel_rfl) (by kernel_rfl) (fun args w => by kernel_rfl)
noncomputable def Y3 : Ctx := Y2.exe Tryd.prog gl0 [] 300 Tryd.f23.params.size 23 Tryd.f23
theorem okY3 : COKs Tryd.prog gl0 Y3 := okY2.exe [] 300 _ (by kernel_rfl) (by kernel_rfl) (by kernel_rfl) (fun args w => by kernel_rfl)
noncomputable def Y4 : Ctx := Y3.exe Tryd.prog gl0 [] 300 Tryd.f27.params.size 27 Tryd.f27
theorem okY4 : COKs Tryd.prog gl0 Y4 := okY3.exe [] 300 _ (by kernel_rfl) (by kernel_rfl) (by kernel_rfl) (fun args w => by kernel_rfl)
noncomputable def Y5 : Ctx := Y4.exe Tryd.prog gl0 [] 300 Tryd.f28.params.size 28 Tryd.f28
theorem okY5 : COKs Tryd.prog gl0 Y5 := okY4.exe [] 300 _ (by kernel_rfl) (by kernel_rfl) (by kernel_rfl) (fun args w => by kernel_rfl)
noncomputable def Y6 (c : Cli) : Ctx := ((Y5.add 22 (fun hs xs fr => mkF spn14 hs (nlA xs) fr)).add 30 (mkF (spz18 c))).withFrz [(60, [.a (List.replicate 33 .kp ++ [.r 1, .r 1])])]
theorem okY6 (c : Cli) : COKs Tryd.prog gl0 (Y6 c) := ((okY5.add (cn14.weak nlA nlA_rel)).add (cz18 c)).withFrz _
/-- The loop over suites: so many are there. -/
def lsRg (R : Nat → BitVec 8) (s : By) (n : Nat) (g : Nat → Int) (h : Nat → Int) : LS := ⟨Nat, fun i => [(2, inR true n g .unk), (3, .ptr 100 0 0 0), (7, .ptr 101 0 0 0), (8, .int .i64 i)],
  fun i => [(100, ⟨.cells ((List.range 32).map fun i => .u8 (R i)), true, 0⟩), (101, ⟨.cells (cliC R [.rb true s .unk, .slice 102 0 1 i .ow .unk, .slice 103 0 1 1 .ow .unk, .nils, .nils, .nils, .nils, .nils, .nils, .nils]), true, 0⟩), (102, ⟨.rows 1 i (fun j => [.int .i64 (h j)]), true, 1⟩), (103, ⟨.rows 1 1 (fun _ => [.int .i64 772]), true, 1⟩)], 1000, fun i => 7 - i, fun i => i ≤ 7 ∧ i ≤ n, fun _ => []⟩
/-- The suites, with the last one behind them: x in all. -/
def suH (h : Nat → Int) (x j : Nat) : Int := if j + 1 < x then h j else 4867
def lsRh (R : Nat → BitVec 8) (s : By) (N : Nat) (h : Nat → Int) : LS := ⟨Unit, fun _ => [(3, .ptr 100 0 0 0), (7, .ptr 101 0 0 0)],
  fun _ => [(100, ⟨.cells ((List.range 32).map fun i => .u8 (R i)), true, 0⟩), (101, ⟨.cells (cliC R [.rb true s .unk, .slice 102 0 1 N .ow .unk, .slice 103 0 1 1 .ow .unk, .nils, .nils, .nils, .nils, .nils, .nils, .nils]), true, 0⟩), (102, ⟨.rows 1 N (fun j => [.int .i64 (suH h N j)]), true, 1⟩), (103, ⟨.rows 1 1 (fun _ => [.int .i64 772]), true, 1⟩)], 1000, fun _ => 0, fun _ => True, fun _ => []⟩
def keptR (R : Nat → BitVec 8) (s : By) (N : Nat) (h : Nat → Int) : List (Nat × ABlk) := [(100, ⟨.cells ((List.range 32).map fun i => .u8 (R i)), true, 0⟩), (101, ⟨.cells (cliC R [.rb true s .unk, .slice 102 0 1 N .un .unk, .slice 103 0 1 1 .un .unk, .nils, .nils, .nils, .nils, .nils, .nils, .nils]), true, 0⟩), (102, ⟨.rows 1 N (fun j => [.int .i64 (suH h N j)]), false, 0⟩), (103, ⟨.rows 1 1 (fun _ => [.int .i64 772]), false, 0⟩)]
/-- What is kept behind the greeting's bytes, with more. -/
def lsRx (R : Nat → BitVec 8) (s : By) (N : Nat) (h : Nat → Int) (E : List (Nat × AV)) (K : List (Nat × ABlk)) : LS := ⟨Unit, fun _ => [(3, .ptr 100 0 0 0), (7, .ptr 101 0 0 0), (10, .int .i64 0)] ++ E, fun _ => keptR R s N h ++ K, 1000, fun _ => 0, fun _ => True, fun _ => []⟩
def byO (i : Nat) (b : By) : AV := .slice i 0 1 b.length .ow .unk
def bkO (b : By) : ABlk := ⟨.bytes b, true, 1⟩
/-- The suites are held against each other. -/
def lsRs (R : Nat → BitVec 8) (s : By) (N : Nat) (h : Nat → Int) (c : Cli) : LS := ⟨Nat, fun k => [(7, .ptr 101 0 0 0), (20, .ptr 120 0 0 0), (24, .int .i64 k)], fun _ => (keptR R s N h).drop 1 ++ [(120, ⟨.cells (cliG c), true, 0⟩)], 1000, fun k => N - k, fun k => k ≤ N, fun _ => []⟩
def lssR (R : Nat → BitVec 8) (s : By) (n N : Nat) (g h : Nat → Int) (b m v : By) (c : Cli) : List (Nat × LS) := [(21, lsRs R s N h c), (4, lsRg R s n g h), (20007, lsRh R s N h),
  (20008, lsRx R s N h [(9, byO 104 b)] [(104, bkO b)]),
  (20009, lsRx R s N h [(11, byO 104 m), (12, .int .i64 0)] [(104, bkO m)]),
  (20010, lsRx R s N h [(12, .int .i64 0), (13, byO 104 v)] [(104, bkO v)]),
  (20011, lsRx R s N h [(12, .int .i64 0), (14, .ptr 105 0 0 0)] [(105, rdCn 106 0 v.length), (106, rdL v)]),
  (20012, lsRx R s N h [(12, .int .i64 0), (14, .ptr 105 0 0 0), (15, byO 104 m)] [(105, rdCn 106 v.length 0), (106, rdL v), (104, bkO m)]),
  (20013, lsRx R s N h [(12, .int .i64 0), (14, .ptr 105 0 0 0), (16, .ptr 107 0 0 0), (17, byO 109 []), (18, .bool true), (19, .int .i64 0)] [(105, rdCn 106 v.length 0), (106, rdL v), (107, ⟨.cells [.int .i64 1, byO 108 b], true, 0⟩), (108, bkO b), (109, bkO [])])]
end Go.Sym

namespace Go.Sym
open Go.Proofs Go.Spec
set_option linter.unusedVariables false
/-- What must be shown behind the loop over suites. -/
def rgV (R : Nat → BitVec 8) (s b m v : By) (N : Nat) (h : Nat → Int) (c : Cli) : Prop :=
let x1 := ∀ (y : Nat), y < N → datas Bool.false [AV.int IntKind.i64 (if y + 1 < N then h y else (4867 : Int))] = Bool.true ∧ [AV.int IntKind.i64 (if y + 1 < N then h y else (4867 : Int))] = [AV.int IntKind.i64 (if y + 1 < N then h y else (4867 : Int))]; let x2 := allP (fun (i : Nat) => R i = R i) 0 32 (s = s ∧ 0 = 0 ∧ 0 = 0 ∧ N = N ∧ 0 = 0 ∧ 0 = 0 ∧ 1 = 1 ∧ N = N ∧ x1 ∧ 1 = 1 ∧ (∀ (y : Nat), y < 1 → datas Bool.false [AV.int IntKind.i64 (772 : Int)] = Bool.true ∧ [AV.int IntKind.i64 (772 : Int)] = [AV.int IntKind.i64 (772 : Int)]) ∧ allP (fun (i : Nat) => c.R i = c.R i) 0 32 (c.s = c.s ∧ c.n1 = c.n1 ∧ (∀ (y : Nat), y < c.n1 → datas Bool.true [AV.int IntKind.i64 (c.L1 y)] = Bool.true ∧ c.L1 y = c.L1 y ∧ True) ∧ c.n2 = c.n2 ∧ (∀ (y : Nat), y < c.n2 → datas Bool.true [AV.int IntKind.i64 (c.L2 y)] = Bool.true ∧ c.L2 y = c.L2 y ∧ True) ∧ c.n3 = c.n3 ∧ (∀ (y : Nat), y < c.n3 → datas Bool.true [AV.int IntKind.i64 (c.L3 y)] = Bool.true ∧ c.L3 y = c.L3 y ∧ True) ∧ c.n4 = c.n4 ∧ (∀ (y : Nat), y < c.n4 → datas Bool.true [AV.int IntKind.i64 (c.L4 y)] = Bool.true ∧ c.L4 y = c.L4 y ∧ True) ∧ c.n5 = c.n5 ∧ (∀ (y : Nat), y < c.n5 → datas Bool.true [AV.int IntKind.i64 (c.G y), AV.rb Bool.true (c.K y) NL.unk] = Bool.true ∧ c.G y = c.G y ∧ c.K y = c.K y ∧ True) ∧ c.co = c.co ∧ c.mo = c.mo ∧ c.n6 = c.n6 ∧ (∀ (y : Nat), y < c.n6 → datas Bool.true [AV.rb Bool.true (c.T y) NL.unk, AV.int IntKind.i64 (c.A y)] = Bool.true ∧ c.T y = c.T y ∧ c.A y = c.A y ∧ True) ∧ c.n7 = c.n7 ∧ (∀ (y : Nat), y < c.n7 → datas Bool.true [AV.rb Bool.true (c.D y) NL.unk] = Bool.true ∧ c.D y = c.D y ∧ True) ∧ True)); let x3 := IntKind.i64.wrap ((↑(List.length b) : Int) - (1 : Int)); let x4 := ∀ (y : Nat), y < 1 → datas Bool.false [AV.int IntKind.i64 (772 : Int)] = Bool.true ∧ [AV.int IntKind.i64 (772 : Int)] = [AV.int IntKind.i64 (772 : Int)]; let x5 : Cli := { R := fun (i : Nat) => (rg 32 R).getD i (0 : BitVec 8), s := s, n1 := N, L1 := fun (j : Nat) => if j + 1 < N then h j else (4867 : Int), n2 := 1, L2 := fun (j : Nat) => (772 : Int), n3 := 0, L3 := fun (j : Nat) => (0 : Int), n4 := 0, L4 := fun (j : Nat) => (0 : Int), n5 := 0, G := fun (j : Nat) => (0 : Int), K := fun (j : Nat) => [], co := [], mo := [], n6 := 0, T := fun (j : Nat) => [], A := fun (j : Nat) => (0 : Int), n7 := 0, D := fun (j : Nat) => [] }; let x6 := ((fun (q : List Prop × Nat) => (q.fst ++ [q.snd ≤ List.length b], 0, q.snd)) ([(0 : Int) ≤ x3], x3.toNat)).snd; let x7 := fun (i : Nat) => R i = R i; let x8 := 4 + (↑(beN (cutB m 1 3)) : Int).toNat; let x9 := hdZ c ([plus 0 x6.fst + minus x6.snd x6.fst ≤ List.length b], List.take (minus x6.snd x6.fst) (dropN (plus 0 x6.fst) b)).snd; ∀ (x : Unit), True → (0 + N ≤ N ∧ (∀ (y : Nat), y < N → datas Bool.true [AV.int IntKind.i64 (if y + 1 < N then h y else (4867 : Int))] = Bool.true ∧ [AV.int IntKind.i64 (if y + 1 < N then h y else (4867 : Int))].length ≤ 1) ∧ 1 ≤ 1 ∧ (∀ (y : Nat), y < 1 → datas Bool.true [AV.int IntKind.i64 (772 : Int)] = Bool.true ∧ [AV.int IntKind.i64 (772 : Int)].length ≤ 1) ∧ ((fun (y : Nat) => [AV.int IntKind.i64 (if y + 1 < N then h y else (4867 : Int))]) = fun (y : Nat) => [AV.int IntKind.i64 (if y + 1 < N then h y else (4867 : Int))]) ∧ ((fun (y : Nat) => [AV.int IntKind.i64 (772 : Int)]) = fun (y : Nat) => [AV.int IntKind.i64 (772 : Int)]) ∧ ((fun (x : Nat) => [AV.int IntKind.i64 (0 : Int)]) = fun (x : Nat) => [AV.int IntKind.i64 (0 : Int)]) ∧ ((fun (x : Nat) => [AV.int IntKind.i64 (0 : Int)]) = fun (x : Nat) => [AV.int IntKind.i64 (0 : Int)]) ∧ ((fun (x : Nat) => [AV.int IntKind.i64 (0 : Int), AV.rb Bool.true [] (NL.is Bool.false)]) = fun (x : Nat) => [AV.int IntKind.i64 (0 : Int), AV.rb Bool.true [] (NL.is Bool.false)]) ∧ ((fun (x : Nat) => [AV.rb Bool.true [] (NL.is Bool.false), AV.int IntKind.i64 (0 : Int)]) = fun (x : Nat) => [AV.rb Bool.true [] (NL.is Bool.false), AV.int IntKind.i64 (0 : Int)]) ∧ ((fun (x : Nat) => [AV.rb Bool.true [] (NL.is Bool.false)]) = fun (x : Nat) => [AV.rb Bool.true [] (NL.is Bool.false)]) ∧ ∃ (y : Unit), True ∧ 0 = 0 ∧ 0 = 0 ∧ (0 : Int) = x5.pE ∧ 0 = 0 ∧ 0 = 0 ∧ 0 = 0 ∧ List.length b = List.length x5.pB ∧ allP x7 0 32 (allP x7 0 32 (s = s ∧ 0 = 0 ∧ 0 = 0 ∧ N = N ∧ 0 = 0 ∧ 0 = 0 ∧ 1 = 1 ∧ N = N ∧ x1 ∧ 1 = 1 ∧ x4 ∧ b = x5.pB ∧ True))) ∧ ∀ (x : Unit), True → @Bool.rec (fun _ => Prop) (0 < 1099511627776 ∧ Bool.false = Bool.false ∧ 1 = 1 ∧ List.length b = List.length b ∧ 1 + List.length b < 549755813888 ∧ puBad (↑(List.length b) : Int) (3 : Int) = Bool.false ∧ ∃ (y : Unit), True ∧ 0 = 0 ∧ 0 = 0 ∧ (0 : Int) = (0 : Int) ∧ 0 = 0 ∧ 0 = 0 ∧ 0 = 0 ∧ List.length m = 4 + List.length b ∧ (0 : Int) = (0 : Int) ∧ allP x7 0 32 (allP x7 0 32 (s = s ∧ 0 = 0 ∧ 0 = 0 ∧ N = N ∧ 0 = 0 ∧ 0 = 0 ∧ 1 = 1 ∧ N = N ∧ x1 ∧ 1 = 1 ∧ x4 ∧ m = pvB (puB [] (1 : Int) (1 : Int)) b (3 : Int) ∧ True))) (∃ (y : Unit), True ∧ 0 = 0 ∧ 0 = 0 ∧ (0 : Int) = (0 : Int) ∧ List.length m = 0 ∧ (0 : Int) = (1 : Int) ∧ allP x7 0 32 (allP x7 0 32 (s = s ∧ 0 = 0 ∧ 0 = 0 ∧ N = N ∧ 0 = 0 ∧ 0 = 0 ∧ 1 = 1 ∧ N = N ∧ x1 ∧ 1 = 1 ∧ x4 ∧ m = [] ∧ True))) (decide ((2048 : Int) < (↑(List.length b) : Int))) ∧ ∀ (x : Unit), True → (List.length m = List.length m ∧ 0 + List.length m < 549755813888 ∧ puBad (↑(List.length m) : Int) (3 : Int) = Bool.false ∧ ∃ (y : Unit), True ∧ 0 = 0 ∧ 0 = 0 ∧ (0 : Int) = (0 : Int) ∧ (0 : Int) = (0 : Int) ∧ 0 = 0 ∧ 0 = 0 ∧ 0 = 0 ∧ List.length v = 3 + List.length m ∧ allP x7 0 32 (allP x7 0 32 (s = s ∧ 0 = 0 ∧ 0 = 0 ∧ N = N ∧ 0 = 0 ∧ 0 = 0 ∧ 1 = 1 ∧ N = N ∧ x1 ∧ 1 = 1 ∧ x4 ∧ v = pvB [] m (3 : Int) ∧ True))) ∧ ∀ (x : Unit), True → (List.length v = List.length v ∧ List.length v < 1099511627776 ∧ ∃ (y : Unit), True ∧ 0 = 0 ∧ 0 = 0 ∧ (0 : Int) = (0 : Int) ∧ (0 : Int) = (0 : Int) ∧ 0 = 0 ∧ allP x7 0 32 (allP x7 0 32 (s = s ∧ 0 = 0 ∧ 0 = 0 ∧ N = N ∧ 0 = 0 ∧ 0 = 0 ∧ 1 = 1 ∧ N = N ∧ x1 ∧ 1 = 1 ∧ x4 ∧ 0 = 0 ∧ 0 = 0 ∧ 0 = 0 ∧ List.length v = List.length v ∧ (0 : Int) = (0 : Int) ∧ v = v ∧ True))) ∧ ∀ (x : Unit), True → (0 + List.length v = List.length v ∧ List.length v < 1099511627776 ∧ ((1 : Int) ≤ (3 : Int) ∧ (3 : Int) ≤ (4 : Int)) ∧ (3 + beN (cutB v 0 3) ≤ List.length v ∧ (0 : Int) ≤ (↑(beN (cutB v 0 3)) : Int) ∧ (↑(beN (cutB v 0 3)) : Int) ≤ (9999 : Int)) ∧ ∃ (y : Unit), True ∧ 0 = 0 ∧ 0 = 0 ∧ (0 : Int) = (0 : Int) ∧ (0 : Int) = (0 : Int) ∧ 0 = 0 ∧ 0 = 0 ∧ 0 = 0 ∧ 0 = 0 ∧ List.length m = beN (cutB v 0 3) ∧ allP x7 0 32 (allP x7 0 32 (s = s ∧ 0 = 0 ∧ 0 = 0 ∧ N = N ∧ 0 = 0 ∧ 0 = 0 ∧ 1 = 1 ∧ N = N ∧ x1 ∧ 1 = 1 ∧ x4 ∧ List.length v = 3 + beN (cutB v 0 3) ∧ 0 = 0 ∧ List.length v = 3 + beN (cutB v 0 3) ∧ 0 = List.length v - (3 + beN (cutB v 0 3)) ∧ (0 : Int) = (0 : Int) ∧ v = v ∧ m = cutB v 3 (beN (cutB v 0 3)) ∧ True))) ∧ ∀ (x : Unit), True → @Bool.rec (fun _ => Prop) (List.length m = List.length m ∧ List.length m < 1099511627776 ∧ 0 + List.length m = List.length m ∧ List.length m < 1099511627776 ∧ ((1 : Int) ≤ (1 : Int) ∧ (1 : Int) ≤ (4 : Int)) ∧ 1 ≤ List.length m ∧ 1 + (List.length m - 1) = List.length m ∧ List.length m < 1099511627776 ∧ ((1 : Int) ≤ (3 : Int) ∧ (3 : Int) ≤ (4 : Int)) ∧ 4 ≤ List.length m ∧ 4 + (List.length m - 4) = List.length m ∧ List.length m < 1099511627776 ∧ (0 : Int) ≤ (↑(beN (cutB m 1 3)) : Int) ∧ x8 ≤ List.length m ∧ x8 + (List.length m - x8) = List.length m ∧ List.length m < 1099511627776 ∧ (0 : Int) ≤ lfV (List.length m - x8) (0 : Int) ∧ x8 + (lfV (List.length m - x8) (0 : Int)).toNat ≤ List.length m ∧ ∃ (y : Unit), True ∧ 0 = 0 ∧ 0 = 0 ∧ (0 : Int) = (0 : Int) ∧ (0 : Int) = (0 : Int) ∧ 0 = 0 ∧ 0 = 0 ∧ 0 = 0 ∧ 0 = 0 ∧ 0 = 0 ∧ 0 = (lfV (List.length m - x8) (0 : Int)).toNat ∧ Bool.true = Bool.true ∧ (0 : Int) = (0 : Int) ∧ allP x7 0 32 (allP x7 0 32 (s = s ∧ 0 = 0 ∧ 0 = 0 ∧ N = N ∧ 0 = 0 ∧ 0 = 0 ∧ 1 = 1 ∧ N = N ∧ x1 ∧ 1 = 1 ∧ x4 ∧ List.length v = List.length v ∧ 0 = 0 ∧ List.length v = List.length v ∧ 0 = 0 ∧ (0 : Int) = (0 : Int) ∧ v = v ∧ (1 : Int) = (↑(beN (cutB m 0 1)) : Int) ∧ 0 = 0 ∧ 0 = 0 ∧ 0 = 0 ∧ List.length b = (↑(beN (cutB m 1 3)) : Int).toNat ∧ b = cutB m 4 (↑(beN (cutB m 1 3)) : Int).toNat ∧ [] = cutB m x8 (lfV (List.length m - x8) (0 : Int)).toNat ∧ True))) (List.length m = List.length m ∧ List.length m < 1099511627776 ∧ 0 + List.length m = List.length m ∧ List.length m < 1099511627776 ∧ ((1 : Int) ≤ (1 : Int) ∧ (1 : Int) ≤ (4 : Int)) ∧ 1 ≤ List.length m ∧ 1 + (List.length m - 1) = List.length m ∧ List.length m < 1099511627776 ∧ ((1 : Int) ≤ (3 : Int) ∧ (3 : Int) ≤ (4 : Int)) ∧ 4 ≤ List.length m ∧ ∃ (y : Unit), True ∧ 0 = 0 ∧ 0 = 0 ∧ (0 : Int) = (0 : Int) ∧ (0 : Int) = (0 : Int) ∧ 0 = 0 ∧ 0 = 0 ∧ 0 = 0 ∧ Bool.true = Bool.false ∧ (0 : Int) = (3 : Int) ∧ allP x7 0 32 (allP x7 0 32 (s = s ∧ 0 = 0 ∧ 0 = 0 ∧ N = N ∧ 0 = 0 ∧ 0 = 0 ∧ 1 = 1 ∧ N = N ∧ x1 ∧ 1 = 1 ∧ x4 ∧ List.length v = List.length v ∧ 0 = 0 ∧ List.length v = List.length v ∧ 0 = 0 ∧ (0 : Int) = (0 : Int) ∧ v = v ∧ (1 : Int) = (0 : Int) ∧ List.length b = 0 ∧ b = [] ∧ ([] : By) = [] ∧ True))) (decide ((2048 : Int) < (↑(beN (cutB m 1 3)) : Int))) ∧ ∀ (x : Unit), True → @Bool.rec (fun _ => Prop) (0 < 3 ∧ 0 < 3 ∧ 3 = 3 ∧ 3 < 4611686018427387904 ∧ Bool.true = Bool.false ∧ True) (0 < 3 ∧ 0 < 3 ∧ 3 = 3 ∧ 3 < 4611686018427387904 ∧ @Bool.rec (fun _ => Prop) (Bool.true = Bool.false ∧ True) (0 = 0 ∧ @Bool.rec (fun _ => Prop) (List.length b = List.length b ∧ c.ok ∧ b = c.by ∧ (0 : Int) ≤ x3 ∧ x3.toNat ≤ List.length b ∧ @Bool.rec (fun _ => Prop) (0 + x3.toNat ≤ List.length b ∧ c.ok ∧ List.take x3.toNat b = c.by ∧ Bool.true = Bool.false ∧ True) (0 + x3.toNat ≤ List.length b ∧ c.ok ∧ x9 ∧ @Bool.rec (fun _ => Prop) (Bool.true = Bool.false ∧ True) (@Bool.rec (fun _ => Prop) (Bool.true = Bool.false ∧ True) (@Bool.rec (fun _ => Prop) (Bool.true = Bool.false ∧ True) (@Bool.rec (fun _ => Prop) ((∃ (x : Nat), x.le N ∧ 0 = 0 ∧ 0 = 0 ∧ (↑x : Int) = (0 : Int) ∧ x2) ∧ ∀ (x : Nat), x.le N → @Bool.rec (fun _ => Prop) (Bool.true = Bool.true ∧ True) ((0 : Int) ≤ (↑x : Int) ∧ (↑x : Int).toNat < c.n1 ∧ (0 : Int) ≤ (↑x : Int) ∧ (↑x : Int).toNat < N ∧ (↑x : Int).toNat < N ∧ @Bool.rec (fun _ => Prop) (∃ (y : Nat), N - y < N - x ∧ y.le N ∧ 0 = 0 ∧ 0 = 0 ∧ (↑y : Int) = IntKind.i64.wrap ((↑x : Int) + (1 : Int)) ∧ x2) (Bool.true = Bool.false ∧ True) !decide (c.L1 (↑x : Int).toNat = if (↑x : Int).toNat + 1 < N then h (↑x : Int).toNat else (4867 : Int))) (decide ((↑x : Int) < (↑c.n1 : Int)))) (Bool.true = Bool.false ∧ True) !decide ((↑c.n2 : Int) = (1 : Int))) !!decide ((↑c.n1 : Int) = (↑N : Int))) !!decide (c.s = s)) !!andP (fun (i : Nat) => decide (c.R i = R i)) 0 32 Bool.true) (decide ((List.take x3.toNat b).length < List.length c.by))) (List.length b = List.length b ∧ c.ok ∧ hdZ c ([List.length b = List.length b], b).snd ∧ (0 : Int) ≤ x3 ∧ x3.toNat ≤ List.length b ∧ @Bool.rec (fun _ => Prop) (0 + x3.toNat ≤ List.length b ∧ c.ok ∧ List.take x3.toNat b = c.by ∧ Bool.true = Bool.false ∧ True) (0 + x3.toNat ≤ List.length b ∧ c.ok ∧ x9 ∧ Bool.true = Bool.false ∧ True) (decide ((List.take x3.toNat b).length < List.length c.by))) (decide (List.length b < List.length c.by))) !!decide (shaB [BitVec.ofNat 8 97, BitVec.ofNat 8 98, BitVec.ofNat 8 99] 31 = BitVec.ofNat 8 173)) (decide (shaB [BitVec.ofNat 8 97, BitVec.ofNat 8 98, BitVec.ofNat 8 99] 0 = BitVec.ofNat 8 186))
set_option maxRecDepth 100000 in
theorem vrg (R : Nat → BitVec 8) (s l b m v : By) (cs cn : Bool) (n N : Nat) (g h : Nat → Int) (c : Cli) : bodyP Tryd.prog (Y6 c) gl0 [] (lssR R s n N g h b m v c) 3000 Tryd.f6 0 [aggB 32 R, .rb true l (.is cs), inR true n g (.is cn)] [] (retQ Tryd.prog Tryd.f6 0 ⟨[], .bool true, [], []⟩) = (
let x1 := rgV R s b m v N h c; let x2 := 1 = 1 ∧ (∀ (y : Nat), y < 1 → datas Bool.false [AV.int IntKind.i64 (772 : Int)] = Bool.true ∧ [AV.int IntKind.i64 (772 : Int)] = [AV.int IntKind.i64 (772 : Int)]) ∧ True; let x3 := fun (i : Nat) => R i = R i; (0 : Int) ≤ Min.min (↑(List.length l) : Int) (32 : Int) ∧ (Min.min (↑(List.length l) : Int) (32 : Int)).toNat ≤ List.length l ∧ (∃ (x : Nat), (x ≤ 7 ∧ x ≤ n) ∧ n = n ∧ (∀ (y : Nat), y < n → datas Bool.true [AV.int IntKind.i64 (g y)] = Bool.true ∧ g y = g y ∧ True) ∧ 0 = 0 ∧ 0 = 0 ∧ (↑x : Int) = (0 : Int) ∧ allP x3 0 32 (allP x3 0 32 (s = List.take (Min.min (↑(List.length l) : Int) (32 : Int)).toNat l ∧ x = 0 ∧ 0 = 0 ∧ 0 = 0 ∧ 0 = 0 ∧ 1 = 1 ∧ x = 0 ∧ 1 = 1 ∧ (∀ (y : Nat), y < 1 → datas Bool.false [AV.int IntKind.i64 (772 : Int)] = Bool.true ∧ cut 1 [AV.int IntKind.i64 (772 : Int)] y = [AV.int IntKind.i64 (772 : Int)]) ∧ True))) ∧ ∀ (x : Nat), let x1 := (x = x ∧ roomFor x 1 8 ∧ ∃ (y : Unit), True ∧ 0 = 0 ∧ 0 = 0 ∧ allP x3 0 32 (allP x3 0 32 (s = s ∧ 0 = 0 ∧ 0 = 0 ∧ 0 = 0 ∧ N = x + 1 ∧ 0 = 0 ∧ 0 = 0 ∧ 0 = 0 ∧ 1 = 1 ∧ N = x + 1 ∧ (∀ (y : Nat), y < N → datas Bool.false [AV.int IntKind.i64 (if y + 1 < N then h y else (4867 : Int))] = Bool.true ∧ glue (fun (j : Nat) => [AV.int IntKind.i64 (h j)]) x (cut 1 (List.take 1 (List.drop 0 [AV.int IntKind.i64 (4867 : Int)]))) y = [AV.int IntKind.i64 (if y + 1 < N then h y else (4867 : Int))]) ∧ x2))) ∧ x1; x ≤ 7 ∧ x ≤ n → @Bool.rec (fun _ => Prop) x1 (@Bool.rec (fun _ => Prop) x1 ((0 : Int) ≤ (↑x : Int) ∧ (↑x : Int).toNat < n ∧ x = x ∧ roomFor x 1 8 ∧ ∃ (y : Nat), 7 - y < 7 - x ∧ (y ≤ 7 ∧ y ≤ n) ∧ n = n ∧ (∀ (y : Nat), y < n → datas Bool.true [AV.int IntKind.i64 (g y)] = Bool.true ∧ g y = g y ∧ True) ∧ 0 = 0 ∧ 0 = 0 ∧ (↑y : Int) = IntKind.i64.wrap ((↑x : Int) + (1 : Int)) ∧ allP x3 0 32 (allP x3 0 32 (s = s ∧ 0 = 0 ∧ 0 = 0 ∧ 0 = 0 ∧ y = x + 1 ∧ 0 = 0 ∧ 0 = 0 ∧ 0 = 0 ∧ 1 = 1 ∧ y = x + 1 ∧ (∀ (y_1 : Nat), y_1 < y → datas Bool.false [AV.int IntKind.i64 (h y_1)] = Bool.true ∧ glue (fun (j : Nat) => [AV.int IntKind.i64 (h j)]) x (cut 1 (List.take 1 (List.drop 0 [AV.int IntKind.i64 (↑(BitVec.ofInt 16 (g (↑x : Int).toNat)).toNat : Int)]))) y_1 = [AV.int IntKind.i64 (h y_1)]) ∧ x2))) (decide ((↑x : Int) < (7 : Int)))) (decide ((↑x : Int) < (↑n : Int))) : Prop) := by kernel_rfl
end Go.Sym

set_option linter.unusedSimpArgs false
namespace Go.Spec
open Go.Sym
/-- The greeting of the law. -/
def cR (R : Nat → BitVec 8) (s : By) (N : Nat) (h : Nat → Int) : Cli := { R := fun i => (rg 32 R).getD i (0 : BitVec 8), s := s, n1 := N, L1 := suH h N, n2 := 1, L2 := fun _ => 772, n3 := 0, L3 := fun _ => 0, n4 := 0, L4 := fun _ => 0, n5 := 0, G := fun _ => 0, K := fun _ => [], co := [], mo := [], n6 := 0, T := fun _ => [], A := fun _ => 0, n7 := 0, D := fun _ => [] }
theorem cR_ok {R : Nat → BitVec 8} {s : By} {N : Nat} {h : Nat → Int} (hs : s.length ≤ 32) (h1 : 1 ≤ N) (h8 : N ≤ 8) (hh : ∀ j, 0 ≤ h j ∧ h j ≤ 65535) : (cR R s N h).ok := by
  have z : ∀ n : Nat, n = 0 → ∀ j, j < n → False := fun n e j h => by omega
  refine ⟨hs, h1, h8, fun j hj => ?_, by show (1 : Nat) ≤ 4; decide, fun j hj => by show (0 : Int) ≤ 772 ∧ (772 : Int) ≤ 65535; decide, by show (0 : Nat) ≤ 4; decide, fun j hj => (z _ rfl j hj).elim, by show (0 : Nat) ≤ 4; decide, fun j hj => (z _ rfl j hj).elim, ⟨by show (0 : Nat) ≤ 4; decide, fun j hj => (z _ rfl j hj).elim⟩, by show (0 : Nat) ≤ 64; decide, by show (0 : Nat) ≤ 4; decide, rfl, ⟨by show (0 : Nat) ≤ 4; decide, fun j hj => (z _ rfl j hj).elim⟩⟩
  show 0 ≤ suH h N j ∧ suH h N j ≤ 65535
  unfold suH
  split
  · exact hh j
  · decide
theorem cR_ex (R : Nat → BitVec 8) (s : By) (N : Nat) (h : Nat → Int) : (cR R s N h).ex.length = 7 := rfl
theorem msg_eq (b : By) : pvB (puB [] 1 1) b 3 = puL 1 1 ++ (puL b.length 3 ++ (b ++ [])) := by
  unfold pvB puB
  simp only [List.nil_append, List.append_assoc, List.append_nil, Int.toNat_natCast]
  rfl
theorem vec_eq (m : By) : pvB [] m 3 = puL m.length 3 ++ (m ++ []) := by
  unfold pvB puB
  simp only [List.nil_append, List.append_assoc, List.append_nil, Int.toNat_natCast]
  rfl
end Go.Spec
namespace Go.Sym
open Go.Proofs Go.Spec
set_option linter.unusedVariables false
theorem abc0 : shaB [BitVec.ofNat 8 97, BitVec.ofNat 8 98, BitVec.ofNat 8 99] 0 = BitVec.ofNat 8 186 := by rw [shaB_eq]; decide +kernel
theorem abc31 : shaB [BitVec.ofNat 8 97, BitVec.ofNat 8 98, BitVec.ofNat 8 99] 31 = BitVec.ofNat 8 173 := by rw [shaB_eq]; decide +kernel
theorem rg_V {R : Nat → BitVec 8} {s : By} {N : Nat} {h : Nat → Int} {b m v : By} {c : Cli} (hc : c = cR R s N h) (hb : b = c.by) (hm : m = pvB (puB [] 1 1) b 3) (hv : v = pvB [] m 3) (hs : s.length ≤ 32) (h1 : 1 ≤ N) (h8 : N ≤ 8) (hh : ∀ j, 0 ≤ h j ∧ h j ≤ 65535) : rgV R s b m v N h c := by
  have hok : c.ok := by rw [hc]; exact cR_ok hs h1 h8 hh
  have hex : c.ex.length = 7 := by rw [hc]; exact cR_ex ..
  have hs' : c.s.length ≤ 32 := hok.hs
  have hn' : c.n1 = N := by rw [hc]; rfl
  have lb : b.length = 41 + c.s.length + 2 * c.n1 + 7 := by
    have x := (byAt_of c hok).x.b
    rw [hb]; omega
  have m1 := hm
  rw [msg_eq] at m1
  have v1 := hv
  rw [vec_eq] at v1
  have lm : m.length = 4 + b.length := by rw [m1]; simp only [List.length_append, puL_len, List.length_nil]; omega
  have lv : v.length = 3 + m.length := by rw [v1]; simp only [List.length_append, puL_len, List.length_nil]; omega
  have f1 : beN (cutB m 0 1) = 1 := by rw [m1]; exact beN_at (A := []) rfl (by decide)
  have f2 : beN (cutB m 1 3) = b.length := by rw [m1]; exact beN_at (by rw [puL_len]) (by show b.length < 16777216; omega)
  have f3 : cutB m 4 b.length = b := by
    have e : m = (puL 1 1 ++ puL b.length 3) ++ (b ++ []) := by rw [m1]; simp only [List.append_assoc]
    rw [e]; exact cutB_at (by simp only [List.length_append, puL_len]) rfl
  have f4 : beN (cutB v 0 3) = m.length := by rw [v1]; exact beN_at (A := []) rfl (by show m.length < 16777216; omega)
  have f5 : cutB v 3 m.length = m := by rw [v1]; exact cutB_at (by rw [puL_len]) rfl
  unfold rgV
  intro x1 x2 x3 x4 x5 x6 x7 x8 x9 _ _
  have h5 : x5 = c := by rw [hc]; rfl
  have hpB : x5.pB = b := by rw [h5, hb]; unfold Cli.pB; rw [if_pos (Cli.okB_iff.2 hok)]
  have hpE : x5.pE = 0 := by rw [h5]; unfold Cli.pE; rw [if_pos (Cli.okB_iff.2 hok)]
  have hx1 : x1 := fun y _ => ⟨rfl, rfl⟩
  have hx4 : x4 := fun y _ => ⟨rfl, rfl⟩
  have q3 : x3 = (b.length : Int) - 1 := wrap_i64 (by omega) (by omega)
  have q8 : x8 = 4 + b.length := by show 4 + ((beN (cutB m 1 3) : Nat) : Int).toNat = _; rw [f2, Int.toNat_natCast]
  have hK : ∀ {P : Prop}, P → allP (fun i => R i = R i) 0 32 (allP (fun i => R i = R i) 0 32 P) := fun p => allP_of 32 0 (fun _ _ _ => rfl) (allP_of 32 0 (fun _ _ _ => rfl) p)
  have hx2 : x2 := allP_of 32 0 (fun _ _ _ => rfl) ⟨rfl, rfl, rfl, rfl, rfl, rfl, rfl, rfl, hx1, rfl, fun y _ => ⟨rfl, rfl⟩, sameC_of rfl trivial⟩
  have hx9 : x9 := by
    show hdZ c (List.take (minus x3.toNat 0) (dropN (plus 0 0) b))
    have e : minus x3.toNat 0 = c.by.length - 1 := by show x3.toNat - 0 = _; rw [q3, hb]; omega
    rw [e, hb]
    exact hdZ_of c hok (by omega)
  have hlt : (List.take x3.toNat b).length < c.by.length := by rw [List.length_take, ← hb]; omega
  have cs : c.s = s := by rw [hc]; rfl
  have cR0 : ∀ i, i < 32 → c.R i = R i := fun i hi => by rw [hc]; exact rg_getD 32 R i _ hi
  have cL : ∀ j, c.L1 j = if j + 1 < N then h j else 4867 := fun j => by rw [hc]; rfl
  have cn2 : c.n2 = 1 := by rw [hc]; rfl
  clear_value x1 x2 x3 x4 x5 x8 x9
  refine ⟨⟨by omega, fun y _ => ⟨rfl, Nat.le_refl _⟩, Nat.le_refl _, fun y _ => ⟨rfl, Nat.le_refl _⟩, rfl, rfl, rfl, rfl, rfl, rfl, rfl, (), trivial, rfl, rfl, hpE.symm, rfl, rfl, rfl, by rw [hpB], hK ⟨rfl, rfl, rfl, rfl, rfl, rfl, rfl, rfl, hx1, rfl, hx4, hpB.symm, trivial⟩⟩, fun _ _ => ⟨brec (fun d => ?_) (fun _ => ?_), fun _ _ => ⟨⟨rfl, by omega, puBad_ok (by omega) (by omega) (by omega) (by show (m.length : Int) < 16777216; omega), (), trivial, rfl, rfl, rfl, rfl, rfl, rfl, rfl, by omega, hK ⟨rfl, rfl, rfl, rfl, rfl, rfl, rfl, rfl, hx1, rfl, hx4, hv, trivial⟩⟩, fun _ _ => ⟨⟨rfl, by omega, (), trivial, rfl, rfl, rfl, rfl, rfl, hK ⟨rfl, rfl, rfl, rfl, rfl, rfl, rfl, rfl, hx1, rfl, hx4, rfl, rfl, rfl, rfl, rfl, rfl, trivial⟩⟩, fun _ _ => ⟨?_, fun _ _ => ⟨?_, fun _ _ => ?_⟩⟩⟩⟩⟩⟩
  · have := of_decide_eq_true d
    omega
  · exact ⟨by decide, rfl, rfl, rfl, by omega, puBad_ok (by omega) (by omega) (by omega) (by show (b.length : Int) < 16777216; omega), (), trivial, rfl, rfl, rfl, rfl, rfl, rfl, lm, rfl, hK ⟨rfl, rfl, rfl, rfl, rfl, rfl, rfl, rfl, hx1, rfl, hx4, hm, trivial⟩⟩
  · rw [f4]
    exact ⟨by omega, by omega, by decide, ⟨by omega, by omega, by omega⟩, (), trivial, rfl, rfl, rfl, rfl, rfl, rfl, rfl, rfl, rfl, hK ⟨rfl, rfl, rfl, rfl, rfl, rfl, rfl, rfl, hx1, rfl, hx4, lv, rfl, lv, by omega, rfl, rfl, f5.symm, trivial⟩⟩
  · refine brec (fun d => ?_) (fun _ => ?_)
    · have := of_decide_eq_true d
      rw [f2] at this
      omega
    · have l0 : m.length - x8 = 0 := by omega
      have e0 : (lfV (m.length - x8) 0).toNat = 0 := by rw [l0]; rfl
      have e1 : (0 : Int) ≤ lfV (m.length - x8) 0 := by rw [l0]; decide
      rw [f1, f2, e0]
      exact ⟨rfl, by omega, by omega, by omega, by decide, by omega, by omega, by omega, by decide, by omega, by omega, by omega, by omega, by omega, by omega, by omega, e1, by omega, (), trivial, rfl, rfl, rfl, rfl, rfl, rfl, rfl, rfl, rfl, rfl, rfl, rfl, hK ⟨rfl, rfl, rfl, rfl, rfl, rfl, rfl, rfl, hx1, rfl, hx4, rfl, rfl, rfl, rfl, rfl, rfl, rfl, rfl, rfl, rfl, by rw [Int.toNat_natCast], by rw [Int.toNat_natCast, f3], rfl, trivial⟩⟩
  · have d0 : decide (shaB [BitVec.ofNat 8 97, BitVec.ofNat 8 98, BitVec.ofNat 8 99] 0 = BitVec.ofNat 8 186) = true := decide_eq_true abc0
    have d31 : (!!decide (shaB [BitVec.ofNat 8 97, BitVec.ofNat 8 98, BitVec.ofNat 8 99] 31 = BitVec.ofNat 8 173)) = true := by rw [decide_eq_true abc31]; rfl
    generalize decide (shaB [BitVec.ofNat 8 97, BitVec.ofNat 8 98, BitVec.ofNat 8 99] 0 = BitVec.ofNat 8 186) = t0 at *
    generalize (!!decide (shaB [BitVec.ofNat 8 97, BitVec.ofNat 8 98, BitVec.ofNat 8 99] 31 = BitVec.ofNat 8 173)) = t31 at *
    refine brec (fun _ => ⟨by decide, by decide, rfl, by decide, brec (fun _ => ⟨rfl, brec (fun d => ?_) (fun _ => ⟨rfl, hok, hb, by omega, by omega, brec (fun _ => ⟨by omega, hok, hx9, brec (fun _ => brec (fun _ => brec (fun _ => brec (fun d => ?_) (fun _ => ⟨⟨0, Nat.zero_le _, rfl, rfl, rfl, hx2⟩, fun k hk => brec (fun d => ?_) (fun _ => ⟨rfl, trivial⟩)⟩)) (fun d => ?_)) (fun d => ?_)) (fun d => ?_)⟩) (fun d => ?_)⟩)⟩) (fun d => by rw [d31] at d; cases d)⟩) (fun d => by rw [d0] at d; cases d)
    · have := of_decide_eq_true d
      rw [hb] at this
      omega
    · rw [cn2] at d
      exact absurd d (by decide)
    · have d := of_decide_eq_true d
      have hk : k ≤ N := hk
      refine ⟨by omega, by omega, by omega, by omega, by omega, brec (fun d => ?_) (fun _ => ⟨k + 1, by omega, show k + 1 ≤ N by omega, rfl, rfl, (wrap_i64 (by omega) (by omega)).symm, hx2⟩)⟩
      rw [cL, decide_eq_true rfl] at d
      cases d
    · rw [hn', decide_eq_true rfl] at d
      cases d
    · rw [cs, decide_eq_true rfl] at d
      cases d
    · have e : andP (fun (i : Nat) => decide (c.R i = R i)) 0 32 true = true := (andP_iff 32 0).mpr ⟨fun j _ hj => decide_eq_true (cR0 j (by omega)), rfl⟩
      rw [e] at d
      cases d
    · rw [decide_eq_true hlt] at d
      cases d
end Go.Sym

set_option linter.unusedSimpArgs false
namespace Go.Sym
open Go.Proofs Go.Spec
set_option linter.unusedVariables false
theorem glueI {e : Nat → Int} (a : Int) (x y : Nat) (hy : y < x + 1) : glue (fun j => [AV.int IntKind.i64 (e j)]) x (cut 1 (List.take 1 (List.drop 0 [AV.int IntKind.i64 a]))) y = [AV.int IntKind.i64 (if y < x then e y else a)] := by
  unfold glue
  by_cases c : y < x
  · simp only [if_pos c]
  · simp only [if_neg c]
    have : y = x := by omega
    subst this
    rw [Nat.sub_self]
    rfl
theorem one_cut {y : Nat} (h : y < 1) : cut 1 [AV.int IntKind.i64 772] y = [AV.int IntKind.i64 772] := by
  obtain rfl : y = 0 := by omega
  rfl
/-- A suite, as sixteen bits tell it. -/
def u16H (g : Nat → Int) (j : Nat) : Int := ((BitVec.ofInt 16 (g j)).toNat : Int)
def rgS (l : By) : By := List.take (min (l.length : Int) 32).toNat l
def rgC (R : Nat → BitVec 8) (l : By) (n : Nat) (g : Nat → Int) : Cli := cR R (rgS l) (min n 7 + 1) (u16H g)
def rgM (c : Cli) : By := pvB (puB [] 1 1) c.by 3
theorem brg (R : Nat → BitVec 8) (l : By) (cs cn : Bool) (n : Nat) (g : Nat → Int) : Must (bodyP Tryd.prog (Y6 (rgC R l n g)) gl0 [] (lssR R (rgS l) n (min n 7 + 1) g (u16H g) (rgC R l n g).by (rgM (rgC R l n g)) (pvB [] (rgM (rgC R l n g)) 3) (rgC R l n g)) 3000 Tryd.f6 0 [aggB 32 R, .rb true l (.is cs), inR true n g (.is cn)] [] (retQ Tryd.prog Tryd.f6 0 ⟨[], .bool true, [], []⟩)) := by
  constructor
  rw [vrg]
  intro x1 x2 x3
  have hu : ∀ j, 0 ≤ u16H g j ∧ u16H g j ≤ 65535 := fun j => by
    unfold u16H
    have := (BitVec.ofInt 16 (g j)).isLt
    omega
  have hs : (rgS l).length ≤ 32 := by unfold rgS; rw [List.length_take]; omega
  have h1 : x1 := rg_V rfl rfl rfl rfl hs (by omega) (by omega) hu
  have h2 : x2 := ⟨rfl, fun y _ => ⟨rfl, rfl⟩, trivial⟩
  clear_value x1 x2
  have hK : ∀ {P : Prop}, P → allP x3 0 32 (allP x3 0 32 P) := fun p => allP_of 32 0 (fun _ _ _ => rfl) (allP_of 32 0 (fun _ _ _ => rfl) p)
  refine ⟨by omega, by omega, ⟨0, ⟨by omega, by omega⟩, rfl, fun y _ => ⟨rfl, rfl, trivial⟩, rfl, rfl, rfl, hK ⟨rfl, rfl, rfl, rfl, rfl, rfl, rfl, rfl, fun y hy => ⟨rfl, one_cut hy⟩, trivial⟩⟩, fun x => ?_⟩
  intro x4 hx
  have key : min n 7 = x → x4 := fun e => by
    refine ⟨⟨rfl, by unfold roomFor; omega, (), trivial, rfl, rfl, hK ⟨rfl, rfl, rfl, rfl, by omega, rfl, rfl, rfl, rfl, by omega, fun y hy => ⟨rfl, ?_⟩, h2⟩⟩, h1⟩
    rw [glueI _ _ _ (by omega)]
    have : (y + 1 < min n 7 + 1) = (y < x) := by rw [e]; exact propext ⟨fun h => by omega, fun h => by omega⟩
    simp only [this]
  clear_value x4
  refine brec (fun d => brec (fun d2 => ?_) (fun d2 => key ?_)) (fun d => key ?_)
  · have d := of_decide_eq_true d
    have d2 := of_decide_eq_true d2
    refine ⟨by omega, by omega, rfl, by unfold roomFor; omega, x + 1, by omega, ⟨by omega, by omega⟩, rfl, fun y _ => ⟨rfl, rfl, trivial⟩, rfl, rfl, (wrap_i64 (by omega) (by omega)).symm, hK ⟨rfl, rfl, rfl, rfl, rfl, rfl, rfl, rfl, rfl, rfl, fun y hy => ⟨rfl, ?_⟩, h2⟩⟩
    rw [glueI _ _ _ hy]
    by_cases c : y < x
    · rw [if_pos c]
    · obtain rfl : y = x := by omega
      rw [if_neg c]
      rfl
  · have d := of_decide_eq_true d
    have d2 := of_decide_eq_false d2
    omega
  · have d := of_decide_eq_false d
    omega
end Go.Sym

namespace Go.Sym
open Go.Spec
theorem sh_by {n : Nat} {avs : List AV} (h : shAll (List.replicate n (.i .u8)) avs) : ∃ k : Nat → BitVec 8, avs = (List.range n).map fun i => .u8 (k i) := by
  obtain ⟨l, hl, rfl⟩ := sh_u8 h
  refine ⟨fun i => l.getD i 0, ?_⟩
  apply List.ext_getElem
  · simp [hl]
  · intro i h1 h2
    have : i < l.length := by simpa using h1
    simp [List.getD, this]
end Go.Sym

namespace Go.Sym
set_option linter.unusedVariables false
open Go.ChangeShapes Go.WideShapes
section
variable {H : Type} {enc : TypeId × Value → H} {P : Program} {W : World} {base : Nat} {spare : Nat → Bool} {held : Bool}
theorem rd_rowsF {t e : TypeId} {fuel : Nat} {cs : List Value} {x : DataW H × List MemPlace} {sz : Nat} {l : List Sh} {av0 : List AV} (ht : P.underlying t = some (.slice e)) (hsz : P.cellsOf e = sz) (hpos : 0 < sz) (hfl : flat P 9 e = some l) (h0 : shAll l av0)
    (h : DataW.trod enc P W base spare held fuel t cs = some x) : ∃ v n g c, cs = [v] ∧ (c = true → n = 0) ∧ n ≤ maxLen ∧ (∀ y, shAll l (g y)) ∧ VRel (κW W) (.ros true sz n g (.is c)) v :=
  rd_rows ht hsz hpos h0 (fun n xs y hh => rd_flat 9 e l n xs y hfl hh) h
end
/-- Rows of four numbers. -/
theorem sh_four {g : Nat → List AV} (h : ∀ y, shAll [.i .i64, .i .i64, .i .i64, .i .i64] (g y)) : ∃ A B C D : Nat → Int, g = fun y => [.int .i64 (A y), .int .i64 (B y), .int .i64 (C y), .int .i64 (D y)] := by
  have each : ∀ y, ∃ a b c d : Int, g y = [.int .i64 a, .int .i64 b, .int .i64 c, .int .i64 d] := by
    intro y
    obtain ⟨a, r, e1, ⟨n1, k1, _⟩, h1⟩ := sh_cons (h y)
    obtain ⟨b, r, e2, ⟨n2, k2, _⟩, h2⟩ := sh_cons h1
    obtain ⟨c, r, e3, ⟨n3, k3, _⟩, h3⟩ := sh_cons h2
    obtain ⟨d, r, e4, ⟨n4, k4, _⟩, h4⟩ := sh_cons h3
    have e5 := sh_nil h4
    subst e5
    exact ⟨n1, n2, n3, n4, by rw [e1, e2, e3, e4, k1, k2, k3, k4]⟩
  refine ⟨fun y => Classical.choose (each y), fun y => Classical.choose (Classical.choose_spec (each y)), fun y => Classical.choose (Classical.choose_spec (Classical.choose_spec (each y))), fun y => Classical.choose (Classical.choose_spec (Classical.choose_spec (Classical.choose_spec (each y)))), ?_⟩
  funext y
  exact Classical.choose_spec (Classical.choose_spec (Classical.choose_spec (Classical.choose_spec (each y))))
/-- Rows of bytes. -/
theorem sh_rb {g : Nat → List AV} (h : ∀ y, shAll [.y] (g y)) : ∃ (F : Nat → List (BitVec 8)) (C : Nat → Bool), g = (fun y => [.rb true (F y) (.is (C y))]) ∧ ∀ y, (C y = true → F y = []) ∧ (F y).length ≤ maxLen := by
  have each : ∀ y, ∃ (l : List (BitVec 8)) (c : Bool), g y = [.rb true l (.is c)] ∧ (c = true → l = []) ∧ l.length ≤ maxLen := by
    intro y
    obtain ⟨a, r, e1, ⟨l, c, k1, k2, k3⟩, h1⟩ := sh_cons (h y)
    have e5 := sh_nil h1
    subst e5
    exact ⟨l, c, by rw [e1, k1], k2, k3⟩
  refine ⟨fun y => Classical.choose (each y), fun y => Classical.choose (Classical.choose_spec (each y)), ?_, fun y => (Classical.choose_spec (Classical.choose_spec (each y))).2⟩
  funext y
  exact (Classical.choose_spec (Classical.choose_spec (each y))).1
end Go.Sym

namespace Go.Sym
/-- Rows of numbers. -/
theorem sh_one {g : Nat → List AV} (h : ∀ y, shAll [.i .i64] (g y)) : ∃ A : Nat → Int, g = fun y => [.int .i64 (A y)] := by
  have each : ∀ y, ∃ a : Int, g y = [.int .i64 a] := by
    intro y
    obtain ⟨a, r, e1, ⟨n1, k1, _⟩, h1⟩ := sh_cons (h y)
    have e5 := sh_nil h1
    subst e5
    exact ⟨n1, by rw [e1, k1]⟩
  exact ⟨fun y => Classical.choose (each y), funext fun y => Classical.choose_spec (each y)⟩
end Go.Sym

/- RelayGreetings: through the layers 7 to 9, a greeting that stands in a message, in a vector, is read again, as it was; with a byte less it isn't. Condition: the two tables of the package start as the text of the program lays them, which the card ties. -/
namespace Go.Sym
open Go.Proofs Go.Spec
theorem w6 (W : World) (hG : GW gl0 W) (v0 : Value) (k : Nat → BitVec 8) (h0 : VRel (κW W) (aggB 32 k) v0) (v1 : Value) (l1 : List (BitVec 8)) (c1 : Bool) (h1 : VRel (κW W) (.rb true l1 (.is c1)) v1) (v2 : Value) (A : Nat → Int) (n2 : Nat) (c2 : Bool) (h2 : VRel (κW W) (.ros true 1 n2 (fun j => [.int .i64 (A j)]) (.is c2)) v2) (_k2 : n2 ≤ maxLen) :
    Calls Tryd.prog 6 #[v0, v1, v2] W fun e w' => e = .returned (.bool true) ∧ RowKit.Below W.heap.size W w' := by
  have hv : VRels (κW W) [aggB 32 k, .rb true l1 (.is c1), .ros true 1 n2 (fun j => [.int .i64 (A j)]) (.is c2)] [v0, v1, v2] := by
    simp only [VRels]
    exact ⟨_, _, rfl, h0, _, _, rfl, h1, _, _, rfl, h2, rfl⟩
  refine law_walk (gl := gl0) (Γ := (Y6 (rgC k l1 n2 A))) (fn := Tryd.f6) (av := [aggB 32 k, .rb true l1 (.is c1), .ros true 1 n2 (fun j => [.int .i64 (A j)]) (.is c2)]) (ls := lssR k (rgS l1) n2 (min n2 7 + 1) A (u16H A) (rgC k l1 n2 A).by (rgM (rgC k l1 n2 A)) (pvB [] (rgM (rgC k l1 n2 A)) 3) (rgC k l1 n2 A)) [] 3000 (by kernel_rfl) (by kernel_rfl) (okY6 (rgC k l1 n2 A)) (by kernel_rfl) hG (by kernel_rfl) hv ?_
  exact brg k l1 c1 c2 n2 A
end Go.Sym
namespace Go.Proofs.YtmpgpbbaloiniabDoor.relayGreetings
open Go.ChangeShapes Go.WideShapes Go.ChangeAt Go.WideMaps Go.WideElems Go.RowKit
set_option linter.unusedVariables false
set_option maxRecDepth 100000 in
theorem lifted (os : Os) (started : os.Started) (H : Type) (enc : TypeId × Value → H) :
    ReturnsInHanded {} Tryd.checked os 6 .any (fun w args => (Rows.relayGreetingsSpec.pre enc Tryd.prog Tryd.f6 [] false w args ∧ laidMetH Tryd.prog laid2 w) ∧ sizedMet enc Tryd.prog Tryd.f6 (OpenSpec.ofChange Rows.relayGreetingsSpec) false w args)
      (Rows.relayGreetingsSpec.post enc Tryd.prog Tryd.f6 false true false false) := by
  refine returnsInHanded_of_change_and (C := Tryd.checked) (X := fun w _ => laidMetH Tryd.prog laid2 w) (fun _ _ _ hh h => h.of_heap hh) own started (by kernel_rfl) Tryd.func6
    (ChangeSpec.witness_shaped (enc := enc) (C := Tryd.checked) (os := os) (X := fun w _ => laidMetH Tryd.prog laid2 w) false (World.doorLaid Tryd.prog 400 os) #[.agg (Array.replicate 32 (.int .u8 0)), .slice none 0 0, .slice none 0 0] 8 rfl (World.shaped_of_RefB (by kernel_rfl) (by kernel_rfl)) (by kernel_rfl) (by kernel_rfl) (by kernel_rfl) (door_met os _)) ?_
  intro W base args ds gs before hval0 hW _ _ hL _
  have hval : ∀ (j : Nat) t v, Tryd.f6.params[j]? = some t → args[j]? = some v → Value.okWide Tryd.prog W .any base t v := hval0
  have hW' := hW
  obtain ⟨p, q, hA0, hV, rfl, hfz, hnd⟩ := hW
  have hA : DataW.TrodAll enc Tryd.prog W 0 (fun _ => true) true Tryd.f6.params.toList args.toList ds p := hA0
  rw [Tryd.params6] at hA hval
  obtain ⟨v0, vs0, d0, ds0, p0, q0, hargs, rfl, rfl, h0, r0⟩ := trodAll_cons hA
  obtain ⟨v1, vs1, d1, ds1, p1, q1, rfl, rfl, rfl, h1, r1⟩ := trodAll_cons r0
  obtain ⟨v2, vs2, d2, ds2, p2, q2, rfl, rfl, rfl, h2, r2⟩ := trodAll_cons r1
  obtain ⟨rfl, rfl, rfl⟩ := trodAll_nil r2
  obtain rfl : args = #[v0, v1, v2] := by cases args; simp_all
  obtain ⟨rfl, rfl⟩ := trodVars_none hV
  clear hA0 hval0
  have hlt0 : ∀ x ∈ p0, x.block < W.heap.size := fun x hx => hW'.lt x (by simp [hx])
  obtain ⟨fuel0, hf0⟩ := h0
  obtain ⟨avs0, hs0, hd0, hr0⟩ := Go.Sym.rd_flat 9 28 (List.replicate 32 (.i .u8)) _ _ _ (by kernel_rfl) hf0
  obtain ⟨k, rfl⟩ := Go.Sym.sh_by hs0
  have hu0 := Go.Sym.agg_of_cells hr0 (by simp)
  have hlt1 : ∀ x ∈ p1, x.block < W.heap.size := fun x hx => hW'.lt x (by simp [hx])
  obtain ⟨fuel1, hf1⟩ := h1
  obtain ⟨u1, l1, c1, hc1, hcl1, hll1, hu1⟩ := Go.Sym.rd_bytes Tryd.underlying22 Tryd.underlying5 (by kernel_rfl) hf1
  have hv1 : v1 = u1 := Go.Sym.cells_slice Tryd.underlying22 (hval 1 22 v1 rfl rfl) hc1
  subst hv1
  have hlt2 : ∀ x ∈ p2, x.block < W.heap.size := fun x hx => hW'.lt x (by simp [hx])
  obtain ⟨fuel2, hf2⟩ := h2
  obtain ⟨u2, n2, g2, c2, hc2, hcl2, hll2, hg2, hu2⟩ := Go.Sym.rd_rowsF (sz := 1) (l := [.i .i64]) (av0 := [.int .i64 0]) Tryd.underlying61 (by kernel_rfl) (by decide) (by kernel_rfl) ⟨⟨0, rfl, by kernel_rfl⟩, trivial⟩ hf2
  have hv2 : v2 = u2 := Go.Sym.cells_slice Tryd.underlying61 (hval 2 61 v2 rfl rfl) hc2
  subst hv2
  obtain ⟨A, rfl⟩ := Go.Sym.sh_one hg2
  refine (Go.Sym.w6 W (gw_laid hL) v0 k hu0 v1 l1 c1 hu1 v2 A n2 c2 hu2 hll2).mono fun e W' ⟨he, bel⟩ => ?_
  subst he
  exact ⟨_, rfl, _, _, _, [], _, [], hW', trodAll_mk1 (shut_bool Tryd.underlying4 _), (trodAll_cons_mk (Below.trod laidO (by kernel_rfl) (of_decide_eq_true (by kernel_rfl)) ⟨fuel0, hf0⟩ bel hlt0) (trodAll_cons_mk (Below.trod laidO (by kernel_rfl) (of_decide_eq_true (by kernel_rfl)) ⟨fuel1, hf1⟩ bel hlt1) (trodAll_cons_mk (Below.trod laidO (by kernel_rfl) (of_decide_eq_true (by kernel_rfl)) ⟨fuel2, hf2⟩ bel hlt2) trodAll_mk0))), rfl, bel.frame _, fun h => by cases h⟩

theorem over : Rows.relayGreetingsRow.holds Tryd.pinned (OpenSpec.ofChange Rows.relayGreetingsSpec) :=
  OpenClaim.holds_of_wide 6 Tryd.f6 rfl rfl rfl rfl rfl rfl rfl ⟨rfl, rfl, rfl, rfl, rfl⟩ rfl rfl rfl rfl rfl (by kernel_rfl) Tryd.func6 (by kernel_rfl)
    (of_decide_eq_true (by kernel_rfl)) (by unfold Func.isWrapper; first | (rw [if_pos (by decide +kernel)]; kernel_rfl) | (rw [if_neg (by decide +kernel)]; exact ⟨rfl, rfl⟩))
    (fun os started H enc _ => lifted os started H enc)

theorem proved : Rows.RelayGreetingsCardSaid :=
  Claim7.holds_tied_plain_at .later [] [.data, .data] true (true, "a8f69f3b8650f6aa73cc11834a710d7b01eb10b5fa385a50ab0f274c5dcae7b9") false
    over (fun _ h => by cases h) (by kernel_rfl) (fun _ h => by cases h) relayGreetings_row_tie rfl ⟨rfl, rfl⟩ (by kernel_rfl) rfl
    (fun f fn hf hfn => by
      obtain rfl : f = 6 := Option.some.inj ((show Tryd.prog.funcNamed "relay/relaytop.RelayGreetings" = some 6 by kernel_rfl).symm.trans hf) |>.symm
      obtain rfl : fn = Tryd.f6 := (Option.some.inj (Tryd.func6.symm.trans hfn)).symm
      exact ⟨by kernel_rfl, fun j t ht => by
        rw [Tryd.params6] at ht
        have hm : t ∈ [28, 22, 61] := by simpa using Array.mem_of_getElem? ht
        have hall : ([28, 22, 61].all fun u => !Tryd.prog.wantsStandIn u) = true := by kernel_rfl
        exact (show Tryd.prog.wantsStandIn t = false by simpa using List.all_eq_true.1 hall t hm)⟩)
    (by kernel_rfl)
#print axioms proved
end Go.Proofs.YtmpgpbbaloiniabDoor.relayGreetings
