/- TicketsRaw: of all tables and bytes it is told whether they may be, and what is used up. Condition: the two tables of the package start as the text of the program lays them, which the card ties. -/
import Derived.Test.YtmpgpbbaloiniabDoorSymC
import Derived.Test.YtmpgpbbaloiniabDoorTikB
import Derived.Test.YtmpgpbbaloiniabDoorShaB
import Derived.OpenShut
import Derived.SizedLaws
/- What is handed in from outside: plain data of any shape. -/
namespace Go.Sym
set_option linter.unusedVariables false
set_option linter.unusedSimpArgs false
open Go.ChangeShapes Go.WideShapes
inductive Sh where
  | i (k : IntKind)
  | b
  | s
  | y
def Sh.ok : Sh → AV → Prop
  | .i .u8, a => ∃ x, a = .u8 x
  | .i .u16, a => ∃ x, a = .u16 x
  | .i .u32, a => ∃ x, a = .u32 x
  | .i .u64, a => ∃ x, a = .u64 x
  | .i k, a => ∃ n, a = .int k n ∧ (Lit.int k n).wf = true
  | .b, a => ∃ c, a = .bool c
  | .s, a => ∃ l, a = .str l ∧ l.length ≤ maxLen
  | .y, a => ∃ l c, a = .rb true l (.is c) ∧ (c = true → l = []) ∧ l.length ≤ maxLen
def shAll : List Sh → List AV → Prop
  | [], [] => True
  | k :: ss, a :: az => k.ok a ∧ shAll ss az
  | _, _ => False
theorem shAll_append : ∀ {l m : List Sh} {az bs : List AV}, shAll l az → shAll m bs → shAll (l ++ m) (az ++ bs)
  | [], _, [], _, _, k => k
  | _ :: _, _, _ :: _, _, h, k => ⟨h.1, shAll_append h.2 k⟩
  | [], _, _ :: _, _, h, _ => h.elim
  | _ :: _, _, [], _, h, _ => h.elim
theorem datas_append {p : Bool} : ∀ {az bs : List AV}, datas p az = true → datas p bs = true → datas p (az ++ bs) = true
  | [], _, _, k => k
  | a :: az, _, h, k => by
    simp only [datas, Bool.and_eq_true, List.cons_append] at h ⊢
    exact ⟨h.1, datas_append h.2 k⟩
def flatFs (P : Program) (g : TypeId → Option (List Sh)) : List Field → Nat → Option (List Sh)
  | [], _ => some []
  | f :: fs, o => if f.offset = o then (g f.type).bind fun l => if P.cellsOf f.type = l.length then (flatFs P g fs (o + l.length)).map (l ++ ·) else none else none
def flat (P : Program) : Nat → TypeId → Option (List Sh)
  | 0, _ => none
  | f + 1, t => match P.underlying t with
    | some (.int k) => some [.i k]
    | some .bool => some [.b]
    | some .string => some [.s]
    | some (.slice e) => (match P.underlying e with | some (.int .u8) => if P.cellsOf e = 1 then some [.y] else none | _ => none)
    | some (.array n e) => (flat P f e).bind fun l => if P.cellsOf e = l.length ∧ P.cellsOf t = n * l.length then some (List.replicate n l).flatten else none
    | some (.struct fs) => (flatFs P (flat P f) fs.toList 0).bind fun l => if P.cellsOf t = l.length then some l else none
    | _ => none

section
variable {H : Type} {enc : TypeId × Value → H} {P : Program} {W : World} {base : Nat} {spare : Nat → Bool} {held : Bool}
def Read (W : World) (l : List Sh) (cs : List Value) : Prop := ∃ avs, shAll l avs ∧ datas true avs = true ∧ VRels (κW W) avs cs
theorem Read.append {l m : List Sh} {cs ds : List Value} (h : Read W l cs) (k : Read W m ds) : Read W (l ++ m) (cs ++ ds) := by
  obtain ⟨a, h1, h2, h3⟩ := h
  obtain ⟨b, k1, k2, k3⟩ := k
  exact ⟨a ++ b, shAll_append h1 k1, datas_append h2 k2, VRels.append h3 k3⟩
theorem read_arr {l : List Sh} {m : Nat} : ∀ (n : Nat) (cs : List Value), cs.length = n * m → (∀ i, i < n → Read W l ((cs.drop (i * m)).take m)) → Read W (List.replicate n l).flatten cs
  | 0, cs, hl, _ => by
    have : cs = [] := List.eq_nil_of_length_eq_zero (by simpa using hl)
    subst this
    exact ⟨[], trivial, rfl, rfl⟩
  | n + 1, cs, hl, h => by
    have h0 := h 0 (by omega)
    simp only [Nat.zero_mul, List.drop_zero] at h0
    have hr := read_arr (m := m) n (cs.drop m) (by rw [List.length_drop, hl, Nat.succ_mul]; omega) (fun i hi => by
      have := h (i + 1) (by omega)
      rw [List.drop_drop]
      rw [Nat.add_mul, Nat.one_mul, Nat.add_comm] at this
      exact this)
    have := h0.append hr
    rw [List.take_append_drop] at this
    simpa [List.replicate_succ] using this
theorem read_fs {g : TypeId → Option (List Sh)} {cs : List Value} : ∀ (fs : List Field) (o : Nat) (l : List Sh), flatFs P g fs o = some l → cs.length = o + l.length →
    (∀ f l', f ∈ fs → g f.type = some l' → Read W l' ((cs.drop f.offset).take (P.cellsOf f.type))) → Read W l (cs.drop o)
  | [], o, l, h, hl, _ => by
    simp only [flatFs, Option.some.injEq] at h
    subst h
    have : cs.drop o = [] := List.drop_eq_nil_of_le (by simp at hl; omega)
    rw [this]
    exact ⟨[], trivial, rfl, rfl⟩
  | f :: fs, o, l, h, hl, hr => by
    simp only [flatFs] at h
    split at h
    · rename_i ho
      simp only [Option.bind_eq_some_iff] at h
      obtain ⟨l1, h1, h2⟩ := h
      split at h2
      · rename_i hc
        simp only [Option.map_eq_some_iff] at h2
        obtain ⟨l2, h3, rfl⟩ := h2
        have k1 := hr f l1 (by simp) h1
        rw [ho, hc] at k1
        have k2 := read_fs fs (o + l1.length) l2 h3 (by simp at hl; omega) (fun f' l' hf hg => hr f' l' (by simp [hf]) hg)
        have := k1.append k2
        rw [← List.drop_drop, List.take_append_drop] at this
        exact this
      · cases h2
    · cases h
theorem rd_flat : ∀ (f : Nat) (t : TypeId) (l : List Sh) (fuel : Nat) (cs : List Value) (x : DataW H × List MemPlace), flat P f t = some l → DataW.trod enc P W base spare held fuel t cs = some x → Read W l cs
  | 0, _, _, _, _, _, h, _ => by cases h
  | f + 1, t, l, fuel, cs, x, h, hd => by
    unfold flat at h
    split at h
    · rename_i k ht
      simp only [Option.some.injEq] at h
      subst h
      obtain ⟨n, rfl, _, hw⟩ := DataW.trod_int ht hd
      have hn : absC0 (.int k n) = absC0 (.int k n) := rfl
      cases k
      case u8 =>
        simp [Lit.wf, IntKind.min, IntKind.max, IntKind.signed, IntKind.bits] at hw
        exact ⟨[.u8 (BitVec.ofNat 8 n.toNat)], ⟨⟨_, rfl⟩, trivial⟩, rfl, _, [], rfl, by simp only [VRel, BitVec.toNat_ofNat]; congr 1; omega, rfl⟩
      case u16 =>
        simp [Lit.wf, IntKind.min, IntKind.max, IntKind.signed, IntKind.bits] at hw
        exact ⟨[.u16 (BitVec.ofNat 16 n.toNat)], ⟨⟨_, rfl⟩, trivial⟩, rfl, _, [], rfl, by simp only [VRel, BitVec.toNat_ofNat]; congr 1; omega, rfl⟩
      case u32 =>
        simp [Lit.wf, IntKind.min, IntKind.max, IntKind.signed, IntKind.bits] at hw
        exact ⟨[.u32 (BitVec.ofNat 32 n.toNat)], ⟨⟨_, rfl⟩, trivial⟩, rfl, _, [], rfl, by simp only [VRel, BitVec.toNat_ofNat]; congr 1; omega, rfl⟩
      case u64 =>
        simp [Lit.wf, IntKind.min, IntKind.max, IntKind.signed, IntKind.bits] at hw
        exact ⟨[.u64 (BitVec.ofNat 64 n.toNat)], ⟨⟨_, rfl⟩, trivial⟩, rfl, _, [], rfl, by simp only [VRel, BitVec.toNat_ofNat]; congr 1; omega, rfl⟩
      all_goals exact ⟨[.int _ n], ⟨⟨_, rfl, hw⟩, trivial⟩, rfl, _, [], rfl, rfl, rfl⟩
    · rename_i ht
      simp only [Option.some.injEq] at h
      subst h
      obtain ⟨b, rfl, _⟩ := DataW.trod_bool ht hd
      exact ⟨[.bool b], ⟨⟨_, rfl⟩, trivial⟩, rfl, _, [], rfl, rfl, rfl⟩
    · rename_i ht
      simp only [Option.some.injEq] at h
      subst h
      obtain ⟨s, rfl, _, hs⟩ := DataW.trod_string ht hd
      have hb := bytesStr_strBytes s
      refine ⟨[.str (strBytes s)], ⟨⟨_, rfl, ?_⟩, trivial⟩, rfl, _, [], rfl, by simp only [VRel, hb], rfl⟩
      rw [← bytesStr_size, hb]
      exact hs
    · rename_i e ht
      split at h
      · rename_i he
        split at h
        · rename_i hc
          simp only [Option.some.injEq] at h
          subst h
          obtain ⟨v, l, c, rfl, h1, h2, h3⟩ := rd_bytes ht he hc hd
          exact ⟨[.rb true l (.is c)], ⟨⟨l, c, rfl, h1, h2⟩, trivial⟩, rfl, _, [], rfl, h3, rfl⟩
        · cases h
      · cases h
    · rename_i n e ht
      simp only [Option.bind_eq_some_iff] at h
      obtain ⟨l1, h1, h2⟩ := h
      split at h2
      · rename_i hc
        simp only [Option.some.injEq] at h2
        subst h2
        obtain ⟨xs, m, _, _, hl, hn, hel⟩ := DataW.trod_array ht hd
        refine read_arr (m := l1.length) n cs (by rw [hl, hc.2]) fun i hi => ?_
        have := hel i hi
        rw [List.getElem?_eq_getElem (by omega), hc.1] at this
        exact rd_flat f e l1 _ _ _ h1 this
      · cases h2
    · rename_i fs ht
      simp only [Option.bind_eq_some_iff] at h
      obtain ⟨l1, h1, h2⟩ := h
      split at h2
      · rename_i hc
        simp only [Option.some.injEq] at h2
        subst h2
        obtain ⟨xs, m, _, _, hl, hn, hel⟩ := DataW.trod_struct ht hd
        have := read_fs (W := W) (cs := cs) fs.toList 0 l1 h1 (by rw [hl, hc]; omega) fun f0 l' hf hg => by
          obtain ⟨i, hi⟩ := List.getElem?_of_mem hf
          have hlt := (List.getElem?_eq_some_iff.1 hi).1
          have := hel i f0 (by simpa using hi)
          rw [List.getElem?_eq_getElem (by simp at hlt; omega)] at this
          exact rd_flat f f0.type l' _ _ _ hg this
        simpa using this
      · cases h2
    · cases h
theorem agg_of_cells {v : Value} {avs : List AV} (h : VRels (κW W) avs v.cells.toList) (hl : 2 ≤ avs.length) : VRel (κW W) (.agg avs) v := by
  have hn := h.length
  cases v
  case agg cs => exact ⟨cs, rfl, h⟩
  all_goals (exfalso; simp [Value.cells] at hn; omega)
/-- Bytes of an array. -/
theorem sh_u8 : ∀ {n : Nat} {avs : List AV}, shAll (List.replicate n (.i .u8)) avs → ∃ l : List (BitVec 8), l.length = n ∧ avs = l.map .u8
  | 0, [], _ => ⟨[], rfl, rfl⟩
  | 0, _ :: _, h => h.elim
  | n + 1, [], h => h.elim
  | n + 1, a :: az, h => by
    obtain ⟨⟨x, rfl⟩, h2⟩ := h
    obtain ⟨l, h3, rfl⟩ := sh_u8 h2
    exact ⟨x :: l, by simp [h3], rfl⟩
end
theorem sh_cons {k : Sh} {ks : List Sh} {avs : List AV} (h : shAll (k :: ks) avs) : ∃ a az, avs = a :: az ∧ k.ok a ∧ shAll ks az := by
  cases avs with
  | nil => exact h.elim
  | cons a az => exact ⟨a, az, rfl, h.1, h.2⟩
theorem sh_nil {avs : List AV} (h : shAll [] avs) : avs = [] := by
  cases avs with
  | nil => rfl
  | cons a az => exact h.elim
theorem sh_i64 {a : AV} (h : (Sh.i .i64).ok a) : ∃ n, a = .int .i64 n := by
  obtain ⟨n, h, _⟩ := h
  exact ⟨n, h⟩
theorem rel_u32 {κ : Ker} {n : Int} (h : (Lit.int .u32 n).wf = true) : VRel κ (.u32 (BitVec.ofInt 32 n)) (.int .u32 n) := by
  simp [Lit.wf, IntKind.has, IntKind.min, IntKind.max, IntKind.signed, IntKind.bits] at h
  simp only [VRel, BitVec.toNat_ofInt]
  congr 1
  omega
theorem rel_u64 {κ : Ker} {n : Int} (h : (Lit.int .u64 n).wf = true) : VRel κ (.u64 (BitVec.ofInt 64 n)) (.int .u64 n) := by
  simp [Lit.wf, IntKind.has, IntKind.min, IntKind.max, IntKind.signed, IntKind.bits] at h
  simp only [VRel, BitVec.toNat_ofInt]
  congr 1
  omega
theorem rel_u8 {κ : Ker} {n : Int} (h : (Lit.int .u8 n).wf = true) : VRel κ (.u8 (BitVec.ofInt 8 n)) (.int .u8 n) := by
  simp [Lit.wf, IntKind.has, IntKind.min, IntKind.max, IntKind.signed, IntKind.bits] at h
  simp only [VRel, BitVec.toNat_ofInt]
  congr 1
  omega
end Go.Sym

namespace Go.Sym
open Go.Proofs Go.Spec
set_option linter.unusedVariables false
set_option maxRecDepth 100000 in
theorem vt5 (t : Tab) (u : NL) (k : By) (id : Int) (z : Bool) : bodyP Tryd.prog T14 gl0 [] [(20002, lr1 t k id), (20003, lr2 t k id), (20004, lr3 t k id), (20009, lr8 t k)] 3000 Tryd.f5 0 [tabA true t u, .rb true k .unk, .int .i64 id] [] (retQ Tryd.prog Tryd.f5 0 ⟨[], .bool z, [], []⟩) = (
let x1 := ({ key := fun (i : Nat) => (rg 32 t.key).getD i (0 : BitVec 8), nx := t.nx, n := t.n, I := fun (j : Nat) => t.I j, P := fun (j i : Nat) => (rg 32 (t.P j)).getD i (0 : BitVec 8) } : Tab); let x2 := @Bool.rec (fun _ => Prop) (z = Bool.false ∧ True) (@Bool.rec (fun _ => Prop) (0 + t.n ≤ t.n ∧ (∀ (y : Nat), y < t.n → datas Bool.false (AV.int IntKind.i64 (t.I y) :: List.map (fun (i : Nat) => AV.u8 (t.P y i)) (List.range 32)) = Bool.true ∧ (AV.int IntKind.i64 (t.I y) :: List.map (fun (i : Nat) => AV.u8 (t.P y i)) (List.range 32)).length ≤ 33) ∧ ((fun (j : Nat) => AV.int IntKind.i64 (t.I j) :: List.map (fun (i : Nat) => AV.u8 (t.P j i)) (List.range 32)) = fun (j : Nat) => AV.int IntKind.i64 (t.I j) :: List.map (fun (i : Nat) => AV.u8 ((rg 32 (t.P j)).getD i (0 : BitVec 8))) (List.range 32)) ∧ z = decide ((↑(knN x1) : Int) = (↑t.n : Int)) ∧ True) (0 + (useT t k).n ≤ (useT t k).n ∧ (∀ (y : Nat), y < (useT t k).n → datas Bool.false (AV.int IntKind.i64 ((useT t k).I y) :: List.map (fun (i : Nat) => AV.u8 ((useT t k).P y i)) (List.range 32)) = Bool.true ∧ (AV.int IntKind.i64 ((useT t k).I y) :: List.map (fun (i : Nat) => AV.u8 ((useT t k).P y i)) (List.range 32)).length ≤ 33) ∧ (useT t k).n < 3518437208781 ∧ ((fun (y : Nat) => AV.int IntKind.i64 ((useT t k).I y) :: List.map (fun (i : Nat) => AV.u8 ((useT t k).P y i)) (List.range 32)) = fun (j : Nat) => AV.int IntKind.i64 ((useT t k).I j) :: List.map (fun (i : Nat) => AV.u8 ((rg 32 ((useT t k).P j)).getD i (0 : BitVec 8))) (List.range 32)) ∧ 0 + (useT t k).n ≤ (useT t k).n ∧ (∀ (y : Nat), y < (useT t k).n → datas Bool.false (AV.int IntKind.i64 ((useT t k).I y) :: rg 32 fun (i : Nat) => AV.u8 ((rg 32 ((useT t k).P y)).getD i (0 : BitVec 8))) = Bool.true ∧ (AV.int IntKind.i64 ((useT t k).I y) :: rg 32 fun (i : Nat) => AV.u8 ((rg 32 ((useT t k).P y)).getD i (0 : BitVec 8))).length ≤ 33) ∧ 0 + (useT t k).n ≤ (useT t k).n ∧ (∀ (y : Nat), y < (useT t k).n → datas Bool.false (AV.int IntKind.i64 ((useT t k).I y) :: List.map (fun (i : Nat) => AV.u8 ((useT t k).P y i)) (List.range 32)) = Bool.true ∧ (AV.int IntKind.i64 ((useT t k).I y) :: List.map (fun (i : Nat) => AV.u8 ((useT t k).P y i)) (List.range 32)).length ≤ 33) ∧ (useT t k).n < 3518437208781 ∧ (((fun (y : Nat) => AV.int IntKind.i64 ((useT t k).I y) :: rg 32 fun (i : Nat) => AV.u8 ((rg 32 ((useT t k).P y)).getD i (0 : BitVec 8))) = fun (j : Nat) => AV.int IntKind.i64 ((useT t k).I j) :: List.map (fun (i : Nat) => AV.u8 ((rg 32 fun (i : Nat) => (rg 32 ((useT t k).P j)).getD i (0 : BitVec 8)).getD i (0 : BitVec 8))) (List.range 32)) ∧ True) ∧ (((fun (y : Nat) => AV.int IntKind.i64 ((useT t k).I y) :: List.map (fun (i : Nat) => AV.u8 ((useT t k).P y i)) (List.range 32)) = fun (j : Nat) => AV.int IntKind.i64 ((useT t k).I j) :: List.map (fun (i : Nat) => AV.u8 ((rg 32 ((useT t k).P j)).getD i (0 : BitVec 8))) (List.range 32)) ∧ True) ∧ @Bool.rec (fun _ => Prop) (z = Bool.false ∧ True) (@Bool.rec (fun _ => Prop) (z = Bool.false ∧ True) (0 + t.n ≤ t.n ∧ (∀ (y : Nat), y < t.n → datas Bool.false (AV.int IntKind.i64 (t.I y) :: List.map (fun (i : Nat) => AV.u8 (t.P y i)) (List.range 32)) = Bool.true ∧ (AV.int IntKind.i64 (t.I y) :: List.map (fun (i : Nat) => AV.u8 (t.P y i)) (List.range 32)).length ≤ 33) ∧ ((fun (j : Nat) => AV.int IntKind.i64 (t.I j) :: List.map (fun (i : Nat) => AV.u8 (t.P j i)) (List.range 32)) = fun (j : Nat) => AV.int IntKind.i64 (t.I j) :: List.map (fun (i : Nat) => AV.u8 ((rg 32 (t.P j)).getD i (0 : BitVec 8))) (List.range 32)) ∧ z = decide ((↑(knN x1) : Int) = (↑t.n : Int)) ∧ True) (decide (useN t k = useN t k))) (tSameB ({ key := fun (i : Nat) => (rg 32 fun (i : Nat) => (rg 32 (useT t k).key).getD i (0 : BitVec 8)).getD i (0 : BitVec 8), nx := (useT t k).nx, n := (useT t k).n, I := fun (j : Nat) => (useT t k).I j, P := fun (j i : Nat) => (rg 32 fun (i : Nat) => (rg 32 ((useT t k).P j)).getD i (0 : BitVec 8)).getD i (0 : BitVec 8) } : Tab) ({ key := fun (i : Nat) => (rg 32 (useT t k).key).getD i (0 : BitVec 8), nx := (useT t k).nx, n := (useT t k).n, I := fun (j : Nat) => (useT t k).I j, P := fun (j i : Nat) => (rg 32 ((useT t k).P j)).getD i (0 : BitVec 8) } : Tab))) !!decide (useE t k = (0 : Int))) (decide (useE t k = useE t k)); let x3 := (fun (j : Nat) => AV.int IntKind.i64 (t.I j) :: List.map (fun (i : Nat) => AV.u8 (t.P j i)) (List.range 32)) = fun (j : Nat) => AV.int IntKind.i64 (t.I j) :: List.map (fun (i : Nat) => AV.u8 ((rg 32 (t.P j)).getD i (0 : BitVec 8))) (List.range 32); let x4 := allP (fun (i : Nat) => t.key i = t.key i) 0 32 (t.nx = t.nx ∧ t.n = t.n ∧ (∀ (y : Nat), y < t.n → datas Bool.true (AV.int IntKind.i64 (t.I y) :: List.map (fun (i : Nat) => AV.u8 (t.P y i)) (List.range 32)) = Bool.true ∧ t.I y = t.I y ∧ allP (fun (i : Nat) => t.P y i = t.P y i) 0 32 True) ∧ allP (fun (i : Nat) => t.key i = t.key i) 0 32 (t.nx = t.nx ∧ 0 = 0 ∧ 0 = 0 ∧ 0 = 0 ∧ t.n = t.n ∧ t.n = t.n ∧ (∀ (y : Nat), let x1 := AV.int IntKind.i64 (t.I y) :: List.map (fun (i : Nat) => AV.u8 (t.P y i)) (List.range 32); y < t.n → datas Bool.false x1 = Bool.true ∧ x1 = x1) ∧ True)); let x5 := ∀ (y : Nat), y < t.n → datas Bool.false (AV.int IntKind.i64 (t.I y) :: List.map (fun (i : Nat) => AV.u8 (t.P y i)) (List.range 32)) = Bool.true ∧ (AV.int IntKind.i64 (t.I y) :: List.map (fun (i : Nat) => AV.u8 (t.P y i)) (List.range 32)).length ≤ 33; let x6 := allP (fun (i : Nat) => (useT t k).key i = (useT x1 k).key i) 0 32 ((useT t k).nx = (useT x1 k).nx ∧ 0 = 0 ∧ 0 = 0 ∧ 0 = 0 ∧ (useT t k).n = (useT x1 k).n ∧ (useT t k).n = (useT x1 k).n ∧ (∀ (y : Nat), y < (useT t k).n → datas Bool.false (AV.int IntKind.i64 ((useT t k).I y) :: List.map (fun (i : Nat) => AV.u8 ((useT t k).P y i)) (List.range 32)) = Bool.true ∧ (AV.int IntKind.i64 ((useT x1 k).I y) :: rg 32 fun (i : Nat) => AV.u8 ((useT x1 k).P y i)) = AV.int IntKind.i64 ((useT t k).I y) :: List.map (fun (i : Nat) => AV.u8 ((useT t k).P y i)) (List.range 32)) ∧ True); let x7 := ∀ (y : Nat), y < t.n → datas Bool.true (AV.int IntKind.i64 (t.I y) :: List.map (fun (i : Nat) => AV.u8 (t.P y i)) (List.range 32)) = Bool.true ∧ t.I y = t.I y ∧ allP (fun (i : Nat) => t.P y i = t.P y i) 0 32 True; let x8 := tkB (fun (i : Nat) => (rg 32 t.key).getD i (0 : BitVec 8)) id; let x9 := ∀ (y : Nat), let x1 := AV.int IntKind.i64 (t.I y) :: List.map (fun (i : Nat) => AV.u8 (t.P y i)) (List.range 32); y < t.n → datas Bool.false x1 = Bool.true ∧ x1 = x1; let x10 := 0 + t.n ≤ t.n ∧ x5 ∧ x3 ∧ ∃ (y : Unit), t.n.succ.le 3518437208781 ∧ k = k ∧ id = id ∧ 0 = 0 ∧ 0 = 0 ∧ minN t = t.nx ∧ minE t = (0 : Int) ∧ x4; (t.n < 3518437208781 ∧ x3 ∧ ∃ (y : Unit), t.n.succ.le 3518437208781 ∧ k = k ∧ id = id ∧ 0 = 0 ∧ 0 = 0 ∧ allP (fun (i : Nat) => t.key i = t.key i) 0 32 (t.nx = t.nx ∧ t.n = t.n ∧ x7 ∧ allP (fun (i : Nat) => t.key i = (rg 32 t.key).getD i (0 : BitVec 8)) 0 32 (t.nx = t.nx ∧ 0 = 0 ∧ 0 = 0 ∧ 0 = 0 ∧ t.n = t.n ∧ t.n = t.n ∧ (∀ (y : Nat), y < t.n → datas Bool.false (AV.int IntKind.i64 (t.I y) :: List.map (fun (i : Nat) => AV.u8 (t.P y i)) (List.range 32)) = Bool.true ∧ (AV.int IntKind.i64 (t.I y) :: rg 32 fun (i : Nat) => AV.u8 ((rg 32 (t.P y)).getD i (0 : BitVec 8))) = AV.int IntKind.i64 (t.I y) :: List.map (fun (i : Nat) => AV.u8 (t.P y i)) (List.range 32)) ∧ True))) ∧ ∀ (x : Unit), t.n.succ.le 3518437208781 → @Bool.rec (fun _ => Prop) (0 + t.n ≤ t.n ∧ x5 ∧ x3 ∧ ∃ (y : Unit), t.n.succ.le 3518437208781 ∧ k = k ∧ id = id ∧ 0 = 0 ∧ 0 = 0 ∧ minN t = (0 : Int) ∧ minE t = minE x1 ∧ x4) (@Bool.rec (fun _ => Prop) x10 x10 (decide (t.n ≤ 7))) (decide (minE x1 = (0 : Int))) ∧ ∀ (x : Unit), t.n.succ.le 3518437208781 → (0 + t.n ≤ t.n ∧ x5 ∧ List.length k < 4611686018427387904 ∧ x3 ∧ ∃ (y : Unit), t.n.succ.le 3518437208781 ∧ k = k ∧ id = id ∧ 0 = 0 ∧ 0 = 0 ∧ minN t = minN t ∧ minE t = minE t ∧ 0 = 0 ∧ useN t k = useN x1 k ∧ useE t k = useE x1 k ∧ allP (fun (i : Nat) => t.key i = t.key i) 0 32 (t.nx = t.nx ∧ t.n = t.n ∧ x7 ∧ allP (fun (i : Nat) => t.key i = t.key i) 0 32 (t.nx = t.nx ∧ 0 = 0 ∧ 0 = 0 ∧ 0 = 0 ∧ t.n = t.n ∧ t.n = t.n ∧ x9 ∧ x6))) ∧ ∀ (x : Unit), t.n.succ.le 3518437208781 → 0 + t.n ≤ t.n ∧ x5 ∧ x3 ∧ x3 ∧ @Bool.rec (fun _ => Prop) (z = Bool.false ∧ True) (0 + t.n ≤ t.n ∧ x5 ∧ x3 ∧ List.length x8 = List.length x8 ∧ List.length x8 = List.length x8 ∧ @Bool.rec (fun _ => Prop) (x3 ∧ @Bool.rec (fun _ => Prop) (((mkTab ((fun (x : List (BitVec 8)) => t.key 0 :: x) ((fun (x : List (BitVec 8)) => t.key 1 :: x) ((fun (x : List (BitVec 8)) => t.key 2 :: x) ((fun (x : List (BitVec 8)) => t.key 3 :: x) ((fun (x : List (BitVec 8)) => t.key 4 :: x) ((fun (x : List (BitVec 8)) => t.key 5 :: x) ((fun (x : List (BitVec 8)) => t.key 6 :: x) ((fun (x : List (BitVec 8)) => t.key 7 :: x) ((fun (x : List (BitVec 8)) => t.key 8 :: x) ((fun (x : List (BitVec 8)) => t.key 9 :: x) ((fun (x : List (BitVec 8)) => t.key 10 :: x) ((fun (x : List (BitVec 8)) => t.key 11 :: x) ((fun (x : List (BitVec 8)) => t.key 12 :: x) ((fun (x : List (BitVec 8)) => t.key 13 :: x) ((fun (x : List (BitVec 8)) => t.key 14 :: x) ((fun (x : List (BitVec 8)) => t.key 15 :: x) ((fun (x : List (BitVec 8)) => t.key 16 :: x) ((fun (x : List (BitVec 8)) => t.key 17 :: x) ((fun (x : List (BitVec 8)) => t.key 18 :: x) ((fun (x : List (BitVec 8)) => t.key 19 :: x) ((fun (x : List (BitVec 8)) => t.key 20 :: x) ((fun (x : List (BitVec 8)) => t.key 21 :: x) ((fun (x : List (BitVec 8)) => t.key 22 :: x) ((fun (x : List (BitVec 8)) => t.key 23 :: x) ((fun (x : List (BitVec 8)) => t.key 24 :: x) ((fun (x : List (BitVec 8)) => t.key 25 :: x) ((fun (x : List (BitVec 8)) => t.key 26 :: x) ((fun (x : List (BitVec 8)) => t.key 27 :: x) ((fun (x : List (BitVec 8)) => t.key 28 :: x) ((fun (x : List (BitVec 8)) => t.key 29 :: x) ((fun (x : List (BitVec 8)) => t.key 30 :: x) ((fun (x : List (BitVec 8)) => t.key 31 :: x) [])))))))))))))))))))))))))))))))) t.nx t.n (rowE t)).ok ∧ x3 ∧ ∃ (y : Unit), (t.n < 3518437208781 ∧ t.ok) ∧ 0 = 0 ∧ 0 = 0 ∧ minN t = minN t ∧ minE t = minE t ∧ 0 = 0 ∧ useN t k = useN t k ∧ useE t k = useE t k ∧ 0 = 0 ∧ useN t k = useN x1 k ∧ useE t k = useE x1 k ∧ allP (fun (i : Nat) => t.key i = t.key i) 0 32 (t.nx = t.nx ∧ t.n = t.n ∧ x7 ∧ allP (fun (i : Nat) => t.key i = t.key i) 0 32 (t.nx = t.nx ∧ 0 = 0 ∧ 0 = 0 ∧ 0 = 0 ∧ t.n = t.n ∧ t.n = t.n ∧ x9 ∧ allP (fun (i : Nat) => (useT t k).key i = (useT t k).key i) 0 32 ((useT t k).nx = (useT t k).nx ∧ 0 = 0 ∧ 0 = 0 ∧ 0 = 0 ∧ (useT t k).n = (useT t k).n ∧ (useT t k).n = (useT t k).n ∧ (∀ (y : Nat), let x1 := AV.int IntKind.i64 ((useT t k).I y) :: List.map (fun (i : Nat) => AV.u8 ((useT t k).P y i)) (List.range 32); y < (useT t k).n → datas Bool.false x1 = Bool.true ∧ x1 = x1) ∧ x6)))) ∧ ∀ (x : Unit), t.n < 3518437208781 ∧ t.ok → @Bool.rec (fun _ => Prop) (z = Bool.false ∧ True) (@Bool.rec (fun _ => Prop) x2 (@Bool.rec (fun _ => Prop) x2 (z = Bool.false ∧ True) !decide (minN t = t.nx)) (decide (minE t = (0 : Int)))) !!decide (decide (minE t = (5 : Int)) = decide (t.nx = (2147483647 : Int)))) (@Bool.rec (fun _ => Prop) (z = Bool.false ∧ True) (@Bool.rec (fun _ => Prop) (z = Bool.false ∧ True) (0 + t.n ≤ t.n ∧ x5 ∧ x3 ∧ z = decide ((↑(knN x1) : Int) = (0 : Int)) ∧ True) (decide (useE t k = (1 : Int)))) (decide (minE t = (1 : Int)))) !x1.okB) (z = Bool.false ∧ True) !decide (x8 = x8)) !!decide (x1.okB = x1.okB) : Prop) := by kernel_rfl
end Go.Sym

namespace Go.Spec
open Go.Sym
theorem Tab.ok_of {s t : Tab} (h1 : s.nx = t.nx) (h2 : s.n = t.n) (h3 : ∀ j, s.I j = t.I j) (h : t.ok) : s.ok :=
  ⟨by rw [h1]; exact h.h0, by rw [h1]; exact h.h1, by rw [h2]; exact h.h2, fun j hj => by
    have ha : s.ah j = t.ah j := by cases j with | zero => rfl | succ j => exact h3 j
    rw [ha, h3, h1]
    exact h.h3 j (by rw [← h2]; exact hj)⟩
theorem useE_ok {t : Tab} (h : t.ok) (k : By) : useE t k ≠ 1 := by
  unfold useE
  rw [Tab.okB_iff.2 h]
  rw [if_neg (by decide)]
  split
  · decide
  · split <;> decide
theorem useT_n {t : Tab} (k : By) (h : useE t k = 0) : (useT t k).n ≤ 8 := by
  have hok : t.ok := by
    unfold useE at h
    by_cases c : t.okB = false
    · rw [if_pos c] at h; cases h
    · exact Tab.okB_iff.1 (by simpa using c)
  have := hok.h2
  unfold useT
  rw [if_pos h]
  show t.n - 1 ≤ 8
  omega
end Go.Spec
namespace Go.Sym
open Go.Proofs Go.Spec
set_option linter.unusedVariables false
set_option maxRecDepth 100000 in
theorem bt5 (t : Tab) (u : NL) (k : By) (id : Int) (hn : t.n < 3518437208781) (hk : k.length < 4611686018427387904) : Must (bodyP Tryd.prog T14 gl0 [] [(20002, lr1 t k id), (20003, lr2 t k id), (20004, lr3 t k id), (20009, lr8 t k)] 3000 Tryd.f5 0 [tabA true t u, .rb true k .unk, .int .i64 id] [] (retQ Tryd.prog Tryd.f5 0 ⟨[], .bool true, [], []⟩)) := by
  constructor
  rw [vt5]
  intro x1 x2 x3 x4 x5 x6 x7 x8 x9 x10
  have rE : useE x1 k = useE t k := re_useE t k
  have rN : useN x1 k = useN t k := re_useN t k
  have rM : minE x1 = minE t := re_minE t
  have rB : x1.okB = t.okB := t.re_okB
  have rK : knN x1 = knN t := re_knN t
  have h3 : x3 := rows_rg t
  have h5 : x5 := fun y _ => ⟨rfl, by simp⟩
  have h7 : x7 := tk_rows true t
  have h9 : x9 := fun y _ => ⟨rfl, rfl⟩
  have h4 : x4 := allP_of 32 0 (fun _ _ _ => rfl) ⟨rfl, rfl, h7, allP_of 32 0 (fun _ _ _ => rfl) ⟨rfl, rfl, rfl, rfl, rfl, rfl, h9, trivial⟩⟩
  have h6 : x6 := allP_of 32 0 (fun i _ hi => (re_useT_key t k (by omega)).symm) ⟨(re_useT_nx t k).symm, rfl, rfl, rfl, (re_useT_n t k).symm, (re_useT_n t k).symm, fun y _ => ⟨rfl, re_row (useT t.re k) (useT t k) y (re_useT_I t k y) (fun i hi => re_useT_P t k y hi)⟩, trivial⟩
  have hs : tSameB (useT t k).re.re (useT t k).re = true := tSameB_yes (re_same _)
  have hrow : ∀ R : Tab, ∀ y, y < R.n → datas Bool.false (AV.int IntKind.i64 (R.I y) :: List.map (fun (i : Nat) => AV.u8 (R.P y i)) (List.range 32)) = Bool.true ∧ (AV.int IntKind.i64 (R.I y) :: List.map (fun (i : Nat) => AV.u8 (R.P y i)) (List.range 32)).length ≤ 33 := fun R y _ => ⟨rfl, by simp⟩
  have h2 : t.ok → (Bool.true = decide ((↑(knN x1) : Int) = (↑t.n : Int))) := fun hok => by
    rw [rK]; unfold knN; rw [if_pos (Tab.okB_iff.2 hok)]; exact (decide_eq_true rfl).symm
  refine ⟨⟨hn, h3, (), hn, rfl, rfl, rfl, rfl, allP_of 32 0 (fun _ _ _ => rfl) ⟨rfl, rfl, h7, allP_of 32 0 (fun i _ hi => (rg_get _ (by omega)).symm) ⟨rfl, rfl, rfl, rfl, rfl, rfl, fun y _ => ⟨rfl, re_row t.re t y rfl (fun i hi => rg_get _ hi)⟩, trivial⟩⟩⟩, fun _ _ => ⟨brec (fun d => ?_) (fun d => ?_), fun _ _ => ⟨⟨by omega, h5, hk, h3, (), hn, rfl, rfl, rfl, rfl, rfl, rfl, rfl, rN.symm, rE.symm, allP_of 32 0 (fun _ _ _ => rfl) ⟨rfl, rfl, h7, allP_of 32 0 (fun _ _ _ => rfl) ⟨rfl, rfl, rfl, rfl, rfl, rfl, h9, h6⟩⟩⟩, fun _ _ => ⟨by omega, h5, h3, h3, ?_⟩⟩⟩⟩
  · have d := dyes d
    rw [rM] at d
    have h10 : x10 := ⟨by omega, h5, h3, (), hn, rfl, rfl, rfl, rfl, if_pos d, d, h4⟩
    exact brec (fun _ => h10) (fun _ => h10)
  · have d := dno d
    rw [rM] at d
    exact ⟨by omega, h5, h3, (), hn, rfl, rfl, rfl, rfl, if_neg d, rM.symm, h4⟩
  refine brec (fun _ => ?_) (fun d => by simp at d)
  refine ⟨by omega, h5, h3, rfl, rfl, brec (fun d => by simp at d) (fun _ => ?_)⟩
  refine ⟨h3, brec (fun d => ?_) (fun d => ?_)⟩
  · have d : t.okB = false := by rw [← rB]; simpa using d
    have e1 : minE t = 1 := if_pos d
    have e2 : useE t k = 1 := if_pos d
    have e3 : knN t = 0 := if_neg (by rw [d]; decide)
    refine brec (fun _ => ?_) (fun d => absurd e1 (dno d))
    refine brec (fun _ => ?_) (fun d => absurd e2 (dno d))
    refine ⟨by omega, h5, h3, ?_, trivial⟩
    rw [rK, e3]; rfl
  have d : t.okB = true := by rw [← rB]; simpa using d
  have hok := Tab.okB_iff.1 d
  refine ⟨⟨Tab.ok_of (t := t) rfl rfl (fun _ => rfl) hok, h3, (), ⟨hn, hok⟩, rfl, rfl, rfl, rfl, rfl, rfl, rfl, rfl, rN.symm, rE.symm, allP_of 32 0 (fun _ _ _ => rfl) ⟨rfl, rfl, h7, allP_of 32 0 (fun _ _ _ => rfl) ⟨rfl, rfl, rfl, rfl, rfl, rfl, h9, allP_of 32 0 (fun _ _ _ => rfl) ⟨rfl, rfl, rfl, rfl, rfl, rfl, fun y _ => ⟨rfl, rfl⟩, h6⟩⟩⟩⟩, fun _ _ => ?_⟩
  have hd : ¬ t.okB = false := by rw [d]; decide
  have hx2 : x2 := by
    refine brec (fun _ => ?_) (fun d => by simp at d)
    refine brec (fun d0 => ?_) (fun d0 => ?_)
    · have d0 : useE t k = 0 := by simpa using d0
      have h8 := useT_n k d0
      refine ⟨by omega, hrow _, by omega, rows_rg _, by omega, fun y _ => ⟨rfl, by simp [rg_map]⟩, by omega, hrow _, by omega, ⟨?_, trivial⟩, ⟨rows_rg _, trivial⟩, ?_⟩
      · funext j; rfl
      refine brec (fun _ => ?_) (fun d1 => ?_)
      · refine brec (fun _ => ⟨by omega, h5, h3, h2 hok, trivial⟩) (fun d => by simp at d)
      · exact absurd (hs.symm.trans d1) (by decide)
    · exact ⟨by omega, h5, h3, h2 hok, trivial⟩
  have e5 : decide (minE t = 5) = decide (t.nx = 2147483647) := by
    by_cases c : t.nx = 2147483647
    · have : minE t = 5 := (if_neg hd).trans (if_pos c)
      rw [decide_eq_true this, decide_eq_true c]
    · have : minE t = 0 := (if_neg hd).trans (if_neg c)
      rw [this, decide_eq_false c]; rfl
  refine brec (fun _ => ?_) (fun d => by rw [e5] at d; simp at d)
  refine brec (fun d1 => ?_) (fun d1 => hx2)
  have d1 := dyes d1
  refine brec (fun d3 => ?_) (fun _ => hx2)
  have : minN t = t.nx := if_pos d1
  rw [this] at d3
  simp at d3
end Go.Sym

namespace Go.Sym
set_option linter.unusedVariables false
open Go.Spec
open Go.ChangeShapes Go.WideShapes
section
variable {H : Type} {enc : TypeId × Value → H} {P : Program} {W : World} {base : Nat} {spare : Nat → Bool} {held : Bool}
/-- What is read takes no more room than what is read may. -/
def Wok (P : Program) (t : TypeId) (d : DataW H) : Prop := ∀ b ∈ d.weights P t, b ≤ reachBytes
theorem Wok.field {t : TypeId} {fs : Array Field} (ht : P.underlying t = some (.struct fs)) {parts : List (DataW H)} (h : Wok P t (.agg parts)) {i : Nat} {f : Field} {d : DataW H} (hf : fs[i]? = some f) (hd : parts[i]? = some d) : Wok P f.type d := by
  intro b hb
  refine h b ?_
  simp only [DataW.weights, ht]
  exact DataW.weights_mem_each (j := i) (by simp [hf]) hd b hb
theorem w_all {e : TypeId} {n : Nat} : ∀ {l : List (DataW H)} {i : Nat} {d : DataW H}, l[i]? = some d → n ∈ d.weights P e → n ∈ DataW.weightsAll P e l
  | [], i, d, h, _ => by simp at h
  | a :: l, 0, d, h, hn => by
    simp only [List.getElem?_cons_zero, Option.some.injEq] at h
    subst h
    simp only [DataW.weightsAll, List.mem_append]
    exact .inl hn
  | a :: l, i + 1, d, h, hn => by
    simp only [List.getElem?_cons_succ] at h
    simp only [DataW.weightsAll, List.mem_append]
    exact .inr (w_all h hn)
theorem Wok.elem {t e : TypeId} (ht : P.underlying t = some (.slice e)) {l s : List (DataW H)} (h : Wok P t (.slice l s)) {i : Nat} {d : DataW H} (hd : l[i]? = some d) : Wok P e d := by
  intro b hb
  refine h b ?_
  simp only [DataW.weights, ht, List.mem_cons, List.mem_append]
  exact .inr (.inl (w_all hd hb))
theorem Wok.len {t e : TypeId} (ht : P.underlying t = some (.slice e)) {l s : List (DataW H)} (h : Wok P t (.slice l s)) : l.length * P.bytesOf e ≤ reachBytes := by
  have := h ((l.length + s.length) * P.bytesOf e) (by simp only [DataW.weights, ht, List.mem_cons]; exact .inl trivial)
  exact Nat.le_trans (Nat.mul_le_mul_right _ (Nat.le_add_right _ _)) this
theorem rd_bytesZ {t e : TypeId} {fuel : Nat} {cs : List Value} {x : DataW H × List MemPlace} (ht : P.underlying t = some (.slice e)) (he : P.underlying e = some (.int .u8)) (hc : P.cellsOf e = 1) (hb : P.bytesOf e = 1)
    (h : DataW.trod enc P W base spare held fuel t cs = some x) (hz : Wok P t x.1) : ∃ v l c, cs = [v] ∧ (c = true → l = []) ∧ l.length ≤ reachBytes ∧ VRel (κW W) (.rb true l (.is c)) v := by
  obtain ⟨v, l, c, hcs, h1, h2, h3⟩ := rd_bytes ht he hc h
  refine ⟨v, l, c, hcs, h1, ?_, h3⟩
  obtain ⟨a, k, hv, _⟩ := h3
  rcases DataW.trod_slice ht h with ⟨hcs2, _⟩ | ⟨a2, len, cap, elems, rest, n, _, hcs2, hx, _, _, _, hlen, _⟩
  · rw [hcs, List.cons.injEq, hv, Value.slice.injEq] at hcs2
    rw [hcs2.1.2.1]
    exact Nat.zero_le _
  · rw [hcs, List.cons.injEq, hv, Value.slice.injEq] at hcs2
    rw [hcs2.1.2.1]
    rw [hx] at hz
    have := hz.len ht
    rw [List.length_map, hlen, hb, Nat.mul_one] at this
    exact this
theorem fieldZ {t : TypeId} {fs : Array Field} {fuel : Nat} {cs : List Value} {x : DataW H × List MemPlace} (ht : P.underlying t = some (.struct fs)) (h : DataW.trod enc P W base spare held fuel t cs = some x) (hz : Wok P t x.1) {i : Nat} {f : Field} (hf : fs[i]? = some f) :
    ∃ m y, DataW.trod enc P W base spare held m f.type ((cs.drop f.offset).take (P.cellsOf f.type)) = some y ∧ Wok P f.type y.1 := by
  obtain ⟨xs, m, _, hx, _, hn, hel⟩ := DataW.trod_struct ht h
  have hi := (Array.getElem?_eq_some_iff.1 hf).1
  have e : xs[i]? = some (xs[i]'(by omega)) := List.getElem?_eq_getElem (by omega)
  rw [hx] at hz
  exact ⟨m, _, by rw [hel i f hf, e], hz.field ht (i := i) hf (by rw [List.getElem?_map, e]; rfl)⟩
theorem rd_rowsZ {t e : TypeId} {fuel : Nat} {cs : List Value} {x : DataW H × List MemPlace} {sz : Nat} {Sh : List AV → Prop} {av0 : List AV} (ht : P.underlying t = some (.slice e)) (hsz : P.cellsOf e = sz) (hpos : 0 < sz) (h0 : Sh av0)
    (hel : ∀ n xs y, DataW.trod enc P W base spare held n e xs = some y → Wok P e y.1 → ∃ av, Sh av ∧ datas true av = true ∧ VRels (κW W) av xs)
    (h : DataW.trod enc P W base spare held fuel t cs = some x) (hz : Wok P t x.1) : ∃ v n g c, cs = [v] ∧ (c = true → n = 0) ∧ n * P.bytesOf e ≤ reachBytes ∧ (∀ y, Sh (g y)) ∧ VRel (κW W) (.ros true sz n g (.is c)) v := by
  subst hsz
  rcases DataW.trod_slice ht h with ⟨hcs, _⟩ | ⟨a, len, cap, elems, rest, n, _, hcs, hx, hb, hl, hm, hlen, hE, _, _⟩
  · exact ⟨_, 0, fun _ => av0, true, hcs, fun _ => rfl, by rw [Nat.zero_mul]; exact Nat.zero_le _, fun _ => h0, none, 0, rfl, Nat.le_refl _, rfl, .inl rfl⟩
  · rw [hx] at hz
    have hln := hz.len ht
    rw [List.length_map, hlen] at hln
    have each : ∀ i, ∃ av, Sh av ∧ (i < len → datas true av = true ∧ ∃ xs, W.cells? base (a.add (i * P.cellsOf e)) (P.cellsOf e) = some xs ∧ VRels (κW W) av xs) := by
      intro i
      by_cases hi : i < len
      · have h1 := hE i hi
        rw [List.getElem?_eq_getElem (by omega), Option.bind_eq_some_iff] at h1
        obtain ⟨xs, h2, h3⟩ := h1
        obtain ⟨av, h4, h5, h6⟩ := hel n xs _ h3 (hz.elem ht (i := i) (by rw [List.getElem?_map, List.getElem?_eq_getElem (by omega)]; rfl))
        exact ⟨av, h4, fun _ => ⟨h5, xs, h2, h6⟩⟩
      · exact ⟨av0, h0, fun h => absurd h hi⟩
    refine ⟨_, len, fun i => Classical.choose (each i), false, hcs, nofun, hln, fun i => (Classical.choose_spec (each i)).1, some a, cap, rfl, hl, rfl, ?_⟩
    rcases Nat.eq_zero_or_pos len with hz | hlp
    · exact .inl hz
    · right
      obtain ⟨B, O, spot⟩ := a
      have hsp : spot = none := by
        obtain ⟨_, xs, h2, _⟩ := (Classical.choose_spec (each 0)).2 hlp
        have h3 := (World.cells?_some h2).2.2 0 hpos
        cases xs with
        | nil =>
          have := (World.cells?_some h2).2.1
          simp only [List.length_nil] at this
          omega
        | cons x0 xs =>
          simp only [Nat.zero_mul, Addr.add, if_true, List.getElem?_cons_zero] at h3
          exact spot_none h3
      subst hsp
      refine ⟨B, O, rfl, fun i hi => ?_⟩
      obtain ⟨h1, xs, h2, h3⟩ := (Classical.choose_spec (each i)).2 hi
      refine ⟨h1, xs, h3, fun c y hy => ?_⟩
      have hc : c < P.cellsOf e := by rw [← (World.cells?_some h2).2.1]; exact (List.getElem?_eq_some_iff.1 hy).1
      have h4 := (World.cells?_some h2).2.2 c hc
      rw [Addr.add_at, Addr.add_at, hy] at h4
      show W.cell? ⟨B, O + (i * P.cellsOf e + c), none⟩ = some y
      rw [← Nat.add_assoc]
      exact h4
end
section
variable {H : Type} {enc : TypeId × Value → H} {W : World} {base : Nat} {spare : Nat → Bool} {held : Bool}
open Go.Proofs
theorem cl3 : Tryd.prog.cellsOf 3 = 1 := by kernel_rfl
theorem cl5 : Tryd.prog.cellsOf 5 = 1 := by kernel_rfl
theorem cl22 : Tryd.prog.cellsOf 22 = 1 := by kernel_rfl
theorem cl28 : Tryd.prog.cellsOf 28 = 32 := by kernel_rfl
theorem cl34 : Tryd.prog.cellsOf 34 = 1 := by kernel_rfl
theorem cl36 : Tryd.prog.cellsOf 36 = 34 := by kernel_rfl
theorem cl46 : Tryd.prog.cellsOf 46 = 33 := by kernel_rfl
theorem by5 : Tryd.prog.bytesOf 5 = 1 := by kernel_rfl
theorem by46 : Tryd.prog.bytesOf 46 = 40 := by kernel_rfl
theorem sh_by {n : Nat} {avs : List AV} (h : shAll (List.replicate n (.i .u8)) avs) : ∃ k : Nat → BitVec 8, avs = (List.range n).map fun i => .u8 (k i) := by
  obtain ⟨l, hl, rfl⟩ := sh_u8 h
  refine ⟨fun i => l.getD i 0, ?_⟩
  apply List.ext_getElem
  · simp [hl]
  · intro i h1 h2
    have : i < l.length := by simpa using h1
    simp [List.getD, this]
def shEn (av : List AV) : Prop := ∃ (n : Int) (k : Nat → BitVec 8), av = .int .i64 n :: (List.range 32).map fun i => .u8 (k i)
theorem rd_En : ∀ n xs y, DataW.trod enc Tryd.prog W base spare held n 46 xs = some y → Wok Tryd.prog 46 y.1 → ∃ av, shEn av ∧ datas true av = true ∧ VRels (κW W) av xs := by
  intro n cs y h hz
  have hl : cs.length = 33 := by
    obtain ⟨_, _, _, _, hl, _⟩ := DataW.trod_struct Tryd.underlying46 h
    rw [hl, cl46]
  obtain ⟨m0, y0, f0, _⟩ := fieldZ Tryd.underlying46 h hz (i := 0) (f := ⟨ "Id", 3, 0, false, "", "", 0⟩) rfl
  obtain ⟨m1, y1, f1, z1⟩ := fieldZ Tryd.underlying46 h hz (i := 1) (f := ⟨ "Psk", 28, 1, false, "", "", 8⟩) rfl
  simp only [cl3, cl28, List.drop_zero] at f0 f1
  obtain ⟨k, ek, _, _⟩ := DataW.trod_int Tryd.underlying3 f0
  obtain ⟨avs, hs0, _, hv0⟩ := rd_flat 9 28 (List.replicate 32 (.i .u8)) _ _ _ (by kernel_rfl) f1
  obtain ⟨R, rfl⟩ := sh_by hs0
  have ecs : cs = .int .i64 k :: (cs.drop 1).take 32 := by
    have e1 : cs = cs.take 1 ++ cs.drop 1 := (List.take_append_drop 1 cs).symm
    have e2 : (cs.drop 1).take 32 = cs.drop 1 := List.take_of_length_le (by rw [List.length_drop]; omega)
    rw [e2]
    rw [ek] at e1
    exact e1
  refine ⟨_, ⟨k, R, rfl⟩, rfl, ?_⟩
  rw [ecs]
  exact ⟨_, _, rfl, rfl, hv0⟩
theorem rowsEn {g : Nat → List AV} (h : ∀ y, shEn (g y)) : ∃ (I : Nat → Int) (Q : Nat → Nat → BitVec 8), g = fun j => .int .i64 (I j) :: ((List.range 32).map fun i => .u8 (Q j i)) :=
  ⟨fun y => Classical.choose (h y), fun y => Classical.choose (Classical.choose_spec (h y)), funext fun y => Classical.choose_spec (Classical.choose_spec (h y))⟩
theorem rd_tab {fuel : Nat} {cs : List Value} {x : DataW H × List MemPlace} (h : DataW.trod enc Tryd.prog W base spare held fuel 36 cs = some x) (hz : Wok Tryd.prog 36 x.1) :
    ∃ (t : Tab) (u : NL), t.n < 3518437208781 ∧ VRels (κW W) (tabC t (.ros true 33 t.n (rowE t) u)) cs := by
  have hl : cs.length = 34 := by
    obtain ⟨_, _, _, _, hl, _⟩ := DataW.trod_struct Tryd.underlying36 h
    rw [hl, cl36]
  obtain ⟨m0, y0, f0, z0⟩ := fieldZ Tryd.underlying36 h hz (i := 0) (f := ⟨ "Key", 28, 0, false, "", "", 0⟩) rfl
  obtain ⟨m1, y1, f1, z1⟩ := fieldZ Tryd.underlying36 h hz (i := 1) (f := ⟨ "Next", 3, 32, false, "", "", 32⟩) rfl
  obtain ⟨m2, y2, f2, z2⟩ := fieldZ Tryd.underlying36 h hz (i := 2) (f := ⟨ "Live", 34, 33, false, "", "", 40⟩) rfl
  simp only [cl28, cl3, cl34] at f0 f1 f2
  obtain ⟨avs, hs0, _, hv0⟩ := rd_flat 9 28 (List.replicate 32 (.i .u8)) _ _ _ (by kernel_rfl) f0
  obtain ⟨R, rfl⟩ := sh_by hs0
  obtain ⟨nx, e1, _, _⟩ := DataW.trod_int Tryd.underlying3 f1
  obtain ⟨v2, n, g, u, e2, _, w2, k2, r2⟩ := rd_rowsZ Tryd.underlying34 cl46 (by decide) (av0 := .int .i64 0 :: (List.range 32).map fun i => .u8 0) ⟨0, fun _ => 0, rfl⟩ rd_En f2 z2
  obtain ⟨I, Q, rfl⟩ := rowsEn k2
  rw [by46] at w2
  have er : reachBytes = 140737488351232 := rfl
  have dk : ∀ k, cs.drop k = (cs.drop k).take 1 ++ cs.drop (k + 1) := fun k => by
    rw [← List.drop_drop, List.take_append_drop]
  have d34 : cs.drop 34 = [] := List.drop_eq_nil_of_le (by omega)
  have ecs : cs = cs.take 32 ++ [.int .i64 nx, v2] := by
    have e0 := (List.take_append_drop 32 cs).symm
    rw [dk 32, dk 33, d34, e1, e2] at e0
    exact e0
  refine ⟨⟨R, nx, n, I, Q⟩, .is u, by show n < _; omega, ?_⟩
  rw [ecs]
  refine VRels.append ?_ ?_
  · rw [List.drop_zero] at hv0
    exact hv0
  · exact ⟨_, _, rfl, rfl, _, _, rfl, r2, rfl⟩
end
end Go.Sym

/- TicketsRaw: of all tables and bytes it is told whether they may be, and what is used up. Condition: the two tables of the package start as the text of the program lays them, which the card ties. -/
namespace Go.Sym
open Go.Proofs Go.Spec
theorem tab_of {W : World} {t : Tab} {u : NL} {v : Value} (h : VRels (κW W) (tabC t (.ros true 33 t.n (rowE t) u)) v.cells.toList) : VRel (κW W) (tabA true t u) v :=
  agg_of_cells h (by simp [tabC])
theorem w5 (W : World) (hG : GW gl0 W) (v0 : Value) (t : Tab) (u : NL) (h0 : VRel (κW W) (tabA true t u) v0) (hn : t.n < 3518437208781)
    (v1 : Value) (k : By) (c : Bool) (h1 : VRel (κW W) (.rb true k (.is c)) v1) (hk : k.length < 4611686018427387904) (id : Int) :
    Calls Tryd.prog 5 #[v0, v1, .int .i64 id] W fun e w' => e = .returned (.bool true) ∧ RowKit.Below W.heap.size W w' := by
  have h1' : VRel (κW W) (.rb true k .unk) v1 := by
    obtain ⟨a, n, e1, e2, _, e4⟩ := h1
    exact ⟨a, n, e1, e2, trivial, e4⟩
  have hv : VRels (κW W) [tabA true t u, .rb true k .unk, .int .i64 id] [v0, v1, .int .i64 id] := ⟨_, _, rfl, h0, _, _, rfl, h1', _, _, rfl, rfl, rfl⟩
  refine law_walk (gl := gl0) (Γ := T14) (fn := Tryd.f5) (av := [tabA true t u, .rb true k .unk, .int .i64 id]) (ls := [(20002, lr1 t k id), (20003, lr2 t k id), (20004, lr3 t k id), (20009, lr8 t k)]) [] 3000 (by kernel_rfl) (by kernel_rfl) okT14 (by kernel_rfl) hG (by kernel_rfl) hv ?_
  exact bt5 t u k id hn hk
end Go.Sym
namespace Go.Proofs.YtmpgpbbaloiniabDoor.ticketsRaw
open Go.ChangeShapes Go.WideShapes Go.ChangeAt Go.WideMaps Go.WideElems Go.RowKit
set_option linter.unusedVariables false
set_option maxRecDepth 100000 in
theorem lifted (os : Os) (started : os.Started) (H : Type) (enc : TypeId × Value → H) :
    ReturnsInHanded {} Tryd.checked os 5 .any (fun w args => (Rows.ticketsRawSpec.pre enc Tryd.prog Tryd.f5 [] false w args ∧ laidMetH Tryd.prog laid2 w) ∧ sizedMet enc Tryd.prog Tryd.f5 (OpenSpec.ofChange Rows.ticketsRawSpec) false w args)
      (Rows.ticketsRawSpec.post enc Tryd.prog Tryd.f5 false true false false) := by
  refine returnsInHanded_of_change_and (C := Tryd.checked) (X := fun w _ => laidMetH Tryd.prog laid2 w) (fun _ _ _ hh h => h.of_heap hh) own started (by kernel_rfl) Tryd.func5
    (ChangeSpec.witness_shaped (enc := enc) (C := Tryd.checked) (os := os) (X := fun w _ => laidMetH Tryd.prog laid2 w) false (World.doorLaid Tryd.prog 400 os) #[.agg (Array.replicate 32 (.int .u8 0) ++ #[.int .i64 0, .slice none 0 0]), .slice none 0 0, .int .i64 0] 8 rfl (World.shaped_of_RefB (by kernel_rfl) (by kernel_rfl)) (by kernel_rfl) (by kernel_rfl) (by kernel_rfl) (door_met os _)) ?_
  intro W base args ds gs before hval0 hW _ hsz hL _
  have hval : ∀ (j : Nat) t v, Tryd.f5.params[j]? = some t → args[j]? = some v → Value.okWide Tryd.prog W .any base t v := hval0
  have hW' := hW
  obtain ⟨p, q, hA0, hV, rfl, hfz, hnd⟩ := hW
  have hA : DataW.TrodAll enc Tryd.prog W 0 (fun _ => true) true Tryd.f5.params.toList args.toList ds p := hA0
  rw [Tryd.params5] at hA hval hsz
  obtain ⟨v0, vs0, d0, ds0, p0, q0, hargs, rfl, rfl, h0, r0⟩ := trodAll_cons hA
  obtain ⟨v1, vs1, d1, ds1, p1, q1, rfl, rfl, rfl, h1, r1⟩ := trodAll_cons r0
  obtain ⟨v2, vs2, d2, ds2, p2, q2, rfl, rfl, rfl, h2, r2⟩ := trodAll_cons r1
  obtain ⟨rfl, rfl, rfl⟩ := trodAll_nil r2
  obtain rfl : args = #[v0, v1, v2] := by cases args; simp_all
  obtain ⟨rfl, rfl⟩ := trodVars_none hV
  obtain ⟨a2, rfl, rfl, rfl, w2⟩ := open_int Tryd.underlying3 (hval 2 3 v2 rfl rfl) h2
  clear hA0 hval0
  have hlt0 : ∀ x ∈ p0, x.block < W.heap.size := fun x hx => hW'.lt x (by simp [hx])
  obtain ⟨fuel0, hf0⟩ := h0
  have hz0 : Go.Sym.Wok Tryd.prog 36 d0 := fun b hb => by
    have := List.all_eq_true.1 hsz b (DataW.weights_mem_each (j := 0) rfl rfl b hb)
    simpa using this
  obtain ⟨t, u, hn, hr⟩ := Go.Sym.rd_tab hf0 hz0
  have hlt1 : ∀ x ∈ p1, x.block < W.heap.size := fun x hx => hW'.lt x (by simp [hx])
  obtain ⟨fuel1, hf1⟩ := h1
  have hz1 : Go.Sym.Wok Tryd.prog 22 d1 := fun b hb => by
    have := List.all_eq_true.1 hsz b (DataW.weights_mem_each (j := 1) rfl rfl b hb)
    simpa using this
  obtain ⟨u1, l1, c1, hc1, hcl1, hll1, hu1⟩ := Go.Sym.rd_bytesZ Tryd.underlying22 Tryd.underlying5 Go.Sym.cl5 Go.Sym.by5 hf1 hz1
  have hv1 : v1 = u1 := Go.Sym.cells_slice Tryd.underlying22 (hval 1 22 v1 rfl rfl) hc1
  subst hv1
  have er : reachBytes = 140737488351232 := rfl
  refine (Go.Sym.w5 W (gw_laid hL) v0 t u (Go.Sym.tab_of hr) hn v1 l1 c1 hu1 (by omega) a2).mono fun e W' ⟨he, bel⟩ => ?_
  subst he
  exact ⟨_, rfl, _, _, _, [], _, [], hW', trodAll_mk1 (shut_bool Tryd.underlying4 _), (trodAll_cons_mk (Below.trod laidO (by kernel_rfl) (of_decide_eq_true (by kernel_rfl)) ⟨fuel0, hf0⟩ bel hlt0) (trodAll_cons_mk (Below.trod laidO (by kernel_rfl) (of_decide_eq_true (by kernel_rfl)) ⟨fuel1, hf1⟩ bel hlt1) (trodAll_cons_mk (shut_int Tryd.underlying3 w2) trodAll_mk0))), rfl, bel.frame _, fun h => by cases h⟩

theorem over : Rows.ticketsRawRow.holds Tryd.pinned (OpenSpec.ofChange Rows.ticketsRawSpec) :=
  OpenClaim.holds_of_wide 5 Tryd.f5 rfl rfl rfl rfl rfl rfl rfl ⟨rfl, rfl, rfl, rfl, rfl⟩ rfl rfl rfl rfl rfl (by kernel_rfl) Tryd.func5 (by kernel_rfl)
    (of_decide_eq_true (by kernel_rfl)) (by unfold Func.isWrapper; first | (rw [if_pos (by decide +kernel)]; kernel_rfl) | (rw [if_neg (by decide +kernel)]; exact ⟨rfl, rfl⟩))
    (fun os started H enc _ => lifted os started H enc)

theorem proved : Rows.TicketsRawCardSaid :=
  Claim7.holds_tied_plain_at .later [] [.data, .data] true (true, "a8f69f3b8650f6aa73cc11834a710d7b01eb10b5fa385a50ab0f274c5dcae7b9") false
    over (fun _ h => by cases h) (by kernel_rfl) (fun _ h => by cases h) ticketsRaw_row_tie rfl ⟨rfl, rfl⟩ (by kernel_rfl) rfl
    (fun f fn hf hfn => by
      obtain rfl : f = 5 := Option.some.inj ((show Tryd.prog.funcNamed "relay/relaylaw20.TicketsRaw" = some 5 by kernel_rfl).symm.trans hf) |>.symm
      obtain rfl : fn = Tryd.f5 := (Option.some.inj (Tryd.func5.symm.trans hfn)).symm
      exact ⟨by kernel_rfl, fun j t ht => by
        rw [Tryd.params5] at ht
        have hm : t ∈ [36, 22, 3] := by simpa using Array.mem_of_getElem? ht
        have hall : ([36, 22, 3].all fun u => !Tryd.prog.wantsStandIn u) = true := by kernel_rfl
        exact (show Tryd.prog.wantsStandIn t = false by simpa using List.all_eq_true.1 hall t hm)⟩)
    (by kernel_rfl)
#print axioms proved
end Go.Proofs.YtmpgpbbaloiniabDoor.ticketsRaw
