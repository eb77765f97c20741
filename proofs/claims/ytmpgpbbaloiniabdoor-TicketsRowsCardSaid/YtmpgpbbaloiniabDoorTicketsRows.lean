/- TicketsRows: in every row of calls the table is told, and each ticket is used once at most. Condition: the two tables of the package start as the text of the program lays them, which the card ties. -/
import Derived.Test.YtmpgpbbaloiniabDoorSymC
import Derived.Test.YtmpgpbbaloiniabDoorShaB
import Derived.Test.YtmpgpbbaloiniabDoorTikC
import Derived.OpenShut
import Derived.SizedLaws
/- What is handed in from outside: plain data of any shape. -/
namespace Go.Sym
set_option linter.unusedVariables false
set_option linter.unusedSimpArgs false
open Go.ChangeShapes Go.WideShapes
inductive Sh where
  | i (k : IntKind)
  | b
  | s
  | y
def Sh.ok : Sh → AV → Prop
  | .i .u8, a => ∃ x, a = .u8 x
  | .i .u16, a => ∃ x, a = .u16 x
  | .i .u32, a => ∃ x, a = .u32 x
  | .i .u64, a => ∃ x, a = .u64 x
  | .i k, a => ∃ n, a = .int k n ∧ (Lit.int k n).wf = true
  | .b, a => ∃ c, a = .bool c
  | .s, a => ∃ l, a = .str l ∧ l.length ≤ maxLen
  | .y, a => ∃ l c, a = .rb true l (.is c) ∧ (c = true → l = []) ∧ l.length ≤ maxLen
def shAll : List Sh → List AV → Prop
  | [], [] => True
  | k :: ss, a :: az => k.ok a ∧ shAll ss az
  | _, _ => False
theorem shAll_append : ∀ {l m : List Sh} {az bs : List AV}, shAll l az → shAll m bs → shAll (l ++ m) (az ++ bs)
  | [], _, [], _, _, k => k
  | _ :: _, _, _ :: _, _, h, k => ⟨h.1, shAll_append h.2 k⟩
  | [], _, _ :: _, _, h, _ => h.elim
  | _ :: _, _, [], _, h, _ => h.elim
theorem datas_append {p : Bool} : ∀ {az bs : List AV}, datas p az = true → datas p bs = true → datas p (az ++ bs) = true
  | [], _, _, k => k
  | a :: az, _, h, k => by
    simp only [datas, Bool.and_eq_true, List.cons_append] at h ⊢
    exact ⟨h.1, datas_append h.2 k⟩
def flatFs (P : Program) (g : TypeId → Option (List Sh)) : List Field → Nat → Option (List Sh)
  | [], _ => some []
  | f :: fs, o => if f.offset = o then (g f.type).bind fun l => if P.cellsOf f.type = l.length then (flatFs P g fs (o + l.length)).map (l ++ ·) else none else none
def flat (P : Program) : Nat → TypeId → Option (List Sh)
  | 0, _ => none
  | f + 1, t => match P.underlying t with
    | some (.int k) => some [.i k]
    | some .bool => some [.b]
    | some .string => some [.s]
    | some (.slice e) => (match P.underlying e with | some (.int .u8) => if P.cellsOf e = 1 then some [.y] else none | _ => none)
    | some (.array n e) => (flat P f e).bind fun l => if P.cellsOf e = l.length ∧ P.cellsOf t = n * l.length then some (List.replicate n l).flatten else none
    | some (.struct fs) => (flatFs P (flat P f) fs.toList 0).bind fun l => if P.cellsOf t = l.length then some l else none
    | _ => none

section
variable {H : Type} {enc : TypeId × Value → H} {P : Program} {W : World} {base : Nat} {spare : Nat → Bool} {held : Bool}
def Read (W : World) (l : List Sh) (cs : List Value) : Prop := ∃ avs, shAll l avs ∧ datas true avs = true ∧ VRels (κW W) avs cs
theorem Read.append {l m : List Sh} {cs ds : List Value} (h : Read W l cs) (k : Read W m ds) : Read W (l ++ m) (cs ++ ds) := by
  obtain ⟨a, h1, h2, h3⟩ := h
  obtain ⟨b, k1, k2, k3⟩ := k
  exact ⟨a ++ b, shAll_append h1 k1, datas_append h2 k2, VRels.append h3 k3⟩
theorem read_arr {l : List Sh} {m : Nat} : ∀ (n : Nat) (cs : List Value), cs.length = n * m → (∀ i, i < n → Read W l ((cs.drop (i * m)).take m)) → Read W (List.replicate n l).flatten cs
  | 0, cs, hl, _ => by
    have : cs = [] := List.eq_nil_of_length_eq_zero (by simpa using hl)
    subst this
    exact ⟨[], trivial, rfl, rfl⟩
  | n + 1, cs, hl, h => by
    have h0 := h 0 (by omega)
    simp only [Nat.zero_mul, List.drop_zero] at h0
    have hr := read_arr (m := m) n (cs.drop m) (by rw [List.length_drop, hl, Nat.succ_mul]; omega) (fun i hi => by
      have := h (i + 1) (by omega)
      rw [List.drop_drop]
      rw [Nat.add_mul, Nat.one_mul, Nat.add_comm] at this
      exact this)
    have := h0.append hr
    rw [List.take_append_drop] at this
    simpa [List.replicate_succ] using this
theorem read_fs {g : TypeId → Option (List Sh)} {cs : List Value} : ∀ (fs : List Field) (o : Nat) (l : List Sh), flatFs P g fs o = some l → cs.length = o + l.length →
    (∀ f l', f ∈ fs → g f.type = some l' → Read W l' ((cs.drop f.offset).take (P.cellsOf f.type))) → Read W l (cs.drop o)
  | [], o, l, h, hl, _ => by
    simp only [flatFs, Option.some.injEq] at h
    subst h
    have : cs.drop o = [] := List.drop_eq_nil_of_le (by simp at hl; omega)
    rw [this]
    exact ⟨[], trivial, rfl, rfl⟩
  | f :: fs, o, l, h, hl, hr => by
    simp only [flatFs] at h
    split at h
    · rename_i ho
      simp only [Option.bind_eq_some_iff] at h
      obtain ⟨l1, h1, h2⟩ := h
      split at h2
      · rename_i hc
        simp only [Option.map_eq_some_iff] at h2
        obtain ⟨l2, h3, rfl⟩ := h2
        have k1 := hr f l1 (by simp) h1
        rw [ho, hc] at k1
        have k2 := read_fs fs (o + l1.length) l2 h3 (by simp at hl; omega) (fun f' l' hf hg => hr f' l' (by simp [hf]) hg)
        have := k1.append k2
        rw [← List.drop_drop, List.take_append_drop] at this
        exact this
      · cases h2
    · cases h
theorem rd_flat : ∀ (f : Nat) (t : TypeId) (l : List Sh) (fuel : Nat) (cs : List Value) (x : DataW H × List MemPlace), flat P f t = some l → DataW.trod enc P W base spare held fuel t cs = some x → Read W l cs
  | 0, _, _, _, _, _, h, _ => by cases h
  | f + 1, t, l, fuel, cs, x, h, hd => by
    unfold flat at h
    split at h
    · rename_i k ht
      simp only [Option.some.injEq] at h
      subst h
      obtain ⟨n, rfl, _, hw⟩ := DataW.trod_int ht hd
      have hn : absC0 (.int k n) = absC0 (.int k n) := rfl
      cases k
      case u8 =>
        simp [Lit.wf, IntKind.min, IntKind.max, IntKind.signed, IntKind.bits] at hw
        exact ⟨[.u8 (BitVec.ofNat 8 n.toNat)], ⟨⟨_, rfl⟩, trivial⟩, rfl, _, [], rfl, by simp only [VRel, BitVec.toNat_ofNat]; congr 1; omega, rfl⟩
      case u16 =>
        simp [Lit.wf, IntKind.min, IntKind.max, IntKind.signed, IntKind.bits] at hw
        exact ⟨[.u16 (BitVec.ofNat 16 n.toNat)], ⟨⟨_, rfl⟩, trivial⟩, rfl, _, [], rfl, by simp only [VRel, BitVec.toNat_ofNat]; congr 1; omega, rfl⟩
      case u32 =>
        simp [Lit.wf, IntKind.min, IntKind.max, IntKind.signed, IntKind.bits] at hw
        exact ⟨[.u32 (BitVec.ofNat 32 n.toNat)], ⟨⟨_, rfl⟩, trivial⟩, rfl, _, [], rfl, by simp only [VRel, BitVec.toNat_ofNat]; congr 1; omega, rfl⟩
      case u64 =>
        simp [Lit.wf, IntKind.min, IntKind.max, IntKind.signed, IntKind.bits] at hw
        exact ⟨[.u64 (BitVec.ofNat 64 n.toNat)], ⟨⟨_, rfl⟩, trivial⟩, rfl, _, [], rfl, by simp only [VRel, BitVec.toNat_ofNat]; congr 1; omega, rfl⟩
      all_goals exact ⟨[.int _ n], ⟨⟨_, rfl, hw⟩, trivial⟩, rfl, _, [], rfl, rfl, rfl⟩
    · rename_i ht
      simp only [Option.some.injEq] at h
      subst h
      obtain ⟨b, rfl, _⟩ := DataW.trod_bool ht hd
      exact ⟨[.bool b], ⟨⟨_, rfl⟩, trivial⟩, rfl, _, [], rfl, rfl, rfl⟩
    · rename_i ht
      simp only [Option.some.injEq] at h
      subst h
      obtain ⟨s, rfl, _, hs⟩ := DataW.trod_string ht hd
      have hb := bytesStr_strBytes s
      refine ⟨[.str (strBytes s)], ⟨⟨_, rfl, ?_⟩, trivial⟩, rfl, _, [], rfl, by simp only [VRel, hb], rfl⟩
      rw [← bytesStr_size, hb]
      exact hs
    · rename_i e ht
      split at h
      · rename_i he
        split at h
        · rename_i hc
          simp only [Option.some.injEq] at h
          subst h
          obtain ⟨v, l, c, rfl, h1, h2, h3⟩ := rd_bytes ht he hc hd
          exact ⟨[.rb true l (.is c)], ⟨⟨l, c, rfl, h1, h2⟩, trivial⟩, rfl, _, [], rfl, h3, rfl⟩
        · cases h
      · cases h
    · rename_i n e ht
      simp only [Option.bind_eq_some_iff] at h
      obtain ⟨l1, h1, h2⟩ := h
      split at h2
      · rename_i hc
        simp only [Option.some.injEq] at h2
        subst h2
        obtain ⟨xs, m, _, _, hl, hn, hel⟩ := DataW.trod_array ht hd
        refine read_arr (m := l1.length) n cs (by rw [hl, hc.2]) fun i hi => ?_
        have := hel i hi
        rw [List.getElem?_eq_getElem (by omega), hc.1] at this
        exact rd_flat f e l1 _ _ _ h1 this
      · cases h2
    · rename_i fs ht
      simp only [Option.bind_eq_some_iff] at h
      obtain ⟨l1, h1, h2⟩ := h
      split at h2
      · rename_i hc
        simp only [Option.some.injEq] at h2
        subst h2
        obtain ⟨xs, m, _, _, hl, hn, hel⟩ := DataW.trod_struct ht hd
        have := read_fs (W := W) (cs := cs) fs.toList 0 l1 h1 (by rw [hl, hc]; omega) fun f0 l' hf hg => by
          obtain ⟨i, hi⟩ := List.getElem?_of_mem hf
          have hlt := (List.getElem?_eq_some_iff.1 hi).1
          have := hel i f0 (by simpa using hi)
          rw [List.getElem?_eq_getElem (by simp at hlt; omega)] at this
          exact rd_flat f f0.type l' _ _ _ hg this
        simpa using this
      · cases h2
    · cases h
theorem agg_of_cells {v : Value} {avs : List AV} (h : VRels (κW W) avs v.cells.toList) (hl : 2 ≤ avs.length) : VRel (κW W) (.agg avs) v := by
  have hn := h.length
  cases v
  case agg cs => exact ⟨cs, rfl, h⟩
  all_goals (exfalso; simp [Value.cells] at hn; omega)
/-- Bytes of an array. -/
theorem sh_u8 : ∀ {n : Nat} {avs : List AV}, shAll (List.replicate n (.i .u8)) avs → ∃ l : List (BitVec 8), l.length = n ∧ avs = l.map .u8
  | 0, [], _ => ⟨[], rfl, rfl⟩
  | 0, _ :: _, h => h.elim
  | n + 1, [], h => h.elim
  | n + 1, a :: az, h => by
    obtain ⟨⟨x, rfl⟩, h2⟩ := h
    obtain ⟨l, h3, rfl⟩ := sh_u8 h2
    exact ⟨x :: l, by simp [h3], rfl⟩
end
theorem sh_cons {k : Sh} {ks : List Sh} {avs : List AV} (h : shAll (k :: ks) avs) : ∃ a az, avs = a :: az ∧ k.ok a ∧ shAll ks az := by
  cases avs with
  | nil => exact h.elim
  | cons a az => exact ⟨a, az, rfl, h.1, h.2⟩
theorem sh_nil {avs : List AV} (h : shAll [] avs) : avs = [] := by
  cases avs with
  | nil => rfl
  | cons a az => exact h.elim
theorem sh_i64 {a : AV} (h : (Sh.i .i64).ok a) : ∃ n, a = .int .i64 n := by
  obtain ⟨n, h, _⟩ := h
  exact ⟨n, h⟩
theorem rel_u32 {κ : Ker} {n : Int} (h : (Lit.int .u32 n).wf = true) : VRel κ (.u32 (BitVec.ofInt 32 n)) (.int .u32 n) := by
  simp [Lit.wf, IntKind.has, IntKind.min, IntKind.max, IntKind.signed, IntKind.bits] at h
  simp only [VRel, BitVec.toNat_ofInt]
  congr 1
  omega
theorem rel_u64 {κ : Ker} {n : Int} (h : (Lit.int .u64 n).wf = true) : VRel κ (.u64 (BitVec.ofInt 64 n)) (.int .u64 n) := by
  simp [Lit.wf, IntKind.has, IntKind.min, IntKind.max, IntKind.signed, IntKind.bits] at h
  simp only [VRel, BitVec.toNat_ofInt]
  congr 1
  omega
theorem rel_u8 {κ : Ker} {n : Int} (h : (Lit.int .u8 n).wf = true) : VRel κ (.u8 (BitVec.ofInt 8 n)) (.int .u8 n) := by
  simp [Lit.wf, IntKind.has, IntKind.min, IntKind.max, IntKind.signed, IntKind.bits] at h
  simp only [VRel, BitVec.toNat_ofInt]
  congr 1
  omega
end Go.Sym

namespace Go.Sym
set_option linter.unusedVariables false
open Go.Spec
open Go.ChangeShapes Go.WideShapes
section
variable {H : Type} {enc : TypeId × Value → H} {P : Program} {W : World} {base : Nat} {spare : Nat → Bool} {held : Bool}
/-- What is read takes no more room than what is read may. -/
def Wok (P : Program) (t : TypeId) (d : DataW H) : Prop := ∀ b ∈ d.weights P t, b ≤ reachBytes
theorem Wok.field {t : TypeId} {fs : Array Field} (ht : P.underlying t = some (.struct fs)) {parts : List (DataW H)} (h : Wok P t (.agg parts)) {i : Nat} {f : Field} {d : DataW H} (hf : fs[i]? = some f) (hd : parts[i]? = some d) : Wok P f.type d := by
  intro b hb
  refine h b ?_
  simp only [DataW.weights, ht]
  exact DataW.weights_mem_each (j := i) (by simp [hf]) hd b hb
theorem w_all {e : TypeId} {n : Nat} : ∀ {l : List (DataW H)} {i : Nat} {d : DataW H}, l[i]? = some d → n ∈ d.weights P e → n ∈ DataW.weightsAll P e l
  | [], i, d, h, _ => by simp at h
  | a :: l, 0, d, h, hn => by
    simp only [List.getElem?_cons_zero, Option.some.injEq] at h
    subst h
    simp only [DataW.weightsAll, List.mem_append]
    exact .inl hn
  | a :: l, i + 1, d, h, hn => by
    simp only [List.getElem?_cons_succ] at h
    simp only [DataW.weightsAll, List.mem_append]
    exact .inr (w_all h hn)
theorem Wok.elem {t e : TypeId} (ht : P.underlying t = some (.slice e)) {l s : List (DataW H)} (h : Wok P t (.slice l s)) {i : Nat} {d : DataW H} (hd : l[i]? = some d) : Wok P e d := by
  intro b hb
  refine h b ?_
  simp only [DataW.weights, ht, List.mem_cons, List.mem_append]
  exact .inr (.inl (w_all hd hb))
theorem Wok.len {t e : TypeId} (ht : P.underlying t = some (.slice e)) {l s : List (DataW H)} (h : Wok P t (.slice l s)) : l.length * P.bytesOf e ≤ reachBytes := by
  have := h ((l.length + s.length) * P.bytesOf e) (by simp only [DataW.weights, ht, List.mem_cons]; exact .inl trivial)
  exact Nat.le_trans (Nat.mul_le_mul_right _ (Nat.le_add_right _ _)) this
theorem rd_bytesZ {t e : TypeId} {fuel : Nat} {cs : List Value} {x : DataW H × List MemPlace} (ht : P.underlying t = some (.slice e)) (he : P.underlying e = some (.int .u8)) (hc : P.cellsOf e = 1) (hb : P.bytesOf e = 1)
    (h : DataW.trod enc P W base spare held fuel t cs = some x) (hz : Wok P t x.1) : ∃ v l c, cs = [v] ∧ (c = true → l = []) ∧ l.length ≤ reachBytes ∧ VRel (κW W) (.rb true l (.is c)) v := by
  obtain ⟨v, l, c, hcs, h1, h2, h3⟩ := rd_bytes ht he hc h
  refine ⟨v, l, c, hcs, h1, ?_, h3⟩
  obtain ⟨a, k, hv, _⟩ := h3
  rcases DataW.trod_slice ht h with ⟨hcs2, _⟩ | ⟨a2, len, cap, elems, rest, n, _, hcs2, hx, _, _, _, hlen, _⟩
  · rw [hcs, List.cons.injEq, hv, Value.slice.injEq] at hcs2
    rw [hcs2.1.2.1]
    exact Nat.zero_le _
  · rw [hcs, List.cons.injEq, hv, Value.slice.injEq] at hcs2
    rw [hcs2.1.2.1]
    rw [hx] at hz
    have := hz.len ht
    rw [List.length_map, hlen, hb, Nat.mul_one] at this
    exact this
theorem fieldZ {t : TypeId} {fs : Array Field} {fuel : Nat} {cs : List Value} {x : DataW H × List MemPlace} (ht : P.underlying t = some (.struct fs)) (h : DataW.trod enc P W base spare held fuel t cs = some x) (hz : Wok P t x.1) {i : Nat} {f : Field} (hf : fs[i]? = some f) :
    ∃ m y, DataW.trod enc P W base spare held m f.type ((cs.drop f.offset).take (P.cellsOf f.type)) = some y ∧ Wok P f.type y.1 := by
  obtain ⟨xs, m, _, hx, _, hn, hel⟩ := DataW.trod_struct ht h
  have hi := (Array.getElem?_eq_some_iff.1 hf).1
  have e : xs[i]? = some (xs[i]'(by omega)) := List.getElem?_eq_getElem (by omega)
  rw [hx] at hz
  exact ⟨m, _, by rw [hel i f hf, e], hz.field ht (i := i) hf (by rw [List.getElem?_map, e]; rfl)⟩
theorem rd_rowsZ {t e : TypeId} {fuel : Nat} {cs : List Value} {x : DataW H × List MemPlace} {sz : Nat} {Sh : List AV → Prop} {av0 : List AV} (ht : P.underlying t = some (.slice e)) (hsz : P.cellsOf e = sz) (hpos : 0 < sz) (h0 : Sh av0)
    (hel : ∀ n xs y, DataW.trod enc P W base spare held n e xs = some y → Wok P e y.1 → ∃ av, Sh av ∧ datas true av = true ∧ VRels (κW W) av xs)
    (h : DataW.trod enc P W base spare held fuel t cs = some x) (hz : Wok P t x.1) : ∃ v n g c, cs = [v] ∧ (c = true → n = 0) ∧ n * P.bytesOf e ≤ reachBytes ∧ (∀ y, Sh (g y)) ∧ VRel (κW W) (.ros true sz n g (.is c)) v := by
  subst hsz
  rcases DataW.trod_slice ht h with ⟨hcs, _⟩ | ⟨a, len, cap, elems, rest, n, _, hcs, hx, hb, hl, hm, hlen, hE, _, _⟩
  · exact ⟨_, 0, fun _ => av0, true, hcs, fun _ => rfl, by rw [Nat.zero_mul]; exact Nat.zero_le _, fun _ => h0, none, 0, rfl, Nat.le_refl _, rfl, .inl rfl⟩
  · rw [hx] at hz
    have hln := hz.len ht
    rw [List.length_map, hlen] at hln
    have each : ∀ i, ∃ av, Sh av ∧ (i < len → datas true av = true ∧ ∃ xs, W.cells? base (a.add (i * P.cellsOf e)) (P.cellsOf e) = some xs ∧ VRels (κW W) av xs) := by
      intro i
      by_cases hi : i < len
      · have h1 := hE i hi
        rw [List.getElem?_eq_getElem (by omega), Option.bind_eq_some_iff] at h1
        obtain ⟨xs, h2, h3⟩ := h1
        obtain ⟨av, h4, h5, h6⟩ := hel n xs _ h3 (hz.elem ht (i := i) (by rw [List.getElem?_map, List.getElem?_eq_getElem (by omega)]; rfl))
        exact ⟨av, h4, fun _ => ⟨h5, xs, h2, h6⟩⟩
      · exact ⟨av0, h0, fun h => absurd h hi⟩
    refine ⟨_, len, fun i => Classical.choose (each i), false, hcs, nofun, hln, fun i => (Classical.choose_spec (each i)).1, some a, cap, rfl, hl, rfl, ?_⟩
    rcases Nat.eq_zero_or_pos len with hz | hlp
    · exact .inl hz
    · right
      obtain ⟨B, O, spot⟩ := a
      have hsp : spot = none := by
        obtain ⟨_, xs, h2, _⟩ := (Classical.choose_spec (each 0)).2 hlp
        have h3 := (World.cells?_some h2).2.2 0 hpos
        cases xs with
        | nil =>
          have := (World.cells?_some h2).2.1
          simp only [List.length_nil] at this
          omega
        | cons x0 xs =>
          simp only [Nat.zero_mul, Addr.add, if_true, List.getElem?_cons_zero] at h3
          exact spot_none h3
      subst hsp
      refine ⟨B, O, rfl, fun i hi => ?_⟩
      obtain ⟨h1, xs, h2, h3⟩ := (Classical.choose_spec (each i)).2 hi
      refine ⟨h1, xs, h3, fun c y hy => ?_⟩
      have hc : c < P.cellsOf e := by rw [← (World.cells?_some h2).2.1]; exact (List.getElem?_eq_some_iff.1 hy).1
      have h4 := (World.cells?_some h2).2.2 c hc
      rw [Addr.add_at, Addr.add_at, hy] at h4
      show W.cell? ⟨B, O + (i * P.cellsOf e + c), none⟩ = some y
      rw [← Nat.add_assoc]
      exact h4
end
section
variable {H : Type} {enc : TypeId × Value → H} {W : World} {base : Nat} {spare : Nat → Bool} {held : Bool}
open Go.Proofs
theorem cl3 : Tryd.prog.cellsOf 3 = 1 := by kernel_rfl
theorem cl5 : Tryd.prog.cellsOf 5 = 1 := by kernel_rfl
theorem cl22 : Tryd.prog.cellsOf 22 = 1 := by kernel_rfl
theorem cl28 : Tryd.prog.cellsOf 28 = 32 := by kernel_rfl
theorem cl34 : Tryd.prog.cellsOf 34 = 1 := by kernel_rfl
theorem cl36 : Tryd.prog.cellsOf 36 = 34 := by kernel_rfl
theorem cl46 : Tryd.prog.cellsOf 46 = 33 := by kernel_rfl
theorem by5 : Tryd.prog.bytesOf 5 = 1 := by kernel_rfl
theorem by46 : Tryd.prog.bytesOf 46 = 40 := by kernel_rfl
theorem sh_by {n : Nat} {avs : List AV} (h : shAll (List.replicate n (.i .u8)) avs) : ∃ k : Nat → BitVec 8, avs = (List.range n).map fun i => .u8 (k i) := by
  obtain ⟨l, hl, rfl⟩ := sh_u8 h
  refine ⟨fun i => l.getD i 0, ?_⟩
  apply List.ext_getElem
  · simp [hl]
  · intro i h1 h2
    have : i < l.length := by simpa using h1
    simp [List.getD, this]
def shEn (av : List AV) : Prop := ∃ (n : Int) (k : Nat → BitVec 8), av = .int .i64 n :: (List.range 32).map fun i => .u8 (k i)
theorem rd_En : ∀ n xs y, DataW.trod enc Tryd.prog W base spare held n 46 xs = some y → Wok Tryd.prog 46 y.1 → ∃ av, shEn av ∧ datas true av = true ∧ VRels (κW W) av xs := by
  intro n cs y h hz
  have hl : cs.length = 33 := by
    obtain ⟨_, _, _, _, hl, _⟩ := DataW.trod_struct Tryd.underlying46 h
    rw [hl, cl46]
  obtain ⟨m0, y0, f0, _⟩ := fieldZ Tryd.underlying46 h hz (i := 0) (f := ⟨ "Id", 3, 0, false, "", "", 0⟩) rfl
  obtain ⟨m1, y1, f1, z1⟩ := fieldZ Tryd.underlying46 h hz (i := 1) (f := ⟨ "Psk", 28, 1, false, "", "", 8⟩) rfl
  simp only [cl3, cl28, List.drop_zero] at f0 f1
  obtain ⟨k, ek, _, _⟩ := DataW.trod_int Tryd.underlying3 f0
  obtain ⟨avs, hs0, _, hv0⟩ := rd_flat 9 28 (List.replicate 32 (.i .u8)) _ _ _ (by kernel_rfl) f1
  obtain ⟨R, rfl⟩ := sh_by hs0
  have ecs : cs = .int .i64 k :: (cs.drop 1).take 32 := by
    have e1 : cs = cs.take 1 ++ cs.drop 1 := (List.take_append_drop 1 cs).symm
    have e2 : (cs.drop 1).take 32 = cs.drop 1 := List.take_of_length_le (by rw [List.length_drop]; omega)
    rw [e2]
    rw [ek] at e1
    exact e1
  refine ⟨_, ⟨k, R, rfl⟩, rfl, ?_⟩
  rw [ecs]
  exact ⟨_, _, rfl, rfl, hv0⟩
theorem rowsEn {g : Nat → List AV} (h : ∀ y, shEn (g y)) : ∃ (I : Nat → Int) (Q : Nat → Nat → BitVec 8), g = fun j => .int .i64 (I j) :: ((List.range 32).map fun i => .u8 (Q j i)) :=
  ⟨fun y => Classical.choose (h y), fun y => Classical.choose (Classical.choose_spec (h y)), funext fun y => Classical.choose_spec (Classical.choose_spec (h y))⟩
theorem rd_tab {fuel : Nat} {cs : List Value} {x : DataW H × List MemPlace} (h : DataW.trod enc Tryd.prog W base spare held fuel 36 cs = some x) (hz : Wok Tryd.prog 36 x.1) :
    ∃ (t : Tab) (u : NL), t.n < 3518437208781 ∧ VRels (κW W) (tabC t (.ros true 33 t.n (rowE t) u)) cs := by
  have hl : cs.length = 34 := by
    obtain ⟨_, _, _, _, hl, _⟩ := DataW.trod_struct Tryd.underlying36 h
    rw [hl, cl36]
  obtain ⟨m0, y0, f0, z0⟩ := fieldZ Tryd.underlying36 h hz (i := 0) (f := ⟨ "Key", 28, 0, false, "", "", 0⟩) rfl
  obtain ⟨m1, y1, f1, z1⟩ := fieldZ Tryd.underlying36 h hz (i := 1) (f := ⟨ "Next", 3, 32, false, "", "", 32⟩) rfl
  obtain ⟨m2, y2, f2, z2⟩ := fieldZ Tryd.underlying36 h hz (i := 2) (f := ⟨ "Live", 34, 33, false, "", "", 40⟩) rfl
  simp only [cl28, cl3, cl34] at f0 f1 f2
  obtain ⟨avs, hs0, _, hv0⟩ := rd_flat 9 28 (List.replicate 32 (.i .u8)) _ _ _ (by kernel_rfl) f0
  obtain ⟨R, rfl⟩ := sh_by hs0
  obtain ⟨nx, e1, _, _⟩ := DataW.trod_int Tryd.underlying3 f1
  obtain ⟨v2, n, g, u, e2, _, w2, k2, r2⟩ := rd_rowsZ Tryd.underlying34 cl46 (by decide) (av0 := .int .i64 0 :: (List.range 32).map fun i => .u8 0) ⟨0, fun _ => 0, rfl⟩ rd_En f2 z2
  obtain ⟨I, Q, rfl⟩ := rowsEn k2
  rw [by46] at w2
  have er : reachBytes = 140737488351232 := rfl
  have dk : ∀ k, cs.drop k = (cs.drop k).take 1 ++ cs.drop (k + 1) := fun k => by
    rw [← List.drop_drop, List.take_append_drop]
  have d34 : cs.drop 34 = [] := List.drop_eq_nil_of_le (by omega)
  have ecs : cs = cs.take 32 ++ [.int .i64 nx, v2] := by
    have e0 := (List.take_append_drop 32 cs).symm
    rw [dk 32, dk 33, d34, e1, e2] at e0
    exact e0
  refine ⟨⟨R, nx, n, I, Q⟩, .is u, by show n < _; omega, ?_⟩
  rw [ecs]
  refine VRels.append ?_ ?_
  · rw [List.drop_zero] at hv0
    exact hv0
  · exact ⟨_, _, rfl, rfl, _, _, rfl, r2, rfl⟩
end
end Go.Sym

/- TicketsRows: in every row of calls the table is told, and each ticket is used once at most. Condition: the two tables of the package start as the text of the program lays them, which the card ties. -/
namespace Go.Sym
open Go.Proofs Go.Spec
open Go.ChangeShapes Go.WideShapes
section
variable {H : Type} {enc : TypeId × Value → H} {W : World} {base : Nat} {spare : Nat → Bool} {held : Bool}
theorem cl39 : Tryd.prog.cellsOf 39 = 3 := by kernel_rfl
def shAct (av : List AV) : Prop := ∃ (a b : Int) (c : BitVec 8), av = [.int .i64 a, .int .i64 b, .u8 c]
theorem three_of {l : List Value} (h : l.length = 3) : ∃ a b c, l = [a, b, c] := by
  match l, h with
  | [a, b, c], _ => exact ⟨a, b, c, rfl⟩
theorem rd_Act : ∀ n xs y, DataW.trod enc Tryd.prog W base spare held n 39 xs = some y → Wok Tryd.prog 39 y.1 → ∃ av, shAct av ∧ datas true av = true ∧ VRels (κW W) av xs := by
  intro n cs y h hz
  have hl : cs.length = 3 := by
    obtain ⟨_, _, _, _, hl, _⟩ := DataW.trod_struct Tryd.underlying39 h
    rw [hl, cl39]
  obtain ⟨m0, y0, f0, _⟩ := fieldZ Tryd.underlying39 h hz (i := 0) (f := ⟨ "What", 3, 0, false, "", "", 0⟩) rfl
  obtain ⟨m1, y1, f1, _⟩ := fieldZ Tryd.underlying39 h hz (i := 1) (f := ⟨ "Id", 3, 1, false, "", "", 8⟩) rfl
  obtain ⟨m2, y2, f2, _⟩ := fieldZ Tryd.underlying39 h hz (i := 2) (f := ⟨ "Psk", 5, 2, false, "", "", 16⟩) rfl
  obtain ⟨a, b, c, rfl⟩ := three_of hl
  simp only [cl3, cl5] at f0 f1 f2
  obtain ⟨k0, e0, _, _⟩ := DataW.trod_int Tryd.underlying3 f0
  obtain ⟨k1, e1, _, _⟩ := DataW.trod_int Tryd.underlying3 f1
  obtain ⟨k2, e2, _, w2⟩ := DataW.trod_int Tryd.underlying5 f2
  simp at e0 e1 e2
  subst e0 e1 e2
  exact ⟨_, ⟨k0, k1, BitVec.ofInt 8 k2, rfl⟩, rfl, _, _, rfl, rfl, _, _, rfl, rfl, _, [], rfl, rel_u8 w2, rfl⟩
theorem rowsAct {g : Nat → List AV} (h : ∀ y, shAct (g y)) : ∃ (A B : Nat → Int) (C : Nat → BitVec 8), g = gA A B C :=
  ⟨fun y => Classical.choose (h y), fun y => Classical.choose (Classical.choose_spec (h y)), fun y => Classical.choose (Classical.choose_spec (Classical.choose_spec (h y))), funext fun y => Classical.choose_spec (Classical.choose_spec (Classical.choose_spec (h y)))⟩
end
theorem w4 (W : World) (hG : GW gl0 W) (v0 : Value) (key : Nat → BitVec 8) (h0 : VRel (κW W) (aggB 32 key) v0) (v1 : Value) (m : Nat) (A B : Nat → Int) (C : Nat → BitVec 8) (c : Bool) (h1 : VRel (κW W) (.ros true 3 m (gA A B C) (.is c)) v1) :
    Calls Tryd.prog 4 #[v0, v1] W fun e w' => e = .returned (.bool true) ∧ RowKit.Below W.heap.size W w' := by
  have hv : VRels (κW W) [aggB 32 key, .ros true 3 m (gA A B C) (.is c)] [v0, v1] := ⟨_, _, rfl, h0, _, _, rfl, h1, rfl⟩
  refine law_walk (gl := gl0) (Γ := T16) (fn := Tryd.f4) (av := [aggB 32 key, .ros true 3 m (gA A B C) (.is c)]) (ls := [(5, lsT m A B C key)]) [] 3000 (by kernel_rfl) (by kernel_rfl) okT16 (by kernel_rfl) hG (by kernel_rfl) hv ?_
  exact bt4 m A B C key (.is c)
end Go.Sym
namespace Go.Proofs.YtmpgpbbaloiniabDoor.ticketsRows
open Go.ChangeShapes Go.WideShapes Go.ChangeAt Go.WideMaps Go.WideElems Go.RowKit
set_option linter.unusedVariables false
set_option maxRecDepth 100000 in
theorem lifted (os : Os) (started : os.Started) (H : Type) (enc : TypeId × Value → H) :
    ReturnsInHanded {} Tryd.checked os 4 .any (fun w args => (Rows.ticketsRowsSpec.pre enc Tryd.prog Tryd.f4 [] false w args ∧ laidMetH Tryd.prog laid2 w) ∧ sizedMet enc Tryd.prog Tryd.f4 (OpenSpec.ofChange Rows.ticketsRowsSpec) false w args)
      (Rows.ticketsRowsSpec.post enc Tryd.prog Tryd.f4 false true false false) := by
  refine returnsInHanded_of_change_and (C := Tryd.checked) (X := fun w _ => laidMetH Tryd.prog laid2 w) (fun _ _ _ hh h => h.of_heap hh) own started (by kernel_rfl) Tryd.func4
    (ChangeSpec.witness_shaped (enc := enc) (C := Tryd.checked) (os := os) (X := fun w _ => laidMetH Tryd.prog laid2 w) false (World.doorLaid Tryd.prog 400 os) #[.agg (Array.replicate 32 (.int .u8 0)), .slice none 0 0] 8 rfl (World.shaped_of_RefB (by kernel_rfl) (by kernel_rfl)) (by kernel_rfl) (by kernel_rfl) (by kernel_rfl) (door_met os _)) ?_
  intro W base args ds gs before hval0 hW _ hsz hL _
  have hval : ∀ (j : Nat) t v, Tryd.f4.params[j]? = some t → args[j]? = some v → Value.okWide Tryd.prog W .any base t v := hval0
  have hW' := hW
  obtain ⟨p, q, hA0, hV, rfl, hfz, hnd⟩ := hW
  have hA : DataW.TrodAll enc Tryd.prog W 0 (fun _ => true) true Tryd.f4.params.toList args.toList ds p := hA0
  rw [Tryd.params4] at hA hval hsz
  obtain ⟨v0, vs0, d0, ds0, p0, q0, hargs, rfl, rfl, h0, r0⟩ := trodAll_cons hA
  obtain ⟨v1, vs1, d1, ds1, p1, q1, rfl, rfl, rfl, h1, r1⟩ := trodAll_cons r0
  obtain ⟨rfl, rfl, rfl⟩ := trodAll_nil r1
  obtain rfl : args = #[v0, v1] := by cases args; simp_all
  obtain ⟨rfl, rfl⟩ := trodVars_none hV
  clear hA0 hval0
  have hlt0 : ∀ x ∈ p0, x.block < W.heap.size := fun x hx => hW'.lt x (by simp [hx])
  obtain ⟨fuel0, hf0⟩ := h0
  obtain ⟨avs0, hs0, hd0, hr0⟩ := Go.Sym.rd_flat 9 28 (List.replicate 32 (.i .u8)) _ _ _ (by kernel_rfl) hf0
  obtain ⟨key, rfl⟩ := Go.Sym.sh_by hs0
  have hu0 := Go.Sym.agg_of_cells hr0 (by simp)
  have hlt1 : ∀ x ∈ p1, x.block < W.heap.size := fun x hx => hW'.lt x (by simp [hx])
  obtain ⟨fuel1, hf1⟩ := h1
  have hz1 : Go.Sym.Wok Tryd.prog 29 d1 := fun b hb => by
    have := List.all_eq_true.1 hsz b (DataW.weights_mem_each (j := 1) rfl rfl b hb)
    simpa using this
  obtain ⟨u1, m, g, c1, hc1, hcl1, hll1, hsh, hu1⟩ := Go.Sym.rd_rowsZ Tryd.underlying29 Go.Sym.cl39 (by decide) (av0 := [.int .i64 0, .int .i64 0, .u8 0]) ⟨0, 0, 0, rfl⟩ Go.Sym.rd_Act hf1 hz1
  have hv1 : v1 = u1 := Go.Sym.cells_slice Tryd.underlying29 (hval 1 29 v1 rfl rfl) hc1
  subst hv1
  obtain ⟨A, B, C, rfl⟩ := Go.Sym.rowsAct hsh
  refine (Go.Sym.w4 W (gw_laid hL) v0 key hu0 v1 m A B C c1 hu1).mono fun e W' ⟨he, bel⟩ => ?_
  subst he
  exact ⟨_, rfl, _, _, _, [], _, [], hW', trodAll_mk1 (shut_bool Tryd.underlying4 _), (trodAll_cons_mk (Below.trod laidO (by kernel_rfl) (of_decide_eq_true (by kernel_rfl)) ⟨fuel0, hf0⟩ bel hlt0) (trodAll_cons_mk (Below.trod laidO (by kernel_rfl) (of_decide_eq_true (by kernel_rfl)) ⟨fuel1, hf1⟩ bel hlt1) trodAll_mk0)), rfl, bel.frame _, fun h => by cases h⟩

theorem over : Rows.ticketsRowsRow.holds Tryd.pinned (OpenSpec.ofChange Rows.ticketsRowsSpec) :=
  OpenClaim.holds_of_wide 4 Tryd.f4 rfl rfl rfl rfl rfl rfl rfl ⟨rfl, rfl, rfl, rfl, rfl⟩ rfl rfl rfl rfl rfl (by kernel_rfl) Tryd.func4 (by kernel_rfl)
    (of_decide_eq_true (by kernel_rfl)) (by unfold Func.isWrapper; first | (rw [if_pos (by decide +kernel)]; kernel_rfl) | (rw [if_neg (by decide +kernel)]; exact ⟨rfl, rfl⟩))
    (fun os started H enc _ => lifted os started H enc)

theorem proved : Rows.TicketsRowsCardSaid :=
  Claim7.holds_tied_plain_at .later [] [.data, .data] true (true, "a8f69f3b8650f6aa73cc11834a710d7b01eb10b5fa385a50ab0f274c5dcae7b9") false
    over (fun _ h => by cases h) (by kernel_rfl) (fun _ h => by cases h) ticketsRows_row_tie rfl ⟨rfl, rfl⟩ (by kernel_rfl) rfl
    (fun f fn hf hfn => by
      obtain rfl : f = 4 := Option.some.inj ((show Tryd.prog.funcNamed "relay/relaylaw20.TicketsRows" = some 4 by kernel_rfl).symm.trans hf) |>.symm
      obtain rfl : fn = Tryd.f4 := (Option.some.inj (Tryd.func4.symm.trans hfn)).symm
      exact ⟨by kernel_rfl, fun j t ht => by
        rw [Tryd.params4] at ht
        have hm : t ∈ [28, 29] := by simpa using Array.mem_of_getElem? ht
        have hall : ([28, 29].all fun u => !Tryd.prog.wantsStandIn u) = true := by kernel_rfl
        exact (show Tryd.prog.wantsStandIn t = false by simpa using List.all_eq_true.1 hall t hm)⟩)
    (by kernel_rfl)
#print axioms proved
end Go.Proofs.YtmpgpbbaloiniabDoor.ticketsRows
