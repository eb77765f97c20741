/- What the calls of a gate answer, as functions of numbers, and that the program answers so. -/
import Derived.Test.YtgojgoebmembfaaSymC
import Derived.OpenShut
import Derived.Test.YtgojgoebmembfaaProg
import Derived.KernelRfl
/- What is handed in from outside: plain data of any shape. -/
namespace Go.Sym
set_option linter.unusedVariables false
set_option linter.unusedSimpArgs false
open Go.ChangeShapes Go.WideShapes
inductive Sh where
  | i (k : IntKind)
  | b
  | s
  | y
def Sh.ok : Sh → AV → Prop
  | .i .u8, a => ∃ x, a = .u8 x
  | .i .u16, a => ∃ x, a = .u16 x
  | .i .u32, a => ∃ x, a = .u32 x
  | .i .u64, a => ∃ x, a = .u64 x
  | .i k, a => ∃ n, a = .int k n ∧ (Lit.int k n).wf = true
  | .b, a => ∃ c, a = .bool c
  | .s, a => ∃ l, a = .str l ∧ l.length ≤ maxLen
  | .y, a => ∃ l c, a = .rb true l (.is c) ∧ (c = true → l = []) ∧ l.length ≤ maxLen
def shAll : List Sh → List AV → Prop
  | [], [] => True
  | k :: ss, a :: az => k.ok a ∧ shAll ss az
  | _, _ => False
theorem shAll_append : ∀ {l m : List Sh} {az bs : List AV}, shAll l az → shAll m bs → shAll (l ++ m) (az ++ bs)
  | [], _, [], _, _, k => k
  | _ :: _, _, _ :: _, _, h, k => ⟨h.1, shAll_append h.2 k⟩
  | [], _, _ :: _, _, h, _ => h.elim
  | _ :: _, _, [], _, h, _ => h.elim
theorem datas_append {p : Bool} : ∀ {az bs : List AV}, datas p az = true → datas p bs = true → datas p (az ++ bs) = true
  | [], _, _, k => k
  | a :: az, _, h, k => by
    simp only [datas, Bool.and_eq_true, List.cons_append] at h ⊢
    exact ⟨h.1, datas_append h.2 k⟩
def flatFs (P : Program) (g : TypeId → Option (List Sh)) : List Field → Nat → Option (List Sh)
  | [], _ => some []
  | f :: fs, o => if f.offset = o then (g f.type).bind fun l => if P.cellsOf f.type = l.length then (flatFs P g fs (o + l.length)).map (l ++ ·) else none else none
def flat (P : Program) : Nat → TypeId → Option (List Sh)
  | 0, _ => none
  | f + 1, t => match P.underlying t with
    | some (.int k) => some [.i k]
    | some .bool => some [.b]
    | some .string => some [.s]
    | some (.slice e) => (match P.underlying e with | some (.int .u8) => if P.cellsOf e = 1 then some [.y] else none | _ => none)
    | some (.array n e) => (flat P f e).bind fun l => if P.cellsOf e = l.length ∧ P.cellsOf t = n * l.length then some (List.replicate n l).flatten else none
    | some (.struct fs) => (flatFs P (flat P f) fs.toList 0).bind fun l => if P.cellsOf t = l.length then some l else none
    | _ => none

section
variable {H : Type} {enc : TypeId × Value → H} {P : Program} {W : World} {base : Nat} {spare : Nat → Bool} {held : Bool}
def Read (W : World) (l : List Sh) (cs : List Value) : Prop := ∃ avs, shAll l avs ∧ datas true avs = true ∧ VRels (κW W) avs cs
theorem Read.append {l m : List Sh} {cs ds : List Value} (h : Read W l cs) (k : Read W m ds) : Read W (l ++ m) (cs ++ ds) := by
  obtain ⟨a, h1, h2, h3⟩ := h
  obtain ⟨b, k1, k2, k3⟩ := k
  exact ⟨a ++ b, shAll_append h1 k1, datas_append h2 k2, VRels.append h3 k3⟩
theorem read_arr {l : List Sh} {m : Nat} : ∀ (n : Nat) (cs : List Value), cs.length = n * m → (∀ i, i < n → Read W l ((cs.drop (i * m)).take m)) → Read W (List.replicate n l).flatten cs
  | 0, cs, hl, _ => by
    have : cs = [] := List.eq_nil_of_length_eq_zero (by simpa using hl)
    subst this
    exact ⟨[], trivial, rfl, rfl⟩
  | n + 1, cs, hl, h => by
    have h0 := h 0 (by omega)
    simp only [Nat.zero_mul, List.drop_zero] at h0
    have hr := read_arr (m := m) n (cs.drop m) (by rw [List.length_drop, hl, Nat.succ_mul]; omega) (fun i hi => by
      have := h (i + 1) (by omega)
      rw [List.drop_drop]
      rw [Nat.add_mul, Nat.one_mul, Nat.add_comm] at this
      exact this)
    have := h0.append hr
    rw [List.take_append_drop] at this
    simpa [List.replicate_succ] using this
theorem read_fs {g : TypeId → Option (List Sh)} {cs : List Value} : ∀ (fs : List Field) (o : Nat) (l : List Sh), flatFs P g fs o = some l → cs.length = o + l.length →
    (∀ f l', f ∈ fs → g f.type = some l' → Read W l' ((cs.drop f.offset).take (P.cellsOf f.type))) → Read W l (cs.drop o)
  | [], o, l, h, hl, _ => by
    simp only [flatFs, Option.some.injEq] at h
    subst h
    have : cs.drop o = [] := List.drop_eq_nil_of_le (by simp at hl; omega)
    rw [this]
    exact ⟨[], trivial, rfl, rfl⟩
  | f :: fs, o, l, h, hl, hr => by
    simp only [flatFs] at h
    split at h
    · rename_i ho
      simp only [Option.bind_eq_some_iff] at h
      obtain ⟨l1, h1, h2⟩ := h
      split at h2
      · rename_i hc
        simp only [Option.map_eq_some_iff] at h2
        obtain ⟨l2, h3, rfl⟩ := h2
        have k1 := hr f l1 (by simp) h1
        rw [ho, hc] at k1
        have k2 := read_fs fs (o + l1.length) l2 h3 (by simp at hl; omega) (fun f' l' hf hg => hr f' l' (by simp [hf]) hg)
        have := k1.append k2
        rw [← List.drop_drop, List.take_append_drop] at this
        exact this
      · cases h2
    · cases h
theorem rd_flat : ∀ (f : Nat) (t : TypeId) (l : List Sh) (fuel : Nat) (cs : List Value) (x : DataW H × List MemPlace), flat P f t = some l → DataW.trod enc P W base spare held fuel t cs = some x → Read W l cs
  | 0, _, _, _, _, _, h, _ => by cases h
  | f + 1, t, l, fuel, cs, x, h, hd => by
    unfold flat at h
    split at h
    · rename_i k ht
      simp only [Option.some.injEq] at h
      subst h
      obtain ⟨n, rfl, _, hw⟩ := DataW.trod_int ht hd
      have hn : absC0 (.int k n) = absC0 (.int k n) := rfl
      cases k
      case u8 =>
        simp [Lit.wf, IntKind.min, IntKind.max, IntKind.signed, IntKind.bits] at hw
        exact ⟨[.u8 (BitVec.ofNat 8 n.toNat)], ⟨⟨_, rfl⟩, trivial⟩, rfl, _, [], rfl, by simp only [VRel, BitVec.toNat_ofNat]; congr 1; omega, rfl⟩
      case u16 =>
        simp [Lit.wf, IntKind.min, IntKind.max, IntKind.signed, IntKind.bits] at hw
        exact ⟨[.u16 (BitVec.ofNat 16 n.toNat)], ⟨⟨_, rfl⟩, trivial⟩, rfl, _, [], rfl, by simp only [VRel, BitVec.toNat_ofNat]; congr 1; omega, rfl⟩
      case u32 =>
        simp [Lit.wf, IntKind.min, IntKind.max, IntKind.signed, IntKind.bits] at hw
        exact ⟨[.u32 (BitVec.ofNat 32 n.toNat)], ⟨⟨_, rfl⟩, trivial⟩, rfl, _, [], rfl, by simp only [VRel, BitVec.toNat_ofNat]; congr 1; omega, rfl⟩
      case u64 =>
        simp [Lit.wf, IntKind.min, IntKind.max, IntKind.signed, IntKind.bits] at hw
        exact ⟨[.u64 (BitVec.ofNat 64 n.toNat)], ⟨⟨_, rfl⟩, trivial⟩, rfl, _, [], rfl, by simp only [VRel, BitVec.toNat_ofNat]; congr 1; omega, rfl⟩
      all_goals exact ⟨[.int _ n], ⟨⟨_, rfl, hw⟩, trivial⟩, rfl, _, [], rfl, rfl, rfl⟩
    · rename_i ht
      simp only [Option.some.injEq] at h
      subst h
      obtain ⟨b, rfl, _⟩ := DataW.trod_bool ht hd
      exact ⟨[.bool b], ⟨⟨_, rfl⟩, trivial⟩, rfl, _, [], rfl, rfl, rfl⟩
    · rename_i ht
      simp only [Option.some.injEq] at h
      subst h
      obtain ⟨s, rfl, _, hs⟩ := DataW.trod_string ht hd
      have hb := bytesStr_strBytes s
      refine ⟨[.str (strBytes s)], ⟨⟨_, rfl, ?_⟩, trivial⟩, rfl, _, [], rfl, by simp only [VRel, hb], rfl⟩
      rw [← bytesStr_size, hb]
      exact hs
    · rename_i e ht
      split at h
      · rename_i he
        split at h
        · rename_i hc
          simp only [Option.some.injEq] at h
          subst h
          obtain ⟨v, l, c, rfl, h1, h2, h3⟩ := rd_bytes ht he hc hd
          exact ⟨[.rb true l (.is c)], ⟨⟨l, c, rfl, h1, h2⟩, trivial⟩, rfl, _, [], rfl, h3, rfl⟩
        · cases h
      · cases h
    · rename_i n e ht
      simp only [Option.bind_eq_some_iff] at h
      obtain ⟨l1, h1, h2⟩ := h
      split at h2
      · rename_i hc
        simp only [Option.some.injEq] at h2
        subst h2
        obtain ⟨xs, m, _, _, hl, hn, hel⟩ := DataW.trod_array ht hd
        refine read_arr (m := l1.length) n cs (by rw [hl, hc.2]) fun i hi => ?_
        have := hel i hi
        rw [List.getElem?_eq_getElem (by omega), hc.1] at this
        exact rd_flat f e l1 _ _ _ h1 this
      · cases h2
    · rename_i fs ht
      simp only [Option.bind_eq_some_iff] at h
      obtain ⟨l1, h1, h2⟩ := h
      split at h2
      · rename_i hc
        simp only [Option.some.injEq] at h2
        subst h2
        obtain ⟨xs, m, _, _, hl, hn, hel⟩ := DataW.trod_struct ht hd
        have := read_fs (W := W) (cs := cs) fs.toList 0 l1 h1 (by rw [hl, hc]; omega) fun f0 l' hf hg => by
          obtain ⟨i, hi⟩ := List.getElem?_of_mem hf
          have hlt := (List.getElem?_eq_some_iff.1 hi).1
          have := hel i f0 (by simpa using hi)
          rw [List.getElem?_eq_getElem (by simp at hlt; omega)] at this
          exact rd_flat f f0.type l' _ _ _ hg this
        simpa using this
      · cases h2
    · cases h
theorem agg_of_cells {v : Value} {avs : List AV} (h : VRels (κW W) avs v.cells.toList) (hl : 2 ≤ avs.length) : VRel (κW W) (.agg avs) v := by
  have hn := h.length
  cases v
  case agg cs => exact ⟨cs, rfl, h⟩
  all_goals (exfalso; simp [Value.cells] at hn; omega)
/-- Bytes of an array. -/
theorem sh_u8 : ∀ {n : Nat} {avs : List AV}, shAll (List.replicate n (.i .u8)) avs → ∃ l : List (BitVec 8), l.length = n ∧ avs = l.map .u8
  | 0, [], _ => ⟨[], rfl, rfl⟩
  | 0, _ :: _, h => h.elim
  | n + 1, [], h => h.elim
  | n + 1, a :: az, h => by
    obtain ⟨⟨x, rfl⟩, h2⟩ := h
    obtain ⟨l, h3, rfl⟩ := sh_u8 h2
    exact ⟨x :: l, by simp [h3], rfl⟩
end
theorem sh_cons {k : Sh} {ks : List Sh} {avs : List AV} (h : shAll (k :: ks) avs) : ∃ a az, avs = a :: az ∧ k.ok a ∧ shAll ks az := by
  cases avs with
  | nil => exact h.elim
  | cons a az => exact ⟨a, az, rfl, h.1, h.2⟩
theorem sh_nil {avs : List AV} (h : shAll [] avs) : avs = [] := by
  cases avs with
  | nil => rfl
  | cons a az => exact h.elim
theorem sh_i64 {a : AV} (h : (Sh.i .i64).ok a) : ∃ n, a = .int .i64 n := by
  obtain ⟨n, h, _⟩ := h
  exact ⟨n, h⟩
end Go.Sym

namespace Go.Spec
def endG (u : Int) : Bool := decide (0 ≤ u) && decide (u ≤ 64) && decide (u.tmod 8 = 0)
def rightG (e n u : Int) : Bool := decide (0 ≤ e) && endG u && decide (0 ≤ n) && decide (n ≤ u)
def leftG (e n u : Int) : Int := if rightG e n u = true then 64 - n else 0
def wantsG (e n u m : Int) : Int := if rightG e n u = true then max u ((n + min (max m 0) (64 - n) + 7) / 8 * 8) else 0
def resG (e n u m : Int) : Bool := rightG e n u && endG m && decide (u ≤ m)
def useE (e n u : Int) : Int := if rightG e n u = true then (if n = 64 then 8 else if n = u then 7 else 0) else 1
def useG (e n u : Int) : Bool := decide (useE e n u = 0)
def turnG (e n u : Int) : Int := if rightG e n u = true then max (IntKind.i64.wrap (e + 1)) 0 else 0
end Go.Spec
namespace Go.Sym
open Go.Proofs Go.Spec
set_option linter.unusedVariables false
def gl0 : Gl := fun _ => []
def I (n : Int) : AV := .int .i64 n
def sp1 (g : Int → Int → Int → TL) : Spec := ⟨[.kp], fun _ _ => [], fun _ _ => [], fun xs bs => match xs, bs with | [.agg [.int .i64 e, .int .i64 n, .int .i64 u]], [] => g e n u | _, _ => .no⟩
def sp2 (g : Int → Int → Int → Int → TL) : Spec := ⟨[.kp, .kp], fun _ _ => [], fun _ _ => [], fun xs bs => match xs, bs with | [.agg [.int .i64 e, .int .i64 n, .int .i64 u], .int .i64 m], [] => g e n u m | _, _ => .no⟩
def sp0 (g : Int → TL) : Spec := ⟨[.kp], fun _ _ => [], fun _ _ => [], fun xs bs => match xs, bs with | [.int .i64 m], [] => g m | _, _ => .no⟩
def ret (v : AV) : RL := ⟨[], v, [], []⟩
def rE (m : Int) : RL := ret (.bool (endG m))
def rR (e n u : Int) : RL := ret (.bool (rightG e n u))
def rN (m : Int) : RL := ret (.agg [.int .i64 (max m 0), .int .i64 0, .int .i64 0])
def rL (e n u : Int) : RL := ret (.int .i64 (leftG e n u))
def rW (e n u m : Int) : RL := ret (.int .i64 (wantsG e n u m))
def rV (e n u m : Int) : RL := ret (.tup [.agg [.int .i64 (if resG e n u m = true then e else 0), .int .i64 (if resG e n u m = true then n else 0), .int .i64 (if resG e n u m = true then m else 0)], .int .i64 (if resG e n u m = true then 0 else 1)])
def rU (e n u : Int) : RL := ret (.tup [.agg [.int .i64 (if useG e n u = true then e else 0), .int .i64 (if useG e n u = true then n + 1 else 0), .int .i64 (if useG e n u = true then u else 0)], .int .i64 (if useG e n u = true then n else 0), .int .i64 (useE e n u)])
def rT (e n u : Int) : RL := ret (.agg [.int .i64 (turnG e n u), .int .i64 0, .int .i64 0])
def C0 : Ctx := .none []
def C1 : Ctx := C0.add 17 (mkF (sp0 fun m => .ok (rE m)))
def C2 : Ctx := C1.add 11 (mkF (sp1 fun e n u => .ok (rR e n u)))
def C3 : Ctx := C2.add 12 (mkF (sp1 fun e n u => .ok (rR e n u)))
def C4 : Ctx := C3.add 15 (mkF (sp0 fun m => .ok (rN m)))
def C5 : Ctx := C4.add 16 (mkF (sp1 fun e n u => .ok (rL e n u)))
def C6 : Ctx := C5.add 13 (mkF (sp2 fun e n u m => .ok (rW e n u m)))
def C7 : Ctx := C6.add 14 (mkF (sp2 fun e n u m => .ok (rW e n u m)))
def C8 : Ctx := C7.add 7 (mkF (sp2 fun e n u m => .ok (rV e n u m)))
def C9 : Ctx := C8.add 8 (mkF (sp1 fun e n u => .ok (rU e n u)))
def C10 : Ctx := C9.add 9 (mkF (sp1 fun e n u => .ok (rT e n u)))
noncomputable def C11 : Ctx := C10.exe Try.prog gl0 [] 3000 Try.f6.params.size 6 Try.f6
noncomputable def C12 : Ctx := C11.exe Try.prog gl0 [] 3000 Try.f10.params.size 10 Try.f10
def ag (e n u : Int) : AV := .agg [.int .i64 e, .int .i64 n, .int .i64 u]
def lsW (e n u m : Int) : LS := ⟨Nat, fun k => [(1, .int .i64 m), (2, .ptr 100 0 0 0), (5, .int .i64 (u + 8 * k))], fun k => [(100, ⟨.cells [.int .i64 e, .int .i64 n, .int .i64 u], true, 0⟩)], 200, fun k => 9 - k, fun k => k ≤ 8 ∧ rightG e n u = true ∧ u + 8 * k ≤ wantsG e n u m, fun _ => []⟩
def untilG (i : Nat) : Int := ((i + 7) / 8 * 8 : Nat)
def lsE (E N : Int) : LS := ⟨Nat, fun i => [(5, .ptr 100 0 0 0), (6, .int .i64 N), (7, .int .i64 i)], fun i => [(100, ⟨.cells [.int .i64 E, .int .i64 i, .int .i64 (untilG i)], true, 0⟩)], 500, fun i => 70 - i, fun i => i ≤ 64 ∧ (i : Int) ≤ N, fun _ => []⟩
end Go.Sym

namespace Go.Sym
open Go.Proofs Go.Spec
set_option linter.unusedVariables false
set_option maxRecDepth 100000 in
theorem vc17 (m : Int) : bodyP Try.prog C0 gl0 [] [] 300 Try.f17 0 [.int .i64 m] [] (retQ Try.prog Try.f17 0 (rE m)) = (
Bool.rec (endG m = Bool.false ∧ True) (Bool.rec (endG m = Bool.false ∧ True) (endG m = Decidable.decide (m.tmod (8 : Int) = (0 : Int)) ∧ True) (Decidable.decide (m ≤ (64 : Int)))) (Decidable.decide ((0 : Int) ≤ m))) := by kernel_rfl
set_option maxRecDepth 100000 in
theorem vc11 (e n u : Int) : bodyP Try.prog C1 gl0 [] [] 300 Try.f11 0 [ag e n u] [] (retQ Try.prog Try.f11 0 (rR e n u)) = (
Bool.rec (rightG e n u = Bool.false ∧ True) (Bool.rec (rightG e n u = Bool.false ∧ True) (Bool.rec (rightG e n u = Bool.false ∧ True) (rightG e n u = Decidable.decide (n ≤ u) ∧ True) (Decidable.decide ((0 : Int) ≤ n))) (endG u)) (Decidable.decide ((0 : Int) ≤ e))) := by kernel_rfl
set_option maxRecDepth 100000 in
theorem vc12 (e n u : Int) : bodyP Try.prog C2 gl0 [] [] 300 Try.f12 0 [ag e n u] [] (retQ Try.prog Try.f12 0 (rR e n u)) = (
Bool.rec (rightG e n u = Bool.false ∧ True) (Bool.rec (rightG e n u = Bool.false ∧ True) (Bool.rec (rightG e n u = Bool.false ∧ True) (Bool.rec (rightG e n u = Bool.false ∧ True) (Bool.rec (rightG e n u = Bool.false ∧ True) (rightG e n u = Decidable.decide (n ≤ u) ∧ True) (Decidable.decide ((0 : Int) ≤ n))) (Decidable.decide (u.tmod (8 : Int) = (0 : Int)))) (Decidable.decide (u ≤ (64 : Int)))) (Decidable.decide ((0 : Int) ≤ u))) (Decidable.decide ((0 : Int) ≤ e))) := by kernel_rfl
set_option maxRecDepth 100000 in
theorem vc15 (m : Int) : bodyP Try.prog C3 gl0 [] [] 300 Try.f15 0 [.int .i64 m] [] (retQ Try.prog Try.f15 0 (rN m)) = (
Max.max m (0 : Int) = Max.max m (0 : Int) ∧ (0 : Int) = (0 : Int) ∧ (0 : Int) = (0 : Int) ∧ True) := by kernel_rfl
set_option maxRecDepth 100000 in
theorem vc16 (e n u : Int) : bodyP Try.prog C4 gl0 [] [] 300 Try.f16 0 [ag e n u] [] (retQ Try.prog Try.f16 0 (rL e n u)) = (
Bool.rec (leftG e n u = IntKind.i64.wrap ((64 : Int) - n) ∧ True) (leftG e n u = (0 : Int) ∧ True) !rightG e n u) := by kernel_rfl
set_option maxRecDepth 100000 in
theorem vc13 (e n u m : Int) : bodyP Try.prog C5 gl0 [] [] 300 Try.f13 0 [ag e n u, .int .i64 m] [] (retQ Try.prog Try.f13 0 (rW e n u m)) = (
Bool.rec (wantsG e n u m = Max.max u (IntKind.i64.wrap (IntKind.i64.wrap ((IntKind.i64.wrap (IntKind.i64.wrap (IntKind.i64.wrap (n + Min.min (Max.max m (0 : Int)) (leftG e n u)) + (8 : Int)) - (1 : Int))).tdiv (8 : Int)) * (8 : Int))) ∧ True) (wantsG e n u m = (0 : Int) ∧ True) !rightG e n u) := by kernel_rfl
set_option maxRecDepth 100000 in
theorem vc14 (e n u m : Int) : bodyP Try.prog C6 gl0 [] [(5, lsW e n u m)] 300 Try.f14 0 [ag e n u, .int .i64 m] [] (retQ Try.prog Try.f14 0 (rW e n u m)) = (
Bool.rec ((∃ (x : Nat), (x ≤ (8 : Nat) ∧ rightG e n u = Bool.true ∧ u + (8 : Int) * (↑x : Int) ≤ wantsG e n u m) ∧ m = m ∧ (0 : Nat) = (0 : Nat) ∧ u + (8 : Int) * (↑x : Int) = u ∧ e = e ∧ n = n ∧ u = u ∧ True) ∧ ∀ (x : Nat), x ≤ (8 : Nat) ∧ rightG e n u = Bool.true ∧ u + (8 : Int) * (↑x : Int) ≤ wantsG e n u m → Bool.rec (wantsG e n u m = u + (8 : Int) * (↑x : Int) ∧ True) (Bool.rec (wantsG e n u m = u + (8 : Int) * (↑x : Int) ∧ True) (∃ (y : Nat), (9 : Nat) - y < (9 : Nat) - x ∧ (y ≤ (8 : Nat) ∧ rightG e n u = Bool.true ∧ u + (8 : Int) * (↑y : Int) ≤ wantsG e n u m) ∧ m = m ∧ (0 : Nat) = (0 : Nat) ∧ u + (8 : Int) * (↑y : Int) = IntKind.i64.wrap (u + (8 : Int) * (↑x : Int) + (8 : Int)) ∧ e = e ∧ n = n ∧ u = u ∧ True) (Decidable.decide (u + (8 : Int) * (↑x : Int) < IntKind.i64.wrap (n + Min.min (Max.max m (0 : Int)) (64 : Int))))) (Decidable.decide (u + (8 : Int) * (↑x : Int) < (64 : Int)))) (wantsG e n u m = (0 : Int) ∧ True) !rightG e n u) := by kernel_rfl
set_option maxRecDepth 100000 in
theorem vc7 (e n u m : Int) : bodyP Try.prog C7 gl0 [] [] 300 Try.f7 0 [ag e n u, .int .i64 m] [] (retQ Try.prog Try.f7 0 (rV e n u m)) = (
Bool.rec ((if resG e n u m = Bool.true then e else (0 : Int)) = (0 : Int) ∧ (if resG e n u m = Bool.true then n else (0 : Int)) = (0 : Int) ∧ (if resG e n u m = Bool.true then m else (0 : Int)) = (0 : Int) ∧ (if resG e n u m = Bool.true then (0 : Int) else (1 : Int)) = (1 : Int) ∧ True) (Bool.rec ((if resG e n u m = Bool.true then e else (0 : Int)) = (0 : Int) ∧ (if resG e n u m = Bool.true then n else (0 : Int)) = (0 : Int) ∧ (if resG e n u m = Bool.true then m else (0 : Int)) = (0 : Int) ∧ (if resG e n u m = Bool.true then (0 : Int) else (1 : Int)) = (1 : Int) ∧ True) (Bool.rec ((if resG e n u m = Bool.true then e else (0 : Int)) = e ∧ (if resG e n u m = Bool.true then n else (0 : Int)) = n ∧ (if resG e n u m = Bool.true then m else (0 : Int)) = m ∧ (if resG e n u m = Bool.true then (0 : Int) else (1 : Int)) = (0 : Int) ∧ True) ((if resG e n u m = Bool.true then e else (0 : Int)) = (0 : Int) ∧ (if resG e n u m = Bool.true then n else (0 : Int)) = (0 : Int) ∧ (if resG e n u m = Bool.true then m else (0 : Int)) = (0 : Int) ∧ (if resG e n u m = Bool.true then (0 : Int) else (1 : Int)) = (1 : Int) ∧ True) (Decidable.decide (m < u))) !!endG m) !!rightG e n u) := by kernel_rfl
set_option maxRecDepth 100000 in
theorem vc8 (e n u : Int) : bodyP Try.prog C8 gl0 [] [] 300 Try.f8 0 [ag e n u] [] (retQ Try.prog Try.f8 0 (rU e n u)) = (
Bool.rec (Bool.rec (Bool.rec ((if useG e n u = Bool.true then e else (0 : Int)) = e ∧ (if useG e n u = Bool.true then n + (1 : Int) else (0 : Int)) = IntKind.i64.wrap (n + (1 : Int)) ∧ (if useG e n u = Bool.true then u else (0 : Int)) = u ∧ (if useG e n u = Bool.true then n else (0 : Int)) = n ∧ useE e n u = (0 : Int) ∧ True) ((if useG e n u = Bool.true then e else (0 : Int)) = (0 : Int) ∧ (if useG e n u = Bool.true then n + (1 : Int) else (0 : Int)) = (0 : Int) ∧ (if useG e n u = Bool.true then u else (0 : Int)) = (0 : Int) ∧ (if useG e n u = Bool.true then n else (0 : Int)) = (0 : Int) ∧ useE e n u = (7 : Int) ∧ True) (Decidable.decide (n = u))) ((if useG e n u = Bool.true then e else (0 : Int)) = (0 : Int) ∧ (if useG e n u = Bool.true then n + (1 : Int) else (0 : Int)) = (0 : Int) ∧ (if useG e n u = Bool.true then u else (0 : Int)) = (0 : Int) ∧ (if useG e n u = Bool.true then n else (0 : Int)) = (0 : Int) ∧ useE e n u = (8 : Int) ∧ True) (Decidable.decide (n = (64 : Int)))) ((if useG e n u = Bool.true then e else (0 : Int)) = (0 : Int) ∧ (if useG e n u = Bool.true then n + (1 : Int) else (0 : Int)) = (0 : Int) ∧ (if useG e n u = Bool.true then u else (0 : Int)) = (0 : Int) ∧ (if useG e n u = Bool.true then n else (0 : Int)) = (0 : Int) ∧ useE e n u = (1 : Int) ∧ True) !rightG e n u) := by kernel_rfl
set_option maxRecDepth 100000 in
theorem vc9 (e n u : Int) : bodyP Try.prog C9 gl0 [] [] 300 Try.f9 0 [ag e n u] [] (retQ Try.prog Try.f9 0 (rT e n u)) = (
Bool.rec (turnG e n u = Max.max (IntKind.i64.wrap (e + (1 : Int))) (0 : Int) ∧ (0 : Int) = (0 : Int) ∧ (0 : Int) = (0 : Int) ∧ True) (turnG e n u = Int.ofNat (0 : Nat) ∧ (0 : Int) = (0 : Int) ∧ (0 : Int) = (0 : Int) ∧ True) !rightG e n u) := by kernel_rfl
set_option maxRecDepth 100000 in
theorem vc3 (e n u m : Int) : bodyP Try.prog C12 gl0 [] [] 300 Try.f3 0 [ag e n u, .int .i64 m] [] (retQ Try.prog Try.f3 0 (ret (.bool true))) = (
Bool.rec (Bool.true = Bool.false ∧ True)
 (Bool.rec
 (Bool.rec
 (Bool.rec (Bool.true = Bool.false ∧ True)
 (Bool.rec (Bool.true = Bool.false ∧ True)
 (Bool.rec (Bool.rec (Bool.rec (Bool.rec (Bool.rec (Bool.true = Bool.false ∧ True) (Bool.rec (Bool.true = Bool.false ∧ True) (Bool.true = (Decidable.decide ((if useG e n u = Bool.true then e else (0 : Int)) = e) && (Decidable.decide ((if useG e n u = Bool.true then n + (1 : Int) else (0 : Int)) = IntKind.i64.wrap (n + (1 : Int))) && (Decidable.decide ((if useG e n u = Bool.true then u else (0 : Int)) = u) && Bool.true))) ∧ True) (Decidable.decide ((if useG e n u = Bool.true then n else (0 : Int)) = n))) (Decidable.decide (useE e n u = (0 : Int)))) (Bool.true = Decidable.decide (useE e n u = (7 : Int)) ∧ True) (Decidable.decide (n = u))) (Bool.true = Decidable.decide (useE e n u = (8 : Int)) ∧ True) (Decidable.decide (n = (64 : Int)))) (Bool.true = Bool.false ∧ True) !Decidable.decide ((if resG e n u m = Bool.true then (0 : Int) else (1 : Int)) = (1 : Int)))
 (Bool.rec (Bool.rec (Bool.rec (Bool.rec (Bool.rec (Bool.true = Bool.false ∧ True) (Bool.rec (Bool.true = Bool.false ∧ True) (Bool.true = (Decidable.decide ((if useG e n u = Bool.true then e else (0 : Int)) = e) && (Decidable.decide ((if useG e n u = Bool.true then n + (1 : Int) else (0 : Int)) = IntKind.i64.wrap (n + (1 : Int))) && (Decidable.decide ((if useG e n u = Bool.true then u else (0 : Int)) = u) && Bool.true))) ∧ True) (Decidable.decide ((if useG e n u = Bool.true then n else (0 : Int)) = n))) (Decidable.decide (useE e n u = (0 : Int)))) (Bool.true = Decidable.decide (useE e n u = (7 : Int)) ∧ True) (Decidable.decide (n = u))) (Bool.true = Decidable.decide (useE e n u = (8 : Int)) ∧ True) (Decidable.decide (n = (64 : Int)))) (Bool.true = Bool.false ∧ True) !Decidable.decide ((if resG e n u m = Bool.true then (0 : Int) else (1 : Int)) = (1 : Int))) (Bool.rec (Bool.rec (Bool.true = Bool.false ∧ True) (Bool.rec (Bool.rec (Bool.rec (Bool.rec (Bool.true = Bool.false ∧ True) (Bool.rec (Bool.true = Bool.false ∧ True) (Bool.true = (Decidable.decide ((if useG e n u = Bool.true then e else (0 : Int)) = e) && (Decidable.decide ((if useG e n u = Bool.true then n + (1 : Int) else (0 : Int)) = IntKind.i64.wrap (n + (1 : Int))) && (Decidable.decide ((if useG e n u = Bool.true then u else (0 : Int)) = u) && Bool.true))) ∧ True) (Decidable.decide ((if useG e n u = Bool.true then n else (0 : Int)) = n))) (Decidable.decide (useE e n u = (0 : Int)))) (Bool.true = Decidable.decide (useE e n u = (7 : Int)) ∧ True) (Decidable.decide (n = u))) (Bool.true = Decidable.decide (useE e n u = (8 : Int)) ∧ True) (Decidable.decide (n = (64 : Int)))) (Bool.true = Bool.false ∧ True) !(Decidable.decide ((if resG e n u m = Bool.true then e else (0 : Int)) = e) && (Decidable.decide ((if resG e n u m = Bool.true then n else (0 : Int)) = n) && (Decidable.decide ((if resG e n u m = Bool.true then m else (0 : Int)) = m) && Bool.true)))) !!Decidable.decide ((if resG e n u m = Bool.true then (0 : Int) else (1 : Int)) = (0 : Int))) (Bool.rec (Bool.rec (Bool.rec (Bool.rec (Bool.true = Bool.false ∧ True) (Bool.rec (Bool.true = Bool.false ∧ True) (Bool.true = (Decidable.decide ((if useG e n u = Bool.true then e else (0 : Int)) = e) && (Decidable.decide ((if useG e n u = Bool.true then n + (1 : Int) else (0 : Int)) = IntKind.i64.wrap (n + (1 : Int))) && (Decidable.decide ((if useG e n u = Bool.true then u else (0 : Int)) = u) && Bool.true))) ∧ True) (Decidable.decide ((if useG e n u = Bool.true then n else (0 : Int)) = n))) (Decidable.decide (useE e n u = (0 : Int)))) (Bool.true = Decidable.decide (useE e n u = (7 : Int)) ∧ True) (Decidable.decide (n = u))) (Bool.true = Decidable.decide (useE e n u = (8 : Int)) ∧ True) (Decidable.decide (n = (64 : Int)))) (Bool.true = Bool.false ∧ True) !Decidable.decide ((if resG e n u m = Bool.true then (0 : Int) else (1 : Int)) = (1 : Int))) (Decidable.decide ((64 : Int) < m))) !Decidable.decide (m < u)) !!Decidable.decide (m.tmod (8 : Int) = (0 : Int)))
 !!Decidable.decide (leftG e n u = IntKind.i64.wrap ((64 : Int) - n)))
 !!(Decidable.decide (turnG e n u = Max.max (IntKind.i64.wrap (e + (1 : Int))) (0 : Int)) && Bool.true))
 (Bool.rec (Bool.true = Bool.false ∧ True) (Bool.rec (Bool.true = Bool.false ∧ True) (Bool.rec (Bool.true = Bool.false ∧ True) (Bool.rec (Bool.true = Bool.false ∧ True) (Bool.rec (Bool.true = Bool.false ∧ True) (Bool.rec (Bool.true = Bool.false ∧ True) (Bool.true = Decidable.decide (leftG e n u = (0 : Int)) ∧ True) (Decidable.decide (turnG e n u = Int.ofNat (0 : Nat)) && Bool.true)) (Decidable.decide ((if useG e n u = Bool.true then n else (0 : Int)) = (0 : Int)))) (Decidable.decide ((if useG e n u = Bool.true then e else (0 : Int)) = (0 : Int)) && (Decidable.decide ((if useG e n u = Bool.true then n + (1 : Int) else (0 : Int)) = (0 : Int)) && (Decidable.decide ((if useG e n u = Bool.true then u else (0 : Int)) = (0 : Int)) && Bool.true)))) (Decidable.decide ((if resG e n u m = Bool.true then e else (0 : Int)) = (0 : Int)) && (Decidable.decide ((if resG e n u m = Bool.true then n else (0 : Int)) = (0 : Int)) && (Decidable.decide ((if resG e n u m = Bool.true then m else (0 : Int)) = (0 : Int)) && Bool.true)))) (Decidable.decide (useE e n u = (1 : Int)))) (Decidable.decide ((if resG e n u m = Bool.true then (0 : Int) else (1 : Int)) = (1 : Int)))) !rightG e n u)
 (Bool.true = Bool.false ∧ True) !Decidable.decide (wantsG e n u m = wantsG e n u m))
 !!Decidable.decide (rightG e n u = rightG e n u)) := by kernel_rfl
end Go.Sym

namespace Go.Spec
theorem rightG_iff {e n u : Int} : rightG e n u = true ↔ 0 ≤ e ∧ 0 ≤ u ∧ u ≤ 64 ∧ u % 8 = 0 ∧ 0 ≤ n ∧ n ≤ u := by
  unfold rightG endG
  simp only [Bool.and_eq_true, decide_eq_true_eq]
  constructor
  · rintro ⟨⟨⟨h1, ⟨h2, h3⟩, h4⟩, h5⟩, h6⟩
    rw [Int.tmod_eq_emod_of_nonneg h2] at h4
    exact ⟨h1, h2, h3, h4, h5, h6⟩
  · rintro ⟨h1, h2, h3, h4, h5, h6⟩
    exact ⟨⟨⟨h1, ⟨h2, h3⟩, by rw [Int.tmod_eq_emod_of_nonneg h2]; exact h4⟩, h5⟩, h6⟩
end Go.Spec
namespace Go.Sym
open Go.Proofs Go.Spec
set_option linter.unusedVariables false
theorem b17 (m : Int) : Must (bodyP Try.prog C0 gl0 [] [] 300 Try.f17 0 [.int .i64 m] [] (retQ Try.prog Try.f17 0 (rE m))) := by
  constructor
  rw [vc17]
  unfold endG
  cases decide (0 ≤ m) <;> cases decide (m ≤ 64) <;> simp
theorem b11 (e n u : Int) : Must (bodyP Try.prog C1 gl0 [] [] 300 Try.f11 0 [ag e n u] [] (retQ Try.prog Try.f11 0 (rR e n u))) := by
  constructor
  rw [vc11]
  unfold rightG
  cases decide (0 ≤ e) <;> cases endG u <;> cases decide (0 ≤ n) <;> simp
theorem b12 (e n u : Int) : Must (bodyP Try.prog C2 gl0 [] [] 300 Try.f12 0 [ag e n u] [] (retQ Try.prog Try.f12 0 (rR e n u))) := by
  constructor
  rw [vc12]
  unfold rightG endG
  cases decide (0 ≤ e) <;> cases decide (0 ≤ n) <;> cases decide (0 ≤ u) <;> cases decide (u ≤ 64) <;> cases decide (u.tmod 8 = 0) <;> simp
theorem b15 (m : Int) : Must (bodyP Try.prog C3 gl0 [] [] 300 Try.f15 0 [.int .i64 m] [] (retQ Try.prog Try.f15 0 (rN m))) := by
  constructor
  rw [vc15]
  simp
theorem b16 (e n u : Int) : Must (bodyP Try.prog C4 gl0 [] [] 300 Try.f16 0 [ag e n u] [] (retQ Try.prog Try.f16 0 (rL e n u))) := by
  constructor
  rw [vc16]
  unfold leftG
  cases h : rightG e n u
  · simp
  · have := rightG_iff.1 h
    have w : IntKind.i64.wrap (64 - n) = 64 - n := wrap_i64 (by omega) (by omega)
    simp [w]
theorem b13 (e n u m : Int) : Must (bodyP Try.prog C5 gl0 [] [] 300 Try.f13 0 [ag e n u, .int .i64 m] [] (retQ Try.prog Try.f13 0 (rW e n u m))) := by
  constructor
  rw [vc13]
  unfold wantsG leftG
  cases h : rightG e n u
  · simp
  · have := rightG_iff.1 h
    have w1 : IntKind.i64.wrap (n + min (max m 0) (64 - n)) = n + min (max m 0) (64 - n) := wrap_i64 (by omega) (by omega)
    have w2 : IntKind.i64.wrap (n + min (max m 0) (64 - n) + 8) = n + min (max m 0) (64 - n) + 8 := wrap_i64 (by omega) (by omega)
    have w3 : IntKind.i64.wrap (n + min (max m 0) (64 - n) + 8 - 1) = n + min (max m 0) (64 - n) + 7 := by rw [wrap_i64 (by omega) (by omega)]; omega
    have w4 : (n + min (max m 0) (64 - n) + 7).tdiv 8 = (n + min (max m 0) (64 - n) + 7) / 8 := Int.tdiv_eq_ediv_of_nonneg (by omega)
    have w5 : IntKind.i64.wrap ((n + min (max m 0) (64 - n) + 7) / 8) = (n + min (max m 0) (64 - n) + 7) / 8 := wrap_i64 (by omega) (by omega)
    have w6 : IntKind.i64.wrap ((n + min (max m 0) (64 - n) + 7) / 8 * 8) = (n + min (max m 0) (64 - n) + 7) / 8 * 8 := wrap_i64 (by omega) (by omega)
    simp only [if_true, w1, w2, w3, w4, w5, w6, Bool.not_true, and_true]
theorem b14 (e n u m : Int) : Must (bodyP Try.prog C6 gl0 [] [(5, lsW e n u m)] 300 Try.f14 0 [ag e n u, .int .i64 m] [] (retQ Try.prog Try.f14 0 (rW e n u m))) := by
  constructor
  rw [vc14]
  cases h : rightG e n u
  · simp [wantsG, h]
  · have hr := rightG_iff.1 h
    have hw : wantsG e n u m = max u ((n + min (max m 0) (64 - n) + 7) / 8 * 8) := by simp [wantsG, h]
    rw [hw]
    have w1 : IntKind.i64.wrap (n + min (max m 0) 64) = n + min (max m 0) 64 := wrap_i64 (by omega) (by omega)
    rw [w1]
    refine ⟨⟨0, by simp; omega⟩, fun x ⟨hx1, _, hx2⟩ => ?_⟩
    refine brec (fun h1 => ?_) (fun h1 => ?_)
    · replace h1 := dlt.1 h1
      refine brec (fun h2 => ?_) (fun h2 => ?_)
      · replace h2 := dlt.1 h2
        have w2 : IntKind.i64.wrap (u + 8 * (x : Int) + 8) = u + 8 * (x : Int) + 8 := wrap_i64 (by omega) (by omega)
        exact ⟨x + 1, by omega, ⟨by omega, rfl, by omega⟩, rfl, rfl, by rw [w2]; omega, rfl, rfl, rfl, trivial⟩
      · replace h2 := ndlt.1 h2
        exact ⟨by omega, trivial⟩
    · replace h1 := ndlt.1 h1
      exact ⟨by omega, trivial⟩
theorem b7 (e n u m : Int) : Must (bodyP Try.prog C7 gl0 [] [] 300 Try.f7 0 [ag e n u, .int .i64 m] [] (retQ Try.prog Try.f7 0 (rV e n u m))) := by
  constructor
  rw [vc7]
  unfold resG
  have hd : decide (u ≤ m) = !decide (m < u) := by rw [Bool.eq_iff_iff]; simp
  rw [hd]
  cases rightG e n u <;> cases endG m <;> cases decide (m < u) <;> simp
theorem b8 (e n u : Int) : Must (bodyP Try.prog C8 gl0 [] [] 300 Try.f8 0 [ag e n u] [] (retQ Try.prog Try.f8 0 (rU e n u))) := by
  constructor
  rw [vc8]
  unfold useG useE
  cases h : rightG e n u
  · simp
  · have hr := rightG_iff.1 h
    have w : IntKind.i64.wrap (n + 1) = n + 1 := wrap_i64 (by omega) (by omega)
    simp only [w]
    by_cases h1 : n = 64
    · simp [h1]
    · by_cases h2 : n = u
      · have h3 : ¬ u = 64 := by omega
        simp [h2, h3]
      · simp [h1, h2]
theorem b9 (e n u : Int) : Must (bodyP Try.prog C9 gl0 [] [] 300 Try.f9 0 [ag e n u] [] (retQ Try.prog Try.f9 0 (rT e n u))) := by
  constructor
  rw [vc9]
  unfold turnG
  cases h : rightG e n u <;> simp
end Go.Sym

namespace Go.Sym
open Go.Proofs Go.Spec
set_option linter.unusedVariables false
def rVt (e n m : Int) : RL := ret (.tup [.agg [.int .i64 e, .int .i64 n, .int .i64 m], .int .i64 0])
def rVf : RL := ret (.tup [.agg [.int .i64 0, .int .i64 0, .int .i64 0], .int .i64 1])
def rUt (e n u : Int) : RL := ret (.tup [.agg [.int .i64 e, .int .i64 (n + 1), .int .i64 u], .int .i64 n, .int .i64 0])
def rUf (e n u : Int) : RL := ret (.tup [.agg [.int .i64 0, .int .i64 0, .int .i64 0], .int .i64 0, .int .i64 (useE e n u)])
def D8 : Ctx := C7.add 7 (mkF (sp2 fun e n u m => .br (resG e n u m) (.ok (rVt e n m)) (.ok rVf)))
def D9 : Ctx := D8.add 8 (mkF (sp1 fun e n u => .br (useG e n u) (.ok (rUt e n u)) (.ok (rUf e n u))))
noncomputable def D10 : Ctx := D9.exe Try.prog gl0 [] 3000 Try.f10.params.size 10 Try.f10
end Go.Sym

namespace Go.Sym
open Go.Proofs Go.Spec
set_option linter.unusedVariables false
set_option maxRecDepth 100000 in
theorem vc5 (a b E N : Int) : bodyP Try.prog D10 gl0 [] [(5, lsE E N)] 300 Try.f5 0 [.int .i64 a, .int .i64 b] [] (retQ Try.prog Try.f5 0 (ret (.bool true))) = (
(∃ (x : Nat), (x ≤ (64 : Nat) ∧ (↑x : Int) ≤ N) ∧ (0 : Nat) = (0 : Nat) ∧ N = IntKind.i64.wrap (↑(BitVec.ofInt (64 : Nat) b % BitVec.ofNat (64 : Nat) (70 : Nat)).toNat : Int) ∧ (↑x : Int) = (0 : Int) ∧ E = Max.max (IntKind.i64.wrap (↑(BitVec.ofInt (64 : Nat) a % BitVec.ofNat (64 : Nat) (1000 : Nat)).toNat : Int)) (0 : Int) ∧ (↑x : Int) = (0 : Int) ∧ (↑((x + (7 : Nat)) / (8 : Nat) * (8 : Nat)) : Int) = (0 : Int) ∧ True) ∧ ∀ (x : Nat), x ≤ (64 : Nat) ∧ (↑x : Int) ≤ N → Bool.rec (Bool.true = Bool.true ∧ True) (Bool.rec (Bool.true = Bool.false ∧ True) (Bool.rec (Bool.rec (Bool.rec (Bool.rec (Bool.true = Bool.false ∧ True) (Bool.rec (Bool.true = Bool.false ∧ True) (Bool.rec (∃ (y : Nat), (70 : Nat) - y < (70 : Nat) - x ∧ (y ≤ (64 : Nat) ∧ (↑y : Int) ≤ N) ∧ (0 : Nat) = (0 : Nat) ∧ N = N ∧ (↑y : Int) = IntKind.i64.wrap ((↑x : Int) + (1 : Int)) ∧ E = (0 : Int) ∧ (↑y : Int) = (0 : Int) ∧ (↑((y + (7 : Nat)) / (8 : Nat) * (8 : Nat)) : Int) = (0 : Int) ∧ True) (Bool.true = Bool.false ∧ True) !Decidable.decide (Int.ofNat (64 : Nat) = IntKind.i64.wrap ((63 : Int) - (↑x : Int)))) !!Decidable.decide ((0 : Int) = (↑x : Int))) !!Decidable.decide (useE E (↑x : Int) (wantsG E (↑x : Int) (↑((x + (7 : Nat)) / (8 : Nat) * (8 : Nat)) : Int) (1 : Int)) = (0 : Int))) (Bool.rec (Bool.true = Bool.false ∧ True) (Bool.true = Decidable.decide (leftG E (↑x : Int) (wantsG E (↑x : Int) (↑((x + (7 : Nat)) / (8 : Nat) * (8 : Nat)) : Int) (1 : Int)) = (0 : Int)) ∧ True) (Decidable.decide (useE E (↑x : Int) (wantsG E (↑x : Int) (↑((x + (7 : Nat)) / (8 : Nat) * (8 : Nat)) : Int) (1 : Int)) = (8 : Int)))) (Decidable.decide ((↑x : Int) = (64 : Int)))) (Bool.rec (Bool.rec (Bool.true = Bool.false ∧ True) (Bool.rec (∃ (y : Nat), (70 : Nat) - y < (70 : Nat) - x ∧ (y ≤ (64 : Nat) ∧ (↑y : Int) ≤ N) ∧ (0 : Nat) = (0 : Nat) ∧ N = N ∧ (↑y : Int) = IntKind.i64.wrap ((↑x : Int) + (1 : Int)) ∧ E = E ∧ (↑y : Int) = (↑x : Int) + (1 : Int) ∧ (↑((y + (7 : Nat)) / (8 : Nat) * (8 : Nat)) : Int) = wantsG E (↑x : Int) (↑((x + (7 : Nat)) / (8 : Nat) * (8 : Nat)) : Int) (1 : Int) ∧ True) (Bool.true = Bool.false ∧ True) !Decidable.decide (leftG E ((↑x : Int) + (1 : Int)) (wantsG E (↑x : Int) (↑((x + (7 : Nat)) / (8 : Nat) * (8 : Nat)) : Int) (1 : Int)) = IntKind.i64.wrap ((63 : Int) - (↑x : Int)))) !!Decidable.decide ((↑x : Int) = (↑x : Int))) (Bool.true = Bool.false ∧ True) (Decidable.decide ((↑x : Int) = (64 : Int)))) (useG E (↑x : Int) (wantsG E (↑x : Int) (↑((x + (7 : Nat)) / (8 : Nat) * (8 : Nat)) : Int) (1 : Int)))) (Bool.true = Bool.false ∧ True) !Decidable.decide (wantsG E (↑x : Int) (↑((x + (7 : Nat)) / (8 : Nat) * (8 : Nat)) : Int) (1 : Int) = Min.min (IntKind.i64.wrap (IntKind.i64.wrap (IntKind.i64.wrap ((↑x : Int).tdiv (8 : Int)) + (1 : Int)) * (8 : Int))) (64 : Int))) (resG E (↑x : Int) (↑((x + (7 : Nat)) / (8 : Nat) * (8 : Nat)) : Int) (wantsG E (↑x : Int) (↑((x + (7 : Nat)) / (8 : Nat) * (8 : Nat)) : Int) (1 : Int)))) (Decidable.decide ((↑x : Int) < N))) := by kernel_rfl
end Go.Sym

namespace Go.Sym
open Go.Proofs Go.Spec
set_option linter.unusedVariables false
theorem sp1_sel {g : Int → Int → Int → TL} {xs : List AV} {bs : List ABlk} {r : RL} (h : ((sp1 g).G xs bs).sel = some r) : ∃ e n u, xs = [ag e n u] ∧ bs = [] ∧ (g e n u).sel = some r := by
  simp only [sp1] at h
  split at h
  · exact ⟨_, _, _, rfl, rfl, h⟩
  · simp [TL.sel] at h
theorem sp2_sel {g : Int → Int → Int → Int → TL} {xs : List AV} {bs : List ABlk} {r : RL} (h : ((sp2 g).G xs bs).sel = some r) : ∃ e n u m, xs = [ag e n u, .int .i64 m] ∧ bs = [] ∧ (g e n u m).sel = some r := by
  simp only [sp2] at h
  split at h
  · exact ⟨_, _, _, _, rfl, rfl, h⟩
  · simp [TL.sel] at h
theorem sp0_sel {g : Int → TL} {xs : List AV} {bs : List ABlk} {r : RL} (h : ((sp0 g).G xs bs).sel = some r) : ∃ m, xs = [.int .i64 m] ∧ bs = [] ∧ (g m).sel = some r := by
  simp only [sp0] at h
  split at h
  · exact ⟨_, rfl, rfl, h⟩
  · simp [TL.sel] at h
theorem ok0 : COKs Try.prog gl0 C0 := COKs.none
theorem ok1 : COKs Try.prog gl0 C1 := ok0.add <| by
  refine ctrE (fn := Try.f17) [] 300 (by kernel_rfl) (by kernel_rfl) ok0 (by kernel_rfl) (fun args w => by kernel_rfl) fun xs bs r hs ho => ?_
  obtain ⟨m, rfl, rfl, h⟩ := sp0_sel hs
  obtain rfl : rE m = r := by simpa [TL.sel] using h
  exact ⟨_, b17 m⟩
theorem ok2 : COKs Try.prog gl0 C2 := ok1.add <| by
  refine ctrE (fn := Try.f11) [] 300 (by kernel_rfl) (by kernel_rfl) ok1 (by kernel_rfl) (fun args w => by kernel_rfl) fun xs bs r hs ho => ?_
  obtain ⟨e, n, u, rfl, rfl, h⟩ := sp1_sel hs
  obtain rfl : rR e n u = r := by simpa [TL.sel] using h
  exact ⟨_, b11 e n u⟩
theorem ok3 : COKs Try.prog gl0 C3 := ok2.add <| by
  refine ctrE (fn := Try.f12) [] 300 (by kernel_rfl) (by kernel_rfl) ok2 (by kernel_rfl) (fun args w => by kernel_rfl) fun xs bs r hs ho => ?_
  obtain ⟨e, n, u, rfl, rfl, h⟩ := sp1_sel hs
  obtain rfl : rR e n u = r := by simpa [TL.sel] using h
  exact ⟨_, b12 e n u⟩
theorem ok4 : COKs Try.prog gl0 C4 := ok3.add <| by
  refine ctrE (fn := Try.f15) [] 300 (by kernel_rfl) (by kernel_rfl) ok3 (by kernel_rfl) (fun args w => by kernel_rfl) fun xs bs r hs ho => ?_
  obtain ⟨m, rfl, rfl, h⟩ := sp0_sel hs
  obtain rfl : rN m = r := by simpa [TL.sel] using h
  exact ⟨_, b15 m⟩
theorem ok5 : COKs Try.prog gl0 C5 := ok4.add <| by
  refine ctrE (fn := Try.f16) [] 300 (by kernel_rfl) (by kernel_rfl) ok4 (by kernel_rfl) (fun args w => by kernel_rfl) fun xs bs r hs ho => ?_
  obtain ⟨e, n, u, rfl, rfl, h⟩ := sp1_sel hs
  obtain rfl : rL e n u = r := by simpa [TL.sel] using h
  exact ⟨_, b16 e n u⟩
theorem ok6 : COKs Try.prog gl0 C6 := ok5.add <| by
  refine ctrE (fn := Try.f13) [] 300 (by kernel_rfl) (by kernel_rfl) ok5 (by kernel_rfl) (fun args w => by kernel_rfl) fun xs bs r hs ho => ?_
  obtain ⟨e, n, u, m, rfl, rfl, h⟩ := sp2_sel hs
  obtain rfl : rW e n u m = r := by simpa [TL.sel] using h
  exact ⟨_, b13 e n u m⟩
theorem ok7 : COKs Try.prog gl0 C7 := ok6.add <| by
  refine ctrE (fn := Try.f14) [] 300 (by kernel_rfl) (by kernel_rfl) ok6 (by kernel_rfl) (fun args w => by kernel_rfl) fun xs bs r hs ho => ?_
  obtain ⟨e, n, u, m, rfl, rfl, h⟩ := sp2_sel hs
  obtain rfl : rW e n u m = r := by simpa [TL.sel] using h
  exact ⟨_, b14 e n u m⟩
theorem ok8 : COKs Try.prog gl0 C8 := ok7.add <| by
  refine ctrE (fn := Try.f7) [] 300 (by kernel_rfl) (by kernel_rfl) ok7 (by kernel_rfl) (fun args w => by kernel_rfl) fun xs bs r hs ho => ?_
  obtain ⟨e, n, u, m, rfl, rfl, h⟩ := sp2_sel hs
  obtain rfl : rV e n u m = r := by simpa [TL.sel] using h
  exact ⟨_, b7 e n u m⟩
theorem ok9 : COKs Try.prog gl0 C9 := ok8.add <| by
  refine ctrE (fn := Try.f8) [] 300 (by kernel_rfl) (by kernel_rfl) ok8 (by kernel_rfl) (fun args w => by kernel_rfl) fun xs bs r hs ho => ?_
  obtain ⟨e, n, u, rfl, rfl, h⟩ := sp1_sel hs
  obtain rfl : rU e n u = r := by simpa [TL.sel] using h
  exact ⟨_, b8 e n u⟩
theorem ok10 : COKs Try.prog gl0 C10 := ok9.add <| by
  refine ctrE (fn := Try.f9) [] 300 (by kernel_rfl) (by kernel_rfl) ok9 (by kernel_rfl) (fun args w => by kernel_rfl) fun xs bs r hs ho => ?_
  obtain ⟨e, n, u, rfl, rfl, h⟩ := sp1_sel hs
  obtain rfl : rT e n u = r := by simpa [TL.sel] using h
  exact ⟨_, b9 e n u⟩
theorem ok11 : COKs Try.prog gl0 C11 := ok10.exe [] 3000 _ (by kernel_rfl) (by kernel_rfl) (by kernel_rfl) (fun args w => by kernel_rfl)
theorem ok12 : COKs Try.prog gl0 C12 := ok11.exe [] 3000 _ (by kernel_rfl) (by kernel_rfl) (by kernel_rfl) (fun args w => by kernel_rfl)
-- with branches
theorem okD8 : COKs Try.prog gl0 D8 := ok7.add <| by
  refine ctrE (fn := Try.f7) [] 300 (by kernel_rfl) (by kernel_rfl) ok7 (by kernel_rfl) (fun args w => by kernel_rfl) fun xs bs r hs ho => ?_
  obtain ⟨e, n, u, m, rfl, rfl, h⟩ := sp2_sel hs
  have b := b7 e n u m
  cases hr : resG e n u m
  · obtain rfl : rVf = r := by simpa [TL.sel, hr] using h
    have : rV e n u m = rVf := by simp [rV, rVf, hr]
    rw [this] at b
    exact ⟨_, b⟩
  · obtain rfl : rVt e n m = r := by simpa [TL.sel, hr] using h
    have : rV e n u m = rVt e n m := by simp [rV, rVt, hr]
    rw [this] at b
    exact ⟨_, b⟩
theorem okD9 : COKs Try.prog gl0 D9 := okD8.add <| by
  refine ctrE (fn := Try.f8) [] 300 (by kernel_rfl) (by kernel_rfl) ok8 (by kernel_rfl) (fun args w => by kernel_rfl) fun xs bs r hs ho => ?_
  obtain ⟨e, n, u, rfl, rfl, h⟩ := sp1_sel hs
  have b := b8 e n u
  cases hr : useG e n u
  · obtain rfl : rUf e n u = r := by simpa [TL.sel, hr] using h
    have : rU e n u = rUf e n u := by simp [rU, rUf, hr]
    rw [this] at b
    exact ⟨_, b⟩
  · obtain rfl : rUt e n u = r := by simpa [TL.sel, hr] using h
    have : rU e n u = rUt e n u := by
      have hE : useE e n u = 0 := by simpa [useG] using hr
      simp [rU, rUt, hr, hE]
    rw [this] at b
    exact ⟨_, b⟩
theorem okD10 : COKs Try.prog gl0 D10 := okD9.exe [] 3000 _ (by kernel_rfl) (by kernel_rfl) (by kernel_rfl) (fun args w => by kernel_rfl)
end Go.Sym
