/- ShaLengths: of texts of all lengths around a block's end the sum is told, and no two of them, of one byte each, are the same. Condition: the two tables of the package start as the text of the program lays them, which the card ties. -/
import Derived.Test.YtmpgpbbaloiniaaDoorSymC
import Derived.Test.YtmpgpbbaloiniaaDoorShaC
import Derived.Test.YtmpgpbbaloiniaaDoorSimA
import Derived.Test.YtmpgpbbaloiniaaDoorShaA
import Derived.OpenShut
/- What is handed in from outside: plain data of any shape. -/
namespace Go.Sym
set_option linter.unusedVariables false
set_option linter.unusedSimpArgs false
open Go.ChangeShapes Go.WideShapes
inductive Sh where
  | i (k : IntKind)
  | b
  | s
  | y
def Sh.ok : Sh → AV → Prop
  | .i .u8, a => ∃ x, a = .u8 x
  | .i .u16, a => ∃ x, a = .u16 x
  | .i .u32, a => ∃ x, a = .u32 x
  | .i .u64, a => ∃ x, a = .u64 x
  | .i k, a => ∃ n, a = .int k n ∧ (Lit.int k n).wf = true
  | .b, a => ∃ c, a = .bool c
  | .s, a => ∃ l, a = .str l ∧ l.length ≤ maxLen
  | .y, a => ∃ l c, a = .rb true l (.is c) ∧ (c = true → l = []) ∧ l.length ≤ maxLen
def shAll : List Sh → List AV → Prop
  | [], [] => True
  | k :: ss, a :: az => k.ok a ∧ shAll ss az
  | _, _ => False
theorem shAll_append : ∀ {l m : List Sh} {az bs : List AV}, shAll l az → shAll m bs → shAll (l ++ m) (az ++ bs)
  | [], _, [], _, _, k => k
  | _ :: _, _, _ :: _, _, h, k => ⟨h.1, shAll_append h.2 k⟩
  | [], _, _ :: _, _, h, _ => h.elim
  | _ :: _, _, [], _, h, _ => h.elim
theorem datas_append {p : Bool} : ∀ {az bs : List AV}, datas p az = true → datas p bs = true → datas p (az ++ bs) = true
  | [], _, _, k => k
  | a :: az, _, h, k => by
    simp only [datas, Bool.and_eq_true, List.cons_append] at h ⊢
    exact ⟨h.1, datas_append h.2 k⟩
def flatFs (P : Program) (g : TypeId → Option (List Sh)) : List Field → Nat → Option (List Sh)
  | [], _ => some []
  | f :: fs, o => if f.offset = o then (g f.type).bind fun l => if P.cellsOf f.type = l.length then (flatFs P g fs (o + l.length)).map (l ++ ·) else none else none
def flat (P : Program) : Nat → TypeId → Option (List Sh)
  | 0, _ => none
  | f + 1, t => match P.underlying t with
    | some (.int k) => some [.i k]
    | some .bool => some [.b]
    | some .string => some [.s]
    | some (.slice e) => (match P.underlying e with | some (.int .u8) => if P.cellsOf e = 1 then some [.y] else none | _ => none)
    | some (.array n e) => (flat P f e).bind fun l => if P.cellsOf e = l.length ∧ P.cellsOf t = n * l.length then some (List.replicate n l).flatten else none
    | some (.struct fs) => (flatFs P (flat P f) fs.toList 0).bind fun l => if P.cellsOf t = l.length then some l else none
    | _ => none

section
variable {H : Type} {enc : TypeId × Value → H} {P : Program} {W : World} {base : Nat} {spare : Nat → Bool} {held : Bool}
def Read (W : World) (l : List Sh) (cs : List Value) : Prop := ∃ avs, shAll l avs ∧ datas true avs = true ∧ VRels (κW W) avs cs
theorem Read.append {l m : List Sh} {cs ds : List Value} (h : Read W l cs) (k : Read W m ds) : Read W (l ++ m) (cs ++ ds) := by
  obtain ⟨a, h1, h2, h3⟩ := h
  obtain ⟨b, k1, k2, k3⟩ := k
  exact ⟨a ++ b, shAll_append h1 k1, datas_append h2 k2, VRels.append h3 k3⟩
theorem read_arr {l : List Sh} {m : Nat} : ∀ (n : Nat) (cs : List Value), cs.length = n * m → (∀ i, i < n → Read W l ((cs.drop (i * m)).take m)) → Read W (List.replicate n l).flatten cs
  | 0, cs, hl, _ => by
    have : cs = [] := List.eq_nil_of_length_eq_zero (by simpa using hl)
    subst this
    exact ⟨[], trivial, rfl, rfl⟩
  | n + 1, cs, hl, h => by
    have h0 := h 0 (by omega)
    simp only [Nat.zero_mul, List.drop_zero] at h0
    have hr := read_arr (m := m) n (cs.drop m) (by rw [List.length_drop, hl, Nat.succ_mul]; omega) (fun i hi => by
      have := h (i + 1) (by omega)
      rw [List.drop_drop]
      rw [Nat.add_mul, Nat.one_mul, Nat.add_comm] at this
      exact this)
    have := h0.append hr
    rw [List.take_append_drop] at this
    simpa [List.replicate_succ] using this
theorem read_fs {g : TypeId → Option (List Sh)} {cs : List Value} : ∀ (fs : List Field) (o : Nat) (l : List Sh), flatFs P g fs o = some l → cs.length = o + l.length →
    (∀ f l', f ∈ fs → g f.type = some l' → Read W l' ((cs.drop f.offset).take (P.cellsOf f.type))) → Read W l (cs.drop o)
  | [], o, l, h, hl, _ => by
    simp only [flatFs, Option.some.injEq] at h
    subst h
    have : cs.drop o = [] := List.drop_eq_nil_of_le (by simp at hl; omega)
    rw [this]
    exact ⟨[], trivial, rfl, rfl⟩
  | f :: fs, o, l, h, hl, hr => by
    simp only [flatFs] at h
    split at h
    · rename_i ho
      simp only [Option.bind_eq_some_iff] at h
      obtain ⟨l1, h1, h2⟩ := h
      split at h2
      · rename_i hc
        simp only [Option.map_eq_some_iff] at h2
        obtain ⟨l2, h3, rfl⟩ := h2
        have k1 := hr f l1 (by simp) h1
        rw [ho, hc] at k1
        have k2 := read_fs fs (o + l1.length) l2 h3 (by simp at hl; omega) (fun f' l' hf hg => hr f' l' (by simp [hf]) hg)
        have := k1.append k2
        rw [← List.drop_drop, List.take_append_drop] at this
        exact this
      · cases h2
    · cases h
theorem rd_flat : ∀ (f : Nat) (t : TypeId) (l : List Sh) (fuel : Nat) (cs : List Value) (x : DataW H × List MemPlace), flat P f t = some l → DataW.trod enc P W base spare held fuel t cs = some x → Read W l cs
  | 0, _, _, _, _, _, h, _ => by cases h
  | f + 1, t, l, fuel, cs, x, h, hd => by
    unfold flat at h
    split at h
    · rename_i k ht
      simp only [Option.some.injEq] at h
      subst h
      obtain ⟨n, rfl, _, hw⟩ := DataW.trod_int ht hd
      have hn : absC0 (.int k n) = absC0 (.int k n) := rfl
      cases k
      case u8 =>
        simp [Lit.wf, IntKind.min, IntKind.max, IntKind.signed, IntKind.bits] at hw
        exact ⟨[.u8 (BitVec.ofNat 8 n.toNat)], ⟨⟨_, rfl⟩, trivial⟩, rfl, _, [], rfl, by simp only [VRel, BitVec.toNat_ofNat]; congr 1; omega, rfl⟩
      case u16 =>
        simp [Lit.wf, IntKind.min, IntKind.max, IntKind.signed, IntKind.bits] at hw
        exact ⟨[.u16 (BitVec.ofNat 16 n.toNat)], ⟨⟨_, rfl⟩, trivial⟩, rfl, _, [], rfl, by simp only [VRel, BitVec.toNat_ofNat]; congr 1; omega, rfl⟩
      case u32 =>
        simp [Lit.wf, IntKind.min, IntKind.max, IntKind.signed, IntKind.bits] at hw
        exact ⟨[.u32 (BitVec.ofNat 32 n.toNat)], ⟨⟨_, rfl⟩, trivial⟩, rfl, _, [], rfl, by simp only [VRel, BitVec.toNat_ofNat]; congr 1; omega, rfl⟩
      case u64 =>
        simp [Lit.wf, IntKind.min, IntKind.max, IntKind.signed, IntKind.bits] at hw
        exact ⟨[.u64 (BitVec.ofNat 64 n.toNat)], ⟨⟨_, rfl⟩, trivial⟩, rfl, _, [], rfl, by simp only [VRel, BitVec.toNat_ofNat]; congr 1; omega, rfl⟩
      all_goals exact ⟨[.int _ n], ⟨⟨_, rfl, hw⟩, trivial⟩, rfl, _, [], rfl, rfl, rfl⟩
    · rename_i ht
      simp only [Option.some.injEq] at h
      subst h
      obtain ⟨b, rfl, _⟩ := DataW.trod_bool ht hd
      exact ⟨[.bool b], ⟨⟨_, rfl⟩, trivial⟩, rfl, _, [], rfl, rfl, rfl⟩
    · rename_i ht
      simp only [Option.some.injEq] at h
      subst h
      obtain ⟨s, rfl, _, hs⟩ := DataW.trod_string ht hd
      have hb := bytesStr_strBytes s
      refine ⟨[.str (strBytes s)], ⟨⟨_, rfl, ?_⟩, trivial⟩, rfl, _, [], rfl, by simp only [VRel, hb], rfl⟩
      rw [← bytesStr_size, hb]
      exact hs
    · rename_i e ht
      split at h
      · rename_i he
        split at h
        · rename_i hc
          simp only [Option.some.injEq] at h
          subst h
          obtain ⟨v, l, c, rfl, h1, h2, h3⟩ := rd_bytes ht he hc hd
          exact ⟨[.rb true l (.is c)], ⟨⟨l, c, rfl, h1, h2⟩, trivial⟩, rfl, _, [], rfl, h3, rfl⟩
        · cases h
      · cases h
    · rename_i n e ht
      simp only [Option.bind_eq_some_iff] at h
      obtain ⟨l1, h1, h2⟩ := h
      split at h2
      · rename_i hc
        simp only [Option.some.injEq] at h2
        subst h2
        obtain ⟨xs, m, _, _, hl, hn, hel⟩ := DataW.trod_array ht hd
        refine read_arr (m := l1.length) n cs (by rw [hl, hc.2]) fun i hi => ?_
        have := hel i hi
        rw [List.getElem?_eq_getElem (by omega), hc.1] at this
        exact rd_flat f e l1 _ _ _ h1 this
      · cases h2
    · rename_i fs ht
      simp only [Option.bind_eq_some_iff] at h
      obtain ⟨l1, h1, h2⟩ := h
      split at h2
      · rename_i hc
        simp only [Option.some.injEq] at h2
        subst h2
        obtain ⟨xs, m, _, _, hl, hn, hel⟩ := DataW.trod_struct ht hd
        have := read_fs (W := W) (cs := cs) fs.toList 0 l1 h1 (by rw [hl, hc]; omega) fun f0 l' hf hg => by
          obtain ⟨i, hi⟩ := List.getElem?_of_mem hf
          have hlt := (List.getElem?_eq_some_iff.1 hi).1
          have := hel i f0 (by simpa using hi)
          rw [List.getElem?_eq_getElem (by simp at hlt; omega)] at this
          exact rd_flat f f0.type l' _ _ _ hg this
        simpa using this
      · cases h2
    · cases h
theorem agg_of_cells {v : Value} {avs : List AV} (h : VRels (κW W) avs v.cells.toList) (hl : 2 ≤ avs.length) : VRel (κW W) (.agg avs) v := by
  have hn := h.length
  cases v
  case agg cs => exact ⟨cs, rfl, h⟩
  all_goals (exfalso; simp [Value.cells] at hn; omega)
/-- Bytes of an array. -/
theorem sh_u8 : ∀ {n : Nat} {avs : List AV}, shAll (List.replicate n (.i .u8)) avs → ∃ l : List (BitVec 8), l.length = n ∧ avs = l.map .u8
  | 0, [], _ => ⟨[], rfl, rfl⟩
  | 0, _ :: _, h => h.elim
  | n + 1, [], h => h.elim
  | n + 1, a :: az, h => by
    obtain ⟨⟨x, rfl⟩, h2⟩ := h
    obtain ⟨l, h3, rfl⟩ := sh_u8 h2
    exact ⟨x :: l, by simp [h3], rfl⟩
end
theorem sh_cons {k : Sh} {ks : List Sh} {avs : List AV} (h : shAll (k :: ks) avs) : ∃ a az, avs = a :: az ∧ k.ok a ∧ shAll ks az := by
  cases avs with
  | nil => exact h.elim
  | cons a az => exact ⟨a, az, rfl, h.1, h.2⟩
theorem sh_nil {avs : List AV} (h : shAll [] avs) : avs = [] := by
  cases avs with
  | nil => rfl
  | cons a az => exact h.elim
theorem sh_i64 {a : AV} (h : (Sh.i .i64).ok a) : ∃ n, a = .int .i64 n := by
  obtain ⟨n, h, _⟩ := h
  exact ⟨n, h⟩
theorem rel_u32 {κ : Ker} {n : Int} (h : (Lit.int .u32 n).wf = true) : VRel κ (.u32 (BitVec.ofInt 32 n)) (.int .u32 n) := by
  simp [Lit.wf, IntKind.has, IntKind.min, IntKind.max, IntKind.signed, IntKind.bits] at h
  simp only [VRel, BitVec.toNat_ofInt]
  congr 1
  omega
theorem rel_u64 {κ : Ker} {n : Int} (h : (Lit.int .u64 n).wf = true) : VRel κ (.u64 (BitVec.ofInt 64 n)) (.int .u64 n) := by
  simp [Lit.wf, IntKind.has, IntKind.min, IntKind.max, IntKind.signed, IntKind.bits] at h
  simp only [VRel, BitVec.toNat_ofInt]
  congr 1
  omega
theorem rel_u8 {κ : Ker} {n : Int} (h : (Lit.int .u8 n).wf = true) : VRel κ (.u8 (BitVec.ofInt 8 n)) (.int .u8 n) := by
  simp [Lit.wf, IntKind.has, IntKind.min, IntKind.max, IntKind.signed, IntKind.bits] at h
  simp only [VRel, BitVec.toNat_ofInt]
  congr 1
  omega
end Go.Sym

namespace Go.Sym
open Go.Proofs Go.Spec
set_option linter.unusedVariables false
def slK (n : Int) : Nat := (BitVec.ofInt 64 n % 140#64).toNat
def slB (b : BitVec 8) (k i : Nat) : By := List.replicate i b ++ List.replicate (k - i) 0#8
def lsSl (b : BitVec 8) (k : Nat) : LS := ⟨Nat, fun i => [(0, .u8 b), (5, .int .i64 k), (6, .slice 100 0 1 k (.kn k) (.is false)), (7, .int .i64 i)], fun i => [(100, ⟨.bytes (slB b k i), true, 1⟩)], 1000, fun i => k - i, fun i => i ≤ k, fun _ => []⟩
def gSs (xs : List AV) (bs : List ABlk) : TL := match xs, bs with
  | [], [] => .ok ⟨[], .bool true, [], []⟩
  | _, _ => .no
def spSs : Spec := ⟨[], fun _ _ => [], fun _ _ => [], gSs⟩
def Ctx.withKeep (Γ : Ctx) (l : List String) : Ctx := ⟨Γ.fn, l, Γ.sym, Γ.frz⟩
theorem COKs.withKeep {P : Program} {gl : Gl} {Γ : Ctx} (h : COKs P gl Γ) (l : List String) : COKs P gl (Γ.withKeep l) := h
noncomputable def L1c : Ctx := (R4.add 10 (mkF spSs)).withKeep ["law.go:43", "law.go:48", "law.go:49"]
end Go.Sym

namespace Go.Sym
open Go.Proofs Go.Spec
set_option linter.unusedVariables false
set_option maxRecDepth 100000 in
theorem vc10s  : bodyP Tryd.prog R4 gl0 [] [] 3000 Tryd.f10 0 [] [] (retQ Tryd.prog Tryd.f10 0 ⟨[], .bool true, [], []⟩) = (
let x1 := [BitVec.ofNat 8 97, BitVec.ofNat 8 98, BitVec.ofNat 8 99]; 0 < 3 ∧ 0 < 3 ∧ 3 = 3 ∧ 3 < 4611686018427387904 ∧ @Bool.rec (fun _ => Prop) (Bool.true = Bool.false ∧ True) (@Bool.rec (fun _ => Prop) (Bool.true = Bool.false ∧ True) (@Bool.rec (fun _ => Prop) (Bool.true = Bool.false ∧ True) (32 < 4611686018427387904 ∧ Bool.true = sameB (rg 32 (shaB x1)) (rg 32 (shaB x1)) ∧ True) (decide (shaB x1 31 = BitVec.ofNat 8 173))) (decide (shaB x1 1 = BitVec.ofNat 8 120))) (decide (shaB x1 0 = BitVec.ofNat 8 186)) : Prop) := by kernel_rfl
set_option maxRecDepth 100000 in
theorem vc4s (b : BitVec 8) (n : Int) : bodyP Tryd.prog L1c gl0 [] [(5, lsSl b (slK n))] 3000 Tryd.f4 0 [.u8 b, .int .i64 n] [] (retQ Tryd.prog Tryd.f4 0 ⟨[], .bool true, [], []⟩) = (
let x1 := (BitVec.ofInt 64 n % BitVec.ofNat 64 140).toNat; (0 : Int) ≤ IntKind.i64.wrap (↑x1 : Int) ∧ (0 : Int) ≤ IntKind.i64.wrap (↑x1 : Int) ∧ (IntKind.i64.wrap (↑x1 : Int)).toNat ≤ (IntKind.i64.wrap (↑x1 : Int)).toNat ∧ 1 * (IntKind.i64.wrap (↑x1 : Int)).toNat ≤ 281474976710656 ∧ (IntKind.i64.wrap (↑x1 : Int)).toNat ≤ 9223372036854775807 ∧ (∃ (x : Nat), x.le x1 ∧ b = b ∧ (↑x1 : Int) = IntKind.i64.wrap (↑x1 : Int) ∧ Bool.false = Bool.false ∧ x1 = (IntKind.i64.wrap (↑x1 : Int)).toNat ∧ 0 = 0 ∧ 0 = 0 ∧ x1 = (IntKind.i64.wrap (↑x1 : Int)).toNat ∧ (↑x : Int) = (0 : Int) ∧ List.replicate x b ++ List.replicate (x1 - x) (BitVec.ofNat 8 0) = List.replicate (IntKind.i64.wrap (↑x1 : Int)).toNat (0 : BitVec 8) ∧ True) ∧ ∀ (x : Nat), let x1_1 := List.replicate x b ++ List.replicate (x1 - x) (BitVec.ofNat 8 0); x.le x1 → @Bool.rec (fun _ => Prop) (0 + x1 ≤ x1_1.length ∧ (List.take x1 x1_1).length < 4611686018427387904 ∧ 1 = [b].length ∧ x1 = x1_1.length ∧ roomFor x1 [b].length 1 ∧ x1 < x1 + [b].length ∧ x1 + [b].length = (x1_1 ++ [b]).length ∧ (x1_1 ++ [b]).length < 4611686018427387904 ∧ 0 + x1 ≤ x1_1.length ∧ (List.take x1 x1_1).length < 35184372088832 ∧ @Bool.rec (fun _ => Prop) (Bool.true = Bool.false ∧ True) (1 = [b].length ∧ x1 = x1_1.length ∧ roomFor x1 [b].length 1 ∧ x1 < x1 + [b].length ∧ x1 + [b].length = (x1_1 ++ [b]).length ∧ (x1_1 ++ [b]).length < 35184372088832 ∧ @Bool.rec (fun _ => Prop) (Bool.true = Bool.false ∧ True) (Bool.true = !andP (fun (i : Nat) => decide (shaB (List.take x1 x1_1) i = shaB (x1_1 ++ [b]) i)) 0 32 Bool.true ∧ True) (andP (fun (i : Nat) => decide (shaB (x1_1 ++ [b]) i = shaB (x1_1 ++ [b]) i)) 0 32 Bool.true)) (andP (fun (i : Nat) => decide (shaB (List.take x1 x1_1) i = shaB (List.take x1 x1_1) i)) 0 32 Bool.true)) ((0 : Int) ≤ (↑x : Int) ∧ (↑x : Int).toNat < x1 ∧ (↑x : Int).toNat < x1_1.length ∧ ∃ (y : Nat), x1 - y < x1 - x ∧ y.le x1 ∧ b = b ∧ (↑x1 : Int) = (↑x1 : Int) ∧ Bool.false = Bool.false ∧ x1 = x1 ∧ 0 = 0 ∧ 0 = 0 ∧ x1 = x1 ∧ (↑y : Int) = IntKind.i64.wrap ((↑x : Int) + (1 : Int)) ∧ List.replicate y b ++ List.replicate (x1 - y) (BitVec.ofNat 8 0) = x1_1.set (↑x : Int).toNat b ∧ True) (decide ((↑x : Int) < (↑x1 : Int))) : Prop) := by kernel_rfl
end Go.Sym

set_option linter.unusedSimpArgs false
namespace Go.Sym
open Go.Proofs Go.Spec
set_option linter.unusedVariables false
theorem bc10s : Must (bodyP Tryd.prog R4 gl0 [] [] 3000 Tryd.f10 0 [] [] (retQ Tryd.prog Tryd.f10 0 ⟨[], .bool true, [], []⟩)) := by
  constructor
  rw [vc10s]
  intro x1
  rw [decide_eq_true (show shaB x1 0 = BitVec.ofNat 8 186 from abc0), decide_eq_true (show shaB x1 1 = BitVec.ofNat 8 120 from abc1), decide_eq_true (show shaB x1 31 = BitVec.ofNat 8 173 from abc31)]
  exact ⟨by omega, by omega, rfl, by omega, by omega, (sameB_self _).symm, trivial⟩
theorem cSs : COK Tryd.prog gl0 10 (mkF spSs) := by
  refine ctrE (fn := Tryd.f10) [] 3000 (by kernel_rfl) (by kernel_rfl) okR4 (by kernel_rfl) (fun args w => by kernel_rfl) fun xs bs r hs ho => ?_
  replace hs : (gSs xs bs).sel = some r := hs
  unfold gSs at hs
  split at hs
  · simp only [TL.sel, Option.some.injEq] at hs
    subst hs
    exact ⟨_, bc10s⟩
  · simp [TL.sel] at hs
theorem okL1c : COKs Tryd.prog gl0 L1c := (okR4.add cSs).withKeep _
theorem slK_lt (n : Int) : slK n < 140 := by
  unfold slK
  rw [BitVec.toNat_umod]
  exact Nat.mod_lt _ (by decide)
theorem bc4s (b : BitVec 8) (n : Int) : Must (bodyP Tryd.prog L1c gl0 [] [(5, lsSl b (slK n))] 3000 Tryd.f4 0 [.u8 b, .int .i64 n] [] (retQ Tryd.prog Tryd.f4 0 ⟨[], .bool true, [], []⟩)) := by
  constructor
  rw [vc4s]
  have hk := slK_lt n
  have hk2 : (BitVec.ofInt 64 n % BitVec.ofNat 64 140).toNat = slK n := rfl
  rw [hk2]
  clear hk2
  generalize slK n = k0 at *
  intro k
  have hx1 : k0 = k := rfl
  clear_value k
  rw [hx1] at hk
  clear hx1
  have hw : IntKind.i64.wrap (k : Int) = (k : Int) := wrap_i64 (by omega) (by omega)
  rw [hw, Int.toNat_natCast]
  refine ⟨by omega, by omega, by omega, by omega, by omega, ⟨0, ?_⟩, ?_⟩
  · and_intros
    all_goals first | rfl | trivial | omega | exact Nat.zero_le _ | skip
  intro x x11 hx
  have hx : x ≤ k := hx
  have h11 : x11 = List.replicate x b ++ List.replicate (k - x) (BitVec.ofNat 8 0) := rfl
  clear_value x11
  have hl : x11.length = k := by rw [h11, List.length_append, List.length_replicate, List.length_replicate]; omega
  refine brec (fun hd => ?_) (fun hd => ?_)
  · have hd := dlt.1 hd
    refine ⟨by omega, by omega, by omega, x + 1, ?_⟩
    rw [wrap_nat (x + 1) (by omega) (by omega), Int.toNat_natCast]
    and_intros
    all_goals first | rfl | trivial | omega | exact (show x + 1 ≤ k by omega) | skip
    rw [h11]
    apply List.ext_getElem?
    intro j
    rw [List.getElem?_set]
    by_cases hj : j < k
    · by_cases h2 : x = j
      · subst h2
        have : x < (List.replicate x b ++ List.replicate (k - x) (BitVec.ofNat 8 0)).length := by rw [← h11, hl]; omega
        simp only [if_true, this]
        rw [List.getElem?_append_left (by simp), List.getElem?_replicate, if_pos (by omega)]
      · rw [if_neg h2]
        rcases Nat.lt_or_ge j x with h3 | h3
        · rw [List.getElem?_append_left (by simp; omega), List.getElem?_append_left (by simp; omega), List.getElem?_replicate, List.getElem?_replicate, if_pos (by omega), if_pos (by omega)]
        · rw [List.getElem?_append_right (by simp; omega), List.getElem?_append_right (by simp; omega), List.getElem?_replicate, List.getElem?_replicate, List.length_replicate, List.length_replicate, if_pos (by omega), if_pos (by omega)]
    · rw [List.getElem?_eq_none (by simp; omega)]
      split
      · omega
      · rw [List.getElem?_eq_none (by simp; omega)]
  · have hd := ndlt.1 hd
    obtain rfl : x = k := by omega
    have h12 : x11 = List.replicate x b := by rw [h11]; simp
    have ht : List.take x x11 = List.replicate x b := by rw [List.take_of_length_le (by omega), h12]
    have hs : x11 ++ [b] = List.replicate (x + 1) b := by rw [h12, ← List.replicate_succ']
    have hl2 : (x11 ++ [b]).length = x + 1 := by rw [List.length_append, hl]; rfl
    have hb1 : ([b] : By).length = 1 := rfl
    rw [ht, hl2, hb1, hl, List.length_replicate]
    have e1 : ∀ (l : By), andP (fun (i : Nat) => decide (shaB l i = shaB l i)) 0 32 Bool.true = true := fun l => andP_of 32 0 (fun j _ _ => decide_eq_true rfl) rfl
    have e2 : andP (fun (i : Nat) => decide (shaB (List.replicate x b) i = shaB (x11 ++ [b]) i)) 0 32 Bool.true = false := by
      cases h : andP (fun (i : Nat) => decide (shaB (List.replicate x b) i = shaB (x11 ++ [b]) i)) 0 32 Bool.true with
      | false => rfl
      | true =>
        exfalso
        have h2 := ((andP_iff 32 0).1 h).1
        refine (Go.Simd.byte_neq x hk b).2 fun i hi => ?_
        rw [← hs]
        exact of_decide_eq_true (h2 i (Nat.zero_le _) (by omega))
    rw [e1, e1, e2]
    refine ⟨by omega, by omega, rfl, rfl, by unfold roomFor; omega, by omega, rfl, by omega, by omega, by omega, rfl, rfl, by unfold roomFor; omega, by omega, rfl, by omega, rfl, trivial⟩
end Go.Sym

/- ShaLengths: of texts of all lengths around a block's end the sum is told, and no two of them, of one byte each, are the same. Condition: the two tables of the package start as the text of the program lays them, which the card ties. -/
namespace Go.Sym
open Go.Proofs Go.Spec
theorem w4 (W : World) (hG : GW gl0 W) (v0 : Value) (n0 : BitVec 8) (h0 : VRel (κW W) (.u8 n0) v0) (n1 : Int) :
    Calls Tryd.prog 4 #[v0, .int .i64 n1] W fun e w' => e = .returned (.bool true) ∧ RowKit.Below W.heap.size W w' := by
  have hv : VRels (κW W) [.u8 n0, .int .i64 n1] [v0, .int .i64 n1] := by
    simp only [VRels]
    exact ⟨_, _, rfl, h0, _, _, rfl, rfl, rfl⟩
  refine law_walk (gl := gl0) (Γ := L1c) (fn := Tryd.f4) (av := [.u8 n0, .int .i64 n1]) (ls := [(5, lsSl n0 (slK n1))]) [] 3000 (by kernel_rfl) (by kernel_rfl) okL1c (by kernel_rfl) hG (by kernel_rfl) hv ?_
  exact bc4s n0 n1
end Go.Sym
namespace Go.Proofs.YtmpgpbbaloiniaaDoor.shaLengths
open Go.ChangeShapes Go.WideShapes Go.ChangeAt Go.WideMaps Go.WideElems Go.RowKit
set_option linter.unusedVariables false
set_option maxRecDepth 100000 in
theorem lifted (os : Os) (started : os.Started) (H : Type) (enc : TypeId × Value → H) :
    ReturnsInHanded {} Tryd.checked os 4 .any (fun w args => (Rows.shaLengthsSpec.pre enc Tryd.prog Tryd.f4 [] false w args ∧ laidMetH Tryd.prog laid2 w) ∧ sizedMet enc Tryd.prog Tryd.f4 (OpenSpec.ofChange Rows.shaLengthsSpec) false w args)
      (Rows.shaLengthsSpec.post enc Tryd.prog Tryd.f4 false true false false) := by
  refine returnsInHanded_of_change_and (C := Tryd.checked) (X := fun w _ => laidMetH Tryd.prog laid2 w) (fun _ _ _ hh h => h.of_heap hh) own started (by kernel_rfl) Tryd.func4
    (ChangeSpec.witness_shaped (enc := enc) (C := Tryd.checked) (os := os) (X := fun w _ => laidMetH Tryd.prog laid2 w) false (World.doorLaid Tryd.prog 400 os) #[.int .u8 0, .int .i64 0] 8 rfl (World.shaped_of_RefB (by kernel_rfl) (by kernel_rfl)) (by kernel_rfl) (by kernel_rfl) (by kernel_rfl) (door_met os _)) ?_
  intro W base args ds gs before hval0 hW _ _ hL _
  have hval : ∀ (j : Nat) t v, Tryd.f4.params[j]? = some t → args[j]? = some v → Value.okWide Tryd.prog W .any base t v := hval0
  have hW' := hW
  obtain ⟨p, q, hA0, hV, rfl, hfz, hnd⟩ := hW
  have hA : DataW.TrodAll enc Tryd.prog W 0 (fun _ => true) true Tryd.f4.params.toList args.toList ds p := hA0
  rw [Tryd.params4] at hA hval
  obtain ⟨v0, vs0, d0, ds0, p0, q0, hargs, rfl, rfl, h0, r0⟩ := trodAll_cons hA
  obtain ⟨v1, vs1, d1, ds1, p1, q1, rfl, rfl, rfl, h1, r1⟩ := trodAll_cons r0
  obtain ⟨rfl, rfl, rfl⟩ := trodAll_nil r1
  obtain rfl : args = #[v0, v1] := by cases args; simp_all
  obtain ⟨rfl, rfl⟩ := trodVars_none hV
  obtain ⟨a0, rfl, rfl, rfl, w0⟩ := open_int Tryd.underlying5 (hval 0 5 v0 rfl rfl) h0
  obtain ⟨a1, rfl, rfl, rfl, w1⟩ := open_int Tryd.underlying3 (hval 1 3 v1 rfl rfl) h1
  clear hA0 hval0
  refine (Go.Sym.w4 W (gw_laid hL) (.int .u8 a0) (BitVec.ofInt 8 a0) (Go.Sym.rel_u8 w0) a1).mono fun e W' ⟨he, bel⟩ => ?_
  subst he
  exact ⟨_, rfl, _, _, _, [], _, [], hW', trodAll_mk1 (shut_bool Tryd.underlying4 _), (trodAll_cons_mk (shut_int Tryd.underlying5 w0) (trodAll_cons_mk (shut_int Tryd.underlying3 w1) trodAll_mk0)), rfl, bel.frame _, fun h => by cases h⟩

theorem over : Rows.shaLengthsRow.holds Tryd.pinned (OpenSpec.ofChange Rows.shaLengthsSpec) :=
  OpenClaim.holds_of_wide 4 Tryd.f4 rfl rfl rfl rfl rfl rfl rfl ⟨rfl, rfl, rfl, rfl, rfl⟩ rfl rfl rfl rfl rfl (by kernel_rfl) Tryd.func4 (by kernel_rfl)
    (of_decide_eq_true (by kernel_rfl)) (by unfold Func.isWrapper; first | (rw [if_pos (by decide +kernel)]; kernel_rfl) | (rw [if_neg (by decide +kernel)]; exact ⟨rfl, rfl⟩))
    (fun os started H enc _ => lifted os started H enc)

theorem proved : Rows.ShaLengthsCardSaid :=
  Claim7.holds_tied_plain_at .later [] [.data, .data] true (true, "509a89b67618beb9fd1f9164ca8e5d72b3360772a5436b980171c475dab6690a") false
    over (fun _ h => by cases h) (by kernel_rfl) (fun _ h => by cases h) shaLengths_row_tie rfl ⟨rfl, rfl⟩ (by kernel_rfl) rfl
    (fun f fn hf hfn => by
      obtain rfl : f = 4 := Option.some.inj ((show Tryd.prog.funcNamed "relay/relaylaw01.ShaLengths" = some 4 by kernel_rfl).symm.trans hf) |>.symm
      obtain rfl : fn = Tryd.f4 := (Option.some.inj (Tryd.func4.symm.trans hfn)).symm
      exact ⟨by kernel_rfl, fun j t ht => by
        rw [Tryd.params4] at ht
        have hm : t ∈ [5, 3] := by simpa using Array.mem_of_getElem? ht
        have hall : ([5, 3].all fun u => !Tryd.prog.wantsStandIn u) = true := by kernel_rfl
        exact (show Tryd.prog.wantsStandIn t = false by simpa using List.all_eq_true.1 hall t hm)⟩)
    (by kernel_rfl)
#print axioms proved
end Go.Proofs.YtmpgpbbaloiniaaDoor.shaLengths
