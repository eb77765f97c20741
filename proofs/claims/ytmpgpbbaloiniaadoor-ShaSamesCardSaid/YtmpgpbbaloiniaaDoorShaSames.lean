/- ShaSames: of all two it is told whether they are the same. Condition: the two tables of the package start as the text of the program lays them, which the card ties. -/
import Derived.Test.YtmpgpbbaloiniaaDoorSymC
import Derived.Test.YtmpgpbbaloiniaaDoorShaB
import Derived.Test.YtmpgpbbaloiniaaDoorShaA
import Derived.OpenShut
import Derived.Handed
/- What is handed in from outside: plain data of any shape. -/
namespace Go.Sym
set_option linter.unusedVariables false
set_option linter.unusedSimpArgs false
open Go.ChangeShapes Go.WideShapes
inductive Sh where
  | i (k : IntKind)
  | b
  | s
  | y
def Sh.ok : Sh → AV → Prop
  | .i .u8, a => ∃ x, a = .u8 x
  | .i .u16, a => ∃ x, a = .u16 x
  | .i .u32, a => ∃ x, a = .u32 x
  | .i .u64, a => ∃ x, a = .u64 x
  | .i k, a => ∃ n, a = .int k n ∧ (Lit.int k n).wf = true
  | .b, a => ∃ c, a = .bool c
  | .s, a => ∃ l, a = .str l ∧ l.length ≤ maxLen
  | .y, a => ∃ l c, a = .rb true l (.is c) ∧ (c = true → l = []) ∧ l.length ≤ maxLen
def shAll : List Sh → List AV → Prop
  | [], [] => True
  | k :: ss, a :: az => k.ok a ∧ shAll ss az
  | _, _ => False
theorem shAll_append : ∀ {l m : List Sh} {az bs : List AV}, shAll l az → shAll m bs → shAll (l ++ m) (az ++ bs)
  | [], _, [], _, _, k => k
  | _ :: _, _, _ :: _, _, h, k => ⟨h.1, shAll_append h.2 k⟩
  | [], _, _ :: _, _, h, _ => h.elim
  | _ :: _, _, [], _, h, _ => h.elim
theorem datas_append {p : Bool} : ∀ {az bs : List AV}, datas p az = true → datas p bs = true → datas p (az ++ bs) = true
  | [], _, _, k => k
  | a :: az, _, h, k => by
    simp only [datas, Bool.and_eq_true, List.cons_append] at h ⊢
    exact ⟨h.1, datas_append h.2 k⟩
def flatFs (P : Program) (g : TypeId → Option (List Sh)) : List Field → Nat → Option (List Sh)
  | [], _ => some []
  | f :: fs, o => if f.offset = o then (g f.type).bind fun l => if P.cellsOf f.type = l.length then (flatFs P g fs (o + l.length)).map (l ++ ·) else none else none
def flat (P : Program) : Nat → TypeId → Option (List Sh)
  | 0, _ => none
  | f + 1, t => match P.underlying t with
    | some (.int k) => some [.i k]
    | some .bool => some [.b]
    | some .string => some [.s]
    | some (.slice e) => (match P.underlying e with | some (.int .u8) => if P.cellsOf e = 1 then some [.y] else none | _ => none)
    | some (.array n e) => (flat P f e).bind fun l => if P.cellsOf e = l.length ∧ P.cellsOf t = n * l.length then some (List.replicate n l).flatten else none
    | some (.struct fs) => (flatFs P (flat P f) fs.toList 0).bind fun l => if P.cellsOf t = l.length then some l else none
    | _ => none

section
variable {H : Type} {enc : TypeId × Value → H} {P : Program} {W : World} {base : Nat} {spare : Nat → Bool} {held : Bool}
def Read (W : World) (l : List Sh) (cs : List Value) : Prop := ∃ avs, shAll l avs ∧ datas true avs = true ∧ VRels (κW W) avs cs
theorem Read.append {l m : List Sh} {cs ds : List Value} (h : Read W l cs) (k : Read W m ds) : Read W (l ++ m) (cs ++ ds) := by
  obtain ⟨a, h1, h2, h3⟩ := h
  obtain ⟨b, k1, k2, k3⟩ := k
  exact ⟨a ++ b, shAll_append h1 k1, datas_append h2 k2, VRels.append h3 k3⟩
theorem read_arr {l : List Sh} {m : Nat} : ∀ (n : Nat) (cs : List Value), cs.length = n * m → (∀ i, i < n → Read W l ((cs.drop (i * m)).take m)) → Read W (List.replicate n l).flatten cs
  | 0, cs, hl, _ => by
    have : cs = [] := List.eq_nil_of_length_eq_zero (by simpa using hl)
    subst this
    exact ⟨[], trivial, rfl, rfl⟩
  | n + 1, cs, hl, h => by
    have h0 := h 0 (by omega)
    simp only [Nat.zero_mul, List.drop_zero] at h0
    have hr := read_arr (m := m) n (cs.drop m) (by rw [List.length_drop, hl, Nat.succ_mul]; omega) (fun i hi => by
      have := h (i + 1) (by omega)
      rw [List.drop_drop]
      rw [Nat.add_mul, Nat.one_mul, Nat.add_comm] at this
      exact this)
    have := h0.append hr
    rw [List.take_append_drop] at this
    simpa [List.replicate_succ] using this
theorem read_fs {g : TypeId → Option (List Sh)} {cs : List Value} : ∀ (fs : List Field) (o : Nat) (l : List Sh), flatFs P g fs o = some l → cs.length = o + l.length →
    (∀ f l', f ∈ fs → g f.type = some l' → Read W l' ((cs.drop f.offset).take (P.cellsOf f.type))) → Read W l (cs.drop o)
  | [], o, l, h, hl, _ => by
    simp only [flatFs, Option.some.injEq] at h
    subst h
    have : cs.drop o = [] := List.drop_eq_nil_of_le (by simp at hl; omega)
    rw [this]
    exact ⟨[], trivial, rfl, rfl⟩
  | f :: fs, o, l, h, hl, hr => by
    simp only [flatFs] at h
    split at h
    · rename_i ho
      simp only [Option.bind_eq_some_iff] at h
      obtain ⟨l1, h1, h2⟩ := h
      split at h2
      · rename_i hc
        simp only [Option.map_eq_some_iff] at h2
        obtain ⟨l2, h3, rfl⟩ := h2
        have k1 := hr f l1 (by simp) h1
        rw [ho, hc] at k1
        have k2 := read_fs fs (o + l1.length) l2 h3 (by simp at hl; omega) (fun f' l' hf hg => hr f' l' (by simp [hf]) hg)
        have := k1.append k2
        rw [← List.drop_drop, List.take_append_drop] at this
        exact this
      · cases h2
    · cases h
theorem rd_flat : ∀ (f : Nat) (t : TypeId) (l : List Sh) (fuel : Nat) (cs : List Value) (x : DataW H × List MemPlace), flat P f t = some l → DataW.trod enc P W base spare held fuel t cs = some x → Read W l cs
  | 0, _, _, _, _, _, h, _ => by cases h
  | f + 1, t, l, fuel, cs, x, h, hd => by
    unfold flat at h
    split at h
    · rename_i k ht
      simp only [Option.some.injEq] at h
      subst h
      obtain ⟨n, rfl, _, hw⟩ := DataW.trod_int ht hd
      have hn : absC0 (.int k n) = absC0 (.int k n) := rfl
      cases k
      case u8 =>
        simp [Lit.wf, IntKind.min, IntKind.max, IntKind.signed, IntKind.bits] at hw
        exact ⟨[.u8 (BitVec.ofNat 8 n.toNat)], ⟨⟨_, rfl⟩, trivial⟩, rfl, _, [], rfl, by simp only [VRel, BitVec.toNat_ofNat]; congr 1; omega, rfl⟩
      case u16 =>
        simp [Lit.wf, IntKind.min, IntKind.max, IntKind.signed, IntKind.bits] at hw
        exact ⟨[.u16 (BitVec.ofNat 16 n.toNat)], ⟨⟨_, rfl⟩, trivial⟩, rfl, _, [], rfl, by simp only [VRel, BitVec.toNat_ofNat]; congr 1; omega, rfl⟩
      case u32 =>
        simp [Lit.wf, IntKind.min, IntKind.max, IntKind.signed, IntKind.bits] at hw
        exact ⟨[.u32 (BitVec.ofNat 32 n.toNat)], ⟨⟨_, rfl⟩, trivial⟩, rfl, _, [], rfl, by simp only [VRel, BitVec.toNat_ofNat]; congr 1; omega, rfl⟩
      case u64 =>
        simp [Lit.wf, IntKind.min, IntKind.max, IntKind.signed, IntKind.bits] at hw
        exact ⟨[.u64 (BitVec.ofNat 64 n.toNat)], ⟨⟨_, rfl⟩, trivial⟩, rfl, _, [], rfl, by simp only [VRel, BitVec.toNat_ofNat]; congr 1; omega, rfl⟩
      all_goals exact ⟨[.int _ n], ⟨⟨_, rfl, hw⟩, trivial⟩, rfl, _, [], rfl, rfl, rfl⟩
    · rename_i ht
      simp only [Option.some.injEq] at h
      subst h
      obtain ⟨b, rfl, _⟩ := DataW.trod_bool ht hd
      exact ⟨[.bool b], ⟨⟨_, rfl⟩, trivial⟩, rfl, _, [], rfl, rfl, rfl⟩
    · rename_i ht
      simp only [Option.some.injEq] at h
      subst h
      obtain ⟨s, rfl, _, hs⟩ := DataW.trod_string ht hd
      have hb := bytesStr_strBytes s
      refine ⟨[.str (strBytes s)], ⟨⟨_, rfl, ?_⟩, trivial⟩, rfl, _, [], rfl, by simp only [VRel, hb], rfl⟩
      rw [← bytesStr_size, hb]
      exact hs
    · rename_i e ht
      split at h
      · rename_i he
        split at h
        · rename_i hc
          simp only [Option.some.injEq] at h
          subst h
          obtain ⟨v, l, c, rfl, h1, h2, h3⟩ := rd_bytes ht he hc hd
          exact ⟨[.rb true l (.is c)], ⟨⟨l, c, rfl, h1, h2⟩, trivial⟩, rfl, _, [], rfl, h3, rfl⟩
        · cases h
      · cases h
    · rename_i n e ht
      simp only [Option.bind_eq_some_iff] at h
      obtain ⟨l1, h1, h2⟩ := h
      split at h2
      · rename_i hc
        simp only [Option.some.injEq] at h2
        subst h2
        obtain ⟨xs, m, _, _, hl, hn, hel⟩ := DataW.trod_array ht hd
        refine read_arr (m := l1.length) n cs (by rw [hl, hc.2]) fun i hi => ?_
        have := hel i hi
        rw [List.getElem?_eq_getElem (by omega), hc.1] at this
        exact rd_flat f e l1 _ _ _ h1 this
      · cases h2
    · rename_i fs ht
      simp only [Option.bind_eq_some_iff] at h
      obtain ⟨l1, h1, h2⟩ := h
      split at h2
      · rename_i hc
        simp only [Option.some.injEq] at h2
        subst h2
        obtain ⟨xs, m, _, _, hl, hn, hel⟩ := DataW.trod_struct ht hd
        have := read_fs (W := W) (cs := cs) fs.toList 0 l1 h1 (by rw [hl, hc]; omega) fun f0 l' hf hg => by
          obtain ⟨i, hi⟩ := List.getElem?_of_mem hf
          have hlt := (List.getElem?_eq_some_iff.1 hi).1
          have := hel i f0 (by simpa using hi)
          rw [List.getElem?_eq_getElem (by simp at hlt; omega)] at this
          exact rd_flat f f0.type l' _ _ _ hg this
        simpa using this
      · cases h2
    · cases h
theorem agg_of_cells {v : Value} {avs : List AV} (h : VRels (κW W) avs v.cells.toList) (hl : 2 ≤ avs.length) : VRel (κW W) (.agg avs) v := by
  have hn := h.length
  cases v
  case agg cs => exact ⟨cs, rfl, h⟩
  all_goals (exfalso; simp [Value.cells] at hn; omega)
/-- Bytes of an array. -/
theorem sh_u8 : ∀ {n : Nat} {avs : List AV}, shAll (List.replicate n (.i .u8)) avs → ∃ l : List (BitVec 8), l.length = n ∧ avs = l.map .u8
  | 0, [], _ => ⟨[], rfl, rfl⟩
  | 0, _ :: _, h => h.elim
  | n + 1, [], h => h.elim
  | n + 1, a :: az, h => by
    obtain ⟨⟨x, rfl⟩, h2⟩ := h
    obtain ⟨l, h3, rfl⟩ := sh_u8 h2
    exact ⟨x :: l, by simp [h3], rfl⟩
end
theorem sh_cons {k : Sh} {ks : List Sh} {avs : List AV} (h : shAll (k :: ks) avs) : ∃ a az, avs = a :: az ∧ k.ok a ∧ shAll ks az := by
  cases avs with
  | nil => exact h.elim
  | cons a az => exact ⟨a, az, rfl, h.1, h.2⟩
theorem sh_nil {avs : List AV} (h : shAll [] avs) : avs = [] := by
  cases avs with
  | nil => rfl
  | cons a az => exact h.elim
theorem sh_i64 {a : AV} (h : (Sh.i .i64).ok a) : ∃ n, a = .int .i64 n := by
  obtain ⟨n, h, _⟩ := h
  exact ⟨n, h⟩
theorem rel_u32 {κ : Ker} {n : Int} (h : (Lit.int .u32 n).wf = true) : VRel κ (.u32 (BitVec.ofInt 32 n)) (.int .u32 n) := by
  simp [Lit.wf, IntKind.has, IntKind.min, IntKind.max, IntKind.signed, IntKind.bits] at h
  simp only [VRel, BitVec.toNat_ofInt]
  congr 1
  omega
theorem rel_u64 {κ : Ker} {n : Int} (h : (Lit.int .u64 n).wf = true) : VRel κ (.u64 (BitVec.ofInt 64 n)) (.int .u64 n) := by
  simp [Lit.wf, IntKind.has, IntKind.min, IntKind.max, IntKind.signed, IntKind.bits] at h
  simp only [VRel, BitVec.toNat_ofInt]
  congr 1
  omega
theorem rel_u8 {κ : Ker} {n : Int} (h : (Lit.int .u8 n).wf = true) : VRel κ (.u8 (BitVec.ofInt 8 n)) (.int .u8 n) := by
  simp [Lit.wf, IntKind.has, IntKind.min, IntKind.max, IntKind.signed, IntKind.bits] at h
  simp only [VRel, BitVec.toNat_ofInt]
  congr 1
  omega
end Go.Sym

namespace Go.Spec
open Go.Sym
theorem abc0' : shaB [97#8, 98#8, 99#8] 0 = 186#8 := by rw [shaB_eq]; kernel_rfl
theorem abc1' : shaB [97#8, 98#8, 99#8] 1 = 120#8 := by rw [shaB_eq]; kernel_rfl
theorem abc31' : shaB [97#8, 98#8, 99#8] 31 = 173#8 := by rw [shaB_eq]; kernel_rfl
theorem sameB_self' (a : By) : sameB a a = true := by rw [sameB_eq]; simp
theorem sameB_comm (a b : By) : sameB a b = sameB b a := by rw [sameB_eq, sameB_eq]; exact decide_eq_decide.2 ⟨Eq.symm, Eq.symm⟩
end Go.Spec
namespace Go.Sym
open Go.Proofs Go.Spec
set_option linter.unusedVariables false
def gZs (xs : List AV) (bs : List ABlk) : TL := match xs, bs with
  | [], [] => .ok ⟨[], .bool true, [], []⟩
  | _, _ => .no
def spZs : Spec := ⟨[], fun _ _ => [], fun _ _ => [], gZs⟩
/-- Two of unlike lengths: nothing of them is looked at. -/
def gSl (xs : List AV) (bs : List ABlk) : TL := match xs, bs with
  | [.rb false a .unk, .ros p 1 m g nl], [] => .ok ⟨[a.length ≠ m, a.length < 4611686018427387904, m < 4611686018427387904], .bool false, [], []⟩
  | _, _ => .no
def spSl : Spec := ⟨[.by0, .r 1], fun _ _ => [], fun _ _ => [], gSl⟩
/-- One of two contracts, by what the second argument is. -/
def orRos (F G : Ctr) : Ctr := fun h xs fr => match xs with | [_, .ros _ _ _ _ _] => G h xs fr | _ => F h xs fr
theorem COK.orRos {P : Program} {gl : Gl} {f : FuncId} {F G : Ctr} (h1 : COK P gl f F) (h2 : COK P gl f G) : COK P gl f (orRos F G) := by
  refine ⟨h1.1, fun M w κ hs h xs vals fr r a1 a2 a3 a4 a5 a6 a7 a8 a9 hsel ho => ?_⟩
  unfold Go.Sym.orRos at hsel
  split at hsel
  · exact h2.2 M w κ hs h _ vals fr r a1 a2 a3 a4 a5 a6 a7 a8 a9 hsel ho
  · exact h1.2 M w κ hs h _ vals fr r a1 a2 a3 a4 a5 a6 a7 a8 a9 hsel ho
end Go.Sym
namespace Go.Sym
def lsNo : LS := ⟨Nat, fun _ => [], fun _ => [], 100, fun _ => 0, fun _ => False, fun _ => []⟩
end Go.Sym

namespace Go.Sym
open Go.Proofs Go.Spec
set_option linter.unusedVariables false
set_option maxRecDepth 100000 in
theorem vz10  : bodyP Tryd.prog B6 gl0 [] [] 3000 Tryd.f10 0 [] [] (retQ Tryd.prog Tryd.f10 0 ⟨[], .bool true, [], []⟩) = (
let x1 := [BitVec.ofNat 8 97, BitVec.ofNat 8 98, BitVec.ofNat 8 99]; 0 < 3 ∧ 0 < 3 ∧ 3 = 3 ∧ 3 < 4611686018427387904 ∧ @Bool.rec (fun _ => Prop) (Bool.true = Bool.false ∧ True) (@Bool.rec (fun _ => Prop) (Bool.true = Bool.false ∧ True) (@Bool.rec (fun _ => Prop) (Bool.true = Bool.false ∧ True) (32 < 4611686018427387904 ∧ Bool.true = sameB (rg 32 (shaB x1)) (rg 32 (shaB x1)) ∧ True) (decide (shaB x1 31 = BitVec.ofNat 8 173))) (decide (shaB x1 1 = BitVec.ofNat 8 120))) (decide (shaB x1 0 = BitVec.ofNat 8 186)) : Prop) := by kernel_rfl
set_option maxRecDepth 100000 in
theorem vz11 (a : By) (p : Bool) (m : Nat) (g : Nat → List AV) (nl : NL) : bodyP Tryd.prog B5 gl0 [] [(6, lsNo)] 3000 Tryd.f11 0 [.rb false a .unk, .ros p 1 m g nl] [] (retQ Tryd.prog Tryd.f11 0 ⟨[], .bool false, [], []⟩) = (
@Bool.rec (fun _ => Prop) ((∃ (x : Nat), False ∧ True) ∧ ∀ (x : Nat), False → False) (Bool.false = Bool.false ∧ True) !decide ((↑(List.length a) : Int) = (↑m : Int)) : Prop) := by kernel_rfl
theorem bz10 : Must (bodyP Tryd.prog B6 gl0 [] [] 3000 Tryd.f10 0 [] [] (retQ Tryd.prog Tryd.f10 0 ⟨[], .bool true, [], []⟩)) := by
  constructor
  rw [vz10]
  intro x1
  rw [decide_eq_true (show shaB x1 0 = BitVec.ofNat 8 186 from abc0'), decide_eq_true (show shaB x1 1 = BitVec.ofNat 8 120 from abc1'), decide_eq_true (show shaB x1 31 = BitVec.ofNat 8 173 from abc31')]
  exact ⟨by omega, by omega, rfl, by omega, by omega, (sameB_self' _).symm, trivial⟩
theorem cZs : COK Tryd.prog gl0 10 (mkF spZs) := by
  refine ctrE (fn := Tryd.f10) [] 3000 (by kernel_rfl) (by kernel_rfl) okB6 (by kernel_rfl) (fun args w => by kernel_rfl) fun xs bs r hs ho => ?_
  replace hs : (gZs xs bs).sel = some r := hs
  unfold gZs at hs
  split at hs
  · simp only [TL.sel, Option.some.injEq] at hs
    subst hs
    exact ⟨_, bz10⟩
  · simp [TL.sel] at hs
theorem bz11 (a : By) (p : Bool) (m : Nat) (g : Nat → List AV) (nl : NL) (h : a.length ≠ m) : Must (bodyP Tryd.prog B5 gl0 [] [(6, lsNo)] 3000 Tryd.f11 0 [.rb false a .unk, .ros p 1 m g nl] [] (retQ Tryd.prog Tryd.f11 0 ⟨[], .bool false, [], []⟩)) := by
  constructor
  rw [vz11, decide_eq_false (show ¬ (↑(List.length a) : Int) = (↑m : Int) by omega)]
  exact ⟨rfl, trivial⟩
theorem cSl : COK Tryd.prog gl0 11 (mkF spSl) := by
  refine ctrE (fn := Tryd.f11) [] 3000 (by kernel_rfl) (by kernel_rfl) okB5 (by kernel_rfl) (fun args w => by kernel_rfl) fun xs bs r hs ho => ?_
  replace hs : (gSl xs bs).sel = some r := hs
  unfold gSl at hs
  split at hs
  · simp only [TL.sel, Option.some.injEq] at hs
    subst hs
    exact ⟨_, bz11 _ _ _ _ _ (obsT_cons.1 ho).1⟩
  · simp [TL.sel] at hs
def Ctx.withKeep' (Γ : Ctx) (l : List String) : Ctx := ⟨Γ.fn, l, Γ.sym, Γ.frz⟩
theorem COKs.withKeep' {P : Program} {gl : Gl} {Γ : Ctx} (h : COKs P gl Γ) (l : List String) : COKs P gl (Γ.withKeep' l) := h
noncomputable def Z1 : Ctx := ((B6.add 10 (mkF spZs)).add 11 (orRos (mkF spSm) (mkF spSl))).withKeep' ["~law.go:31"]
theorem okZ1 : COKs Tryd.prog gl0 Z1 := ((okB6.add cZs).add (c17.orRos cSl)).withKeep' ["~law.go:31"]
end Go.Sym

set_option linter.unusedSimpArgs false
namespace Go.Sym
open Go.Proofs Go.Spec
set_option linter.unusedVariables false
set_option maxRecDepth 100000 in
theorem vz3 (a : By) (c : Bool) (n : Int) (t : BitVec 8) : bodyP Tryd.prog Z1 gl0 [] [] 3000 Tryd.f3 0 [.rb true a (.is c), .int .i64 n, .u8 t] [] (retQ Tryd.prog Tryd.f3 0 ⟨[], .bool true, [], []⟩) = (
let x1 := ([] ++ a).set (IntKind.i64.wrap (↑(BitVec.ofInt 64 n % BitVec.ofInt 64 (↑(List.length a) : Int)).toNat : Int)).toNat (([] ++ a).getD (IntKind.i64.wrap (↑(BitVec.ofInt 64 n % BitVec.ofInt 64 (↑(List.length a) : Int)).toNat : Int)).toNat (0 : BitVec 8) ^^^ t); let x2 := IntKind.i64.wrap (↑(BitVec.ofInt 64 n % BitVec.ofInt 64 (↑(List.length a) : Int)).toNat : Int); let x3 := 0 + List.length a = ([] ++ a).length; let x4 := 0 + List.length a = x1.length ∧ x1.length < 4611686018427387904 ∧ 0 + List.length a = x1.length ∧ List.length a < 4611686018427387904 ∧ Bool.true = decide (sameB x1 a = sameB a x1) ∧ True; let x5 := x3 ∧ ([] ++ a).length < 4611686018427387904 ∧ x3 ∧ List.length a < 4611686018427387904 ∧ Bool.true = decide (sameB ([] ++ a) a = sameB a ([] ++ a)) ∧ True; 0 = 0 ∧ roomFor 0 (List.length a) 1 ∧ x3 ∧ List.length a < 4611686018427387904 ∧ @Bool.rec (fun _ => Prop) (Bool.true = Bool.false ∧ True) (1 = 1 ∧ x3 ∧ roomFor (0 + List.length a) 1 1 ∧ List.length a ≠ 0 + List.length a + 1 ∧ List.length a < 4611686018427387904 ∧ 0 + List.length a + 1 < 4611686018427387904 ∧ @Bool.rec (fun _ => Prop) (x3 ∧ List.length a < 4611686018427387904 ∧ @Bool.rec (fun _ => Prop) (@Bool.rec (fun _ => Prop) (Bool.true = Bool.false ∧ True) x5 (decide (sameB a ([] ++ a) = Bool.true))) (@Bool.rec (fun _ => Prop) (Bool.true = Bool.false ∧ True) x5 (decide (sameB a ([] ++ a) = decide ((↑(List.length a) : Int) = (0 : Int))))) !decide (t = BitVec.ofNat 8 0)) ((BitVec.ofInt 64 (↑(List.length a) : Int)).toNat ≠ 0 ∧ (0 : Int) ≤ x2 ∧ x2.toNat < 0 + List.length a ∧ x2.toNat < ([] ++ a).length ∧ (0 : Int) ≤ x2 ∧ x2.toNat < 0 + List.length a ∧ x2.toNat < ([] ++ a).length ∧ 0 + List.length a = x1.length ∧ List.length a < 4611686018427387904 ∧ @Bool.rec (fun _ => Prop) (@Bool.rec (fun _ => Prop) (Bool.true = Bool.false ∧ True) x4 (decide (sameB a x1 = Bool.true))) (@Bool.rec (fun _ => Prop) (Bool.true = Bool.false ∧ True) x4 (decide (sameB a x1 = decide ((↑(List.length a) : Int) = (0 : Int))))) !decide (t = BitVec.ofNat 8 0)) (decide ((0 : Int) < (↑(List.length a) : Int)))) !!sameB a ([] ++ a) : Prop) := by kernel_rfl
theorem nd1 {p : Prop} [Decidable p] (h : p) : (!decide p) = false := by rw [decide_eq_true h]; rfl
theorem nd0 {p : Prop} [Decidable p] (h : ¬ p) : (!decide p) = true := by rw [decide_eq_false h]; rfl
theorem bz3 (a : By) (c : Bool) (n : Int) (t : BitVec 8) (h : a.length ≤ 140737488351232) : Must (bodyP Tryd.prog Z1 gl0 [] [] 3000 Tryd.f3 0 [.rb true a (.is c), .int .i64 n, .u8 t] [] (retQ Tryd.prog Tryd.f3 0 ⟨[], .bool true, [], []⟩)) := by
  constructor
  rw [vz3]
  generalize hA : (([] : List (BitVec 8)) ++ a) = A
  have hB : A = a := hA.symm
  clear hA
  subst A
  intro x1 x2 x3 x4 x5
  have hx3 : x3 := Nat.zero_add _
  have hx5 : x5 := ⟨hx3, by omega, hx3, by omega, (decide_eq_true rfl).symm, trivial⟩
  have hx1 : x1 = a.set x2.toNat (a.getD x2.toNat 0 ^^^ t) := rfl
  have hx1l : x1.length = a.length := by rw [hx1, List.length_set]
  have hx4 : x4 := ⟨by omega, by omega, by omega, by omega, by rw [decide_eq_true (sameB_comm x1 a)], trivial⟩
  have hx2 : 0 < a.length → 0 ≤ x2 ∧ x2.toNat < a.length := by
    intro hp
    have e : (BitVec.ofInt 64 (a.length : Int)).toNat = a.length := by
      rw [BitVec.ofInt_natCast, BitVec.toNat_ofNat]
      exact Nat.mod_eq_of_lt (by omega)
    have e2 : (BitVec.ofInt 64 n % BitVec.ofInt 64 (a.length : Int)).toNat < a.length := by
      rw [BitVec.toNat_umod, e]
      exact Nat.mod_lt _ hp
    have e3 : x2 = ((BitVec.ofInt 64 n % BitVec.ofInt 64 (a.length : Int)).toNat : Int) := wrap_i64 (by omega) (by omega)
    omega
  clear_value x3 x4 x5 x2 x1
  subst hx1
  refine ⟨rfl, by unfold roomFor; omega, hx3, by omega, ?_⟩
  rw [sameB_self']
  refine ⟨rfl, hx3, by unfold roomFor; omega, by omega, by omega, by omega, ?_⟩
  refine brec (fun d => ?_) (fun d => ?_)
  · have d := dlt.1 d
    obtain ⟨k1, k2⟩ := hx2 (by omega)
    have e : (BitVec.ofInt 64 (a.length : Int)).toNat = a.length := by
      rw [BitVec.ofInt_natCast, BitVec.toNat_ofNat]
      exact Nat.mod_eq_of_lt (by omega)
    refine ⟨by omega, k1, by omega, k2, k1, by omega, k2, by omega, by omega, ?_⟩
    by_cases ht : t = BitVec.ofNat 8 0
    · rw [nd1 ht]
      have : sameB a (a.set x2.toNat (a.getD x2.toNat 0 ^^^ t)) = true := by
        rw [sameB_eq, decide_eq_true_eq, ht, BitVec.xor_zero]
        apply List.ext_getElem?
        intro j
        rw [List.getElem?_set]
        split
        · rename_i hj
          subst hj
          simp [List.getD, k2]
        · rfl
      rw [this, decide_eq_true rfl]
      exact hx4
    · rw [nd0 ht]
      have : sameB a (a.set x2.toNat (a.getD x2.toNat 0 ^^^ t)) = false := by
        rw [sameB_eq, decide_eq_false_iff_not]
        intro he
        have h1 := congrArg (fun l => l.getD x2.toNat 0) he
        simp only [List.getD, List.getElem?_set, if_true, if_pos k2, List.getElem?_eq_getElem k2, Option.getD_some] at h1
        apply ht
        have h2 := congrArg (fun z => a[x2.toNat] ^^^ z) h1
        simp only [← BitVec.xor_assoc, BitVec.xor_self, BitVec.zero_xor] at h2
        exact h2.symm
      rw [this, decide_eq_false (show ¬ (↑a.length : Int) = 0 by omega), decide_eq_true rfl]
      exact hx4
  · have d := ndlt.1 d
    have h0 : a.length = 0 := by omega
    refine ⟨hx3, by omega, ?_⟩
    by_cases ht : t = BitVec.ofNat 8 0
    · rw [nd1 ht]
      exact hx5
    · rw [nd0 ht, decide_eq_true (show (↑a.length : Int) = 0 by omega)]
      exact hx5
end Go.Sym

namespace Go.Sym
open Go.ChangeShapes Go.WideShapes
section
variable {H : Type} {enc : TypeId × Value → H} {P : Program} {W : World} {base : Nat} {spare : Nat → Bool} {held : Bool}
/-- No bytes that are handed in reach beyond what a process can hold. -/
theorem weight_bytes {t e : TypeId} {fuel : Nat} {d : DataW H} {p : List MemPlace} {κ : Ker} {v : Value} {l : List (BitVec 8)} {nl : NL} (ht : P.underlying t = some (.slice e)) (hb : P.bytesOf e = 1)
    (h : DataW.trod enc P W base spare held fuel t [v] = some (d, p)) (hv : VRel κ (.rb true l nl) v) (hw : (d.weights P t).all (· ≤ reachBytes) = true) : l.length ≤ 140737488351232 := by
  obtain ⟨a, k, rfl, _⟩ := hv
  rcases DataW.trod_slice ht h with ⟨hcs, _⟩ | ⟨a', len, cap, elems, rest, n, _, hcs, hx, _, _, _, hl, _⟩
  · simp only [List.cons.injEq, Value.slice.injEq, and_true] at hcs
    omega
  · simp only [List.cons.injEq, Value.slice.injEq, and_true] at hcs
    simp only [Prod.mk.injEq] at hx
    rw [hx.1] at hw
    simp only [DataW.weights, ht, List.all_cons, Bool.and_eq_true, decide_eq_true_eq, List.length_map, hb, Nat.mul_one] at hw
    have : (reachBytes : Nat) = 140737488351232 := rfl
    omega
end
end Go.Sym

/- ShaSames: of all two it is told whether they are the same. Condition: the two tables of the package start as the text of the program lays them, which the card ties. -/
namespace Go.Sym
open Go.Proofs Go.Spec
theorem w3 (W : World) (hG : GW gl0 W) (v0 : Value) (l0 : List (BitVec 8)) (c0 : Bool) (h0 : VRel (κW W) (.rb true l0 (.is c0)) v0) (_k0 : l0.length ≤ 140737488351232) (n1 : Int) (v2 : Value) (n2 : BitVec 8) (h2 : VRel (κW W) (.u8 n2) v2) :
    Calls Tryd.prog 3 #[v0, .int .i64 n1, v2] W fun e w' => e = .returned (.bool true) ∧ RowKit.Below W.heap.size W w' := by
  have hv : VRels (κW W) [.rb true l0 (.is c0), .int .i64 n1, .u8 n2] [v0, .int .i64 n1, v2] := by
    simp only [VRels]
    exact ⟨_, _, rfl, h0, _, _, rfl, rfl, _, _, rfl, h2, rfl⟩
  refine law_walk (gl := gl0) (Γ := Z1) (fn := Tryd.f3) (av := [.rb true l0 (.is c0), .int .i64 n1, .u8 n2]) (ls := []) [] 3000 (by kernel_rfl) (by kernel_rfl) okZ1 (by kernel_rfl) hG (by kernel_rfl) hv ?_
  exact bz3 l0 c0 n1 n2 _k0
end Go.Sym
namespace Go.Proofs.YtmpgpbbaloiniaaDoor.shaSames
open Go.ChangeShapes Go.WideShapes Go.ChangeAt Go.WideMaps Go.WideElems Go.RowKit
set_option linter.unusedVariables false
set_option maxRecDepth 100000 in
theorem lifted (os : Os) (started : os.Started) (H : Type) (enc : TypeId × Value → H) :
    ReturnsInHanded {} Tryd.checked os 3 .any (fun w args => (Rows.shaSamesSpec.pre enc Tryd.prog Tryd.f3 [] false w args ∧ laidMetH Tryd.prog laid2 w) ∧ sizedMet enc Tryd.prog Tryd.f3 (OpenSpec.ofChange Rows.shaSamesSpec) false w args)
      (Rows.shaSamesSpec.post enc Tryd.prog Tryd.f3 false true false false) := by
  refine returnsInHanded_of_change_and (C := Tryd.checked) (X := fun w _ => laidMetH Tryd.prog laid2 w) (fun _ _ _ hh h => h.of_heap hh) own started (by kernel_rfl) Tryd.func3
    (ChangeSpec.witness_shaped (enc := enc) (C := Tryd.checked) (os := os) (X := fun w _ => laidMetH Tryd.prog laid2 w) false (World.doorLaid Tryd.prog 400 os) #[.slice none 0 0, .int .i64 0, .int .u8 0] 8 rfl (World.shaped_of_RefB (by kernel_rfl) (by kernel_rfl)) (by kernel_rfl) (by kernel_rfl) (by kernel_rfl) (door_met os _)) ?_
  intro W base args ds gs before hval0 hW _ hwt hL _
  have hval : ∀ (j : Nat) t v, Tryd.f3.params[j]? = some t → args[j]? = some v → Value.okWide Tryd.prog W .any base t v := hval0
  have hW' := hW
  obtain ⟨p, q, hA0, hV, rfl, hfz, hnd⟩ := hW
  have hA : DataW.TrodAll enc Tryd.prog W 0 (fun _ => true) true Tryd.f3.params.toList args.toList ds p := hA0
  rw [Tryd.params3] at hA hval
  obtain ⟨v0, vs0, d0, ds0, p0, q0, hargs, rfl, rfl, h0, r0⟩ := trodAll_cons hA
  obtain ⟨v1, vs1, d1, ds1, p1, q1, rfl, rfl, rfl, h1, r1⟩ := trodAll_cons r0
  obtain ⟨v2, vs2, d2, ds2, p2, q2, rfl, rfl, rfl, h2, r2⟩ := trodAll_cons r1
  obtain ⟨rfl, rfl, rfl⟩ := trodAll_nil r2
  obtain rfl : args = #[v0, v1, v2] := by cases args; simp_all
  obtain ⟨rfl, rfl⟩ := trodVars_none hV
  obtain ⟨a1, rfl, rfl, rfl, w1⟩ := open_int Tryd.underlying3 (hval 1 3 v1 rfl rfl) h1
  obtain ⟨a2, rfl, rfl, rfl, w2⟩ := open_int Tryd.underlying5 (hval 2 5 v2 rfl rfl) h2
  clear hA0 hval0
  have hlt0 : ∀ x ∈ p0, x.block < W.heap.size := fun x hx => hW'.lt x (by simp [hx])
  obtain ⟨fuel0, hf0⟩ := h0
  obtain ⟨u0, l0, c0, hc0, hcl0, hll0, hu0⟩ := Go.Sym.rd_bytes Tryd.underlying22 Tryd.underlying5 (by kernel_rfl) hf0
  have hv0 : v0 = u0 := Go.Sym.cells_slice Tryd.underlying22 (hval 0 22 v0 rfl rfl) hc0
  subst hv0
  have hk0 : l0.length ≤ 140737488351232 := by
    have hf0' := hf0
    rw [hc0] at hf0'
    refine Go.Sym.weight_bytes (P := Tryd.prog) Tryd.underlying22 (by kernel_rfl) hf0' hu0 ?_
    have h1 := hwt
    rw [Tryd.params3] at h1
    change (d0.weights Tryd.prog 22 ++ _).all _ = true at h1
    rw [List.all_append, Bool.and_eq_true] at h1
    exact h1.1
  refine (Go.Sym.w3 W (gw_laid hL) v0 l0 c0 hu0 hk0 a1 (.int .u8 a2) (BitVec.ofInt 8 a2) (Go.Sym.rel_u8 w2)).mono fun e W' ⟨he, bel⟩ => ?_
  subst he
  exact ⟨_, rfl, _, _, _, [], _, [], hW', trodAll_mk1 (shut_bool Tryd.underlying4 _), (trodAll_cons_mk (Below.trod laidO (by kernel_rfl) (of_decide_eq_true (by kernel_rfl)) ⟨fuel0, hf0⟩ bel hlt0) (trodAll_cons_mk (shut_int Tryd.underlying3 w1) (trodAll_cons_mk (shut_int Tryd.underlying5 w2) trodAll_mk0))), rfl, bel.frame _, fun h => by cases h⟩

theorem over : Rows.shaSamesRow.holds Tryd.pinned (OpenSpec.ofChange Rows.shaSamesSpec) :=
  OpenClaim.holds_of_wide 3 Tryd.f3 rfl rfl rfl rfl rfl rfl rfl ⟨rfl, rfl, rfl, rfl, rfl⟩ rfl rfl rfl rfl rfl (by kernel_rfl) Tryd.func3 (by kernel_rfl)
    (of_decide_eq_true (by kernel_rfl)) (by unfold Func.isWrapper; first | (rw [if_pos (by decide +kernel)]; kernel_rfl) | (rw [if_neg (by decide +kernel)]; exact ⟨rfl, rfl⟩))
    (fun os started H enc _ => lifted os started H enc)

theorem proved : Rows.ShaSamesCardSaid :=
  Claim7.holds_tied_plain_at .later [] [.data, .data] true (true, "509a89b67618beb9fd1f9164ca8e5d72b3360772a5436b980171c475dab6690a") false
    over (fun _ h => by cases h) (by kernel_rfl) (fun _ h => by cases h) shaSames_row_tie rfl ⟨rfl, rfl⟩ (by kernel_rfl) rfl
    (fun f fn hf hfn => by
      obtain rfl : f = 3 := Option.some.inj ((show Tryd.prog.funcNamed "relay/relaylaw01.ShaSames" = some 3 by kernel_rfl).symm.trans hf) |>.symm
      obtain rfl : fn = Tryd.f3 := (Option.some.inj (Tryd.func3.symm.trans hfn)).symm
      exact ⟨by kernel_rfl, fun j t ht => by
        rw [Tryd.params3] at ht
        have hm : t ∈ [22, 3, 5] := by simpa using Array.mem_of_getElem? ht
        have hall : ([22, 3, 5].all fun u => !Tryd.prog.wantsStandIn u) = true := by kernel_rfl
        exact (show Tryd.prog.wantsStandIn t = false by simpa using List.all_eq_true.1 hall t hm)⟩)
    (by kernel_rfl)
#print axioms proved
end Go.Proofs.YtmpgpbbaloiniaaDoor.shaSames
