/- A disk; pieces of bytes, handed out by the iterator; bytes put sector by sector. -/
import Derived.Test.YtmpgpbbaloiniaaDoorShaB
import Derived.Test.YtmpgpbbaloiniaaDoorSymC
import Derived.Test.YtmpgpbbaloiniaaDoorShaA
import Derived.OpenShut
import Derived.RangeFuncBox
import Derived.Shelf.Abstract
import Derived.WalkKit
import Derived.OwnWalkIn
import Derived.TacticsInMore
import Derived.LoopNIn
import Derived.LoopIn
import Derived.Test.YtmpgpbbaloiniaaDoorProg
/- A disk: the calls of the program. -/
namespace Go.Spec
open Go.Sym
/-- Why a write, or a read, is refused (a read: n = 64). -/
def dwR (sz : Nat) (on : Bool) (i : Int) (n : Nat) : Int := if on = false then 6 else if i < 0 ∨ (sz : Int) ≤ i then 1 else if n ≠ 64 then 1 else 0
/-- Bytes put into a sector. -/
def dPut (L : By) (i : Nat) (c : By) : By := L.take (i * 64) ++ (c ++ L.drop (i * 64 + c.length))
/-- A sector. -/
def dGet (L : By) (i : Nat) : By := (L.drop (i * 64)).take 64
end Go.Spec
namespace Go.Sym
open Go.Proofs Go.Spec
set_option linter.unusedVariables false
def dkA (sz : Nat) (w : Int) : ABlk := ⟨.cells [.slice 1 0 64 sz .ow (.is false), .bool true, .int .i64 w, .int .i64 (-1), .int .i64 0], true, 0⟩
def dkL (L : By) : ABlk := ⟨.bytes L, true, 64⟩
noncomputable def D0 : Ctx := .none ["#disk.go:27"]
theorem okD0 : COKs Tryd.prog gl0 D0 := COKs.none
noncomputable def D1 : Ctx := D0.exe Tryd.prog gl0 [] 400 Tryd.f26.params.size 26 Tryd.f26
theorem okD1 : COKs Tryd.prog gl0 D1 := okD0.exe [] 400 _ (by kernel_rfl) (by kernel_rfl) (by kernel_rfl) (fun args w => by kernel_rfl)
noncomputable def D2 : Ctx := D1.exe Tryd.prog gl0 [] 400 Tryd.f136.params.size 136 Tryd.f136
theorem okD2 : COKs Tryd.prog gl0 D2 := okD1.exe [] 400 _ (by kernel_rfl) (by kernel_rfl) (by kernel_rfl) (fun args w => by kernel_rfl)
noncomputable def D3 : Ctx := D2.exe Tryd.prog gl0 [] 400 Tryd.f62.params.size 62 Tryd.f62
theorem okD3 : COKs Tryd.prog gl0 D3 := okD2.exe [] 400 _ (by kernel_rfl) (by kernel_rfl) (by kernel_rfl) (fun args w => by kernel_rfl)
end Go.Sym

namespace Go.Sym
open Go.Proofs Go.Spec
set_option linter.unusedVariables false
set_option maxRecDepth 100000 in
theorem vjW (L b L2 : By) (sz : Nat) (w w2 i e : Int) : bodyP Tryd.prog D3 gl0 [] [] 3000 Tryd.f103 2 [.ptr 0 0 0 0, .int .i64 i, .rb false b .unk] [dkA sz w, dkL L] (retQ Tryd.prog Tryd.f103 2 ⟨[], .int .i64 e, [some (some (dkA sz w2)), some (some (dkL L2))], []⟩) = (
let x1 := e = (1 : Int) ∧ Bool.false = Bool.false ∧ 0 = 0 ∧ 0 = 0 ∧ 0 = 0 ∧ sz = sz ∧ Bool.true = Bool.true ∧ w2 = w ∧ Int.negSucc 0 = Int.negSucc 0 ∧ (0 : Int) = (0 : Int) ∧ L2 = L ∧ True; @Bool.rec (fun _ => Prop) x1 (@Bool.rec (fun _ => Prop) (@Bool.rec (fun _ => Prop) ((0 : Int) ≤ i ∧ i.toNat < sz ∧ plus (i.toNat * 64) 0 + 64 ≤ List.length L ∧ e = (0 : Int) ∧ Bool.false = Bool.false ∧ 0 = 0 ∧ 0 = 0 ∧ 0 = 0 ∧ sz = sz ∧ Bool.true = Bool.true ∧ w2 = IntKind.i64.wrap (w + (1 : Int)) ∧ Int.negSucc 0 = Int.negSucc 0 ∧ (0 : Int) = (0 : Int) ∧ L2 = List.take (plus (i.toNat * 64) 0) L ++ (List.take 64 b ++ List.drop (plus (i.toNat * 64) 0 + Min.min (List.length b) 64) L) ∧ True) x1 !decide ((↑(List.length b) : Int) = (64 : Int))) x1 (decide ((↑sz : Int) ≤ i))) !decide (i < (0 : Int)) : Prop) := by kernel_rfl
set_option maxRecDepth 100000 in
theorem vjR (L B : By) (sz m : Nat) (w i e : Int) : bodyP Tryd.prog D3 gl0 [] [] 3000 Tryd.f99 2 [.ptr 0 0 0 0, .int .i64 i] [dkA sz w, dkL L] (retQ Tryd.prog Tryd.f99 2 ⟨[], .tup [.slice 2 0 1 m .ow .unk, .int .i64 e], [some (some (dkA sz w)), some (some (dkL L))], [⟨.bytes B, true, 1⟩]⟩) = (
let x1 := m = 0 ∧ e = (1 : Int) ∧ Bool.false = Bool.false ∧ 0 = 0 ∧ 0 = 0 ∧ 0 = 0 ∧ sz = sz ∧ Bool.true = Bool.true ∧ w = w ∧ Int.negSucc 0 = Int.negSucc 0 ∧ (0 : Int) = (0 : Int) ∧ L = L ∧ B = [] ∧ True; @Bool.rec (fun _ => Prop) x1 (@Bool.rec (fun _ => Prop) ((0 : Int) ≤ i ∧ i.toNat < sz ∧ plus (i.toNat * 64) 0 + 64 ≤ List.length L ∧ 0 = 0 ∧ roomFor 0 (List.take 64 (dropN (plus (i.toNat * 64) 0) L)).length 1 ∧ 0 = 0 ∧ 0 = 0 ∧ 0 = 0 ∧ m = 0 + (List.take 64 (dropN (plus (i.toNat * 64) 0) L)).length ∧ e = (0 : Int) ∧ Bool.false = Bool.false ∧ 0 = 0 ∧ 0 = 0 ∧ 0 = 0 ∧ sz = sz ∧ Bool.true = Bool.true ∧ w = w ∧ Int.negSucc 0 = Int.negSucc 0 ∧ (0 : Int) = (0 : Int) ∧ L = L ∧ B = [] ++ List.take 64 (dropN (plus (i.toNat * 64) 0) L) ∧ True) x1 (decide ((↑sz : Int) ≤ i))) !decide (i < (0 : Int)) : Prop) := by kernel_rfl
end Go.Sym

set_option linter.unusedSimpArgs false
namespace Go.Sym
open Go.Proofs Go.Spec
set_option linter.unusedVariables false
theorem plus_e (x n : Nat) : plus x n = x + n := by unfold plus; split <;> simp
theorem ntr {p : Prop} [Decidable p] (h : (!decide p) = true) : ¬ p := by simpa using h
theorem nfl {p : Prop} [Decidable p] (h : (!decide p) = false) : p := by simpa using h
theorem dtr {p : Prop} [Decidable p] (h : decide p = true) : p := of_decide_eq_true h
theorem dfl {p : Prop} [Decidable p] (h : decide p = false) : ¬ p := of_decide_eq_false h
theorem bjW (L b : By) (sz : Nat) (w i : Int) (hL : L.length = sz * 64) (h1 : 0 ≤ i) (h2 : i < sz) (hb : b.length = 64) (hw0 : 0 ≤ w) (hw : w < 4611686018427387904) :
    Must (bodyP Tryd.prog D3 gl0 [] [] 3000 Tryd.f103 2 [.ptr 0 0 0 0, .int .i64 i, .rb false b .unk] [dkA sz w, dkL L] (retQ Tryd.prog Tryd.f103 2 ⟨[], .int .i64 0, [some (some (dkA sz (w + 1))), some (some (dkL (dPut L i.toNat b)))], []⟩)) := by
  constructor
  rw [vjW]
  intro x1
  have hp : plus (i.toNat * 64) 0 = i.toNat * 64 := by rw [plus_e, Nat.add_zero]
  refine brec (fun _ => ?_) (fun h => absurd (nfl h) (by omega))
  refine brec (fun h => absurd (dtr h) (by omega)) (fun _ => ?_)
  refine brec (fun h => absurd hb (by have := ntr h; omega)) (fun _ => ?_)
  rw [hp]
  refine ⟨h1, by omega, by omega, rfl, rfl, rfl, rfl, rfl, rfl, rfl, (wrap_i64 (by omega) (by omega)).symm, rfl, rfl, ?_, trivial⟩
  unfold dPut
  rw [List.take_of_length_le (l := b) (i := 64) (by omega), Nat.min_eq_left (show b.length ≤ 64 by omega)]
theorem bjR (L : By) (sz : Nat) (w i : Int) (hL : L.length = sz * 64) (h1 : 0 ≤ i) (h2 : i < sz) :
    Must (bodyP Tryd.prog D3 gl0 [] [] 3000 Tryd.f99 2 [.ptr 0 0 0 0, .int .i64 i] [dkA sz w, dkL L] (retQ Tryd.prog Tryd.f99 2 ⟨[], .tup [.slice 2 0 1 64 .ow .unk, .int .i64 0], [some (some (dkA sz w)), some (some (dkL L))], [⟨.bytes (dGet L i.toNat), true, 1⟩]⟩)) := by
  constructor
  rw [vjR]
  intro x1
  have hp : plus (i.toNat * 64) 0 = i.toNat * 64 := by rw [plus_e, Nat.add_zero]
  have hB : dGet L i.toNat = List.take 64 (dropN (plus (i.toNat * 64) 0) L) := by unfold dGet; rw [hp, dropN_eq]
  have hl : (dGet L i.toNat).length = 64 := by unfold dGet; rw [List.length_take, List.length_drop]; omega
  refine brec (fun _ => ?_) (fun h => absurd (nfl h) (by omega))
  refine brec (fun h => absurd (dtr h) (by omega)) (fun _ => ?_)
  rw [← hB, hl, hp]
  exact ⟨h1, by omega, by omega, rfl, by unfold roomFor; omega, rfl, rfl, rfl, rfl, rfl, rfl, rfl, rfl, rfl, rfl, rfl, rfl, rfl, rfl, rfl, rfl, trivial⟩
def gjW (xs : List AV) (bs : List ABlk) : TL := match xs, bs with
  | [.ptr 0 0 0 0, .int .i64 i, .rb false b .unk], [⟨.cells [.slice 1 0 64 sz .ow (.is false), .bool true, .int .i64 w, .int .i64 (-1), .int .i64 0], true, 0⟩, ⟨.bytes L, true, 64⟩] =>
    .ok ⟨[L.length = sz * 64, 0 ≤ i, i < sz, b.length = 64, 0 ≤ w, w < 4611686018427387904], .int .i64 0, [some (some (dkA sz (w + 1))), some (some (dkL (dPut L i.toNat b)))], []⟩
  | _, _ => .no
def spjW : Spec := ⟨[.kp, .kp, .by0], fun xs h => reachX h 200 (namesL (xs.take 1)) [], kinds, gjW⟩
theorem cjW : COK Tryd.prog gl0 103 (mkF spjW) := by
  refine ctrE (fn := Tryd.f103) [] 3000 (by kernel_rfl) (by kernel_rfl) okD3 (by kernel_rfl) (fun args w => by kernel_rfl) fun xs bs r hs ho => ?_
  replace hs : (gjW xs bs).sel = some r := hs
  unfold gjW at hs
  split at hs
  · simp only [TL.sel, Option.some.injEq] at hs
    subst hs
    obtain ⟨h1, ho⟩ := obsT_cons.1 ho
    obtain ⟨h2, ho⟩ := obsT_cons.1 ho
    obtain ⟨h3, ho⟩ := obsT_cons.1 ho
    obtain ⟨h4, ho⟩ := obsT_cons.1 ho
    obtain ⟨h5, ho⟩ := obsT_cons.1 ho
    exact ⟨_, bjW _ _ _ _ _ h1 h2 h3 h4 h5 (obsT_one.1 ho)⟩
  · simp [TL.sel] at hs
def gjR (xs : List AV) (bs : List ABlk) : TL := match xs, bs with
  | [.ptr 0 0 0 0, .int .i64 i], [⟨.cells [.slice 1 0 64 sz .ow (.is false), .bool true, .int .i64 w, .int .i64 (-1), .int .i64 0], true, 0⟩, ⟨.bytes L, true, 64⟩] =>
    .ok ⟨[L.length = sz * 64, 0 ≤ i, i < sz], .tup [.slice 2 0 1 64 .ow .unk, .int .i64 0], [some (some (dkA sz w)), some (some (dkL L))], [⟨.bytes (dGet L i.toNat), true, 1⟩]⟩
  | _, _ => .no
def spjR : Spec := ⟨[.kp, .kp], fun xs h => reachX h 200 (namesL (xs.take 1)) [], kinds, gjR⟩
theorem cjR : COK Tryd.prog gl0 99 (mkF spjR) := by
  refine ctrE (fn := Tryd.f99) [] 3000 (by kernel_rfl) (by kernel_rfl) okD3 (by kernel_rfl) (fun args w => by kernel_rfl) fun xs bs r hs ho => ?_
  replace hs : (gjR xs bs).sel = some r := hs
  unfold gjR at hs
  split at hs
  · simp only [TL.sel, Option.some.injEq] at hs
    subst hs
    obtain ⟨h1, ho⟩ := obsT_cons.1 ho
    obtain ⟨h2, ho⟩ := obsT_cons.1 ho
    exact ⟨_, bjR _ _ _ _ h1 h2 (obsT_one.1 ho)⟩
  · simp [TL.sel] at hs
end Go.Sym

/- What is handed in from outside: plain data of any shape. -/
namespace Go.Sym
set_option linter.unusedVariables false
set_option linter.unusedSimpArgs false
open Go.ChangeShapes Go.WideShapes
inductive Sh where
  | i (k : IntKind)
  | b
  | s
  | y
def Sh.ok : Sh → AV → Prop
  | .i .u8, a => ∃ x, a = .u8 x
  | .i .u16, a => ∃ x, a = .u16 x
  | .i .u32, a => ∃ x, a = .u32 x
  | .i .u64, a => ∃ x, a = .u64 x
  | .i k, a => ∃ n, a = .int k n ∧ (Lit.int k n).wf = true
  | .b, a => ∃ c, a = .bool c
  | .s, a => ∃ l, a = .str l ∧ l.length ≤ maxLen
  | .y, a => ∃ l c, a = .rb true l (.is c) ∧ (c = true → l = []) ∧ l.length ≤ maxLen
def shAll : List Sh → List AV → Prop
  | [], [] => True
  | k :: ss, a :: az => k.ok a ∧ shAll ss az
  | _, _ => False
theorem shAll_append : ∀ {l m : List Sh} {az bs : List AV}, shAll l az → shAll m bs → shAll (l ++ m) (az ++ bs)
  | [], _, [], _, _, k => k
  | _ :: _, _, _ :: _, _, h, k => ⟨h.1, shAll_append h.2 k⟩
  | [], _, _ :: _, _, h, _ => h.elim
  | _ :: _, _, [], _, h, _ => h.elim
theorem datas_append {p : Bool} : ∀ {az bs : List AV}, datas p az = true → datas p bs = true → datas p (az ++ bs) = true
  | [], _, _, k => k
  | a :: az, _, h, k => by
    simp only [datas, Bool.and_eq_true, List.cons_append] at h ⊢
    exact ⟨h.1, datas_append h.2 k⟩
def flatFs (P : Program) (g : TypeId → Option (List Sh)) : List Field → Nat → Option (List Sh)
  | [], _ => some []
  | f :: fs, o => if f.offset = o then (g f.type).bind fun l => if P.cellsOf f.type = l.length then (flatFs P g fs (o + l.length)).map (l ++ ·) else none else none
def flat (P : Program) : Nat → TypeId → Option (List Sh)
  | 0, _ => none
  | f + 1, t => match P.underlying t with
    | some (.int k) => some [.i k]
    | some .bool => some [.b]
    | some .string => some [.s]
    | some (.slice e) => (match P.underlying e with | some (.int .u8) => if P.cellsOf e = 1 then some [.y] else none | _ => none)
    | some (.array n e) => (flat P f e).bind fun l => if P.cellsOf e = l.length ∧ P.cellsOf t = n * l.length then some (List.replicate n l).flatten else none
    | some (.struct fs) => (flatFs P (flat P f) fs.toList 0).bind fun l => if P.cellsOf t = l.length then some l else none
    | _ => none

section
variable {H : Type} {enc : TypeId × Value → H} {P : Program} {W : World} {base : Nat} {spare : Nat → Bool} {held : Bool}
def Read (W : World) (l : List Sh) (cs : List Value) : Prop := ∃ avs, shAll l avs ∧ datas true avs = true ∧ VRels (κW W) avs cs
theorem Read.append {l m : List Sh} {cs ds : List Value} (h : Read W l cs) (k : Read W m ds) : Read W (l ++ m) (cs ++ ds) := by
  obtain ⟨a, h1, h2, h3⟩ := h
  obtain ⟨b, k1, k2, k3⟩ := k
  exact ⟨a ++ b, shAll_append h1 k1, datas_append h2 k2, VRels.append h3 k3⟩
theorem read_arr {l : List Sh} {m : Nat} : ∀ (n : Nat) (cs : List Value), cs.length = n * m → (∀ i, i < n → Read W l ((cs.drop (i * m)).take m)) → Read W (List.replicate n l).flatten cs
  | 0, cs, hl, _ => by
    have : cs = [] := List.eq_nil_of_length_eq_zero (by simpa using hl)
    subst this
    exact ⟨[], trivial, rfl, rfl⟩
  | n + 1, cs, hl, h => by
    have h0 := h 0 (by omega)
    simp only [Nat.zero_mul, List.drop_zero] at h0
    have hr := read_arr (m := m) n (cs.drop m) (by rw [List.length_drop, hl, Nat.succ_mul]; omega) (fun i hi => by
      have := h (i + 1) (by omega)
      rw [List.drop_drop]
      rw [Nat.add_mul, Nat.one_mul, Nat.add_comm] at this
      exact this)
    have := h0.append hr
    rw [List.take_append_drop] at this
    simpa [List.replicate_succ] using this
theorem read_fs {g : TypeId → Option (List Sh)} {cs : List Value} : ∀ (fs : List Field) (o : Nat) (l : List Sh), flatFs P g fs o = some l → cs.length = o + l.length →
    (∀ f l', f ∈ fs → g f.type = some l' → Read W l' ((cs.drop f.offset).take (P.cellsOf f.type))) → Read W l (cs.drop o)
  | [], o, l, h, hl, _ => by
    simp only [flatFs, Option.some.injEq] at h
    subst h
    have : cs.drop o = [] := List.drop_eq_nil_of_le (by simp at hl; omega)
    rw [this]
    exact ⟨[], trivial, rfl, rfl⟩
  | f :: fs, o, l, h, hl, hr => by
    simp only [flatFs] at h
    split at h
    · rename_i ho
      simp only [Option.bind_eq_some_iff] at h
      obtain ⟨l1, h1, h2⟩ := h
      split at h2
      · rename_i hc
        simp only [Option.map_eq_some_iff] at h2
        obtain ⟨l2, h3, rfl⟩ := h2
        have k1 := hr f l1 (by simp) h1
        rw [ho, hc] at k1
        have k2 := read_fs fs (o + l1.length) l2 h3 (by simp at hl; omega) (fun f' l' hf hg => hr f' l' (by simp [hf]) hg)
        have := k1.append k2
        rw [← List.drop_drop, List.take_append_drop] at this
        exact this
      · cases h2
    · cases h
theorem rd_flat : ∀ (f : Nat) (t : TypeId) (l : List Sh) (fuel : Nat) (cs : List Value) (x : DataW H × List MemPlace), flat P f t = some l → DataW.trod enc P W base spare held fuel t cs = some x → Read W l cs
  | 0, _, _, _, _, _, h, _ => by cases h
  | f + 1, t, l, fuel, cs, x, h, hd => by
    unfold flat at h
    split at h
    · rename_i k ht
      simp only [Option.some.injEq] at h
      subst h
      obtain ⟨n, rfl, _, hw⟩ := DataW.trod_int ht hd
      have hn : absC0 (.int k n) = absC0 (.int k n) := rfl
      cases k
      case u8 =>
        simp [Lit.wf, IntKind.min, IntKind.max, IntKind.signed, IntKind.bits] at hw
        exact ⟨[.u8 (BitVec.ofNat 8 n.toNat)], ⟨⟨_, rfl⟩, trivial⟩, rfl, _, [], rfl, by simp only [VRel, BitVec.toNat_ofNat]; congr 1; omega, rfl⟩
      case u16 =>
        simp [Lit.wf, IntKind.min, IntKind.max, IntKind.signed, IntKind.bits] at hw
        exact ⟨[.u16 (BitVec.ofNat 16 n.toNat)], ⟨⟨_, rfl⟩, trivial⟩, rfl, _, [], rfl, by simp only [VRel, BitVec.toNat_ofNat]; congr 1; omega, rfl⟩
      case u32 =>
        simp [Lit.wf, IntKind.min, IntKind.max, IntKind.signed, IntKind.bits] at hw
        exact ⟨[.u32 (BitVec.ofNat 32 n.toNat)], ⟨⟨_, rfl⟩, trivial⟩, rfl, _, [], rfl, by simp only [VRel, BitVec.toNat_ofNat]; congr 1; omega, rfl⟩
      case u64 =>
        simp [Lit.wf, IntKind.min, IntKind.max, IntKind.signed, IntKind.bits] at hw
        exact ⟨[.u64 (BitVec.ofNat 64 n.toNat)], ⟨⟨_, rfl⟩, trivial⟩, rfl, _, [], rfl, by simp only [VRel, BitVec.toNat_ofNat]; congr 1; omega, rfl⟩
      all_goals exact ⟨[.int _ n], ⟨⟨_, rfl, hw⟩, trivial⟩, rfl, _, [], rfl, rfl, rfl⟩
    · rename_i ht
      simp only [Option.some.injEq] at h
      subst h
      obtain ⟨b, rfl, _⟩ := DataW.trod_bool ht hd
      exact ⟨[.bool b], ⟨⟨_, rfl⟩, trivial⟩, rfl, _, [], rfl, rfl, rfl⟩
    · rename_i ht
      simp only [Option.some.injEq] at h
      subst h
      obtain ⟨s, rfl, _, hs⟩ := DataW.trod_string ht hd
      have hb := bytesStr_strBytes s
      refine ⟨[.str (strBytes s)], ⟨⟨_, rfl, ?_⟩, trivial⟩, rfl, _, [], rfl, by simp only [VRel, hb], rfl⟩
      rw [← bytesStr_size, hb]
      exact hs
    · rename_i e ht
      split at h
      · rename_i he
        split at h
        · rename_i hc
          simp only [Option.some.injEq] at h
          subst h
          obtain ⟨v, l, c, rfl, h1, h2, h3⟩ := rd_bytes ht he hc hd
          exact ⟨[.rb true l (.is c)], ⟨⟨l, c, rfl, h1, h2⟩, trivial⟩, rfl, _, [], rfl, h3, rfl⟩
        · cases h
      · cases h
    · rename_i n e ht
      simp only [Option.bind_eq_some_iff] at h
      obtain ⟨l1, h1, h2⟩ := h
      split at h2
      · rename_i hc
        simp only [Option.some.injEq] at h2
        subst h2
        obtain ⟨xs, m, _, _, hl, hn, hel⟩ := DataW.trod_array ht hd
        refine read_arr (m := l1.length) n cs (by rw [hl, hc.2]) fun i hi => ?_
        have := hel i hi
        rw [List.getElem?_eq_getElem (by omega), hc.1] at this
        exact rd_flat f e l1 _ _ _ h1 this
      · cases h2
    · rename_i fs ht
      simp only [Option.bind_eq_some_iff] at h
      obtain ⟨l1, h1, h2⟩ := h
      split at h2
      · rename_i hc
        simp only [Option.some.injEq] at h2
        subst h2
        obtain ⟨xs, m, _, _, hl, hn, hel⟩ := DataW.trod_struct ht hd
        have := read_fs (W := W) (cs := cs) fs.toList 0 l1 h1 (by rw [hl, hc]; omega) fun f0 l' hf hg => by
          obtain ⟨i, hi⟩ := List.getElem?_of_mem hf
          have hlt := (List.getElem?_eq_some_iff.1 hi).1
          have := hel i f0 (by simpa using hi)
          rw [List.getElem?_eq_getElem (by simp at hlt; omega)] at this
          exact rd_flat f f0.type l' _ _ _ hg this
        simpa using this
      · cases h2
    · cases h
theorem agg_of_cells {v : Value} {avs : List AV} (h : VRels (κW W) avs v.cells.toList) (hl : 2 ≤ avs.length) : VRel (κW W) (.agg avs) v := by
  have hn := h.length
  cases v
  case agg cs => exact ⟨cs, rfl, h⟩
  all_goals (exfalso; simp [Value.cells] at hn; omega)
/-- Bytes of an array. -/
theorem sh_u8 : ∀ {n : Nat} {avs : List AV}, shAll (List.replicate n (.i .u8)) avs → ∃ l : List (BitVec 8), l.length = n ∧ avs = l.map .u8
  | 0, [], _ => ⟨[], rfl, rfl⟩
  | 0, _ :: _, h => h.elim
  | n + 1, [], h => h.elim
  | n + 1, a :: az, h => by
    obtain ⟨⟨x, rfl⟩, h2⟩ := h
    obtain ⟨l, h3, rfl⟩ := sh_u8 h2
    exact ⟨x :: l, by simp [h3], rfl⟩
end
theorem sh_cons {k : Sh} {ks : List Sh} {avs : List AV} (h : shAll (k :: ks) avs) : ∃ a az, avs = a :: az ∧ k.ok a ∧ shAll ks az := by
  cases avs with
  | nil => exact h.elim
  | cons a az => exact ⟨a, az, rfl, h.1, h.2⟩
theorem sh_nil {avs : List AV} (h : shAll [] avs) : avs = [] := by
  cases avs with
  | nil => rfl
  | cons a az => exact h.elim
theorem sh_i64 {a : AV} (h : (Sh.i .i64).ok a) : ∃ n, a = .int .i64 n := by
  obtain ⟨n, h, _⟩ := h
  exact ⟨n, h⟩
theorem rel_u32 {κ : Ker} {n : Int} (h : (Lit.int .u32 n).wf = true) : VRel κ (.u32 (BitVec.ofInt 32 n)) (.int .u32 n) := by
  simp [Lit.wf, IntKind.has, IntKind.min, IntKind.max, IntKind.signed, IntKind.bits] at h
  simp only [VRel, BitVec.toNat_ofInt]
  congr 1
  omega
theorem rel_u64 {κ : Ker} {n : Int} (h : (Lit.int .u64 n).wf = true) : VRel κ (.u64 (BitVec.ofInt 64 n)) (.int .u64 n) := by
  simp [Lit.wf, IntKind.has, IntKind.min, IntKind.max, IntKind.signed, IntKind.bits] at h
  simp only [VRel, BitVec.toNat_ofInt]
  congr 1
  omega
theorem rel_u8 {κ : Ker} {n : Int} (h : (Lit.int .u8 n).wf = true) : VRel κ (.u8 (BitVec.ofInt 8 n)) (.int .u8 n) := by
  simp [Lit.wf, IntKind.has, IntKind.min, IntKind.max, IntKind.signed, IntKind.bits] at h
  simp only [VRel, BitVec.toNat_ofInt]
  congr 1
  omega
end Go.Sym

/- slices.Chunk's iterator: what it hands out, one by one. -/
namespace Go.Sym
open Go.Proofs Go.RowKit Go.Shelf
set_option linter.unusedVariables false
attribute [local go_sem] Oper.semAt_some
theorem chunk_step {k c len : Nat} (hc : 1 ≤ c) (h : k * c < len) : min c (len - k * c) ≤ len - k * c := Nat.min_le_right _ _
set_option maxRecDepth 100000 in
set_option maxHeartbeats 4000000 in
theorem chunk_in (F : Fence) (n : Nat) (hF : F.fn 137) (hro : F.round = none) (hn : 1 ≤ n) (l Bs Os Bn On b off len cap c : Nat) (hc1 : 1 ≤ c) (hc2 : c < 2147483648) (hlen : len < 4611686018427387904) (hlc : len ≤ cap)
    (J : Nat → World → Prop) (Jx : World → Prop) (hJd : ∀ k W, J k W → J k W.drew)
    (hY : ∀ k W, J k W → k * c < len → YieldAt F (n - 1) Tryd.prog l #[.slice (some ⟨b, off + k * c, none⟩) (min c (len - k * c)) (min c (len - k * c))] W fun e W' =>
      (e = .returned (.bool true) ∧ J (k + 1) W' ∧ (∀ ad x, (ad = ⟨Bs, Os, none⟩ ∨ ad = ⟨Bn, On, none⟩) → W.cell? ad = some x → W'.cell? ad = some x)) ∨ (e = .returned (.bool false) ∧ Jx W'))
    (W : World) (hs : W.cell? ⟨Bs, Os, none⟩ = some (.slice (some ⟨b, off, none⟩) len cap)) (hcn : W.cell? ⟨Bn, On, none⟩ = some (.int .i64 c)) (h0 : J 0 W) :
    CallsIn F n Tryd.prog 137 #[.func (.yield l) #[] #[], .pointer (some ⟨Bs, Os, none⟩), .pointer (some ⟨Bn, On, none⟩)] W fun e W' => (∃ v, e = .returned v) ∧
      ((∃ k, J k W' ∧ len ≤ k * c ∧ (∀ j, j < k → j * c < len)) ∨ Jx W') := by
  refine callsIn_of_wp Tryd.func137 rfl hF ?_ hro
  simp only [Tryd.ntmps137, List.size_toArray, List.length_cons, List.length_nil, Nat.reduceAdd, Nat.reduceSub, Array.replicate_succ, Array.replicate_zero, List.push_toArray, List.append_toArray, List.nil_append, List.cons_append]
  gi_wp2
  gi_loopw [4] (fun i wr => ∃ k : Nat, i = .int .i64 ((k * c : Nat) : Int) ∧ J k wr ∧ (∀ j, j < k → j * c < len) ∧ wr.cell? ⟨Bs, Os, none⟩ = some (.slice (some ⟨b, off, none⟩) len cap) ∧ wr.cell? ⟨Bn, On, none⟩ = some (.int .i64 c))
    (fun i _ => len + c - (intOf i).toNat)
  case atStart => exact ⟨0, by simp, h0, fun j hj => absurd hj (Nat.not_lt_zero j), hs, hcn⟩
  case round =>
    obtain ⟨k, rfl, hJs, hlt, hs1, hn1⟩ := hrel
    by_cases hk : k * c < len
    · have hki : ((k * c : Nat) : Int) < (len : Int) := by omega
      have hmix : Tryd.prog.follows .mixedOrders = true := by kernel_rfl
      have h1 : (0 : Int) ≤ ((k * c : Nat) : Int) := Int.natCast_nonneg _
      gi_wp2
      rename_i K1 hK1 K2 hK2
      have he : (if len - k * c < c then ((len - k * c : Nat) : Int) else (c : Int)) = ((min c (len - k * c) : Nat) : Int) := by split <;> omega
      have hkc : (k : Int) * (c : Int) < (len : Int) := by have := hki; simpa using this
      have hm1 := Nat.min_le_left c (len - k * c)
      have hm2 := Nat.min_le_right c (len - k * c)
      obtain ⟨fn, tmps, assign, body, hy, hR⟩ := hY k wr.drew (hJd _ _ hJs) hk
      have hs2 : wr.drew.cell? ⟨Bs, Os, none⟩ = some (.slice (some ⟨b, off, none⟩) len cap) := hs1
      have hn2 : wr.drew.cell? ⟨Bn, On, none⟩ = some (.int .i64 c) := hn1
      generalize hmm : min c (len - k * c) = mm at *
      gi_region
      all_goals
        refine hK2 _ _ ?_
        gi_wp2
        refine hR.mono ?_
        rintro e W3 (⟨rfl, hJ3, hk3⟩ | ⟨rfl, hJx3⟩)
        · have hs3 := hk3 _ _ (.inl rfl) hs2
          have hn3 := hk3 _ _ (.inr rfl) hn2
          gi_wp2
          go_roundw
          case rel =>
            refine ⟨k + 1, ?_, hJ3, fun j hj => ?_, hs3, hn3⟩
            · simp [Nat.add_mul]
            · rcases Nat.lt_or_ge j k with h | h
              · exact hlt j h
              · obtain rfl : j = k := by omega
                exact hk
          case measure => simp [intOf]; omega
        · gi_wp2
          refine bodyPost_ret (results_none rfl _ _ _) rfl ?_
          exact ⟨⟨_, rfl⟩, .inr hJx3⟩
    · have hki : ¬ ((k * c : Nat) : Int) < (len : Int) := by omega
      gi_wp2
      go_end0
      exact ⟨⟨_, rfl⟩, .inl ⟨k, hJs, by omega, hlt⟩⟩
end Go.Sym

namespace Go.Sym
open Go.Proofs Go.RowKit Go.Shelf
set_option linter.unusedVariables false
set_option linter.unusedSimpArgs false
attribute [local go_sem] Oper.semAt_some
/-- How many pieces; a piece. -/
def ckN (len c : Nat) : Nat := (len + c - 1) / c
def ckB (l : List (BitVec 8)) (c k : Nat) : List (BitVec 8) := (l.drop (k * c)).take c
def chunkIt : IT := fun cs => match cs with
  | [.rb p l _, .int .i64 c] => some ([1 ≤ c, c < 2147483648, l.length < 4611686018427387904], ckN l.length c.toNat, fun k => [.rb p (ckB l c.toNat k) (.is false)])
  | _ => none
theorem lt_ckN {k c len : Nat} (hc : 1 ≤ c) : k < ckN len c ↔ k * c < len := by
  unfold ckN
  rw [← Nat.succ_le_iff, Nat.le_div_iff_mul_le (by omega), Nat.succ_mul]
  omega
theorem ckB_len (l : List (BitVec 8)) (c k : Nat) : (ckB l c k).length = min c (l.length - k * c) := by simp [ckB]
theorem room_fw (r : Option Nat) (x : Nat) : (FW r).room x := fun d hd => by cases hd
theorem round_any {r : Option Nat} {a b l : Nat} {P : Program} {f : FuncId} {tmps : Array Value} {assign body : Code} {w : World} {R : Ending → World → Prop} (h : RoundIn (FW r) a P l f tmps assign body w R) : RoundIn (FW r) b P l f tmps assign body w R :=
  ⟨h.1, fun c cs _ => h.2 c cs (room_fw r _)⟩
theorem yield_any {r : Option Nat} {a b l : Nat} {P : Program} {args : Array Value} {w : World} {R : Ending → World → Prop} (h : YieldAt (FW r) a P l args w R) : YieldAt (FW r) b P l args w R := by
  obtain ⟨fn, tmps, assign, body, h1, h2⟩ := h
  exact ⟨fn, tmps, assign, body, h1, round_any h2⟩
theorem calls_any {r : Option Nat} {a b : Nat} {P : Program} {f : FuncId} {args : Array Value} {w : World} {R : Ending → World → Prop} (h : CallsIn (FW r) a P f args w R) : CallsIn (FW r) b P f args w R :=
  ⟨h.1, fun cs _ => h.2 cs (room_fw r _)⟩
theorem Turns.drew (B : Nat) (W : World) : Turns B W W.drew := ⟨none, ⟨rfl, rfl, rfl, Nat.le_refl _, fun _ _ _ => rfl⟩, fun r e => by cases e⟩
theorem cell_spot {w : World} {ad : Addr} {x : Value} (h : w.cell? ad = some x) : ad = ⟨ad.block, ad.off, none⟩ := by
  obtain ⟨b, o, s⟩ := ad
  cases s with
  | none => rfl
  | some s =>
    unfold World.cell? at h
    split at h
    · simp at h
    · cases h
set_option maxRecDepth 100000 in
set_option maxHeartbeats 2000000 in
theorem chunk_nil (F : Fence) (n : Nat) (hF : F.fn 137) (hro : F.round = none) (hn : 1 ≤ n) (l Bs Os Bn On cap : Nat) (sa : Option Addr) (R : World → Prop) (W : World) (hs : W.cell? ⟨Bs, Os, none⟩ = some (.slice sa 0 cap)) (h0 : R W) :
    CallsIn F n Tryd.prog 137 #[.func (.yield l) #[] #[], .pointer (some ⟨Bs, Os, none⟩), .pointer (some ⟨Bn, On, none⟩)] W fun e W' => (∃ v, e = .returned v) ∧ R W' := by
  refine callsIn_of_wp Tryd.func137 rfl hF ?_ hro
  simp only [Tryd.ntmps137, List.size_toArray, List.length_cons, List.length_nil, Nat.reduceAdd, Nat.reduceSub, Array.replicate_succ, Array.replicate_zero, List.push_toArray, List.append_toArray, List.nil_append, List.cons_append]
  gi_wp2
  gi_loopw [4] (fun i wr => i = .int .i64 0 ∧ R wr ∧ wr.cell? ⟨Bs, Os, none⟩ = some (.slice sa 0 cap)) (fun _ _ => 0)
  case atStart => exact ⟨rfl, h0, hs⟩
  case round =>
    obtain ⟨rfl, hR, hs1⟩ := hrel
    gi_wp2
    go_end0
    exact ⟨⟨_, rfl⟩, hR⟩
theorem chunk_ok : ITok Tryd.prog 137 chunkIt := by
  refine ⟨fun args w => by kernel_rfl, fun cs ob N el h ho => ?_⟩
  unfold chunkIt at h
  split at h
  · rename_i p l nl c
    simp only [Option.some.injEq, Prod.mk.injEq] at h
    obtain ⟨rfl, rfl, rfl⟩ := h
    obtain ⟨hc1, ho⟩ := obsT_cons.1 ho
    obtain ⟨hc2, ho⟩ := obsT_cons.1 ho
    have hlen := obsT_one.1 ho
    obtain ⟨n, rfl⟩ : ∃ n : Nat, c = n := ⟨c.toNat, by omega⟩
    simp only [Int.toNat_natCast]
    have hn1 : 1 ≤ n := by omega
    refine ⟨fun k => by simp [datas, AV.data], fun κ w ads xs hm hv hl hcell => ?_⟩
    obtain ⟨x1, xs, rfl, ⟨a, kk, rfl, hkk, _, hmem⟩, x2, xs, rfl, hx2, hnil⟩ := hv
    simp only [VRels] at hnil
    subst hnil
    have hx2 : x2 = .int .i64 n := hx2
    subst hx2
    obtain ⟨ad1, ad2, rfl⟩ : ∃ ad1 ad2, ads = [ad1, ad2] := by
      match ads, hl with
      | [a, b], _ => exact ⟨a, b, rfl⟩
    have h1 := hcell 0 ad1 _ rfl rfl
    have h2 := hcell 1 ad2 _ rfl rfl
    have e1 := cell_spot h1
    have e2 := cell_spot h2
    obtain ⟨Bs, Os, s1⟩ := ad1
    obtain ⟨Bn, On, s2⟩ := ad2
    simp only [Addr.mk.injEq, true_and] at e1 e2
    subst e1 e2
    have below : ∀ {W : World}, Below w.heap.size w W → ∀ {ad : Addr} {x : Value}, w.cell? ad = some x → W.cell? ad = some x := by
      intro W hb ad x hx
      have hlt : ad.block < w.heap.size := by
        obtain ⟨o, ho, _⟩ := cell_obj hx
        exact (Array.getElem?_eq_some_iff.1 ho).1
      rw [World.cell?_of_block (hb.block _ hlt)]
      exact hx
    by_cases hz : l.length = 0
    · have hl0 : l = [] := List.eq_nil_of_length_eq_zero hz
      subst hl0
      have hN : ckN (([] : List (BitVec 8)).length) n = 0 := by
        show (0 + n - 1) / n = 0
        exact Nat.div_eq_of_lt (by omega)
      rw [hN]
      refine ⟨fun _ => #[], fun k hk => absurd hk (Nat.not_lt_zero k), fun m l' J Jx W hb hJ hJx hY h0 => ?_⟩
      exact calls_any ((chunk_nil (FW none) (m + 1) trivial rfl (by omega) l' Bs Os Bn On kk a (J 0) W (below hb h1) h0).mono fun e W' ⟨he, hr⟩ => ⟨he, .inl hr⟩)
    · rcases hmem with hl0 | ⟨B, O, rfl, hmem⟩
      · subst hl0; exact absurd rfl hz
      refine ⟨fun k => #[.slice (some ⟨B, O + k * n, none⟩) (min n (l.length - k * n)) (min n (l.length - k * n))], fun k hk => ?_, fun m l' J Jx W hb hJ hJx hY h0 => ?_⟩
      · refine ⟨_, [], rfl, ⟨some ⟨B, O + k * n, none⟩, min n (l.length - k * n), by rw [ckB_len], by rw [ckB_len]; exact Nat.le_refl _, rfl, .inr ⟨B, O + k * n, rfl, fun j b hj => ?_⟩⟩, rfl⟩
        rw [Nat.add_assoc]
        refine hmem _ b ?_
        unfold ckB at hj
        rw [List.getElem?_take] at hj
        split at hj
        · rw [List.getElem?_drop] at hj; exact hj
        · cases hj
      · refine calls_any ((chunk_in (FW none) (m + 1) trivial rfl (by omega) l' Bs Os Bn On B O l.length kk n hn1 (by omega) hlen hkk J Jx (fun k W1 h => hJ k _ _ h (Turns.drew _ _)) (fun k W1 hj hk => ?_) W (below hb h1) (below hb h2) h0).mono ?_)
        · have := hY k W1 hj ((lt_ckN hn1).2 hk)
          obtain ⟨fn, tmps, assign, body, k1, k2⟩ := this
          refine ⟨fn, tmps, assign, body, k1, (round_any k2).mono ?_⟩
          rintro e W' (⟨he, hj', hkp⟩ | h)
          · exact .inl ⟨he, hj', fun ad x had hx => hkp ad (by rcases had with rfl | rfl <;> simp) x hx⟩
          · exact .inr h
        · rintro e W' ⟨he, ⟨k, hj, h3, h4⟩ | h⟩
          · refine ⟨he, .inl ?_⟩
            have : k = ckN l.length n := by
              have h5 : ¬ k < ckN l.length n := fun h => by have := (lt_ckN hn1).1 h; omega
              rcases Nat.lt_or_ge (ckN l.length n) k with h6 | h6
              · have h7 := h4 _ h6
                exact absurd ((lt_ckN hn1).2 h7) (Nat.lt_irrefl _)
              · omega
            rw [← this]; exact hj
          · exact ⟨he, .inr h⟩
  · cases h
end Go.Sym

/- put: bytes, sector by sector. -/
namespace Go.Sym
open Go.Proofs Go.Spec
set_option linter.unusedVariables false
def Ctx.withIt (Γ : Ctx) (f : FuncId) (it : IT) : Ctx := ⟨Γ.fn, Γ.keep, Γ.sym, Γ.frz, fun g => match Nat.beq g f with | true => some it | false => Γ.its g⟩
theorem COKs.withIt {P : Program} {gl : Gl} {Γ : Ctx} (h : COKs P gl Γ) (f : FuncId) (it : IT) : COKs P gl (Γ.withIt f it) := h
noncomputable def P0 : Ctx := D0.exe Tryd.prog gl0 [] 3000 Tryd.f102.params.size 102 Tryd.f102
theorem okP0 : COKs Tryd.prog gl0 P0 := okD0.exe [] 3000 _ (by kernel_rfl) (by kernel_rfl) (by kernel_rfl) (fun args w => by kernel_rfl)
noncomputable def P1 : Ctx := (P0.add 103 (mkF spjW)).withIt 137 chunkIt
theorem okP1 : COKs Tryd.prog gl0 P1 := (okP0.add cjW).withIt _ _
/-- Behind k sectors. -/
def lsPt (L b : By) (sz : Nat) (w s : Int) : LS := ⟨Nat, fun k => [(3, .ptr 2 0 0 0), (4, .ptr 3 0 0 0), (6, .ptr 4 0 0 0)],
  fun k => [(0, dkA sz (w + k)), (1, dkL (dPut L s.toNat (b.take (64 * k)))), (2, ⟨.cells [.ptr 0 0 0 0], true, 0⟩), (3, ⟨.cells [.int .i64 (s + k)], true, 0⟩), (4, ⟨.cells [.int .i64 0], true, 0⟩)], 1003, fun k => k, fun k => k ≤ ckN b.length 64, fun _ => []⟩
end Go.Sym

namespace Go.Sym
open Go.Proofs Go.Spec
set_option linter.unusedVariables false
set_option maxRecDepth 100000 in
theorem vjP (L b L2 : By) (u : NL) (sz : Nat) (w w2 s : Int) : bodyP Tryd.prog P1 gl0 [] [(4, lsPt L b sz w s)] 3000 Tryd.f51 2 [.ptr 0 0 0 0, .int .i64 s, .rb true b u] [dkA sz w, dkL L] (retQ Tryd.prog Tryd.f51 2 ⟨[], .int .i64 0, [some (some (dkA sz w2)), some (some (dkL L2))], []⟩) = (
let x1 := (List.length b + 64 - 1) / 64; (1 : Int) ≤ (64 : Int) ∧ (64 : Int) < (2147483648 : Int) ∧ List.length b < 4611686018427387904 ∧ ITok Go.Proofs.Tryd.prog 137 chunkIt ∧ (∀ (k : Nat), k < x1 → [AV.rb Bool.true (List.take 64 (List.drop (k * 64) b)) (NL.is Bool.false)].length = 1) ∧ (∃ (x : Nat), x.le x1 ∧ x = 0 ∧ (Bool.true && (List.range 3).all fun (i : Nat) => [(0, ({ con := Con.cells [AV.slice 1 0 64 sz Cap.ow (NL.is Bool.false), AV.bool Bool.true, AV.int IntKind.i64 (w + (↑x : Int)), AV.int IntKind.i64 (Int.negSucc 0), AV.int IntKind.i64 (0 : Int)], wr := Bool.true, own := 0 } : ABlk)), (1, ({ con := Con.bytes (dPut L s.toNat (List.take (64 * x) b)), wr := Bool.true, own := 64 } : ABlk)), (2, ({ con := Con.cells [AV.ptr 0 0 0 0], wr := Bool.true, own := 0 } : ABlk)), (3, ({ con := Con.cells [AV.int IntKind.i64 (s + (↑x : Int))], wr := Bool.true, own := 0 } : ABlk)), (4, ({ con := Con.cells [AV.int IntKind.i64 (0 : Int)], wr := Bool.true, own := 0 } : ABlk))].any fun (p : Nat × ABlk) => p.fst.beq (2 + i)) = Bool.true ∧ 0 = 0 ∧ 0 = 0 ∧ 0 = 0 ∧ Bool.false = Bool.false ∧ 0 = 0 ∧ 0 = 0 ∧ 0 = 0 ∧ sz = sz ∧ Bool.true = Bool.true ∧ w + (↑x : Int) = w ∧ Int.negSucc 0 = Int.negSucc 0 ∧ (0 : Int) = (0 : Int) ∧ dPut L s.toNat (List.take (64 * x) b) = L ∧ 0 = 0 ∧ s + (↑x : Int) = s ∧ (0 : Int) = (0 : Int) ∧ True) ∧ (∀ (x : Nat), x.le x1 → Bool.true = Bool.true) ∧ (∀ (x : Nat), x.le x1 → x < x1 → List.length (dPut L s.toNat (List.take (64 * x) b)) = sz * 64 ∧ (0 : Int) ≤ s + (↑x : Int) ∧ s + (↑x : Int) < (↑sz : Int) ∧ (List.take 64 (List.drop (x * 64) b)).length = 64 ∧ (0 : Int) ≤ w + (↑x : Int) ∧ w + (↑x : Int) < (4611686018427387904 : Int) ∧ ∃ (y : Nat), y.le x1 ∧ y = x + 1 ∧ 0 = 0 ∧ 0 = 0 ∧ 0 = 0 ∧ Bool.false = Bool.false ∧ 0 = 0 ∧ 0 = 0 ∧ 0 = 0 ∧ sz = sz ∧ Bool.true = Bool.true ∧ w + (↑y : Int) = w + (↑x : Int) + (1 : Int) ∧ Int.negSucc 0 = Int.negSucc 0 ∧ (0 : Int) = (0 : Int) ∧ dPut L s.toNat (List.take (64 * y) b) = dPut (dPut L s.toNat (List.take (64 * x) b)) (s + (↑x : Int)).toNat (List.take 64 (List.drop (x * 64) b)) ∧ 0 = 0 ∧ s + (↑y : Int) = IntKind.i64.wrap (s + (↑x : Int) + (1 : Int)) ∧ (0 : Int) = (0 : Int) ∧ True) ∧ ∀ (x : Nat), x.le x1 → x = x1 → (0 : Int) = (0 : Int) ∧ Bool.false = Bool.false ∧ 0 = 0 ∧ 0 = 0 ∧ 0 = 0 ∧ sz = sz ∧ Bool.true = Bool.true ∧ w2 = w + (↑x : Int) ∧ Int.negSucc 0 = Int.negSucc 0 ∧ (0 : Int) = (0 : Int) ∧ L2 = dPut L s.toNat (List.take (64 * x) b) ∧ True : Prop) := by kernel_rfl
end Go.Sym

namespace Go.Spec
theorem dPut_nil (L : By) (s : Nat) : dPut L s [] = L := by unfold dPut; simp
theorem dPut_len {L c : By} {s : Nat} (h : s * 64 + c.length ≤ L.length) : (dPut L s c).length = L.length := by unfold dPut; simp; omega
theorem dPut_next {L c d : By} {s k : Nat} (hc : c.length = 64 * k) (h : s * 64 + c.length + d.length ≤ L.length) : dPut (dPut L s c) (s + k) d = dPut L s (c ++ d) := by
  unfold dPut
  have e1 : (List.take (s * 64) L).length = s * 64 := by rw [List.length_take]; omega
  have e2 : (s + k) * 64 = s * 64 + c.length := by omega
  rw [e2]
  have t1 : List.take (s * 64 + c.length) (List.take (s * 64) L ++ (c ++ List.drop (s * 64 + c.length) L)) = List.take (s * 64) L ++ c := by
    rw [← List.append_assoc, List.take_append_of_le_length (by rw [List.length_append, e1]; exact Nat.le_refl _), List.take_of_length_le (by rw [List.length_append, e1]; exact Nat.le_refl _)]
  have t2 : List.drop (s * 64 + c.length + d.length) (List.take (s * 64) L ++ (c ++ List.drop (s * 64 + c.length) L)) = List.drop (s * 64 + (c ++ d).length) L := by
    rw [← List.append_assoc, List.drop_append, List.drop_of_length_le (by rw [List.length_append, e1]; omega), List.nil_append, List.length_append, e1, List.drop_drop, List.length_append]
    congr 1
    omega
  rw [t1, t2]
  simp only [List.append_assoc]
theorem dGet_len {L : By} {i : Nat} (h : i * 64 + 64 ≤ L.length) : (dGet L i).length = 64 := by unfold dGet; rw [List.length_take, List.length_drop]; omega
/-- A sector of what was put. -/
theorem dGet_put {L c : By} {s i : Nat} (h : s * 64 + c.length ≤ L.length) : dGet (dPut L s c) i = (if i < s ∧ True then dGet L i else if i * 64 + 64 ≤ s * 64 + c.length then dGet c (i - s) else dGet (dPut L s c) i) := by
  have e1 : (List.take (s * 64) L).length = s * 64 := by rw [List.length_take]; omega
  by_cases c1 : i < s
  · rw [if_pos ⟨c1, trivial⟩]
    unfold dGet dPut
    rw [List.drop_append_of_le_length (by omega), List.take_append_of_le_length (by rw [List.length_drop, e1]; omega), List.drop_take, List.take_take, Nat.min_eq_left (by omega)]
  · rw [if_neg (fun h => c1 h.1)]
    split
    · rename_i c2
      unfold dGet dPut
      rw [List.drop_append, List.drop_of_length_le (by omega), List.nil_append, e1, List.drop_append_of_le_length (by omega), List.take_append_of_le_length (by rw [List.length_drop]; omega), Nat.sub_mul]
    · rfl
theorem dGet_lo {L c : By} {s i : Nat} (h : s * 64 + c.length ≤ L.length) (hi : i < s) : dGet (dPut L s c) i = dGet L i := by rw [dGet_put h, if_pos ⟨hi, trivial⟩]
theorem dGet_in {L c : By} {s i : Nat} (h : s * 64 + c.length ≤ L.length) (h1 : s ≤ i) (h2 : i * 64 + 64 ≤ s * 64 + c.length) : dGet (dPut L s c) i = dGet c (i - s) := by
  rw [dGet_put h, if_neg (fun h => by omega), if_pos h2]
theorem dGet_hi {L c : By} {s i : Nat} (h : s * 64 + c.length ≤ L.length) (h2 : s * 64 + c.length ≤ i * 64) : dGet (dPut L s c) i = dGet L i := by
  have e1 : (List.take (s * 64) L).length = s * 64 := by rw [List.length_take]; omega
  unfold dGet dPut
  rw [← List.append_assoc, List.drop_append, List.drop_of_length_le (by rw [List.length_append, e1]; omega), List.nil_append, List.length_append, e1, List.drop_drop]
  congr 2
  omega
end Go.Spec
namespace Go.Sym
open Go.Proofs Go.Spec
set_option linter.unusedVariables false
theorem take_nx (b : By) (x : Nat) : List.take (64 * (x + 1)) b = List.take (64 * x) b ++ List.take 64 (List.drop (x * 64) b) := by
  rw [Nat.mul_add, Nat.mul_one, Nat.mul_comm x 64, List.take_add]
theorem bjP (L b : By) (u : NL) (sz : Nat) (w s : Int) (hL : L.length = sz * 64) (hs : 0 ≤ s) (hb : b.length % 64 = 0) (hn : s * 64 + b.length ≤ sz * 64) (hl : b.length < 1099511627776) (hw0 : 0 ≤ w) (hw : w < 2305843009213693952) (hz : sz < 1099511627776) :
    Must (bodyP Tryd.prog P1 gl0 [] [(4, lsPt L b sz w s)] 3000 Tryd.f51 2 [.ptr 0 0 0 0, .int .i64 s, .rb true b u] [dkA sz w, dkL L] (retQ Tryd.prog Tryd.f51 2 ⟨[], .int .i64 0, [some (some (dkA sz (w + (b.length / 64 : Nat)))), some (some (dkL (dPut L s.toNat b)))], []⟩)) := by
  constructor
  rw [vjP]
  intro x1
  have hx : x1 = b.length / 64 := by show (b.length + 64 - 1) / 64 = _; omega
  have hs2 : s.toNat * 64 + b.length ≤ L.length := by omega
  have htk : ∀ k, k ≤ x1 → (List.take (64 * k) b).length = 64 * k := fun k hk => by rw [List.length_take]; omega
  have hck : ∀ k, k < x1 → (List.take 64 (List.drop (k * 64) b)).length = 64 := fun k hk => by rw [List.length_take, List.length_drop]; omega
  refine ⟨by omega, by omega, by omega, chunk_ok, fun _ _ => rfl, ⟨0, Nat.zero_le _, rfl, rfl, rfl, rfl, rfl, rfl, rfl, rfl, rfl, rfl, rfl, Int.add_zero _, rfl, rfl, dPut_nil _ _, rfl, Int.add_zero _, rfl, trivial⟩, fun _ _ => rfl, fun x h1 h2 => ?_, fun x h1 h2 => ?_⟩
  · have h1 : x ≤ x1 := h1
    have t1 := htk x h1
    have t2 := hck x h2
    refine ⟨?_, by omega, by omega, t2, by omega, by omega, x + 1, h2, rfl, rfl, rfl, rfl, rfl, rfl, rfl, rfl, rfl, rfl, by omega, rfl, rfl, ?_, rfl, ?_, rfl, trivial⟩
    · rw [dPut_len (by omega), hL]
    · have e : (s + (x : Int)).toNat = s.toNat + x := by omega
      rw [e, dPut_next t1 (by omega), take_nx]
    · rw [wrap_i64 (by omega) (by omega)]; omega
  · subst h2
    have e : 64 * x1 = b.length := by omega
    refine ⟨rfl, rfl, rfl, rfl, rfl, rfl, rfl, by rw [hx], rfl, rfl, ?_, trivial⟩
    rw [e, List.take_of_length_le (Nat.le_refl _)]
def gjP (xs : List AV) (bs : List ABlk) : TL := match xs, bs with
  | [.ptr 0 0 0 0, .int .i64 s, .rb true b _], [⟨.cells [.slice 1 0 64 sz .ow (.is false), .bool true, .int .i64 w, .int .i64 (-1), .int .i64 0], true, 0⟩, ⟨.bytes L, true, 64⟩] =>
    .ok ⟨[L.length = sz * 64, 0 ≤ s, b.length % 64 = 0, s * 64 + b.length ≤ sz * 64, b.length < 1099511627776, 0 ≤ w, w < 2305843009213693952, sz < 1099511627776], .int .i64 0, [some (some (dkA sz (w + (b.length / 64 : Nat)))), some (some (dkL (dPut L s.toNat b)))], []⟩
  | _, _ => .no
def spjP : Spec := ⟨[.kp, .kp, .kp], fun xs h => reachX h 200 (namesL (xs.take 1)) [], kinds, gjP⟩
theorem cjP : COK Tryd.prog gl0 51 (mkF spjP) := by
  refine ctrE (fn := Tryd.f51) [] 3000 (by kernel_rfl) (by kernel_rfl) okP1 (by kernel_rfl) (fun args w => by kernel_rfl) fun xs bs r hs ho => ?_
  replace hs : (gjP xs bs).sel = some r := hs
  unfold gjP at hs
  split at hs
  · simp only [TL.sel, Option.some.injEq] at hs
    subst hs
    obtain ⟨h1, ho⟩ := obsT_cons.1 ho
    obtain ⟨h2, ho⟩ := obsT_cons.1 ho
    obtain ⟨h3, ho⟩ := obsT_cons.1 ho
    obtain ⟨h4, ho⟩ := obsT_cons.1 ho
    obtain ⟨h5, ho⟩ := obsT_cons.1 ho
    obtain ⟨h6, ho⟩ := obsT_cons.1 ho
    obtain ⟨h7, ho⟩ := obsT_cons.1 ho
    exact ⟨_, bjP _ _ _ _ _ _ h1 h2 h3 h4 h5 h6 h7 (obsT_one.1 ho)⟩
  · simp [TL.sel] at hs
end Go.Sym
