/- The slot that counts is turned; what is old is left out. -/
import Derived.Test.YtmpgpbbaloiniaaDoorJouF
namespace Go.Sym
open Go.Proofs Go.Spec
set_option linter.unusedVariables false
set_option maxRecDepth 100000 in
theorem vjT (sz n : Nat) (w w2 a s z e b : Int) (g q : BitVec 64) (L L2 : By) (F : Nat → By) : bodyP Tryd.prog (W6.withFrz [(28, [.by8]), (40, [.by8])]) gl0 [] [] 3000 Tryd.f65 4 [.ptr 0 0 0 0, .agg [.u64 q, .int .i64 b]] [jnA g a s z n, dkB sz w, dkL L, enR n F] (retQ Tryd.prog Tryd.f65 4 ⟨[], .int .i64 e, [some (some (jnA g a s z n)), some (some (dkB sz w2)), some (some (dkL L2)), some (some (enR n F))], []⟩) = (
let x1 := IntKind.i64.wrap (↑(q % BitVec.ofNat 64 2).toNat : Int); let x2 := IntKind.i64.wrap (↑(g % BitVec.ofNat 64 2).toNat : Int); let x3 := n = n ∧ (∀ (y : Nat), y < n → datas Bool.false [AV.rb Bool.true (F y) NL.unk] = Bool.true ∧ [AV.rb Bool.true (F y) NL.unk] = [AV.rb Bool.true (F y) NL.unk]) ∧ True; @Bool.rec (fun _ => Prop) (64 = List.length (slB q b) ∧ List.length L = sz * 64 ∧ (0 : Int) ≤ x1 ∧ List.length (slB q b) % 64 = 0 ∧ x1 * (64 : Int) + (↑(List.length (slB q b)) : Int) ≤ (↑sz : Int) * (64 : Int) ∧ List.length (slB q b) < 1099511627776 ∧ (0 : Int) ≤ w ∧ w < (2305843009213693952 : Int) ∧ sz < 1099511627776 ∧ @Bool.rec (fun _ => Prop) ((∀ (y : Nat), y < n → outs Bool.true [AV.rb Bool.true (F y) NL.unk] = Bool.true) ∧ e = (0 : Int) ∧ 0 = 0 ∧ g = g ∧ a = a ∧ s = s ∧ z = z ∧ 0 = 0 ∧ 0 = 0 ∧ 0 = 0 ∧ n = n ∧ Bool.false = Bool.false ∧ Bool.false = Bool.false ∧ 0 = 0 ∧ 0 = 0 ∧ 0 = 0 ∧ sz = sz ∧ Bool.true = Bool.true ∧ w2 = w + (↑(List.length (slB q b) / 64) : Int) ∧ Int.negSucc 0 = Int.negSucc 0 ∧ (0 : Int) = (0 : Int) ∧ L2 = dPut L x1.toNat (slB q b) ∧ x3) (64 ≤ 64 ∧ 64 ≤ 281474976710656 ∧ 64 ≤ 9223372036854775807 ∧ False) (decide (q.toNat < g.toNat))) (64 = List.length (slB g a) ∧ List.length L = sz * 64 ∧ (0 : Int) ≤ x2 ∧ List.length (slB g a) % 64 = 0 ∧ x2 * (64 : Int) + (↑(List.length (slB g a)) : Int) ≤ (↑sz : Int) * (64 : Int) ∧ List.length (slB g a) < 1099511627776 ∧ (0 : Int) ≤ w ∧ w < (2305843009213693952 : Int) ∧ sz < 1099511627776 ∧ 64 = List.length (slB q b) ∧ List.length (dPut L x2.toNat (slB g a)) = sz * 64 ∧ (0 : Int) ≤ x1 ∧ List.length (slB q b) % 64 = 0 ∧ x1 * (64 : Int) + (↑(List.length (slB q b)) : Int) ≤ (↑sz : Int) * (64 : Int) ∧ List.length (slB q b) < 1099511627776 ∧ (0 : Int) ≤ w + (↑(List.length (slB g a) / 64) : Int) ∧ w + (↑(List.length (slB g a) / 64) : Int) < (2305843009213693952 : Int) ∧ sz < 1099511627776 ∧ @Bool.rec (fun _ => Prop) ((∀ (y : Nat), y < n → outs Bool.true [AV.rb Bool.true (F y) NL.unk] = Bool.true) ∧ e = (0 : Int) ∧ 0 = 0 ∧ g = g ∧ a = a ∧ s = s ∧ z = z ∧ 0 = 0 ∧ 0 = 0 ∧ 0 = 0 ∧ n = n ∧ Bool.false = Bool.false ∧ Bool.false = Bool.false ∧ 0 = 0 ∧ 0 = 0 ∧ 0 = 0 ∧ sz = sz ∧ Bool.true = Bool.true ∧ w2 = w + (↑(List.length (slB g a) / 64) : Int) + (↑(List.length (slB q b) / 64) : Int) ∧ Int.negSucc 0 = Int.negSucc 0 ∧ (0 : Int) = (0 : Int) ∧ L2 = dPut (dPut L x2.toNat (slB g a)) x1.toNat (slB q b) ∧ x3) (64 ≤ 64 ∧ 64 ≤ 281474976710656 ∧ 64 ≤ 9223372036854775807 ∧ False) (decide (q.toNat < g.toNat))) !decide (s = x2) : Prop) := by kernel_rfl
end Go.Sym

set_option linter.unusedSimpArgs false
namespace Go.Sym
open Go.Proofs Go.Spec
set_option linter.unusedVariables false
theorem w2_64 (q : BitVec 64) : IntKind.i64.wrap (((q % BitVec.ofNat 64 2).toNat : Nat) : Int) = ((q.toNat % 2 : Nat) : Int) := by
  rw [BitVec.toNat_umod]
  have e : (BitVec.ofNat 64 2).toNat = 2 := rfl
  rw [e]
  exact wrap_i64 (by omega) (by omega)
/-- The slot that counts is turned. -/
structure tuOk (sz : Nat) (w s : Int) (g q : BitVec 64) (L : By) : Prop where
  hL : L.length = sz * 64
  hs : s = ((g.toNat % 2 : Nat) : Int)
  hg : g.toNat ≤ q.toNat
  h2 : 2 ≤ sz
  hw : 0 ≤ w
  hw2 : w < 1152921504606846976
  hz : sz < 1099511627776
theorem bjT (sz n : Nat) (w a s z b : Int) (g q : BitVec 64) (L : By) (F : Nat → By) (h : tuOk sz w s g q L) : Must (bodyP Tryd.prog (W6.withFrz [(28, [.by8]), (40, [.by8])]) gl0 [] [] 3000 Tryd.f65 4 [.ptr 0 0 0 0, .agg [.u64 q, .int .i64 b]] [jnA g a s z n, dkB sz w, dkL L, enR n F] (retQ Tryd.prog Tryd.f65 4 ⟨[], .int .i64 0, [some (some (jnA g a s z n)), some (some (dkB sz (w + 1))), some (some (dkL (dPut L (q.toNat % 2) (slB q b)))), some (some (enR n F))], []⟩)) := by
  constructor
  rw [vjT]
  have l := slB_len q b
  have l2 := slB_len g a
  rw [w2_64, w2_64, l, l2, ← h.hs]
  intro x1 x2 x3
  have h3 : x3 := ⟨rfl, fun y _ => ⟨rfl, rfl⟩, trivial⟩
  have hL := h.hL
  have hz := h.hz
  have hw := h.hw
  have hw2 := h.hw2
  have h22 := h.h2
  have hg := h.hg
  clear_value x3
  refine brec (fun c => absurd rfl (ntr c)) (fun c => ?_)
  refine ⟨rfl, hL, by omega, by decide, by omega, by omega, hw, by omega, by omega, brec (fun c => absurd (dtr c) (by omega)) (fun c => ?_)⟩
  exact ⟨fun y _ => rfl, rfl, rfl, rfl, rfl, rfl, rfl, rfl, rfl, rfl, rfl, rfl, rfl, rfl, rfl, rfl, rfl, rfl, rfl, rfl, rfl, rfl, h3⟩
noncomputable def gjT (xs : List AV) (bs : List ABlk) : TL := match xs, bs with
  | [.ptr 0 0 0 0, .agg [.u64 q, .int .i64 b]], [⟨.cells [.ptr 1 0 0 0, .u64 g, .int .i64 a, .int .i64 s, .int .i64 z, .slice 3 0 1 n .ow .unk, .bool false], true, 0⟩, ⟨.cells [.slice 2 0 64 sz .ow (.is false), .bool true, .int .i64 w, .int .i64 (-1), .int .i64 0], true, 0⟩, ⟨.bytes L, true, 64⟩, ⟨.rows 1 m G, true, 1⟩] =>
    .ok ⟨[m = n, G = fun i => [.rb true (rowF G i) .unk], tuOk sz w s g q L], .int .i64 0, [some (some (jnA g a s z n)), some (some (dkB sz (w + 1))), some (some (dkL (dPut L (q.toNat % 2) (slB q b)))), some (some (enR n (rowF G)))], []⟩
  | _, _ => .no
noncomputable def spjT : Spec := ⟨[.kp, .kp], fun xs h => reachX h 200 (namesL (xs.take 1)) [], kinds, gjT⟩
theorem cjT : COK Tryd.prog gl0 65 (mkF spjT) := by
  refine ctrE (fn := Tryd.f65) [] 3000 (by kernel_rfl) (by kernel_rfl) (okW6.withFrz [(28, [.by8]), (40, [.by8])]) (by kernel_rfl) (fun args w => by kernel_rfl) fun xs bs r hs ho => ?_
  replace hs : (gjT xs bs).sel = some r := hs
  unfold gjT at hs
  split at hs
  · rename_i q b g a s z n sz w L m G
    simp only [TL.sel, Option.some.injEq] at hs
    subst hs
    obtain ⟨h1, ho⟩ := obsT_cons.1 ho
    obtain ⟨h2, ho⟩ := obsT_cons.1 ho
    have h3 := obsT_one.1 ho
    subst h1
    generalize rowF G = F at *
    subst h2
    exact ⟨_, bjT sz m w a s z b g q L F h3⟩
  · simp [TL.sel] at hs
/-- Contexts for Compact. -/
noncomputable def Wk7 : Ctx := (((W6.add 64 (mkF spjI)).add 65 (mkF spjT)).add 66 (mkF spjC)).exe Tryd.prog gl0 [] 3000 Tryd.f63.params.size 63 Tryd.f63
theorem okWk7 : COKs Tryd.prog gl0 Wk7 := (((okW6.add cjI).add cjT).add cjC).exe [] 3000 _ (by kernel_rfl) (by kernel_rfl) (by kernel_rfl) (fun args w => by kernel_rfl)
/-- The loop over what is kept: all of it can be. -/
noncomputable def lsKp (sz n m : Nat) (w a s z : Int) (g : BitVec 64) (L : By) (F K : Nat → By) : LS := ⟨Nat, fun i => [(0, .ptr 0 0 0 0), (1, .ros false 1 m (fun j => [.rb true (K j) .unk]) .unk), (16, .ros false 1 m (fun j => [.rb true (K j) .unk]) .unk), (17, .int .i64 m), (18, .int .i64 i)],
  fun _ => [(0, jnA g a s z n), (1, dkB sz w), (2, dkL L), (3, enR n F)], 1000, fun i => m - i, fun i => i ≤ m, fun _ => []⟩
end Go.Sym

namespace Go.Sym
open Go.Proofs Go.Spec
set_option linter.unusedVariables false
set_option maxRecDepth 100000 in
theorem vjCo (sz n m M : Nat) (w w2 a b s s2 z e : Int) (g q : BitVec 64) (L L2 : By) (F K F2 : Nat → By) : bodyP Tryd.prog (Wk7.withFrz [(63, [.by8])]) gl0 [] [(6, lsKp sz n m w a s z g L F K)] 3000 Tryd.f29 4 [.ptr 0 0 0 0, .ros false 1 m (fun j => [.rb true (K j) .unk]) .unk] [jnA g a s z n, dkB sz w, dkL L, enR n F] (retQ Tryd.prog Tryd.f29 4 ⟨[], .int .i64 e, [some (some (⟨.cells [.ptr 1 0 0 0, .u64 q, .int .i64 b, .int .i64 s2, .int .i64 z, .slice 4 0 1 M .ow .unk, .bool false], true, 0⟩)), some (some (dkB sz w2)), some (some (dkL L2)), some none], [enR M F2]⟩) = (
let x1 := 0 = 0 ∧ q = g ∧ b = a ∧ s2 = s ∧ z = z ∧ 0 = 0 ∧ 0 = 0 ∧ 0 = 0 ∧ M = n ∧ Bool.false = Bool.false ∧ Bool.false = Bool.false ∧ 0 = 0 ∧ 0 = 0 ∧ 0 = 0 ∧ sz = sz ∧ Bool.true = Bool.true ∧ w2 = w ∧ Int.negSucc 0 = Int.negSucc 0 ∧ (0 : Int) = (0 : Int) ∧ L2 = L ∧ M = n ∧ (∀ (y : Nat), y < M → datas Bool.false [AV.rb Bool.true (F2 y) NL.unk] = Bool.true ∧ [AV.rb Bool.true (F y) NL.unk] = [AV.rb Bool.true (F2 y) NL.unk]) ∧ True; let x2 := 0 = 0 ∧ g = g ∧ a = a ∧ s = s ∧ z = z ∧ 0 = 0 ∧ 0 = 0 ∧ 0 = 0 ∧ n = n ∧ Bool.false = Bool.false ∧ Bool.false = Bool.false ∧ 0 = 0 ∧ 0 = 0 ∧ 0 = 0 ∧ sz = sz ∧ Bool.true = Bool.true ∧ w = w ∧ Int.negSucc 0 = Int.negSucc 0 ∧ (0 : Int) = (0 : Int) ∧ L = L ∧ n = n ∧ (∀ (y : Nat), y < n → datas Bool.false [AV.rb Bool.true (F y) NL.unk] = Bool.true ∧ [AV.rb Bool.true (F y) NL.unk] = [AV.rb Bool.true (F y) NL.unk]) ∧ True; let x3 := imA (g + BitVec.ofNat 64 (Int.toNat (1 : Int))) (rowF fun (j : Nat) => [AV.rb Bool.true (K j) NL.unk]) m z; let x4 := imA (g + BitVec.ofNat 64 1) (fun (i : Nat) => K i) m z; let x5 := ∀ (y : Nat), y < m → datas Bool.false [AV.rb Bool.true (K y) NL.unk] = Bool.true ∧ K y = K y ∧ True; let x6 := fun (j : Nat) => [AV.rb Bool.true (K j) NL.unk]; let x7 := IntKind.i64.wrap ((2 : Int) + IntKind.i64.wrap (IntKind.i64.wrap ((1 : Int) - a) * z)); let x8 := ∀ (y : Nat), y < M → outs Bool.true [AV.rb Bool.true (F2 y) NL.unk] = Bool.true; (∀ (y : Nat), y < n → datas Bool.false [AV.rb Bool.true (F y) NL.unk] = Bool.true) ∧ (∀ (y : Nat), y < n → outs Bool.true [AV.rb Bool.true (F y) NL.unk] = Bool.true) ∧ (∃ (x : Nat), x.le m ∧ 0 = 0 ∧ m = m ∧ x5 ∧ m = m ∧ x5 ∧ (↑m : Int) = (↑m : Int) ∧ (↑x : Int) = (0 : Int) ∧ x2) ∧ ∀ (x : Nat), x.le m → @Bool.rec (fun _ => Prop) (m < 1099511627776 ∧ (∀ (i : Nat), i < m → List.length (K i) ≤ 46) ∧ x6 = x6 ∧ @Bool.rec (fun _ => Prop) ((∀ (i : Nat), i < m → List.length (K i) ≤ 46) ∧ (↑m : Int) ≤ z ∧ z < (1099511627776 : Int) ∧ x6 = x6 ∧ List.length x4 = List.length x4 ∧ List.length L = sz * 64 ∧ (0 : Int) ≤ x7 ∧ List.length x4 % 64 = 0 ∧ x7 * (64 : Int) + (↑(List.length x4) : Int) ≤ (↑sz : Int) * (64 : Int) ∧ List.length x4 < 1099511627776 ∧ (0 : Int) ≤ w ∧ w < (2305843009213693952 : Int) ∧ sz < 1099511627776 ∧ (∀ (y : Nat), y < n → datas Bool.false [AV.rb Bool.true (F y) NL.unk] = Bool.true) ∧ n = n ∧ ((fun (i : Nat) => [AV.rb Bool.true (F i) NL.unk]) = fun (i : Nat) => [AV.rb Bool.true (F i) NL.unk]) ∧ tuOk sz (w + (↑(([List.length x3 = List.length x3], x3).snd.length / 64) : Int)) s g (g + BitVec.ofNat 64 (Int.toNat (1 : Int))) (dPut L x7.toNat ([List.length x3 = List.length x3], x3).snd) ∧ m < 1099511627776 ∧ (∀ (i : Nat), i < m → List.length (K i) < 1099511627776) ∧ x6 = x6 ∧ x8 ∧ e = (0 : Int) ∧ 0 = 0 ∧ q = g + BitVec.ofNat 64 1 ∧ b = IntKind.i64.wrap ((1 : Int) - a) ∧ s2 = IntKind.i64.wrap (↑((g + BitVec.ofNat 64 1) % BitVec.ofNat 64 2).toNat : Int) ∧ z = z ∧ 0 = 0 ∧ 0 = 0 ∧ 0 = 0 ∧ M = m ∧ Bool.false = Bool.false ∧ Bool.false = Bool.false ∧ 0 = 0 ∧ 0 = 0 ∧ 0 = 0 ∧ sz = sz ∧ Bool.true = Bool.true ∧ w2 = w + (↑(List.length x4 / 64) : Int) + (1 : Int) ∧ Int.negSucc 0 = Int.negSucc 0 ∧ (0 : Int) = (0 : Int) ∧ L2 = dPut (dPut L x7.toNat x4) ((g + BitVec.ofNat 64 1).toNat % 2) (slB (g + BitVec.ofNat 64 1) (IntKind.i64.wrap ((1 : Int) - a))) ∧ M = m ∧ (∀ (y : Nat), y < M → datas Bool.false [AV.rb Bool.true (F2 y) NL.unk] = Bool.true ∧ [AV.rb Bool.true (K y) NL.unk] = [AV.rb Bool.true (F2 y) NL.unk]) ∧ True) (x8 ∧ e = (5 : Int) ∧ x1) (decide (z < (↑m : Int)))) ((0 : Int) ≤ (↑x : Int) ∧ (↑x : Int).toNat < m ∧ @Bool.rec (fun _ => Prop) (x8 ∧ e = (1 : Int) ∧ x1) (@Bool.rec (fun _ => Prop) (∃ (y : Nat), m - y < m - x ∧ y.le m ∧ 0 = 0 ∧ m = m ∧ x5 ∧ m = m ∧ x5 ∧ (↑m : Int) = (↑m : Int) ∧ (↑y : Int) = IntKind.i64.wrap ((↑x : Int) + (1 : Int)) ∧ x2) (x8 ∧ e = (1 : Int) ∧ x1) !decide ((↑(List.length (K (↑x : Int).toNat)) : Int) ≤ (4096 : Int))) (decide ((1 : Int) ≤ (↑(List.length (K (↑x : Int).toNat)) : Int)))) (decide ((↑x : Int) < (↑m : Int))) : Prop) := by kernel_rfl
end Go.Sym

set_option linter.unusedSimpArgs false
namespace Go.Sym
open Go.Proofs Go.Spec
set_option linter.unusedVariables false
structure coOk (sz m : Nat) (w a s z : Int) (g : BitVec 64) (L : By) (K : Nat → By) : Prop where
  hL : L.length = sz * 64
  k1 : ∀ i, i < m → 1 ≤ (K i).length
  k2 : ∀ i, i < m → (K i).length ≤ 46
  hm : (m : Int) ≤ z
  ha : a = 0 ∨ a = 1
  hz : 2 + 2 * z ≤ sz
  hs : s = ((g.toNat % 2 : Nat) : Int)
  hg : g.toNat < 18446744073709551615
  hw : 0 ≤ w
  hw2 : w < 1073741824
  hsz : sz < 1073741824
/-- The disk behind a compaction. -/
noncomputable def coL (g : BitVec 64) (a z : Int) (L : By) (K : Nat → By) (m : Nat) : By := dPut (dPut L (2 + (1 - a) * z).toNat (imA (g + 1) K m z)) ((g + 1).toNat % 2) (slB (g + 1) (1 - a))
theorem bjCo (sz n m : Nat) (w a s z : Int) (g : BitVec 64) (L : By) (F K : Nat → By) (h : coOk sz m w a s z g L K) : Must (bodyP Tryd.prog (Wk7.withFrz [(63, [.by8])]) gl0 [] [(6, lsKp sz n m w a s z g L F K)] 3000 Tryd.f29 4 [.ptr 0 0 0 0, .ros false 1 m (fun j => [.rb true (K j) .unk]) .unk] [jnA g a s z n, dkB sz w, dkL L, enR n F] (retQ Tryd.prog Tryd.f29 4 ⟨[], .int .i64 0, [some (some (jnM (g + 1) (1 - a) ((((g + 1).toNat % 2 : Nat) : Int)) z m)), some (some (dkB sz (w + z + 1))), some (some (dkL (coL g a z L K m))), some none], [enR m K]⟩)) := by
  constructor
  unfold jnM
  rw [vjCo]
  have hL := h.hL
  have hm := h.hm
  have ha := h.ha
  have hz := h.hz
  have hw := h.hw
  have hw2 := h.hw2
  have hsz := h.hsz
  have hg := h.hg
  have eg : (g + 1).toNat = g.toNat + 1 := by
    rw [BitVec.toNat_add]
    have : (1 : BitVec 64).toNat = 1 := rfl
    omega
  intro x1 x2 x3 x4 x5 x6 x7 x8
  have h2 : x2 := ⟨rfl, rfl, rfl, rfl, rfl, rfl, rfl, rfl, rfl, rfl, rfl, rfl, rfl, rfl, rfl, rfl, rfl, rfl, rfl, rfl, rfl, fun y _ => ⟨rfl, rfl⟩, trivial⟩
  have h5 : x5 := fun y _ => ⟨rfl, rfl, trivial⟩
  have h8 : x8 := fun y _ => rfl
  have q3 : x3 = imA (g + 1) K m z := rfl
  have q4 : x4 = imA (g + 1) K m z := rfl
  have q7 : x7 = 2 + (1 - a) * z := by
    show IntKind.i64.wrap (2 + IntKind.i64.wrap (IntKind.i64.wrap (1 - a) * z)) = _
    rw [wrap_i64 (x := 1 - a) (by omega) (by omega)]
    rcases ha with rfl | rfl
    · rw [wrap_i64 (x := (1 - 0) * z) (by omega) (by omega), wrap_i64 (by omega) (by omega)]
    · rw [wrap_i64 (x := (1 - 1) * z) (by omega) (by omega), wrap_i64 (by omega) (by omega)]
  have b7 : 0 ≤ x7 ∧ x7 * 64 + z * 64 ≤ (sz : Int) * 64 := by rw [q7]; rcases ha with rfl | rfl <;> omega
  have wa : IntKind.i64.wrap (1 - a) = 1 - a := wrap_i64 (by omega) (by omega)
  have ll := imA_len (g := g + 1) (F := K) (n := m) (z := z) h.k2 hm
  rw [← q4] at ll
  have lP : (dPut L x7.toNat x4).length = sz * 64 := by rw [dPut_len (by omega)]; exact hL
  have tu : tuOk sz (w + ((x4.length / 64 : Nat) : Int)) s g (g + 1) (dPut L x7.toNat x4) := ⟨lP, h.hs, by rw [eg]; omega, by omega, by omega, by omega, by omega⟩
  have e43 : x3 = x4 := rfl
  have w2 := w2_64 (g + 1)
  clear_value x1 x2 x5 x6 x8
  refine ⟨fun y _ => rfl, fun y _ => rfl, ⟨0, Nat.zero_le _, rfl, rfl, h5, rfl, h5, rfl, rfl, h2⟩, fun x hx => ?_⟩
  have hx : x ≤ m := hx
  refine brec (fun c => ?_) (fun c => ?_)
  · have c := dtr c
    have k1 := h.k1 x (by omega)
    have k2 := h.k2 x (by omega)
    rw [Int.toNat_natCast]
    refine ⟨by omega, by omega, brec (fun c => brec (fun c => absurd (by omega) (ntr c)) (fun c => ?_)) (fun c => absurd (by omega) (dfl c))⟩
    exact ⟨x + 1, by omega, show x + 1 ≤ m by omega, rfl, rfl, h5, rfl, h5, rfl, (wrap_i64 (by omega) (by omega)).symm, h2⟩
  · refine ⟨by omega, h.k2, rfl, brec (fun c => absurd (dtr c) (by omega)) (fun c => ?_)⟩
    refine ⟨h.k2, hm, by omega, rfl, rfl, hL, b7.1, by omega, by omega, by omega, hw, by omega, by omega, fun y _ => rfl, rfl, rfl, tu, by omega, fun i hi => by have := h.k2 i hi; omega, rfl, h8, rfl, rfl, rfl, wa.symm, w2.symm, rfl, rfl, rfl, rfl, rfl, rfl, rfl, rfl, rfl, rfl, rfl, rfl, by omega, rfl, rfl, ?_, rfl, fun y _ => ⟨rfl, rfl⟩, trivial⟩
    rw [wa]
    unfold coL
    rw [q7, q4]
    rfl
end Go.Sym

set_option linter.unusedSimpArgs false
namespace Go.Sym
open Go.Proofs Go.Spec
set_option linter.unusedVariables false
noncomputable def rCo (sz m : Nat) (w a z : Int) (g : BitVec 64) (L : By) (K : Nat → By) : RL := ⟨[], .int .i64 0, [some (some (jnM (g + 1) (1 - a) ((((g + 1).toNat % 2 : Nat) : Int)) z m)), some (some (dkB sz (w + z + 1))), some (some (dkL (coL g a z L K m))), some none], [enR m K]⟩
noncomputable def gjCo (xs : List AV) (bs : List ABlk) : TL := match xs, bs with
  | [.ptr 0 0 0 0, .ros false 1 m G .unk], [⟨.cells [.ptr 1 0 0 0, .u64 g, .int .i64 a, .int .i64 s, .int .i64 z, .slice 3 0 1 n .ow .unk, .bool false], true, 0⟩, ⟨.cells [.slice 2 0 64 sz .ow (.is false), .bool true, .int .i64 w, .int .i64 (-1), .int .i64 0], true, 0⟩, ⟨.bytes L, true, 64⟩, ⟨.rows 1 k H, true, 1⟩] =>
    .ok { rCo sz m w a z g L (rowF G) with ob := [k = n, H = fun i => [.rb true (rowF H i) .unk], G = fun i => [.rb true (rowF G i) .unk], coOk sz m w a s z g L (rowF G)] }
  | _, _ => .no
noncomputable def spjCo : Spec := ⟨[.kp, .r 1], fun xs h => reachX h 200 (namesL (xs.take 1)) [], kinds, gjCo⟩
theorem cjCo : COK Tryd.prog gl0 29 (mkF spjCo) := by
  refine ctrE (fn := Tryd.f29) [] 3000 (by kernel_rfl) (by kernel_rfl) (okWk7.withFrz [(63, [.by8])]) (by kernel_rfl) (fun args w => by kernel_rfl) fun xs bs r hs ho => ?_
  replace hs : (gjCo xs bs).sel = some r := hs
  unfold gjCo at hs
  split at hs
  · rename_i m G g a s z n sz w L k H
    simp only [TL.sel, Option.some.injEq] at hs
    subst hs
    obtain ⟨h1, ho⟩ := obsT_cons.1 ho
    obtain ⟨h2, ho⟩ := obsT_cons.1 ho
    obtain ⟨h3, ho⟩ := obsT_cons.1 ho
    have h4 := obsT_one.1 ho
    subst h1
    generalize rowF G = K at *
    generalize rowF H = F at *
    subst h2 h3
    exact ⟨_, bjCo sz k m w a s z g L F K h4⟩
  · simp [TL.sel] at hs
end Go.Sym
