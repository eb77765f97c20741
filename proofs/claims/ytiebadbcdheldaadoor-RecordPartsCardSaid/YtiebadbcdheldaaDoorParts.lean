/- Pieces of bytes, handed out by the iterator, one by one; the parts of a text. -/
import Derived.Test.YtiebadbcdheldaaDoorChaA
import Derived.Test.YtiebadbcdheldaaDoorSymC
import Derived.Test.YtiebadbcdheldaaDoorShaA
import Derived.Test.YtiebadbcdheldaaDoorHkdf
import Derived.Test.YtiebadbcdheldaaDoorRecB
import Derived.RangeFuncBox
import Derived.Shelf.Abstract
import Derived.WalkKit
import Derived.OwnWalkIn
import Derived.TacticsInMore
import Derived.LoopNIn
import Derived.LoopIn
import Derived.Test.YtiebadbcdheldaaDoorProg
namespace Go.Sym
open Go.Proofs Go.Spec
set_option linter.unusedVariables false
/-- What clones bytes. -/
def clA (l : By) : RL := ⟨[l.length < 1099511627776], .slice 0 0 1 l.length .ow .unk, [], [⟨.bytes l, true, 1⟩]⟩
noncomputable def Qz0 : Ctx := .none []
theorem okQz0 : COKs Tryd.prog gl0 Qz0 := COKs.none
end Go.Sym

namespace Go.Sym
open Go.Proofs Go.Spec
set_option linter.unusedVariables false
set_option maxRecDepth 100000 in
theorem vq72 (p b : Bool) (l M : By) (L : Nat) : bodyP Tryd.prog Qz0 gl0 [] [] 3000 Tryd.f42 0 [.rb p l (.is b)] [] (retQ Tryd.prog Tryd.f42 0 ⟨[], .slice 0 0 1 L .ow .unk, [], [⟨.bytes M, true, 1⟩]⟩) = (
@Bool.rec (fun _ => Prop) (0 = 0 ∧ roomFor 0 (List.length l) 1 ∧ 0 = 0 ∧ 0 = 0 ∧ 0 = 0 ∧ L = 0 + List.length l ∧ M = [] ++ l ∧ True) (L = 0 ∧ M = [] ∧ True) b : Prop) := by kernel_rfl
end Go.Sym

set_option linter.unusedSimpArgs false
namespace Go.Sym
open Go.Proofs Go.Spec
set_option linter.unusedVariables false
theorem bq72 (p b : Bool) (l : By) (hb : b = true → l = []) (hl : l.length < 1099511627776) : Must (bodyP Tryd.prog Qz0 gl0 [] [] 3000 Tryd.f42 0 [.rb p l (.is b)] [] (retQ Tryd.prog Tryd.f42 0 ⟨[], .slice 0 0 1 l.length .ow .unk, [], [⟨.bytes l, true, 1⟩]⟩)) := by
  constructor
  rw [vq72]
  refine brec (fun h => ?_) (fun h => ?_)
  · rw [hb h]; exact ⟨rfl, rfl, trivial⟩
  · exact ⟨rfl, by unfold roomFor; omega, rfl, rfl, rfl, by omega, rfl, trivial⟩
theorem cq72 : COK Tryd.prog gl0 42 (mkF (unkSp clA)) := by
  refine COK.unk ?_
  refine ctrE (fn := Tryd.f42) [] 3000 (by kernel_rfl) (by kernel_rfl) okQz0 (by kernel_rfl) (fun args w => by kernel_rfl) fun xs bs r hs ho => ?_
  replace hs : (nilG clA xs bs).sel = some r := hs
  unfold nilG at hs
  split at hs
  · simp only [TL.sel, Option.some.injEq] at hs
    subst hs
    obtain ⟨h1, h2⟩ := obsT_cons.1 ho
    exact ⟨_, bq72 _ _ _ h1 (obsT_one.1 h2)⟩
  · simp [TL.sel] at hs
end Go.Sym

/- slices.Chunk's iterator: what it hands out, one by one. -/
namespace Go.Sym
open Go.Proofs Go.RowKit Go.Shelf
set_option linter.unusedVariables false
attribute [local go_sem] Oper.semAt_some
theorem chunk_step {k c len : Nat} (hc : 1 ≤ c) (h : k * c < len) : min c (len - k * c) ≤ len - k * c := Nat.min_le_right _ _
set_option maxRecDepth 100000 in
set_option maxHeartbeats 4000000 in
theorem chunk_in (F : Fence) (n : Nat) (hF : F.fn 59) (hro : F.round = none) (hn : 1 ≤ n) (l Bs Os Bn On b off len cap c : Nat) (hc1 : 1 ≤ c) (hc2 : c < 2147483648) (hlen : len < 4611686018427387904) (hlc : len ≤ cap)
    (J : Nat → World → Prop) (Jx : World → Prop) (hJd : ∀ k W, J k W → J k W.drew)
    (hY : ∀ k W, J k W → k * c < len → YieldAt F (n - 1) Tryd.prog l #[.slice (some ⟨b, off + k * c, none⟩) (min c (len - k * c)) (min c (len - k * c))] W fun e W' =>
      (e = .returned (.bool true) ∧ J (k + 1) W' ∧ (∀ ad x, (ad = ⟨Bs, Os, none⟩ ∨ ad = ⟨Bn, On, none⟩) → W.cell? ad = some x → W'.cell? ad = some x)) ∨ (e = .returned (.bool false) ∧ Jx W'))
    (W : World) (hs : W.cell? ⟨Bs, Os, none⟩ = some (.slice (some ⟨b, off, none⟩) len cap)) (hcn : W.cell? ⟨Bn, On, none⟩ = some (.int .i64 c)) (h0 : J 0 W) :
    CallsIn F n Tryd.prog 59 #[.func (.yield l) #[] #[], .pointer (some ⟨Bs, Os, none⟩), .pointer (some ⟨Bn, On, none⟩)] W fun e W' => (∃ v, e = .returned v) ∧
      ((∃ k, J k W' ∧ len ≤ k * c ∧ (∀ j, j < k → j * c < len)) ∨ Jx W') := by
  refine callsIn_of_wp Tryd.func59 rfl hF ?_ hro
  simp only [Tryd.ntmps59, List.size_toArray, List.length_cons, List.length_nil, Nat.reduceAdd, Nat.reduceSub, Array.replicate_succ, Array.replicate_zero, List.push_toArray, List.append_toArray, List.nil_append, List.cons_append]
  gi_wp2
  gi_loopw [4] (fun i wr => ∃ k : Nat, i = .int .i64 ((k * c : Nat) : Int) ∧ J k wr ∧ (∀ j, j < k → j * c < len) ∧ wr.cell? ⟨Bs, Os, none⟩ = some (.slice (some ⟨b, off, none⟩) len cap) ∧ wr.cell? ⟨Bn, On, none⟩ = some (.int .i64 c))
    (fun i _ => len + c - (intOf i).toNat)
  case atStart => exact ⟨0, by simp, h0, fun j hj => absurd hj (Nat.not_lt_zero j), hs, hcn⟩
  case round =>
    obtain ⟨k, rfl, hJs, hlt, hs1, hn1⟩ := hrel
    by_cases hk : k * c < len
    · have hki : ((k * c : Nat) : Int) < (len : Int) := by omega
      have hmix : Tryd.prog.follows .mixedOrders = true := by kernel_rfl
      have h1 : (0 : Int) ≤ ((k * c : Nat) : Int) := Int.natCast_nonneg _
      gi_wp2
      rename_i K1 hK1 K2 hK2
      have he : (if len - k * c < c then ((len - k * c : Nat) : Int) else (c : Int)) = ((min c (len - k * c) : Nat) : Int) := by split <;> omega
      have hkc : (k : Int) * (c : Int) < (len : Int) := by have := hki; simpa using this
      have hm1 := Nat.min_le_left c (len - k * c)
      have hm2 := Nat.min_le_right c (len - k * c)
      obtain ⟨fn, tmps, assign, body, hy, hR⟩ := hY k wr.drew (hJd _ _ hJs) hk
      have hs2 : wr.drew.cell? ⟨Bs, Os, none⟩ = some (.slice (some ⟨b, off, none⟩) len cap) := hs1
      have hn2 : wr.drew.cell? ⟨Bn, On, none⟩ = some (.int .i64 c) := hn1
      generalize hmm : min c (len - k * c) = mm at *
      gi_region
      all_goals
        refine hK2 _ _ ?_
        gi_wp2
        refine hR.mono ?_
        rintro e W3 (⟨rfl, hJ3, hk3⟩ | ⟨rfl, hJx3⟩)
        · have hs3 := hk3 _ _ (.inl rfl) hs2
          have hn3 := hk3 _ _ (.inr rfl) hn2
          gi_wp2
          go_roundw
          case rel =>
            refine ⟨k + 1, ?_, hJ3, fun j hj => ?_, hs3, hn3⟩
            · simp [Nat.add_mul]
            · rcases Nat.lt_or_ge j k with h | h
              · exact hlt j h
              · obtain rfl : j = k := by omega
                exact hk
          case measure => simp [intOf]; omega
        · gi_wp2
          refine bodyPost_ret (results_none rfl _ _ _) rfl ?_
          exact ⟨⟨_, rfl⟩, .inr hJx3⟩
    · have hki : ¬ ((k * c : Nat) : Int) < (len : Int) := by omega
      gi_wp2
      go_end0
      exact ⟨⟨_, rfl⟩, .inl ⟨k, hJs, by omega, hlt⟩⟩
end Go.Sym

namespace Go.Sym
open Go.Proofs Go.RowKit Go.Shelf
set_option linter.unusedVariables false
set_option linter.unusedSimpArgs false
attribute [local go_sem] Oper.semAt_some
/-- How many pieces; a piece. -/
def ckN (len c : Nat) : Nat := (len + c - 1) / c
def ckB (l : List (BitVec 8)) (c k : Nat) : List (BitVec 8) := (l.drop (k * c)).take c
def chunkIt : IT := fun cs => match cs with
  | [.rb p l _, .int .i64 c] => some ([1 ≤ c, c < 2147483648, l.length < 4611686018427387904], ckN l.length c.toNat, fun k => [.rb p (ckB l c.toNat k) (.is false)])
  | _ => none
theorem lt_ckN {k c len : Nat} (hc : 1 ≤ c) : k < ckN len c ↔ k * c < len := by
  unfold ckN
  rw [← Nat.succ_le_iff, Nat.le_div_iff_mul_le (by omega), Nat.succ_mul]
  omega
theorem ckB_len (l : List (BitVec 8)) (c k : Nat) : (ckB l c k).length = min c (l.length - k * c) := by simp [ckB]
theorem room_fw (r : Option Nat) (x : Nat) : (FW r).room x := fun d hd => by cases hd
theorem round_any {r : Option Nat} {a b l : Nat} {P : Program} {f : FuncId} {tmps : Array Value} {assign body : Code} {w : World} {R : Ending → World → Prop} (h : RoundIn (FW r) a P l f tmps assign body w R) : RoundIn (FW r) b P l f tmps assign body w R :=
  ⟨h.1, fun c cs _ => h.2 c cs (room_fw r _)⟩
theorem yield_any {r : Option Nat} {a b l : Nat} {P : Program} {args : Array Value} {w : World} {R : Ending → World → Prop} (h : YieldAt (FW r) a P l args w R) : YieldAt (FW r) b P l args w R := by
  obtain ⟨fn, tmps, assign, body, h1, h2⟩ := h
  exact ⟨fn, tmps, assign, body, h1, round_any h2⟩
theorem calls_any {r : Option Nat} {a b : Nat} {P : Program} {f : FuncId} {args : Array Value} {w : World} {R : Ending → World → Prop} (h : CallsIn (FW r) a P f args w R) : CallsIn (FW r) b P f args w R :=
  ⟨h.1, fun cs _ => h.2 cs (room_fw r _)⟩
theorem Turns.drew (B : Nat) (W : World) : Turns B W W.drew := ⟨none, ⟨rfl, rfl, rfl, Nat.le_refl _, fun _ _ _ => rfl⟩, fun r e => by cases e⟩
theorem cell_spot {w : World} {ad : Addr} {x : Value} (h : w.cell? ad = some x) : ad = ⟨ad.block, ad.off, none⟩ := by
  obtain ⟨b, o, s⟩ := ad
  cases s with
  | none => rfl
  | some s =>
    unfold World.cell? at h
    split at h
    · simp at h
    · cases h
set_option maxRecDepth 100000 in
set_option maxHeartbeats 2000000 in
theorem chunk_nil (F : Fence) (n : Nat) (hF : F.fn 59) (hro : F.round = none) (hn : 1 ≤ n) (l Bs Os Bn On cap : Nat) (sa : Option Addr) (R : World → Prop) (W : World) (hs : W.cell? ⟨Bs, Os, none⟩ = some (.slice sa 0 cap)) (h0 : R W) :
    CallsIn F n Tryd.prog 59 #[.func (.yield l) #[] #[], .pointer (some ⟨Bs, Os, none⟩), .pointer (some ⟨Bn, On, none⟩)] W fun e W' => (∃ v, e = .returned v) ∧ R W' := by
  refine callsIn_of_wp Tryd.func59 rfl hF ?_ hro
  simp only [Tryd.ntmps59, List.size_toArray, List.length_cons, List.length_nil, Nat.reduceAdd, Nat.reduceSub, Array.replicate_succ, Array.replicate_zero, List.push_toArray, List.append_toArray, List.nil_append, List.cons_append]
  gi_wp2
  gi_loopw [4] (fun i wr => i = .int .i64 0 ∧ R wr ∧ wr.cell? ⟨Bs, Os, none⟩ = some (.slice sa 0 cap)) (fun _ _ => 0)
  case atStart => exact ⟨rfl, h0, hs⟩
  case round =>
    obtain ⟨rfl, hR, hs1⟩ := hrel
    gi_wp2
    go_end0
    exact ⟨⟨_, rfl⟩, hR⟩
theorem chunk_ok : ITok Tryd.prog 59 chunkIt := by
  refine ⟨fun args w => by kernel_rfl, fun cs ob N el h ho => ?_⟩
  unfold chunkIt at h
  split at h
  · rename_i p l nl c
    simp only [Option.some.injEq, Prod.mk.injEq] at h
    obtain ⟨rfl, rfl, rfl⟩ := h
    obtain ⟨hc1, ho⟩ := obsT_cons.1 ho
    obtain ⟨hc2, ho⟩ := obsT_cons.1 ho
    have hlen := obsT_one.1 ho
    obtain ⟨n, rfl⟩ : ∃ n : Nat, c = n := ⟨c.toNat, by omega⟩
    simp only [Int.toNat_natCast]
    have hn1 : 1 ≤ n := by omega
    refine ⟨fun k => by simp [datas, AV.data], fun κ w ads xs hm hv hl hcell => ?_⟩
    obtain ⟨x1, xs, rfl, ⟨a, kk, rfl, hkk, _, hmem⟩, x2, xs, rfl, hx2, hnil⟩ := hv
    simp only [VRels] at hnil
    subst hnil
    have hx2 : x2 = .int .i64 n := hx2
    subst hx2
    obtain ⟨ad1, ad2, rfl⟩ : ∃ ad1 ad2, ads = [ad1, ad2] := by
      match ads, hl with
      | [a, b], _ => exact ⟨a, b, rfl⟩
    have h1 := hcell 0 ad1 _ rfl rfl
    have h2 := hcell 1 ad2 _ rfl rfl
    have e1 := cell_spot h1
    have e2 := cell_spot h2
    obtain ⟨Bs, Os, s1⟩ := ad1
    obtain ⟨Bn, On, s2⟩ := ad2
    simp only [Addr.mk.injEq, true_and] at e1 e2
    subst e1 e2
    have below : ∀ {W : World}, Below w.heap.size w W → ∀ {ad : Addr} {x : Value}, w.cell? ad = some x → W.cell? ad = some x := by
      intro W hb ad x hx
      have hlt : ad.block < w.heap.size := by
        obtain ⟨o, ho, _⟩ := cell_obj hx
        exact (Array.getElem?_eq_some_iff.1 ho).1
      rw [World.cell?_of_block (hb.block _ hlt)]
      exact hx
    by_cases hz : l.length = 0
    · have hl0 : l = [] := List.eq_nil_of_length_eq_zero hz
      subst hl0
      have hN : ckN (([] : List (BitVec 8)).length) n = 0 := by
        show (0 + n - 1) / n = 0
        exact Nat.div_eq_of_lt (by omega)
      rw [hN]
      refine ⟨fun _ => #[], fun k hk => absurd hk (Nat.not_lt_zero k), fun m l' J Jx W hb hJ hJx hY h0 => ?_⟩
      exact calls_any ((chunk_nil (FW none) (m + 1) trivial rfl (by omega) l' Bs Os Bn On kk a (J 0) W (below hb h1) h0).mono fun e W' ⟨he, hr⟩ => ⟨he, .inl hr⟩)
    · rcases hmem with hl0 | ⟨B, O, rfl, hmem⟩
      · subst hl0; exact absurd rfl hz
      refine ⟨fun k => #[.slice (some ⟨B, O + k * n, none⟩) (min n (l.length - k * n)) (min n (l.length - k * n))], fun k hk => ?_, fun m l' J Jx W hb hJ hJx hY h0 => ?_⟩
      · refine ⟨_, [], rfl, ⟨some ⟨B, O + k * n, none⟩, min n (l.length - k * n), by rw [ckB_len], by rw [ckB_len]; exact Nat.le_refl _, rfl, .inr ⟨B, O + k * n, rfl, fun j b hj => ?_⟩⟩, rfl⟩
        rw [Nat.add_assoc]
        refine hmem _ b ?_
        unfold ckB at hj
        rw [List.getElem?_take] at hj
        split at hj
        · rw [List.getElem?_drop] at hj; exact hj
        · cases hj
      · refine calls_any ((chunk_in (FW none) (m + 1) trivial rfl (by omega) l' Bs Os Bn On B O l.length kk n hn1 (by omega) hlen hkk J Jx (fun k W1 h => hJ k _ _ h (Turns.drew _ _)) (fun k W1 hj hk => ?_) W (below hb h1) (below hb h2) h0).mono ?_)
        · have := hY k W1 hj ((lt_ckN hn1).2 hk)
          obtain ⟨fn, tmps, assign, body, k1, k2⟩ := this
          refine ⟨fn, tmps, assign, body, k1, (round_any k2).mono ?_⟩
          rintro e W' (⟨he, hj', hkp⟩ | h)
          · exact .inl ⟨he, hj', fun ad x had hx => hkp ad (by rcases had with rfl | rfl <;> simp) x hx⟩
          · exact .inr h
        · rintro e W' ⟨he, ⟨k, hj, h3, h4⟩ | h⟩
          · refine ⟨he, .inl ?_⟩
            have : k = ckN l.length n := by
              have h5 : ¬ k < ckN l.length n := fun h => by have := (lt_ckN hn1).1 h; omega
              rcases Nat.lt_or_ge (ckN l.length n) k with h6 | h6
              · have h7 := h4 _ h6
                exact absurd ((lt_ckN hn1).2 h7) (Nat.lt_irrefl _)
              · omega
            rw [← this]; exact hj
          · exact ⟨he, .inr h⟩
  · cases h
end Go.Sym

namespace Go.Sym
open Go.Proofs Go.Spec
set_option linter.unusedVariables false
def Ctx.withIt (Γ : Ctx) (f : FuncId) (it : IT) : Ctx := ⟨Γ.fn, Γ.keep, Γ.sym, Γ.frz, fun g => match Nat.beq g f with | true => some it | false => Γ.its g⟩
theorem COKs.withIt {P : Program} {gl : Gl} {Γ : Ctx} (h : COKs P gl Γ) (f : FuncId) (it : IT) : COKs P gl (Γ.withIt f it) := h
noncomputable def Z0 : Ctx := J12.add 42 (mkF (unkSp clA))
theorem okZ0 : COKs Tryd.prog gl0 Z0 := okJ12.add cq72
noncomputable def Z1 : Ctx := Z0.exe Tryd.prog gl0 [] 3000 Tryd.f41.params.size 41 Tryd.f41
theorem okZ1 : COKs Tryd.prog gl0 Z1 := okZ0.exe [] 3000 _ (by kernel_rfl) (by kernel_rfl) (by kernel_rfl) (fun args w => by kernel_rfl)
noncomputable def Z2 : Ctx := (Z1.withFrz [(10, [.by8])]).withIt 59 chunkIt
theorem okZ2 : COKs Tryd.prog gl0 Z2 := (okZ1.withFrz _).withIt _ _
/-- The pieces so far. -/
def pkE (l : By) : LS := ⟨Nat, fun k => [(3, .ptr 0 0 0 0)], fun k => [(0, ⟨.cells [.slice 100 0 1 k .ow .unk], true, 0⟩), (100, ⟨.rows 1 k (fun j => [.rb true (ckB l 256 j) .unk]), true, 1⟩)], 1001, fun k => k, fun k => k ≤ ckN l.length 256, fun _ => []⟩
end Go.Sym

namespace Go.Sym
open Go.Proofs Go.Spec
set_option linter.unusedVariables false
set_option maxRecDepth 100000 in
theorem vp15 (u : NL) (l : By) (N : Nat) (g : Nat → List AV) : bodyP Tryd.prog Z2 gl0 [] [(5, pkE l)] 3000 Tryd.f15 0 [.rb true l u] [] (retQ Tryd.prog Tryd.f15 0 ⟨[], .slice 0 0 1 N .ow .unk, [], [⟨.rows 1 N g, true, 1⟩]⟩) = (
let x1 := (List.length l + 256 - 1) / 256; (1 : Int) ≤ (256 : Int) ∧ (256 : Int) < (2147483648 : Int) ∧ List.length l < 4611686018427387904 ∧ ITok Go.Proofs.Tryd.prog 59 chunkIt ∧ (∀ (k : Nat), k < x1 → [AV.rb Bool.true (List.take 256 (List.drop (k * 256) l)) (NL.is Bool.false)].length = 1) ∧ (∃ (x : Nat), x.le x1 ∧ x = 0 ∧ (Bool.true && (List.range 1).all fun (i : Nat) => [(0, ({ con := Con.cells [AV.slice 100 0 1 x Cap.ow NL.unk], wr := Bool.true, own := 0 } : ABlk)), (100, ({ con := Con.rows 1 x fun (j : Nat) => [AV.rb Bool.true (List.take 256 (List.drop (j * 256) l)) NL.unk], wr := Bool.true, own := 1 } : ABlk))].any fun (p : Nat × ABlk) => p.fst.beq (0 + i)) = Bool.true ∧ 0 = 0 ∧ x = 0 ∧ x = 0 ∧ True) ∧ (∀ (x : Nat), x.le x1 → Bool.true = Bool.true) ∧ (∀ (x : Nat), x.le x1 → x < x1 → (List.take 256 (List.drop (x * 256) l)).length < 1099511627776 ∧ (List.take 256 (List.drop (x * 256) l)).length = (List.take 256 (List.drop (x * 256) l)).length ∧ x = x ∧ roomFor x 1 24 ∧ ∃ (y : Nat), y.le x1 ∧ y = x + 1 ∧ 0 = 0 ∧ 0 = 0 ∧ 0 = 0 ∧ 0 = 0 ∧ y = x + 1 ∧ y = x + 1 ∧ (∀ (y_1 : Nat), y_1 < y → datas Bool.false [AV.rb Bool.true (List.take 256 (List.drop (y_1 * 256) l)) NL.unk] = Bool.true ∧ glue (fun (j : Nat) => [AV.rb Bool.true (List.take 256 (List.drop (j * 256) l)) NL.unk]) x (cut 1 (List.take 1 (List.drop 0 [AV.rb Bool.true (List.take 256 (List.drop (x * 256) l)) NL.unk]))) y_1 = [AV.rb Bool.true (List.take 256 (List.drop (y_1 * 256) l)) NL.unk]) ∧ True) ∧ ∀ (x : Nat), x.le x1 → x = x1 → (∀ (y : Nat), y < N → outs Bool.true (g y) = Bool.true) ∧ 0 = 0 ∧ 0 = 0 ∧ 0 = 0 ∧ N = x ∧ N = x ∧ (∀ (y : Nat), y < N → datas Bool.false (g y) = Bool.true ∧ [AV.rb Bool.true (List.take 256 (List.drop (y * 256) l)) NL.unk] = g y) ∧ True : Prop) := by kernel_rfl
end Go.Sym

namespace Go.Sym
open Go.Proofs Go.Spec
set_option linter.unusedVariables false
theorem ckN_le (n : Nat) : ckN n 256 ≤ n := by unfold ckN; omega
theorem ck_next (l : By) (x y : Nat) (hy : y < x + 1) : glue (fun (j : Nat) => [AV.rb true (ckB l 256 j) NL.unk]) x (cut 1 (List.take 1 (List.drop 0 [AV.rb true (ckB l 256 x) NL.unk]))) y = [AV.rb true (ckB l 256 y) NL.unk] := by
  unfold glue
  by_cases c : y < x
  · simp only [if_pos c]
  · simp only [if_neg c]
    have : y = x := by omega
    subst this
    rw [Nat.sub_self]
    rfl
set_option maxRecDepth 100000 in
theorem bp15 (u : NL) (l : By) (hl : l.length < 1048576) : Must (bodyP Tryd.prog Z2 gl0 [] [(5, pkE l)] 3000 Tryd.f15 0 [.rb true l u] [] (retQ Tryd.prog Tryd.f15 0 ⟨[], .slice 0 0 1 (ckN l.length 256) .ow .unk, [], [⟨.rows 1 (ckN l.length 256) (fun j => [.rb true (ckB l 256 j) .unk]), true, 1⟩]⟩)) := by
  constructor
  rw [vp15]
  set_option simprocs false in dsimp only
  have hN := ckN_le l.length
  have hk : ∀ k, (ckB l 256 k).length < 1099511627776 := fun k => by rw [ckB_len]; omega
  refine ⟨by omega, by omega, by omega, chunk_ok, fun _ _ => rfl, ⟨0, Nat.zero_le _, rfl, rfl, rfl, rfl, rfl, trivial⟩, fun _ _ => rfl, fun x h1 h2 => ⟨hk x, rfl, rfl, ?_, x + 1, h2, rfl, rfl, rfl, rfl, rfl, rfl, rfl, fun y hy => ⟨rfl, ck_next l x y hy⟩, trivial⟩, fun x h1 h2 => ?_⟩
  · have h2 : x < ckN l.length 256 := h2
    unfold roomFor; omega
  · subst h2
    exact ⟨fun _ _ => rfl, rfl, rfl, rfl, rfl, rfl, fun _ _ => ⟨rfl, rfl⟩, trivial⟩
noncomputable def gPa (xs : List AV) (bs : List ABlk) : TL := match xs, bs with
  | [.rb true l _], [] => .ok ⟨[l.length < 1048576], .slice 0 0 1 (ckN l.length 256) .ow .unk, [], [⟨.rows 1 (ckN l.length 256) (fun j => [.rb true (ckB l 256 j) .unk]), true, 1⟩]⟩
  | _, _ => .no
noncomputable def spPa : Spec := ⟨[.kp], fun _ _ => [], fun _ _ => [], gPa⟩
theorem cp15 : COK Tryd.prog gl0 15 (mkF spPa) := by
  refine ctrE (fn := Tryd.f15) [] 3000 (by kernel_rfl) (by kernel_rfl) okZ2 (by kernel_rfl) (fun args w => by kernel_rfl) fun xs bs r hs ho => ?_
  replace hs : (gPa xs bs).sel = some r := hs
  unfold gPa at hs
  split at hs
  · simp only [TL.sel, Option.some.injEq] at hs
    subst hs
    exact ⟨_, bp15 _ _ (obsT_one.1 ho)⟩
  · simp [TL.sel] at hs
noncomputable def Z3 : Ctx := (J12.add 15 (mkF spPa)).withFrz [(20, [.by8])]
theorem okZ3 : COKs Tryd.prog gl0 Z3 := (okJ12.add cp15).withFrz _
/-- How far it has come. -/
def lsPa (T : By) : LS := ⟨Nat, fun i => [(0, .slice 200 0 1 T.length .un .unk), (5, .ros false 1 (ckN T.length 256) (fun j => [.rb true (ckB T 256 j) .unk]) .unk), (6, .str (T.take (256 * i))), (7, .int .i64 i)], fun _ => [(200, ⟨.bytes T, false, 0⟩)], 1000, fun i => 2000 - i, fun i => i ≤ ckN T.length 256, fun _ => []⟩
end Go.Sym
