/- What is read back of bytes: the calls of the program. -/
import Derived.Test.YtgniepaehjdjaaaCurB
import Derived.Test.YtgniepaehjdjaaaMesA
set_option linter.unusedSimpArgs false
namespace Go.Sym
open Go.Proofs Go.Spec
set_option linter.unusedVariables false
/-- The same calls, where there is room. -/
def gt30 (xs : List AV) (bs : List ABlk) : TL := match xs, bs with
  | [.rb false b .unk, .int .i64 n, .int .i64 w], [] => .ok ⟨[b.length < 1099511627776, puBad n w = false], .slice 0 0 1 (b.length + w.toNat) .ow (.is false), [], [⟨.bytes (puB b n w), true, 1⟩]⟩
  | _, _ => .no
def spt30 : Spec := ⟨[.by0, .kp, .kp], fun _ _ => [], fun _ _ => [], gt30⟩
theorem ct30 : COK Try.prog gl0 30 (mkF spt30) := by
  refine ctrE (fn := Try.f30) [] 3000 (by kernel_rfl) (by kernel_rfl) okQz11 (by kernel_rfl) (fun args w => by kernel_rfl) fun xs bs r hs ho => ?_
  replace hs : (gt30 xs bs).sel = some r := hs
  unfold gt30 at hs
  split at hs
  · simp only [TL.sel, Option.some.injEq] at hs
    subst hs
    obtain ⟨h1, h2⟩ := obsT_cons.1 ho
    exact ⟨_, bq30g _ _ _ h1 (obsT_one.1 h2)⟩
  · simp [TL.sel] at hs
def gt76 (xs : List AV) (bs : List ABlk) : TL := match xs, bs with
  | [.rb false b .unk, .int .i64 n, .int .i64 w], [] => .ok ⟨[b.length < 1099511627776, puBad n w = false], .tup [.slice 0 0 1 (b.length + w.toNat) .ow (.is false), .bool true], [], [⟨.bytes (puB b n w), true, 1⟩]⟩
  | _, _ => .no
def spt76 : Spec := ⟨[.by0, .kp, .kp], fun _ _ => [], fun _ _ => [], gt76⟩
theorem ct76 : COK Try.prog gl0 76 (mkF spt76) := by
  refine ctrE (fn := Try.f76) [] 3000 (by kernel_rfl) (by kernel_rfl) okQz11 (by kernel_rfl) (fun args w => by kernel_rfl) fun xs bs r hs ho => ?_
  replace hs : (gt76 xs bs).sel = some r := hs
  unfold gt76 at hs
  split at hs
  · simp only [TL.sel, Option.some.injEq] at hs
    subst hs
    obtain ⟨h1, h2⟩ := obsT_cons.1 ho
    exact ⟨_, bq76g _ _ _ h1 (obsT_one.1 h2)⟩
  · simp [TL.sel] at hs
def gt31 (xs : List AV) (bs : List ABlk) : TL := match xs, bs with
  | [.rb false b .unk, .rb false v .unk, .int .i64 w], [] => .ok ⟨[b.length + v.length < 549755813888, puBad v.length w = false], .slice 0 0 1 (b.length + w.toNat + v.length) .ow (.is false), [], [⟨.bytes (pvB b v w), true, 1⟩]⟩
  | _, _ => .no
def spt31 : Spec := ⟨[.by0, .by0, .kp], fun _ _ => [], fun _ _ => [], gt31⟩
theorem ct31 : COK Try.prog gl0 31 (mkF spt31) := by
  refine ctrE (fn := Try.f31) [] 3000 (by kernel_rfl) (by kernel_rfl) okQz17 (by kernel_rfl) (fun args w => by kernel_rfl) fun xs bs r hs ho => ?_
  replace hs : (gt31 xs bs).sel = some r := hs
  unfold gt31 at hs
  split at hs
  · simp only [TL.sel, Option.some.injEq] at hs
    subst hs
    obtain ⟨h1, h2⟩ := obsT_cons.1 ho
    exact ⟨_, bq31g _ _ _ h1 (obsT_one.1 h2)⟩
  · simp [TL.sel] at hs
def gt87 (xs : List AV) (bs : List ABlk) : TL := match xs, bs with
  | [.rb false b .unk, .rb false v .unk, .int .i64 w], [] => .ok ⟨[b.length + v.length < 549755813888, puBad v.length w = false], .tup [.slice 0 0 1 (b.length + w.toNat + v.length) .ow (.is false), .bool true], [], [⟨.bytes (pvB b v w), true, 1⟩]⟩
  | _, _ => .no
def spt87 : Spec := ⟨[.by0, .by0, .kp], fun _ _ => [], fun _ _ => [], gt87⟩
theorem ct87 : COK Try.prog gl0 87 (mkF spt87) := by
  refine ctrE (fn := Try.f87) [] 3000 (by kernel_rfl) (by kernel_rfl) okQz17 (by kernel_rfl) (fun args w => by kernel_rfl) fun xs bs r hs ho => ?_
  replace hs : (gt87 xs bs).sel = some r := hs
  unfold gt87 at hs
  split at hs
  · simp only [TL.sel, Option.some.injEq] at hs
    subst hs
    obtain ⟨h1, h2⟩ := obsT_cons.1 ho
    exact ⟨_, bq87g _ _ _ h1 (obsT_one.1 h2)⟩
  · simp [TL.sel] at hs
end Go.Sym

set_option linter.unusedSimpArgs false
namespace Go.Spec
abbrev G8 := Nat → BitVec 8
/-- May it be a snapshot's? -/
def snOk (p : Int) (lg : Nat) (i o ie oe : Int) (pt us : Nat) (al : Int) : Bool :=
  decide (0 ≤ p) && decide (p ≤ 4) && (decide (0 ≤ i) && decide (i ≤ 64)) && (decide (0 ≤ o) && decide (o ≤ 64)) && (decide (0 ≤ ie) && decide (ie ≤ 65535)) && (decide (0 ≤ oe) && decide (oe ≤ 65535)) && (decide (-1 ≤ al) && decide (al ≤ 255)) && decide (lg ≤ 20000) && decide (pt ≤ 4096) && decide (us ≤ 255)
def snFl (sl : Bool) : BitVec 8 := match sl with | true => 1#8 | false => 0#8
end Go.Spec
namespace Go.Sym
open Go.Proofs Go.Spec
set_option linter.unusedVariables false
def sn8 (n : Nat) (f : G8) : List AV := (List.range n).map fun i => .u8 (f i)
def snC (p : Int) (lg : AV) (S : G8) (i o ie oe : Int) (sl : Bool) (pt us : AV) (al : Int) : List AV :=
  .int .i64 p :: lg :: (sn8 224 S ++ [.int .i64 i, .int .i64 o, .int .i64 ie, .int .i64 oe, .bool sl, pt, us, .int .i64 al])
def snS (p : Int) (lg : AV) (S : G8) (i o ie oe : Int) (sl : Bool) (pt us : AV) (al : Int) : AV := .agg (snC p lg S i o ie oe sl pt us al)
def asSn (cs : List AV) (g : Int → By → G8 → Int → Int → Int → Int → Bool → By → By → Int → TL) : TL :=
  match cs with
  | .int .i64 p :: .rb false lg .unk :: r =>
    match r.drop 224, rdU8 (r.take 224) with
    | [.int .i64 i, .int .i64 o, .int .i64 ie, .int .i64 oe, .bool sl, .rb false pt .unk, .rb false us .unk, .int .i64 al], some l =>
      (match l.length == 224 with | true => g p lg (fun j => l.getD j 0) i o ie oe sl pt us al | false => .no)
    | _, _ => .no
  | _ => .no
theorem asSn_sel {cs : List AV} {g : Int → By → G8 → Int → Int → Int → Int → Bool → By → By → Int → TL} {r : RL} (h : (asSn cs g).sel = some r) :
    ∃ p lg S i o ie oe sl pt us al, AV.agg cs = snS p (.rb false lg .unk) S i o ie oe sl (.rb false pt .unk) (.rb false us .unk) al ∧ (g p lg S i o ie oe sl pt us al).sel = some r := by
  unfold asSn at h
  split at h
  · rename_i p lg rr
    split at h
    · rename_i i o ie oe sl pt us al l hd hl
      split at h
      · rename_i hn
        have hn : l.length = 224 := by simpa using hn
        refine ⟨p, lg, _, i, o, ie, oe, sl, pt, us, al, ?_, h⟩
        unfold snS snC
        have e := List.take_append_drop 224 rr
        rw [hd, rdU8_eq hl] at e
        rw [← e]
        congr 4
        unfold sn8
        apply List.ext_getElem
        · simp [hn]
        · intro j h1 h2
          have hj : j < l.length := by simpa using h1
          simp [List.getD, hj]
      · simp [TL.sel] at h
    · simp [TL.sel] at h
  · simp [TL.sel] at h
def snK : Kd := .a (.kp :: .by0 :: (List.replicate 224 .kp ++ [.kp, .kp, .kp, .kp, .kp, .by0, .by0, .kp]))
noncomputable def Z1 : Ctx := Qz20.exe Try.prog gl0 [] 300 Try.f89.params.size 89 Try.f89
theorem okZ1 : COKs Try.prog gl0 Z1 := okQz20.exe [] 300 _ (by kernel_rfl) (by kernel_rfl) (by kernel_rfl) (fun args w => by kernel_rfl)
noncomputable def Z2 : Ctx := Z1.exe Try.prog gl0 [] 300 Try.f86.params.size 86 Try.f86
theorem okZ2 : COKs Try.prog gl0 Z2 := okZ1.exe [] 300 _ (by kernel_rfl) (by kernel_rfl) (by kernel_rfl) (fun args w => by kernel_rfl)
noncomputable def Z3 : Ctx := Z2.exe Try.prog gl0 [] 300 Try.f84.params.size 84 Try.f84
theorem okZ3 : COKs Try.prog gl0 Z3 := okZ2.exe [] 300 _ (by kernel_rfl) (by kernel_rfl) (by kernel_rfl) (fun args w => by kernel_rfl)
noncomputable def Z4 : Ctx := Z3.exe Try.prog gl0 [] 3000 Try.f88.params.size 88 Try.f88
theorem okZ4 : COKs Try.prog gl0 Z4 := okZ3.exe [] 3000 _ (by kernel_rfl) (by kernel_rfl) (by kernel_rfl) (fun args w => by kernel_rfl)
noncomputable def Z5 : Ctx := Z4.exe Try.prog gl0 [] 3000 Try.f85.params.size 85 Try.f85
theorem okZ5 : COKs Try.prog gl0 Z5 := okZ4.exe [] 3000 _ (by kernel_rfl) (by kernel_rfl) (by kernel_rfl) (fun args w => by kernel_rfl)
end Go.Sym

namespace Go.Sym
open Go.Proofs Go.Spec
set_option linter.unusedVariables false
set_option maxRecDepth 100000 in
theorem vs57 (p i o ie oe al : Int) (lg pt us : By) (S : G8) (sl b : Bool) : bodyP Try.prog Z5 gl0 [] [] 3000 Try.f57 0 [snS p (.rb false lg .unk) S i o ie oe sl (.rb false pt .unk) (.rb false us .unk) al] [] (retQ Try.prog Try.f57 0 ⟨[], .bool b, [], []⟩) = (
@Bool.rec (fun _ => Prop) (b = Bool.false ∧ True) (@Bool.rec (fun _ => Prop) (b = Bool.false ∧ True) (@Bool.rec (fun _ => Prop) (b = Bool.false ∧ True) (@Bool.rec (fun _ => Prop) (b = Bool.false ∧ True) (@Bool.rec (fun _ => Prop) (b = Bool.false ∧ True) (@Bool.rec (fun _ => Prop) (b = Bool.false ∧ True) (@Bool.rec (fun _ => Prop) (b = Bool.false ∧ True) (@Bool.rec (fun _ => Prop) (b = Bool.false ∧ True) (@Bool.rec (fun _ => Prop) (b = Bool.false ∧ True) (@Bool.rec (fun _ => Prop) (b = Bool.false ∧ True) (@Bool.rec (fun _ => Prop) (b = Bool.false ∧ True) (@Bool.rec (fun _ => Prop) (b = Bool.false ∧ True) (@Bool.rec (fun _ => Prop) (b = Bool.false ∧ True) (@Bool.rec (fun _ => Prop) (b = Bool.false ∧ True) (b = decide ((↑(List.length us) : Int) ≤ (255 : Int)) ∧ True) (decide ((↑(List.length pt) : Int) ≤ (4096 : Int)))) (decide ((↑(List.length lg) : Int) ≤ (20000 : Int)))) (decide (al ≤ (255 : Int)))) (decide (Int.negSucc 0 ≤ al))) (decide (oe ≤ (65535 : Int)))) (decide ((0 : Int) ≤ oe))) (decide (ie ≤ (65535 : Int)))) (decide ((0 : Int) ≤ ie))) (decide (o ≤ (64 : Int)))) (decide ((0 : Int) ≤ o))) (decide (i ≤ (64 : Int)))) (decide ((0 : Int) ≤ i))) (decide (p ≤ (4 : Int)))) (decide ((0 : Int) ≤ p)) : Prop) := by kernel_rfl
set_option maxRecDepth 100000 in
theorem vs58 (p i o ie oe al : Int) (lg pt us : By) (S : G8) (sl b : Bool) : bodyP Try.prog Z5 gl0 [] [] 3000 Try.f58 0 [snS p (.rb false lg .unk) S i o ie oe sl (.rb false pt .unk) (.rb false us .unk) al] [] (retQ Try.prog Try.f58 0 ⟨[], .bool b, [], []⟩) = (
@Bool.rec (fun _ => Prop) (b = Bool.false ∧ True) (@Bool.rec (fun _ => Prop) (b = Bool.false ∧ True) (@Bool.rec (fun _ => Prop) (b = Bool.false ∧ True) (@Bool.rec (fun _ => Prop) (b = Bool.false ∧ True) (@Bool.rec (fun _ => Prop) (b = Bool.false ∧ True) (@Bool.rec (fun _ => Prop) (b = Bool.false ∧ True) (@Bool.rec (fun _ => Prop) (b = Bool.false ∧ True) (@Bool.rec (fun _ => Prop) (b = Bool.false ∧ True) (@Bool.rec (fun _ => Prop) (b = Bool.false ∧ True) (@Bool.rec (fun _ => Prop) (b = Bool.false ∧ True) (@Bool.rec (fun _ => Prop) (b = Bool.false ∧ True) (@Bool.rec (fun _ => Prop) (b = Bool.false ∧ True) (@Bool.rec (fun _ => Prop) (b = Bool.false ∧ True) (@Bool.rec (fun _ => Prop) (b = Bool.false ∧ True) (b = decide ((↑(List.length us) : Int) ≤ (255 : Int)) ∧ True) (decide ((↑(List.length pt) : Int) ≤ (4096 : Int)))) (decide ((↑(List.length lg) : Int) ≤ (20000 : Int)))) (decide (al ≤ (255 : Int)))) (decide (Int.negSucc 0 ≤ al))) (decide (oe ≤ (65535 : Int)))) (decide ((0 : Int) ≤ oe))) (decide (ie ≤ (65535 : Int)))) (decide ((0 : Int) ≤ ie))) (decide (o ≤ (64 : Int)))) (decide ((0 : Int) ≤ o))) (decide (i ≤ (64 : Int)))) (decide ((0 : Int) ≤ i))) (decide (p ≤ (4 : Int)))) (decide ((0 : Int) ≤ p)) : Prop) := by kernel_rfl
set_option maxRecDepth 100000 in
theorem vs86 (b : Bool) (x : BitVec 8) : bodyP Try.prog Z1 gl0 [] [] 3000 Try.f86 0 [.bool b] [] (retQ Try.prog Try.f86 0 ⟨[], .u8 x, [], []⟩) = (
@Bool.rec (fun _ => Prop) (x = BitVec.ofNat 8 0 ∧ True) (x = BitVec.ofNat 8 1 ∧ True) b : Prop) := by kernel_rfl
end Go.Sym

set_option linter.unusedSimpArgs false
namespace Go.Spec
/-- What all versions have. -/
def snB1 (v p : Int) (lg : By) (S : G8) (i o ie oe : Int) (sl : Bool) (pt : By) : By :=
  [BitVec.ofInt 8 v, BitVec.ofInt 8 p] ++ (puL lg.length 2 ++ (lg ++ ((List.range 224).map S ++ ([BitVec.ofInt 8 i, BitVec.ofInt 8 o] ++ (puL ie.toNat 2 ++ (puL oe.toNat 2 ++ ([snFl sl] ++ (puL pt.length 2 ++ pt))))))))
/-- A snapshot's bytes. -/
def snB (v p : Int) (lg : By) (S : G8) (i o ie oe : Int) (sl : Bool) (pt us : By) (al : Int) : By :=
  snB1 v p lg S i o ie oe sl pt ++ ((if 2 ≤ v then puL us.length 1 ++ us else []) ++ (if 3 ≤ v then puL (al + 1).toNat 2 else []))
end Go.Spec
namespace Go.Sym
open Go.Proofs Go.Spec
set_option linter.unusedVariables false
theorem snOk_eq (p i o ie oe al : Int) (lg pt us : By) : 
    (@Bool.rec (fun _ => Prop) (snOk p lg.length i o ie oe pt.length us.length al = Bool.false ∧ True) (@Bool.rec (fun _ => Prop) (snOk p lg.length i o ie oe pt.length us.length al = Bool.false ∧ True) (@Bool.rec (fun _ => Prop) (snOk p lg.length i o ie oe pt.length us.length al = Bool.false ∧ True) (@Bool.rec (fun _ => Prop) (snOk p lg.length i o ie oe pt.length us.length al = Bool.false ∧ True) (@Bool.rec (fun _ => Prop) (snOk p lg.length i o ie oe pt.length us.length al = Bool.false ∧ True) (@Bool.rec (fun _ => Prop) (snOk p lg.length i o ie oe pt.length us.length al = Bool.false ∧ True) (@Bool.rec (fun _ => Prop) (snOk p lg.length i o ie oe pt.length us.length al = Bool.false ∧ True) (@Bool.rec (fun _ => Prop) (snOk p lg.length i o ie oe pt.length us.length al = Bool.false ∧ True) (@Bool.rec (fun _ => Prop) (snOk p lg.length i o ie oe pt.length us.length al = Bool.false ∧ True) (@Bool.rec (fun _ => Prop) (snOk p lg.length i o ie oe pt.length us.length al = Bool.false ∧ True) (@Bool.rec (fun _ => Prop) (snOk p lg.length i o ie oe pt.length us.length al = Bool.false ∧ True) (@Bool.rec (fun _ => Prop) (snOk p lg.length i o ie oe pt.length us.length al = Bool.false ∧ True) (@Bool.rec (fun _ => Prop) (snOk p lg.length i o ie oe pt.length us.length al = Bool.false ∧ True) (@Bool.rec (fun _ => Prop) (snOk p lg.length i o ie oe pt.length us.length al = Bool.false ∧ True) (snOk p lg.length i o ie oe pt.length us.length al = decide ((↑(List.length us) : Int) ≤ (255 : Int)) ∧ True) (decide ((↑(List.length pt) : Int) ≤ (4096 : Int)))) (decide ((↑(List.length lg) : Int) ≤ (20000 : Int)))) (decide (al ≤ (255 : Int)))) (decide (Int.negSucc 0 ≤ al))) (decide (oe ≤ (65535 : Int)))) (decide ((0 : Int) ≤ oe))) (decide (ie ≤ (65535 : Int)))) (decide ((0 : Int) ≤ ie))) (decide (o ≤ (64 : Int)))) (decide ((0 : Int) ≤ o))) (decide (i ≤ (64 : Int)))) (decide ((0 : Int) ≤ i))) (decide (p ≤ (4 : Int)))) (decide ((0 : Int) ≤ p)) : Prop) := by
  have e1 : decide ((lg.length : Int) ≤ 20000) = decide (lg.length ≤ 20000) := by congr 1; apply propext; omega
  have e2 : decide ((pt.length : Int) ≤ 4096) = decide (pt.length ≤ 4096) := by congr 1; apply propext; omega
  have e3 : decide ((us.length : Int) ≤ 255) = decide (us.length ≤ 255) := by congr 1; apply propext; omega
  have e4 : decide (Int.negSucc 0 ≤ al) = decide (-1 ≤ al) := rfl
  rw [e1, e2, e3, e4]
  unfold snOk
  generalize decide (0 ≤ p) = a1, decide (p ≤ 4) = a2, decide (0 ≤ i) = a3, decide (i ≤ 64) = a4, decide (0 ≤ o) = a5, decide (o ≤ 64) = a6, decide (0 ≤ ie) = a7, decide (ie ≤ 65535) = a8
  generalize decide (0 ≤ oe) = b1, decide (oe ≤ 65535) = b2, decide (-1 ≤ al) = b3, decide (al ≤ 255) = b4, decide (lg.length ≤ 20000) = b5, decide (pt.length ≤ 4096) = b6, decide (us.length ≤ 255) = b7
  cases a1
  · exact ⟨rfl, trivial⟩
  cases a2
  · exact ⟨rfl, trivial⟩
  cases a3
  · exact ⟨rfl, trivial⟩
  cases a4
  · exact ⟨rfl, trivial⟩
  cases a5
  · exact ⟨rfl, trivial⟩
  cases a6
  · exact ⟨rfl, trivial⟩
  cases a7
  · exact ⟨rfl, trivial⟩
  cases a8
  · exact ⟨rfl, trivial⟩
  cases b1
  · exact ⟨rfl, trivial⟩
  cases b2
  · exact ⟨rfl, trivial⟩
  cases b3
  · exact ⟨rfl, trivial⟩
  cases b4
  · exact ⟨rfl, trivial⟩
  cases b5
  · exact ⟨rfl, trivial⟩
  cases b6
  · exact ⟨rfl, trivial⟩
  exact ⟨rfl, trivial⟩
theorem bs57 (p i o ie oe al : Int) (lg pt us : By) (S : G8) (sl : Bool) : Must (bodyP Try.prog Z5 gl0 [] [] 3000 Try.f57 0 [snS p (.rb false lg .unk) S i o ie oe sl (.rb false pt .unk) (.rb false us .unk) al] [] (retQ Try.prog Try.f57 0 ⟨[], .bool (snOk p lg.length i o ie oe pt.length us.length al), [], []⟩)) := by
  constructor
  rw [vs57]
  exact snOk_eq p i o ie oe al lg pt us
theorem bs58 (p i o ie oe al : Int) (lg pt us : By) (S : G8) (sl : Bool) : Must (bodyP Try.prog Z5 gl0 [] [] 3000 Try.f58 0 [snS p (.rb false lg .unk) S i o ie oe sl (.rb false pt .unk) (.rb false us .unk) al] [] (retQ Try.prog Try.f58 0 ⟨[], .bool (snOk p lg.length i o ie oe pt.length us.length al), [], []⟩)) := by
  constructor
  rw [vs58]
  exact snOk_eq p i o ie oe al lg pt us
def gs57 (xs : List AV) (bs : List ABlk) : TL := match xs, bs with
  | [.agg cs], [] => asSn cs fun p lg S i o ie oe sl pt us al => .ok ⟨[], .bool (snOk p lg.length i o ie oe pt.length us.length al), [], []⟩
  | _, _ => .no
def sps57 : Spec := ⟨[snK], fun _ _ => [], fun _ _ => [], gs57⟩
theorem cs57 : COK Try.prog gl0 57 (mkF sps57) := by
  refine ctrE (fn := Try.f57) [] 3000 (by kernel_rfl) (by kernel_rfl) okZ5 (by kernel_rfl) (fun args w => by kernel_rfl) fun xs bs r hs ho => ?_
  replace hs : (gs57 xs bs).sel = some r := hs
  unfold gs57 at hs
  split at hs
  · obtain ⟨p, lg, S, i, o, ie, oe, sl, pt, us, al, e, hs⟩ := asSn_sel hs
    simp only [TL.sel, Option.some.injEq] at hs
    subst hs
    rw [e]
    exact ⟨_, bs57 ..⟩
  · simp [TL.sel] at hs
theorem cs58 : COK Try.prog gl0 58 (mkF sps57) := by
  refine ctrE (fn := Try.f58) [] 3000 (by kernel_rfl) (by kernel_rfl) okZ5 (by kernel_rfl) (fun args w => by kernel_rfl) fun xs bs r hs ho => ?_
  replace hs : (gs57 xs bs).sel = some r := hs
  unfold gs57 at hs
  split at hs
  · obtain ⟨p, lg, S, i, o, ie, oe, sl, pt, us, al, e, hs⟩ := asSn_sel hs
    simp only [TL.sel, Option.some.injEq] at hs
    subst hs
    rw [e]
    exact ⟨_, bs58 ..⟩
  · simp [TL.sel] at hs
theorem bs86 (b : Bool) : Must (bodyP Try.prog Z1 gl0 [] [] 3000 Try.f86 0 [.bool b] [] (retQ Try.prog Try.f86 0 ⟨[], .u8 (snFl b), [], []⟩)) := by
  constructor
  rw [vs86]
  cases b <;> exact ⟨rfl, trivial⟩
def gs86 (xs : List AV) (bs : List ABlk) : TL := match xs, bs with
  | [.bool b], [] => .ok ⟨[], .u8 (snFl b), [], []⟩
  | _, _ => .no
theorem cs86 : COK Try.prog gl0 86 (mkF (reSp 1 gs86)) := by
  refine ctrE (fn := Try.f86) [] 3000 (by kernel_rfl) (by kernel_rfl) okZ1 (by kernel_rfl) (fun args w => by kernel_rfl) fun xs bs r hs ho => ?_
  replace hs : (gs86 xs bs).sel = some r := hs
  unfold gs86 at hs
  split at hs
  · rename_i b
    simp only [TL.sel, Option.some.injEq] at hs
    subst hs
    exact ⟨[], bs86 b⟩
  · simp [TL.sel] at hs
noncomputable def Z6 : Ctx := Z5.add 57 (mkF sps57)
noncomputable def Z7 : Ctx := Z6.add 58 (mkF sps57)
noncomputable def Z8 : Ctx := Z7.add 30 (mkF spt30)
noncomputable def Z9 : Ctx := Z8.add 31 (mkF spt31)
noncomputable def Z10 : Ctx := Z9.add 76 (mkF spt76)
noncomputable def Z11 : Ctx := Z10.add 87 (mkF spt87)
noncomputable def Z12 : Ctx := Z11.add 86 (mkF (reSp 1 gs86))
theorem okZ12 : COKs Try.prog gl0 Z12 := ((((((okZ5.add cs57).add cs58).add ct30).add ct31).add ct76).add ct87).add cs86
end Go.Sym

namespace Go.Sym
open Go.Proofs Go.Spec
set_option linter.unusedVariables false
set_option maxRecDepth 100000 in
theorem vs53g (v p i o ie oe al : Int) (lg pt us B : By) (n1 n2 n3 : NL) (S : G8) (sl : Bool) (L : Nat) : bodyP Try.prog Z12 gl0 [] [] 3000 Try.f53 0 [snS p (.rb true lg n1) S i o ie oe sl (.rb true pt n2) (.rb true us n3) al, .int .i64 v] [] (retQ Try.prog Try.f53 0 (rMg L B)) = (
let x1 := pvB [BitVec.ofInt 8 v, BitVec.ofInt 8 p] lg (2 : Int) ++ rg 32 S ++ rgA S 32 32 [] ++ rgA S 64 32 [] ++ rgA S 96 32 [] ++ rgA S 128 32 [] ++ rgA S 160 32 [] ++ rgA S 192 32 [] ++ [BitVec.ofInt 8 i, BitVec.ofInt 8 o]; let x2 := [BitVec.ofInt 8 v, BitVec.ofInt 8 p].length + 2 + List.length lg + (rg 32 S).length + (rgA S 32 32 []).length + (rgA S 64 32 []).length; let x3 := puB (puB x1 ie (2 : Int)) oe (2 : Int) ++ [snFl sl]; let x4 := [BitVec.ofInt 8 v, BitVec.ofInt 8 p]; let x5 := x2 + (rgA S 96 32 []).length + (rgA S 128 32 []).length; let x6 := pvB x4 lg (2 : Int) ++ rg 32 S ++ rgA S 32 32 [] ++ rgA S 64 32 []; let x7 := Bool.false = Bool.true ∧ L = 0 ∧ (0 : Int) = (1 : Int) ∧ B = [] ∧ True; @Bool.rec (fun _ => Prop) x7 (@Bool.rec (fun _ => Prop) x7 (@Bool.rec (fun _ => Prop) (2 = x4.length ∧ x4.length + List.length lg < 549755813888 ∧ puBad (↑(List.length lg) : Int) (2 : Int) = Bool.false ∧ (0 : Int) ≤ (0 : Int) ∧ 0 < 7 ∧ x4.length + 2 + List.length lg = List.length (pvB x4 lg (2 : Int)) ∧ roomFor (x4.length + 2 + List.length lg) (rg 32 S).length 1 ∧ (0 : Int) ≤ Int.ofNat 1 ∧ 1 < 7 ∧ x4.length + 2 + List.length lg + (rg 32 S).length = (pvB x4 lg (2 : Int) ++ rg 32 S).length ∧ roomFor (x4.length + 2 + List.length lg + (rg 32 S).length) (rgA S 32 32 []).length 1 ∧ (0 : Int) ≤ Int.ofNat 2 ∧ 2 < 7 ∧ x4.length + 2 + List.length lg + (rg 32 S).length + (rgA S 32 32 []).length = (pvB x4 lg (2 : Int) ++ rg 32 S ++ rgA S 32 32 []).length ∧ roomFor (x4.length + 2 + List.length lg + (rg 32 S).length + (rgA S 32 32 []).length) (rgA S 64 32 []).length 1 ∧ (0 : Int) ≤ Int.ofNat 3 ∧ 3 < 7 ∧ x2 = x6.length ∧ roomFor x2 (rgA S 96 32 []).length 1 ∧ (0 : Int) ≤ Int.ofNat 4 ∧ 4 < 7 ∧ x2 + (rgA S 96 32 []).length = (x6 ++ rgA S 96 32 []).length ∧ roomFor (x2 + (rgA S 96 32 []).length) (rgA S 128 32 []).length 1 ∧ (0 : Int) ≤ Int.ofNat 5 ∧ 5 < 7 ∧ x5 = (x6 ++ rgA S 96 32 [] ++ rgA S 128 32 []).length ∧ roomFor x5 (rgA S 160 32 []).length 1 ∧ (0 : Int) ≤ Int.ofNat 6 ∧ 6 < 7 ∧ x5 + (rgA S 160 32 []).length = (x6 ++ rgA S 96 32 [] ++ rgA S 128 32 [] ++ rgA S 160 32 []).length ∧ roomFor (x5 + (rgA S 160 32 []).length) (rgA S 192 32 []).length 1 ∧ 2 = [BitVec.ofInt 8 i, BitVec.ofInt 8 o].length ∧ x5 + (rgA S 160 32 []).length + (rgA S 192 32 []).length = (x6 ++ rgA S 96 32 [] ++ rgA S 128 32 [] ++ rgA S 160 32 [] ++ rgA S 192 32 []).length ∧ roomFor (x5 + (rgA S 160 32 []).length + (rgA S 192 32 []).length) [BitVec.ofInt 8 i, BitVec.ofInt 8 o].length 1 ∧ x5 + (rgA S 160 32 []).length + (rgA S 192 32 []).length + [BitVec.ofInt 8 i, BitVec.ofInt 8 o].length = x1.length ∧ x1.length < 1099511627776 ∧ puBad ie (2 : Int) = Bool.false ∧ x1.length + 2 = List.length (puB x1 ie (2 : Int)) ∧ List.length (puB x1 ie (2 : Int)) < 1099511627776 ∧ puBad oe (2 : Int) = Bool.false ∧ 1 = [snFl sl].length ∧ List.length (puB x1 ie (2 : Int)) + 2 = List.length (puB (puB x1 ie (2 : Int)) oe (2 : Int)) ∧ roomFor (List.length (puB x1 ie (2 : Int)) + 2) [snFl sl].length 1 ∧ List.length (puB x1 ie (2 : Int)) + 2 + [snFl sl].length = x3.length ∧ x3.length + List.length pt < 549755813888 ∧ puBad (↑(List.length pt) : Int) (2 : Int) = Bool.false ∧ @Bool.rec (fun _ => Prop) (@Bool.rec (fun _ => Prop) (Bool.false = Bool.false ∧ 0 = 0 ∧ 0 = 0 ∧ 0 = 0 ∧ L = x3.length + 2 + List.length pt ∧ (0 : Int) = (0 : Int) ∧ B = pvB x3 pt (2 : Int) ∧ True) (x3.length + 2 + List.length pt = List.length (pvB x3 pt (2 : Int)) ∧ List.length (pvB x3 pt (2 : Int)) < 1099511627776 ∧ puBad (IntKind.i64.wrap (al - Int.negSucc 0)) (2 : Int) = Bool.false ∧ Bool.false = Bool.false ∧ 0 = 0 ∧ 0 = 0 ∧ 0 = 0 ∧ L = List.length (pvB x3 pt (2 : Int)) + 2 ∧ (0 : Int) = (0 : Int) ∧ B = puB (pvB x3 pt (2 : Int)) (IntKind.i64.wrap (al - Int.negSucc 0)) (2 : Int) ∧ True) (decide ((3 : Int) ≤ v))) (x3.length + 2 + List.length pt = List.length (pvB x3 pt (2 : Int)) ∧ List.length (pvB x3 pt (2 : Int)) + List.length us < 549755813888 ∧ puBad (↑(List.length us) : Int) (1 : Int) = Bool.false ∧ @Bool.rec (fun _ => Prop) (Bool.false = Bool.false ∧ 0 = 0 ∧ 0 = 0 ∧ 0 = 0 ∧ L = List.length (pvB x3 pt (2 : Int)) + 1 + List.length us ∧ (0 : Int) = (0 : Int) ∧ B = pvB (pvB x3 pt (2 : Int)) us (1 : Int) ∧ True) (List.length (pvB x3 pt (2 : Int)) + 1 + List.length us = List.length (pvB (pvB x3 pt (2 : Int)) us (1 : Int)) ∧ List.length (pvB (pvB x3 pt (2 : Int)) us (1 : Int)) < 1099511627776 ∧ puBad (IntKind.i64.wrap (al - Int.negSucc 0)) (2 : Int) = Bool.false ∧ Bool.false = Bool.false ∧ 0 = 0 ∧ 0 = 0 ∧ 0 = 0 ∧ L = List.length (pvB (pvB x3 pt (2 : Int)) us (1 : Int)) + 2 ∧ (0 : Int) = (0 : Int) ∧ B = puB (pvB (pvB x3 pt (2 : Int)) us (1 : Int)) (IntKind.i64.wrap (al - Int.negSucc 0)) (2 : Int) ∧ True) (decide ((3 : Int) ≤ v))) (decide ((2 : Int) ≤ v))) x7 !decide (v ≤ (3 : Int))) (decide ((1 : Int) ≤ v))) !!snOk p (List.length lg) i o ie oe (List.length pt) (List.length us) al : Prop) := by kernel_rfl
set_option maxRecDepth 100000 in
theorem vs53b (v p i o ie oe al : Int) (lg pt us : By) (n1 n2 n3 : NL) (S : G8) (sl : Bool) : bodyP Try.prog Z12 gl0 [] [] 3000 Try.f53 0 [snS p (.rb true lg n1) S i o ie oe sl (.rb true pt n2) (.rb true us n3) al, .int .i64 v] [] (retQ Try.prog Try.f53 0 rMb) = (
let x1 := pvB [BitVec.ofInt 8 v, BitVec.ofInt 8 p] lg (2 : Int) ++ rg 32 S ++ rgA S 32 32 [] ++ rgA S 64 32 [] ++ rgA S 96 32 [] ++ rgA S 128 32 [] ++ rgA S 160 32 [] ++ rgA S 192 32 [] ++ [BitVec.ofInt 8 i, BitVec.ofInt 8 o]; let x2 := [BitVec.ofInt 8 v, BitVec.ofInt 8 p].length + 2 + List.length lg + (rg 32 S).length + (rgA S 32 32 []).length + (rgA S 64 32 []).length; let x3 := [BitVec.ofInt 8 v, BitVec.ofInt 8 p]; let x4 := puB (puB x1 ie (2 : Int)) oe (2 : Int) ++ [snFl sl]; let x5 := x2 + (rgA S 96 32 []).length + (rgA S 128 32 []).length; let x6 := pvB x3 lg (2 : Int) ++ rg 32 S ++ rgA S 32 32 [] ++ rgA S 64 32 []; @Bool.rec (fun _ => Prop) ((1 : Int) = (1 : Int) ∧ True) (@Bool.rec (fun _ => Prop) ((1 : Int) = (1 : Int) ∧ True) (@Bool.rec (fun _ => Prop) (2 = x3.length ∧ x3.length + List.length lg < 549755813888 ∧ puBad (↑(List.length lg) : Int) (2 : Int) = Bool.false ∧ (0 : Int) ≤ (0 : Int) ∧ 0 < 7 ∧ x3.length + 2 + List.length lg = List.length (pvB x3 lg (2 : Int)) ∧ roomFor (x3.length + 2 + List.length lg) (rg 32 S).length 1 ∧ (0 : Int) ≤ Int.ofNat 1 ∧ 1 < 7 ∧ x3.length + 2 + List.length lg + (rg 32 S).length = (pvB x3 lg (2 : Int) ++ rg 32 S).length ∧ roomFor (x3.length + 2 + List.length lg + (rg 32 S).length) (rgA S 32 32 []).length 1 ∧ (0 : Int) ≤ Int.ofNat 2 ∧ 2 < 7 ∧ x3.length + 2 + List.length lg + (rg 32 S).length + (rgA S 32 32 []).length = (pvB x3 lg (2 : Int) ++ rg 32 S ++ rgA S 32 32 []).length ∧ roomFor (x3.length + 2 + List.length lg + (rg 32 S).length + (rgA S 32 32 []).length) (rgA S 64 32 []).length 1 ∧ (0 : Int) ≤ Int.ofNat 3 ∧ 3 < 7 ∧ x2 = x6.length ∧ roomFor x2 (rgA S 96 32 []).length 1 ∧ (0 : Int) ≤ Int.ofNat 4 ∧ 4 < 7 ∧ x2 + (rgA S 96 32 []).length = (x6 ++ rgA S 96 32 []).length ∧ roomFor (x2 + (rgA S 96 32 []).length) (rgA S 128 32 []).length 1 ∧ (0 : Int) ≤ Int.ofNat 5 ∧ 5 < 7 ∧ x5 = (x6 ++ rgA S 96 32 [] ++ rgA S 128 32 []).length ∧ roomFor x5 (rgA S 160 32 []).length 1 ∧ (0 : Int) ≤ Int.ofNat 6 ∧ 6 < 7 ∧ x5 + (rgA S 160 32 []).length = (x6 ++ rgA S 96 32 [] ++ rgA S 128 32 [] ++ rgA S 160 32 []).length ∧ roomFor (x5 + (rgA S 160 32 []).length) (rgA S 192 32 []).length 1 ∧ 2 = [BitVec.ofInt 8 i, BitVec.ofInt 8 o].length ∧ x5 + (rgA S 160 32 []).length + (rgA S 192 32 []).length = (x6 ++ rgA S 96 32 [] ++ rgA S 128 32 [] ++ rgA S 160 32 [] ++ rgA S 192 32 []).length ∧ roomFor (x5 + (rgA S 160 32 []).length + (rgA S 192 32 []).length) [BitVec.ofInt 8 i, BitVec.ofInt 8 o].length 1 ∧ x5 + (rgA S 160 32 []).length + (rgA S 192 32 []).length + [BitVec.ofInt 8 i, BitVec.ofInt 8 o].length = x1.length ∧ x1.length < 1099511627776 ∧ puBad ie (2 : Int) = Bool.false ∧ x1.length + 2 = List.length (puB x1 ie (2 : Int)) ∧ List.length (puB x1 ie (2 : Int)) < 1099511627776 ∧ puBad oe (2 : Int) = Bool.false ∧ 1 = [snFl sl].length ∧ List.length (puB x1 ie (2 : Int)) + 2 = List.length (puB (puB x1 ie (2 : Int)) oe (2 : Int)) ∧ roomFor (List.length (puB x1 ie (2 : Int)) + 2) [snFl sl].length 1 ∧ List.length (puB x1 ie (2 : Int)) + 2 + [snFl sl].length = x4.length ∧ x4.length + List.length pt < 549755813888 ∧ puBad (↑(List.length pt) : Int) (2 : Int) = Bool.false ∧ @Bool.rec (fun _ => Prop) (@Bool.rec (fun _ => Prop) (Bool.false = Bool.true ∧ (1 : Int) = (0 : Int) ∧ True) (x4.length + 2 + List.length pt = List.length (pvB x4 pt (2 : Int)) ∧ List.length (pvB x4 pt (2 : Int)) < 1099511627776 ∧ puBad (IntKind.i64.wrap (al - Int.negSucc 0)) (2 : Int) = Bool.false ∧ Bool.false = Bool.true ∧ (1 : Int) = (0 : Int) ∧ True) (decide ((3 : Int) ≤ v))) (x4.length + 2 + List.length pt = List.length (pvB x4 pt (2 : Int)) ∧ List.length (pvB x4 pt (2 : Int)) + List.length us < 549755813888 ∧ puBad (↑(List.length us) : Int) (1 : Int) = Bool.false ∧ @Bool.rec (fun _ => Prop) (Bool.false = Bool.true ∧ (1 : Int) = (0 : Int) ∧ True) (List.length (pvB x4 pt (2 : Int)) + 1 + List.length us = List.length (pvB (pvB x4 pt (2 : Int)) us (1 : Int)) ∧ List.length (pvB (pvB x4 pt (2 : Int)) us (1 : Int)) < 1099511627776 ∧ puBad (IntKind.i64.wrap (al - Int.negSucc 0)) (2 : Int) = Bool.false ∧ Bool.false = Bool.true ∧ (1 : Int) = (0 : Int) ∧ True) (decide ((3 : Int) ≤ v))) (decide ((2 : Int) ≤ v))) ((1 : Int) = (1 : Int) ∧ True) !decide (v ≤ (3 : Int))) (decide ((1 : Int) ≤ v))) !!snOk p (List.length lg) i o ie oe (List.length pt) (List.length us) al : Prop) := by kernel_rfl
end Go.Sym

set_option linter.unusedSimpArgs false
namespace Go.Spec
/-- Bytes of a place on. -/
def cutB (L : By) (x m : Nat) : By := rg m (fun j => L.getD (x + j) 0)
theorem cutB_eq {L : By} {x m : Nat} (h : x + m ≤ L.length) : (L.drop x).take m = cutB L x m := by
  unfold cutB
  apply List.ext_getElem
  · rw [rg_length, List.length_take, List.length_drop]; omega
  · intro i h1 h2
    have hi : i < m := by rw [rg_length] at h2; exact h2
    have e := rg_getD m (fun j => L.getD (x + j) 0) i 0 hi
    rw [List.getD, List.getElem?_eq_getElem h2] at e
    have h3 : x + i < L.length := by omega
    rw [List.getElem_take, List.getElem_drop]
    refine Eq.trans ?_ e.symm
    simp [List.getD, h3]
theorem cutB_len (L : By) (x m : Nat) : (cutB L x m).length = m := rg_length ..
end Go.Spec
namespace Go.Sym
open Go.Proofs Go.Spec
set_option linter.unusedVariables false
/-- The same reads, where there is enough. -/
def gt19 (xs : List AV) (bs : List ABlk) : TL := match xs, bs with
  | [.ptr 0 0 0 0, .int .i64 m], [⟨.cells [.slice 1 x 1 n .ox .unk, .int .i64 0], true, 0⟩, ⟨.bytes L, true, 1⟩] =>
    .ok ⟨[x + n = L.length, L.length < 1099511627776, 0 ≤ m, x + m.toNat ≤ L.length], .slice 2 0 1 m.toNat .ow .unk, [some (some (rdC (x + m.toNat) (L.length - (x + m.toNat)) 0)), some (some (rdL L))], [⟨.bytes (cutB L x m.toNat), true, 1⟩]⟩
  | _, _ => .no
theorem obs4 {a b c d : Prop} (h : obsT [a, b, c, d]) : a ∧ b ∧ c ∧ d := by
  obtain ⟨h1, h⟩ := obsT_cons.1 h
  obtain ⟨h2, h⟩ := obsT_cons.1 h
  obtain ⟨h3, h⟩ := obsT_cons.1 h
  exact ⟨h1, h2, h3, obsT_one.1 h⟩
theorem ct19 : COK Try.prog gl0 19 (mkF (reSp 2 gt19)) := by
  refine ctrE (fn := Try.f19) [] 3000 (by kernel_rfl) (by kernel_rfl) okQz4 (by kernel_rfl) (fun args w => by kernel_rfl) fun xs bs r hs ho => ?_
  replace hs : (gt19 xs bs).sel = some r := hs
  unfold gt19 at hs
  split at hs
  · rename_i m x n L
    simp only [TL.sel, Option.some.injEq] at hs
    subst hs
    obtain ⟨h1, h2, h3, h4⟩ := obs4 ho
    obtain ⟨k1, k2, k3⟩ := rd_ok h3 h4
    have h := bq19 L x n 0 m h1 h2
    rw [k1, k2, k3, cutB_eq h4, cutB_len] at h
    exact ⟨_, h⟩
  · simp [TL.sel] at hs
def gt18 (xs : List AV) (bs : List ABlk) : TL := match xs, bs with
  | [.ptr 0 0 0 0, .int .i64 w], [⟨.cells [.slice 1 x 1 n .ox .unk, .int .i64 0], true, 0⟩, ⟨.bytes L, true, 1⟩] =>
    .ok ⟨[x + n = L.length, L.length < 1099511627776, 1 ≤ w ∧ w ≤ 4, x + w.toNat ≤ L.length], .int .i64 (beN (cutB L x w.toNat)), [some (some (rdC (x + w.toNat) (L.length - (x + w.toNat)) 0)), some (some (rdL L))], []⟩
  | _, _ => .no
theorem ct18 : COK Try.prog gl0 18 (mkF (reSp 2 gt18)) := by
  refine ctrE (fn := Try.f18) [] 3000 (by kernel_rfl) (by kernel_rfl) okQz6 (by kernel_rfl) (fun args w => by kernel_rfl) fun xs bs r hs ho => ?_
  replace hs : (gt18 xs bs).sel = some r := hs
  unfold gt18 at hs
  split at hs
  · rename_i w x n L
    simp only [TL.sel, Option.some.injEq] at hs
    subst hs
    obtain ⟨h1, h2, h3, h4⟩ := obs4 ho
    obtain ⟨k1, k2, k3⟩ := ui_ok h3.1 h3.2 h4
    have h := bq18 L x n 0 w h1 h2
    rw [k1, k2, k3, cutB_eq h4] at h
    exact ⟨_, h⟩
  · simp [TL.sel] at hs
theorem ve_ok {L : By} {x : Nat} {w a z : Int} (h1 : 1 ≤ w) (h4 : w ≤ 4) (h : x + w.toNat ≤ L.length) (k : Nat) (hk : k = beN (cutB L x w.toNat)) (ha : a ≤ (k : Int)) (hz : (k : Int) ≤ z) (hl : x + w.toNat + k ≤ L.length) :
    veE L x 0 w a z = 0 ∧ veX L x 0 w = x + w.toNat + k ∧ veB L x 0 w a z = cutB L (x + w.toNat) k := by
  obtain ⟨k1, k2, k3⟩ := ui_ok h1 h4 h
  rw [cutB_eq h, ← hk] at k3
  obtain ⟨j1, j2, j3⟩ := rd_ok (L := L) (x := x + w.toNat) (m := (k : Int)) (by omega) (by simpa using hl)
  have hE : veE L x 0 w a z = 0 := by
    unfold veE
    rw [k1, k2, k3, j1, if_neg (by simp), if_neg (by omega)]
  refine ⟨hE, ?_, ?_⟩
  · unfold veX
    rw [k1, k2, k3, j2]
    simp
  · unfold veB
    rw [if_pos hE, k1, k2, k3, j3]
    simp only [Int.toNat_natCast]
    exact cutB_eq hl
def gt20 (xs : List AV) (bs : List ABlk) : TL := match xs, bs with
  | [.ptr 0 0 0 0, .int .i64 w, .int .i64 a, .int .i64 z], [⟨.cells [.slice 1 x 1 n .ox .unk, .int .i64 0], true, 0⟩, ⟨.bytes L, true, 1⟩] =>
    .ok ⟨[x + n = L.length, L.length < 1099511627776, 1 ≤ w ∧ w ≤ 4, x + w.toNat + beN (cutB L x w.toNat) ≤ L.length ∧ a ≤ (beN (cutB L x w.toNat) : Int) ∧ (beN (cutB L x w.toNat) : Int) ≤ z], .slice 2 0 1 (beN (cutB L x w.toNat)) .ow .unk, [some (some (rdC (x + w.toNat + beN (cutB L x w.toNat)) (L.length - (x + w.toNat + beN (cutB L x w.toNat))) 0)), some (some (rdL L))], [⟨.bytes (cutB L (x + w.toNat) (beN (cutB L x w.toNat))), true, 1⟩]⟩
  | _, _ => .no
theorem ct20 : COK Try.prog gl0 20 (mkF (reSp 4 gt20)) := by
  refine ctrE (fn := Try.f20) [] 3000 (by kernel_rfl) (by kernel_rfl) okQz7 (by kernel_rfl) (fun args w => by kernel_rfl) fun xs bs r hs ho => ?_
  replace hs : (gt20 xs bs).sel = some r := hs
  unfold gt20 at hs
  split at hs
  · rename_i w a z x n L
    simp only [TL.sel, Option.some.injEq] at hs
    subst hs
    obtain ⟨h1, h2, h3, h4, h5, h6⟩ := obs4 ho
    obtain ⟨k1, k2, k3⟩ := ve_ok (L := L) (x := x) (w := w) (a := a) (z := z) h3.1 h3.2 (by omega) _ rfl h5 h6 h4
    have h := bq20 L x n 0 w a z h1 h2
    rw [k1, k2, k3, cutB_len] at h
    exact ⟨_, h⟩
  · simp [TL.sel] at hs
def gt22 (xs : List AV) (bs : List ABlk) : TL := match xs, bs with
  | [.ptr 0 0 0 0], [⟨.cells [.slice 1 x 1 n .ox .unk, .int .i64 0], true, 0⟩, ⟨.bytes L, true, 1⟩] =>
    .ok ⟨[n = 0], .int .i64 0, [some (some (rdC x n 0)), some (some (rdL L))], []⟩
  | _, _ => .no
theorem ct22 : COK Try.prog gl0 22 (mkF (reSp 1 gt22)) := by
  refine ctrE (fn := Try.f22) [] 3000 (by kernel_rfl) (by kernel_rfl) okQz7 (by kernel_rfl) (fun args w => by kernel_rfl) fun xs bs r hs ho => ?_
  replace hs : (gt22 xs bs).sel = some r := hs
  unfold gt22 at hs
  split at hs
  · rename_i x n L
    simp only [TL.sel, Option.some.injEq] at hs
    subst hs
    have h1 := obsT_one.1 ho
    subst h1
    exact ⟨_, bq22 L x 0 0⟩
  · simp [TL.sel] at hs
/-- The same question, where it may be. -/
def gt57 (xs : List AV) (bs : List ABlk) : TL := match xs, bs with
  | [.agg cs], [] => asSn cs fun p lg S i o ie oe sl pt us al => .ok ⟨[snOk p lg.length i o ie oe pt.length us.length al = true], .bool true, [], []⟩
  | _, _ => .no
def spt57 : Spec := ⟨[snK], fun _ _ => [], fun _ _ => [], gt57⟩
theorem ct57 : COK Try.prog gl0 57 (mkF spt57) := by
  refine ctrE (fn := Try.f57) [] 3000 (by kernel_rfl) (by kernel_rfl) okZ5 (by kernel_rfl) (fun args w => by kernel_rfl) fun xs bs r hs ho => ?_
  replace hs : (gt57 xs bs).sel = some r := hs
  unfold gt57 at hs
  split at hs
  · obtain ⟨p, lg, S, i, o, ie, oe, sl, pt, us, al, e, hs⟩ := asSn_sel hs
    simp only [TL.sel, Option.some.injEq] at hs
    subst hs
    have h1 := obsT_one.1 ho
    rw [e, ← h1]
    exact ⟨_, bs57 ..⟩
  · simp [TL.sel] at hs
noncomputable def G1 : Ctx := Z5.add 18 (mkF (reSp 2 gt18))
noncomputable def G2 : Ctx := G1.add 19 (mkF (reSp 2 gt19))
noncomputable def G3 : Ctx := G2.add 20 (mkF (reSp 4 gt20))
noncomputable def G4 : Ctx := G3.add 22 (mkF (reSp 1 gt22))
noncomputable def G5 : Ctx := G4.add 57 (mkF spt57)
noncomputable def G6 : Ctx := G5.add 86 (mkF (reSp 1 gs86))
theorem okG6 : COKs Try.prog gl0 G6 := (((((okZ5.add ct18).add ct19).add ct20).add ct22).add ct57).add cs86
end Go.Sym
