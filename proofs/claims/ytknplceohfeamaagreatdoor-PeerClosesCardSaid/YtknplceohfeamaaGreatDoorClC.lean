/- A stream of records. -/
import Derived.Test.YtknplceohfeamaaGreatDoorKeyB
set_option linter.unusedVariables false
set_option linter.unusedSimpArgs false
namespace Go.Sym
open Go.Proofs Go.Spec
noncomputable def Tz0 : Ctx := N8.add 70 (mkF (uN clA))
theorem okTz0 : COKs Tryz.prog gl0 Tz0 := okN8.add cClo
noncomputable def Ta1 : Ctx := Tz0.exe Tryz.prog gl0 [] 300 Tryz.f98.params.size 98 Tryz.f98
noncomputable def Ta2 : Ctx := Ta1.exe Tryz.prog gl0 [] 300 Tryz.f99.params.size 99 Tryz.f99
noncomputable def Ta3 : Ctx := Ta2.exe Tryz.prog gl0 [] 300 Tryz.f72.params.size 72 Tryz.f72
theorem okTa3 : COKs Tryz.prog gl0 Ta3 := ((okTz0.exe [] 300 _ (by kernel_rfl) (by kernel_rfl) (by kernel_rfl) (fun args w => by kernel_rfl)).exe [] 300 _ (by kernel_rfl) (by kernel_rfl) (by kernel_rfl) (fun args w => by kernel_rfl)).exe [] 300 _ (by kernel_rfl) (by kernel_rfl) (by kernel_rfl) (fun args w => by kernel_rfl)
def rdC (x n : Nat) (e : Int) : ABlk := ⟨.cells [.slice 1 x 1 n .ox .unk,.int .i64 e],true,0⟩
def rdL (L : By) : ABlk := ⟨.bytes L,true,1⟩
def reSp (na : Nat) (G : List AV->List ABlk->TL) : Spec := ⟨List.replicate na .kp,fun xs h => mA h 200 (jS xs) [],T5,G⟩
end Go.Sym
namespace Go.Spec
open Go.Sym
def stN (M : By) : Nat := (M.getD 3 0).toNat * 256 + (M.getD 4 0).toNat
def stF (M : By) : Int :=
 if (0 < M.length/\¬ (20<=(M.getD 0 0).toNat/\(M.getD 0 0).toNat<=23)) \/ (1 < M.length/\M.getD 1 0 ≠ 3) then 3
 else if 5<=M.length/\(if (M.getD 0 0).toNat = 23 then 273 else 256) < stN M then 5 else 0
end Go.Spec
namespace Go.Sym
open Go.Proofs Go.Spec
def m0g (xs : List AV) (bs : List ABlk) : TL := match xs,bs with
 | [.rb false M .unk],[] => .ok ⟨[],.int .i64 (stF M),[],[]⟩
 | _,_ => .no
def j0h : Spec := ⟨[.by0],fun _ _ => [],fun _ _ => [],m0g⟩
def m0f (xs : List AV) (bs : List ABlk) : TL := match xs,bs with
 | [.rb false M .unk],[] => .ok ⟨[5<=M.length],.int .i64 (stN M),[],[]⟩
 | _,_ => .no
def j0g : Spec := ⟨[.by0],fun _ _ => [],fun _ _ => [],m0f⟩
noncomputable def Ta4 : Ctx := (Ta3.add 71 (mkF j0h)).add 72 (mkF j0g)
set_option maxRecDepth 100000 in
theorem vt90 (b : By) (e : Int) : bq Ta3 Tryz.f71 0 [.rb false b .unk] [] ⟨[],.int .i64 e,[],[]⟩ = (
let x1 := @Bool.rec (fun _ => Prop) (e = (0 : Int)/\True) (3 < List.length b/\4 < List.length b/\0 < List.length b/\@Bool.rec (fun _ => Prop) (@Bool.rec (fun _ => Prop) (e = (0 : Int)/\True) (e = (5 : Int)/\True) (decide ((256 : Int) < IntKind.i64.wrap (↑(BitVec.ofInt 64 (IntKind.i64.wrap ((↑(List.getD b 3 (0 : BitVec 8)).toNat : Int) * Int.ofNat 256)) ||| BitVec.ofInt 64 (↑(List.getD b 4 (0 : BitVec 8)).toNat : Int)).toNat : Int)))) (@Bool.rec (fun _ => Prop) (e = (0 : Int)/\True) (e = (5 : Int)/\True) (decide ((273 : Int) < IntKind.i64.wrap (↑(BitVec.ofInt 64 (IntKind.i64.wrap ((↑(List.getD b 3 (0 : BitVec 8)).toNat : Int) * Int.ofNat 256)) ||| BitVec.ofInt 64 (↑(List.getD b 4 (0 : BitVec 8)).toNat : Int)).toNat : Int)))) (decide ((↑(List.getD b 0 (0 : BitVec 8)).toNat : Int) = (23 : Int)))) (decide ((5 : Int)<=(↑(List.length b) : Int))); let x2 := @Bool.rec (fun _ => Prop) x1 (1 < List.length b/\@Bool.rec (fun _ => Prop) x1 (e = (3 : Int)/\True) !decide (List.getD b 1 (0 : BitVec 8) = BitVec.ofNat 8 3)) (decide ((1 : Int) < (↑(List.length b) : Int))); @Bool.rec (fun _ => Prop) x2 (0 < List.length b/\@Bool.rec (fun _ => Prop) (@Bool.rec (fun _ => Prop) (@Bool.rec (fun _ => Prop) (@Bool.rec (fun _ => Prop) (e = (3 : Int)/\True) x2 (decide ((↑(List.getD b 0 (0 : BitVec 8)).toNat : Int) = (23 : Int)))) (@Bool.rec (fun _ => Prop) (e = (3 : Int)/\True) x2 (decide ((↑(List.getD b 0 (0 : BitVec 8)).toNat : Int) = (22 : Int)))) (decide ((↑(List.getD b 0 (0 : BitVec 8)).toNat : Int) = (22 : Int)))) (@Bool.rec (fun _ => Prop) (e = (3 : Int)/\True) x2 (decide ((↑(List.getD b 0 (0 : BitVec 8)).toNat : Int) = (21 : Int)))) (decide ((↑(List.getD b 0 (0 : BitVec 8)).toNat : Int) = (21 : Int)))) (@Bool.rec (fun _ => Prop) (e = (3 : Int)/\True) x2 (decide ((↑(List.getD b 0 (0 : BitVec 8)).toNat : Int) = (20 : Int)))) (decide ((↑(List.getD b 0 (0 : BitVec 8)).toNat : Int) = (20 : Int)))) (decide ((0 : Int) < (↑(List.length b) : Int))) : Prop) := by kernel_rfl
set_option maxRecDepth 100000 in
theorem vt91 (b : By) (e : Int) : bq Ta3 Tryz.f72 0 [.rb false b .unk] [] ⟨[],.int .i64 e,[],[]⟩ = (
3 < List.length b/\4 < List.length b/\e = IntKind.i64.wrap (↑(BitVec.ofInt 64 (IntKind.i64.wrap ((↑(List.getD b 3 (0 : BitVec 8)).toNat : Int) * Int.ofNat 256)) ||| BitVec.ofInt 64 (↑(List.getD b 4 (0 : BitVec 8)).toNat : Int)).toNat : Int)/\True : Prop) := by kernel_rfl
set_option maxRecDepth 100000 in
theorem vt64 (L B : By) (x x2 n n2 m : Nat) (e e2 v k : Int) (ok : Bool) : bq Ta4 Tryz.f42 2 [.ptr 0 0 0 0] [rdC x n e,rdL L] ⟨[],.tup [.int .i64 k,.slice 2 0 1 m .ow .unk,.bool ok,.int .i64 v],[some (some (rdC x2 n2 e2)),some (some (rdL L))],[⟨.bytes B,true,1⟩]⟩ = (
let x1 := IntKind.i64.wrap ((5 : Int) + (↑(stN (List.take n (mN x L))) : Int)); let x2_1 := x2 = x/\0 = 0/\x2 = x/\n2 = n/\e2 = stF (List.take n (mN x L))/\L = L/\B = []/\True; x + n<=List.length L/\@Bool.rec (fun _ => Prop) (@Bool.rec (fun _ => Prop) (k = (0 : Int)/\m = 0/\ok = Bool.false/\v = (0 : Int)/\x2_1) (x + n<=List.length L/\5<=(List.take n (mN x L)).length/\@Bool.rec (fun _ => Prop) (x + n<=List.length L/\5<=(List.take n (mN x L)).length/\0 < n/\vZ x 0 < List.length L/\(0 : Int)<=x1/\5<=x1.toNat/\x1.toNat<=n/\vZ x 5 + (x1.toNat - 5)<=List.length L/\(List.take (x1.toNat - 5) (mN (vZ x 5) L)).length < 1099511627776/\(0 : Int)<=x1/\x1.toNat<=n/\k = (↑(List.getD L (vZ x 0) (0 : BitVec 8)).toNat : Int)/\0 = 0/\0 = 0/\0 = 0/\m = (List.take (x1.toNat - 5) (mN (vZ x 5) L)).length/\ok = Bool.true/\v = (0 : Int)/\x2 = vZ x x1.toNat/\0 = 0/\x2 = vZ x x1.toNat/\n2 = kE n x1.toNat/\e2 = stF (List.take n (mN x L))/\L = L/\B = List.take (x1.toNat - 5) (mN (vZ x 5) L)/\True) (k = (0 : Int)/\m = 0/\ok = Bool.false/\v = (0 : Int)/\x2_1) (decide (IntKind.i64.wrap ((↑n : Int) - (5 : Int)) < (↑(stN (List.take n (mN x L))) : Int)))) !decide ((↑n : Int) < (5 : Int))) (k = (0 : Int)/\m = 0/\ok = Bool.false/\v = stF (List.take n (mN x L))/\x2_1) !decide (stF (List.take n (mN x L)) = (0 : Int)) : Prop) := by kernel_rfl
set_option maxRecDepth 100000 in
theorem vt66 (L L2 b : By) (x n n2 : Nat) (v : Int) : bq Ta3 Tryz.f41 2 [.ptr 0 0 0 0,.rb false b .unk] [rdC x n 0,rdL L] ⟨[],.int .i64 v,[some (some ⟨.cells [.slice 2 0 1 n2 .ox .unk,.int .i64 0],true,0⟩),some none],[⟨.bytes L2,true,1⟩]⟩ = (
x<=List.length L/\n = (List.drop x L).length/\zD n (List.length b) 1/\v = (0 : Int)/\0 = 0/\0 = 0/\0 = 0/\n2 = n + List.length b/\(0 : Int) = (0 : Int)/\L2 = List.drop x L++b/\True : Prop) := by kernel_rfl
set_option maxRecDepth 100000 in
theorem vt69 (b L : By) (x n : Nat) (e : Int) : bq Ta3 Tryz.f40 0 [.rb false b .unk] [] ⟨[],.ptr 0 0 0 0,[],[rdC x n e,rdL L]⟩ = (
List.length b < 1099511627776/\0 = 0/\x = 0/\0 = 0/\x = 0/\n = List.length b/\e = (0 : Int)/\L = b/\True : Prop) := by kernel_rfl
theorem m0d (a : Nat) (b : BitVec 8) (h : a < 4294967296) : IntKind.i64.wrap ((BitVec.ofInt 64 (IntKind.i64.wrap ((a : Int) * 2 ^ 8)) ||| BitVec.ofInt 64 (b.toNat : Int)).toNat : Int) = ((a * 256 + b.toNat : Nat) : Int) := by
 have hb := b.isLt
 have e1 : IntKind.i64.wrap ((a : Int) * 2 ^ 8) = ((a * 256 : Nat) : Int) := zU _ (by omega) (by omega)
 have e2 : (BitVec.ofInt 64 ((a * 256 : Nat) : Int) ||| BitVec.ofInt 64 ((b.toNat : Nat) : Int)).toNat = a * 256 + b.toNat := by
  rw [BitVec.toNat_or,BitVec.ofInt_natCast,BitVec.ofInt_natCast,BitVec.toNat_ofNat,BitVec.toNat_ofNat,Nat.mod_eq_of_lt (by omega),Nat.mod_eq_of_lt (by omega)]
  have := Nat.shiftLeft_add_eq_or_of_lt (i := 8) (b := b.toNat) (by omega) a
  rw [Nat.shiftLeft_eq] at this
  simp only [Nat.reducePow] at this
  omega
 rw [e1,e2]
 exact zU _ rfl (by omega)
theorem u0f (c d : BitVec 8) : IntKind.i64.wrap (↑(BitVec.ofInt 64 (IntKind.i64.wrap ((c.toNat : Int) * Int.ofNat 256)) ||| BitVec.ofInt 64 (d.toNat : Int)).toNat : Int) = ((c.toNat * 256 + d.toNat : Nat) : Int) :=
 m0d c.toNat d (by have := c.isLt; omega)
theorem bt91 (b : By) (h : 5<=b.length) : Must (bq Ta3 Tryz.f72 0 [.rb false b .unk] [] ⟨[],.int .i64 (stN b),[],[]⟩) := by
 constructor
 rw [vt91,u0f]
 exact ⟨by omega,by omega,rfl,trivial⟩
theorem nd {p : Prop} [Decidable p] (h : p) : (!decide p) = false := by rw [decide_eq_true h]; rfl
theorem nd' {p : Prop} [Decidable p] (h : ¬ p) : (!decide p) = true := by rw [decide_eq_false h]; rfl
theorem bt90 (b : By) : Must (bq Ta3 Tryz.f71 0 [.rb false b .unk] [] ⟨[],.int .i64 (stF b),[],[]⟩) := by
 constructor
 rw [vt90]
 simp (config := { zeta := false }) only [u0f]
 have hN : stN b = (b.getD 3 0).toNat * 256 + (b.getD 4 0).toNat := rfl
 rw [<- hN]
 have key1 : ¬ (0 < b.length/\¬ (20<=(b.getD 0 0).toNat/\(b.getD 0 0).toNat<=23))->¬ (1 < b.length/\b.getD 1 0 ≠ 3) ->
   (@Bool.rec (fun _ => Prop) (stF b = (0 : Int)/\True) (3 < List.length b/\4 < List.length b/\0 < List.length b/\@Bool.rec (fun _ => Prop) (@Bool.rec (fun _ => Prop) (stF b = (0 : Int)/\True) (stF b = (5 : Int)/\True) (decide ((256 : Int) < (stN b : Int)))) (@Bool.rec (fun _ => Prop) (stF b = (0 : Int)/\True) (stF b = (5 : Int)/\True) (decide ((273 : Int) < (stN b : Int)))) (decide ((↑(List.getD b 0 (0 : BitVec 8)).toNat : Int) = (23 : Int)))) (decide ((5 : Int)<=(↑(List.length b) : Int)))) := by
  intro p1 p2
  have hF : stF b = if 5<=b.length/\(if (b.getD 0 0).toNat = 23 then 273 else 256) < stN b then 5 else 0 := by
   unfold stF; rw [if_neg (fun h => h.elim p1 p2)]
  by_cases h5 : 5<=b.length
  ·rw [decide_eq_true (show (5 : Int)<=(b.length : Int) by omega)]
   refine ⟨by omega,by omega,by omega,?_⟩
   by_cases h23 : (b.getD 0 0).toNat = 23
   ·rw [decide_eq_true (show ((b.getD 0 0).toNat : Int) = 23 by omega)]
    by_cases hc : 273 < stN b
    ·rw [decide_eq_true (show (273 : Int) < (stN b : Int) by omega)]
     exact ⟨by rw [hF,if_pos ⟨h5,by rw [if_pos h23]; exact hc⟩],trivial⟩
    ·rw [decide_eq_false (show ¬ (273 : Int) < (stN b : Int) by omega)]
     exact ⟨by rw [hF,if_neg (fun h => hc (by have := h.2; rw [if_pos h23] at this; exact this))],trivial⟩
   ·rw [decide_eq_false (show ¬ ((b.getD 0 0).toNat : Int) = 23 by omega)]
    by_cases hc : 256 < stN b
    ·rw [decide_eq_true (show (256 : Int) < (stN b : Int) by omega)]
     exact ⟨by rw [hF,if_pos ⟨h5,by rw [if_neg h23]; exact hc⟩],trivial⟩
    ·rw [decide_eq_false (show ¬ (256 : Int) < (stN b : Int) by omega)]
     exact ⟨by rw [hF,if_neg (fun h => hc (by have := h.2; rw [if_neg h23] at this; exact this))],trivial⟩
  ·rw [decide_eq_false (show ¬ (5 : Int)<=(b.length : Int) by omega)]
   exact ⟨by rw [hF,if_neg (fun h => h5 h.1)],trivial⟩
 intro x1 x2
 have key2 : ¬ (0 < b.length/\¬ (20<=(b.getD 0 0).toNat/\(b.getD 0 0).toNat<=23))->x2 := by
  intro p1
  show @Bool.rec (fun _ => Prop) x1 (1 < List.length b/\@Bool.rec (fun _ => Prop) x1 (stF b = (3 : Int)/\True) !decide (List.getD b 1 (0 : BitVec 8) = BitVec.ofNat 8 3)) (decide ((1 : Int) < (↑(List.length b) : Int)))
  by_cases h1 : 1 < b.length
  ·rw [decide_eq_true (show (1 : Int) < (b.length : Int) by omega)]
   refine ⟨h1,?_⟩
   by_cases h3 : b.getD 1 0 = BitVec.ofNat 8 3
   ·rw [nd h3]
    exact key1 p1 (fun h => h.2 h3)
   ·rw [nd' h3]
    exact ⟨by unfold stF; rw [if_pos (.inr ⟨h1,h3⟩)],trivial⟩
  ·rw [decide_eq_false (show ¬ (1 : Int) < (b.length : Int) by omega)]
   exact key1 p1 (fun h => h1 h.1)
 have bad : (0 < b.length/\¬ (20<=(b.getD 0 0).toNat/\(b.getD 0 0).toNat<=23))->stF b = 3/\True := fun h => ⟨by unfold stF; rw [if_pos (.inl h)],trivial⟩
 by_cases h0 : 0 < b.length
 ·rw [decide_eq_true (show (0 : Int) < (b.length : Int) by omega)]
  refine ⟨h0,?_⟩
  by_cases c0 : (b.getD 0 0).toNat = 20
  ·rw [decide_eq_true (show ((b.getD 0 0).toNat : Int) = 20 by omega)]; exact key2 (by omega)
  rw [decide_eq_false (show ¬ ((b.getD 0 0).toNat : Int) = 20 by omega)]
  by_cases c1 : (b.getD 0 0).toNat = 21
  ·rw [decide_eq_true (show ((b.getD 0 0).toNat : Int) = 21 by omega)]; exact key2 (by omega)
  rw [decide_eq_false (show ¬ ((b.getD 0 0).toNat : Int) = 21 by omega)]
  by_cases c2 : (b.getD 0 0).toNat = 22
  ·rw [decide_eq_true (show ((b.getD 0 0).toNat : Int) = 22 by omega)]; exact key2 (by omega)
  rw [decide_eq_false (show ¬ ((b.getD 0 0).toNat : Int) = 22 by omega)]
  by_cases c3 : (b.getD 0 0).toNat = 23
  ·rw [decide_eq_true (show ((b.getD 0 0).toNat : Int) = 23 by omega)]; exact key2 (by omega)
  rw [decide_eq_false (show ¬ ((b.getD 0 0).toNat : Int) = 23 by omega)]
  exact bad ⟨h0,by omega⟩
 ·rw [decide_eq_false (show ¬ (0 : Int) < (b.length : Int) by omega)]
  exact key2 (fun h => h0 h.1)
theorem ct90 : COK Tryz.prog gl0 71 (mkF j0h) := by
 refine yY (fn := Tryz.f71) [] 3000 (by kernel_rfl) (by kernel_rfl) okTa3 (by kernel_rfl) (fun args w => by kernel_rfl) fun xs bs r hs ho => ?_
 replace hs : (m0g xs bs).sel = some r := hs
 unfold m0g at hs
 split at hs
 ·simp only [TL.sel,Option.some.injEq] at hs
  subst hs
  exact ⟨_,bt90 _⟩
 ·simp [TL.sel] at hs
theorem ct91 : COK Tryz.prog gl0 72 (mkF j0g) := by
 refine yY (fn := Tryz.f72) [] 3000 (by kernel_rfl) (by kernel_rfl) okTa3 (by kernel_rfl) (fun args w => by kernel_rfl) fun xs bs r hs ho => ?_
 replace hs : (m0f xs bs).sel = some r := hs
 unfold m0f at hs
 split at hs
 ·simp only [TL.sel,Option.some.injEq] at hs
  subst hs
  exact ⟨_,bt91 _ (zA.1 ho)⟩
 ·simp [TL.sel] at hs
theorem h0y : COKs Tryz.prog gl0 Ta4 := (okTa3.add ct90).add ct91
end Go.Sym
namespace Go.Spec
open Go.Sym
def stO (M : By) : Bool := decide (stF M = 0) && (decide (5<=M.length) && decide (stN M + 5<=M.length))
def stK (M : By) : Int := if stO M then ((M.getD 0 0).toNat : Int) else 0
def stB (M : By) : By := if stO M then (M.drop 5).take (stN M) else []
def stX (M : By) : Nat := if stO M then 5 + stN M else 0
theorem j0f (M : By) : stN M < 65536 := by
 have h1 := (M.getD 3 0).isLt
 have h2 := (M.getD 4 0).isLt
 unfold stN; omega
end Go.Spec
namespace Go.Sym
open Go.Proofs Go.Spec
theorem bt64 (L : By) (x n : Nat) (e : Int) (h1 : x + n = L.length) (h2 : L.length < 1099511627776) : Must (bq Ta4 Tryz.f42 2 [.ptr 0 0 0 0] [rdC x n e,rdL L] ⟨[],.tup [.int .i64 (stK (L.drop x)),.slice 2 0 1 (stB (L.drop x)).length .ow .unk,.bool (stO (L.drop x)),.int .i64 (stF (L.drop x))],[some (some (rdC (x + stX (L.drop x)) (L.length - (x + stX (L.drop x))) (stF (L.drop x)))),some (some (rdL L))],[⟨.bytes (stB (L.drop x)),true,1⟩]⟩) := by
 constructor
 rw [vt64]
 have hM : List.take n (mN x L) = L.drop x := by rw [kI,List.take_of_length_le (by rw [List.length_drop]; omega)]
 have hl : (L.drop x).length = n := by rw [List.length_drop]; omega
 have hN := j0f (L.drop x)
 have hK : (L.drop x).getD 0 0 = L.getD (x + 0) 0 := by simp [List.getD]
 rw [hM]
 generalize hMM : L.drop x = M at *
 have w1 : IntKind.i64.wrap ((5 : Int) + (stN M : Int)) = ((5 + stN M : Nat) : Int) := zU _ (by omega) (by omega)
 have w2 : IntKind.i64.wrap ((n : Int) - (5 : Int)) = (n : Int) - 5 := wK (by omega) (by omega)
 rw [w1,w2]
 simp (config := { zeta := false }) only [uE,kH,Int.toNat_natCast]
 have no : stO M = false->(stK M = 0/\(stB M).length = 0/\stX M = 0/\stB M = []) := by
  intro h
  unfold stK stB stX
  rw [h]
  exact ⟨rfl,rfl,rfl,rfl⟩
 refine ⟨by omega,?_⟩
 by_cases hF : stF M = 0
 ·rw [nd hF]
  by_cases h5 : n < 5
  ·have z0f : stO M = false := by unfold stO; rw [decide_eq_false (show ¬ 5<=M.length by omega)]; simp
   obtain ⟨c1,c2,c3,c4⟩ := no z0f
   rw [nd (show (n : Int) < 5 by omega),z0f,c1,c2,c3,c4]
   and_intros <;> first | omega | rfl | exact True.intro | exact hF | exact hF.symm
  ·rw [nd' (show ¬ (n : Int) < 5 by omega)]
   refine ⟨by omega,by omega,?_⟩
   by_cases hc : (n : Int) - 5 < (stN M : Int)
   ·have z0f : stO M = false := by unfold stO; rw [decide_eq_false (show ¬ stN M + 5<=M.length by omega)]; simp
    obtain ⟨c1,c2,c3,c4⟩ := no z0f
    rw [decide_eq_true hc,z0f,c1,c2,c3,c4]
    and_intros <;> first | omega | rfl | exact True.intro | exact hF | exact hF.symm
   ·have z0f : stO M = true := by unfold stO; rw [decide_eq_true hF,decide_eq_true (show 5<=M.length by omega),decide_eq_true (show stN M + 5<=M.length by omega)]; rfl
    have c1 : stK M = ((M.getD 0 0).toNat : Int) := by unfold stK; rw [if_pos z0f]
    have c3 : stX M = 5 + stN M := by unfold stX; rw [if_pos z0f]
    have c4 : stB M = (M.drop 5).take (stN M) := by unfold stB; rw [if_pos z0f]
    have hB : List.take (((5 + stN M : Nat) : Int).toNat - 5) (mN (x + 5) L) = stB M := by
     rw [c4,kI,<- hMM,List.drop_drop,Int.toNat_natCast,Nat.add_sub_cancel_left]
    rw [decide_eq_false hc,hB,z0f,c1,c3,hF]
    have hBl : (stB M).length<=L.length := by rw [c4,List.length_take,List.length_drop]; omega
    and_intros
    all_goals first | omega | rfl | exact True.intro | (rw [hK]) | skip
 ·rw [nd' hF]
  have z0f : stO M = false := by unfold stO; rw [decide_eq_false hF]; rfl
  obtain ⟨c1,c2,c3,c4⟩ := no z0f
  rw [z0f,c1,c2,c3,c4]
  and_intros <;> first | omega | rfl | exact True.intro
def gs64 (xs : List AV) (bs : List ABlk) : TL := match xs,bs with
 | [.ptr 0 0 0 0],[⟨.cells [.slice 1 x 1 n .ox .unk,.int .i64 e],true,0⟩,⟨.bytes L,true,1⟩] =>
  .ok ⟨[x + n = L.length,L.length < 1099511627776],.tup [.int .i64 (stK (L.drop x)),.slice 2 0 1 (stB (L.drop x)).length .ow .unk,.bool (stO (L.drop x)),.int .i64 (stF (L.drop x))],[some (some (rdC (x + stX (L.drop x)) (L.length - (x + stX (L.drop x))) (stF (L.drop x)))),some (some (rdL L))],[⟨.bytes (stB (L.drop x)),true,1⟩]⟩
 | _,_ => .no
theorem cs64 : COK Tryz.prog gl0 42 (mkF (reSp 1 gs64)) := by
 refine yY (fn := Tryz.f42) [] 3000 (by kernel_rfl) (by kernel_rfl) h0y (by kernel_rfl) (fun args w => by kernel_rfl) fun xs bs r hs ho => ?_
 replace hs : (gs64 xs bs).sel = some r := hs
 unfold gs64 at hs
 split at hs
 ·cases hs
  obtain ⟨h1,h2⟩ := zJ.1 ho
  exact ⟨_,bt64 _ _ _ _ h1 (zA.1 h2)⟩
 ·cases hs
def h0h (xs : List AV) (bs : List ABlk) : TL := match xs,bs with
 | [.ptr 0 0 0 0,.rb false b .unk],[⟨.cells [.slice 1 x 1 n .ox .unk,.int .i64 0],true,0⟩,⟨.bytes L,true,1⟩] =>
  .ok ⟨[x + n = L.length,L.length + b.length < 1099511627776],.int .i64 0,[some (some ⟨.cells [.slice 2 0 1 (n + b.length) .ox .unk,.int .i64 0],true,0⟩),some none],[⟨.bytes (L.drop x++b),true,1⟩]⟩
 | _,_ => .no
def fsSp : Spec := ⟨[.kp,.by0],fun xs h => mA h 200 (jS (xs.take 1)) [],T5,h0h⟩
theorem bs66 (L b : By) (x n : Nat) (h1 : x + n = L.length) (h2 : L.length + b.length < 1099511627776) : Must (bq Ta3 Tryz.f41 2 [.ptr 0 0 0 0,.rb false b .unk] [rdC x n 0,rdL L] ⟨[],.int .i64 0,[some (some ⟨.cells [.slice 2 0 1 (n + b.length) .ox .unk,.int .i64 0],true,0⟩),some none],[⟨.bytes (L.drop x++b),true,1⟩]⟩) := by
 constructor
 rw [vt66]
 exact ⟨by omega,by rw [List.length_drop]; omega,by unfold zD; omega,rfl,rfl,rfl,rfl,rfl,rfl,rfl,trivial⟩
theorem cs66 : COK Tryz.prog gl0 41 (mkF fsSp) := by
 refine yY (fn := Tryz.f41) [] 3000 (by kernel_rfl) (by kernel_rfl) okTa3 (by kernel_rfl) (fun args w => by kernel_rfl) fun xs bs r hs ho => ?_
 replace hs : (h0h xs bs).sel = some r := hs
 unfold h0h at hs
 split at hs
 ·rename_i b x n L
  cases hs
  obtain ⟨h1,h2⟩ := zJ.1 ho
  exact ⟨_,bs66 _ _ _ _ h1 (zA.1 h2)⟩
 ·cases hs
def q0d (xs : List AV) (bs : List ABlk) : TL := match xs,bs with
 | [.rb false b .unk],[] => .ok ⟨[b.length < 1099511627776],.ptr 0 0 0 0,[],[rdC 0 b.length 0,rdL b]⟩
 | _,_ => .no
theorem bs69 (b : By) (h : b.length < 1099511627776) : Must (bq Ta3 Tryz.f40 0 [.rb false b .unk] [] ⟨[],.ptr 0 0 0 0,[],[rdC 0 b.length 0,rdL b]⟩) := ⟨by rw [vt69]; exact ⟨h,rfl,rfl,rfl,rfl,rfl,rfl,rfl,trivial⟩⟩
theorem cs69 : COK Tryz.prog gl0 40 (mkF ⟨[.by0],fun _ _ => [],fun _ _ => [],q0d⟩) := by
 refine yY (fn := Tryz.f40) [] 3000 (by kernel_rfl) (by kernel_rfl) okTa3 (by kernel_rfl) (fun args w => by kernel_rfl) fun xs bs r hs ho => ?_
 replace hs : (q0d xs bs).sel = some r := hs
 unfold q0d at hs
 split at hs
 ·cases hs
  exact ⟨_,bs69 _ (zA.1 ho)⟩
 ·cases hs
end Go.Sym
