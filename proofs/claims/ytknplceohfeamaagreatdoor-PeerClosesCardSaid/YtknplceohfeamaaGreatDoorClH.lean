/- A server is fed a text. -/
import Derived.Test.YtknplceohfeamaaGreatDoorSteps
import Derived.Test.YtknplceohfeamaaGreatDoorClG
set_option linter.unusedVariables false
set_option linter.unusedSimpArgs false
namespace Go.Sym
open Go.Proofs Go.Spec
inductive Iw : Type 1 where
 | e {α : Type} (a : α)
 | z (n : Nat)
 | n (k : Nat)
 | r {α : Type} (F : Nat->α) (k n : Nat)
 | d (p : Prop) (i : Decidable p)
 | p {P : Prop} (h : P)
 | t (c : Bool) (P : Prop) (h : c = true)
 | f (c : Bool) (P : Prop) (h : c = false)
def zqW (q : Prop) : Nat->Prop
 | 0 => q
 | n + 1 => 0 = 0/\zqW q n
def okW : List Iw->Prop
 | [] => True
 | .e a::l => a = a/\okW l
 | .z n::l => zqW (okW l) n
 | .n k::l => k = k/\okW l
 | .r F k n::l => zG (fun i => F i = F i) k n (okW l)
 | .d p _::l => p/\okW l
 | .p (P := P) _::l => P/\okW l
 | .t c P _::l => @Bool.rec (fun _ => Prop) P (okW l) c
 | .f c P _::l => @Bool.rec (fun _ => Prop) (okW l) P c
def ckW : List Iw->Bool
 | [] => true
 | .d p i::l => @decide p i && ckW l
 | _::l => ckW l
theorem k0f {q : Prop} (h : q) : ∀ n,zqW q n
 | 0 => h
 | n + 1 => ⟨rfl,k0f h n⟩
theorem w0f : ∀ (l : List Iw),ckW l = true->okW l
 | [],_ => trivial
 | .e _::l,h => ⟨rfl,w0f l h⟩
 | .z n::l,h => k0f (w0f l h) n
 | .n k::l,h => ⟨rfl,w0f l h⟩
 | .r _ _ _::l,h => zS (fun _ _ _ => rfl) (w0f l h)
 | .d p i::l,h => by
  simp only [ckW,Bool.and_eq_true] at h
  exact ⟨@of_decide_eq_true p i h.1,w0f l h.2⟩
 | .p h::l,k => ⟨h,w0f l k⟩
 | .t c P h::l,k => by subst h; exact w0f l k
 | .f c P h::l,k => by subst h; exact w0f l k
abbrev Iw.c (p : Prop) [i : Decidable p] : Iw := .d p i
theorem okiW {P : Prop} (l : List Iw) (h : ckW l = true) (e : okW l = P) : P := e ▸ w0f l h
end Go.Sym
namespace Go.Sym
open Go.Proofs Go.Spec
set_option maxHeartbeats 0
set_option maxRecDepth 100000
def z0y (b : By) (i j : Nat) : Int := IntKind.i64.wrap (IntKind.i64.wrap ((5 : Int) + IntKind.i64.wrap ((↑(List.getD b i (0 : BitVec 8)).toNat : Int) * (256 : Int))) + (↑(List.getD b j (0 : BitVec 8)).toNat : Int))
theorem z0h {b : By} {i j m : Nat} (h : (b.getD i 0).toNat * 256 + (b.getD j 0).toNat = m) (hm : m < 65536) : z0y b i j = ((m + 5 : Nat) : Int) := by
 unfold z0y
 have w1 : IntKind.i64.wrap ((↑(List.getD b i (0 : BitVec 8)).toNat : Int) * (256 : Int)) = (((b.getD i 0).toNat * 256 : Nat) : Int) := zU _ (by omega) (by omega)
 have w2 : IntKind.i64.wrap ((5 : Int) + (((b.getD i 0).toNat * 256 : Nat) : Int)) = (((b.getD i 0).toNat * 256 + 5 : Nat) : Int) := zU _ (by omega) (by omega)
 rw [w1,w2]
 exact zU _ (by omega) (by omega)
theorem v0f (b : By) (o i : Nat) : b.getD (o + i) 0 = (b.drop o).getD i 0 := by simp [List.getD]
section
variable {b R : By} {o : Nat} {k : F8} {q : BitVec 64} {t : Int} {y : By}
theorem rcX (h : b.drop o = rcD k q t y++R) (hy : y.length<=256) : z0y b (o + 3) (o + 4) = ((y.length + 22 : Nat) : Int) := by
 refine z0h (m := y.length + 17) ?_ (by omega)
 rw [v0f,v0f,h]
 exact k0y (y.length + 17) (by omega)
theorem rcK (h : b.drop o = rcD k q t y++R) : b.getD (o + 0) 0 = 23#8 := by rw [v0f,h]; rfl
theorem rcL (h : b.drop o = rcD k q t y++R) : b.length = o + (y.length + 22 + R.length) := by
 have e := congrArg List.length h
 rw [List.length_drop,List.length_append,w0h] at e
 omega
theorem rcB (h : b.drop o = rcD k q t y++R) (n : Nat) (hn : n = y.length + 17) : List.take n (b.drop (o + 5)) = rg (y.length + 17) (wY (rg 32 (aA (rg 32 k))) (rg 12 (aB (rg 32 k))) q t y) := by
 rw [<- List.drop_drop,h,hn]
 show List.take (y.length + 17) (rg (y.length + 17) _++R) = _
 exact (congrArg (fun n => List.take n _) (wM (y.length + 17) _).symm).trans List.take_left
theorem rcN (h : b.drop o = rcD k q t y++R) : b.drop (o + (y.length + 22)) = R := by
 rw [<- List.drop_drop,h,<- w0h k q t y]
 exact List.drop_left
end
theorem bGz1 (K : KP) (su ea ha ma la ka kb : F8) (lg us b X : By) (c : Bool) (hl : lg.length < 1099511627776) (hu : us.length < 1099511627776) (hy0 : X.length<=256) (z0d : X = X) (hb : b = daS ka [X] 0) : Must (bq (Wk5 K X [X] false) Tryz.f20 1 [svT 3 lg (iV (yD 32 su) ea ha ma ka kb la) 0 0 2 2 true us,.slice 0 0 1 b.length .ow (.is c)] [bk b] ⟨[],.tup [.agg ((cellsOf (svD 3 lg.length (iV (yD 32 su) ea ha ma ka kb la) 1 0 2 2 true us.length (-1))).map (Y9 1)++[.nils]),.str X,.bool true],[some (some (bk b))],[bk lg,bk [],bk us]⟩) := by
 have xz0 : x0f [X] 0 = X := rfl
 have e0 : b.drop 0 = rcD ka (BitVec.ofNat 64 0) 23 X++([]) := by rw [hb]; rfl
 have l0 := rcL e0
 rw [List.length_nil] at l0
 have x0 : (z0y b 3 4) = ((X.length + 22 : Nat) : Int) := by have h := rcX e0 hy0; rwa [Nat.zero_add,Nat.zero_add] at h
 have k0 : b.getD 0 0 = 23#8 := rcK e0
 have ⟨v0,v1,v2,v3,y0g,y0f,y0d,x0y,x0h,x0g,v10,v11,v12,v13,v14,v15,v16,v17⟩ : ((decide ((5 : Int)<=(↑(List.length b) : Int))) = true)/\(3 < (List.length b))/\(3 < List.length b)/\(4 < (List.length b))/\(4 < List.length b)/\(decide ((↑(List.length b) : Int) < (z0y b 3 4)) = Bool.false)/\(0 < (List.length b))/\(0 < List.length b)/\(0 : Int)<=(z0y b 3 4)/\(5<=(z0y b 3 4).toNat)/\(z0y b 3 4).toNat<=(List.length b)/\(decide ((↑(List.getD b 0 (0 : BitVec 8)).toNat : Int) = (20 : Int)) = Bool.false)/\((!decide ((↑(List.getD b 0 (0 : BitVec 8)).toNat : Int) = (23 : Int))) = Bool.false)/\(5 + ((z0y b 3 4).toNat - 5)<=List.length b)/\(List.take ((z0y b 3 4).toNat - 5) (List.drop 5 b) = rg (List.length (x0f [X] 0) + 17) (wY (rg 32 (aA (rg 32 ka))) (rg 12 (aB (rg 32 ka))) (BitVec.ofNat 64 0) (y0y [X] 0) (x0f [X] 0)))/\(0 + (List.take (List.length (x0f [X] 0)) (x0f [X] 0++[BitVec.ofInt 8 (y0y [X] 0)])).length<=9223372036854775807)/\((decide ((5 : Int)<=(↑(kE (List.length b) (z0y b 3 4).toNat) : Int))) = false)/\(Bool.true = decide ((↑(kE (List.length b) (z0y b 3 4).toNat) : Int) = (0 : Int))) := by
  simp only [k0,x0,uE,kH,kI,Int.toNat_natCast,opT,List.nil_append,List.length_append,xz0]
  and_intros <;> first | omega | exact decide_eq_true (by omega) | exact decide_eq_false (by omega) | exact (decide_eq_true (by omega)).symm | rfl | exact rcB e0 _ (by omega)
 have hS : X = []++(List.take X.length (X++[BitVec.ofInt 8 23])) := by rw [opT]; rfl
 exact ⟨okiW (let q1 := z0y b (vZ (z0y b 3 4).toNat 3) (vZ (z0y b 3 4).toNat 4); let q2 := List.length b; [.t (decide ((5 : Int)<=(↑q2 : Int))) (False) v0,.p v1,.p v2,.p v3,.p y0g,.p y0f,.c (0 < 3),.c (0 < 3),.p y0d,.p x0y,.p x0h,.p x0g,.p v10,.p x0d,.p x0d,.p x0d,.p hl,.c (0 < 1099511627776),.p hu,.p w0y,.p x0d,.p x0d,.p v11,.p x0d,.p v12,.p v13,.p (And.intro v14 (And.intro (show (20 : Int)<=23 by decide) (And.intro (show (23 : Int)<=23 by decide) hy0))),.p w0y,.p x0d,.p w0y,.p w0y,.p w0y,.p x0d,.p w0y,.p x0d,.p w0y,.p w0y,.p w0y,.c ((0 + 0) * (2 * 1)<=281474976710656),.p (opA X (BitVec.ofInt 8 23)),.p v15,.p x0h,.p v10,.f (decide ((5 : Int)<=(↑(kE q2 (z0y b 3 4).toNat) : Int))) (3 < kE q2 (z0y b 3 4).toNat/\vZ (z0y b 3 4).toNat 3 < List.length b/\4 < kE q2 (z0y b 3 4).toNat/\vZ (z0y b 3 4).toNat 4 < List.length b/\decide ((↑(kE q2 (z0y b 3 4).toNat) : Int) < q1) = false/\0 < 3/\0 < 3/\0 < kE q2 (z0y b 3 4).toNat/\vZ (z0y b 3 4).toNat 0 < List.length b/\(0 : Int)<=q1/\5<=q1.toNat/\q1.toNat<=kE q2 (z0y b 3 4).toNat/\False) v16,.e (3 : Int),.z 3,.e (List.length lg),.r (su) 0 32,.r (ea) 0 32,.r (ha) 0 32,.r (ma) 0 32,.r (ka) 0 32,.r (kb) 0 32,.r (la) 0 32,.c ((1 : Int) = Int.ofNat 1),.e (0 : Int),.e (2 : Int),.e (2 : Int),.e true,.r (fun _ => (0 : Nat)) 0 7,.e (List.length us),.e (Int.negSucc 0),.e true,.p hS,.p v17,.e b,.e lg,.e ([] : By),.e us]) (by kernel_rfl) (by kernel_rfl)⟩
theorem bGz2 (K : KP) (su ea ha ma la ka kb : F8) (lg us b X X1 X2 : By) (c : Bool) (hl : lg.length < 1099511627776) (hu : us.length < 1099511627776) (hy0 : X1.length<=256) (hy1 : X2.length<=256) (z0d : X = X1++X2) (hb : b = daS ka [X1,X2] 0) : Must (bq (Wk5 K X [X1,X2] false) Tryz.f20 1 [svT 3 lg (iV (yD 32 su) ea ha ma ka kb la) 0 0 2 2 true us,.slice 0 0 1 b.length .ow (.is c)] [bk b] ⟨[],.tup [.agg ((cellsOf (svD 3 lg.length (iV (yD 32 su) ea ha ma ka kb la) 2 0 2 2 true us.length (-1))).map (Y9 1)++[.nils]),.str X,.bool true],[some (some (bk b))],[bk lg,bk [],bk us]⟩) := by
 have xz0 : x0f [X1,X2] 0 = X1 := rfl
 have xz1 : x0f [X1,X2] 1 = X2 := rfl
 have e0 : b.drop 0 = rcD ka (BitVec.ofNat 64 0) 23 X1++(rcD ka (BitVec.ofNat 64 1) 23 X2++([])) := by rw [hb]; rfl
 have l0 := rcL e0
 rw [List.length_append,w0h,List.length_nil] at l0
 have x0 : (z0y b 3 4) = ((X1.length + 22 : Nat) : Int) := by have h := rcX e0 hy0; rwa [Nat.zero_add,Nat.zero_add] at h
 have e1 := rcN e0
 rw [Nat.zero_add] at e1
 have x1 : z0y b (X1.length + 22 + 3) (X1.length + 22 + 4) = ((X2.length + 22 : Nat) : Int) := rcX e1 hy1
 have k0 : b.getD 0 0 = 23#8 := rcK e0
 have k1 : b.getD (X1.length + 22 + 0) 0 = 23#8 := rcK e1
 have ⟨v0,v1,v2,v3,y0g,y0f,y0d,x0y,x0h,x0g,v10,v11,v12,v13,v14,v15,v16,v17,v18,v19,v20,v21,v22,v23,v24,v25,v26,v27,v28,v29,v30,v31,v32,v33⟩ : ((decide ((5 : Int)<=(↑(List.length b) : Int))) = true)/\(3 < (List.length b))/\(3 < List.length b)/\(4 < (List.length b))/\(4 < List.length b)/\(decide ((↑(List.length b) : Int) < (z0y b 3 4)) = Bool.false)/\(0 < (List.length b))/\(0 < List.length b)/\(0 : Int)<=(z0y b 3 4)/\(5<=((z0y b 3 4).toNat))/\((z0y b 3 4).toNat)<=(List.length b)/\(decide ((↑(List.getD b 0 (0 : BitVec 8)).toNat : Int) = (20 : Int)) = Bool.false)/\((!decide ((↑(List.getD b 0 (0 : BitVec 8)).toNat : Int) = (23 : Int))) = Bool.false)/\(5 + (((z0y b 3 4).toNat) - 5)<=List.length b)/\(List.take (((z0y b 3 4).toNat) - 5) (List.drop 5 b) = rg (List.length (x0f [X1,X2] 0) + 17) (wY (rg 32 (aA (rg 32 ka))) (rg 12 (aB (rg 32 ka))) (BitVec.ofNat 64 0) (y0y [X1,X2] 0) (x0f [X1,X2] 0)))/\(0 + (List.take (List.length (x0f [X1,X2] 0)) ((x0f [X1,X2] 0)++[BitVec.ofInt 8 (y0y [X1,X2] 0)])).length<=9223372036854775807)/\((decide ((5 : Int)<=(↑(kE (List.length b) ((z0y b 3 4).toNat)) : Int))) = true)/\(3 < kE (List.length b) ((z0y b 3 4).toNat))/\(vZ ((z0y b 3 4).toNat) 3 < List.length b)/\(4 < kE (List.length b) ((z0y b 3 4).toNat))/\(vZ ((z0y b 3 4).toNat) 4 < List.length b)/\(decide ((↑(kE (List.length b) ((z0y b 3 4).toNat)) : Int) < (z0y b (vZ ((z0y b 3 4).toNat) 3) (vZ ((z0y b 3 4).toNat) 4))) = Bool.false)/\(0 < kE (List.length b) ((z0y b 3 4).toNat))/\(vZ ((z0y b 3 4).toNat) 0 < List.length b)/\(0 : Int)<=(z0y b (vZ ((z0y b 3 4).toNat) 3) (vZ ((z0y b 3 4).toNat) 4))/\(5<=(z0y b (vZ ((z0y b 3 4).toNat) 3) (vZ ((z0y b 3 4).toNat) 4)).toNat)/\(z0y b (vZ ((z0y b 3 4).toNat) 3) (vZ ((z0y b 3 4).toNat) 4)).toNat<=kE (List.length b) ((z0y b 3 4).toNat)/\(decide ((↑(List.getD b (vZ ((z0y b 3 4).toNat) 0) (0 : BitVec 8)).toNat : Int) = (20 : Int)) = Bool.false)/\((!decide ((↑(List.getD b (vZ ((z0y b 3 4).toNat) 0) (0 : BitVec 8)).toNat : Int) = (23 : Int))) = Bool.false)/\(vZ ((z0y b 3 4).toNat) 5 + ((z0y b (vZ ((z0y b 3 4).toNat) 3) (vZ ((z0y b 3 4).toNat) 4)).toNat - 5)<=List.length b)/\(List.take ((z0y b (vZ ((z0y b 3 4).toNat) 3) (vZ ((z0y b 3 4).toNat) 4)).toNat - 5) (mN (vZ ((z0y b 3 4).toNat) 5) b) = rg (List.length (x0f [X1,X2] 1) + 17) (wY (rg 32 (aA (rg 32 ka))) (rg 12 (aB (rg 32 ka))) (BitVec.ofNat 64 1) (y0y [X1,X2] 1) (x0f [X1,X2] 1)))/\([]++List.take (List.length (x0f [X1,X2] 0)) ((x0f [X1,X2] 0)++[BitVec.ofInt 8 (y0y [X1,X2] 0)])).length + (List.take (List.length (x0f [X1,X2] 1)) ((x0f [X1,X2] 1)++[BitVec.ofInt 8 (y0y [X1,X2] 1)])).length<=9223372036854775807/\((decide ((5 : Int)<=(↑(kE (kE (List.length b) ((z0y b 3 4).toNat)) (z0y b (vZ ((z0y b 3 4).toNat) 3) (vZ ((z0y b 3 4).toNat) 4)).toNat) : Int))) = false)/\(Bool.true = decide ((↑(kE (kE (List.length b) ((z0y b 3 4).toNat)) (z0y b (vZ ((z0y b 3 4).toNat) 3) (vZ ((z0y b 3 4).toNat) 4)).toNat) : Int) = (0 : Int))) := by
  simp only [k1,x1,k0,x0,uE,kH,kI,Int.toNat_natCast,opT,List.nil_append,List.length_append,xz0,xz1]
  and_intros <;> first | omega | exact decide_eq_true (by omega) | exact decide_eq_false (by omega) | exact (decide_eq_true (by omega)).symm | rfl | exact rcB e0 _ (by omega) | exact rcB e1 _ (by omega)
 have hS : X = []++(List.take X1.length (X1++[BitVec.ofInt 8 23]))++(List.take X2.length (X2++[BitVec.ofInt 8 23])) := by rw [opT,opT,z0d]; rfl
 exact ⟨okiW (let q2 := (z0y b 3 4).toNat; let q1 := z0y b (vZ q2 3) (vZ q2 4); let q3 := kE (List.length b) q2; let q4 := vZ q2 q1.toNat; [.t (decide ((5 : Int)<=(↑(List.length b) : Int))) (False) v0,.p v1,.p v2,.p v3,.p y0g,.p y0f,.c (0 < 3),.c (0 < 3),.p y0d,.p x0y,.p x0h,.p x0g,.p v10,.p x0d,.p x0d,.p x0d,.p hl,.c (0 < 1099511627776),.p hu,.p w0y,.p x0d,.p x0d,.p v11,.p x0d,.p v12,.p v13,.p (And.intro v14 (And.intro (show (20 : Int)<=23 by decide) (And.intro (show (23 : Int)<=23 by decide) hy0))),.p w0y,.p x0d,.p w0y,.p w0y,.p w0y,.p x0d,.p w0y,.p x0d,.p w0y,.p w0y,.p w0y,.c ((0 + 0) * (2 * 1)<=281474976710656),.p (opA X1 (BitVec.ofInt 8 23)),.p v15,.p x0h,.p v10,.t (decide ((5 : Int)<=(↑q3 : Int))) ((3 : Int) = (3 : Int)/\0 = 0/\0 = 0/\0 = 0/\List.length lg = List.length lg/\zG (fun (i : Nat) => su i = su i) 0 32 (zG (fun (i : Nat) => ea i = ea i) 0 32 (zG (fun (i : Nat) => ha i = ha i) 0 32 (zG (fun (i : Nat) => ma i = ma i) 0 32 (zG (fun (i : Nat) => ka i = ka i) 0 32 (zG (fun (i : Nat) => kb i = kb i) 0 32 (zG (fun (i : Nat) => la i = la i) 0 32 ((2 : Int) = Int.ofNat 1/\(0 : Int) = (0 : Int)/\(2 : Int) = (2 : Int)/\(2 : Int) = (2 : Int)/\true = true/\zG (fun (i : Nat) => 0 = 0) 0 7 (List.length us = List.length us/\Int.negSucc 0 = Int.negSucc 0/\true = true/\X = []++List.take (List.length (x0f [X1,X2] 0)) ((x0f [X1,X2] 0)++[BitVec.ofInt 8 (y0y [X1,X2] 0)])/\true = decide ((↑q3 : Int) = (0 : Int))/\b = b/\lg = lg/\([] : By) = []/\us = us/\True))))))))) v16,.p v17,.p v18,.p v19,.p v20,.p v21,.c (0 < 3),.c (0 < 3),.p v22,.p v23,.p v24,.p v25,.p v26,.p x0d,.p x0d,.p x0d,.e (List.length lg),.p hl,.z 1,.c (0 < 1099511627776),.e (List.length us),.p hu,.p w0y,.p x0d,.p x0d,.p v27,.p x0d,.p v28,.p v29,.p (And.intro v30 (And.intro (show (20 : Int)<=23 by decide) (And.intro (show (23 : Int)<=23 by decide) hy1))),.p w0y,.p x0d,.p w0y,.p w0y,.p w0y,.p x0d,.p w0y,.p x0d,.p w0y,.p w0y,.p w0y,.z 1,.c ((0 + 0) * (2 * 1)<=281474976710656),.p (opA X2 (BitVec.ofInt 8 23)),.p v31,.p v24,.p v26,.f (decide ((5 : Int)<=(↑(kE q3 q1.toNat) : Int))) (3 < kE q3 q1.toNat/\vZ q4 3 < List.length b/\4 < kE q3 q1.toNat/\vZ q4 4 < List.length b/\decide ((↑(kE q3 q1.toNat) : Int) < (IntKind.i64.wrap (IntKind.i64.wrap ((5 : Int) + IntKind.i64.wrap ((↑(List.getD b (vZ q4 3) (0 : BitVec 8)).toNat : Int) * (256 : Int))) + (↑(List.getD b (vZ q4 4) (0 : BitVec 8)).toNat : Int)))) = false/\0 < 3/\0 < 3/\0 < kE q3 q1.toNat/\vZ q4 0 < List.length b/\(0 : Int)<=(IntKind.i64.wrap (IntKind.i64.wrap ((5 : Int) + IntKind.i64.wrap ((↑(List.getD b (vZ q4 3) (0 : BitVec 8)).toNat : Int) * (256 : Int))) + (↑(List.getD b (vZ q4 4) (0 : BitVec 8)).toNat : Int)))/\5<=(IntKind.i64.wrap (IntKind.i64.wrap ((5 : Int) + IntKind.i64.wrap ((↑(List.getD b (vZ q4 3) (0 : BitVec 8)).toNat : Int) * (256 : Int))) + (↑(List.getD b (vZ q4 4) (0 : BitVec 8)).toNat : Int))).toNat/\(IntKind.i64.wrap (IntKind.i64.wrap ((5 : Int) + IntKind.i64.wrap ((↑(List.getD b (vZ q4 3) (0 : BitVec 8)).toNat : Int) * (256 : Int))) + (↑(List.getD b (vZ q4 4) (0 : BitVec 8)).toNat : Int))).toNat<=kE q3 q1.toNat/\False) v32,.e (3 : Int),.z 3,.e (List.length lg),.r (su) 0 32,.r (ea) 0 32,.r (ha) 0 32,.r (ma) 0 32,.r (ka) 0 32,.r (kb) 0 32,.r (la) 0 32,.c ((2 : Int) = Int.ofNat 2),.e (0 : Int),.e (2 : Int),.e (2 : Int),.e true,.r (fun _ => (0 : Nat)) 0 7,.e (List.length us),.e (Int.negSucc 0),.e true,.p hS,.p v33,.e b,.e lg,.e ([] : By),.e us]) (by kernel_rfl) (by kernel_rfl)⟩
end Go.Sym
