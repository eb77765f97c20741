/- A peer takes a text and a close. -/
import Derived.Test.YtknplceohfeamaaGreatDoorClE
import Derived.Test.YtknplceohfeamaaGreatDoorClA
set_option linter.unusedVariables false
set_option linter.unusedSimpArgs false
namespace Go.Sym
open Go.Proofs Go.Spec
set_option maxHeartbeats 0
set_option maxRecDepth 100000
section
variable {L R : By} {x : Nat} {k : F8} {q : BitVec 64} {t : Int} {y : By}
theorem stA (h : L.drop x = rcD k q t y++R) (hy : y.length<=256) : (!decide (stF (L.drop x) = (0 : Int))) = false := by rw [h]; exact nd (v0g k q t y R hy).1
theorem j0y (h : L.drop x = rcD k q t y++R) (hy : y.length<=256) : (!stO (L.drop x)) = false := by rw [h,(v0g k q t y R hy).2.1]; rfl
theorem stC (h : L.drop x = rcD k q t y++R) (hy : y.length<=256) : (!decide (stK (L.drop x) = (23 : Int))) = false := by rw [h]; exact nd (v0g k q t y R hy).2.2.2.1
theorem stD (h : L.drop x = rcD k q t y++R) (hy : y.length<=256) : stB (L.drop x) = rg (y.length + 17) (wY (rg 32 (aA (rg 32 k))) (rg 12 (aB (rg 32 k))) q t y) := by rw [h]; exact (v0g k q t y R hy).2.2.2.2.1
theorem stE (h : L.drop x = rcD k q t y++R) (hy : y.length<=256) : x + stX (L.drop x) + (L.length - (x + stX (L.drop x))) = L.length := by
 have e := congrArg List.length h
 rw [List.length_drop,List.length_append,w0h] at e
 rw [h,(v0g k q t y R hy).2.2.1]
 omega
theorem stG (h : L.drop x = rcD k q t y++R) (hy : y.length<=256) : L.drop (x + stX (L.drop x)) = R := by
 have e := (v0g k q t y R hy).2.2.2.2.2
 rw [<- h,List.drop_drop] at e
 rw [show stX (L.drop x) = y.length + 22 by rw [h]; exact (v0g k q t y R hy).2.2.1]
 exact e
end
theorem opA (y : By) (c : BitVec 8) : 0 + y.length<=(y++[c]).length := by simp
theorem opT (y : By) (c : BitVec 8) : (y++[c]).take y.length = y := List.take_left
theorem w0g : alM.length<=256 := by decide
theorem bTz0 (K : KP) (sh rt pk : Bool) (tk : By) (pp r su ea ha ma ka kb : F8) (lg b X : By) (hl : lg.length < 1099511627776) (ht : tk.length < 1099511627776)  (z0d : X = []) (hb : b = daS kb [] 0++clS kb 0) : Must (bq (Wk4 K X [] true) Tryz.f17 0 [l5 sh tk pp 3 r lg (aD su ea ha ma kb ka) 0 0 2 2 0 rt pk,.rb false b .unk] [] ⟨[],.tup [peK sh tk.length pp r lg.length (aD su ea ha ma kb ka) 1 0 2 2 rt pk X.length,.nils,.int .i64 0],[],[bk tk,bk lg,bk [],bk X]⟩) := by
 have e0 : b = rcD kb (BitVec.ofNat 64 0) 21 alM++[] := by rw [hb]; simp only [daS,clS,List.length_cons,List.length_nil,List.append_assoc,List.nil_append,List.append_nil]
 have e1 : b.length<=834 := by rw [e0]; simp only [List.length_append,w0h,List.length_nil]; have : alM.length = 2 := rfl; omega
 have hb1 : 0 + List.length b < 1099511627776 := by omega
 have hb2 : 0 + (0 + List.length b) = (List.drop 0 ([] : By)++b).length := by rw [List.drop_zero,List.nil_append]; omega
 have hb3 : (List.drop 0 ([] : By)++b).length < 1099511627776 := by rw [List.drop_zero,List.nil_append]; omega
 have g0 : List.drop 0 (List.drop 0 ([] : By)++b) = _ := e0
 have hd : X.length = 0 := by rw [z0d]; rfl
 have hD : X = [] := z0d
 exact ⟨J4 ([.p ht,.p hl,.c (0 < 1099511627776),.c (0 < 1099511627776),.c (0 < 1099511627776),.c (0 < 1099511627776),.z 1,.p hb1,.p hb2,.p hb3,.p (stA g0 w0g),.p (j0y g0 w0g),.p (stC g0 w0g),.e (List.length (stB (List.drop 0 (List.drop 0 []++b)))),.p (And.intro (stD g0 w0g) (And.intro (show (20 : Int)<=21 by decide) (And.intro (show (21 : Int)<=23 by decide) w0g))),.c (1 < 2),.c (1 < 3),.e (7#8),.r (fun _ => 0#8) 0 31,.e sh,.z 3,.e (List.length tk),.r (pp) 0 32,.e (4 : Int),.r (r) 0 64,.z 3,.e (List.length lg),.r (su) 0 32,.r (ea) 0 32,.r (ha) 0 32,.r (ma) 0 32,.r (kb) 0 32,.r (ka) 0 32,.c ((1 : Int) = Int.ofNat 1),.e (0 : Int),.e (2 : Int),.e (2 : Int),.e (0 : Int),.e rt,.e pk,.r (fun _ => (0 : Nat)) 0 7,.p hd,.c ((0 : Int) = Int.ofNat 0),.e (0 : Int),.e tk,.e lg,.e ([] : By),.p hD]) (by kernel_rfl) (by kernel_rfl)⟩
theorem bTz1 (K : KP) (sh rt pk : Bool) (tk : By) (pp r su ea ha ma ka kb : F8) (lg b X : By) (hl : lg.length < 1099511627776) (ht : tk.length < 1099511627776) (hy0 : X.length<=256) (z0d : X = X) (hb : b = daS kb [X] 0++clS kb 1) : Must (bq (Wk4 K X [X] true) Tryz.f17 0 [l5 sh tk pp 3 r lg (aD su ea ha ma kb ka) 0 0 2 2 0 rt pk,.rb false b .unk] [] ⟨[],.tup [peK sh tk.length pp r lg.length (aD su ea ha ma kb ka) 2 0 2 2 rt pk X.length,.nils,.int .i64 0],[],[bk tk,bk lg,bk [],bk X]⟩) := by
 have e0 : b = rcD kb (BitVec.ofNat 64 0) 23 X++(rcD kb (BitVec.ofNat 64 1) 21 alM++[]) := by rw [hb]; simp only [daS,clS,List.length_cons,List.length_nil,List.append_assoc,List.nil_append,List.append_nil]
 have e1 : b.length<=834 := by rw [e0]; simp only [List.length_append,w0h,List.length_nil]; have : alM.length = 2 := rfl; omega
 have hb1 : 0 + List.length b < 1099511627776 := by omega
 have hb2 : 0 + (0 + List.length b) = (List.drop 0 ([] : By)++b).length := by rw [List.drop_zero,List.nil_append]; omega
 have hb3 : (List.drop 0 ([] : By)++b).length < 1099511627776 := by rw [List.drop_zero,List.nil_append]; omega
 have g0 : List.drop 0 (List.drop 0 ([] : By)++b) = _ := e0
 have g1 := stG g0 hy0
 have ro0 : zD 0 (List.take X.length (X++[BitVec.ofInt 8 23])).length 1 := by rw [opT]; unfold zD; omega
 have hd : X.length = 0 + (List.take X.length (X++[BitVec.ofInt 8 23])).length := by rw [opT]; omega
 have hD : X = []++(List.take X.length (X++[BitVec.ofInt 8 23])) := by rw [opT]; rfl
 exact ⟨J4 (let q1 := x0f [X] 1++[BitVec.ofInt 8 (y0y [X] 1)]; let q2 := List.drop 0 []++b; [.p ht,.p hl,.c (0 < 1099511627776),.c (0 < 1099511627776),.c (0 < 1099511627776),.c (0 < 1099511627776),.z 1,.p hb1,.p hb2,.p hb3,.p (stA g0 hy0),.p (j0y g0 hy0),.p (stC g0 hy0),.e (List.length (stB (List.drop 0 q2))),.p (And.intro (stD g0 hy0) (And.intro (show (20 : Int)<=23 by decide) (And.intro (show (23 : Int)<=23 by decide) hy0))),.p (opA X (BitVec.ofInt 8 23)),.z 1,.p (ro0),.p (stE g0 hy0),.p hb3,.p (stA g1 w0g),.p (j0y g1 w0g),.p (stC g1 w0g),.e (List.length (stB (List.drop (0 + stX (List.drop 0 q2)) q2))),.p (And.intro (stD g1 w0g) (And.intro (show (20 : Int)<=21 by decide) (And.intro (show (21 : Int)<=23 by decide) w0g))),.c (1 < List.length (x0f [X] 1)),.c (1 < List.length q1),.e (7#8),.r (fun _ => 0#8) 0 31,.e sh,.z 3,.e (List.length tk),.r (pp) 0 32,.e (4 : Int),.r (r) 0 64,.z 3,.e (List.length lg),.r (su) 0 32,.r (ea) 0 32,.r (ha) 0 32,.r (ma) 0 32,.r (kb) 0 32,.r (ka) 0 32,.c ((2 : Int) = Int.ofNat 2),.e (0 : Int),.e (2 : Int),.e (2 : Int),.e (0 : Int),.e rt,.e pk,.r (fun _ => (0 : Nat)) 0 7,.p hd,.c ((0 : Int) = (↑(List.getD q1 1 (0 : BitVec 8)).toNat : Int)),.e (0 : Int),.e tk,.e lg,.e ([] : By),.p hD]) (by kernel_rfl) (by kernel_rfl)⟩
theorem bTz2 (K : KP) (sh rt pk : Bool) (tk : By) (pp r su ea ha ma ka kb : F8) (lg b X X1 X2 : By) (hl : lg.length < 1099511627776) (ht : tk.length < 1099511627776) (hy0 : X1.length<=256) (hy1 : X2.length<=256) (z0d : X = X1++X2) (hb : b = daS kb [X1,X2] 0++clS kb 2) : Must (bq (Wk4 K X [X1,X2] true) Tryz.f17 0 [l5 sh tk pp 3 r lg (aD su ea ha ma kb ka) 0 0 2 2 0 rt pk,.rb false b .unk] [] ⟨[],.tup [peK sh tk.length pp r lg.length (aD su ea ha ma kb ka) 3 0 2 2 rt pk X.length,.nils,.int .i64 0],[],[bk tk,bk lg,bk [],bk X]⟩) := by
 have e0 : b = rcD kb (BitVec.ofNat 64 0) 23 X1++(rcD kb (BitVec.ofNat 64 1) 23 X2++(rcD kb (BitVec.ofNat 64 2) 21 alM++[])) := by rw [hb]; simp only [daS,clS,List.length_cons,List.length_nil,List.append_assoc,List.nil_append,List.append_nil]
 have e1 : b.length<=834 := by rw [e0]; simp only [List.length_append,w0h,List.length_nil]; have : alM.length = 2 := rfl; omega
 have hb1 : 0 + List.length b < 1099511627776 := by omega
 have hb2 : 0 + (0 + List.length b) = (List.drop 0 ([] : By)++b).length := by rw [List.drop_zero,List.nil_append]; omega
 have hb3 : (List.drop 0 ([] : By)++b).length < 1099511627776 := by rw [List.drop_zero,List.nil_append]; omega
 have g0 : List.drop 0 (List.drop 0 ([] : By)++b) = _ := e0
 have g1 := stG g0 hy0
 have g2 := stG g1 hy1
 have ro0 : zD 0 (List.take X1.length (X1++[BitVec.ofInt 8 23])).length 1 := by rw [opT]; unfold zD; omega
 have hz : 0 + (List.take X1.length (X1++[BitVec.ofInt 8 23])).length = ([]++(List.take X1.length (X1++[BitVec.ofInt 8 23]))).length := by rw [opT,List.nil_append]; omega
 have ro1 : zD (0 + (List.take X1.length (X1++[BitVec.ofInt 8 23])).length) (List.take X2.length (X2++[BitVec.ofInt 8 23])).length 1 := by rw [opT,opT]; unfold zD; omega
 have hd : X.length = 0 + (List.take X1.length (X1++[BitVec.ofInt 8 23])).length + (List.take X2.length (X2++[BitVec.ofInt 8 23])).length := by rw [opT,opT,z0d,List.length_append]; omega
 have hD : X = []++(List.take X1.length (X1++[BitVec.ofInt 8 23]))++(List.take X2.length (X2++[BitVec.ofInt 8 23])) := by rw [opT,opT,z0d]; rfl
 exact ⟨J4 (let q1 := List.drop 0 []++b; let q2 := 0 + stX (List.drop 0 q1); [.p ht,.p hl,.c (0 < 1099511627776),.c (0 < 1099511627776),.c (0 < 1099511627776),.c (0 < 1099511627776),.z 1,.p hb1,.p hb2,.p hb3,.p (stA g0 hy0),.p (j0y g0 hy0),.p (stC g0 hy0),.e (List.length (stB (List.drop 0 q1))),.p (And.intro (stD g0 hy0) (And.intro (show (20 : Int)<=23 by decide) (And.intro (show (23 : Int)<=23 by decide) hy0))),.p (opA X1 (BitVec.ofInt 8 23)),.z 1,.p (ro0),.p (stE g0 hy0),.p hb3,.p (stA g1 hy1),.p (j0y g1 hy1),.p (stC g1 hy1),.e (List.length (stB (List.drop q2 q1))),.p (And.intro (stD g1 hy1) (And.intro (show (20 : Int)<=23 by decide) (And.intro (show (23 : Int)<=23 by decide) hy1))),.p (opA X2 (BitVec.ofInt 8 23)),.p hz,.p (ro1),.p (stE g1 hy1),.p hb3,.p (stA g2 w0g),.p (j0y g2 w0g),.p (stC g2 w0g),.e (List.length (stB (List.drop (q2 + stX (List.drop q2 q1)) q1))),.p (And.intro (stD g2 w0g) (And.intro (show (20 : Int)<=21 by decide) (And.intro (show (21 : Int)<=23 by decide) w0g))),.c (1 < List.length (x0f [X1,X2] 2)),.c (1 < List.length (x0f [X1,X2] 2++[BitVec.ofInt 8 (y0y [X1,X2] 2)])),.e (7#8),.r (fun _ => 0#8) 0 31,.e sh,.z 3,.e (List.length tk),.r (pp) 0 32,.e (4 : Int),.r (r) 0 64,.z 3,.e (List.length lg),.r (su) 0 32,.r (ea) 0 32,.r (ha) 0 32,.r (ma) 0 32,.r (kb) 0 32,.r (ka) 0 32,.c ((3 : Int) = Int.ofNat 3),.e (0 : Int),.e (2 : Int),.e (2 : Int),.e (0 : Int),.e rt,.e pk,.r (fun _ => (0 : Nat)) 0 7,.p hd,.c ((0 : Int) = (↑(List.getD (x0f [X1,X2] 2++[BitVec.ofInt 8 (y0y [X1,X2] 2)]) 1 (0 : BitVec 8)).toNat : Int)),.e (0 : Int),.e tk,.e lg,.e ([] : By),.p hD]) (by kernel_rfl) (by kernel_rfl)⟩
end Go.Sym
