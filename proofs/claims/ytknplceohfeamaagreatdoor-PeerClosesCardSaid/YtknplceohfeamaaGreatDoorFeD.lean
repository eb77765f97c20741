/- A server answers a second greeting without a ticket. -/
import Derived.Test.YtknplceohfeamaaGreatDoorSteps
set_option linter.unusedVariables false
set_option linter.unusedSimpArgs false
namespace Go.Sym
open Go.Proofs Go.Spec
set_option maxHeartbeats 0
set_option maxRecDepth 100000 in
theorem vF10 (cr ck bi S ea ha ma ci so la : F8) (s : BitVec 8) (h : F8) (LG OU : By) (n : Nat) : bq (Y6 S [] 22) Tryz.f30 0 [svS 1 (cJ h) (z8 224) 0 0 0 0 false [],.rb false (grR true true [] cr ck bi) .unk,.u8 s] [] ⟨[],.tup [C2 2 n (iV (z8 32) ea ha ma ci so la) 0 0 1 2 true 0,.slice 2 0 1 215 .ow (.is false),.bool true],[],[bk LG,bk [],bk OU]⟩ = (
let y1 := 0#8::19#8::3#8::0#8::0#8::46#8::0#8::43#8::0#8::2#8::3#8::4#8::0#8::51#8::0#8::36#8::0#8::29#8::0#8::32#8::rg 32 (eR (fun (i : Nat) => (zY (zX (s + 1#8)) 32 32 []).getD i (0 : BitVec 8)) fun (i : Nat) => (9#8::List.replicate 31 (0#8)).getD i (0 : BitVec 8)); let y3 := 0#8::0#8::2#8::19#8::3#8::1#8::0#8::0#8::73#8::0#8::43#8::0#8::3#8::2#8::3#8::4#8::0#8::10#8::0#8::6#8::0#8::4#8::0#8::29#8::0#8::23#8::0#8::13#8::0#8::4#8::0#8::2#8::254#8::1#8::0#8::51#8::0#8::38#8::0#8::36#8::0#8::29#8::0#8::32#8::zY ck 0 32 [0#8,45#8,0#8,2#8,1#8,1#8]; let x1 := cJ h++1#8::0#8::0#8::116#8::3#8::3#8::zY cr 0 32 y3++2#8::0#8::0#8::86#8::3#8::3#8::zY (zX (s + 1#8)) 0 32 y1; let x2 := x1++[8#8,0#8,0#8,2#8,0#8,0#8]++[11#8,0#8,0#8,12#8,0#8,0#8,0#8,8#8,0#8,0#8,3#8,1#8,2#8,3#8,0#8,0#8]; let y6 := rg 32 fun (i : Nat) => (rg 32 (uK (rg 32 (kX [])) (rg 32 S))).getD i (0 : BitVec 8); let y2 := rg 32 (xG y6 [115#8,32#8,104#8,115#8,32#8,116#8,114#8,97#8,102#8,102#8,105#8,99#8] (rg 32 (zL x1))); let y4 := j0 y2 (rg 32 (zL (x2++15#8::0#8::0#8::36#8::254#8::1#8::0#8::32#8::rg 32 (C1 (7#8::List.replicate 31 (0#8)) (rg 32 (zL x2)))))); let y7 := 2#8::0#8::0#8::86#8::3#8::3#8::zY (zX (s + 1#8)) 0 32 y1; let x3 := [22#8,3#8,3#8,BitVec.ofInt 8 ((↑y7.length : Int).fdiv (Int.ofNat 256)),BitVec.ofInt 8 (↑y7.length : Int)]++2#8::0#8::0#8::86#8::3#8::3#8::zY (zX (s + 1#8)) 0 32 y1++([23#8,3#8,3#8,0#8,115#8]++rg 115 (wY (rg 32 (aA y2)) (rg 12 (aB y2)) (BitVec.ofNat 64 0) (22 : Int) (8#8::0#8::0#8::2#8::0#8::0#8::11#8::0#8::0#8::12#8::0#8::0#8::0#8::8#8::0#8::0#8::3#8::1#8::2#8::3#8::0#8::0#8::15#8::0#8::0#8::36#8::254#8::1#8::0#8::32#8::zY (C1 (7#8::List.replicate 31 (0#8)) (rg 32 (zL x2))) 0 32 (20#8::0#8::0#8::32#8::rg 32 y4)))); let x4 := 3#8::3#8::zY cr 0 32 y3; let x5 := 20#8::0#8::0#8::32#8::rg 32 y4; let x6 := 15#8::0#8::0#8::36#8::254#8::1#8::0#8::32#8::rg 32 (C1 (7#8::List.replicate 31 (0#8)) (rg 32 (zL x2))); let x7 := [32#8,116#8,114#8,97#8,102#8,102#8,105#8,99#8]; let x8 := fun (i : Nat) => (zY (zX (s + 1#8)) 32 32 []).getD i (0 : BitVec 8); let x9 := rg 32 fun (i : Nat) => (rg 32 fun (i : Nat) => (rg 32 fun (i : Nat) => x4.getD (78 + i) (0 : BitVec 8)).getD i (0 : BitVec 8)).getD i (0 : BitVec 8); let y5 := rg 32 fun (i : Nat) => (rg 32 (uK (rg 32 (uK (rg 32 (kX [])) (rg 32 S))) tU)).getD i (0 : BitVec 8); cj [0,125,1,0,125,1,1,125,1,3,125,1,4,125,1,0,125,0,125,1,3,125,1,4,125,0,125,1,3,125,1,4,125,1,0,125,1,0,125,5,0,125,2,5,125,2,125,125,2,125,125,5,0,125,2,125,125,1,0,3,1,0,3,1,92,1099511627776,1,0,1099511627776,1,0,1099511627776,0,120,0,0,3,0,120,1,0,120,5,0,0,1,0,1,0,3,0,6,0,1,0,8,0,116,5,0,0,1,0,1,5,0,0,1,0,1,5,0,0,1,0,2,0,116,0,1,5,0,0,1,0,1,2,32,64,2,32,32,2,32,32,2,32,32] ((P2 (rg 32 x8) x9 = rg 32 S/\lW (rg 32 x8) x9 = true)/\cj [5,0,0,1,0,1,2,32,64,2,32,32,2,32,64,2,32,32,0,0] (((rg 32 (zX (s + 1#8))).getD 0 (0 : BitVec 8) = 207#8->(rg 32 (zX (s + 1#8))).getD 1 (0 : BitVec 8) ≠ 33#8)/\cj [0,120,0,92,3,92,120,1,0,86,0,1,0,90,0,212,3,212,90,1,0,90,5,0,0,1,0,1,1,0,1,0,5,3,5,90,1,0,95,3,0,95,1,0,302,1,302,4611686018427387904,0,2,0,1,0,6,0,302,3,302,6,1,0,12,0,1,0,16,0,308,3,308,16,1,0,16,0,6,3,6,16,1,0,324,1,324,4611686018427387904,0,2,0,36,0,1,0,40,0,324,3,324,40,1,0,40,0,22,3,22,40,1,0,364,1,364,4611686018427387904,0,1,0,36,0,364,3,364,36,1,0,36,0,62,3,62,36,1,0,98,5,0,0,1,0,1,1,0,1,5,0,1,1,1,60,0,120,0,95,3,95,120,1,3,0,1,48,0,400,1,400,4611686018427387904,5,0,0,1,0,1,3,0,1,48,0,215,3,0,215,1,2,125,125,2,125,125,4,2,0,0,0,0,0,0] (n = List.length (cJ h) + (1#8::0#8::0#8::116#8::x4).length + (2#8::0#8::0#8::86#8::3#8::3#8::zY (zX (s + 1#8)) 0 32 (0#8::19#8::3#8::0#8::0#8::46#8::0#8::43#8::0#8::2#8::3#8::4#8::0#8::51#8::0#8::36#8::0#8::29#8::0#8::32#8::rg 32 (eR x8 fun (i : Nat) => (9#8::List.replicate 31 (0#8)).getD i (0 : BitVec 8)))).length + 6 + 16 + x6.length + x5.length/\zG (fun (i : Nat) => (0 : BitVec 8) = (0 : BitVec 8)) 0 32 (zG (fun (i : Nat) => ea i = kX [] i) 0 32 (zG (fun (i : Nat) => ha i = uK (rg 32 (kX [])) (rg 32 S) i) 0 32 (zG (fun (i : Nat) => ma i = uK (rg 32 (uK (rg 32 (kX [])) (rg 32 S))) tU i) 0 32 (zG (fun (i : Nat) => ci i = xG y6 (99#8::32#8::104#8::115#8::x7) (rg 32 (zL x1)) i) 0 32 (zG (fun (i : Nat) => so i = xG y5 (115#8::32#8::97#8::112#8::x7) (rg 32 (zL (x2++x6++x5))) i) 0 32 (zG (fun (i : Nat) => la i = xG y5 (99#8::32#8::97#8::112#8::x7) (rg 32 (zL (x2++x6++x5))) i) 0 32 (cj [4,0,4,0,4,1,4,2] (true = true/\cj [0,0,0,0,0,0,0,0] (Int.negSucc 0 = Int.negSucc 0/\false = (true && decide (x3.length = 0))/\cj [0,0,0,0,0,0,0,215] (true = true/\LG = x2++x6++x5/\([] : By) = []/\OU = x3/\True))))))))))))) : Prop) := by kernel_rfl
set_option maxRecDepth 100000
theorem bF10 (s : BitVec 8) : Must (xQ Tryz.prog (Y6 (mL s) [] 22) gl0 [] [] 3000 Tryz.f30 0 (aF1 [] s) [] (vL Tryz.prog Tryz.f30 0 (rFa false [] s))) := by
 constructor
 refine kx ?_ (vF10 (zX s) (jA s) (biN (cJ (F3 [] s)) true true [] s) (mL s) (qZ false) (qA false s) (qN false s) (ciN (yC false [] s) false s) (nE (yC false [] s) false s) (jF (yC false [] s) false s) s (F3 [] s) (bI (yC false [] s) false s) (Q6 (yC false [] s) false s) (bI (yC false [] s) false s).length).symm
 intro y1 y3 x1 x2 y6 y2 y4 y7 x3 x4 x5 x6 x7 x8 x9 y5
 refine ck (by kernel_rfl) ?_
 refine And.intro (⟨kx (sU s) (by kernel_rfl),kx (okT_eq _ _ : lW (rg 32 (aF (s + 1#8))) (rg 32 (jA s)) = true) (by kernel_rfl)⟩) ?_
 refine ck (by kernel_rfl) ?_
 refine And.intro (kx (l6 (s + 1#8)) (by kernel_rfl)) ?_
 refine ck (by kernel_rfl) ?_
 refine ⟨by kernel_rfl,?_⟩
 refine al ?_
 iterate 6 refine zS (fun i _ _ => by kernel_rfl) ?_
 refine ck (by kernel_rfl) ?_
 refine a0 ?_
 refine ck (by kernel_rfl) ?_
 refine a0 ?_
 refine a0 ?_
 refine ck (by kernel_rfl) ?_
 refine a0 ?_
 refine ⟨by kernel_rfl,?_⟩
 refine a0 ?_
 refine ⟨by kernel_rfl,?_⟩
 trivial
end Go.Sym
