/- A server answers a second greeting with a ticket that it knows. -/
import Derived.Test.YtknplceohfeamaaGreatDoorSteps
set_option linter.unusedVariables false
set_option linter.unusedSimpArgs false
namespace Go.Sym
open Go.Proofs Go.Spec
set_option maxHeartbeats 0
set_option maxRecDepth 100000 in
theorem vF12 (cr ck bi S ea ha ma ci so la : F8) (s : BitVec 8) (h : F8) (LG OU : By) (n : Nat) : bq (Y6 S [] 22) Tryz.f30 0 [svS 1 (cJ h) (z8 224) 0 0 0 0 false [],.rb false (grR true true xJ cr ck bi) .unk,.u8 s] [] ⟨[],.tup [C2 2 n (iV (z8 32) ea ha ma ci so la) 0 0 1 2 true 3,.slice 2 0 1 165 .ow (.is false),.bool true],[],[bk LG,bk xJ,bk OU]⟩ = (
let x1 := 3#8::3#8::zY cr 0 32 (0#8::0#8::2#8::19#8::3#8::1#8::0#8::0#8::123#8::0#8::43#8::0#8::3#8::2#8::3#8::4#8::0#8::10#8::0#8::6#8::0#8::4#8::0#8::29#8::0#8::23#8::0#8::13#8::0#8::4#8::0#8::2#8::254#8::1#8::0#8::51#8::0#8::38#8::0#8::36#8::0#8::29#8::0#8::32#8::zY ck 0 32 (0#8::45#8::0#8::2#8::1#8::1#8::0#8::41#8::0#8::46#8::0#8::9#8::0#8::3#8::111#8::108#8::100#8::0#8::0#8::0#8::0#8::0#8::33#8::32#8::rg 32 bi)); let x2 := 2#8::0#8::0#8::92#8::3#8::3#8::zY (zX (s + 1#8)) 0 32 (0#8::19#8::3#8::0#8::0#8::52#8::0#8::43#8::0#8::2#8::3#8::4#8::0#8::51#8::0#8::36#8::0#8::29#8::0#8::32#8::zY (eR (fun (i : Nat) => (zY (zX (s + 1#8)) 32 32 []).getD i (0 : BitVec 8)) fun (i : Nat) => (9#8::List.replicate 31 (0#8)).getD i (0 : BitVec 8)) 0 32 [0#8,41#8,0#8,2#8,0#8,0#8]); let x3 := rg 32 (xG (rg 32 fun (i : Nat) => (rg 32 (uK (rg 32 (kX (9#8::List.replicate 31 (0#8)))) (rg 32 S))).getD i (0 : BitVec 8)) [115#8,32#8,104#8,115#8,32#8,116#8,114#8,97#8,102#8,102#8,105#8,99#8] (rg 32 (zL (cJ h++1#8::0#8::0#8::166#8::x1++x2)))); let x4 := cJ h++1#8::0#8::0#8::166#8::x1++x2++[8#8,0#8,0#8,2#8,0#8,0#8]; let x5 := 1#8::0#8::0#8::166#8::x1; let x6 := 20#8::0#8::0#8::32#8::rg 32 (j0 x3 (rg 32 (zL x4))); let x7 := [22#8,3#8,3#8,BitVec.ofInt 8 ((↑x2.length : Int).fdiv (Int.ofNat 256)),BitVec.ofInt 8 (↑x2.length : Int)]++x2++([23#8,3#8,3#8,0#8,59#8]++rg 59 (wY (rg 32 (aA x3)) (rg 12 (aB x3)) (BitVec.ofNat 64 0) (22 : Int) (8#8::0#8::0#8::2#8::0#8::0#8::x6))); let x8 := [32#8,116#8,114#8,97#8,102#8,102#8,105#8,99#8]; let y1 := IntKind.i64.wrap ((4 : Int) + IntKind.i64.wrap (IntKind.i64.wrap ((↑(List.drop 4 x5).length : Int) - (2 : Int)) - Int.ofNat 33)); let x9 := IntKind.i64.wrap (IntKind.i64.wrap ((0 : Int) + (↑(List.length (cJ h)) : Int)) + (↑(List.take y1.toNat x5).length : Int)); let x10 := 9#8::List.replicate 31 (0#8); let x11 := rg 32 fun (i : Nat) => (rg 32 fun (i : Nat) => (rg 32 fun (i : Nat) => x1.getD (78 + i) (0 : BitVec 8)).getD i (0 : BitVec 8)).getD i (0 : BitVec 8); let y2 := rg 32 fun (i : Nat) => (rg 32 (uK (rg 32 (uK (rg 32 (kX x10)) (rg 32 S))) tU)).getD i (0 : BitVec 8); let y3 := rg 32 fun (i : Nat) => (zY (zX (s + 1#8)) 32 32 []).getD i (0 : BitVec 8); cj [0,175,1,0,175,1,1,175,1,3,175,1,4,175,1,0,175,0,175,1,3,175,1,4,175,0,175,1,3,175,1,4,175,1,0,175,1,0,175,5,0,175,2,5,175,2,175,175,2,175,175,5,0,175,2,175,175,1,0,3,1,0,3,1,92,1099511627776,1,0,1099511627776,1,0,1099511627776,0,170,0,0,3,0,170,1,0,170,5,0,0,1,0,1,0,3,0,6,0,1,0,8,0,166,5,0,0,1,0,1,5,0,0,1,0,1,5,0,0,1,0,2,0,166,0,1,5,0,0,1,0,1,2,32,64,2,32,32,2,32,32,2,32,32] ((P2 y3 x11 = rg 32 S/\lW y3 x11 = true)/\cj [5,0,0,1,0,1,1,0,1,5,0,0,1,0,1,5,0,0,1,0,1,0,3,0,3,0,92,0,170,2,4,170,5,0,135,2,135,170,5,0,0,1,0,2,5,0,1,1,1,2] (((0 : Int) < x9/\x9 < (1099511627776 : Int))/\cj [5,0,0,1,0,2,2,0,227,0,0,3,0,92,1,5,0,1,1,1,2,0,92,3,92,135,1,0,227,1,227,4611686018427387904,5,0,0,1,0,1,0,32] (((rg 32 fun (i : Nat) => x1.getD (134 + i) (0 : BitVec 8)).length < 4611686018427387904/\(rg 32 fun (i : Nat) => x1.getD (134 + i) (0 : BitVec 8)) = rg 32 (biF x10 (rg 32 (zL (List.take 0 (List.replicate x9.toNat (0 : BitVec 8))++cJ h++List.take y1.toNat x5)))))/\cj [2,32,64,2,32,32,2,32,64,2,32,32,0,0] (((rg 32 (zX (s + 1#8))).getD 0 (0 : BitVec 8) = 207#8->(rg 32 (zX (s + 1#8))).getD 1 (0 : BitVec 8) ≠ 33#8)/\cj [0,170,0,92,3,92,170,1,0,92,0,1,0,96,0,262,3,262,96,1,0,96,5,0,0,1,0,1,1,0,1,0,5,3,5,96,1,0,101,3,0,101,1,0,3,0,3,0,358,1,358,4611686018427387904,0,2,0,1,0,6,0,358,3,358,6,1,0,364,1,364,4611686018427387904,0,1,0,36,0,364,3,364,36,1,0,36,0,6,3,6,36,1,0,42,5,0,0,1,0,1,1,0,1,5,0,1,1,1,60,0,64,0,101,3,101,64,1,3,0,1,48,0,400,1,400,4611686018427387904,5,0,0,1,0,1,3,0,1,48,0,165,3,0,165,1,2,175,175,2,175,175,4,2,0,0,0,0,0,0] (n = List.length (cJ h) + x5.length + x2.length + 6 + x6.length/\zG (fun (i : Nat) => (0 : BitVec 8) = (0 : BitVec 8)) 0 32 (zG (fun (i : Nat) => ea i = kX x10 i) 0 32 (zG (fun (i : Nat) => ha i = uK (rg 32 (kX x10)) (rg 32 S) i) 0 32 (zG (fun (i : Nat) => ma i = uK (rg 32 (uK (rg 32 (kX x10)) (rg 32 S))) tU i) 0 32 (zG (fun (i : Nat) => ci i = xG (rg 32 fun (i : Nat) => (rg 32 (uK (rg 32 (kX x10)) (rg 32 S))).getD i (0 : BitVec 8)) (99#8::32#8::104#8::115#8::x8) (rg 32 (zL (cJ h++x5++x2))) i) 0 32 (zG (fun (i : Nat) => so i = xG y2 (115#8::32#8::97#8::112#8::x8) (rg 32 (zL (x4++x6))) i) 0 32 (zG (fun (i : Nat) => la i = xG y2 (99#8::32#8::97#8::112#8::x8) (rg 32 (zL (x4++x6))) i) 0 32 (cj [4,0,4,0,4,1,4,2] (true = true/\cj [0,0,0,0,0,0,0,3] (Int.negSucc 0 = Int.negSucc 0/\false = (true && decide (x7.length = 0))/\cj [0,0,0,0,0,0,0,165] (true = true/\LG = x4++x6/\xJ = [111#8,108#8,100#8]/\OU = x7/\True))))))))))))))) : Prop) := by kernel_rfl
set_option maxRecDepth 100000
theorem bF12 (s : BitVec 8) : Must (xQ Tryz.prog (Y6 (mL s) [] 22) gl0 [] [] 3000 Tryz.f30 0 (aF1 xJ s) [] (vL Tryz.prog Tryz.f30 0 (rFa false xJ s))) := by
 constructor
 refine kx ?_ (vF12 (zX s) (jA s) (biN (cJ (F3 xJ s)) true true xJ s) (mL s) (qZ true) (qA true s) (qN true s) (ciN (yC false xJ s) true s) (nE (yC false xJ s) true s) (jF (yC false xJ s) true s) s (F3 xJ s) (bI (yC false xJ s) true s) (Q6 (yC false xJ s) true s) (bI (yC false xJ s) true s).length).symm
 intro x1 x2 x3 x4 x5 x6 x7 x8 y1 x9 x10 x11 y2 y3
 refine ck (by kernel_rfl) ?_
 refine And.intro (⟨kx (sU s) (by kernel_rfl),kx (okT_eq _ _ : lW (rg 32 (aF (s + 1#8))) (rg 32 (jA s)) = true) (by kernel_rfl)⟩) ?_
 refine ck (by kernel_rfl) ?_
 refine And.intro (⟨dN (by kernel_rfl),dN (by kernel_rfl)⟩) ?_
 refine ck (by kernel_rfl) ?_
 refine And.intro (⟨dN (by kernel_rfl),by kernel_rfl⟩) ?_
 refine ck (by kernel_rfl) ?_
 refine And.intro (kx (l6 (s + 1#8)) (by kernel_rfl)) ?_
 refine ck (by kernel_rfl) ?_
 refine ⟨by kernel_rfl,?_⟩
 refine al ?_
 iterate 6 refine zS (fun i _ _ => by kernel_rfl) ?_
 refine ck (by kernel_rfl) ?_
 refine a0 ?_
 refine ck (by kernel_rfl) ?_
 refine a0 ?_
 refine a0 ?_
 refine ck (by kernel_rfl) ?_
 refine a0 ?_
 iterate 3 refine ⟨by kernel_rfl,?_⟩
 trivial
end Go.Sym
