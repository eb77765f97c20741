/- A peer takes the answer by a ticket. -/
import Derived.Test.YtknplceohfeamaaGreatDoorSteps
set_option linter.unusedVariables false
set_option linter.unusedSimpArgs false
namespace Go.Sym
open Go.Proofs Go.Spec
set_option maxHeartbeats 0
set_option maxRecDepth 100000 in
theorem vP1 (sh rt : Bool) (r ps sr sk bd sg fi S su ea ha ma ci co : F8) (a b c : BitVec 8) (lg LG OU : By) (n : Nat) : bq (Y8 S (flT true sg fi) 22) Tryz.f17 0 [l5 sh [a,b,c] ps 1 r lg (z8 192) 0 0 0 0 2 rt false,.rb false (soR true sr sk bd) .unk] [] ⟨[],.tup [tP sh 3 ps 3 r n (aD su ea ha ma ci co) 0 0 2 2 0 rt true,.slice 5 0 1 58 .ow (.is false),.int .i64 0],[],[bk [a,b,c],bk LG,bk [],bk [],bk [],bk OU]⟩ = (
let y1 := 0#8::19#8::3#8::0#8::0#8::52#8::0#8::43#8::0#8::2#8::3#8::4#8::0#8::51#8::0#8::36#8::0#8::29#8::0#8::32#8::zY sk 0 32 [0#8,41#8,0#8,2#8,0#8,0#8]; let x1 := 2#8::0#8::0#8::92#8::3#8::3#8::zY sr 0 32 y1; let x2 := 20#8::0#8::0#8::32#8::rg 32 (j0 (rg 32 (xG (rg 32 fun (i : Nat) => (rg 32 (uK (rg 32 (kX (rg 32 ps))) (rg 32 S))).getD i (0 : BitVec 8)) [99#8,32#8,104#8,115#8,32#8,116#8,114#8,97#8,102#8,102#8,105#8,99#8] (rg 32 (zL (lg++x1))))) (rg 32 (zL (lg++x1++[8#8,0#8,0#8,2#8,0#8,0#8]++20#8::0#8::0#8::32#8::rg 32 fi)))); let x3 := lg++x1++[8#8,0#8,0#8,2#8,0#8,0#8]++20#8::0#8::0#8::32#8::rg 32 fi; let x4 := 3#8::3#8::zY sr 0 32 y1; let x5 := [32#8,104#8,115#8,32#8,116#8,114#8,97#8,102#8,102#8,105#8,99#8]; let x6 := 20#8::0#8::0#8::32#8::rg 32 fi; let x7 := rg 32 fun (i : Nat) => (rg 32 (uK (rg 32 (kX (rg 32 ps))) (rg 32 S))).getD i (0 : BitVec 8); let x8 := lg++x1++[8#8,0#8,0#8,2#8,0#8,0#8]; let x9 := [23#8,3#8,3#8,0#8,53#8]++rg 53 (wY (rg 32 (aA (rg 32 (xG x7 (99#8::x5) (rg 32 (zL (lg++x1))))))) (rg 12 (aB (rg 32 (xG x7 (99#8::x5) (rg 32 (zL (lg++x1))))))) (BitVec.ofNat 64 0) (22 : Int) x2); let x10 := List.length lg + x1.length + 6; let x11 := [32#8,97#8,112#8,32#8,116#8,114#8,97#8,102#8,102#8,105#8,99#8]; let x12 := rg 32 fun (i : Nat) => (rg 32 fun (i : Nat) => (rg 32 fun (i : Nat) => x4.getD (54 + i) (0 : BitVec 8)).getD i (0 : BitVec 8)).getD i (0 : BitVec 8); let y2 := rg 32 fun (i : Nat) => (rg 32 (uK (rg 32 (uK (rg 32 (kX (rg 32 ps))) (rg 32 S))) tU)).getD i (0 : BitVec 8); cj [1,3,1099511627776] (List.length lg < 1099511627776/\cj [1,0,1099511627776,1,0,1099511627776,1,0,1099511627776,0,0,3,0,165,1,0,165,1,0,165,1,1,165,1,3,165,1,4,165,1,0,165,0,165,1,3,165,1,4,165,0,165,1,3,165,1,4,165,1,0,165,1,0,165,5,0,101,2,5,101,2,101,165,2,101,165,5,0,101,2,101,165,0,96,0,0,3,0,96,1,0,96,0,92] ((x4.getD 2 (0 : BitVec 8) = 207#8->x4.getD 3 (0 : BitVec 8) ≠ 33#8)/\cj [2,32,64,2,32,32,2,32,32,2,32,32] ((P2 (rg 32 fun (i : Nat) => (zY r 32 32 []).getD i (0 : BitVec 8)) x12 = rg 32 S/\lW (rg 32 fun (i : Nat) => (zY r 32 32 []).getD i (0 : BitVec 8)) x12 = true)/\cj [0,92,0,1,0,96] (List.length lg = List.length lg/\zD (List.length lg) x1.length 1/\List.length lg + x1.length = (lg++x1).length/\(lg++x1).length < 4611686018427387904/\cj [0,0,1,0,1099511627776,1,0,1099511627776,2,165,165,1,0,64,1,1,64,1,3,64,1,4,64,1,0,64,2,165,165,1,3,64,1,4,64,2,165,165,1,3,64,1,4,64,1,0,64,1,101,165,5,0,64,2,5,64,2,64,64,2,165,165,5,0,64,2,64,64,0,59] (rg 59 bd = rg 59 (wY (rg 32 (aA (rg 32 (xG x7 (115#8::x5) (rg 32 (zL (lg++x1))))))) (rg 12 (aB (rg 32 (xG x7 (115#8::x5) (rg 32 (zL (lg++x1))))))) (BitVec.ofNat 64 0) (22 : Int) (8#8::0#8::0#8::2#8::0#8::0#8::x6))/\cj [2,42,43,0,0,3,0,42,1,0,42,1,0,2,1,0,2,1,1,2,1,1,2,0,2,0,1,0,6] (List.length lg + x1.length = (lg++x1).length/\zD (List.length lg + x1.length) 6 1/\cj [0,36] (x10 = x8.length/\x8.length < 4611686018427387904/\cj [0,32] (((rg 32 fi).length < 4611686018427387904/\rg 32 fi = rg 32 (j0 (rg 32 (xG x7 (115#8::x5) (rg 32 (zL (lg++x1))))) (rg 32 (zL x8))))/\cj [0,32,0,1,0,36] (x10 = x8.length/\zD x10 x6.length 1/\x10 + x6.length = x3.length/\x3.length < 4611686018427387904/\cj [0,1,0,36,5,0,0,1,0,1,1,0,1,0,58,3,0,58,1,3,0,1,48] (x10 + x6.length = x3.length/\x3.length < 4611686018427387904/\cj [0,1,0,36] (x10 + x6.length = x3.length/\zD (x10 + x6.length) x2.length 1/\x10 + x6.length + x2.length = (x3++x2).length/\(x3++x2).length < 4611686018427387904/\cj [0,0,1,0,1099511627776,1,0,1099511627776,2,165,165,2,165,165] (7#8 = 7#8/\zG (fun (i : Nat) => 0#8 = 0#8) 0 31 (sh = sh/\cj [0,0,0,0,0,0,0,3] (zG (fun (i : Nat) => ps i = ps i) 0 32 (cj [4,3] (zG (fun (i : Nat) => r i = r i) 0 64 (cj [0,0,0,0,0,0] (n = x10 + x6.length + x2.length/\zG (fun (i : Nat) => su i = zL (x3++x2) i) 0 32 (zG (fun (i : Nat) => ea i = kX (rg 32 ps) i) 0 32 (zG (fun (i : Nat) => ha i = uK (rg 32 (kX (rg 32 ps))) (rg 32 S) i) 0 32 (zG (fun (i : Nat) => ma i = uK (rg 32 (uK (rg 32 (kX (rg 32 ps))) (rg 32 S))) tU i) 0 32 (zG (fun (i : Nat) => ci i = xG y2 (115#8::x11) (rg 32 (zL x3)) i) 0 32 (zG (fun (i : Nat) => co i = xG y2 (99#8::x11) (rg 32 (zL x3)) i) 0 32 (cj [4,0,4,0,4,2,4,2,4,0] (rt = rt/\true = true/\cj [0,0,0,0,0,0,0,0,0,0,0,0,0,0,0,0,0,0,0,0,0,0,0,0] (Int.negSucc 0 = Int.negSucc 0/\false = (true && decide (List.length x9 = 0))/\cj [0,0,0,0,0,0,0,58,4,0] ([a,b,c] = [a,b,c]/\LG = x3++x2/\([] : By) = []/\([] : By) = []/\([] : By) = []/\OU = x9/\True))))))))))))))))))))))))))) : Prop) := by kernel_rfl
set_option maxRecDepth 100000
theorem bPao (sh : Bool) (s : BitVec 8) : Must (xQ Tryz.prog (Y8 (mL s) (fxN (yC sh xJ s) (vF xJ) s) 22) gl0 [] [] 3000 Tryz.f17 0 (aP1 sh xJ s) [] (vL Tryz.prog Tryz.f17 0 (rP1 sh xJ s))) := by
 constructor
 refine kx ?_ (vP1 sh (!sh) (zX s) (tV xJ) (zX (s + 1#8)) (jA (s + 1#8)) (bdN (yC sh xJ s) true s) (sgN (yC sh xJ s) true s) (fiN (yC sh xJ s) true s) (mL s) (hH (yC sh xJ s) true s) (qZ true) (qA true s) (qN true s) (nE (yC sh xJ s) true s) (jF (yC sh xJ s) true s) (111#8) (108#8) (100#8) (yC sh xJ s) (mM (yC sh xJ s) true s) (fiR (bpN (yC sh xJ s) true s)) (mM (yC sh xJ s) true s).length).symm
 cases sh
 all_goals
  intro y1 x1 x2 x3 x4 x5 x6 x7 x8 x9 x10 x11 x12 y2
  refine ck (by kernel_rfl) ?_
  refine ad (by kernel_rfl) ?_
  refine ck (by kernel_rfl) ?_
  refine And.intro (kx (l6 (s + 1#8)) (by kernel_rfl)) ?_
  refine ck (by kernel_rfl) ?_
  refine And.intro (⟨kx (w1w s) (by kernel_rfl),kx (okT_eq _ _ : lW (rg 32 (aF s)) (rg 32 (jA (s + 1#8))) = true) (by kernel_rfl)⟩) ?_
  refine ck (by kernel_rfl) ?_
  refine a0 ?_
  refine ar (by kernel_rfl) ?_
  iterate 2 refine ad (by kernel_rfl) ?_
  refine ck (by kernel_rfl) ?_
  refine ⟨by kernel_rfl,?_⟩
  refine ck (by kernel_rfl) ?_
  refine ad (by kernel_rfl) ?_
  refine ar (by kernel_rfl) ?_
  refine ck (by kernel_rfl) ?_
  refine ⟨by kernel_rfl,?_⟩
  refine ad (by kernel_rfl) ?_
  refine ck (by kernel_rfl) ?_
  refine And.intro (⟨dN (by kernel_rfl),by kernel_rfl⟩) ?_
  refine ck (by kernel_rfl) ?_
  refine ⟨by kernel_rfl,?_⟩
  refine ar (by kernel_rfl) ?_
  iterate 2 refine ad (by kernel_rfl) ?_
  refine ck (by kernel_rfl) ?_
  iterate 2 refine ad (by kernel_rfl) ?_
  refine ck (by kernel_rfl) ?_
  refine ad (by kernel_rfl) ?_
  refine ar (by kernel_rfl) ?_
  iterate 2 refine ad (by kernel_rfl) ?_
  refine ck (by kernel_rfl) ?_
  refine a0 ?_
  refine al ?_
  refine a0 ?_
  refine ck (by kernel_rfl) ?_
  refine al ?_
  refine ck (by kernel_rfl) ?_
  refine al ?_
  refine ck (by kernel_rfl) ?_
  refine ⟨by kernel_rfl,?_⟩
  iterate 6 refine zS (fun i _ _ => by kernel_rfl) ?_
  refine ck (by kernel_rfl) ?_
  refine a0 ?_
  refine a0 ?_
  refine ck (by kernel_rfl) ?_
  refine a0 ?_
  refine a0 ?_
  refine ck (by kernel_rfl) ?_
  refine a0 ?_
  refine ⟨by kernel_rfl,?_⟩
  iterate 3 refine a0 ?_
  refine ⟨by kernel_rfl,?_⟩
  trivial
end Go.Sym
