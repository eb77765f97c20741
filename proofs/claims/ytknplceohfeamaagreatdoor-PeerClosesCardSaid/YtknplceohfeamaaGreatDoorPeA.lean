/- A peer takes the answer without a ticket. -/
import Derived.Test.YtknplceohfeamaaGreatDoorSteps
set_option linter.unusedVariables false
set_option linter.unusedSimpArgs false
namespace Go.Sym
open Go.Proofs Go.Spec
set_option maxHeartbeats 0
set_option maxRecDepth 100000 in
theorem vP0 (sh rt : Bool) (r ps sr sk bd sg fi S su ea ha ma ci co : F8) (tk : By) (lg LG OU : By) (n : Nat) : bq (Y8 S (flT false sg fi) 22) Tryz.f17 0 [l5 sh tk ps 1 r lg (z8 192) 0 0 0 0 2 rt false,.rb false (soR false sr sk bd) .unk] [] ⟨[],.tup [tP sh tk.length ps 3 r n (aD su ea ha ma ci co) 0 0 2 2 0 rt false,.slice 5 0 1 58 .ow (.is false),.int .i64 0],[],[bk tk,bk LG,bk [],bk [],bk [],bk OU]⟩ = (
let y1 := 0#8::19#8::3#8::0#8::0#8::46#8::0#8::43#8::0#8::2#8::3#8::4#8::0#8::51#8::0#8::36#8::0#8::29#8::0#8::32#8::rg 32 sk; let x1 := 2#8::0#8::0#8::86#8::3#8::3#8::zY sr 0 32 y1; let x2 := lg++x1++[8#8,0#8,0#8,2#8,0#8,0#8]++[11#8,0#8,0#8,12#8,0#8,0#8,0#8,8#8,0#8,0#8,3#8,1#8,2#8,3#8,0#8,0#8]++15#8::0#8::0#8::36#8::254#8::1#8::0#8::32#8::rg 32 sg; let x3 := 20#8::0#8::0#8::32#8::rg 32 (j0 (rg 32 (xG (rg 32 fun (i : Nat) => (rg 32 (uK (rg 32 (kX [])) (rg 32 S))).getD i (0 : BitVec 8)) [99#8,32#8,104#8,115#8,32#8,116#8,114#8,97#8,102#8,102#8,105#8,99#8] (rg 32 (zL (lg++x1))))) (rg 32 (zL (x2++20#8::0#8::0#8::32#8::rg 32 fi)))); let y3 := 15#8::0#8::0#8::36#8::254#8::1#8::0#8::32#8::rg 32 sg; let x4 := List.length lg + x1.length + 6 + 16 + y3.length; let x5 := 20#8::0#8::0#8::32#8::rg 32 fi; let x6 := 3#8::3#8::zY sr 0 32 y1; let x7 := lg++x1++[8#8,0#8,0#8,2#8,0#8,0#8]++[11#8,0#8,0#8,12#8,0#8,0#8,0#8,8#8,0#8,0#8,3#8,1#8,2#8,3#8,0#8,0#8]; let x8 := [32#8,104#8,115#8,32#8,116#8,114#8,97#8,102#8,102#8,105#8,99#8]; let x9 := rg 32 fun (i : Nat) => (rg 32 (uK (rg 32 (kX [])) (rg 32 S))).getD i (0 : BitVec 8); let x10 := [23#8,3#8,3#8,0#8,53#8]++rg 53 (wY (rg 32 (aA (rg 32 (xG x9 (99#8::x8) (rg 32 (zL (lg++x1))))))) (rg 12 (aB (rg 32 (xG x9 (99#8::x8) (rg 32 (zL (lg++x1))))))) (BitVec.ofNat 64 0) (22 : Int) x3); let x11 := [32#8,97#8,112#8,32#8,116#8,114#8,97#8,102#8,102#8,105#8,99#8]; let x12 := rg 32 fun (i : Nat) => (rg 32 fun (i : Nat) => (rg 32 fun (i : Nat) => x6.getD (54 + i) (0 : BitVec 8)).getD i (0 : BitVec 8)).getD i (0 : BitVec 8); let y2 := rg 32 fun (i : Nat) => (rg 32 (uK (rg 32 (uK (rg 32 (kX [])) (rg 32 S))) tU)).getD i (0 : BitVec 8); List.length tk < 1099511627776/\List.length lg < 1099511627776/\cj [1,0,1099511627776,1,0,1099511627776,1,0,1099511627776,0,0,3,0,215,1,0,215,1,0,215,1,1,215,1,3,215,1,4,215,1,0,215,0,215,1,3,215,1,4,215,0,215,1,3,215,1,4,215,1,0,215,1,0,215,5,0,95,2,5,95,2,95,215,2,95,215,5,0,95,2,95,215,0,90,0,0,3,0,90,1,0,90,0,86] ((x6.getD 2 (0 : BitVec 8) = 207#8->x6.getD 3 (0 : BitVec 8) ≠ 33#8)/\cj [2,32,64,2,32,32,2,32,32,2,32,32] ((P2 (rg 32 fun (i : Nat) => (zY r 32 32 []).getD i (0 : BitVec 8)) x12 = rg 32 S/\lW (rg 32 fun (i : Nat) => (zY r 32 32 []).getD i (0 : BitVec 8)) x12 = true)/\cj [0,86,0,1,0,90] (List.length lg = List.length lg/\zD (List.length lg) x1.length 1/\List.length lg + x1.length = (lg++x1).length/\(lg++x1).length < 4611686018427387904/\cj [0,0,1,0,1099511627776,1,0,1099511627776,2,215,215,1,0,120,1,1,120,1,3,120,1,4,120,1,0,120,2,215,215,1,3,120,1,4,120,2,215,215,1,3,120,1,4,120,1,0,120,1,95,215,5,0,120,2,5,120,2,120,120,2,215,215,5,0,120,2,120,120,0,115] (rg 115 bd = rg 115 (wY (rg 32 (aA (rg 32 (xG x9 (115#8::x8) (rg 32 (zL (lg++x1))))))) (rg 12 (aB (rg 32 (xG x9 (115#8::x8) (rg 32 (zL (lg++x1))))))) (BitVec.ofNat 64 0) (22 : Int) (8#8::0#8::0#8::2#8::0#8::0#8::11#8::0#8::0#8::12#8::0#8::0#8::0#8::8#8::0#8::0#8::3#8::1#8::2#8::3#8::0#8::0#8::15#8::0#8::0#8::36#8::254#8::1#8::0#8::32#8::zY sg 0 32 x5))/\cj [2,98,99,0,0,3,0,98,1,0,98,1,0,2,1,0,2,1,1,2,1,1,2,0,2,0,1,0,6] (List.length lg + x1.length = (lg++x1).length/\zD (List.length lg + x1.length) 6 1/\cj [0,92,0,12,0,8,3,0,1,24,0,12,0,1,0,16] (List.length lg + x1.length + 6 = (lg++x1++[8#8,0#8,0#8,2#8,0#8,0#8]).length/\zD (List.length lg + x1.length + 6) 16 1/\cj [0,76,0,36] (List.length lg + x1.length + 6 + 16 = x7.length/\x7.length < 4611686018427387904/\cj [0,32] (((rg 32 sg).length < 4611686018427387904/\rg 32 sg = rg 32 (C1 (7#8::List.replicate 31 (0#8)) (rg 32 (zL x7))))/\cj [0,36,0,1,0,40] (List.length lg + x1.length + 6 + 16 = x7.length/\zD (List.length lg + x1.length + 6 + 16) y3.length 1/\cj [0,36] (x4 = x2.length/\x2.length < 4611686018427387904/\cj [0,32] (((rg 32 fi).length < 4611686018427387904/\rg 32 fi = rg 32 (j0 (rg 32 (xG x9 (115#8::x8) (rg 32 (zL (lg++x1))))) (rg 32 (zL x2))))/\cj [0,32,0,1,0,36] (x4 = x2.length/\zD x4 x5.length 1/\x4 + x5.length = (x2++x5).length/\(x2++x5).length < 4611686018427387904/\cj [0,1,0,36,5,0,0,1,0,1,1,0,1,0,58,3,0,58,1,3,0,1,48] (x4 + x5.length = (x2++x5).length/\(x2++x5).length < 4611686018427387904/\cj [0,1,0,36] (x4 + x5.length = (x2++x5).length/\zD (x4 + x5.length) x3.length 1/\x4 + x5.length + x3.length = (x2++x5++x3).length/\(x2++x5++x3).length < 4611686018427387904/\cj [0,0,1,0,1099511627776,1,0,1099511627776,2,215,215,2,215,215] (7#8 = 7#8/\zG (fun (i : Nat) => 0#8 = 0#8) 0 31 (sh = sh/\cj [0,0,0,0,0,0] (List.length tk = List.length tk/\zG (fun (i : Nat) => ps i = ps i) 0 32 (cj [4,3] (zG (fun (i : Nat) => r i = r i) 0 64 (cj [0,0,0,0,0,0] (n = x4 + x5.length + x3.length/\zG (fun (i : Nat) => su i = zL (x2++x5++x3) i) 0 32 (zG (fun (i : Nat) => ea i = kX [] i) 0 32 (zG (fun (i : Nat) => ha i = uK (rg 32 (kX [])) (rg 32 S) i) 0 32 (zG (fun (i : Nat) => ma i = uK (rg 32 (uK (rg 32 (kX [])) (rg 32 S))) tU i) 0 32 (zG (fun (i : Nat) => ci i = xG y2 (115#8::x11) (rg 32 (zL (x2++x5))) i) 0 32 (zG (fun (i : Nat) => co i = xG y2 (99#8::x11) (rg 32 (zL (x2++x5))) i) 0 32 (cj [4,0,4,0,4,2,4,2,4,0] (rt = rt/\false = false/\cj [0,0,0,0,0,0,0,0,0,0,0,0,0,0,0,0,0,0,0,0,0,0,0,0] (Int.negSucc 0 = Int.negSucc 0/\false = (true && decide (List.length x10 = 0))/\cj [0,0,0,0,0,0,0,58,4,0] (tk = tk/\LG = x2++x5++x3/\([] : By) = []/\([] : By) = []/\([] : By) = []/\OU = x10/\True)))))))))))))))))))))))))))))) : Prop) := by kernel_rfl
set_option maxRecDepth 100000
theorem bPan (sh : Bool) {tk : By} (ht : tk = [] \/ tk = xN) (s : BitVec 8) : Must (xQ Tryz.prog (Y8 (mL s) (fxN (yC sh tk s) (vF tk) s) 22) gl0 [] [] 3000 Tryz.f17 0 (aP1 sh tk s) [] (vL Tryz.prog Tryz.f17 0 (rP1 sh tk s))) := by
 constructor
 rcases ht with rfl | rfl
 refine kx ?_ (vP0 sh (!sh) (zX s) (tV []) (zX (s + 1#8)) (jA (s + 1#8)) (bdN (yC sh [] s) false s) (sgN (yC sh [] s) false s) (fiN (yC sh [] s) false s) (mL s) (hH (yC sh [] s) false s) (qZ false) (qA false s) (qN false s) (nE (yC sh [] s) false s) (jF (yC sh [] s) false s) [] (yC sh [] s) (mM (yC sh [] s) false s) (fiR (bpN (yC sh [] s) false s)) (mM (yC sh [] s) false s).length).symm
 rotate_left
 refine kx ?_ (vP0 sh (!sh) (zX s) (tV xN) (zX (s + 1#8)) (jA (s + 1#8)) (bdN (yC sh xN s) false s) (sgN (yC sh xN s) false s) (fiN (yC sh xN s) false s) (mL s) (hH (yC sh xN s) false s) (qZ false) (qA false s) (qN false s) (nE (yC sh xN s) false s) (jF (yC sh xN s) false s) xN (yC sh xN s) (mM (yC sh xN s) false s) (fiR (bpN (yC sh xN s) false s)) (mM (yC sh xN s) false s).length).symm
 all_goals
  cases sh
 all_goals
  intro y1 x1 x2 x3 y3 x4 x5 x6 x7 x8 x9 x10 x11 x12 y2
  iterate 2 refine ad (by kernel_rfl) ?_
  refine ck (by kernel_rfl) ?_
  refine And.intro (kx (l6 (s + 1#8)) (by kernel_rfl)) ?_
  refine ck (by kernel_rfl) ?_
  refine And.intro (⟨kx (w1w s) (by kernel_rfl),kx (okT_eq _ _ : lW (rg 32 (aF s)) (rg 32 (jA (s + 1#8))) = true) (by kernel_rfl)⟩) ?_
  refine ck (by kernel_rfl) ?_
  refine a0 ?_
  refine ar (by kernel_rfl) ?_
  iterate 2 refine ad (by kernel_rfl) ?_
  refine ck (by kernel_rfl) ?_
  refine ⟨by kernel_rfl,?_⟩
  refine ck (by kernel_rfl) ?_
  refine ad (by kernel_rfl) ?_
  refine ar (by kernel_rfl) ?_
  refine ck (by kernel_rfl) ?_
  refine ad (by kernel_rfl) ?_
  refine ar (by kernel_rfl) ?_
  refine ck (by kernel_rfl) ?_
  iterate 2 refine ad (by kernel_rfl) ?_
  refine ck (by kernel_rfl) ?_
  refine And.intro (⟨dN (by kernel_rfl),by kernel_rfl⟩) ?_
  refine ck (by kernel_rfl) ?_
  refine ad (by kernel_rfl) ?_
  refine ar (by kernel_rfl) ?_
  refine ck (by kernel_rfl) ?_
  refine ⟨by kernel_rfl,?_⟩
  refine ad (by kernel_rfl) ?_
  refine ck (by kernel_rfl) ?_
  refine And.intro (⟨dN (by kernel_rfl),by kernel_rfl⟩) ?_
  refine ck (by kernel_rfl) ?_
  refine ⟨by kernel_rfl,?_⟩
  refine ar (by kernel_rfl) ?_
  iterate 2 refine ad (by kernel_rfl) ?_
  refine ck (by kernel_rfl) ?_
  iterate 2 refine ad (by kernel_rfl) ?_
  refine ck (by kernel_rfl) ?_
  refine ad (by kernel_rfl) ?_
  refine ar (by kernel_rfl) ?_
  iterate 2 refine ad (by kernel_rfl) ?_
  refine ck (by kernel_rfl) ?_
  refine a0 ?_
  refine al ?_
  refine a0 ?_
  refine ck (by kernel_rfl) ?_
  refine a0 ?_
  refine al ?_
  refine ck (by kernel_rfl) ?_
  refine al ?_
  refine ck (by kernel_rfl) ?_
  refine ⟨by kernel_rfl,?_⟩
  iterate 6 refine zS (fun i _ _ => by kernel_rfl) ?_
  refine ck (by kernel_rfl) ?_
  refine a0 ?_
  refine a0 ?_
  refine ck (by kernel_rfl) ?_
  refine a0 ?_
  refine a0 ?_
  refine ck (by kernel_rfl) ?_
  refine a0 ?_
  refine ⟨by kernel_rfl,?_⟩
  iterate 3 refine a0 ?_
  refine ⟨by kernel_rfl,?_⟩
  trivial
end Go.Sym
