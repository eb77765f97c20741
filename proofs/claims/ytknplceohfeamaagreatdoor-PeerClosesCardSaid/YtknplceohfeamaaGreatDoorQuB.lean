/- A peer is asked for a share. -/
import Derived.Test.YtknplceohfeamaaGreatDoorSteps
import Derived.Test.YtknplceohfeamaaGreatDoorQuA
set_option linter.unusedVariables false
set_option linter.unusedSimpArgs false
namespace Go.Sym
open Go.Proofs Go.Spec
set_option maxHeartbeats 0
set_option maxRecDepth 100000 in
theorem vQ1 (r ps S : F8) (a b c : BitVec 8) (lg LG OU : By) (n m : Nat) : bq (Y8 S [] 22) Tryz.f17 0 [l5 false [a,b,c] ps 1 r lg (z8 192) 0 0 0 0 2 false false,.rb false reR .unk] [] ⟨[],.tup [tP false 3 ps 1 r n (z8 192) 0 0 0 0 2 true false,.slice 5 0 1 m .ow (.is false),.int .i64 0],[],[bk [a,b,c],bk LG,bk [],bk [],bk [],bk OU]⟩ = (
let y4 := eR (fun (i : Nat) => (zY r 32 32 []).getD i (0 : BitVec 8)) fun (i : Nat) => (9#8::List.replicate 31 (0#8)).getD i (0 : BitVec 8); let y1 := 0#8::0#8::2#8::19#8::3#8::1#8::0#8::0#8::123#8::0#8::43#8::0#8::3#8::2#8::3#8::4#8::0#8::10#8::0#8::6#8::0#8::4#8::0#8::29#8::0#8::23#8::0#8::13#8::0#8::4#8::0#8::2#8::254#8::1#8::0#8::51#8::0#8::38#8::0#8::36#8::0#8::29#8::0#8::32#8::zY y4 0 32 (0#8::45#8::0#8::2#8::1#8::1#8::0#8::41#8::0#8::46#8::0#8::9#8::0#8::3#8::a::b::c::0#8::0#8::0#8::0#8::0#8::33#8::32#8::List.replicate 32 (0 : BitVec 8)); let y2 := 254#8::0#8::0#8::32#8::rg 32 (zL lg)++[2#8,0#8,0#8,52#8,3#8,3#8,207#8,33#8,173#8,116#8,229#8,154#8,97#8,17#8,190#8,29#8,140#8,2#8,30#8,101#8,184#8,145#8,194#8,162#8,17#8,22#8,122#8,187#8,140#8,94#8,7#8,158#8,9#8,226#8,200#8,168#8,51#8,156#8,0#8,19#8,3#8,0#8,0#8,12#8,0#8,43#8,0#8,2#8,3#8,4#8,0#8,51#8,0#8,2#8,0#8,29#8]; let y3 := IntKind.i64.wrap ((4 : Int) + IntKind.i64.wrap (IntKind.i64.wrap ((↑(List.drop 4 (1#8::0#8::0#8::166#8::3#8::3#8::zY r 0 32 y1)).length : Int) - (2 : Int)) - Int.ofNat 33)); let x1 := 1#8::0#8::0#8::166#8::3#8::3#8::zY r 0 32 (0#8::0#8::2#8::19#8::3#8::1#8::0#8::0#8::123#8::0#8::43#8::0#8::3#8::2#8::3#8::4#8::0#8::10#8::0#8::6#8::0#8::4#8::0#8::29#8::0#8::23#8::0#8::13#8::0#8::4#8::0#8::2#8::254#8::1#8::0#8::51#8::0#8::38#8::0#8::36#8::0#8::29#8::0#8::32#8::zY y4 0 32 (0#8::45#8::0#8::2#8::1#8::1#8::0#8::41#8::0#8::46#8::0#8::9#8::0#8::3#8::a::b::c::0#8::0#8::0#8::0#8::0#8::33#8::32#8::rg 32 (biF (rg 32 ps) (rg 32 (zL (List.take 0 (List.replicate (IntKind.i64.wrap (IntKind.i64.wrap ((0 : Int) + (↑y2.length : Int)) + (↑(List.take y3.toNat (1#8::0#8::0#8::166#8::3#8::3#8::zY r 0 32 y1)).length : Int))).toNat (0 : BitVec 8))++y2++List.take y3.toNat (1#8::0#8::0#8::166#8::3#8::3#8::zY r 0 32 y1))))))); let x2 := 1#8::0#8::0#8::166#8::3#8::3#8::zY r 0 32 y1; let x3 := 254#8::0#8::0#8::32#8::rg 32 (zL lg)++[2#8,0#8,0#8,52#8,3#8,3#8,207#8,33#8,173#8,116#8,229#8,154#8,97#8,17#8,190#8,29#8,140#8,2#8,30#8,101#8,184#8,145#8,194#8,162#8,17#8,22#8,122#8,187#8,140#8,94#8,7#8,158#8,9#8,226#8,200#8,168#8,51#8,156#8,0#8,19#8,3#8,0#8,0#8,12#8,0#8,43#8,0#8,2#8,3#8,4#8,0#8,51#8,0#8,2#8,0#8,29#8]; let x4 := [22#8,3#8,3#8,BitVec.ofInt 8 ((↑x1.length : Int).fdiv (Int.ofNat 256)),BitVec.ofInt 8 (↑x1.length : Int)]++x1; let x5 := IntKind.i64.wrap (IntKind.i64.wrap ((0 : Int) + (↑x3.length : Int)) + (↑(List.take (IntKind.i64.wrap ((4 : Int) + IntKind.i64.wrap (IntKind.i64.wrap ((↑(List.drop 4 x2).length : Int) - (2 : Int)) - Int.ofNat 33))).toNat x2).length : Int)); cj [1,3,1099511627776] (List.length lg < 1099511627776/\cj [1,0,1099511627776,1,0,1099511627776,1,0,1099511627776,0,0,3,0,61,1,0,61,1,0,61,1,1,61,1,3,61,1,4,61,1,0,61,0,61,1,3,61,1,4,61,0,61,1,3,61,1,4,61,1,0,61,1,0,61,5,0,61,2,5,61,2,61,61,2,61,61,5,0,61,2,61,61,0,56,0,0,3,0,56,1,0,56,0,52,0,52,0,1] (List.length lg = List.length lg/\List.length lg < 4611686018427387904/\cj [0,1,0,56,0,36,3,36,56,1,2,32,64,2,32,32,2,32,64,2,32,32,3,1,1,8,2,32,32,2,32,281474976710656,2,32,9223372036854775807,5,0,0,1,0,1,5,0,0,1,0,1,5,0,0,1,0,2,5,0,1,1,1,2,5,0,0,1,0,1,5,0,0,1,0,1,5,0,0,1,0,1,5,0,0,1,0,1,0,2,3,2,32,1,0,34,5,0,0,1,0,1,0,35,0,2,0,39,0,1,5,0,0,1,0,1,0,2,0,2,0,3,5,0,0,1,0,2,5,0,1,1,1,2,0,2,0,4,0,7,0,9,0,6,5,0,0,1,0,1,0,2,0,17,0,19,0,4,5,0,0,1,0,1,0,2,0,36,0,25,0,27,0,38,0,1,0,67,0,69,0,2,5,0,0,1,0,1,0,3,0,5,5,0,0,1,0,1,0,32,0,9,0,11,0,33,0,73,0,75,0,46,0,41,0,123,0,166,0,1,0,92,0,170,2,4,170,5,0,135,2,135,170,5,0,0,1,0,2,5,0,1,1,1,2] (((0 : Int) < x5/\x5 < (1099511627776 : Int))/\cj [5,0,0,1,0,2,2,0,227,0,0,3,0,92,1,5,0,1,1,1,2,0,92,3,92,135,1,0,227,1,227,4611686018427387904,1,0,1,5,0,0,1,0,1,5,0,0,1,0,1,5,0,0,1,0,2,5,0,1,1,1,2,5,0,0,1,0,1,5,0,0,1,0,1,5,0,0,1,0,1,5,0,0,1,0,1,0,2,3,2,32,1,0,34,5,0,0,1,0,1,0,35,0,2,0,39,0,1,5,0,0,1,0,1,0,2,0,2,0,3,5,0,0,1,0,2,5,0,1,1,1,2,0,2,0,4,0,7,0,9,0,6,5,0,0,1,0,1,0,2,0,17,0,19,0,4,5,0,0,1,0,1,0,2,0,36,0,25,0,27,0,38,0,1,0,67,0,69,0,2,5,0,0,1,0,1,0,3,0,5,5,0,0,1,0,1,0,9,0,11,0,33,0,73,0,75,0,46,0,41,0,123,0,166,0,1,0,170,0,92,3,92,170,1,0,170,5,0,0,1,0,1,1,0,1,0,5,3,5,170,1,0,175,3,0,175,1,0,0,1,0,1099511627776,1,0,1099511627776,2,61,61,2,61,61] (7#8 = 7#8/\zG (fun (i : Nat) => 0#8 = 0#8) 0 31 (false = false/\cj [0,0,0,0,0,0,0,3] (zG (fun (i : Nat) => ps i = ps i) 0 32 (cj [4,1] (zG (fun (i : Nat) => r i = r i) 0 64 (cj [0,0,0,0,0,0] (n = 92 + x1.length/\zG (fun (i : Nat) => (0 : BitVec 8) = (0 : BitVec 8)) 0 192 (cj [4,0,4,0,4,0,4,0,4,2] (true = true/\false = false/\cj [0,0,0,0,0,0,0,0,0,0,0,0,0,0,0,0,0,0,0,0,0,0,0,0] (Int.negSucc 0 = Int.negSucc 0/\false = (true && decide (x4.length = 0))/\cj [0,0,0,0,0,0] (m = x4.length/\cj [4,0] ([a,b,c] = [a,b,c]/\LG = x3++x1/\([] : By) = []/\([] : By) = []/\([] : By) = []/\OU = x4/\True))))))))))))))) : Prop) := by kernel_rfl
set_option maxRecDepth 100000
theorem bQ0 (s : BitVec 8) : Must (xQ Tryz.prog (Y8 (mL s) [] 22) gl0 [] [] 3000 Tryz.f17 0 (aP0 [] s) [] (vL Tryz.prog Tryz.f17 0 (rP0 [] s))) := by
 constructor
 refine kx ?_ (vQ0 (zX s) (tV []) (mL s) (dB [] true false [] s) (yC false [] s) (g2R [] s) (yC false [] s).length (g2R [] s).length).symm
 intro x1 x2
 refine ck (by kernel_rfl) ?_
 refine ad (by kernel_rfl) ?_
 refine ck (by kernel_rfl) ?_
 refine a0 ?_
 refine ad (by kernel_rfl) ?_
 refine ck (by kernel_rfl) ?_
 refine a0 ?_
 refine al ?_
 refine a0 ?_
 refine ck (by kernel_rfl) ?_
 refine al ?_
 refine ck (by kernel_rfl) ?_
 refine al ?_
 refine ck (by kernel_rfl) ?_
 refine ⟨by kernel_rfl,?_⟩
 refine al ?_
 refine ck (by kernel_rfl) ?_
 refine a0 ?_
 refine a0 ?_
 refine ck (by kernel_rfl) ?_
 refine a0 ?_
 refine a0 ?_
 refine ck (by kernel_rfl) ?_
 refine ⟨by kernel_rfl,?_⟩
 refine ck (by kernel_rfl) ?_
 refine a0 ?_
 refine ⟨by kernel_rfl,?_⟩
 iterate 3 refine a0 ?_
 refine ⟨by kernel_rfl,?_⟩
 trivial
theorem bQ1 {tk : By} (ht : tk = xN \/ tk = xJ) (s : BitVec 8) : Must (xQ Tryz.prog (Y8 (mL s) [] 22) gl0 [] [] 3000 Tryz.f17 0 (aP0 tk s) [] (vL Tryz.prog Tryz.f17 0 (rP0 tk s))) := by
 constructor
 rcases ht with rfl | rfl
 refine kx ?_ (vQ1 (zX s) (tV xN) (mL s) 110#8 101#8 119#8 (dB [] true false xN s) (yC false xN s) (g2R xN s) (yC false xN s).length (g2R xN s).length).symm
 rotate_left
 refine kx ?_ (vQ1 (zX s) (tV xJ) (mL s) 111#8 108#8 100#8 (dB [] true false xJ s) (yC false xJ s) (g2R xJ s) (yC false xJ s).length (g2R xJ s).length).symm
 all_goals
  intro y4 y1 y2 y3 x1 x2 x3 x4 x5
  refine ck (by kernel_rfl) ?_
  refine ad (by kernel_rfl) ?_
  refine ck (by kernel_rfl) ?_
  refine a0 ?_
  refine ad (by kernel_rfl) ?_
  refine ck (by kernel_rfl) ?_
  refine And.intro (⟨dN (by kernel_rfl),dN (by kernel_rfl)⟩) ?_
  refine ck (by kernel_rfl) ?_
  refine a0 ?_
  refine al ?_
  refine a0 ?_
  refine ck (by kernel_rfl) ?_
  refine al ?_
  refine ck (by kernel_rfl) ?_
  refine al ?_
  refine ck (by kernel_rfl) ?_
  refine ⟨by kernel_rfl,?_⟩
  refine al ?_
  refine ck (by kernel_rfl) ?_
  refine a0 ?_
  refine a0 ?_
  refine ck (by kernel_rfl) ?_
  refine a0 ?_
  refine a0 ?_
  refine ck (by kernel_rfl) ?_
  refine ⟨by kernel_rfl,?_⟩
  refine ck (by kernel_rfl) ?_
  refine a0 ?_
  refine ⟨by kernel_rfl,?_⟩
  iterate 3 refine a0 ?_
  refine ⟨by kernel_rfl,?_⟩
  trivial
end Go.Sym
