/- A peer greets with a share. -/
import Derived.Test.YtknplceohfeamaaGreatDoorSteps
set_option linter.unusedVariables false
set_option linter.unusedSimpArgs false
namespace Go.Sym
open Go.Proofs Go.Spec
set_option maxHeartbeats 0
set_option maxRecDepth 100000 in
theorem vH10 (r ps : F8) (LG OU : By) (n m : Nat) : bq Y4 Tryz.f26 0 [.agg (plA true (.rb false [] .unk) ps),aggB 64 r] [] ⟨[],.tup [tP true 0 ps 1 r n (z8 192) 0 0 0 0 2 false false,.slice 5 0 1 m .ow (.is false)],[],[bk [],bk LG,bk [],bk [],bk [],bk OU]⟩ = (
let x1 := 1#8::0#8::0#8::114#8::3#8::3#8::zY r 0 32 (0#8::0#8::2#8::19#8::3#8::1#8::0#8::0#8::71#8::0#8::43#8::0#8::3#8::2#8::3#8::4#8::0#8::10#8::0#8::4#8::0#8::2#8::0#8::29#8::0#8::13#8::0#8::4#8::0#8::2#8::254#8::1#8::0#8::51#8::0#8::38#8::0#8::36#8::0#8::29#8::0#8::32#8::zY (eR (fun (i : Nat) => (zY r 32 32 []).getD i (0 : BitVec 8)) fun (i : Nat) => (9#8::List.replicate 31 (0#8)).getD i (0 : BitVec 8)) 0 32 [0#8,45#8,0#8,2#8,1#8,1#8]); let x2 := [22#8,3#8,3#8,BitVec.ofInt 8 ((↑x1.length : Int).fdiv (Int.ofNat 256)),BitVec.ofInt 8 (↑x1.length : Int)]++x1; cj [1,0,1099511627776,1,0,1099511627776,1,0,1099511627776,1,0,1099511627776,1,0,1099511627776,2,32,64,2,32,32,2,32,64,2,32,32,5,0,0,1,0,1,5,0,0,1,0,1,5,0,0,1,0,1,5,0,0,1,0,1,5,0,0,1,0,1,0,2,3,2,32,1,0,34,5,0,0,1,0,1,0,35,0,2,0,39,0,1,5,0,0,1,0,1,0,2,0,2,0,3,5,0,0,1,0,1,0,2,0,7,0,9,0,4,5,0,0,1,0,1,0,2,0,15,0,17,0,4,5,0,0,1,0,1,0,2,0,36,0,23,0,25,0,38,0,1,0,65,0,67,0,2,0,41,0,71,0,114,0,1,0,118,0,0,3,0,118,1,0,118,5,0,0,1,0,1,1,0,1,0,5,3,5,118,1,0,123,3,0,123,1] (7#8 = 7#8/\zG (fun (i : Nat) => 0#8 = 0#8) 0 31 (true = true/\cj [0,0,0,0,0,0,0,0] (zG (fun (i : Nat) => ps i = ps i) 0 32 (cj [4,1] (zG (fun (i : Nat) => r i = r i) 0 64 (cj [0,0,0,0,0,0] (n = 0 + x1.length/\zG (fun (i : Nat) => (0 : BitVec 8) = 0#8) 0 192 (cj [4,0,4,0,4,0,4,0,4,2] (false = false/\false = false/\cj [0,0,0,0,0,0,0,0,0,0,0,0,0,0,0,0,0,0,0,0,0,0,0,0] (Int.negSucc 0 = Int.negSucc 0/\false = (true && decide (x2.length = 0))/\cj [0,0,0,0,0,0] (m = x2.length/\([] : By) = []/\LG = []++x1/\([] : By) = []/\([] : By) = []/\([] : By) = []/\OU = x2/\True))))))))))) : Prop) := by kernel_rfl
set_option maxRecDepth 100000 in
theorem vH11 (r ps : F8) (a b c : BitVec 8) (LG OU : By) (n m : Nat) : bq Y4 Tryz.f26 0 [.agg (plA true (.rb false [a,b,c] .unk) ps),aggB 64 r] [] ⟨[],.tup [tP true 3 ps 1 r n (z8 192) 0 0 0 0 2 false false,.slice 5 0 1 m .ow (.is false)],[],[bk [a,b,c],bk LG,bk [],bk [],bk [],bk OU]⟩ = (
let y3 := eR (fun (i : Nat) => (zY r 32 32 []).getD i (0 : BitVec 8)) fun (i : Nat) => (9#8::List.replicate 31 (0#8)).getD i (0 : BitVec 8); let y1 := 0#8::0#8::2#8::19#8::3#8::1#8::0#8::0#8::121#8::0#8::43#8::0#8::3#8::2#8::3#8::4#8::0#8::10#8::0#8::4#8::0#8::2#8::0#8::29#8::0#8::13#8::0#8::4#8::0#8::2#8::254#8::1#8::0#8::51#8::0#8::38#8::0#8::36#8::0#8::29#8::0#8::32#8::zY y3 0 32 (0#8::45#8::0#8::2#8::1#8::1#8::0#8::41#8::0#8::46#8::0#8::9#8::0#8::3#8::a::b::c::0#8::0#8::0#8::0#8::0#8::33#8::32#8::List.replicate 32 (0 : BitVec 8)); let y2 := IntKind.i64.wrap ((4 : Int) + IntKind.i64.wrap (IntKind.i64.wrap ((↑(List.drop 4 (1#8::0#8::0#8::164#8::3#8::3#8::zY r 0 32 y1)).length : Int) - (2 : Int)) - Int.ofNat 33)); let x1 := 1#8::0#8::0#8::164#8::3#8::3#8::zY r 0 32 (0#8::0#8::2#8::19#8::3#8::1#8::0#8::0#8::121#8::0#8::43#8::0#8::3#8::2#8::3#8::4#8::0#8::10#8::0#8::4#8::0#8::2#8::0#8::29#8::0#8::13#8::0#8::4#8::0#8::2#8::254#8::1#8::0#8::51#8::0#8::38#8::0#8::36#8::0#8::29#8::0#8::32#8::zY y3 0 32 (0#8::45#8::0#8::2#8::1#8::1#8::0#8::41#8::0#8::46#8::0#8::9#8::0#8::3#8::a::b::c::0#8::0#8::0#8::0#8::0#8::33#8::32#8::rg 32 (biF (rg 32 ps) (rg 32 (zL (List.take 0 (List.replicate (IntKind.i64.wrap (Int.ofNat 0 + (↑(List.take y2.toNat (1#8::0#8::0#8::164#8::3#8::3#8::zY r 0 32 y1)).length : Int))).toNat (0 : BitVec 8))++[]++List.take y2.toNat (1#8::0#8::0#8::164#8::3#8::3#8::zY r 0 32 y1))))))); let x2 := 1#8::0#8::0#8::164#8::3#8::3#8::zY r 0 32 y1; let x3 := [22#8,3#8,3#8,BitVec.ofInt 8 ((↑x1.length : Int).fdiv (Int.ofNat 256)),BitVec.ofInt 8 (↑x1.length : Int)]++x1; let x4 := IntKind.i64.wrap (Int.ofNat 0 + (↑(List.take (IntKind.i64.wrap ((4 : Int) + IntKind.i64.wrap (IntKind.i64.wrap ((↑(List.drop 4 x2).length : Int) - (2 : Int)) - Int.ofNat 33))).toNat x2).length : Int)); cj [1,3,1099511627776,1,0,1099511627776,1,0,1099511627776,1,0,1099511627776,1,0,1099511627776,2,32,64,2,32,32,2,32,64,2,32,32,2,32,32,2,32,281474976710656,2,32,9223372036854775807,5,0,0,1,0,1,5,0,0,1,0,1,5,0,0,1,0,1,5,0,0,1,0,1,5,0,0,1,0,1,5,0,0,1,0,1,5,0,0,1,0,1,0,2,3,2,32,1,0,34,5,0,0,1,0,1,0,35,0,2,0,39,0,1,5,0,0,1,0,1,0,2,0,2,0,3,5,0,0,1,0,1,0,2,0,7,0,9,0,4,5,0,0,1,0,1,0,2,0,15,0,17,0,4,5,0,0,1,0,1,0,2,0,36,0,23,0,25,0,38,0,1,0,65,0,67,0,2,5,0,0,1,0,1,0,3,0,5,5,0,0,1,0,1,0,32,0,9,0,11,0,33,0,71,0,73,0,46,0,41,0,121,0,164,0,1,0,0,0,168,2,4,168,5,0,133,2,133,168,5,0,0,1,0,2,5,0,1,1,1,2] (((0 : Int) < x4/\x4 < (1099511627776 : Int))/\cj [5,0,0,1,0,2,2,0,133,0,0,3,0,0,1,5,0,1,1,1,2,0,0,3,0,133,1,0,133,1,133,4611686018427387904,1,0,1,5,0,0,1,0,1,5,0,0,1,0,1,5,0,0,1,0,1,5,0,0,1,0,1,5,0,0,1,0,1,5,0,0,1,0,1,5,0,0,1,0,1,0,2,3,2,32,1,0,34,5,0,0,1,0,1,0,35,0,2,0,39,0,1,5,0,0,1,0,1,0,2,0,2,0,3,5,0,0,1,0,1,0,2,0,7,0,9,0,4,5,0,0,1,0,1,0,2,0,15,0,17,0,4,5,0,0,1,0,1,0,2,0,36,0,23,0,25,0,38,0,1,0,65,0,67,0,2,5,0,0,1,0,1,0,3,0,5,5,0,0,1,0,1,0,9,0,11,0,33,0,71,0,73,0,46,0,41,0,121,0,164,0,1,0,168,0,0,3,0,168,1,0,168,5,0,0,1,0,1,1,0,1,0,5,3,5,168,1,0,173,3,0,173,1] (7#8 = 7#8/\zG (fun (i : Nat) => 0#8 = 0#8) 0 31 (true = true/\cj [0,0,0,0,0,0,0,3] (zG (fun (i : Nat) => ps i = ps i) 0 32 (cj [4,1] (zG (fun (i : Nat) => r i = r i) 0 64 (cj [0,0,0,0,0,0] (n = 0 + x1.length/\zG (fun (i : Nat) => (0 : BitVec 8) = 0#8) 0 192 (cj [4,0,4,0,4,0,4,0,4,2] (false = false/\false = false/\cj [0,0,0,0,0,0,0,0,0,0,0,0,0,0,0,0,0,0,0,0,0,0,0,0] (Int.negSucc 0 = Int.negSucc 0/\false = (true && decide (x3.length = 0))/\cj [0,0,0,0,0,0] (m = x3.length/\[a,b,c] = [a,b,c]/\LG = []++x1/\([] : By) = []/\([] : By) = []/\([] : By) = []/\OU = x3/\True)))))))))))) : Prop) := by kernel_rfl
set_option maxRecDepth 100000
theorem bH10 (s : BitVec 8) : Must (xQ Tryz.prog Y4 gl0 [] [] 3000 Tryz.f26 0 (aHe true [] s) [] (vL Tryz.prog Tryz.f26 0 (rHe true [] s))) := by
 constructor
 refine kx ?_ (vH10 (zX s) (tV []) (dB [] false true [] s) (tW true [] s) (dB [] false true [] s).length (tW true [] s).length).symm
 intro x1 x2
 refine ck (by kernel_rfl) ?_
 refine a0 ?_
 refine al ?_
 refine a0 ?_
 refine ck (by kernel_rfl) ?_
 refine al ?_
 refine ck (by kernel_rfl) ?_
 refine al ?_
 refine ck (by kernel_rfl) ?_
 refine ⟨by kernel_rfl,?_⟩
 refine zS (fun i _ _ => by kernel_rfl) ?_
 refine ck (by kernel_rfl) ?_
 refine a0 ?_
 refine a0 ?_
 refine ck (by kernel_rfl) ?_
 refine a0 ?_
 refine a0 ?_
 refine ck (by kernel_rfl) ?_
 refine ⟨by kernel_rfl,?_⟩
 refine a0 ?_
 refine ⟨by kernel_rfl,?_⟩
 iterate 3 refine a0 ?_
 refine ⟨by kernel_rfl,?_⟩
 trivial
theorem bH11 {tk : By} (ht : tk = xN \/ tk = xJ) (s : BitVec 8) : Must (xQ Tryz.prog Y4 gl0 [] [] 3000 Tryz.f26 0 (aHe true tk s) [] (vL Tryz.prog Tryz.f26 0 (rHe true tk s))) := by
 constructor
 rcases ht with rfl | rfl
 refine kx ?_ (vH11 (zX s) (tV xN) 110#8 101#8 119#8 (dB [] false true xN s) (tW true xN s) (dB [] false true xN s).length (tW true xN s).length).symm
 rotate_left
 refine kx ?_ (vH11 (zX s) (tV xJ) 111#8 108#8 100#8 (dB [] false true xJ s) (tW true xJ s) (dB [] false true xJ s).length (tW true xJ s).length).symm
 all_goals
  intro y3 y1 y2 x1 x2 x3 x4
  refine ck (by kernel_rfl) ?_
  refine And.intro (⟨dN (by kernel_rfl),dN (by kernel_rfl)⟩) ?_
  refine ck (by kernel_rfl) ?_
  refine a0 ?_
  refine al ?_
  refine a0 ?_
  refine ck (by kernel_rfl) ?_
  refine al ?_
  refine ck (by kernel_rfl) ?_
  refine al ?_
  refine ck (by kernel_rfl) ?_
  refine ⟨by kernel_rfl,?_⟩
  refine zS (fun i _ _ => by kernel_rfl) ?_
  refine ck (by kernel_rfl) ?_
  refine a0 ?_
  refine a0 ?_
  refine ck (by kernel_rfl) ?_
  refine a0 ?_
  refine a0 ?_
  refine ck (by kernel_rfl) ?_
  refine ⟨by kernel_rfl,?_⟩
  refine a0 ?_
  refine ⟨by kernel_rfl,?_⟩
  iterate 3 refine a0 ?_
  refine ⟨by kernel_rfl,?_⟩
  trivial
end Go.Sym
