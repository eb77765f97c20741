/- A server and its peer, three rounds on. -/
import Derived.Test.YtknplceohfeamaaGreatDoorSteps
import Derived.Test.YtknplceohfeamaaGreatDoorTwo
set_option linter.unusedVariables false
set_option linter.unusedSimpArgs false
namespace Go.Sym
open Go.Proofs Go.Spec
set_option maxHeartbeats 0
set_option maxRecDepth 100000 in
theorem vC10 (s : BitVec 8) (kn : Bool) : bodyP Tryz.prog (X1 eqL true [] s) gl0 [] [] 3000 Tryz.f9 0 [.agg [.bool true,.bool false,.bool kn,.u8 s],.int .i64 3] [] (retQ Tryz.prog Tryz.f9 0 ⟨[],.tup [prA (svG (lgA true [] s) false s (usO []).length) (peF true (lgA true [] s) [] false s),.bool true],[],[bk (l4N (lgA true [] s) false s),bk (usO []),bk [],bk (l4N (lgA true [] s) false s),bk [],bk [],bk []]⟩) = (
let x1 := fun (i : Nat) => laN (lgA true [] s) false s i = laN (lgA true [] s) false s i; aHe true [] s = aHe true [] s∧List.length (g1R true [] s) = List.length (g1R true [] s)∧aF0 true [] s = aF0 true [] s∧0 = 0∧List.length (grN [] false true [] s) = List.length (grN [] false true [] s)∧0 = 0∧0 = 0∧0 = 0∧215 = List.length (ouN (lgA true [] s) false s)∧aP1 true [] s = aP1 true [] s∧List.length (l3N (lgA true [] s) false s) = List.length (l3N (lgA true [] s) false s)∧0 = 0∧58 = List.length (fiR (bpN (lgA true [] s) false s))∧aF2 true [] s = aF2 true [] s∧0 = 0∧List.length (l4N (lgA true [] s) false s) = List.length (l4N (lgA true [] s) false s)∧0 = 0∧0 = 0∧0 = 0∧aP2 true [] s = aP2 true [] s∧(3 : Int) = (3 : Int)∧0 = 0∧0 = 0∧0 = 0∧List.length (l4N (lgA true [] s) false s) = List.length (l4N (lgA true [] s) false s)∧allP (fun (i : Nat) => suN (lgA true [] s) false s i = suN (lgA true [] s) false s i) 0 32 (allP (fun (i : Nat) => eaN false i = eaN false i) 0 32 (allP (fun (i : Nat) => haN false s i = haN false s i) 0 32 (allP (fun (i : Nat) => maN false s i = maN false s i) 0 32 (allP x1 0 32 (allP (fun (i : Nat) => soN (lgA true [] s) false s i = soN (lgA true [] s) false s i) 0 32 (allP x1 0 32 ((0 : Int) = (0 : Int)∧(0 : Int) = (0 : Int)∧(2 : Int) = (2 : Int)∧(2 : Int) = (2 : Int)∧true = true∧0 = 0∧0 = 0∧0 = 0∧0 = 0∧Int.negSucc 0 = Int.negSucc 0∧7#8 = 7#8∧allP (fun (i : Nat) => 0#8 = 0#8) 0 31 (true = true∧0 = 0∧0 = 0∧0 = 0∧0 = 0∧allP (fun (i : Nat) => 0#8 = 0#8) 0 32 ((3 : Int) = (3 : Int)∧allP (fun (i : Nat) => rndF s i = rndF s i) 0 64 (0 = 0∧0 = 0∧0 = 0∧List.length (l4N (lgA true [] s) false s) = List.length (l4N (lgA true [] s) false s)∧allP (fun (i : Nat) => suN (lgA true [] s) false s i = suN (lgA true [] s) false s i) 0 32 (allP (fun (i : Nat) => eaN false i = eaN false i) 0 32 (allP (fun (i : Nat) => haN false s i = haN false s i) 0 32 (allP (fun (i : Nat) => maN false s i = maN false s i) 0 32 (allP (fun (i : Nat) => soN (lgA true [] s) false s i = soN (lgA true [] s) false s i) 0 32 (allP x1 0 32 ((0 : Int) = (0 : Int)∧(0 : Int) = (0 : Int)∧(2 : Int) = (2 : Int)∧(2 : Int) = (2 : Int)∧(0 : Int) = (0 : Int)∧false = false∧false = false∧allP (fun (i : Nat) => 0 = 0) 0 12 (Int.negSucc 0 = Int.negSucc 0∧true = true∧l4N (lgA true [] s) false s = l4N (lgA true [] s) false s∧usO [] = usO []∧([] : By) = []∧l4N (lgA true [] s) false s = l4N (lgA true [] s) false s∧([] : By) = []∧([] : By) = []∧([] : By) = []∧True))))))))))))))))) : Prop) := by kernel_rfl
set_option maxRecDepth 100000 in
theorem vC11 (s : BitVec 8) : bodyP Tryz.prog (X1 eqL true tkN s) gl0 [] [] 3000 Tryz.f9 0 [.agg [.bool true,.bool true,.bool false,.u8 s],.int .i64 3] [] (retQ Tryz.prog Tryz.f9 0 ⟨[],.tup [prA (svG (lgA true tkN s) false s (usO tkN).length) (peF true (lgA true tkN s) tkN false s),.bool true],[],[bk (l4N (lgA true tkN s) false s),bk (usO tkN),bk tkN,bk (l4N (lgA true tkN s) false s),bk [],bk [],bk []]⟩) = (
let x1 := fun (i : Nat) => laN (lgA true tkN s) false s i = laN (lgA true tkN s) false s i; 0 < 3∧0 < 3∧3 = 3∧aHe true tkN s = aHe true tkN s∧List.length (g1R true tkN s) = List.length (g1R true tkN s)∧aF0 true tkN s = aF0 true tkN s∧3 = 3∧List.length (grN [] false true tkN s) = List.length (grN [] false true tkN s)∧0 = 0∧0 = 0∧0 = 0∧215 = List.length (ouN (lgA true tkN s) false s)∧aP1 true tkN s = aP1 true tkN s∧List.length (l3N (lgA true tkN s) false s) = List.length (l3N (lgA true tkN s) false s)∧0 = 0∧58 = List.length (fiR (bpN (lgA true tkN s) false s))∧aF2 true tkN s = aF2 true tkN s∧3 = 3∧List.length (l4N (lgA true tkN s) false s) = List.length (l4N (lgA true tkN s) false s)∧0 = 0∧0 = 0∧0 = 0∧aP2 true tkN s = aP2 true tkN s∧(3 : Int) = (3 : Int)∧0 = 0∧0 = 0∧0 = 0∧List.length (l4N (lgA true tkN s) false s) = List.length (l4N (lgA true tkN s) false s)∧allP (fun (i : Nat) => suN (lgA true tkN s) false s i = suN (lgA true tkN s) false s i) 0 32 (allP (fun (i : Nat) => eaN false i = eaN false i) 0 32 (allP (fun (i : Nat) => haN false s i = haN false s i) 0 32 (allP (fun (i : Nat) => maN false s i = maN false s i) 0 32 (allP x1 0 32 (allP (fun (i : Nat) => soN (lgA true tkN s) false s i = soN (lgA true tkN s) false s i) 0 32 (allP x1 0 32 ((0 : Int) = (0 : Int)∧(0 : Int) = (0 : Int)∧(2 : Int) = (2 : Int)∧(2 : Int) = (2 : Int)∧true = true∧0 = 0∧0 = 0∧0 = 0∧0 = 0∧Int.negSucc 0 = Int.negSucc 0∧7#8 = 7#8∧allP (fun (i : Nat) => 0#8 = 0#8) 0 31 (true = true∧0 = 0∧0 = 0∧0 = 0∧3 = 3∧9#8 = 9#8∧allP (fun (i : Nat) => 0#8 = 0#8) 0 31 ((3 : Int) = (3 : Int)∧allP (fun (i : Nat) => rndF s i = rndF s i) 0 64 (0 = 0∧0 = 0∧0 = 0∧List.length (l4N (lgA true tkN s) false s) = List.length (l4N (lgA true tkN s) false s)∧allP (fun (i : Nat) => suN (lgA true tkN s) false s i = suN (lgA true tkN s) false s i) 0 32 (allP (fun (i : Nat) => eaN false i = eaN false i) 0 32 (allP (fun (i : Nat) => haN false s i = haN false s i) 0 32 (allP (fun (i : Nat) => maN false s i = maN false s i) 0 32 (allP (fun (i : Nat) => soN (lgA true tkN s) false s i = soN (lgA true tkN s) false s i) 0 32 (allP x1 0 32 ((0 : Int) = (0 : Int)∧(0 : Int) = (0 : Int)∧(2 : Int) = (2 : Int)∧(2 : Int) = (2 : Int)∧(0 : Int) = (0 : Int)∧false = false∧false = false∧allP (fun (i : Nat) => 0 = 0) 0 12 (Int.negSucc 0 = Int.negSucc 0∧true = true∧l4N (lgA true tkN s) false s = l4N (lgA true tkN s) false s∧usO tkN = usO tkN∧tkN = tkN∧l4N (lgA true tkN s) false s = l4N (lgA true tkN s) false s∧([] : By) = []∧([] : By) = []∧([] : By) = []∧True))))))))))))))))) : Prop) := by kernel_rfl
set_option maxRecDepth 100000 in
theorem vC12 (s : BitVec 8) : bodyP Tryz.prog (X1 eqL true tkO s) gl0 [] [] 3000 Tryz.f9 0 [.agg [.bool true,.bool true,.bool true,.u8 s],.int .i64 3] [] (retQ Tryz.prog Tryz.f9 0 ⟨[],.tup [prA (svG (lgA true tkO s) true s (usO tkO).length) (peF true (lgA true tkO s) tkO true s),.bool true],[],[bk (l4N (lgA true tkO s) true s),bk (usO tkO),bk tkO,bk (l4N (lgA true tkO s) true s),bk [],bk [],bk []]⟩) = (
let x1 := fun (i : Nat) => laN (lgA true tkO s) true s i = laN (lgA true tkO s) true s i; 0 < 3∧0 < 3∧0 < 3∧0 < 3∧3 = 3∧aHe true tkO s = aHe true tkO s∧List.length (g1R true tkO s) = List.length (g1R true tkO s)∧aF0 true tkO s = aF0 true tkO s∧3 = 3∧List.length (grN [] false true tkO s) = List.length (grN [] false true tkO s)∧0 = 0∧0 = 0∧0 = 0∧165 = List.length (ouN (lgA true tkO s) true s)∧aP1 true tkO s = aP1 true tkO s∧List.length (l3N (lgA true tkO s) true s) = List.length (l3N (lgA true tkO s) true s)∧3 = 3∧58 = List.length (fiR (bpN (lgA true tkO s) true s))∧aF2 true tkO s = aF2 true tkO s∧3 = 3∧List.length (l4N (lgA true tkO s) true s) = List.length (l4N (lgA true tkO s) true s)∧0 = 0∧0 = 0∧0 = 0∧aP2 true tkO s = aP2 true tkO s∧(3 : Int) = (3 : Int)∧0 = 0∧0 = 0∧0 = 0∧List.length (l4N (lgA true tkO s) true s) = List.length (l4N (lgA true tkO s) true s)∧allP (fun (i : Nat) => suN (lgA true tkO s) true s i = suN (lgA true tkO s) true s i) 0 32 (allP (fun (i : Nat) => eaN true i = eaN true i) 0 32 (allP (fun (i : Nat) => haN true s i = haN true s i) 0 32 (allP (fun (i : Nat) => maN true s i = maN true s i) 0 32 (allP x1 0 32 (allP (fun (i : Nat) => soN (lgA true tkO s) true s i = soN (lgA true tkO s) true s i) 0 32 (allP x1 0 32 ((0 : Int) = (0 : Int)∧(0 : Int) = (0 : Int)∧(2 : Int) = (2 : Int)∧(2 : Int) = (2 : Int)∧true = true∧0 = 0∧0 = 0∧0 = 0∧3 = 3∧Int.negSucc 0 = Int.negSucc 0∧7#8 = 7#8∧allP (fun (i : Nat) => 0#8 = 0#8) 0 31 (true = true∧0 = 0∧0 = 0∧0 = 0∧3 = 3∧9#8 = 9#8∧allP (fun (i : Nat) => 0#8 = 0#8) 0 31 ((3 : Int) = (3 : Int)∧allP (fun (i : Nat) => rndF s i = rndF s i) 0 64 (0 = 0∧0 = 0∧0 = 0∧List.length (l4N (lgA true tkO s) true s) = List.length (l4N (lgA true tkO s) true s)∧allP (fun (i : Nat) => suN (lgA true tkO s) true s i = suN (lgA true tkO s) true s i) 0 32 (allP (fun (i : Nat) => eaN true i = eaN true i) 0 32 (allP (fun (i : Nat) => haN true s i = haN true s i) 0 32 (allP (fun (i : Nat) => maN true s i = maN true s i) 0 32 (allP (fun (i : Nat) => soN (lgA true tkO s) true s i = soN (lgA true tkO s) true s i) 0 32 (allP x1 0 32 ((0 : Int) = (0 : Int)∧(0 : Int) = (0 : Int)∧(2 : Int) = (2 : Int)∧(2 : Int) = (2 : Int)∧(0 : Int) = (0 : Int)∧false = false∧true = true∧allP (fun (i : Nat) => 0 = 0) 0 12 (Int.negSucc 0 = Int.negSucc 0∧true = true∧l4N (lgA true tkO s) true s = l4N (lgA true tkO s) true s∧usO tkO = usO tkO∧tkO = tkO∧l4N (lgA true tkO s) true s = l4N (lgA true tkO s) true s∧([] : By) = []∧([] : By) = []∧([] : By) = []∧True))))))))))))))))) : Prop) := by kernel_rfl
set_option maxRecDepth 100000 in
theorem vC00 (s : BitVec 8) (kn : Bool) : bodyP Tryz.prog (X1 eqL false [] s) gl0 [] [] 3000 Tryz.f9 0 [.agg [.bool false,.bool false,.bool kn,.u8 s],.int .i64 3] [] (retQ Tryz.prog Tryz.f9 0 ⟨[],.tup [prA (svG (lgA false [] s) false s (usO []).length) (peF false (lgA false [] s) [] false s),.bool true],[],[bk (l4N (lgA false [] s) false s),bk (usO []),bk [],bk (l4N (lgA false [] s) false s),bk [],bk [],bk []]⟩) = (
let x1 := fun (i : Nat) => laN (lgA false [] s) false s i = laN (lgA false [] s) false s i; aHe false [] s = aHe false [] s∧List.length (g1R false [] s) = List.length (g1R false [] s)∧aF0 false [] s = aF0 false [] s∧0 = 0∧List.length (grN [] true false [] s) = List.length (grN [] true false [] s)∧0 = 0∧0 = 0∧0 = 0∧61 = 61∧aP0 [] s = aP0 [] s∧92 = List.length (lgR (h1N [] s))∧0 = 0∧List.length (g2R [] s) = List.length (g2R [] s)∧aF1 [] s = aF1 [] s∧0 = 0∧List.length (lgA false [] s) = List.length (lgA false [] s)∧0 = 0∧0 = 0∧0 = 0∧215 = List.length (ouN (lgA false [] s) false s)∧aP1 false [] s = aP1 false [] s∧List.length (l3N (lgA false [] s) false s) = List.length (l3N (lgA false [] s) false s)∧0 = 0∧58 = List.length (fiR (bpN (lgA false [] s) false s))∧aF2 false [] s = aF2 false [] s∧0 = 0∧List.length (l4N (lgA false [] s) false s) = List.length (l4N (lgA false [] s) false s)∧0 = 0∧0 = 0∧0 = 0∧aP2 false [] s = aP2 false [] s∧(3 : Int) = (3 : Int)∧0 = 0∧0 = 0∧0 = 0∧List.length (l4N (lgA false [] s) false s) = List.length (l4N (lgA false [] s) false s)∧allP (fun (i : Nat) => suN (lgA false [] s) false s i = suN (lgA false [] s) false s i) 0 32 (allP (fun (i : Nat) => eaN false i = eaN false i) 0 32 (allP (fun (i : Nat) => haN false s i = haN false s i) 0 32 (allP (fun (i : Nat) => maN false s i = maN false s i) 0 32 (allP x1 0 32 (allP (fun (i : Nat) => soN (lgA false [] s) false s i = soN (lgA false [] s) false s i) 0 32 (allP x1 0 32 ((0 : Int) = (0 : Int)∧(0 : Int) = (0 : Int)∧(2 : Int) = (2 : Int)∧(2 : Int) = (2 : Int)∧true = true∧0 = 0∧0 = 0∧0 = 0∧0 = 0∧Int.negSucc 0 = Int.negSucc 0∧7#8 = 7#8∧allP (fun (i : Nat) => 0#8 = 0#8) 0 31 (false = false∧0 = 0∧0 = 0∧0 = 0∧0 = 0∧allP (fun (i : Nat) => 0#8 = 0#8) 0 32 ((3 : Int) = (3 : Int)∧allP (fun (i : Nat) => rndF s i = rndF s i) 0 64 (0 = 0∧0 = 0∧0 = 0∧List.length (l4N (lgA false [] s) false s) = List.length (l4N (lgA false [] s) false s)∧allP (fun (i : Nat) => suN (lgA false [] s) false s i = suN (lgA false [] s) false s i) 0 32 (allP (fun (i : Nat) => eaN false i = eaN false i) 0 32 (allP (fun (i : Nat) => haN false s i = haN false s i) 0 32 (allP (fun (i : Nat) => maN false s i = maN false s i) 0 32 (allP (fun (i : Nat) => soN (lgA false [] s) false s i = soN (lgA false [] s) false s i) 0 32 (allP x1 0 32 ((0 : Int) = (0 : Int)∧(0 : Int) = (0 : Int)∧(2 : Int) = (2 : Int)∧(2 : Int) = (2 : Int)∧(0 : Int) = (0 : Int)∧true = true∧false = false∧allP (fun (i : Nat) => 0 = 0) 0 12 (Int.negSucc 0 = Int.negSucc 0∧true = true∧l4N (lgA false [] s) false s = l4N (lgA false [] s) false s∧usO [] = usO []∧([] : By) = []∧l4N (lgA false [] s) false s = l4N (lgA false [] s) false s∧([] : By) = []∧([] : By) = []∧([] : By) = []∧True))))))))))))))))) : Prop) := by kernel_rfl
set_option maxRecDepth 100000 in
theorem vC01 (s : BitVec 8) : bodyP Tryz.prog (X1 eqL false tkN s) gl0 [] [] 3000 Tryz.f9 0 [.agg [.bool false,.bool true,.bool false,.u8 s],.int .i64 3] [] (retQ Tryz.prog Tryz.f9 0 ⟨[],.tup [prA (svG (lgA false tkN s) false s (usO tkN).length) (peF false (lgA false tkN s) tkN false s),.bool true],[],[bk (l4N (lgA false tkN s) false s),bk (usO tkN),bk tkN,bk (l4N (lgA false tkN s) false s),bk [],bk [],bk []]⟩) = (
let x1 := fun (i : Nat) => laN (lgA false tkN s) false s i = laN (lgA false tkN s) false s i; 0 < 3∧0 < 3∧3 = 3∧aHe false tkN s = aHe false tkN s∧List.length (g1R false tkN s) = List.length (g1R false tkN s)∧aF0 false tkN s = aF0 false tkN s∧3 = 3∧List.length (grN [] true false tkN s) = List.length (grN [] true false tkN s)∧0 = 0∧0 = 0∧0 = 0∧61 = 61∧aP0 tkN s = aP0 tkN s∧92 = List.length (lgR (h1N tkN s))∧0 = 0∧List.length (g2R tkN s) = List.length (g2R tkN s)∧aF1 tkN s = aF1 tkN s∧3 = 3∧List.length (lgA false tkN s) = List.length (lgA false tkN s)∧0 = 0∧0 = 0∧0 = 0∧215 = List.length (ouN (lgA false tkN s) false s)∧aP1 false tkN s = aP1 false tkN s∧List.length (l3N (lgA false tkN s) false s) = List.length (l3N (lgA false tkN s) false s)∧0 = 0∧58 = List.length (fiR (bpN (lgA false tkN s) false s))∧aF2 false tkN s = aF2 false tkN s∧3 = 3∧List.length (l4N (lgA false tkN s) false s) = List.length (l4N (lgA false tkN s) false s)∧0 = 0∧0 = 0∧0 = 0∧aP2 false tkN s = aP2 false tkN s∧(3 : Int) = (3 : Int)∧0 = 0∧0 = 0∧0 = 0∧List.length (l4N (lgA false tkN s) false s) = List.length (l4N (lgA false tkN s) false s)∧allP (fun (i : Nat) => suN (lgA false tkN s) false s i = suN (lgA false tkN s) false s i) 0 32 (allP (fun (i : Nat) => eaN false i = eaN false i) 0 32 (allP (fun (i : Nat) => haN false s i = haN false s i) 0 32 (allP (fun (i : Nat) => maN false s i = maN false s i) 0 32 (allP x1 0 32 (allP (fun (i : Nat) => soN (lgA false tkN s) false s i = soN (lgA false tkN s) false s i) 0 32 (allP x1 0 32 ((0 : Int) = (0 : Int)∧(0 : Int) = (0 : Int)∧(2 : Int) = (2 : Int)∧(2 : Int) = (2 : Int)∧true = true∧0 = 0∧0 = 0∧0 = 0∧0 = 0∧Int.negSucc 0 = Int.negSucc 0∧7#8 = 7#8∧allP (fun (i : Nat) => 0#8 = 0#8) 0 31 (false = false∧0 = 0∧0 = 0∧0 = 0∧3 = 3∧9#8 = 9#8∧allP (fun (i : Nat) => 0#8 = 0#8) 0 31 ((3 : Int) = (3 : Int)∧allP (fun (i : Nat) => rndF s i = rndF s i) 0 64 (0 = 0∧0 = 0∧0 = 0∧List.length (l4N (lgA false tkN s) false s) = List.length (l4N (lgA false tkN s) false s)∧allP (fun (i : Nat) => suN (lgA false tkN s) false s i = suN (lgA false tkN s) false s i) 0 32 (allP (fun (i : Nat) => eaN false i = eaN false i) 0 32 (allP (fun (i : Nat) => haN false s i = haN false s i) 0 32 (allP (fun (i : Nat) => maN false s i = maN false s i) 0 32 (allP (fun (i : Nat) => soN (lgA false tkN s) false s i = soN (lgA false tkN s) false s i) 0 32 (allP x1 0 32 ((0 : Int) = (0 : Int)∧(0 : Int) = (0 : Int)∧(2 : Int) = (2 : Int)∧(2 : Int) = (2 : Int)∧(0 : Int) = (0 : Int)∧true = true∧false = false∧allP (fun (i : Nat) => 0 = 0) 0 12 (Int.negSucc 0 = Int.negSucc 0∧true = true∧l4N (lgA false tkN s) false s = l4N (lgA false tkN s) false s∧usO tkN = usO tkN∧tkN = tkN∧l4N (lgA false tkN s) false s = l4N (lgA false tkN s) false s∧([] : By) = []∧([] : By) = []∧([] : By) = []∧True))))))))))))))))) : Prop) := by kernel_rfl
set_option maxRecDepth 100000 in
theorem vC02 (s : BitVec 8) : bodyP Tryz.prog (X1 eqL false tkO s) gl0 [] [] 3000 Tryz.f9 0 [.agg [.bool false,.bool true,.bool true,.u8 s],.int .i64 3] [] (retQ Tryz.prog Tryz.f9 0 ⟨[],.tup [prA (svG (lgA false tkO s) true s (usO tkO).length) (peF false (lgA false tkO s) tkO true s),.bool true],[],[bk (l4N (lgA false tkO s) true s),bk (usO tkO),bk tkO,bk (l4N (lgA false tkO s) true s),bk [],bk [],bk []]⟩) = (
let x1 := fun (i : Nat) => laN (lgA false tkO s) true s i = laN (lgA false tkO s) true s i; 0 < 3∧0 < 3∧0 < 3∧0 < 3∧3 = 3∧aHe false tkO s = aHe false tkO s∧List.length (g1R false tkO s) = List.length (g1R false tkO s)∧aF0 false tkO s = aF0 false tkO s∧3 = 3∧List.length (grN [] true false tkO s) = List.length (grN [] true false tkO s)∧0 = 0∧0 = 0∧0 = 0∧61 = 61∧aP0 tkO s = aP0 tkO s∧92 = List.length (lgR (h1N tkO s))∧0 = 0∧List.length (g2R tkO s) = List.length (g2R tkO s)∧aF1 tkO s = aF1 tkO s∧3 = 3∧List.length (lgA false tkO s) = List.length (lgA false tkO s)∧0 = 0∧0 = 0∧0 = 0∧165 = List.length (ouN (lgA false tkO s) true s)∧aP1 false tkO s = aP1 false tkO s∧List.length (l3N (lgA false tkO s) true s) = List.length (l3N (lgA false tkO s) true s)∧3 = 3∧58 = List.length (fiR (bpN (lgA false tkO s) true s))∧aF2 false tkO s = aF2 false tkO s∧3 = 3∧List.length (l4N (lgA false tkO s) true s) = List.length (l4N (lgA false tkO s) true s)∧0 = 0∧0 = 0∧0 = 0∧aP2 false tkO s = aP2 false tkO s∧(3 : Int) = (3 : Int)∧0 = 0∧0 = 0∧0 = 0∧List.length (l4N (lgA false tkO s) true s) = List.length (l4N (lgA false tkO s) true s)∧allP (fun (i : Nat) => suN (lgA false tkO s) true s i = suN (lgA false tkO s) true s i) 0 32 (allP (fun (i : Nat) => eaN true i = eaN true i) 0 32 (allP (fun (i : Nat) => haN true s i = haN true s i) 0 32 (allP (fun (i : Nat) => maN true s i = maN true s i) 0 32 (allP x1 0 32 (allP (fun (i : Nat) => soN (lgA false tkO s) true s i = soN (lgA false tkO s) true s i) 0 32 (allP x1 0 32 ((0 : Int) = (0 : Int)∧(0 : Int) = (0 : Int)∧(2 : Int) = (2 : Int)∧(2 : Int) = (2 : Int)∧true = true∧0 = 0∧0 = 0∧0 = 0∧3 = 3∧Int.negSucc 0 = Int.negSucc 0∧7#8 = 7#8∧allP (fun (i : Nat) => 0#8 = 0#8) 0 31 (false = false∧0 = 0∧0 = 0∧0 = 0∧3 = 3∧9#8 = 9#8∧allP (fun (i : Nat) => 0#8 = 0#8) 0 31 ((3 : Int) = (3 : Int)∧allP (fun (i : Nat) => rndF s i = rndF s i) 0 64 (0 = 0∧0 = 0∧0 = 0∧List.length (l4N (lgA false tkO s) true s) = List.length (l4N (lgA false tkO s) true s)∧allP (fun (i : Nat) => suN (lgA false tkO s) true s i = suN (lgA false tkO s) true s i) 0 32 (allP (fun (i : Nat) => eaN true i = eaN true i) 0 32 (allP (fun (i : Nat) => haN true s i = haN true s i) 0 32 (allP (fun (i : Nat) => maN true s i = maN true s i) 0 32 (allP (fun (i : Nat) => soN (lgA false tkO s) true s i = soN (lgA false tkO s) true s i) 0 32 (allP x1 0 32 ((0 : Int) = (0 : Int)∧(0 : Int) = (0 : Int)∧(2 : Int) = (2 : Int)∧(2 : Int) = (2 : Int)∧(0 : Int) = (0 : Int)∧true = true∧true = true∧allP (fun (i : Nat) => 0 = 0) 0 12 (Int.negSucc 0 = Int.negSucc 0∧true = true∧l4N (lgA false tkO s) true s = l4N (lgA false tkO s) true s∧usO tkO = usO tkO∧tkO = tkO∧l4N (lgA false tkO s) true s = l4N (lgA false tkO s) true s∧([] : By) = []∧([] : By) = []∧([] : By) = []∧True))))))))))))))))) : Prop) := by kernel_rfl
set_option maxRecDepth 100000
theorem bC10 (s : BitVec 8) (kn : Bool) : Must (bodyP Tryz.prog (X1 eqL true [] s) gl0 [] [] 3000 Tryz.f9 0 [.agg [.bool true,.bool false,.bool kn,.u8 s],.int .i64 3] [] (retQ Tryz.prog Tryz.f9 0 (rCo true [] s))) := by
 constructor
 refine kx ?_ (vC10 s kn).symm
 intro x1
 iterate 8 refine And.intro (rfl) ?_
 refine And.intro (dN (by kernel_rfl)) ?_
 iterate 3 refine And.intro (rfl) ?_
 refine And.intro (dN (by kernel_rfl)) ?_
 iterate 12 refine And.intro (rfl) ?_
 refine allP_in (fun _ _ _ => rfl) ?_
 refine allP_in (fun _ _ _ => rfl) ?_
 refine allP_in (fun _ _ _ => rfl) ?_
 refine allP_in (fun _ _ _ => rfl) ?_
 refine allP_in (fun _ _ _ => rfl) ?_
 refine allP_in (fun _ _ _ => rfl) ?_
 refine allP_in (fun _ _ _ => rfl) ?_
 iterate 11 refine And.intro (rfl) ?_
 refine allP_in (fun _ _ _ => rfl) ?_
 iterate 5 refine And.intro (rfl) ?_
 refine allP_in (fun _ _ _ => rfl) ?_
 refine And.intro (rfl) ?_
 refine allP_in (fun _ _ _ => rfl) ?_
 iterate 4 refine And.intro (rfl) ?_
 refine allP_in (fun _ _ _ => rfl) ?_
 refine allP_in (fun _ _ _ => rfl) ?_
 refine allP_in (fun _ _ _ => rfl) ?_
 refine allP_in (fun _ _ _ => rfl) ?_
 refine allP_in (fun _ _ _ => rfl) ?_
 refine allP_in (fun _ _ _ => rfl) ?_
 iterate 7 refine And.intro (rfl) ?_
 refine allP_in (fun _ _ _ => rfl) ?_
 iterate 9 refine And.intro (rfl) ?_
 trivial
theorem bC11 (s : BitVec 8) : Must (bodyP Tryz.prog (X1 eqL true tkN s) gl0 [] [] 3000 Tryz.f9 0 [.agg [.bool true,.bool true,.bool false,.u8 s],.int .i64 3] [] (retQ Tryz.prog Tryz.f9 0 (rCo true tkN s))) := by
 constructor
 refine kx ?_ (vC11 s).symm
 intro x1
 refine And.intro (dN (by kernel_rfl)) ?_
 refine And.intro (dN (by kernel_rfl)) ?_
 iterate 9 refine And.intro (rfl) ?_
 refine And.intro (dN (by kernel_rfl)) ?_
 iterate 3 refine And.intro (rfl) ?_
 refine And.intro (dN (by kernel_rfl)) ?_
 iterate 12 refine And.intro (rfl) ?_
 refine allP_in (fun _ _ _ => rfl) ?_
 refine allP_in (fun _ _ _ => rfl) ?_
 refine allP_in (fun _ _ _ => rfl) ?_
 refine allP_in (fun _ _ _ => rfl) ?_
 refine allP_in (fun _ _ _ => rfl) ?_
 refine allP_in (fun _ _ _ => rfl) ?_
 refine allP_in (fun _ _ _ => rfl) ?_
 iterate 11 refine And.intro (rfl) ?_
 refine allP_in (fun _ _ _ => rfl) ?_
 iterate 6 refine And.intro (rfl) ?_
 refine allP_in (fun _ _ _ => rfl) ?_
 refine And.intro (rfl) ?_
 refine allP_in (fun _ _ _ => rfl) ?_
 iterate 4 refine And.intro (rfl) ?_
 refine allP_in (fun _ _ _ => rfl) ?_
 refine allP_in (fun _ _ _ => rfl) ?_
 refine allP_in (fun _ _ _ => rfl) ?_
 refine allP_in (fun _ _ _ => rfl) ?_
 refine allP_in (fun _ _ _ => rfl) ?_
 refine allP_in (fun _ _ _ => rfl) ?_
 iterate 7 refine And.intro (rfl) ?_
 refine allP_in (fun _ _ _ => rfl) ?_
 iterate 9 refine And.intro (rfl) ?_
 trivial
theorem bC12 (s : BitVec 8) : Must (bodyP Tryz.prog (X1 eqL true tkO s) gl0 [] [] 3000 Tryz.f9 0 [.agg [.bool true,.bool true,.bool true,.u8 s],.int .i64 3] [] (retQ Tryz.prog Tryz.f9 0 (rCo true tkO s))) := by
 constructor
 refine kx ?_ (vC12 s).symm
 intro x1
 iterate 4 refine And.intro (dN (by kernel_rfl)) ?_
 iterate 9 refine And.intro (rfl) ?_
 refine And.intro (dN (by kernel_rfl)) ?_
 iterate 3 refine And.intro (rfl) ?_
 refine And.intro (dN (by kernel_rfl)) ?_
 iterate 12 refine And.intro (rfl) ?_
 refine allP_in (fun _ _ _ => rfl) ?_
 refine allP_in (fun _ _ _ => rfl) ?_
 refine allP_in (fun _ _ _ => rfl) ?_
 refine allP_in (fun _ _ _ => rfl) ?_
 refine allP_in (fun _ _ _ => rfl) ?_
 refine allP_in (fun _ _ _ => rfl) ?_
 refine allP_in (fun _ _ _ => rfl) ?_
 iterate 11 refine And.intro (rfl) ?_
 refine allP_in (fun _ _ _ => rfl) ?_
 iterate 6 refine And.intro (rfl) ?_
 refine allP_in (fun _ _ _ => rfl) ?_
 refine And.intro (rfl) ?_
 refine allP_in (fun _ _ _ => rfl) ?_
 iterate 4 refine And.intro (rfl) ?_
 refine allP_in (fun _ _ _ => rfl) ?_
 refine allP_in (fun _ _ _ => rfl) ?_
 refine allP_in (fun _ _ _ => rfl) ?_
 refine allP_in (fun _ _ _ => rfl) ?_
 refine allP_in (fun _ _ _ => rfl) ?_
 refine allP_in (fun _ _ _ => rfl) ?_
 iterate 7 refine And.intro (rfl) ?_
 refine allP_in (fun _ _ _ => rfl) ?_
 iterate 9 refine And.intro (rfl) ?_
 trivial
theorem bC00 (s : BitVec 8) (kn : Bool) : Must (bodyP Tryz.prog (X1 eqL false [] s) gl0 [] [] 3000 Tryz.f9 0 [.agg [.bool false,.bool false,.bool kn,.u8 s],.int .i64 3] [] (retQ Tryz.prog Tryz.f9 0 (rCo false [] s))) := by
 constructor
 refine kx ?_ (vC00 s kn).symm
 intro x1
 iterate 10 refine And.intro (rfl) ?_
 refine And.intro (dN (by kernel_rfl)) ?_
 iterate 8 refine And.intro (rfl) ?_
 refine And.intro (dN (by kernel_rfl)) ?_
 iterate 3 refine And.intro (rfl) ?_
 refine And.intro (dN (by kernel_rfl)) ?_
 iterate 12 refine And.intro (rfl) ?_
 refine allP_in (fun _ _ _ => rfl) ?_
 refine allP_in (fun _ _ _ => rfl) ?_
 refine allP_in (fun _ _ _ => rfl) ?_
 refine allP_in (fun _ _ _ => rfl) ?_
 refine allP_in (fun _ _ _ => rfl) ?_
 refine allP_in (fun _ _ _ => rfl) ?_
 refine allP_in (fun _ _ _ => rfl) ?_
 iterate 11 refine And.intro (rfl) ?_
 refine allP_in (fun _ _ _ => rfl) ?_
 iterate 5 refine And.intro (rfl) ?_
 refine allP_in (fun _ _ _ => rfl) ?_
 refine And.intro (rfl) ?_
 refine allP_in (fun _ _ _ => rfl) ?_
 iterate 4 refine And.intro (rfl) ?_
 refine allP_in (fun _ _ _ => rfl) ?_
 refine allP_in (fun _ _ _ => rfl) ?_
 refine allP_in (fun _ _ _ => rfl) ?_
 refine allP_in (fun _ _ _ => rfl) ?_
 refine allP_in (fun _ _ _ => rfl) ?_
 refine allP_in (fun _ _ _ => rfl) ?_
 iterate 7 refine And.intro (rfl) ?_
 refine allP_in (fun _ _ _ => rfl) ?_
 iterate 9 refine And.intro (rfl) ?_
 trivial
theorem bC01 (s : BitVec 8) : Must (bodyP Tryz.prog (X1 eqL false tkN s) gl0 [] [] 3000 Tryz.f9 0 [.agg [.bool false,.bool true,.bool false,.u8 s],.int .i64 3] [] (retQ Tryz.prog Tryz.f9 0 (rCo false tkN s))) := by
 constructor
 refine kx ?_ (vC01 s).symm
 intro x1
 refine And.intro (dN (by kernel_rfl)) ?_
 refine And.intro (dN (by kernel_rfl)) ?_
 iterate 11 refine And.intro (rfl) ?_
 refine And.intro (dN (by kernel_rfl)) ?_
 iterate 8 refine And.intro (rfl) ?_
 refine And.intro (dN (by kernel_rfl)) ?_
 iterate 3 refine And.intro (rfl) ?_
 refine And.intro (dN (by kernel_rfl)) ?_
 iterate 12 refine And.intro (rfl) ?_
 refine allP_in (fun _ _ _ => rfl) ?_
 refine allP_in (fun _ _ _ => rfl) ?_
 refine allP_in (fun _ _ _ => rfl) ?_
 refine allP_in (fun _ _ _ => rfl) ?_
 refine allP_in (fun _ _ _ => rfl) ?_
 refine allP_in (fun _ _ _ => rfl) ?_
 refine allP_in (fun _ _ _ => rfl) ?_
 iterate 11 refine And.intro (rfl) ?_
 refine allP_in (fun _ _ _ => rfl) ?_
 iterate 6 refine And.intro (rfl) ?_
 refine allP_in (fun _ _ _ => rfl) ?_
 refine And.intro (rfl) ?_
 refine allP_in (fun _ _ _ => rfl) ?_
 iterate 4 refine And.intro (rfl) ?_
 refine allP_in (fun _ _ _ => rfl) ?_
 refine allP_in (fun _ _ _ => rfl) ?_
 refine allP_in (fun _ _ _ => rfl) ?_
 refine allP_in (fun _ _ _ => rfl) ?_
 refine allP_in (fun _ _ _ => rfl) ?_
 refine allP_in (fun _ _ _ => rfl) ?_
 iterate 7 refine And.intro (rfl) ?_
 refine allP_in (fun _ _ _ => rfl) ?_
 iterate 9 refine And.intro (rfl) ?_
 trivial
theorem bC02 (s : BitVec 8) : Must (bodyP Tryz.prog (X1 eqL false tkO s) gl0 [] [] 3000 Tryz.f9 0 [.agg [.bool false,.bool true,.bool true,.u8 s],.int .i64 3] [] (retQ Tryz.prog Tryz.f9 0 (rCo false tkO s))) := by
 constructor
 refine kx ?_ (vC02 s).symm
 intro x1
 iterate 4 refine And.intro (dN (by kernel_rfl)) ?_
 iterate 11 refine And.intro (rfl) ?_
 refine And.intro (dN (by kernel_rfl)) ?_
 iterate 8 refine And.intro (rfl) ?_
 refine And.intro (dN (by kernel_rfl)) ?_
 iterate 3 refine And.intro (rfl) ?_
 refine And.intro (dN (by kernel_rfl)) ?_
 iterate 12 refine And.intro (rfl) ?_
 refine allP_in (fun _ _ _ => rfl) ?_
 refine allP_in (fun _ _ _ => rfl) ?_
 refine allP_in (fun _ _ _ => rfl) ?_
 refine allP_in (fun _ _ _ => rfl) ?_
 refine allP_in (fun _ _ _ => rfl) ?_
 refine allP_in (fun _ _ _ => rfl) ?_
 refine allP_in (fun _ _ _ => rfl) ?_
 iterate 11 refine And.intro (rfl) ?_
 refine allP_in (fun _ _ _ => rfl) ?_
 iterate 6 refine And.intro (rfl) ?_
 refine allP_in (fun _ _ _ => rfl) ?_
 refine And.intro (rfl) ?_
 refine allP_in (fun _ _ _ => rfl) ?_
 iterate 4 refine And.intro (rfl) ?_
 refine allP_in (fun _ _ _ => rfl) ?_
 refine allP_in (fun _ _ _ => rfl) ?_
 refine allP_in (fun _ _ _ => rfl) ?_
 refine allP_in (fun _ _ _ => rfl) ?_
 refine allP_in (fun _ _ _ => rfl) ?_
 refine allP_in (fun _ _ _ => rfl) ?_
 iterate 7 refine And.intro (rfl) ?_
 refine allP_in (fun _ _ _ => rfl) ?_
 iterate 9 refine And.intro (rfl) ?_
 trivial
theorem cCo : COK Tryz.prog gl0 9 (mkF ⟨[.kp,.kp],fun _ _ => [],fun _ _ => [],gCo⟩) := by
 refine ctrE2 (fn := Tryz.f9) [] 3000 (by kernel_rfl) (by kernel_rfl) (by kernel_rfl) (fun args w => by kernel_rfl) fun xs bs r hs ho => ?_
 simp only [gCo] at hs
 split at hs
 ·rename_i a b c s
  cases a <;> cases b
  ·cases hs; exact ⟨_,okX1 false (.inl rfl) s,_,bC00 s c⟩
  ·cases c
   ·cases hs; exact ⟨_,okX1 false (.inr (.inl rfl)) s,_,bC01 s⟩
   ·cases hs; exact ⟨_,okX1 false (.inr (.inr rfl)) s,_,bC02 s⟩
  ·cases hs; exact ⟨_,okX1 true (.inl rfl) s,_,bC10 s c⟩
  ·cases c
   ·cases hs; exact ⟨_,okX1 true (.inr (.inl rfl)) s,_,bC11 s⟩
   ·cases hs; exact ⟨_,okX1 true (.inr (.inr rfl)) s,_,bC12 s⟩
 ·cases hs
noncomputable def X2 : Ctx := N8.add 9 (mkF ⟨[.kp,.kp],fun _ _ => [],fun _ _ => [],gCo⟩)
noncomputable def X3 : Ctx := (exeS Tryz.prog gl0 3000 [(16,Tryz.f16)] (X2.withFrz [(20,[.is true]),(29,[.is true]),(38,[.is true]),(47,[.is true])])).withFrz []
noncomputable def yesG (xs : List AV) (bs : List ABlk) : TL := match xs,bs with | [],[] => .ok ⟨[],.bool true,[],[]⟩ | _,_ => .no
noncomputable def X4 : Ctx := X3.add 15 (mkF ⟨[],fun _ _ => [],fun _ _ => [],yesG⟩)
set_option maxRecDepth 100000 in
theorem vMe  : bodyP Tryz.prog X2 gl0 [] [] 3000 Tryz.f15 0 [] [] (retQ Tryz.prog Tryz.f15 0 ⟨[],.bool true,[],[]⟩) = (
true = andP (fun (i : Nat) => decide (suN (lgA true [] (0#8)) false (0#8) i = suN (lgA true [] (0#8)) false (0#8) i)) 0 32 true∧True : Prop) := by kernel_rfl
set_option maxRecDepth 100000 in
theorem vM10 (s : BitVec 8) (kn : Bool) : bodyP Tryz.prog X4 gl0 [] [] 3000 Tryz.f5 0 [.agg [.bool true,.bool false,.bool kn,.u8 s]] [] (retQ Tryz.prog Tryz.f5 0 ⟨[],.bool true,[],[]⟩) = (
andP (fun (i : Nat) => decide (suN (lgA true [] s) false s i = suN (lgA true [] s) false s i)) 0 32 true = true∧(andP (fun (i : Nat) => decide (eaN false i = eaN false i)) 0 32 true && (andP (fun (i : Nat) => decide (haN false s i = haN false s i)) 0 32 true && (andP (fun (i : Nat) => decide (maN false s i = maN false s i)) 0 32 true && true))) = true∧andP (fun (i : Nat) => decide (laN (lgA true [] s) false s i = laN (lgA true [] s) false s i)) 0 32 true = true∧andP (fun (i : Nat) => decide (soN (lgA true [] s) false s i = soN (lgA true [] s) false s i)) 0 32 true = true∧true = true∧True : Prop) := by kernel_rfl
set_option maxRecDepth 100000 in
theorem vM11 (s : BitVec 8) : bodyP Tryz.prog X4 gl0 [] [] 3000 Tryz.f5 0 [.agg [.bool true,.bool true,.bool false,.u8 s]] [] (retQ Tryz.prog Tryz.f5 0 ⟨[],.bool true,[],[]⟩) = (
andP (fun (i : Nat) => decide (suN (lgA true tkN s) false s i = suN (lgA true tkN s) false s i)) 0 32 true = true∧(andP (fun (i : Nat) => decide (eaN false i = eaN false i)) 0 32 true && (andP (fun (i : Nat) => decide (haN false s i = haN false s i)) 0 32 true && (andP (fun (i : Nat) => decide (maN false s i = maN false s i)) 0 32 true && true))) = true∧andP (fun (i : Nat) => decide (laN (lgA true tkN s) false s i = laN (lgA true tkN s) false s i)) 0 32 true = true∧andP (fun (i : Nat) => decide (soN (lgA true tkN s) false s i = soN (lgA true tkN s) false s i)) 0 32 true = true∧true = true∧True : Prop) := by kernel_rfl
set_option maxRecDepth 100000 in
theorem vM12 (s : BitVec 8) : bodyP Tryz.prog X4 gl0 [] [] 3000 Tryz.f5 0 [.agg [.bool true,.bool true,.bool true,.u8 s]] [] (retQ Tryz.prog Tryz.f5 0 ⟨[],.bool true,[],[]⟩) = (
andP (fun (i : Nat) => decide (suN (lgA true tkO s) true s i = suN (lgA true tkO s) true s i)) 0 32 true = true∧(andP (fun (i : Nat) => decide (eaN true i = eaN true i)) 0 32 true && (andP (fun (i : Nat) => decide (haN true s i = haN true s i)) 0 32 true && (andP (fun (i : Nat) => decide (maN true s i = maN true s i)) 0 32 true && true))) = true∧andP (fun (i : Nat) => decide (laN (lgA true tkO s) true s i = laN (lgA true tkO s) true s i)) 0 32 true = true∧andP (fun (i : Nat) => decide (soN (lgA true tkO s) true s i = soN (lgA true tkO s) true s i)) 0 32 true = true∧true = true∧True : Prop) := by kernel_rfl
set_option maxRecDepth 100000 in
theorem vM00 (s : BitVec 8) (kn : Bool) : bodyP Tryz.prog X4 gl0 [] [] 3000 Tryz.f5 0 [.agg [.bool false,.bool false,.bool kn,.u8 s]] [] (retQ Tryz.prog Tryz.f5 0 ⟨[],.bool true,[],[]⟩) = (
andP (fun (i : Nat) => decide (suN (lgA false [] s) false s i = suN (lgA false [] s) false s i)) 0 32 true = true∧(andP (fun (i : Nat) => decide (eaN false i = eaN false i)) 0 32 true && (andP (fun (i : Nat) => decide (haN false s i = haN false s i)) 0 32 true && (andP (fun (i : Nat) => decide (maN false s i = maN false s i)) 0 32 true && true))) = true∧andP (fun (i : Nat) => decide (laN (lgA false [] s) false s i = laN (lgA false [] s) false s i)) 0 32 true = true∧andP (fun (i : Nat) => decide (soN (lgA false [] s) false s i = soN (lgA false [] s) false s i)) 0 32 true = true∧true = true∧True : Prop) := by kernel_rfl
set_option maxRecDepth 100000 in
theorem vM01 (s : BitVec 8) : bodyP Tryz.prog X4 gl0 [] [] 3000 Tryz.f5 0 [.agg [.bool false,.bool true,.bool false,.u8 s]] [] (retQ Tryz.prog Tryz.f5 0 ⟨[],.bool true,[],[]⟩) = (
andP (fun (i : Nat) => decide (suN (lgA false tkN s) false s i = suN (lgA false tkN s) false s i)) 0 32 true = true∧(andP (fun (i : Nat) => decide (eaN false i = eaN false i)) 0 32 true && (andP (fun (i : Nat) => decide (haN false s i = haN false s i)) 0 32 true && (andP (fun (i : Nat) => decide (maN false s i = maN false s i)) 0 32 true && true))) = true∧andP (fun (i : Nat) => decide (laN (lgA false tkN s) false s i = laN (lgA false tkN s) false s i)) 0 32 true = true∧andP (fun (i : Nat) => decide (soN (lgA false tkN s) false s i = soN (lgA false tkN s) false s i)) 0 32 true = true∧true = true∧True : Prop) := by kernel_rfl
set_option maxRecDepth 100000 in
theorem vM02 (s : BitVec 8) : bodyP Tryz.prog X4 gl0 [] [] 3000 Tryz.f5 0 [.agg [.bool false,.bool true,.bool true,.u8 s]] [] (retQ Tryz.prog Tryz.f5 0 ⟨[],.bool true,[],[]⟩) = (
andP (fun (i : Nat) => decide (suN (lgA false tkO s) true s i = suN (lgA false tkO s) true s i)) 0 32 true = true∧(andP (fun (i : Nat) => decide (eaN true i = eaN true i)) 0 32 true && (andP (fun (i : Nat) => decide (haN true s i = haN true s i)) 0 32 true && (andP (fun (i : Nat) => decide (maN true s i = maN true s i)) 0 32 true && true))) = true∧andP (fun (i : Nat) => decide (laN (lgA false tkO s) true s i = laN (lgA false tkO s) true s i)) 0 32 true = true∧andP (fun (i : Nat) => decide (soN (lgA false tkO s) true s i = soN (lgA false tkO s) true s i)) 0 32 true = true∧true = true∧True : Prop) := by kernel_rfl
end Go.Sym
