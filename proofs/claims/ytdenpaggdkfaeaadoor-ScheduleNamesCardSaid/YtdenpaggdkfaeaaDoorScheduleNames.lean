/- ScheduleNames: of all secrets, names and sums the traffic's secret, what verifies, and what shows a host's key are the document's. Condition: the two tables of the package start as the text of the program lays them, which the card ties. -/
import Derived.Test.YtdenpaggdkfaeaaDoorSchedA
import Derived.Test.YtdenpaggdkfaeaaDoorShaC
namespace Go.Spec
/-- What is signed: 64 blanks, the purpose, a nought; the sum behind. -/
def signL (h : Nat → BitVec 8) : By := List.replicate 64 32#8 ++ [84#8, 76#8, 83#8, 32#8, 49#8, 46#8, 51#8, 44#8, 32#8, 115#8, 101#8, 114#8, 118#8, 101#8, 114#8, 32#8, 67#8, 101#8, 114#8, 116#8, 105#8, 102#8, 105#8, 99#8, 97#8, 116#8, 101#8, 86#8, 101#8, 114#8, 105#8, 102#8, 121#8] ++ [0#8] ++ rg 32 h
end Go.Spec
namespace Go.Sym
open Go.Spec
def symNm : List Nat := [17]
def rSg (M : By) : RL := ⟨[], .slice 0 0 1 32 (.kn 32) .unk, [], [⟨.bytes M, true, 0⟩]⟩
end Go.Sym

namespace Go.Sym
open Go.Proofs Go.Spec
set_option linter.unusedVariables false
set_option maxRecDepth 100000 in
theorem va36 (s h f : Nat → BitVec 8) : bodyP Tryd.prog F69 gl0 [] [] 3000 Tryd.f36 0 [aggB 32 s, aggB 32 h] [] (retQ Tryd.prog Tryd.f36 0 ⟨[], aggB 32 f, [], []⟩) = (
1 = 1 ∧
 roomFor 0 1 1 ∧
 1 = 1 ∧
 1 = 1 ∧
 roomFor 1 1 1 ∧
 1 = 1 ∧
 2 = 2 ∧
 roomFor 2 1 1 ∧
 1 = 1 ∧
 3 = 3 ∧
 roomFor 3 1 1 ∧
 1 = 1 ∧
 4 = 4 ∧
 roomFor 4 1 1 ∧
 1 = 1 ∧
 5 = 5 ∧
 roomFor 5 1 1 ∧
 1 = 1 ∧
 6 = 6 ∧
 roomFor 6 1 1 ∧
 1 = 1 ∧
 7 = 7 ∧
 roomFor 7 1 1 ∧
 1 = 1 ∧
 8 = 8 ∧
 roomFor 8 1 1 ∧
 1 = 1 ∧
 9 = 9 ∧
 roomFor 9 1 1 ∧
 1 = 1 ∧
 10 = 10 ∧
 roomFor 10 1 1 ∧
 1 = 1 ∧
 11 = 11 ∧
 roomFor 11 1 1 ∧
 1 = 1 ∧
 12 = 12 ∧
 roomFor 12 1 1 ∧
 1 = 1 ∧
 13 = 13 ∧
 roomFor 13 1 1 ∧
 1 = 1 ∧
 14 = 14 ∧
 roomFor 14 1 1 ∧
 1 = 1 ∧
 15 = 15 ∧
 roomFor 15 1 1 ∧
 1 = 1 ∧
 16 = 16 ∧
 roomFor 16 1 1 ∧
 1 = 1 ∧
 17 = 17 ∧
 roomFor 17 1 1 ∧
 1 = 1 ∧
 18 = 18 ∧
 roomFor 18 1 1 ∧
 1 = 1 ∧
 19 = 19 ∧
 roomFor 19 1 1 ∧
 1 = 1 ∧
 20 = 20 ∧
 roomFor 20 1 1 ∧
 1 = 1 ∧
 21 = 21 ∧
 roomFor 21 1 1 ∧
 1 = 1 ∧
 22 = 22 ∧
 roomFor 22 1 1 ∧
 1 = 1 ∧
 23 = 23 ∧
 roomFor 23 1 1 ∧
 1 = 1 ∧
 24 = 24 ∧
 roomFor 24 1 1 ∧
 1 = 1 ∧
 25 = 25 ∧
 roomFor 25 1 1 ∧
 1 = 1 ∧
 26 = 26 ∧
 roomFor 26 1 1 ∧
 1 = 1 ∧
 27 = 27 ∧
 roomFor 27 1 1 ∧
 1 = 1 ∧
 28 = 28 ∧
 roomFor 28 1 1 ∧
 1 = 1 ∧
 29 = 29 ∧
 roomFor 29 1 1 ∧
 1 = 1 ∧
 30 = 30 ∧
 roomFor 30 1 1 ∧
 1 = 1 ∧
 31 = 31 ∧
 roomFor 31 1 1 ∧
 1 = 1 ∧
 32 = 32 ∧
 roomFor 32 1 1 ∧
 1 = 1 ∧
 33 = 33 ∧
 roomFor 33 1 1 ∧
 1 = 1 ∧
 34 = 34 ∧
 roomFor 34 1 1 ∧
 1 = 1 ∧
 35 = 35 ∧
 roomFor 35 1 1 ∧
 1 = 1 ∧
 36 = 36 ∧
 roomFor 36 1 1 ∧
 1 = 1 ∧
 37 = 37 ∧
 roomFor 37 1 1 ∧
 1 = 1 ∧
 38 = 38 ∧
 roomFor 38 1 1 ∧
 1 = 1 ∧
 39 = 39 ∧
 roomFor 39 1 1 ∧
 1 = 1 ∧
 40 = 40 ∧
 roomFor 40 1 1 ∧
 1 = 1 ∧
 41 = 41 ∧
 roomFor 41 1 1 ∧
 1 = 1 ∧
 42 = 42 ∧
 roomFor 42 1 1 ∧
 1 = 1 ∧
 43 = 43 ∧
 roomFor 43 1 1 ∧
 1 = 1 ∧
 44 = 44 ∧
 roomFor 44 1 1 ∧
 1 = 1 ∧
 45 = 45 ∧
 roomFor 45 1 1 ∧
 1 = 1 ∧
 46 = 46 ∧
 roomFor 46 1 1 ∧
 1 = 1 ∧
 47 = 47 ∧
 roomFor 47 1 1 ∧
 1 = 1 ∧
 48 = 48 ∧
 roomFor 48 1 1 ∧
 1 = 1 ∧
 49 = 49 ∧
 roomFor 49 1 1 ∧
 1 = 1 ∧
 50 = 50 ∧
 roomFor 50 1 1 ∧
 1 = 1 ∧
 51 = 51 ∧
 roomFor 51 1 1 ∧
 1 = 1 ∧
 52 = 52 ∧
 roomFor 52 1 1 ∧
 1 = 1 ∧
 53 = 53 ∧
 roomFor 53 1 1 ∧
 1 = 1 ∧
 54 = 54 ∧
 roomFor 54 1 1 ∧
 1 = 1 ∧
 55 = 55 ∧
 roomFor 55 1 1 ∧
 1 = 1 ∧
 56 = 56 ∧
 roomFor 56 1 1 ∧
 1 = 1 ∧
 57 = 57 ∧
 roomFor 57 1 1 ∧
 1 = 1 ∧
 58 = 58 ∧
 roomFor 58 1 1 ∧
 1 = 1 ∧
 59 = 59 ∧
 roomFor 59 1 1 ∧
 1 = 1 ∧
 60 = 60 ∧
 roomFor 60 1 1 ∧
 1 = 1 ∧
 61 = 61 ∧
 roomFor 61 1 1 ∧
 1 = 1 ∧
 62 = 62 ∧
 roomFor 62 1 1 ∧
 1 = 1 ∧
 63 = 63 ∧
 roomFor 63 1 1 ∧
 64 = 64 ∧
 roomFor 64 33 1 ∧
 1 = 1 ∧
 97 = 97 ∧
 roomFor 97 1 1 ∧
 0 = 0 ∧
 roomFor 0 (rg 32 s).length 1 ∧
 98 = 98 ∧
 roomFor 98 (rg 32 h).length 1 ∧
 0 + (rg 32 s).length = ([] ++ rg 32 s).length ∧
 98 + (rg 32 h).length = ([BitVec.ofNat 8 32] ++ [BitVec.ofNat 8 32] ++ [BitVec.ofNat 8 32] ++ [BitVec.ofNat 8 32] ++ [BitVec.ofNat 8 32] ++ [BitVec.ofNat 8 32] ++ [BitVec.ofNat 8 32] ++ [BitVec.ofNat 8 32] ++ [BitVec.ofNat 8 32] ++ [BitVec.ofNat 8 32] ++ [BitVec.ofNat 8 32] ++ [BitVec.ofNat 8 32] ++ [BitVec.ofNat 8 32] ++ [BitVec.ofNat 8 32] ++ [BitVec.ofNat 8 32] ++ [BitVec.ofNat 8 32] ++ [BitVec.ofNat 8 32] ++ [BitVec.ofNat 8 32] ++ [BitVec.ofNat 8 32] ++ [BitVec.ofNat 8 32] ++ [BitVec.ofNat 8 32] ++ [BitVec.ofNat 8 32] ++ [BitVec.ofNat 8 32] ++ [BitVec.ofNat 8 32] ++ [BitVec.ofNat 8 32] ++ [BitVec.ofNat 8 32] ++ [BitVec.ofNat 8 32] ++ [BitVec.ofNat 8 32] ++ [BitVec.ofNat 8 32] ++ [BitVec.ofNat 8 32] ++ [BitVec.ofNat 8 32] ++ [BitVec.ofNat 8 32] ++ [BitVec.ofNat 8 32] ++ [BitVec.ofNat 8 32] ++ [BitVec.ofNat 8 32] ++ [BitVec.ofNat 8 32] ++ [BitVec.ofNat 8 32] ++ [BitVec.ofNat 8 32] ++ [BitVec.ofNat 8 32] ++ [BitVec.ofNat 8 32] ++ [BitVec.ofNat 8 32] ++ [BitVec.ofNat 8 32] ++ [BitVec.ofNat 8 32] ++ [BitVec.ofNat 8 32] ++ [BitVec.ofNat 8 32] ++ [BitVec.ofNat 8 32] ++ [BitVec.ofNat 8 32] ++ [BitVec.ofNat 8 32] ++ [BitVec.ofNat 8 32] ++ [BitVec.ofNat 8 32] ++ [BitVec.ofNat 8 32] ++ [BitVec.ofNat 8 32] ++ [BitVec.ofNat 8 32] ++ [BitVec.ofNat 8 32] ++ [BitVec.ofNat 8 32] ++ [BitVec.ofNat 8 32] ++ [BitVec.ofNat 8 32] ++ [BitVec.ofNat 8 32] ++ [BitVec.ofNat 8 32] ++ [BitVec.ofNat 8 32] ++ [BitVec.ofNat 8 32] ++ [BitVec.ofNat 8 32] ++ [BitVec.ofNat 8 32] ++ [BitVec.ofNat 8 32] ++ [BitVec.ofNat 8 84, BitVec.ofNat 8 76, BitVec.ofNat 8 83, BitVec.ofNat 8 32, BitVec.ofNat 8 49, BitVec.ofNat 8 46, BitVec.ofNat 8 51, BitVec.ofNat 8 44, BitVec.ofNat 8 32, BitVec.ofNat 8 115, BitVec.ofNat 8 101, BitVec.ofNat 8 114, BitVec.ofNat 8 118, BitVec.ofNat 8 101, BitVec.ofNat 8 114, BitVec.ofNat 8 32, BitVec.ofNat 8 67, BitVec.ofNat 8 101, BitVec.ofNat 8 114, BitVec.ofNat 8 116, BitVec.ofNat 8 105, BitVec.ofNat 8 102, BitVec.ofNat 8 105, BitVec.ofNat 8 99, BitVec.ofNat 8 97, BitVec.ofNat 8 116, BitVec.ofNat 8 101, BitVec.ofNat 8 86, BitVec.ofNat 8 101, BitVec.ofNat 8 114, BitVec.ofNat 8 105, BitVec.ofNat 8 102, BitVec.ofNat 8 121] ++ [BitVec.ofNat 8 0] ++ rg 32 h).length ∧
 ([] ++ rg 32 s).length < 17592186044416 ∧
 ([BitVec.ofNat 8 32] ++ [BitVec.ofNat 8 32] ++ [BitVec.ofNat 8 32] ++ [BitVec.ofNat 8 32] ++ [BitVec.ofNat 8 32] ++ [BitVec.ofNat 8 32] ++ [BitVec.ofNat 8 32] ++ [BitVec.ofNat 8 32] ++ [BitVec.ofNat 8 32] ++ [BitVec.ofNat 8 32] ++ [BitVec.ofNat 8 32] ++ [BitVec.ofNat 8 32] ++ [BitVec.ofNat 8 32] ++ [BitVec.ofNat 8 32] ++ [BitVec.ofNat 8 32] ++ [BitVec.ofNat 8 32] ++ [BitVec.ofNat 8 32] ++ [BitVec.ofNat 8 32] ++ [BitVec.ofNat 8 32] ++ [BitVec.ofNat 8 32] ++ [BitVec.ofNat 8 32] ++ [BitVec.ofNat 8 32] ++ [BitVec.ofNat 8 32] ++ [BitVec.ofNat 8 32] ++ [BitVec.ofNat 8 32] ++ [BitVec.ofNat 8 32] ++ [BitVec.ofNat 8 32] ++ [BitVec.ofNat 8 32] ++ [BitVec.ofNat 8 32] ++ [BitVec.ofNat 8 32] ++ [BitVec.ofNat 8 32] ++ [BitVec.ofNat 8 32] ++ [BitVec.ofNat 8 32] ++ [BitVec.ofNat 8 32] ++ [BitVec.ofNat 8 32] ++ [BitVec.ofNat 8 32] ++ [BitVec.ofNat 8 32] ++ [BitVec.ofNat 8 32] ++ [BitVec.ofNat 8 32] ++ [BitVec.ofNat 8 32] ++ [BitVec.ofNat 8 32] ++ [BitVec.ofNat 8 32] ++ [BitVec.ofNat 8 32] ++ [BitVec.ofNat 8 32] ++ [BitVec.ofNat 8 32] ++ [BitVec.ofNat 8 32] ++ [BitVec.ofNat 8 32] ++ [BitVec.ofNat 8 32] ++ [BitVec.ofNat 8 32] ++ [BitVec.ofNat 8 32] ++ [BitVec.ofNat 8 32] ++ [BitVec.ofNat 8 32] ++ [BitVec.ofNat 8 32] ++ [BitVec.ofNat 8 32] ++ [BitVec.ofNat 8 32] ++ [BitVec.ofNat 8 32] ++ [BitVec.ofNat 8 32] ++ [BitVec.ofNat 8 32] ++ [BitVec.ofNat 8 32] ++ [BitVec.ofNat 8 32] ++ [BitVec.ofNat 8 32] ++ [BitVec.ofNat 8 32] ++ [BitVec.ofNat 8 32] ++ [BitVec.ofNat 8 32] ++ [BitVec.ofNat 8 84, BitVec.ofNat 8 76, BitVec.ofNat 8 83, BitVec.ofNat 8 32, BitVec.ofNat 8 49, BitVec.ofNat 8 46, BitVec.ofNat 8 51, BitVec.ofNat 8 44, BitVec.ofNat 8 32, BitVec.ofNat 8 115, BitVec.ofNat 8 101, BitVec.ofNat 8 114, BitVec.ofNat 8 118, BitVec.ofNat 8 101, BitVec.ofNat 8 114, BitVec.ofNat 8 32, BitVec.ofNat 8 67, BitVec.ofNat 8 101, BitVec.ofNat 8 114, BitVec.ofNat 8 116, BitVec.ofNat 8 105, BitVec.ofNat 8 102, BitVec.ofNat 8 105, BitVec.ofNat 8 99, BitVec.ofNat 8 97, BitVec.ofNat 8 116, BitVec.ofNat 8 101, BitVec.ofNat 8 86, BitVec.ofNat 8 101, BitVec.ofNat 8 114, BitVec.ofNat 8 105, BitVec.ofNat 8 102, BitVec.ofNat 8 121] ++ [BitVec.ofNat 8 0] ++ rg 32 h).length < 17592186044416 ∧
 allP (fun (i : Nat) => f i = macB ([] ++ rg 32 s) ([BitVec.ofNat 8 32] ++ [BitVec.ofNat 8 32] ++ [BitVec.ofNat 8 32] ++ [BitVec.ofNat 8 32] ++ [BitVec.ofNat 8 32] ++ [BitVec.ofNat 8 32] ++ [BitVec.ofNat 8 32] ++ [BitVec.ofNat 8 32] ++ [BitVec.ofNat 8 32] ++ [BitVec.ofNat 8 32] ++ [BitVec.ofNat 8 32] ++ [BitVec.ofNat 8 32] ++ [BitVec.ofNat 8 32] ++ [BitVec.ofNat 8 32] ++ [BitVec.ofNat 8 32] ++ [BitVec.ofNat 8 32] ++ [BitVec.ofNat 8 32] ++ [BitVec.ofNat 8 32] ++ [BitVec.ofNat 8 32] ++ [BitVec.ofNat 8 32] ++ [BitVec.ofNat 8 32] ++ [BitVec.ofNat 8 32] ++ [BitVec.ofNat 8 32] ++ [BitVec.ofNat 8 32] ++ [BitVec.ofNat 8 32] ++ [BitVec.ofNat 8 32] ++ [BitVec.ofNat 8 32] ++ [BitVec.ofNat 8 32] ++ [BitVec.ofNat 8 32] ++ [BitVec.ofNat 8 32] ++ [BitVec.ofNat 8 32] ++ [BitVec.ofNat 8 32] ++ [BitVec.ofNat 8 32] ++ [BitVec.ofNat 8 32] ++ [BitVec.ofNat 8 32] ++ [BitVec.ofNat 8 32] ++ [BitVec.ofNat 8 32] ++ [BitVec.ofNat 8 32] ++ [BitVec.ofNat 8 32] ++ [BitVec.ofNat 8 32] ++ [BitVec.ofNat 8 32] ++ [BitVec.ofNat 8 32] ++ [BitVec.ofNat 8 32] ++ [BitVec.ofNat 8 32] ++ [BitVec.ofNat 8 32] ++ [BitVec.ofNat 8 32] ++ [BitVec.ofNat 8 32] ++ [BitVec.ofNat 8 32] ++ [BitVec.ofNat 8 32] ++ [BitVec.ofNat 8 32] ++ [BitVec.ofNat 8 32] ++ [BitVec.ofNat 8 32] ++ [BitVec.ofNat 8 32] ++ [BitVec.ofNat 8 32] ++ [BitVec.ofNat 8 32] ++ [BitVec.ofNat 8 32] ++ [BitVec.ofNat 8 32] ++ [BitVec.ofNat 8 32] ++ [BitVec.ofNat 8 32] ++ [BitVec.ofNat 8 32] ++ [BitVec.ofNat 8 32] ++ [BitVec.ofNat 8 32] ++ [BitVec.ofNat 8 32] ++ [BitVec.ofNat 8 32] ++ [BitVec.ofNat 8 84, BitVec.ofNat 8 76, BitVec.ofNat 8 83, BitVec.ofNat 8 32, BitVec.ofNat 8 49, BitVec.ofNat 8 46, BitVec.ofNat 8 51, BitVec.ofNat 8 44, BitVec.ofNat 8 32, BitVec.ofNat 8 115, BitVec.ofNat 8 101, BitVec.ofNat 8 114, BitVec.ofNat 8 118, BitVec.ofNat 8 101, BitVec.ofNat 8 114, BitVec.ofNat 8 32, BitVec.ofNat 8 67, BitVec.ofNat 8 101, BitVec.ofNat 8 114, BitVec.ofNat 8 116, BitVec.ofNat 8 105, BitVec.ofNat 8 102, BitVec.ofNat 8 105, BitVec.ofNat 8 99, BitVec.ofNat 8 97, BitVec.ofNat 8 116, BitVec.ofNat 8 101, BitVec.ofNat 8 86, BitVec.ofNat 8 101, BitVec.ofNat 8 114, BitVec.ofNat 8 105, BitVec.ofNat 8 102, BitVec.ofNat 8 121] ++ [BitVec.ofNat 8 0] ++ rg 32 h) i) 0 32 True : Prop) := by kernel_rfl
set_option maxRecDepth 100000 in
theorem va41 (s h : Nat → BitVec 8) (M : By) : bodyP Tryd.prog F69 gl0 [] [] 3000 Tryd.f41 0 [aggB 32 s, aggB 32 h] [] (retQ Tryd.prog Tryd.f41 0 (rSg M)) = (
0 < 1 ∧
 (0 : Int) ≤ Int.ofNat 1 ∧
 1 ≤ 128 ∧
 (0 : Int) ≤ Int.ofNat 64 ∧
 64 ≤ 128 ∧
 97 ≤ 9223372036854775807 ∧
 (0 : Int) ≤ (0 : Int) ∧
 0 < 3 ∧
 (0 : Int) ≤ Int.ofNat 1 ∧
 1 < 3 ∧
 (0 : Int) ≤ Int.ofNat 2 ∧
 2 < 3 ∧
 (0 : Int) ≤ (0 : Int) ∧
 0 ≤ 0 ∧
 (0 : Int) ≤ Int.ofNat 130 ∧
 Int.ofNat 130 < (9223372036854775808 : Int) ∧
 roomFor 0 130 1 ∧
 (0 : Int) ≤ (0 : Int) ∧
 0 ≤ 130 ∧
 (0 : Int) ≤ (0 : Int) ∧
 0 < 3 ∧
 0 ≤ 130 ∧
 97 = 97 ∧
 0 = 0 ∧
 roomFor 0 97 1 ∧
 (0 : Int) ≤ Int.ofNat 1 ∧
 1 < 3 ∧
 1 = 1 ∧
 97 = 97 ∧
 roomFor 97 1 1 ∧
 (0 : Int) ≤ Int.ofNat 2 ∧
 2 < 3 ∧
 98 = 98 ∧
 roomFor 98 (rg 32 h).length 1 ∧
 98 + (rg 32 h).length = (List.take 0 (List.replicate 130 (0 : BitVec 8)) ++ (List.take 64 (List.replicate 128 (BitVec.ofNat 8 32)) ++ [BitVec.ofNat 8 84, BitVec.ofNat 8 76, BitVec.ofNat 8 83, BitVec.ofNat 8 32, BitVec.ofNat 8 49, BitVec.ofNat 8 46, BitVec.ofNat 8 51, BitVec.ofNat 8 44, BitVec.ofNat 8 32, BitVec.ofNat 8 115, BitVec.ofNat 8 101, BitVec.ofNat 8 114, BitVec.ofNat 8 118, BitVec.ofNat 8 101, BitVec.ofNat 8 114, BitVec.ofNat 8 32, BitVec.ofNat 8 67, BitVec.ofNat 8 101, BitVec.ofNat 8 114, BitVec.ofNat 8 116, BitVec.ofNat 8 105, BitVec.ofNat 8 102, BitVec.ofNat 8 105, BitVec.ofNat 8 99, BitVec.ofNat 8 97, BitVec.ofNat 8 116, BitVec.ofNat 8 101, BitVec.ofNat 8 86, BitVec.ofNat 8 101, BitVec.ofNat 8 114, BitVec.ofNat 8 105, BitVec.ofNat 8 102, BitVec.ofNat 8 121]) ++ [BitVec.ofNat 8 0] ++ rg 32 h).length ∧
 ((rg 32 s).length < 4611686018427387904 ∧
 (List.take 0 (List.replicate 130 (0 : BitVec 8)) ++ (List.take 64 (List.replicate 128 (BitVec.ofNat 8 32)) ++ [BitVec.ofNat 8 84, BitVec.ofNat 8 76, BitVec.ofNat 8 83, BitVec.ofNat 8 32, BitVec.ofNat 8 49, BitVec.ofNat 8 46, BitVec.ofNat 8 51, BitVec.ofNat 8 44, BitVec.ofNat 8 32, BitVec.ofNat 8 115, BitVec.ofNat 8 101, BitVec.ofNat 8 114, BitVec.ofNat 8 118, BitVec.ofNat 8 101, BitVec.ofNat 8 114, BitVec.ofNat 8 32, BitVec.ofNat 8 67, BitVec.ofNat 8 101, BitVec.ofNat 8 114, BitVec.ofNat 8 116, BitVec.ofNat 8 105, BitVec.ofNat 8 102, BitVec.ofNat 8 105, BitVec.ofNat 8 99, BitVec.ofNat 8 97, BitVec.ofNat 8 116, BitVec.ofNat 8 101, BitVec.ofNat 8 86, BitVec.ofNat 8 101, BitVec.ofNat 8 114, BitVec.ofNat 8 105, BitVec.ofNat 8 102, BitVec.ofNat 8 121]) ++ [BitVec.ofNat 8 0] ++ rg 32 h).length < 4611686018427387904) ∧
 32 = 32 ∧
 0 = 0 ∧
 0 = 0 ∧
 32 = 32 ∧
 M = rg 32 (macB (rg 32 s) (List.take 0 (List.replicate 130 (0 : BitVec 8)) ++ (List.take 64 (List.replicate 128 (BitVec.ofNat 8 32)) ++ [BitVec.ofNat 8 84, BitVec.ofNat 8 76, BitVec.ofNat 8 83, BitVec.ofNat 8 32, BitVec.ofNat 8 49, BitVec.ofNat 8 46, BitVec.ofNat 8 51, BitVec.ofNat 8 44, BitVec.ofNat 8 32, BitVec.ofNat 8 115, BitVec.ofNat 8 101, BitVec.ofNat 8 114, BitVec.ofNat 8 118, BitVec.ofNat 8 101, BitVec.ofNat 8 114, BitVec.ofNat 8 32, BitVec.ofNat 8 67, BitVec.ofNat 8 101, BitVec.ofNat 8 114, BitVec.ofNat 8 116, BitVec.ofNat 8 105, BitVec.ofNat 8 102, BitVec.ofNat 8 105, BitVec.ofNat 8 99, BitVec.ofNat 8 97, BitVec.ofNat 8 116, BitVec.ofNat 8 101, BitVec.ofNat 8 86, BitVec.ofNat 8 101, BitVec.ofNat 8 114, BitVec.ofNat 8 105, BitVec.ofNat 8 102, BitVec.ofNat 8 121]) ++ [BitVec.ofNat 8 0] ++ rg 32 h)) ∧
 True : Prop) := by kernel_rfl
end Go.Sym

namespace Go.Sym
open Go.Proofs Go.Spec
set_option linter.unusedVariables false
set_option maxRecDepth 100000 in
theorem b36' (s h : Nat → BitVec 8) : Must (bodyP Tryd.prog F69 gl0 [] [] 3000 Tryd.f36 0 [aggB 32 s, aggB 32 h] [] (retQ Tryd.prog Tryd.f36 0 ⟨[], aggB 32 (macB (rg 32 s) (signL h)), [], []⟩)) := by
  constructor
  rw [va36]
  repeat refine And.intro (by first | exact rfl | (unfold roomFor; exact of_decide_eq_true (by kernel_rfl)) | exact of_decide_eq_true (by kernel_rfl)) ?_
  refine allP_of _ _ (fun j _ _ => ?_) trivial
  kernel_rfl
set_option maxRecDepth 100000 in
theorem b41' (s h : Nat → BitVec 8) : Must (bodyP Tryd.prog F69 gl0 [] [] 3000 Tryd.f41 0 [aggB 32 s, aggB 32 h] [] (retQ Tryd.prog Tryd.f41 0 (rSg (rg 32 (macB (rg 32 s) (signL h)))))) := by
  constructor
  rw [va41]
  repeat refine And.intro (by first | exact rfl | exact Int.natCast_nonneg _ | (unfold roomFor; exact of_decide_eq_true (by kernel_rfl)) | exact of_decide_eq_true (by kernel_rfl) | exact ⟨of_decide_eq_true (by kernel_rfl), of_decide_eq_true (by kernel_rfl)⟩ | kernel_rfl) ?_
  exact trivial
noncomputable def g36' (xs : List AV) (bs : List ABlk) : TL := match xs, bs with
  | [.agg ks, .agg hs], [] => asB 32 ks fun s => asB 32 hs fun h => .ok ⟨[], aggB 32 (macB (rg 32 s) (signL h)), [], []⟩
  | _, _ => .no
noncomputable def sp36' : Spec := ⟨[.kp, .kp], fun _ _ => [], fun _ _ => [], g36'⟩
noncomputable def g41' (xs : List AV) (bs : List ABlk) : TL := match xs, bs with
  | [.agg ks, .agg hs], [] => asB 32 ks fun s => asB 32 hs fun h => .ok (rSg (rg 32 (macB (rg 32 s) (signL h))))
  | _, _ => .no
noncomputable def sp41' : Spec := ⟨[.kp, .kp], fun _ _ => [], fun _ _ => [], g41'⟩
theorem c36' : COK Tryd.prog gl0 36 (mkF sp36') := by
  refine ctrE (fn := Tryd.f36) [] 3000 (by kernel_rfl) (by kernel_rfl) okF69 (by kernel_rfl) (fun args w => by kernel_rfl) fun xs bs r hs ho => ?_
  simp only [sp36', g36'] at hs
  split at hs
  · obtain ⟨s, e, hs⟩ := asB_sel hs
    obtain ⟨h, e2, hs⟩ := asB_sel hs
    simp only [TL.sel, Option.some.injEq] at hs
    subst hs
    rw [e, e2]
    exact ⟨_, b36' s h⟩
  · simp [TL.sel] at hs
theorem c41' : COK Tryd.prog gl0 41 (mkF sp41') := by
  refine ctrE (fn := Tryd.f41) [] 3000 (by kernel_rfl) (by kernel_rfl) okF69 (by kernel_rfl) (fun args w => by kernel_rfl) fun xs bs r hs ho => ?_
  simp only [sp41', g41'] at hs
  split at hs
  · obtain ⟨s, e, hs⟩ := asB_sel hs
    obtain ⟨h, e2, hs⟩ := asB_sel hs
    simp only [TL.sel, Option.some.injEq] at hs
    subst hs
    rw [e, e2]
    exact ⟨_, b41' s h⟩
  · simp [TL.sel] at hs
noncomputable def F4 : Ctx := F69.add 36 (mkF sp36')
noncomputable def F5 : Ctx := F4.add 41 (mkF sp41')
theorem okF5 : COKs Tryd.prog gl0 F5 := (okF69.add c36').add c41'
end Go.Sym

namespace Go.Sym
open Go.Proofs Go.Spec
set_option linter.unusedVariables false
set_option maxRecDepth 100000 in
theorem va9 (s h : Nat → BitVec 8) (n : Int) : bodyP Tryd.prog (F5.withSym symNm) gl0 [] [] 3000 Tryd.f9 0 [aggB 32 s, aggB 32 h, .int .i64 n] [] (retQ Tryd.prog Tryd.f9 0 ⟨[], .bool true, [], []⟩) = (
(0 : Int) ≤ IntKind.i64.wrap (↑(BitVec.ofInt 64 n % BitVec.ofNat 64 5).toNat : Int) ∧
 (IntKind.i64.wrap (↑(BitVec.ofInt 64 n % BitVec.ofNat 64 5).toNat : Int)).toNat < 5 ∧
 @Bool.rec (fun _ => Prop) (@Bool.rec (fun _ => Prop) (@Bool.rec (fun _ => Prop) (@Bool.rec (fun _ => Prop) (@Bool.rec (fun _ => Prop) False (0 = 0 ∧
 roomFor 0 (rg 32 h).length 1 ∧
 0 + (rg 32 h).length = ([] ++ rg 32 h).length ∧
 @Bool.rec (fun _ => Prop) (Bool.true = Bool.false ∧
 True) (((rg 32 (labB (rg 32 s) [BitVec.ofNat 8 102, BitVec.ofNat 8 105, BitVec.ofNat 8 110, BitVec.ofNat 8 105, BitVec.ofNat 8 115, BitVec.ofNat 8 104, BitVec.ofNat 8 101, BitVec.ofNat 8 100] [])).length < 4611686018427387904 ∧
 (rg 32 h).length < 4611686018427387904) ∧
 0 = 0 ∧
 roomFor 0 (rg 32 (labB (rg 32 s) [BitVec.ofNat 8 102, BitVec.ofNat 8 105, BitVec.ofNat 8 110, BitVec.ofNat 8 105, BitVec.ofNat 8 115, BitVec.ofNat 8 104, BitVec.ofNat 8 101, BitVec.ofNat 8 100] [])).length 1 ∧
 0 = 0 ∧
 roomFor 0 (rg 32 h).length 1 ∧
 0 + (rg 32 (labB (rg 32 s) [BitVec.ofNat 8 102, BitVec.ofNat 8 105, BitVec.ofNat 8 110, BitVec.ofNat 8 105, BitVec.ofNat 8 115, BitVec.ofNat 8 104, BitVec.ofNat 8 101, BitVec.ofNat 8 100] [])).length = ([] ++ rg 32 (labB (rg 32 s) [BitVec.ofNat 8 102, BitVec.ofNat 8 105, BitVec.ofNat 8 110, BitVec.ofNat 8 105, BitVec.ofNat 8 115, BitVec.ofNat 8 104, BitVec.ofNat 8 101, BitVec.ofNat 8 100] [])).length ∧
 0 + (rg 32 h).length = ([] ++ rg 32 h).length ∧
 ([] ++ rg 32 (labB (rg 32 s) [BitVec.ofNat 8 102, BitVec.ofNat 8 105, BitVec.ofNat 8 110, BitVec.ofNat 8 105, BitVec.ofNat 8 115, BitVec.ofNat 8 104, BitVec.ofNat 8 101, BitVec.ofNat 8 100] [])).length < 17592186044416 ∧
 ([] ++ rg 32 h).length < 17592186044416 ∧
 @Bool.rec (fun _ => Prop) (Bool.true = Bool.false ∧
 True) (32 ≤ (rg 32 (macB (rg 32 fun (i : Nat) => (rg 32 s).getD i (0 : BitVec 8)) (signL fun (i : Nat) => (rg 32 h).getD i (0 : BitVec 8)))).length ∧
 Bool.true = decide (List.take 32 (rg 32 (macB (rg 32 fun (i : Nat) => (rg 32 s).getD i (0 : BitVec 8)) (signL fun (i : Nat) => (rg 32 h).getD i (0 : BitVec 8)))) = rg 32 (macB (rg 32 fun (i : Nat) => (rg 32 s).getD i (0 : BitVec 8)) (signL fun (i : Nat) => (rg 32 h).getD i (0 : BitVec 8)))) ∧
 True) (andP (fun (i : Nat) => decide (macB (rg 32 (labB (rg 32 s) [BitVec.ofNat 8 102, BitVec.ofNat 8 105, BitVec.ofNat 8 110, BitVec.ofNat 8 105, BitVec.ofNat 8 115, BitVec.ofNat 8 104, BitVec.ofNat 8 101, BitVec.ofNat 8 100] [])) (rg 32 h) i = macB ([] ++ rg 32 (labB (rg 32 s) [BitVec.ofNat 8 102, BitVec.ofNat 8 105, BitVec.ofNat 8 110, BitVec.ofNat 8 105, BitVec.ofNat 8 115, BitVec.ofNat 8 104, BitVec.ofNat 8 101, BitVec.ofNat 8 100] [])) ([] ++ rg 32 h) i)) 0 32 Bool.true)) (andP (fun (i : Nat) => decide (labB (rg 32 s) [BitVec.ofNat 8 120] (rg 32 h) i = labB (rg 32 s) [BitVec.ofNat 8 120] ([] ++ rg 32 h) i)) 0 32 Bool.true)) (decide ((IntKind.i64.wrap (↑(BitVec.ofInt 64 n % BitVec.ofNat 64 5).toNat : Int)).toNat = 4))) (0 = 0 ∧
 roomFor 0 (rg 32 h).length 1 ∧
 0 + (rg 32 h).length = ([] ++ rg 32 h).length ∧
 @Bool.rec (fun _ => Prop) (Bool.true = Bool.false ∧
 True) (((rg 32 (labB (rg 32 s) [BitVec.ofNat 8 102, BitVec.ofNat 8 105, BitVec.ofNat 8 110, BitVec.ofNat 8 105, BitVec.ofNat 8 115, BitVec.ofNat 8 104, BitVec.ofNat 8 101, BitVec.ofNat 8 100] [])).length < 4611686018427387904 ∧
 (rg 32 h).length < 4611686018427387904) ∧
 0 = 0 ∧
 roomFor 0 (rg 32 (labB (rg 32 s) [BitVec.ofNat 8 102, BitVec.ofNat 8 105, BitVec.ofNat 8 110, BitVec.ofNat 8 105, BitVec.ofNat 8 115, BitVec.ofNat 8 104, BitVec.ofNat 8 101, BitVec.ofNat 8 100] [])).length 1 ∧
 0 = 0 ∧
 roomFor 0 (rg 32 h).length 1 ∧
 0 + (rg 32 (labB (rg 32 s) [BitVec.ofNat 8 102, BitVec.ofNat 8 105, BitVec.ofNat 8 110, BitVec.ofNat 8 105, BitVec.ofNat 8 115, BitVec.ofNat 8 104, BitVec.ofNat 8 101, BitVec.ofNat 8 100] [])).length = ([] ++ rg 32 (labB (rg 32 s) [BitVec.ofNat 8 102, BitVec.ofNat 8 105, BitVec.ofNat 8 110, BitVec.ofNat 8 105, BitVec.ofNat 8 115, BitVec.ofNat 8 104, BitVec.ofNat 8 101, BitVec.ofNat 8 100] [])).length ∧
 0 + (rg 32 h).length = ([] ++ rg 32 h).length ∧
 ([] ++ rg 32 (labB (rg 32 s) [BitVec.ofNat 8 102, BitVec.ofNat 8 105, BitVec.ofNat 8 110, BitVec.ofNat 8 105, BitVec.ofNat 8 115, BitVec.ofNat 8 104, BitVec.ofNat 8 101, BitVec.ofNat 8 100] [])).length < 17592186044416 ∧
 ([] ++ rg 32 h).length < 17592186044416 ∧
 @Bool.rec (fun _ => Prop) (Bool.true = Bool.false ∧
 True) (32 ≤ (rg 32 (macB (rg 32 fun (i : Nat) => (rg 32 s).getD i (0 : BitVec 8)) (signL fun (i : Nat) => (rg 32 h).getD i (0 : BitVec 8)))).length ∧
 Bool.true = decide (List.take 32 (rg 32 (macB (rg 32 fun (i : Nat) => (rg 32 s).getD i (0 : BitVec 8)) (signL fun (i : Nat) => (rg 32 h).getD i (0 : BitVec 8)))) = rg 32 (macB (rg 32 fun (i : Nat) => (rg 32 s).getD i (0 : BitVec 8)) (signL fun (i : Nat) => (rg 32 h).getD i (0 : BitVec 8)))) ∧
 True) (andP (fun (i : Nat) => decide (macB (rg 32 (labB (rg 32 s) [BitVec.ofNat 8 102, BitVec.ofNat 8 105, BitVec.ofNat 8 110, BitVec.ofNat 8 105, BitVec.ofNat 8 115, BitVec.ofNat 8 104, BitVec.ofNat 8 101, BitVec.ofNat 8 100] [])) (rg 32 h) i = macB ([] ++ rg 32 (labB (rg 32 s) [BitVec.ofNat 8 102, BitVec.ofNat 8 105, BitVec.ofNat 8 110, BitVec.ofNat 8 105, BitVec.ofNat 8 115, BitVec.ofNat 8 104, BitVec.ofNat 8 101, BitVec.ofNat 8 100] [])) ([] ++ rg 32 h) i)) 0 32 Bool.true)) (andP (fun (i : Nat) => decide (labB (rg 32 s) [BitVec.ofNat 8 115, BitVec.ofNat 8 32, BitVec.ofNat 8 97, BitVec.ofNat 8 112, BitVec.ofNat 8 32, BitVec.ofNat 8 116, BitVec.ofNat 8 114, BitVec.ofNat 8 97, BitVec.ofNat 8 102, BitVec.ofNat 8 102, BitVec.ofNat 8 105, BitVec.ofNat 8 99] (rg 32 h) i = labB (rg 32 s) [BitVec.ofNat 8 115, BitVec.ofNat 8 32, BitVec.ofNat 8 97, BitVec.ofNat 8 112, BitVec.ofNat 8 32, BitVec.ofNat 8 116, BitVec.ofNat 8 114, BitVec.ofNat 8 97, BitVec.ofNat 8 102, BitVec.ofNat 8 102, BitVec.ofNat 8 105, BitVec.ofNat 8 99] ([] ++ rg 32 h) i)) 0 32 Bool.true)) (decide ((IntKind.i64.wrap (↑(BitVec.ofInt 64 n % BitVec.ofNat 64 5).toNat : Int)).toNat = 3))) (0 = 0 ∧
 roomFor 0 (rg 32 h).length 1 ∧
 0 + (rg 32 h).length = ([] ++ rg 32 h).length ∧
 @Bool.rec (fun _ => Prop) (Bool.true = Bool.false ∧
 True) (((rg 32 (labB (rg 32 s) [BitVec.ofNat 8 102, BitVec.ofNat 8 105, BitVec.ofNat 8 110, BitVec.ofNat 8 105, BitVec.ofNat 8 115, BitVec.ofNat 8 104, BitVec.ofNat 8 101, BitVec.ofNat 8 100] [])).length < 4611686018427387904 ∧
 (rg 32 h).length < 4611686018427387904) ∧
 0 = 0 ∧
 roomFor 0 (rg 32 (labB (rg 32 s) [BitVec.ofNat 8 102, BitVec.ofNat 8 105, BitVec.ofNat 8 110, BitVec.ofNat 8 105, BitVec.ofNat 8 115, BitVec.ofNat 8 104, BitVec.ofNat 8 101, BitVec.ofNat 8 100] [])).length 1 ∧
 0 = 0 ∧
 roomFor 0 (rg 32 h).length 1 ∧
 0 + (rg 32 (labB (rg 32 s) [BitVec.ofNat 8 102, BitVec.ofNat 8 105, BitVec.ofNat 8 110, BitVec.ofNat 8 105, BitVec.ofNat 8 115, BitVec.ofNat 8 104, BitVec.ofNat 8 101, BitVec.ofNat 8 100] [])).length = ([] ++ rg 32 (labB (rg 32 s) [BitVec.ofNat 8 102, BitVec.ofNat 8 105, BitVec.ofNat 8 110, BitVec.ofNat 8 105, BitVec.ofNat 8 115, BitVec.ofNat 8 104, BitVec.ofNat 8 101, BitVec.ofNat 8 100] [])).length ∧
 0 + (rg 32 h).length = ([] ++ rg 32 h).length ∧
 ([] ++ rg 32 (labB (rg 32 s) [BitVec.ofNat 8 102, BitVec.ofNat 8 105, BitVec.ofNat 8 110, BitVec.ofNat 8 105, BitVec.ofNat 8 115, BitVec.ofNat 8 104, BitVec.ofNat 8 101, BitVec.ofNat 8 100] [])).length < 17592186044416 ∧
 ([] ++ rg 32 h).length < 17592186044416 ∧
 @Bool.rec (fun _ => Prop) (Bool.true = Bool.false ∧
 True) (32 ≤ (rg 32 (macB (rg 32 fun (i : Nat) => (rg 32 s).getD i (0 : BitVec 8)) (signL fun (i : Nat) => (rg 32 h).getD i (0 : BitVec 8)))).length ∧
 Bool.true = decide (List.take 32 (rg 32 (macB (rg 32 fun (i : Nat) => (rg 32 s).getD i (0 : BitVec 8)) (signL fun (i : Nat) => (rg 32 h).getD i (0 : BitVec 8)))) = rg 32 (macB (rg 32 fun (i : Nat) => (rg 32 s).getD i (0 : BitVec 8)) (signL fun (i : Nat) => (rg 32 h).getD i (0 : BitVec 8)))) ∧
 True) (andP (fun (i : Nat) => decide (macB (rg 32 (labB (rg 32 s) [BitVec.ofNat 8 102, BitVec.ofNat 8 105, BitVec.ofNat 8 110, BitVec.ofNat 8 105, BitVec.ofNat 8 115, BitVec.ofNat 8 104, BitVec.ofNat 8 101, BitVec.ofNat 8 100] [])) (rg 32 h) i = macB ([] ++ rg 32 (labB (rg 32 s) [BitVec.ofNat 8 102, BitVec.ofNat 8 105, BitVec.ofNat 8 110, BitVec.ofNat 8 105, BitVec.ofNat 8 115, BitVec.ofNat 8 104, BitVec.ofNat 8 101, BitVec.ofNat 8 100] [])) ([] ++ rg 32 h) i)) 0 32 Bool.true)) (andP (fun (i : Nat) => decide (labB (rg 32 s) [BitVec.ofNat 8 99, BitVec.ofNat 8 32, BitVec.ofNat 8 97, BitVec.ofNat 8 112, BitVec.ofNat 8 32, BitVec.ofNat 8 116, BitVec.ofNat 8 114, BitVec.ofNat 8 97, BitVec.ofNat 8 102, BitVec.ofNat 8 102, BitVec.ofNat 8 105, BitVec.ofNat 8 99] (rg 32 h) i = labB (rg 32 s) [BitVec.ofNat 8 99, BitVec.ofNat 8 32, BitVec.ofNat 8 97, BitVec.ofNat 8 112, BitVec.ofNat 8 32, BitVec.ofNat 8 116, BitVec.ofNat 8 114, BitVec.ofNat 8 97, BitVec.ofNat 8 102, BitVec.ofNat 8 102, BitVec.ofNat 8 105, BitVec.ofNat 8 99] ([] ++ rg 32 h) i)) 0 32 Bool.true)) (decide ((IntKind.i64.wrap (↑(BitVec.ofInt 64 n % BitVec.ofNat 64 5).toNat : Int)).toNat = 2))) (0 = 0 ∧
 roomFor 0 (rg 32 h).length 1 ∧
 0 + (rg 32 h).length = ([] ++ rg 32 h).length ∧
 @Bool.rec (fun _ => Prop) (Bool.true = Bool.false ∧
 True) (((rg 32 (labB (rg 32 s) [BitVec.ofNat 8 102, BitVec.ofNat 8 105, BitVec.ofNat 8 110, BitVec.ofNat 8 105, BitVec.ofNat 8 115, BitVec.ofNat 8 104, BitVec.ofNat 8 101, BitVec.ofNat 8 100] [])).length < 4611686018427387904 ∧
 (rg 32 h).length < 4611686018427387904) ∧
 0 = 0 ∧
 roomFor 0 (rg 32 (labB (rg 32 s) [BitVec.ofNat 8 102, BitVec.ofNat 8 105, BitVec.ofNat 8 110, BitVec.ofNat 8 105, BitVec.ofNat 8 115, BitVec.ofNat 8 104, BitVec.ofNat 8 101, BitVec.ofNat 8 100] [])).length 1 ∧
 0 = 0 ∧
 roomFor 0 (rg 32 h).length 1 ∧
 0 + (rg 32 (labB (rg 32 s) [BitVec.ofNat 8 102, BitVec.ofNat 8 105, BitVec.ofNat 8 110, BitVec.ofNat 8 105, BitVec.ofNat 8 115, BitVec.ofNat 8 104, BitVec.ofNat 8 101, BitVec.ofNat 8 100] [])).length = ([] ++ rg 32 (labB (rg 32 s) [BitVec.ofNat 8 102, BitVec.ofNat 8 105, BitVec.ofNat 8 110, BitVec.ofNat 8 105, BitVec.ofNat 8 115, BitVec.ofNat 8 104, BitVec.ofNat 8 101, BitVec.ofNat 8 100] [])).length ∧
 0 + (rg 32 h).length = ([] ++ rg 32 h).length ∧
 ([] ++ rg 32 (labB (rg 32 s) [BitVec.ofNat 8 102, BitVec.ofNat 8 105, BitVec.ofNat 8 110, BitVec.ofNat 8 105, BitVec.ofNat 8 115, BitVec.ofNat 8 104, BitVec.ofNat 8 101, BitVec.ofNat 8 100] [])).length < 17592186044416 ∧
 ([] ++ rg 32 h).length < 17592186044416 ∧
 @Bool.rec (fun _ => Prop) (Bool.true = Bool.false ∧
 True) (32 ≤ (rg 32 (macB (rg 32 fun (i : Nat) => (rg 32 s).getD i (0 : BitVec 8)) (signL fun (i : Nat) => (rg 32 h).getD i (0 : BitVec 8)))).length ∧
 Bool.true = decide (List.take 32 (rg 32 (macB (rg 32 fun (i : Nat) => (rg 32 s).getD i (0 : BitVec 8)) (signL fun (i : Nat) => (rg 32 h).getD i (0 : BitVec 8)))) = rg 32 (macB (rg 32 fun (i : Nat) => (rg 32 s).getD i (0 : BitVec 8)) (signL fun (i : Nat) => (rg 32 h).getD i (0 : BitVec 8)))) ∧
 True) (andP (fun (i : Nat) => decide (macB (rg 32 (labB (rg 32 s) [BitVec.ofNat 8 102, BitVec.ofNat 8 105, BitVec.ofNat 8 110, BitVec.ofNat 8 105, BitVec.ofNat 8 115, BitVec.ofNat 8 104, BitVec.ofNat 8 101, BitVec.ofNat 8 100] [])) (rg 32 h) i = macB ([] ++ rg 32 (labB (rg 32 s) [BitVec.ofNat 8 102, BitVec.ofNat 8 105, BitVec.ofNat 8 110, BitVec.ofNat 8 105, BitVec.ofNat 8 115, BitVec.ofNat 8 104, BitVec.ofNat 8 101, BitVec.ofNat 8 100] [])) ([] ++ rg 32 h) i)) 0 32 Bool.true)) (andP (fun (i : Nat) => decide (labB (rg 32 s) [BitVec.ofNat 8 115, BitVec.ofNat 8 32, BitVec.ofNat 8 104, BitVec.ofNat 8 115, BitVec.ofNat 8 32, BitVec.ofNat 8 116, BitVec.ofNat 8 114, BitVec.ofNat 8 97, BitVec.ofNat 8 102, BitVec.ofNat 8 102, BitVec.ofNat 8 105, BitVec.ofNat 8 99] (rg 32 h) i = labB (rg 32 s) [BitVec.ofNat 8 115, BitVec.ofNat 8 32, BitVec.ofNat 8 104, BitVec.ofNat 8 115, BitVec.ofNat 8 32, BitVec.ofNat 8 116, BitVec.ofNat 8 114, BitVec.ofNat 8 97, BitVec.ofNat 8 102, BitVec.ofNat 8 102, BitVec.ofNat 8 105, BitVec.ofNat 8 99] ([] ++ rg 32 h) i)) 0 32 Bool.true)) (decide ((IntKind.i64.wrap (↑(BitVec.ofInt 64 n % BitVec.ofNat 64 5).toNat : Int)).toNat = 1))) (0 = 0 ∧
 roomFor 0 (rg 32 h).length 1 ∧
 0 + (rg 32 h).length = ([] ++ rg 32 h).length ∧
 @Bool.rec (fun _ => Prop) (Bool.true = Bool.false ∧
 True) (((rg 32 (labB (rg 32 s) [BitVec.ofNat 8 102, BitVec.ofNat 8 105, BitVec.ofNat 8 110, BitVec.ofNat 8 105, BitVec.ofNat 8 115, BitVec.ofNat 8 104, BitVec.ofNat 8 101, BitVec.ofNat 8 100] [])).length < 4611686018427387904 ∧
 (rg 32 h).length < 4611686018427387904) ∧
 0 = 0 ∧
 roomFor 0 (rg 32 (labB (rg 32 s) [BitVec.ofNat 8 102, BitVec.ofNat 8 105, BitVec.ofNat 8 110, BitVec.ofNat 8 105, BitVec.ofNat 8 115, BitVec.ofNat 8 104, BitVec.ofNat 8 101, BitVec.ofNat 8 100] [])).length 1 ∧
 0 = 0 ∧
 roomFor 0 (rg 32 h).length 1 ∧
 0 + (rg 32 (labB (rg 32 s) [BitVec.ofNat 8 102, BitVec.ofNat 8 105, BitVec.ofNat 8 110, BitVec.ofNat 8 105, BitVec.ofNat 8 115, BitVec.ofNat 8 104, BitVec.ofNat 8 101, BitVec.ofNat 8 100] [])).length = ([] ++ rg 32 (labB (rg 32 s) [BitVec.ofNat 8 102, BitVec.ofNat 8 105, BitVec.ofNat 8 110, BitVec.ofNat 8 105, BitVec.ofNat 8 115, BitVec.ofNat 8 104, BitVec.ofNat 8 101, BitVec.ofNat 8 100] [])).length ∧
 0 + (rg 32 h).length = ([] ++ rg 32 h).length ∧
 ([] ++ rg 32 (labB (rg 32 s) [BitVec.ofNat 8 102, BitVec.ofNat 8 105, BitVec.ofNat 8 110, BitVec.ofNat 8 105, BitVec.ofNat 8 115, BitVec.ofNat 8 104, BitVec.ofNat 8 101, BitVec.ofNat 8 100] [])).length < 17592186044416 ∧
 ([] ++ rg 32 h).length < 17592186044416 ∧
 @Bool.rec (fun _ => Prop) (Bool.true = Bool.false ∧
 True) (32 ≤ (rg 32 (macB (rg 32 fun (i : Nat) => (rg 32 s).getD i (0 : BitVec 8)) (signL fun (i : Nat) => (rg 32 h).getD i (0 : BitVec 8)))).length ∧
 Bool.true = decide (List.take 32 (rg 32 (macB (rg 32 fun (i : Nat) => (rg 32 s).getD i (0 : BitVec 8)) (signL fun (i : Nat) => (rg 32 h).getD i (0 : BitVec 8)))) = rg 32 (macB (rg 32 fun (i : Nat) => (rg 32 s).getD i (0 : BitVec 8)) (signL fun (i : Nat) => (rg 32 h).getD i (0 : BitVec 8)))) ∧
 True) (andP (fun (i : Nat) => decide (macB (rg 32 (labB (rg 32 s) [BitVec.ofNat 8 102, BitVec.ofNat 8 105, BitVec.ofNat 8 110, BitVec.ofNat 8 105, BitVec.ofNat 8 115, BitVec.ofNat 8 104, BitVec.ofNat 8 101, BitVec.ofNat 8 100] [])) (rg 32 h) i = macB ([] ++ rg 32 (labB (rg 32 s) [BitVec.ofNat 8 102, BitVec.ofNat 8 105, BitVec.ofNat 8 110, BitVec.ofNat 8 105, BitVec.ofNat 8 115, BitVec.ofNat 8 104, BitVec.ofNat 8 101, BitVec.ofNat 8 100] [])) ([] ++ rg 32 h) i)) 0 32 Bool.true)) (andP (fun (i : Nat) => decide (labB (rg 32 s) [BitVec.ofNat 8 99, BitVec.ofNat 8 32, BitVec.ofNat 8 104, BitVec.ofNat 8 115, BitVec.ofNat 8 32, BitVec.ofNat 8 116, BitVec.ofNat 8 114, BitVec.ofNat 8 97, BitVec.ofNat 8 102, BitVec.ofNat 8 102, BitVec.ofNat 8 105, BitVec.ofNat 8 99] (rg 32 h) i = labB (rg 32 s) [BitVec.ofNat 8 99, BitVec.ofNat 8 32, BitVec.ofNat 8 104, BitVec.ofNat 8 115, BitVec.ofNat 8 32, BitVec.ofNat 8 116, BitVec.ofNat 8 114, BitVec.ofNat 8 97, BitVec.ofNat 8 102, BitVec.ofNat 8 102, BitVec.ofNat 8 105, BitVec.ofNat 8 99] ([] ++ rg 32 h) i)) 0 32 Bool.true)) (decide ((IntKind.i64.wrap (↑(BitVec.ofInt 64 n % BitVec.ofNat 64 5).toNat : Int)).toNat = 0)) : Prop) := by kernel_rfl
end Go.Sym

namespace Go.Spec
theorem rg_take {α : Type} (n : Nat) (F : Nat → α) : (rg n F).take n = rg n F := List.take_of_length_le (by rw [rg_length]; omega)
end Go.Spec
namespace Go.Sym
open Go.Proofs Go.Spec
set_option linter.unusedVariables false
set_option linter.unusedSimpArgs false
set_option maxRecDepth 100000 in
theorem b9' (s h : Nat → BitVec 8) (n : Int) : Must (bodyP Tryd.prog (F5.withSym symNm) gl0 [] [] 3000 Tryd.f9 0 [aggB 32 s, aggB 32 h, .int .i64 n] [] (retQ Tryd.prog Tryd.f9 0 ⟨[], .bool true, [], []⟩)) := by
  constructor
  rw [va9]
  have hq : (BitVec.ofInt 64 n % BitVec.ofNat 64 5).toNat < 5 := by
    rw [BitVec.toNat_umod]
    exact Nat.mod_lt _ (by decide)
  generalize (BitVec.ofInt 64 n % BitVec.ofNat 64 5).toNat = q at *
  have w1 : IntKind.i64.wrap (q : Int) = (q : Int) := wrap_nat q rfl (by omega)
  rw [w1]
  simp only [List.nil_append, decide_true, andP_tt, Bool.and_self, rg_length, rg_take, and_true, true_and, roomFor, Nat.zero_add, Int.toNat_natCast]
  refine ⟨by omega, hq, ?_⟩
  refine brec (fun h0 => by and_intros <;> omega) (fun h0 => ?_)
  refine brec (fun h1 => by and_intros <;> omega) (fun h1 => ?_)
  refine brec (fun h2 => by and_intros <;> omega) (fun h2 => ?_)
  refine brec (fun h3 => by and_intros <;> omega) (fun h3 => ?_)
  refine brec (fun h4 => by and_intros <;> omega) (fun h4 => ?_)
  simp only [decide_eq_false_iff_not] at h0 h1 h2 h3 h4
  omega
end Go.Sym

/- ScheduleNames: of all secrets, names and sums the traffic's secret, what verifies, and what shows a host's key are the document's. Condition: the two tables of the package start as the text of the program lays them, which the card ties. -/
namespace Go.Sym
open Go.Proofs Go.Spec
theorem w9 (W : World) (hG : GW gl0 W) (v0 : Value) (s : Nat → BitVec 8) (h0 : VRel (κW W) (aggB 32 s) v0) (v1 : Value) (t : Nat → BitVec 8) (h1 : VRel (κW W) (aggB 32 t) v1) (n2 : Int) :
    Calls Tryd.prog 9 #[v0, v1, .int .i64 n2] W fun e w' => e = .returned (.bool true) ∧ RowKit.Below W.heap.size W w' := by
  have hv : VRels (κW W) [aggB 32 s, aggB 32 t, .int .i64 n2] [v0, v1, .int .i64 n2] := by
    simp only [VRels]
    exact ⟨_, _, rfl, h0, _, _, rfl, h1, _, _, rfl, rfl, rfl⟩
  refine law_walk (gl := gl0) (Γ := F5.withSym symNm) (fn := Tryd.f9) (av := [aggB 32 s, aggB 32 t, .int .i64 n2]) (ls := []) [] 3000 (by kernel_rfl) (by kernel_rfl) (okF5.withSym symNm) (by kernel_rfl) hG (by kernel_rfl) hv ?_
  exact b9' s t n2
end Go.Sym
namespace Go.Proofs.YtdenpaggdkfaeaaDoor.scheduleNames
open Go.ChangeShapes Go.WideShapes Go.ChangeAt Go.WideMaps Go.WideElems Go.RowKit
set_option linter.unusedVariables false
set_option maxRecDepth 100000 in
theorem lifted (os : Os) (started : os.Started) (H : Type) (enc : TypeId × Value → H) :
    ReturnsInHanded {} Tryd.checked os 9 .any (fun w args => (Rows.scheduleNamesSpec.pre enc Tryd.prog Tryd.f9 [] false w args ∧ laidMetH Tryd.prog laid2 w) ∧ sizedMet enc Tryd.prog Tryd.f9 (OpenSpec.ofChange Rows.scheduleNamesSpec) false w args)
      (Rows.scheduleNamesSpec.post enc Tryd.prog Tryd.f9 false true false false) := by
  refine returnsInHanded_of_change_and (C := Tryd.checked) (X := fun w _ => laidMetH Tryd.prog laid2 w) (fun _ _ _ hh h => h.of_heap hh) own started (by kernel_rfl) Tryd.func9
    (ChangeSpec.witness_shaped (enc := enc) (C := Tryd.checked) (os := os) (X := fun w _ => laidMetH Tryd.prog laid2 w) false (World.doorLaid Tryd.prog 400 os) #[.agg (Array.replicate 32 (.int .u8 0)), .agg (Array.replicate 32 (.int .u8 0)), .int .i64 0] 8 rfl (World.shaped_of_RefB (by kernel_rfl) (by kernel_rfl)) (by kernel_rfl) (by kernel_rfl) (by kernel_rfl) (door_met os _)) ?_
  intro W base args ds gs before hval0 hW _ _ hL _
  have hval : ∀ (j : Nat) t v, Tryd.f9.params[j]? = some t → args[j]? = some v → Value.okWide Tryd.prog W .any base t v := hval0
  have hW' := hW
  obtain ⟨p, q, hA0, hV, rfl, hfz, hnd⟩ := hW
  have hA : DataW.TrodAll enc Tryd.prog W 0 (fun _ => true) true Tryd.f9.params.toList args.toList ds p := hA0
  rw [Tryd.params9] at hA hval
  obtain ⟨v0, vs0, d0, ds0, p0, q0, hargs, rfl, rfl, h0, r0⟩ := trodAll_cons hA
  obtain ⟨v1, vs1, d1, ds1, p1, q1, rfl, rfl, rfl, h1, r1⟩ := trodAll_cons r0
  obtain ⟨v2, vs2, d2, ds2, p2, q2, rfl, rfl, rfl, h2, r2⟩ := trodAll_cons r1
  obtain ⟨rfl, rfl, rfl⟩ := trodAll_nil r2
  obtain rfl : args = #[v0, v1, v2] := by cases args; simp_all
  obtain ⟨rfl, rfl⟩ := trodVars_none hV
  obtain ⟨a2, rfl, rfl, rfl, w2⟩ := open_int Tryd.underlying3 (hval 2 3 v2 rfl rfl) h2
  clear hA0 hval0
  have hlt0 : ∀ x ∈ p0, x.block < W.heap.size := fun x hx => hW'.lt x (by simp [hx])
  obtain ⟨fuel0, hf0⟩ := h0
  obtain ⟨avs0, hs0, hd0, hr0⟩ := Go.Sym.rd_flat 9 22 (List.replicate 32 (.i .u8)) _ _ _ (by kernel_rfl) hf0
  obtain ⟨s, rfl⟩ := Go.Sym.sh_by hs0
  have hu0 := Go.Sym.agg_of_cells hr0 (by simp)
  have hlt1 : ∀ x ∈ p1, x.block < W.heap.size := fun x hx => hW'.lt x (by simp [hx])
  obtain ⟨fuel1, hf1⟩ := h1
  obtain ⟨avs1, hs1, hd1, hr1⟩ := Go.Sym.rd_flat 9 22 (List.replicate 32 (.i .u8)) _ _ _ (by kernel_rfl) hf1
  obtain ⟨t, rfl⟩ := Go.Sym.sh_by hs1
  have hu1 := Go.Sym.agg_of_cells hr1 (by simp)
  refine (Go.Sym.w9 W (gw_laid hL) v0 s hu0 v1 t hu1 a2).mono fun e W' ⟨he, bel⟩ => ?_
  subst he
  exact ⟨_, rfl, _, _, _, [], _, [], hW', trodAll_mk1 (shut_bool Tryd.underlying4 _), (trodAll_cons_mk (Below.trod laidO (by kernel_rfl) (of_decide_eq_true (by kernel_rfl)) ⟨fuel0, hf0⟩ bel hlt0) (trodAll_cons_mk (Below.trod laidO (by kernel_rfl) (of_decide_eq_true (by kernel_rfl)) ⟨fuel1, hf1⟩ bel hlt1) (trodAll_cons_mk (shut_int Tryd.underlying3 w2) trodAll_mk0))), rfl, bel.frame _, fun h => by cases h⟩

theorem over : Rows.scheduleNamesRow.holds Tryd.pinned (OpenSpec.ofChange Rows.scheduleNamesSpec) :=
  OpenClaim.holds_of_wide 9 Tryd.f9 rfl rfl rfl rfl rfl rfl rfl ⟨rfl, rfl, rfl, rfl, rfl⟩ rfl rfl rfl rfl rfl (by kernel_rfl) Tryd.func9 (by kernel_rfl)
    (of_decide_eq_true (by kernel_rfl)) (by unfold Func.isWrapper; first | (rw [if_pos (by decide +kernel)]; kernel_rfl) | (rw [if_neg (by decide +kernel)]; exact ⟨rfl, rfl⟩))
    (fun os started H enc _ => lifted os started H enc)

theorem proved : Rows.ScheduleNamesCardSaid :=
  Claim7.holds_tied_plain_at .later [] [.data, .data] true (true, "87e7fe467a3e985133d1d9c81030e66719aefcc50b4a85793b11cbd7f8f88aa4") false
    over (fun _ h => by cases h) (by kernel_rfl) (fun _ h => by cases h) scheduleNames_row_tie rfl ⟨rfl, rfl⟩ (by kernel_rfl) rfl
    (fun f fn hf hfn => by
      obtain rfl : f = 9 := Option.some.inj ((show Tryd.prog.funcNamed "relay/relaylaw15.ScheduleNames" = some 9 by kernel_rfl).symm.trans hf) |>.symm
      obtain rfl : fn = Tryd.f9 := (Option.some.inj (Tryd.func9.symm.trans hfn)).symm
      exact ⟨by kernel_rfl, fun j t ht => by
        rw [Tryd.params9] at ht
        have hm : t ∈ [22, 22, 3] := by simpa using Array.mem_of_getElem? ht
        have hall : ([22, 22, 3].all fun u => !Tryd.prog.wantsStandIn u) = true := by kernel_rfl
        exact (show Tryd.prog.wantsStandIn t = false by simpa using List.all_eq_true.1 hall t hm)⟩)
    (by kernel_rfl)
#print axioms proved
end Go.Proofs.YtdenpaggdkfaeaaDoor.scheduleNames
