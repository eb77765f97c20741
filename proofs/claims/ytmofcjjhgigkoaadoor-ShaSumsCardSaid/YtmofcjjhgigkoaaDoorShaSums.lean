/- ShaSums: of all bytes, and of all counts of noughts behind them, the sum of the program is the one of the document, and the bytes stay as they were. Condition: the two tables of the package start as the text of the program lays them, which the card ties. -/
import Derived.Test.YtmofcjjhgigkoaaDoorShaC
namespace Go.Sym
open Go.Proofs Go.Spec
set_option linter.unusedVariables false
set_option maxRecDepth 100000 in
theorem vc3 (l : By) (c : Bool) (n : Int) : bodyP Tryd.prog R5 gl0 [] [] 3000 Tryd.f3 0 [.rb true l (.is c), .int .i64 n] [] (retQ Tryd.prog Tryd.f3 0 ⟨[], .bool true, [], []⟩) = (
(0 : Int) ≤ Min.min (↑(List.length l) : Int) (200 : Int) ∧
 (Min.min (↑(List.length l) : Int) (200 : Int)).toNat ≤ List.length l ∧
 (0 : Nat) = (0 : Nat) ∧
 roomFor (0 : Nat) (List.take (Min.min (↑(List.length l) : Int) (200 : Int)).toNat l).length (1 : Nat) ∧
 (0 : Int) ≤ IntKind.i64.wrap (↑(BitVec.ofInt (64 : Nat) n % BitVec.ofNat (64 : Nat) (130 : Nat)).toNat : Int) ∧
 IntKind.i64.wrap (↑(BitVec.ofInt (64 : Nat) n % BitVec.ofNat (64 : Nat) (130 : Nat)).toNat : Int) < (9223372036854775808 : Int) ∧
 (0 : Nat) + (List.take (Min.min (↑(List.length l) : Int) (200 : Int)).toNat l).length = ([] ++ List.take (Min.min (↑(List.length l) : Int) (200 : Int)).toNat l).length ∧
 roomFor ((0 : Nat) + (List.take (Min.min (↑(List.length l) : Int) (200 : Int)).toNat l).length) (List.replicate (IntKind.i64.wrap (↑(BitVec.ofInt (64 : Nat) n % BitVec.ofNat (64 : Nat) (130 : Nat)).toNat : Int)).toNat (0 : BitVec (8 : Nat))).length (1 : Nat) ∧
 (0 : Nat) + (List.take (Min.min (↑(List.length l) : Int) (200 : Int)).toNat l).length + (List.replicate (IntKind.i64.wrap (↑(BitVec.ofInt (64 : Nat) n % BitVec.ofNat (64 : Nat) (130 : Nat)).toNat : Int)).toNat (0 : BitVec (8 : Nat))).length = ([] ++ List.take (Min.min (↑(List.length l) : Int) (200 : Int)).toNat l ++ List.replicate (IntKind.i64.wrap (↑(BitVec.ofInt (64 : Nat) n % BitVec.ofNat (64 : Nat) (130 : Nat)).toNat : Int)).toNat (0 : BitVec (8 : Nat))).length ∧
 (0 : Nat) + (List.take (Min.min (↑(List.length l) : Int) (200 : Int)).toNat l).length + (List.replicate (IntKind.i64.wrap (↑(BitVec.ofInt (64 : Nat) n % BitVec.ofNat (64 : Nat) (130 : Nat)).toNat : Int)).toNat (0 : BitVec (8 : Nat))).length = ([] ++ List.take (Min.min (↑(List.length l) : Int) (200 : Int)).toNat l ++ List.replicate (IntKind.i64.wrap (↑(BitVec.ofInt (64 : Nat) n % BitVec.ofNat (64 : Nat) (130 : Nat)).toNat : Int)).toNat (0 : BitVec (8 : Nat))).length ∧
 ([] ++ List.take (Min.min (↑(List.length l) : Int) (200 : Int)).toNat l ++ List.replicate (IntKind.i64.wrap (↑(BitVec.ofInt (64 : Nat) n % BitVec.ofNat (64 : Nat) (130 : Nat)).toNat : Int)).toNat (0 : BitVec (8 : Nat))).length < (4611686018427387904 : Nat) ∧
 (0 : Nat) + (List.take (Min.min (↑(List.length l) : Int) (200 : Int)).toNat l).length + (List.replicate (IntKind.i64.wrap (↑(BitVec.ofInt (64 : Nat) n % BitVec.ofNat (64 : Nat) (130 : Nat)).toNat : Int)).toNat (0 : BitVec (8 : Nat))).length = ([] ++ List.take (Min.min (↑(List.length l) : Int) (200 : Int)).toNat l ++ List.replicate (IntKind.i64.wrap (↑(BitVec.ofInt (64 : Nat) n % BitVec.ofNat (64 : Nat) (130 : Nat)).toNat : Int)).toNat (0 : BitVec (8 : Nat))).length ∧
 ([] ++ List.take (Min.min (↑(List.length l) : Int) (200 : Int)).toNat l ++ List.replicate (IntKind.i64.wrap (↑(BitVec.ofInt (64 : Nat) n % BitVec.ofNat (64 : Nat) (130 : Nat)).toNat : Int)).toNat (0 : BitVec (8 : Nat))).length < (35184372088832 : Nat) ∧
 Bool.rec (Bool.true = Bool.false ∧ True) ((0 : Nat) + (List.take (Min.min (↑(List.length l) : Int) (200 : Int)).toNat l).length + (List.replicate (IntKind.i64.wrap (↑(BitVec.ofInt (64 : Nat) n % BitVec.ofNat (64 : Nat) (130 : Nat)).toNat : Int)).toNat (0 : BitVec (8 : Nat))).length = ([] ++ List.take (Min.min (↑(List.length l) : Int) (200 : Int)).toNat l ++ List.replicate (IntKind.i64.wrap (↑(BitVec.ofInt (64 : Nat) n % BitVec.ofNat (64 : Nat) (130 : Nat)).toNat : Int)).toNat (0 : BitVec (8 : Nat))).length ∧ Bool.true = Decidable.decide ([] ++ List.take (Min.min (↑(List.length l) : Int) (200 : Int)).toNat l ++ List.replicate (IntKind.i64.wrap (↑(BitVec.ofInt (64 : Nat) n % BitVec.ofNat (64 : Nat) (130 : Nat)).toNat : Int)).toNat (0 : BitVec (8 : Nat)) = [] ++ List.take (Min.min (↑(List.length l) : Int) (200 : Int)).toNat l ++ List.replicate (IntKind.i64.wrap (↑(BitVec.ofInt (64 : Nat) n % BitVec.ofNat (64 : Nat) (130 : Nat)).toNat : Int)).toNat (0 : BitVec (8 : Nat))) ∧ True)
 (Decidable.decide (shaB ([] ++ List.take (Min.min (↑(List.length l) : Int) (200 : Int)).toNat l ++ List.replicate (IntKind.i64.wrap (↑(BitVec.ofInt (64 : Nat) n % BitVec.ofNat (64 : Nat) (130 : Nat)).toNat : Int)).toNat (0 : BitVec (8 : Nat))) 0 = shaB ([] ++ List.take (Min.min (↑(List.length l) : Int) (200 : Int)).toNat l ++ List.replicate (IntKind.i64.wrap (↑(BitVec.ofInt (64 : Nat) n % BitVec.ofNat (64 : Nat) (130 : Nat)).toNat : Int)).toNat (0 : BitVec (8 : Nat))) 0) &&
 (Decidable.decide (shaB ([] ++ List.take (Min.min (↑(List.length l) : Int) (200 : Int)).toNat l ++ List.replicate (IntKind.i64.wrap (↑(BitVec.ofInt (64 : Nat) n % BitVec.ofNat (64 : Nat) (130 : Nat)).toNat : Int)).toNat (0 : BitVec (8 : Nat))) 1 = shaB ([] ++ List.take (Min.min (↑(List.length l) : Int) (200 : Int)).toNat l ++ List.replicate (IntKind.i64.wrap (↑(BitVec.ofInt (64 : Nat) n % BitVec.ofNat (64 : Nat) (130 : Nat)).toNat : Int)).toNat (0 : BitVec (8 : Nat))) 1) &&
 (Decidable.decide (shaB ([] ++ List.take (Min.min (↑(List.length l) : Int) (200 : Int)).toNat l ++ List.replicate (IntKind.i64.wrap (↑(BitVec.ofInt (64 : Nat) n % BitVec.ofNat (64 : Nat) (130 : Nat)).toNat : Int)).toNat (0 : BitVec (8 : Nat))) 2 = shaB ([] ++ List.take (Min.min (↑(List.length l) : Int) (200 : Int)).toNat l ++ List.replicate (IntKind.i64.wrap (↑(BitVec.ofInt (64 : Nat) n % BitVec.ofNat (64 : Nat) (130 : Nat)).toNat : Int)).toNat (0 : BitVec (8 : Nat))) 2) &&
 (Decidable.decide (shaB ([] ++ List.take (Min.min (↑(List.length l) : Int) (200 : Int)).toNat l ++ List.replicate (IntKind.i64.wrap (↑(BitVec.ofInt (64 : Nat) n % BitVec.ofNat (64 : Nat) (130 : Nat)).toNat : Int)).toNat (0 : BitVec (8 : Nat))) 3 = shaB ([] ++ List.take (Min.min (↑(List.length l) : Int) (200 : Int)).toNat l ++ List.replicate (IntKind.i64.wrap (↑(BitVec.ofInt (64 : Nat) n % BitVec.ofNat (64 : Nat) (130 : Nat)).toNat : Int)).toNat (0 : BitVec (8 : Nat))) 3) &&
 (Decidable.decide (shaB ([] ++ List.take (Min.min (↑(List.length l) : Int) (200 : Int)).toNat l ++ List.replicate (IntKind.i64.wrap (↑(BitVec.ofInt (64 : Nat) n % BitVec.ofNat (64 : Nat) (130 : Nat)).toNat : Int)).toNat (0 : BitVec (8 : Nat))) 4 = shaB ([] ++ List.take (Min.min (↑(List.length l) : Int) (200 : Int)).toNat l ++ List.replicate (IntKind.i64.wrap (↑(BitVec.ofInt (64 : Nat) n % BitVec.ofNat (64 : Nat) (130 : Nat)).toNat : Int)).toNat (0 : BitVec (8 : Nat))) 4) &&
 (Decidable.decide (shaB ([] ++ List.take (Min.min (↑(List.length l) : Int) (200 : Int)).toNat l ++ List.replicate (IntKind.i64.wrap (↑(BitVec.ofInt (64 : Nat) n % BitVec.ofNat (64 : Nat) (130 : Nat)).toNat : Int)).toNat (0 : BitVec (8 : Nat))) 5 = shaB ([] ++ List.take (Min.min (↑(List.length l) : Int) (200 : Int)).toNat l ++ List.replicate (IntKind.i64.wrap (↑(BitVec.ofInt (64 : Nat) n % BitVec.ofNat (64 : Nat) (130 : Nat)).toNat : Int)).toNat (0 : BitVec (8 : Nat))) 5) &&
 (Decidable.decide (shaB ([] ++ List.take (Min.min (↑(List.length l) : Int) (200 : Int)).toNat l ++ List.replicate (IntKind.i64.wrap (↑(BitVec.ofInt (64 : Nat) n % BitVec.ofNat (64 : Nat) (130 : Nat)).toNat : Int)).toNat (0 : BitVec (8 : Nat))) 6 = shaB ([] ++ List.take (Min.min (↑(List.length l) : Int) (200 : Int)).toNat l ++ List.replicate (IntKind.i64.wrap (↑(BitVec.ofInt (64 : Nat) n % BitVec.ofNat (64 : Nat) (130 : Nat)).toNat : Int)).toNat (0 : BitVec (8 : Nat))) 6) &&
 (Decidable.decide (shaB ([] ++ List.take (Min.min (↑(List.length l) : Int) (200 : Int)).toNat l ++ List.replicate (IntKind.i64.wrap (↑(BitVec.ofInt (64 : Nat) n % BitVec.ofNat (64 : Nat) (130 : Nat)).toNat : Int)).toNat (0 : BitVec (8 : Nat))) 7 = shaB ([] ++ List.take (Min.min (↑(List.length l) : Int) (200 : Int)).toNat l ++ List.replicate (IntKind.i64.wrap (↑(BitVec.ofInt (64 : Nat) n % BitVec.ofNat (64 : Nat) (130 : Nat)).toNat : Int)).toNat (0 : BitVec (8 : Nat))) 7) &&
 (Decidable.decide (shaB ([] ++ List.take (Min.min (↑(List.length l) : Int) (200 : Int)).toNat l ++ List.replicate (IntKind.i64.wrap (↑(BitVec.ofInt (64 : Nat) n % BitVec.ofNat (64 : Nat) (130 : Nat)).toNat : Int)).toNat (0 : BitVec (8 : Nat))) 8 = shaB ([] ++ List.take (Min.min (↑(List.length l) : Int) (200 : Int)).toNat l ++ List.replicate (IntKind.i64.wrap (↑(BitVec.ofInt (64 : Nat) n % BitVec.ofNat (64 : Nat) (130 : Nat)).toNat : Int)).toNat (0 : BitVec (8 : Nat))) 8) &&
 (Decidable.decide (shaB ([] ++ List.take (Min.min (↑(List.length l) : Int) (200 : Int)).toNat l ++ List.replicate (IntKind.i64.wrap (↑(BitVec.ofInt (64 : Nat) n % BitVec.ofNat (64 : Nat) (130 : Nat)).toNat : Int)).toNat (0 : BitVec (8 : Nat))) 9 = shaB ([] ++ List.take (Min.min (↑(List.length l) : Int) (200 : Int)).toNat l ++ List.replicate (IntKind.i64.wrap (↑(BitVec.ofInt (64 : Nat) n % BitVec.ofNat (64 : Nat) (130 : Nat)).toNat : Int)).toNat (0 : BitVec (8 : Nat))) 9) &&
 (Decidable.decide (shaB ([] ++ List.take (Min.min (↑(List.length l) : Int) (200 : Int)).toNat l ++ List.replicate (IntKind.i64.wrap (↑(BitVec.ofInt (64 : Nat) n % BitVec.ofNat (64 : Nat) (130 : Nat)).toNat : Int)).toNat (0 : BitVec (8 : Nat))) 10 = shaB ([] ++ List.take (Min.min (↑(List.length l) : Int) (200 : Int)).toNat l ++ List.replicate (IntKind.i64.wrap (↑(BitVec.ofInt (64 : Nat) n % BitVec.ofNat (64 : Nat) (130 : Nat)).toNat : Int)).toNat (0 : BitVec (8 : Nat))) 10) &&
 (Decidable.decide (shaB ([] ++ List.take (Min.min (↑(List.length l) : Int) (200 : Int)).toNat l ++ List.replicate (IntKind.i64.wrap (↑(BitVec.ofInt (64 : Nat) n % BitVec.ofNat (64 : Nat) (130 : Nat)).toNat : Int)).toNat (0 : BitVec (8 : Nat))) 11 = shaB ([] ++ List.take (Min.min (↑(List.length l) : Int) (200 : Int)).toNat l ++ List.replicate (IntKind.i64.wrap (↑(BitVec.ofInt (64 : Nat) n % BitVec.ofNat (64 : Nat) (130 : Nat)).toNat : Int)).toNat (0 : BitVec (8 : Nat))) 11) &&
 (Decidable.decide (shaB ([] ++ List.take (Min.min (↑(List.length l) : Int) (200 : Int)).toNat l ++ List.replicate (IntKind.i64.wrap (↑(BitVec.ofInt (64 : Nat) n % BitVec.ofNat (64 : Nat) (130 : Nat)).toNat : Int)).toNat (0 : BitVec (8 : Nat))) 12 = shaB ([] ++ List.take (Min.min (↑(List.length l) : Int) (200 : Int)).toNat l ++ List.replicate (IntKind.i64.wrap (↑(BitVec.ofInt (64 : Nat) n % BitVec.ofNat (64 : Nat) (130 : Nat)).toNat : Int)).toNat (0 : BitVec (8 : Nat))) 12) &&
 (Decidable.decide (shaB ([] ++ List.take (Min.min (↑(List.length l) : Int) (200 : Int)).toNat l ++ List.replicate (IntKind.i64.wrap (↑(BitVec.ofInt (64 : Nat) n % BitVec.ofNat (64 : Nat) (130 : Nat)).toNat : Int)).toNat (0 : BitVec (8 : Nat))) 13 = shaB ([] ++ List.take (Min.min (↑(List.length l) : Int) (200 : Int)).toNat l ++ List.replicate (IntKind.i64.wrap (↑(BitVec.ofInt (64 : Nat) n % BitVec.ofNat (64 : Nat) (130 : Nat)).toNat : Int)).toNat (0 : BitVec (8 : Nat))) 13) &&
 (Decidable.decide (shaB ([] ++ List.take (Min.min (↑(List.length l) : Int) (200 : Int)).toNat l ++ List.replicate (IntKind.i64.wrap (↑(BitVec.ofInt (64 : Nat) n % BitVec.ofNat (64 : Nat) (130 : Nat)).toNat : Int)).toNat (0 : BitVec (8 : Nat))) 14 = shaB ([] ++ List.take (Min.min (↑(List.length l) : Int) (200 : Int)).toNat l ++ List.replicate (IntKind.i64.wrap (↑(BitVec.ofInt (64 : Nat) n % BitVec.ofNat (64 : Nat) (130 : Nat)).toNat : Int)).toNat (0 : BitVec (8 : Nat))) 14) &&
 (Decidable.decide (shaB ([] ++ List.take (Min.min (↑(List.length l) : Int) (200 : Int)).toNat l ++ List.replicate (IntKind.i64.wrap (↑(BitVec.ofInt (64 : Nat) n % BitVec.ofNat (64 : Nat) (130 : Nat)).toNat : Int)).toNat (0 : BitVec (8 : Nat))) 15 = shaB ([] ++ List.take (Min.min (↑(List.length l) : Int) (200 : Int)).toNat l ++ List.replicate (IntKind.i64.wrap (↑(BitVec.ofInt (64 : Nat) n % BitVec.ofNat (64 : Nat) (130 : Nat)).toNat : Int)).toNat (0 : BitVec (8 : Nat))) 15) &&
 (Decidable.decide (shaB ([] ++ List.take (Min.min (↑(List.length l) : Int) (200 : Int)).toNat l ++ List.replicate (IntKind.i64.wrap (↑(BitVec.ofInt (64 : Nat) n % BitVec.ofNat (64 : Nat) (130 : Nat)).toNat : Int)).toNat (0 : BitVec (8 : Nat))) 16 = shaB ([] ++ List.take (Min.min (↑(List.length l) : Int) (200 : Int)).toNat l ++ List.replicate (IntKind.i64.wrap (↑(BitVec.ofInt (64 : Nat) n % BitVec.ofNat (64 : Nat) (130 : Nat)).toNat : Int)).toNat (0 : BitVec (8 : Nat))) 16) &&
 (Decidable.decide (shaB ([] ++ List.take (Min.min (↑(List.length l) : Int) (200 : Int)).toNat l ++ List.replicate (IntKind.i64.wrap (↑(BitVec.ofInt (64 : Nat) n % BitVec.ofNat (64 : Nat) (130 : Nat)).toNat : Int)).toNat (0 : BitVec (8 : Nat))) 17 = shaB ([] ++ List.take (Min.min (↑(List.length l) : Int) (200 : Int)).toNat l ++ List.replicate (IntKind.i64.wrap (↑(BitVec.ofInt (64 : Nat) n % BitVec.ofNat (64 : Nat) (130 : Nat)).toNat : Int)).toNat (0 : BitVec (8 : Nat))) 17) &&
 (Decidable.decide (shaB ([] ++ List.take (Min.min (↑(List.length l) : Int) (200 : Int)).toNat l ++ List.replicate (IntKind.i64.wrap (↑(BitVec.ofInt (64 : Nat) n % BitVec.ofNat (64 : Nat) (130 : Nat)).toNat : Int)).toNat (0 : BitVec (8 : Nat))) 18 = shaB ([] ++ List.take (Min.min (↑(List.length l) : Int) (200 : Int)).toNat l ++ List.replicate (IntKind.i64.wrap (↑(BitVec.ofInt (64 : Nat) n % BitVec.ofNat (64 : Nat) (130 : Nat)).toNat : Int)).toNat (0 : BitVec (8 : Nat))) 18) &&
 (Decidable.decide (shaB ([] ++ List.take (Min.min (↑(List.length l) : Int) (200 : Int)).toNat l ++ List.replicate (IntKind.i64.wrap (↑(BitVec.ofInt (64 : Nat) n % BitVec.ofNat (64 : Nat) (130 : Nat)).toNat : Int)).toNat (0 : BitVec (8 : Nat))) 19 = shaB ([] ++ List.take (Min.min (↑(List.length l) : Int) (200 : Int)).toNat l ++ List.replicate (IntKind.i64.wrap (↑(BitVec.ofInt (64 : Nat) n % BitVec.ofNat (64 : Nat) (130 : Nat)).toNat : Int)).toNat (0 : BitVec (8 : Nat))) 19) &&
 (Decidable.decide (shaB ([] ++ List.take (Min.min (↑(List.length l) : Int) (200 : Int)).toNat l ++ List.replicate (IntKind.i64.wrap (↑(BitVec.ofInt (64 : Nat) n % BitVec.ofNat (64 : Nat) (130 : Nat)).toNat : Int)).toNat (0 : BitVec (8 : Nat))) 20 = shaB ([] ++ List.take (Min.min (↑(List.length l) : Int) (200 : Int)).toNat l ++ List.replicate (IntKind.i64.wrap (↑(BitVec.ofInt (64 : Nat) n % BitVec.ofNat (64 : Nat) (130 : Nat)).toNat : Int)).toNat (0 : BitVec (8 : Nat))) 20) &&
 (Decidable.decide (shaB ([] ++ List.take (Min.min (↑(List.length l) : Int) (200 : Int)).toNat l ++ List.replicate (IntKind.i64.wrap (↑(BitVec.ofInt (64 : Nat) n % BitVec.ofNat (64 : Nat) (130 : Nat)).toNat : Int)).toNat (0 : BitVec (8 : Nat))) 21 = shaB ([] ++ List.take (Min.min (↑(List.length l) : Int) (200 : Int)).toNat l ++ List.replicate (IntKind.i64.wrap (↑(BitVec.ofInt (64 : Nat) n % BitVec.ofNat (64 : Nat) (130 : Nat)).toNat : Int)).toNat (0 : BitVec (8 : Nat))) 21) &&
 (Decidable.decide (shaB ([] ++ List.take (Min.min (↑(List.length l) : Int) (200 : Int)).toNat l ++ List.replicate (IntKind.i64.wrap (↑(BitVec.ofInt (64 : Nat) n % BitVec.ofNat (64 : Nat) (130 : Nat)).toNat : Int)).toNat (0 : BitVec (8 : Nat))) 22 = shaB ([] ++ List.take (Min.min (↑(List.length l) : Int) (200 : Int)).toNat l ++ List.replicate (IntKind.i64.wrap (↑(BitVec.ofInt (64 : Nat) n % BitVec.ofNat (64 : Nat) (130 : Nat)).toNat : Int)).toNat (0 : BitVec (8 : Nat))) 22) &&
 (Decidable.decide (shaB ([] ++ List.take (Min.min (↑(List.length l) : Int) (200 : Int)).toNat l ++ List.replicate (IntKind.i64.wrap (↑(BitVec.ofInt (64 : Nat) n % BitVec.ofNat (64 : Nat) (130 : Nat)).toNat : Int)).toNat (0 : BitVec (8 : Nat))) 23 = shaB ([] ++ List.take (Min.min (↑(List.length l) : Int) (200 : Int)).toNat l ++ List.replicate (IntKind.i64.wrap (↑(BitVec.ofInt (64 : Nat) n % BitVec.ofNat (64 : Nat) (130 : Nat)).toNat : Int)).toNat (0 : BitVec (8 : Nat))) 23) &&
 (Decidable.decide (shaB ([] ++ List.take (Min.min (↑(List.length l) : Int) (200 : Int)).toNat l ++ List.replicate (IntKind.i64.wrap (↑(BitVec.ofInt (64 : Nat) n % BitVec.ofNat (64 : Nat) (130 : Nat)).toNat : Int)).toNat (0 : BitVec (8 : Nat))) 24 = shaB ([] ++ List.take (Min.min (↑(List.length l) : Int) (200 : Int)).toNat l ++ List.replicate (IntKind.i64.wrap (↑(BitVec.ofInt (64 : Nat) n % BitVec.ofNat (64 : Nat) (130 : Nat)).toNat : Int)).toNat (0 : BitVec (8 : Nat))) 24) &&
 (Decidable.decide (shaB ([] ++ List.take (Min.min (↑(List.length l) : Int) (200 : Int)).toNat l ++ List.replicate (IntKind.i64.wrap (↑(BitVec.ofInt (64 : Nat) n % BitVec.ofNat (64 : Nat) (130 : Nat)).toNat : Int)).toNat (0 : BitVec (8 : Nat))) 25 = shaB ([] ++ List.take (Min.min (↑(List.length l) : Int) (200 : Int)).toNat l ++ List.replicate (IntKind.i64.wrap (↑(BitVec.ofInt (64 : Nat) n % BitVec.ofNat (64 : Nat) (130 : Nat)).toNat : Int)).toNat (0 : BitVec (8 : Nat))) 25) && (Decidable.decide (shaB ([] ++ List.take (Min.min (↑(List.length l) : Int) (200 : Int)).toNat l ++ List.replicate (IntKind.i64.wrap (↑(BitVec.ofInt (64 : Nat) n % BitVec.ofNat (64 : Nat) (130 : Nat)).toNat : Int)).toNat (0 : BitVec (8 : Nat))) 26 = shaB ([] ++ List.take (Min.min (↑(List.length l) : Int) (200 : Int)).toNat l ++ List.replicate (IntKind.i64.wrap (↑(BitVec.ofInt (64 : Nat) n % BitVec.ofNat (64 : Nat) (130 : Nat)).toNat : Int)).toNat (0 : BitVec (8 : Nat))) 26) && (Decidable.decide (shaB ([] ++ List.take (Min.min (↑(List.length l) : Int) (200 : Int)).toNat l ++ List.replicate (IntKind.i64.wrap (↑(BitVec.ofInt (64 : Nat) n % BitVec.ofNat (64 : Nat) (130 : Nat)).toNat : Int)).toNat (0 : BitVec (8 : Nat))) 27 = shaB ([] ++ List.take (Min.min (↑(List.length l) : Int) (200 : Int)).toNat l ++ List.replicate (IntKind.i64.wrap (↑(BitVec.ofInt (64 : Nat) n % BitVec.ofNat (64 : Nat) (130 : Nat)).toNat : Int)).toNat (0 : BitVec (8 : Nat))) 27) && (Decidable.decide (shaB ([] ++ List.take (Min.min (↑(List.length l) : Int) (200 : Int)).toNat l ++ List.replicate (IntKind.i64.wrap (↑(BitVec.ofInt (64 : Nat) n % BitVec.ofNat (64 : Nat) (130 : Nat)).toNat : Int)).toNat (0 : BitVec (8 : Nat))) 28 = shaB ([] ++ List.take (Min.min (↑(List.length l) : Int) (200 : Int)).toNat l ++ List.replicate (IntKind.i64.wrap (↑(BitVec.ofInt (64 : Nat) n % BitVec.ofNat (64 : Nat) (130 : Nat)).toNat : Int)).toNat (0 : BitVec (8 : Nat))) 28) && (Decidable.decide (shaB ([] ++ List.take (Min.min (↑(List.length l) : Int) (200 : Int)).toNat l ++ List.replicate (IntKind.i64.wrap (↑(BitVec.ofInt (64 : Nat) n % BitVec.ofNat (64 : Nat) (130 : Nat)).toNat : Int)).toNat (0 : BitVec (8 : Nat))) 29 = shaB ([] ++ List.take (Min.min (↑(List.length l) : Int) (200 : Int)).toNat l ++ List.replicate (IntKind.i64.wrap (↑(BitVec.ofInt (64 : Nat) n % BitVec.ofNat (64 : Nat) (130 : Nat)).toNat : Int)).toNat (0 : BitVec (8 : Nat))) 29) && (Decidable.decide (shaB ([] ++ List.take (Min.min (↑(List.length l) : Int) (200 : Int)).toNat l ++ List.replicate (IntKind.i64.wrap (↑(BitVec.ofInt (64 : Nat) n % BitVec.ofNat (64 : Nat) (130 : Nat)).toNat : Int)).toNat (0 : BitVec (8 : Nat))) 30 = shaB ([] ++ List.take (Min.min (↑(List.length l) : Int) (200 : Int)).toNat l ++ List.replicate (IntKind.i64.wrap (↑(BitVec.ofInt (64 : Nat) n % BitVec.ofNat (64 : Nat) (130 : Nat)).toNat : Int)).toNat (0 : BitVec (8 : Nat))) 30) && (Decidable.decide (shaB ([] ++ List.take (Min.min (↑(List.length l) : Int) (200 : Int)).toNat l ++ List.replicate (IntKind.i64.wrap (↑(BitVec.ofInt (64 : Nat) n % BitVec.ofNat (64 : Nat) (130 : Nat)).toNat : Int)).toNat (0 : BitVec (8 : Nat))) 31 = shaB ([] ++ List.take (Min.min (↑(List.length l) : Int) (200 : Int)).toNat l ++ List.replicate (IntKind.i64.wrap (↑(BitVec.ofInt (64 : Nat) n % BitVec.ofNat (64 : Nat) (130 : Nat)).toNat : Int)).toNat (0 : BitVec (8 : Nat))) 31) && Bool.true))))))))))))))))))))))))))))))))) := by kernel_rfl
end Go.Sym

namespace Go.Sym
open Go.Proofs Go.Spec
set_option linter.unusedVariables false
theorem b3 (l : By) (c : Bool) (n : Int) : Must (bodyP Tryd.prog R5 gl0 [] [] 3000 Tryd.f3 0 [.rb true l (.is c), .int .i64 n] [] (retQ Tryd.prog Tryd.f3 0 ⟨[], .bool true, [], []⟩)) := by
  constructor
  rw [vc3]
  have hM : (List.take (min (l.length : Int) 200).toNat l).length ≤ 200 := by simp; omega
  have hR : (BitVec.ofInt 64 n % 130#64).toNat < 130 := by
    rw [BitVec.toNat_umod]
    exact Nat.mod_lt _ (by decide)
  generalize (BitVec.ofInt 64 n % 130#64).toNat = R at *
  have h0 : 0 ≤ min (l.length : Int) 200 ∧ (min (l.length : Int) 200).toNat ≤ l.length := by omega
  generalize List.take (min (l.length : Int) 200).toNat l = M at *
  have w : IntKind.i64.wrap (R : Int) = (R : Int) := wrap_i64 (by omega) (by omega)
  rw [w]
  simp only [decide_true, Bool.and_self, Int.toNat_natCast, List.length_append, List.length_replicate, List.length_nil, true_and, and_true]
  refine ⟨h0.1, h0.2, ?_⟩
  unfold roomFor
  simp
  omega
end Go.Sym

/- ShaSums: of all bytes and counts of noughts behind them the program's sum is the document's, and the bytes stay. Condition: the package's two tables start as the program's text lays them (the card ties them). -/
namespace Go.Sym
open Go.Proofs
theorem w3 (W : World) (hG : GW gl0 W) (v0 : Value) (n : Int) (l : Go.Spec.By) (c : Bool) (h0 : VRel (κW W) (.rb true l (.is c)) v0) :
    Calls Tryd.prog 3 #[v0, .int .i64 n] W fun e w' => e = .returned (.bool true) ∧ RowKit.Below W.heap.size W w' := by
  have hv : VRels (κW W) [.rb true l (.is c), .int .i64 n] [v0, .int .i64 n] := by
    simp only [VRels]
    exact ⟨_, _, rfl, h0, _, _, rfl, rfl, rfl⟩
  refine law_walk (gl := gl0) (Γ := R5) (fn := Tryd.f3) (av := [.rb true l (.is c), .int .i64 n]) (ls := []) [] 3000 (by kernel_rfl) (by kernel_rfl) okR5 (by kernel_rfl) hG (by kernel_rfl) hv ?_
  exact b3 l c n
end Go.Sym
namespace Go.Proofs.YtmofcjjhgigkoaaDoor.shaSums
open Go.ChangeShapes Go.WideShapes Go.ChangeAt Go.WideMaps Go.WideElems Go.RowKit
set_option linter.unusedVariables false
set_option maxRecDepth 100000 in
theorem lifted (os : Os) (started : os.Started) (H : Type) (enc : TypeId × Value → H) :
    ReturnsInHanded {} Tryd.checked os 3 .any (fun w args => (Rows.shaSumsSpec.pre enc Tryd.prog Tryd.f3 [] false w args ∧ laidMetH Tryd.prog laid2 w) ∧ sizedMet enc Tryd.prog Tryd.f3 (OpenSpec.ofChange Rows.shaSumsSpec) false w args)
      (Rows.shaSumsSpec.post enc Tryd.prog Tryd.f3 false true false false) := by
  refine returnsInHanded_of_change_and (C := Tryd.checked) (X := fun w _ => laidMetH Tryd.prog laid2 w) (fun _ _ _ hh h => h.of_heap hh) own started (by kernel_rfl) Tryd.func3
    (ChangeSpec.witness_shaped (enc := enc) (C := Tryd.checked) (os := os) (X := fun w _ => laidMetH Tryd.prog laid2 w) false (World.doorLaid Tryd.prog 400 os) #[.slice none 0 0, .int .i64 0] 8 rfl (World.shaped_of_RefB (by kernel_rfl) (by kernel_rfl)) (by kernel_rfl) (by kernel_rfl) (by kernel_rfl) (door_met os _)) ?_
  intro W base args ds gs before hval0 hW _ _ hL _
  have hval : ∀ (j : Nat) t v, Tryd.f3.params[j]? = some t → args[j]? = some v → Value.okWide Tryd.prog W .any base t v := hval0
  have hW' := hW
  obtain ⟨p, q, hA0, hV, rfl, hfz, hnd⟩ := hW
  have hA : DataW.TrodAll enc Tryd.prog W 0 (fun _ => true) true Tryd.f3.params.toList args.toList ds p := hA0
  rw [Tryd.params3] at hA hval
  obtain ⟨v0, vs0, d0, ds0, p0, q0, hargs, rfl, rfl, h0, r0⟩ := trodAll_cons hA
  obtain ⟨v1, vs1, d1, ds1, p1, q1, rfl, rfl, rfl, h1, r1⟩ := trodAll_cons r0
  obtain ⟨rfl, rfl, rfl⟩ := trodAll_nil r1
  obtain rfl : args = #[v0, v1] := by cases args; simp_all
  obtain ⟨rfl, rfl⟩ := trodVars_none hV
  obtain ⟨a1, rfl, rfl, rfl, w1⟩ := open_int Tryd.underlying3 (hval 1 3 v1 rfl rfl) h1
  clear hA0 hval0
  have hlt : ∀ x ∈ p0, x.block < W.heap.size := fun x hx => hW'.lt x (by simp [hx])
  obtain ⟨fuel, hf⟩ := h0
  obtain ⟨v, l, c, hc, hcl, hll, hv⟩ := Go.Sym.rd_bytes Tryd.underlying22 Tryd.underlying5 one5 hf
  have hv0 : v0 = v := Go.Sym.cells_slice Tryd.underlying22 (hval 0 22 v0 rfl rfl) hc
  subst hv0
  refine (Go.Sym.w3 W (gw_laid hL) v0 a1 l c hv).mono fun e W' ⟨he, bel⟩ => ?_
  subst he
  exact ⟨_, rfl, _, _, _, [], _, [], hW', trodAll_mk1 (shut_bool Tryd.underlying4 _), (trodAll_cons_mk (Below.trod laidO (by kernel_rfl) (of_decide_eq_true (by kernel_rfl)) ⟨fuel, hf⟩ bel hlt) (trodAll_cons_mk (shut_int Tryd.underlying3 w1) trodAll_mk0)), rfl, bel.frame _, fun h => by cases h⟩

theorem over : Rows.shaSumsRow.holds Tryd.pinned (OpenSpec.ofChange Rows.shaSumsSpec) :=
  OpenClaim.holds_of_wide 3 Tryd.f3 rfl rfl rfl rfl rfl rfl rfl ⟨rfl, rfl, rfl, rfl, rfl⟩ rfl rfl rfl rfl rfl (by kernel_rfl) Tryd.func3 (by kernel_rfl)
    (of_decide_eq_true (by kernel_rfl)) (by unfold Func.isWrapper; first | (rw [if_pos (by decide +kernel)]; kernel_rfl) | (rw [if_neg (by decide +kernel)]; exact ⟨rfl, rfl⟩))
    (fun os started H enc _ => lifted os started H enc)

theorem proved : Rows.ShaSumsCardSaid :=
  Claim7.holds_tied_plain_at .later [] [.data, .data] true (true, "44e11be570e4154174cda8b964177679c33fce583db925e342de0af1715ed693") false
    over (fun _ h => by cases h) (by kernel_rfl) (fun _ h => by cases h) shaSums_row_tie rfl ⟨rfl, rfl⟩ (by kernel_rfl) rfl
    (fun f fn hf hfn => by
      obtain rfl : f = 3 := Option.some.inj ((show Tryd.prog.funcNamed "relay/relaylaw01.ShaSums" = some 3 by kernel_rfl).symm.trans hf) |>.symm
      obtain rfl : fn = Tryd.f3 := (Option.some.inj (Tryd.func3.symm.trans hfn)).symm
      exact ⟨by kernel_rfl, fun j t ht => by
        rw [Tryd.params3] at ht
        have hm : t ∈ [22, 3] := by simpa using Array.mem_of_getElem? ht
        have hall : ([22, 3].all fun u => !Tryd.prog.wantsStandIn u) = true := by kernel_rfl
        exact (show Tryd.prog.wantsStandIn t = false by simpa using List.all_eq_true.1 hall t hm)⟩)
    (by kernel_rfl)
#print axioms proved
end Go.Proofs.YtmofcjjhgigkoaaDoor.shaSums
