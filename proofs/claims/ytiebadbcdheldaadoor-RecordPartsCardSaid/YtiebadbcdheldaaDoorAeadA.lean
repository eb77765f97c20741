/- What is sealed: the text of the tag. -/
import Derived.Test.YtiebadbcdheldaaDoorPolyC
namespace Go.Spec
/-- How many noughts there are up to a multiple of 16. -/
def fillN (n : Nat) : Nat := (16 - n % 16) % 16
def filled (l : By) : By := l ++ List.replicate (fillN l.length) 0
/-- A number in 8 bytes, the lowest first, behind what there is. -/
def c8 (n : Nat) (s : Nat) : BitVec 8 := BitVec.setWidth 8 (BitVec.ofInt 64 (n : Int) >>> s)
def cnt (l : By) (n : Nat) : By := l ++ [c8 n 0] ++ [c8 n 8] ++ [c8 n 16] ++ [c8 n 24] ++ [c8 n 32] ++ [c8 n 40] ++ [c8 n 48] ++ [c8 n 56]
/-- What the tag is made of. -/
def tagTxt (b more : By) : By := cnt (cnt (filled (filled more ++ b)) more.length) b.length
def ownK (k n : F8) : F8 := re32 (chaB (re32 k) 0#32 (re12 n))
end Go.Spec
namespace Go.Sym
open Go.Proofs Go.Spec
set_option linter.unusedVariables false
def eT (b more : By) (L : Nat) : List (Nat × AV) := [(2, .rb false b .unk), (3, .rb false more .unk), (4, .ptr 101 0 0 0), (5, .ptr 102 0 0 0), (8, .ptr 103 0 0 0), (9, .slice 100 0 1 L .ow (.is false))]
def kTq (k n : F8) (m : By) : List (Nat × ABlk) := [(100, ⟨.bytes m, true, 1⟩), (101, ⟨.cells (cl 32 k), true, 0⟩), (102, ⟨.cells (cl 12 n), true, 0⟩), (103, ⟨.cells (cl 16 fun _ => 0), true, 0⟩)]
noncomputable def lsF (k n : F8) (b more m : By) (nx : Nat) : LS := ⟨Nat, fun x => eT b more (m.length + x), fun x => kTq k n (m ++ List.replicate x 0), nx, fun x => 17 - x, fun x => x ≤ fillN m.length, fun _ => []⟩
end Go.Sym

namespace Go.Sym
open Go.Proofs Go.Spec
set_option linter.unusedVariables false
set_option maxRecDepth 100000 in
theorem vc38 (k n : F8) (b more : By) : bodyP Tryd.prog T1 gl0 [] [(3, lsF k n b more more 1000), (6, lsF k n b more (filled more ++ b) 2000)] 3000 Tryd.f53 0 [aggB 32 k, aggB 12 n, .rb false b .unk, .rb false more .unk] [] (retQ Tryd.prog Tryd.f53 0 (rt (aggB 16 (tagS (ownK k n) (tagTxt b more))))) = (
let x1 := [BitVec.setWidth 8 (BitVec.ofInt 64 (↑(List.length more) : Int) >>> 0)]; let x2 := k 0 = k 0 ∧ k 1 = k 1 ∧ k 2 = k 2 ∧ k 3 = k 3 ∧ k 4 = k 4 ∧ k 5 = k 5 ∧ k 6 = k 6 ∧ k 7 = k 7 ∧ k 8 = k 8 ∧ k 9 = k 9 ∧ k 10 = k 10 ∧ k 11 = k 11 ∧ k 12 = k 12 ∧ k 13 = k 13 ∧ k 14 = k 14 ∧ k 15 = k 15 ∧ k 16 = k 16 ∧ k 17 = k 17 ∧ k 18 = k 18 ∧ k 19 = k 19 ∧ k 20 = k 20 ∧ k 21 = k 21 ∧ k 22 = k 22 ∧ k 23 = k 23 ∧ k 24 = k 24 ∧ k 25 = k 25 ∧ k 26 = k 26 ∧ k 27 = k 27 ∧ k 28 = k 28 ∧ k 29 = k 29 ∧ k 30 = k 30 ∧ k 31 = k 31 ∧ n 0 = n 0 ∧ n 1 = n 1 ∧ n 2 = n 2 ∧ n 3 = n 3 ∧ n 4 = n 4 ∧ n 5 = n 5 ∧ n 6 = n 6 ∧ n 7 = n 7 ∧ n 8 = n 8 ∧ n 9 = n 9 ∧ n 10 = n 10 ∧ n 11 = n 11 ∧ (0 : BitVec 8) = (0 : BitVec 8) ∧ (0 : BitVec 8) = (0 : BitVec 8) ∧ (0 : BitVec 8) = (0 : BitVec 8) ∧ (0 : BitVec 8) = (0 : BitVec 8) ∧ (0 : BitVec 8) = (0 : BitVec 8) ∧ (0 : BitVec 8) = (0 : BitVec 8) ∧ (0 : BitVec 8) = (0 : BitVec 8) ∧ (0 : BitVec 8) = (0 : BitVec 8) ∧ (0 : BitVec 8) = (0 : BitVec 8) ∧ (0 : BitVec 8) = (0 : BitVec 8) ∧ (0 : BitVec 8) = (0 : BitVec 8) ∧ (0 : BitVec 8) = (0 : BitVec 8) ∧ (0 : BitVec 8) = (0 : BitVec 8) ∧ (0 : BitVec 8) = (0 : BitVec 8) ∧ (0 : BitVec 8) = (0 : BitVec 8) ∧ (0 : BitVec 8) = (0 : BitVec 8) ∧ True; let x3 := [BitVec.setWidth 8 (BitVec.ofInt 64 (↑(List.length more) : Int) >>> 8)]; let x4 := [BitVec.setWidth 8 (BitVec.ofInt 64 (↑(List.length more) : Int) >>> 16)]; let x5 := [BitVec.setWidth 8 (BitVec.ofInt 64 (↑(List.length more) : Int) >>> 24)]; let x6 := [BitVec.setWidth 8 (BitVec.ofInt 64 (↑(List.length more) : Int) >>> 32)]; let x7 := [BitVec.setWidth 8 (BitVec.ofInt 64 (↑(List.length more) : Int) >>> 40)]; let x8 := [BitVec.setWidth 8 (BitVec.ofInt 64 (↑(List.length more) : Int) >>> 48)]; let x9 := [BitVec.setWidth 8 (BitVec.ofInt 64 (↑(List.length more) : Int) >>> 56)]; let x10 := [BitVec.setWidth 8 (BitVec.ofInt 64 (↑(List.length b) : Int) >>> 0)]; let x11 := [BitVec.setWidth 8 (BitVec.ofInt 64 (↑(List.length b) : Int) >>> 8)]; let x12 := [BitVec.setWidth 8 (BitVec.ofInt 64 (↑(List.length b) : Int) >>> 16)]; let x13 := [BitVec.setWidth 8 (BitVec.ofInt 64 (↑(List.length b) : Int) >>> 24)]; let x14 := [BitVec.setWidth 8 (BitVec.ofInt 64 (↑(List.length b) : Int) >>> 32)]; let x15 := [BitVec.setWidth 8 (BitVec.ofInt 64 (↑(List.length b) : Int) >>> 40)]; let x16 := [BitVec.setWidth 8 (BitVec.ofInt 64 (↑(List.length b) : Int) >>> 48)]; let x17 := [BitVec.setWidth 8 (BitVec.ofInt 64 (↑(List.length b) : Int) >>> 56)]; let x18 := re32 (chaB (re32 k) (BitVec.ofNat 32 0) (re12 n)); let x19 := (0 : BitVec 8) = BitVec.ofNat 8 0; 0 = 0 ∧ roomFor 0 (List.length more) 1 ∧ (∃ (x : Nat), x.le (fillN (List.length more)) ∧ b = b ∧ more = more ∧ 0 = 0 ∧ 0 = 0 ∧ 0 = 0 ∧ Bool.false = (Bool.false && decide (List.length more = 0)) ∧ 0 = 0 ∧ 0 = 0 ∧ 0 = 0 ∧ List.length more + x = 0 + List.length more ∧ more ++ List.replicate x (0 : BitVec 8) = [] ++ more ∧ k 0 = k 0 ∧ k 1 = k 1 ∧ k 2 = k 2 ∧ k 3 = k 3 ∧ k 4 = k 4 ∧ k 5 = k 5 ∧ k 6 = k 6 ∧ k 7 = k 7 ∧ k 8 = k 8 ∧ k 9 = k 9 ∧ k 10 = k 10 ∧ k 11 = k 11 ∧ k 12 = k 12 ∧ k 13 = k 13 ∧ k 14 = k 14 ∧ k 15 = k 15 ∧ k 16 = k 16 ∧ k 17 = k 17 ∧ k 18 = k 18 ∧ k 19 = k 19 ∧ k 20 = k 20 ∧ k 21 = k 21 ∧ k 22 = k 22 ∧ k 23 = k 23 ∧ k 24 = k 24 ∧ k 25 = k 25 ∧ k 26 = k 26 ∧ k 27 = k 27 ∧ k 28 = k 28 ∧ k 29 = k 29 ∧ k 30 = k 30 ∧ k 31 = k 31 ∧ n 0 = n 0 ∧ n 1 = n 1 ∧ n 2 = n 2 ∧ n 3 = n 3 ∧ n 4 = n 4 ∧ n 5 = n 5 ∧ n 6 = n 6 ∧ n 7 = n 7 ∧ n 8 = n 8 ∧ n 9 = n 9 ∧ n 10 = n 10 ∧ n 11 = n 11 ∧ x19 ∧ x19 ∧ x19 ∧ x19 ∧ x19 ∧ x19 ∧ x19 ∧ x19 ∧ x19 ∧ x19 ∧ x19 ∧ x19 ∧ x19 ∧ x19 ∧ x19 ∧ x19 ∧ True) ∧ ∀ (x : Nat), x.le (fillN (List.length more)) → @Bool.rec (fun _ => Prop) (List.length more + x = List.length (more ++ List.replicate x (0 : BitVec 8)) ∧ roomFor (List.length more + x) (List.length b) 1 ∧ (∃ (x_1 : Nat), x_1.le (fillN (List.length (filled more ++ b))) ∧ b = b ∧ more = more ∧ 0 = 0 ∧ 0 = 0 ∧ 0 = 0 ∧ Bool.false = (Bool.false && decide (List.length b = 0)) ∧ 0 = 0 ∧ 0 = 0 ∧ 0 = 0 ∧ List.length (filled more ++ b) + x_1 = List.length more + x + List.length b ∧ filled more ++ b ++ List.replicate x_1 (0 : BitVec 8) = more ++ List.replicate x (0 : BitVec 8) ++ b ∧ x2) ∧ ∀ (x : Nat), let x1_1 := filled more ++ b ++ List.replicate x (0 : BitVec 8) ++ x1 ++ x3 ++ x4 ++ x5 ++ x6 ++ x7 ++ x8 ++ x9 ++ x10 ++ x11 ++ x12 ++ x13 ++ x14 ++ x15; let x2_1 := List.length (filled more ++ b) + x + x1.length + x3.length + x4.length + x5.length + x6.length + x7.length + x8.length; let x3_1 := filled more ++ b ++ List.replicate x (0 : BitVec 8) ++ x1 ++ x3 ++ x4 ++ x5; let x4_1 := x2_1 + x9.length + x10.length + x11.length + x12.length; let x5_1 := List.length (filled more ++ b) + x + x1.length + x3.length; let x6_1 := x3_1 ++ x6 ++ x7 ++ x8 ++ x9 ++ x10; x.le (fillN (List.length (filled more ++ b))) → @Bool.rec (fun _ => Prop) ((0 : Int) ≤ Int.ofNat 0 ∧ 1 = x1.length ∧ List.length (filled more ++ b) + x = List.length (filled more ++ b ++ List.replicate x (0 : BitVec 8)) ∧ roomFor (List.length (filled more ++ b) + x) x1.length 1 ∧ (0 : Int) ≤ Int.ofNat 8 ∧ 1 = x3.length ∧ List.length (filled more ++ b) + x + x1.length = List.length (filled more ++ b ++ List.replicate x (0 : BitVec 8) ++ x1) ∧ roomFor (List.length (filled more ++ b) + x + x1.length) x3.length 1 ∧ (0 : Int) ≤ Int.ofNat 16 ∧ 1 = x4.length ∧ x5_1 = List.length (filled more ++ b ++ List.replicate x (0 : BitVec 8) ++ x1 ++ x3) ∧ roomFor x5_1 x4.length 1 ∧ (0 : Int) ≤ Int.ofNat 24 ∧ 1 = x5.length ∧ x5_1 + x4.length = List.length (filled more ++ b ++ List.replicate x (0 : BitVec 8) ++ x1 ++ x3 ++ x4) ∧ roomFor (x5_1 + x4.length) x5.length 1 ∧ (0 : Int) ≤ Int.ofNat 32 ∧ 1 = x6.length ∧ x5_1 + x4.length + x5.length = List.length x3_1 ∧ roomFor (x5_1 + x4.length + x5.length) x6.length 1 ∧ (0 : Int) ≤ Int.ofNat 40 ∧ 1 = x7.length ∧ x5_1 + x4.length + x5.length + x6.length = List.length (x3_1 ++ x6) ∧ roomFor (x5_1 + x4.length + x5.length + x6.length) x7.length 1 ∧ (0 : Int) ≤ Int.ofNat 48 ∧ 1 = x8.length ∧ x5_1 + x4.length + x5.length + x6.length + x7.length = List.length (x3_1 ++ x6 ++ x7) ∧ roomFor (x5_1 + x4.length + x5.length + x6.length + x7.length) x8.length 1 ∧ (0 : Int) ≤ Int.ofNat 56 ∧ 1 = x9.length ∧ x2_1 = List.length (x3_1 ++ x6 ++ x7 ++ x8) ∧ roomFor x2_1 x9.length 1 ∧ (0 : Int) ≤ Int.ofNat 0 ∧ 1 = x10.length ∧ x2_1 + x9.length = List.length (x3_1 ++ x6 ++ x7 ++ x8 ++ x9) ∧ roomFor (x2_1 + x9.length) x10.length 1 ∧ (0 : Int) ≤ Int.ofNat 8 ∧ 1 = x11.length ∧ x2_1 + x9.length + x10.length = List.length x6_1 ∧ roomFor (x2_1 + x9.length + x10.length) x11.length 1 ∧ (0 : Int) ≤ Int.ofNat 16 ∧ 1 = x12.length ∧ x2_1 + x9.length + x10.length + x11.length = List.length (x6_1 ++ x11) ∧ roomFor (x2_1 + x9.length + x10.length + x11.length) x12.length 1 ∧ (0 : Int) ≤ Int.ofNat 24 ∧ 1 = x13.length ∧ x4_1 = List.length (x6_1 ++ x11 ++ x12) ∧ roomFor x4_1 x13.length 1 ∧ (0 : Int) ≤ Int.ofNat 32 ∧ 1 = x14.length ∧ x4_1 + x13.length = List.length (x6_1 ++ x11 ++ x12 ++ x13) ∧ roomFor (x4_1 + x13.length) x14.length 1 ∧ (0 : Int) ≤ Int.ofNat 40 ∧ 1 = x15.length ∧ x4_1 + x13.length + x14.length = List.length (x6_1 ++ x11 ++ x12 ++ x13 ++ x14) ∧ roomFor (x4_1 + x13.length + x14.length) x15.length 1 ∧ (0 : Int) ≤ Int.ofNat 48 ∧ 1 = x16.length ∧ x4_1 + x13.length + x14.length + x15.length = List.length x1_1 ∧ roomFor (x4_1 + x13.length + x14.length + x15.length) x16.length 1 ∧ (0 : Int) ≤ Int.ofNat 56 ∧ 1 = x17.length ∧ x4_1 + x13.length + x14.length + x15.length + x16.length = List.length (x1_1 ++ x16) ∧ roomFor (x4_1 + x13.length + x14.length + x15.length + x16.length) x17.length 1 ∧ (0 : Int) ≤ (0 : Int) ∧ (0 : Int) ≤ (0 : Int) ∧ (0 : Int) ≤ Int.ofNat 1 ∧ (0 : Int) ≤ Int.ofNat 1 ∧ (0 : Int) ≤ Int.ofNat 2 ∧ (0 : Int) ≤ Int.ofNat 2 ∧ (0 : Int) ≤ Int.ofNat 3 ∧ (0 : Int) ≤ Int.ofNat 3 ∧ (0 : Int) ≤ Int.ofNat 4 ∧ (0 : Int) ≤ Int.ofNat 4 ∧ (0 : Int) ≤ Int.ofNat 5 ∧ (0 : Int) ≤ Int.ofNat 5 ∧ (0 : Int) ≤ Int.ofNat 6 ∧ (0 : Int) ≤ Int.ofNat 6 ∧ (0 : Int) ≤ Int.ofNat 7 ∧ (0 : Int) ≤ Int.ofNat 7 ∧ (0 : Int) ≤ Int.ofNat 8 ∧ (0 : Int) ≤ Int.ofNat 8 ∧ (0 : Int) ≤ Int.ofNat 9 ∧ (0 : Int) ≤ Int.ofNat 9 ∧ (0 : Int) ≤ Int.ofNat 10 ∧ (0 : Int) ≤ Int.ofNat 10 ∧ (0 : Int) ≤ Int.ofNat 11 ∧ (0 : Int) ≤ Int.ofNat 11 ∧ (0 : Int) ≤ Int.ofNat 12 ∧ (0 : Int) ≤ Int.ofNat 12 ∧ (0 : Int) ≤ Int.ofNat 13 ∧ (0 : Int) ≤ Int.ofNat 13 ∧ (0 : Int) ≤ Int.ofNat 14 ∧ (0 : Int) ≤ Int.ofNat 14 ∧ (0 : Int) ≤ Int.ofNat 15 ∧ (0 : Int) ≤ Int.ofNat 15 ∧ (0 : Int) ≤ Int.ofNat 16 ∧ (0 : Int) ≤ Int.ofNat 16 ∧ (0 : Int) ≤ Int.ofNat 17 ∧ (0 : Int) ≤ Int.ofNat 17 ∧ (0 : Int) ≤ Int.ofNat 18 ∧ (0 : Int) ≤ Int.ofNat 18 ∧ (0 : Int) ≤ Int.ofNat 19 ∧ (0 : Int) ≤ Int.ofNat 19 ∧ (0 : Int) ≤ Int.ofNat 20 ∧ (0 : Int) ≤ Int.ofNat 20 ∧ (0 : Int) ≤ Int.ofNat 21 ∧ (0 : Int) ≤ Int.ofNat 21 ∧ (0 : Int) ≤ Int.ofNat 22 ∧ (0 : Int) ≤ Int.ofNat 22 ∧ (0 : Int) ≤ Int.ofNat 23 ∧ (0 : Int) ≤ Int.ofNat 23 ∧ (0 : Int) ≤ Int.ofNat 24 ∧ (0 : Int) ≤ Int.ofNat 24 ∧ (0 : Int) ≤ Int.ofNat 25 ∧ (0 : Int) ≤ Int.ofNat 25 ∧ (0 : Int) ≤ Int.ofNat 26 ∧ (0 : Int) ≤ Int.ofNat 26 ∧ (0 : Int) ≤ Int.ofNat 27 ∧ (0 : Int) ≤ Int.ofNat 27 ∧ (0 : Int) ≤ Int.ofNat 28 ∧ (0 : Int) ≤ Int.ofNat 28 ∧ (0 : Int) ≤ Int.ofNat 29 ∧ (0 : Int) ≤ Int.ofNat 29 ∧ (0 : Int) ≤ Int.ofNat 30 ∧ (0 : Int) ≤ Int.ofNat 30 ∧ (0 : Int) ≤ Int.ofNat 31 ∧ (0 : Int) ≤ Int.ofNat 31 ∧ x4_1 + x13.length + x14.length + x15.length + x16.length + x17.length = List.length (x1_1 ++ x16 ++ x17) ∧ List.length (x1_1 ++ x16 ++ x17) < 1099511627776 ∧ tagS (ownK k n) (tagTxt b more) 0 = tagS x18 (x1_1 ++ x16 ++ x17) 0 ∧ tagS (ownK k n) (tagTxt b more) 1 = tagS x18 (x1_1 ++ x16 ++ x17) 1 ∧ tagS (ownK k n) (tagTxt b more) 2 = tagS x18 (x1_1 ++ x16 ++ x17) 2 ∧ tagS (ownK k n) (tagTxt b more) 3 = tagS x18 (x1_1 ++ x16 ++ x17) 3 ∧ tagS (ownK k n) (tagTxt b more) 4 = tagS x18 (x1_1 ++ x16 ++ x17) 4 ∧ tagS (ownK k n) (tagTxt b more) 5 = tagS x18 (x1_1 ++ x16 ++ x17) 5 ∧ tagS (ownK k n) (tagTxt b more) 6 = tagS x18 (x1_1 ++ x16 ++ x17) 6 ∧ tagS (ownK k n) (tagTxt b more) 7 = tagS x18 (x1_1 ++ x16 ++ x17) 7 ∧ tagS (ownK k n) (tagTxt b more) 8 = tagS x18 (x1_1 ++ x16 ++ x17) 8 ∧ tagS (ownK k n) (tagTxt b more) 9 = tagS x18 (x1_1 ++ x16 ++ x17) 9 ∧ tagS (ownK k n) (tagTxt b more) 10 = tagS x18 (x1_1 ++ x16 ++ x17) 10 ∧ tagS (ownK k n) (tagTxt b more) 11 = tagS x18 (x1_1 ++ x16 ++ x17) 11 ∧ tagS (ownK k n) (tagTxt b more) 12 = tagS x18 (x1_1 ++ x16 ++ x17) 12 ∧ tagS (ownK k n) (tagTxt b more) 13 = tagS x18 (x1_1 ++ x16 ++ x17) 13 ∧ tagS (ownK k n) (tagTxt b more) 14 = tagS x18 (x1_1 ++ x16 ++ x17) 14 ∧ tagS (ownK k n) (tagTxt b more) 15 = tagS x18 (x1_1 ++ x16 ++ x17) 15 ∧ True) (1 = 1 ∧ List.length (filled more ++ b) + x = List.length (filled more ++ b ++ List.replicate x (0 : BitVec 8)) ∧ roomFor (List.length (filled more ++ b) + x) 1 1 ∧ ∃ (y : Nat), 17 - y < 17 - x ∧ y.le (fillN (List.length (filled more ++ b))) ∧ b = b ∧ more = more ∧ 0 = 0 ∧ 0 = 0 ∧ 0 = 0 ∧ Bool.false = Bool.false ∧ 0 = 0 ∧ 0 = 0 ∧ 0 = 0 ∧ List.length (filled more ++ b) + y = List.length (filled more ++ b) + x + 1 ∧ filled more ++ b ++ List.replicate y (0 : BitVec 8) = filled more ++ b ++ List.replicate x (0 : BitVec 8) ++ [BitVec.ofNat 8 0] ∧ x2) !decide ((↑(List.length (filled more ++ b) + x) : Int).tmod (16 : Int) = (0 : Int))) (1 = 1 ∧ List.length more + x = List.length (more ++ List.replicate x (0 : BitVec 8)) ∧ roomFor (List.length more + x) 1 1 ∧ ∃ (y : Nat), 17 - y < 17 - x ∧ y.le (fillN (List.length more)) ∧ b = b ∧ more = more ∧ 0 = 0 ∧ 0 = 0 ∧ 0 = 0 ∧ Bool.false = Bool.false ∧ 0 = 0 ∧ 0 = 0 ∧ 0 = 0 ∧ List.length more + y = List.length more + x + 1 ∧ more ++ List.replicate y (0 : BitVec 8) = more ++ List.replicate x (0 : BitVec 8) ++ [BitVec.ofNat 8 0] ∧ x2) !decide ((↑(List.length more + x) : Int).tmod (16 : Int) = (0 : Int)) : Prop) := by kernel_rfl
end Go.Sym

namespace Go.Spec
theorem fillN_lt (n : Nat) : fillN n < 16 := by unfold fillN; omega
theorem fill_go {n x : Nat} (hx : x ≤ fillN n) (h : (n + x) % 16 ≠ 0) : x < fillN n := by unfold fillN at *; omega
theorem fill_end {n x : Nat} (hx : x ≤ fillN n) (h : (n + x) % 16 = 0) : x = fillN n := by unfold fillN at *; omega
theorem filled_length (l : By) : (filled l).length = l.length + fillN l.length := by simp [filled]
theorem rep_snoc (l : By) (x : Nat) : l ++ List.replicate (x + 1) (0 : BitVec 8) = l ++ List.replicate x 0 ++ [0] := by
  rw [List.replicate_succ', List.append_assoc]
theorem tmY16 {n : Nat} (h : (!decide ((n : Int).tmod 16 = 0)) = true) : n % 16 ≠ 0 := by
  have e : (n : Int).tmod 16 = ((n % 16 : Nat) : Int) := Go.Sym.tmod_nat n 16
  rw [e] at h
  intro h2
  rw [h2] at h
  exact absurd h (by decide)
theorem tmN16 {n : Nat} (h : (!decide ((n : Int).tmod 16 = 0)) = false) : n % 16 = 0 := by
  have e : (n : Int).tmod 16 = ((n % 16 : Nat) : Int) := Go.Sym.tmod_nat n 16
  rw [e] at h
  simp only [Bool.not_eq_false', decide_eq_true_eq] at h
  omega
end Go.Spec
namespace Go.Sym
open Go.Proofs Go.Spec
set_option linter.unusedVariables false
set_option linter.unusedSimpArgs false
theorem b38 (k n : F8) (b more : By) (hb : b.length + more.length + 64 < 1099511627776) : Must (bodyP Tryd.prog T1 gl0 [] [(3, lsF k n b more more 1000), (6, lsF k n b more (filled more ++ b) 2000)] 3000 Tryd.f53 0 [aggB 32 k, aggB 12 n, .rb false b .unk, .rb false more .unk] [] (retQ Tryd.prog Tryd.f53 0 (rt (aggB 16 (tagS (ownK k n) (tagTxt b more)))))) := by
  constructor
  rw [vc38]
  set_option simprocs false in dsimp only
  have hf := fillN_lt more.length
  have hf2 := fillN_lt (filled more ++ b).length
  have hfl := filled_length more
  have hfb : (filled more ++ b).length = more.length + fillN more.length + b.length := by rw [List.length_append, hfl]
  refine ⟨rfl, by unfold roomFor; omega, ⟨0, Nat.zero_le _, ?_⟩, fun x hx => ?_⟩
  · repeat refine And.intro (by first | exact rfl | simp) ?_
    trivial
  · replace hx : x ≤ fillN more.length := hx
    refine brec (fun h => ?_) (fun h => ?_)
    · have h1 := fill_go hx (tmY16 h)
      refine ⟨rfl, by simp <;> omega, by unfold roomFor; omega, x + 1, by omega, h1, ?_⟩
      repeat refine And.intro (by first | exact rfl | exact rep_snoc _ _) ?_
      trivial
    · obtain rfl := fill_end hx (tmN16 h)
      refine ⟨by simp, by unfold roomFor; omega, ⟨0, Nat.zero_le _, ?_⟩, fun x hx => ?_⟩
      · repeat refine And.intro (by first | exact rfl | (simp [filled]; done) | (simp [filled]; omega)) ?_
        trivial
      · replace hx : x ≤ fillN (filled more ++ b).length := hx
        refine brec (fun h => ?_) (fun h => ?_)
        · have h1 := fill_go hx (tmY16 h)
          refine ⟨rfl, by simp <;> omega, by unfold roomFor; omega, x + 1, by omega, h1, ?_⟩
          repeat refine And.intro (by first | exact rfl | exact rep_snoc _ _) ?_
          trivial
        · obtain rfl := fill_end hx (tmN16 h)
          generalize hM : filled more ++ b = M at *
          have hl : (M ++ List.replicate (fillN M.length) (0 : BitVec 8)).length = M.length + fillN M.length := by simp
          generalize hW : M ++ List.replicate (fillN M.length) (0 : BitVec 8) = W at *
          have hT : tagTxt b more = cnt (cnt W more.length) b.length := by unfold tagTxt; rw [hM, ← hW]; rfl
          rw [hT]
          repeat refine And.intro (by first | exact Int.natCast_nonneg _ | exact Int.le_refl _ | (simp only [roomFor, List.length_append, List.length_cons, List.length_nil, hl] <;> omega) | exact rfl) ?_
          exact trivial
end Go.Sym

namespace Go.Sym
open Go.Proofs Go.Spec
set_option linter.unusedVariables false
def r44 (np : Nat) (io : List (Option (Option ABlk))) (ob : List Prop) (m : By) : RL := ⟨ob, .slice np 0 1 m.length .ow .unk, io, [⟨.bytes m, true, 1⟩]⟩
noncomputable def ls44 (m : By) : LS := ⟨Nat, fun x => [(0, .slice 100 0 1 (m.length + x) .ow .unk)], fun x => [(100, ⟨.bytes (m ++ List.replicate x 0), true, 1⟩)], 1000, fun x => 17 - x, fun x => x ≤ fillN m.length, fun _ => []⟩
end Go.Sym

namespace Go.Sym
open Go.Proofs Go.Spec
set_option linter.unusedVariables false
set_option maxRecDepth 100000 in
theorem vc44n (b : By) : bodyP Tryd.prog T1 gl0 [] [(3, ls44 b)] 3000 Tryd.f65 0 [.nils, .rb false b .unk] [] (retQ Tryd.prog Tryd.f65 0 (r44 0 [] [] (filled b))) = (
roomFor 0 (List.length b) 1 ∧ (∃ (x : Nat), x.le (fillN (List.length b)) ∧ 0 = 0 ∧ 0 = 0 ∧ 0 = 0 ∧ List.length b + x = List.length b ∧ b ++ List.replicate x (0 : BitVec 8) = b ∧ True) ∧ ∀ (x : Nat), x.le (fillN (List.length b)) → @Bool.rec (fun _ => Prop) (0 = 0 ∧ 0 = 0 ∧ 0 = 0 ∧ List.length (filled b) = List.length b + x ∧ filled b = b ++ List.replicate x (0 : BitVec 8) ∧ True) (1 = 1 ∧ List.length b + x = (b ++ List.replicate x (0 : BitVec 8)).length ∧ roomFor (List.length b + x) 1 1 ∧ ∃ (y : Nat), 17 - y < 17 - x ∧ y.le (fillN (List.length b)) ∧ 0 = 0 ∧ 0 = 0 ∧ 0 = 0 ∧ List.length b + y = List.length b + x + 1 ∧ b ++ List.replicate y (0 : BitVec 8) = b ++ List.replicate x (0 : BitVec 8) ++ [BitVec.ofNat 8 0] ∧ True) !decide ((↑(List.length b + x) : Int).tmod (16 : Int) = (0 : Int)) : Prop) := by kernel_rfl
set_option maxRecDepth 100000 in
theorem vc44 (l b : By) (L : Nat) : bodyP Tryd.prog T1 gl0 [] [(3, ls44 (l ++ b))] 3000 Tryd.f65 1 [.slice 0 0 1 L .ow .unk, .rb false b .unk] [⟨.bytes l, true, 1⟩] (retQ Tryd.prog Tryd.f65 1 (r44 1 [some none] [] (filled (l ++ b)))) = (
L = List.length l ∧ roomFor L (List.length b) 1 ∧ (∃ (x : Nat), x.le (fillN (List.length (l ++ b))) ∧ 0 = 0 ∧ 0 = 0 ∧ 0 = 0 ∧ List.length (l ++ b) + x = L + List.length b ∧ l ++ b ++ List.replicate x (0 : BitVec 8) = l ++ b ∧ True) ∧ ∀ (x : Nat), x.le (fillN (List.length (l ++ b))) → @Bool.rec (fun _ => Prop) (0 = 0 ∧ 0 = 0 ∧ 0 = 0 ∧ List.length (filled (l ++ b)) = List.length (l ++ b) + x ∧ filled (l ++ b) = l ++ b ++ List.replicate x (0 : BitVec 8) ∧ True) (1 = 1 ∧ List.length (l ++ b) + x = (l ++ b ++ List.replicate x (0 : BitVec 8)).length ∧ roomFor (List.length (l ++ b) + x) 1 1 ∧ ∃ (y : Nat), 17 - y < 17 - x ∧ y.le (fillN (List.length (l ++ b))) ∧ 0 = 0 ∧ 0 = 0 ∧ 0 = 0 ∧ List.length (l ++ b) + y = List.length (l ++ b) + x + 1 ∧ l ++ b ++ List.replicate y (0 : BitVec 8) = l ++ b ++ List.replicate x (0 : BitVec 8) ++ [BitVec.ofNat 8 0] ∧ True) !decide ((↑(List.length (l ++ b) + x) : Int).tmod (16 : Int) = (0 : Int)) : Prop) := by kernel_rfl
set_option maxRecDepth 100000 in
theorem vc45 (l : By) (L m : Nat) : bodyP Tryd.prog T1 gl0 [] [] 3000 Tryd.f66 1 [.slice 0 0 1 L .ow .unk, .int .i64 (m : Int)] [⟨.bytes l, true, 1⟩] (retQ Tryd.prog Tryd.f66 1 (r44 1 [some none] [] (cnt l m))) = (
(0 : Int) ≤ Int.ofNat 0 ∧
 1 = [BitVec.ofInt 8 ((↑m : Int).fdiv (Int.ofNat 1))].length ∧
 L = List.length l ∧
 roomFor L [BitVec.ofInt 8 ((↑m : Int).fdiv (Int.ofNat 1))].length 1 ∧
 (0 : Int) ≤ Int.ofNat 8 ∧
 1 = [BitVec.ofInt 8 ((↑m : Int).fdiv (Int.ofNat 256))].length ∧
 L + [BitVec.ofInt 8 ((↑m : Int).fdiv (Int.ofNat 1))].length = (l ++ [BitVec.ofInt 8 ((↑m : Int).fdiv (Int.ofNat 1))]).length ∧
 roomFor (L + [BitVec.ofInt 8 ((↑m : Int).fdiv (Int.ofNat 1))].length) [BitVec.ofInt 8 ((↑m : Int).fdiv (Int.ofNat 256))].length 1 ∧
 (0 : Int) ≤ Int.ofNat 16 ∧
 1 = [BitVec.ofInt 8 ((↑m : Int).fdiv (Int.ofNat 65536))].length ∧
 L + [BitVec.ofInt 8 ((↑m : Int).fdiv (Int.ofNat 1))].length + [BitVec.ofInt 8 ((↑m : Int).fdiv (Int.ofNat 256))].length = (l ++ [BitVec.ofInt 8 ((↑m : Int).fdiv (Int.ofNat 1))] ++ [BitVec.ofInt 8 ((↑m : Int).fdiv (Int.ofNat 256))]).length ∧
 roomFor (L + [BitVec.ofInt 8 ((↑m : Int).fdiv (Int.ofNat 1))].length + [BitVec.ofInt 8 ((↑m : Int).fdiv (Int.ofNat 256))].length) [BitVec.ofInt 8 ((↑m : Int).fdiv (Int.ofNat 65536))].length 1 ∧
 (0 : Int) ≤ Int.ofNat 24 ∧
 1 = [BitVec.ofInt 8 ((↑m : Int).fdiv (Int.ofNat 16777216))].length ∧
 L + [BitVec.ofInt 8 ((↑m : Int).fdiv (Int.ofNat 1))].length + [BitVec.ofInt 8 ((↑m : Int).fdiv (Int.ofNat 256))].length + [BitVec.ofInt 8 ((↑m : Int).fdiv (Int.ofNat 65536))].length = (l ++ [BitVec.ofInt 8 ((↑m : Int).fdiv (Int.ofNat 1))] ++ [BitVec.ofInt 8 ((↑m : Int).fdiv (Int.ofNat 256))] ++ [BitVec.ofInt 8 ((↑m : Int).fdiv (Int.ofNat 65536))]).length ∧
 roomFor (L + [BitVec.ofInt 8 ((↑m : Int).fdiv (Int.ofNat 1))].length + [BitVec.ofInt 8 ((↑m : Int).fdiv (Int.ofNat 256))].length + [BitVec.ofInt 8 ((↑m : Int).fdiv (Int.ofNat 65536))].length) [BitVec.ofInt 8 ((↑m : Int).fdiv (Int.ofNat 16777216))].length 1 ∧
 (0 : Int) ≤ Int.ofNat 32 ∧
 1 = [BitVec.ofInt 8 ((↑m : Int).fdiv (Int.ofNat 4294967296))].length ∧
 L + [BitVec.ofInt 8 ((↑m : Int).fdiv (Int.ofNat 1))].length + [BitVec.ofInt 8 ((↑m : Int).fdiv (Int.ofNat 256))].length + [BitVec.ofInt 8 ((↑m : Int).fdiv (Int.ofNat 65536))].length + [BitVec.ofInt 8 ((↑m : Int).fdiv (Int.ofNat 16777216))].length = (l ++ [BitVec.ofInt 8 ((↑m : Int).fdiv (Int.ofNat 1))] ++ [BitVec.ofInt 8 ((↑m : Int).fdiv (Int.ofNat 256))] ++ [BitVec.ofInt 8 ((↑m : Int).fdiv (Int.ofNat 65536))] ++ [BitVec.ofInt 8 ((↑m : Int).fdiv (Int.ofNat 16777216))]).length ∧
 roomFor (L + [BitVec.ofInt 8 ((↑m : Int).fdiv (Int.ofNat 1))].length + [BitVec.ofInt 8 ((↑m : Int).fdiv (Int.ofNat 256))].length + [BitVec.ofInt 8 ((↑m : Int).fdiv (Int.ofNat 65536))].length + [BitVec.ofInt 8 ((↑m : Int).fdiv (Int.ofNat 16777216))].length) [BitVec.ofInt 8 ((↑m : Int).fdiv (Int.ofNat 4294967296))].length 1 ∧
 (0 : Int) ≤ Int.ofNat 40 ∧
 1 = [BitVec.ofInt 8 ((↑m : Int).fdiv (Int.ofNat 1099511627776))].length ∧
 L + [BitVec.ofInt 8 ((↑m : Int).fdiv (Int.ofNat 1))].length + [BitVec.ofInt 8 ((↑m : Int).fdiv (Int.ofNat 256))].length + [BitVec.ofInt 8 ((↑m : Int).fdiv (Int.ofNat 65536))].length + [BitVec.ofInt 8 ((↑m : Int).fdiv (Int.ofNat 16777216))].length + [BitVec.ofInt 8 ((↑m : Int).fdiv (Int.ofNat 4294967296))].length = (l ++ [BitVec.ofInt 8 ((↑m : Int).fdiv (Int.ofNat 1))] ++ [BitVec.ofInt 8 ((↑m : Int).fdiv (Int.ofNat 256))] ++ [BitVec.ofInt 8 ((↑m : Int).fdiv (Int.ofNat 65536))] ++ [BitVec.ofInt 8 ((↑m : Int).fdiv (Int.ofNat 16777216))] ++ [BitVec.ofInt 8 ((↑m : Int).fdiv (Int.ofNat 4294967296))]).length ∧
 roomFor (L + [BitVec.ofInt 8 ((↑m : Int).fdiv (Int.ofNat 1))].length + [BitVec.ofInt 8 ((↑m : Int).fdiv (Int.ofNat 256))].length + [BitVec.ofInt 8 ((↑m : Int).fdiv (Int.ofNat 65536))].length + [BitVec.ofInt 8 ((↑m : Int).fdiv (Int.ofNat 16777216))].length + [BitVec.ofInt 8 ((↑m : Int).fdiv (Int.ofNat 4294967296))].length) [BitVec.ofInt 8 ((↑m : Int).fdiv (Int.ofNat 1099511627776))].length 1 ∧
 (0 : Int) ≤ Int.ofNat 48 ∧
 1 = [BitVec.ofInt 8 ((↑m : Int).fdiv (Int.ofNat 281474976710656))].length ∧
 L + [BitVec.ofInt 8 ((↑m : Int).fdiv (Int.ofNat 1))].length + [BitVec.ofInt 8 ((↑m : Int).fdiv (Int.ofNat 256))].length + [BitVec.ofInt 8 ((↑m : Int).fdiv (Int.ofNat 65536))].length + [BitVec.ofInt 8 ((↑m : Int).fdiv (Int.ofNat 16777216))].length + [BitVec.ofInt 8 ((↑m : Int).fdiv (Int.ofNat 4294967296))].length + [BitVec.ofInt 8 ((↑m : Int).fdiv (Int.ofNat 1099511627776))].length = (l ++ [BitVec.ofInt 8 ((↑m : Int).fdiv (Int.ofNat 1))] ++ [BitVec.ofInt 8 ((↑m : Int).fdiv (Int.ofNat 256))] ++ [BitVec.ofInt 8 ((↑m : Int).fdiv (Int.ofNat 65536))] ++ [BitVec.ofInt 8 ((↑m : Int).fdiv (Int.ofNat 16777216))] ++ [BitVec.ofInt 8 ((↑m : Int).fdiv (Int.ofNat 4294967296))] ++ [BitVec.ofInt 8 ((↑m : Int).fdiv (Int.ofNat 1099511627776))]).length ∧
 roomFor (L + [BitVec.ofInt 8 ((↑m : Int).fdiv (Int.ofNat 1))].length + [BitVec.ofInt 8 ((↑m : Int).fdiv (Int.ofNat 256))].length + [BitVec.ofInt 8 ((↑m : Int).fdiv (Int.ofNat 65536))].length + [BitVec.ofInt 8 ((↑m : Int).fdiv (Int.ofNat 16777216))].length + [BitVec.ofInt 8 ((↑m : Int).fdiv (Int.ofNat 4294967296))].length + [BitVec.ofInt 8 ((↑m : Int).fdiv (Int.ofNat 1099511627776))].length) [BitVec.ofInt 8 ((↑m : Int).fdiv (Int.ofNat 281474976710656))].length 1 ∧
 (0 : Int) ≤ Int.ofNat 56 ∧
 1 = [BitVec.ofInt 8 ((↑m : Int).fdiv (Int.ofNat 72057594037927936))].length ∧
 L + [BitVec.ofInt 8 ((↑m : Int).fdiv (Int.ofNat 1))].length + [BitVec.ofInt 8 ((↑m : Int).fdiv (Int.ofNat 256))].length + [BitVec.ofInt 8 ((↑m : Int).fdiv (Int.ofNat 65536))].length + [BitVec.ofInt 8 ((↑m : Int).fdiv (Int.ofNat 16777216))].length + [BitVec.ofInt 8 ((↑m : Int).fdiv (Int.ofNat 4294967296))].length + [BitVec.ofInt 8 ((↑m : Int).fdiv (Int.ofNat 1099511627776))].length + [BitVec.ofInt 8 ((↑m : Int).fdiv (Int.ofNat 281474976710656))].length = (l ++ [BitVec.ofInt 8 ((↑m : Int).fdiv (Int.ofNat 1))] ++ [BitVec.ofInt 8 ((↑m : Int).fdiv (Int.ofNat 256))] ++ [BitVec.ofInt 8 ((↑m : Int).fdiv (Int.ofNat 65536))] ++ [BitVec.ofInt 8 ((↑m : Int).fdiv (Int.ofNat 16777216))] ++ [BitVec.ofInt 8 ((↑m : Int).fdiv (Int.ofNat 4294967296))] ++ [BitVec.ofInt 8 ((↑m : Int).fdiv (Int.ofNat 1099511627776))] ++ [BitVec.ofInt 8 ((↑m : Int).fdiv (Int.ofNat 281474976710656))]).length ∧
 roomFor (L + [BitVec.ofInt 8 ((↑m : Int).fdiv (Int.ofNat 1))].length + [BitVec.ofInt 8 ((↑m : Int).fdiv (Int.ofNat 256))].length + [BitVec.ofInt 8 ((↑m : Int).fdiv (Int.ofNat 65536))].length + [BitVec.ofInt 8 ((↑m : Int).fdiv (Int.ofNat 16777216))].length + [BitVec.ofInt 8 ((↑m : Int).fdiv (Int.ofNat 4294967296))].length + [BitVec.ofInt 8 ((↑m : Int).fdiv (Int.ofNat 1099511627776))].length + [BitVec.ofInt 8 ((↑m : Int).fdiv (Int.ofNat 281474976710656))].length) [BitVec.ofInt 8 ((↑m : Int).fdiv (Int.ofNat 72057594037927936))].length 1 ∧
 0 = 0 ∧
 0 = 0 ∧
 0 = 0 ∧
 List.length (cnt l m) = L + [BitVec.ofInt 8 ((↑m : Int).fdiv (Int.ofNat 1))].length + [BitVec.ofInt 8 ((↑m : Int).fdiv (Int.ofNat 256))].length + [BitVec.ofInt 8 ((↑m : Int).fdiv (Int.ofNat 65536))].length + [BitVec.ofInt 8 ((↑m : Int).fdiv (Int.ofNat 16777216))].length + [BitVec.ofInt 8 ((↑m : Int).fdiv (Int.ofNat 4294967296))].length + [BitVec.ofInt 8 ((↑m : Int).fdiv (Int.ofNat 1099511627776))].length + [BitVec.ofInt 8 ((↑m : Int).fdiv (Int.ofNat 281474976710656))].length + [BitVec.ofInt 8 ((↑m : Int).fdiv (Int.ofNat 72057594037927936))].length ∧
 cnt l m = l ++ [BitVec.ofInt 8 ((↑m : Int).fdiv (Int.ofNat 1))] ++ [BitVec.ofInt 8 ((↑m : Int).fdiv (Int.ofNat 256))] ++ [BitVec.ofInt 8 ((↑m : Int).fdiv (Int.ofNat 65536))] ++ [BitVec.ofInt 8 ((↑m : Int).fdiv (Int.ofNat 16777216))] ++ [BitVec.ofInt 8 ((↑m : Int).fdiv (Int.ofNat 4294967296))] ++ [BitVec.ofInt 8 ((↑m : Int).fdiv (Int.ofNat 1099511627776))] ++ [BitVec.ofInt 8 ((↑m : Int).fdiv (Int.ofNat 281474976710656))] ++ [BitVec.ofInt 8 ((↑m : Int).fdiv (Int.ofNat 72057594037927936))] ∧
 True : Prop) := by kernel_rfl
end Go.Sym

namespace Go.Spec
theorem c8_eq (m s d : Nat) (hd : d = 2 ^ s) (hm : m < 1099511627776) : BitVec.ofInt 8 ((m : Int).fdiv (Int.ofNat d)) = c8 m s := by
  subst hd
  have e : (m : Int).fdiv (Int.ofNat (2 ^ s)) = ((m / 2 ^ s : Nat) : Int) := by
    show (m : Int).fdiv ((2 ^ s : Nat) : Int) = _
    rw [Int.fdiv_eq_ediv_of_nonneg _ (Int.natCast_nonneg _)]
    rfl
  apply BitVec.eq_of_toNat_eq
  unfold c8
  rw [e, BitVec.ofInt_natCast, BitVec.ofInt_natCast, BitVec.toNat_ofNat, BitVec.toNat_setWidth, BitVec.toNat_ushiftRight, BitVec.toNat_ofNat, Nat.shiftRight_eq_div_pow, Nat.mod_eq_of_lt (a := m) (by omega)]
theorem cnt_length (l : By) (m : Nat) : (cnt l m).length = l.length + 8 := by simp [cnt]
end Go.Spec
namespace Go.Sym
open Go.Proofs Go.Spec
set_option linter.unusedVariables false
set_option linter.unusedSimpArgs false
theorem b44n (b : By) (hb : b.length < 1099511627776) : Must (bodyP Tryd.prog T1 gl0 [] [(3, ls44 b)] 3000 Tryd.f65 0 [.nils, .rb false b .unk] [] (retQ Tryd.prog Tryd.f65 0 (r44 0 [] [] (filled b)))) := by
  constructor
  rw [vc44n]
  have hf := fillN_lt b.length
  refine ⟨by unfold roomFor; omega, ⟨0, Nat.zero_le _, rfl, rfl, rfl, rfl, by simp, trivial⟩, fun x hx => ?_⟩
  replace hx : x ≤ fillN b.length := hx
  refine brec (fun h => ?_) (fun h => ?_)
  · have h1 := fill_go hx (tmY16 h)
    exact ⟨rfl, by simp, by unfold roomFor; omega, x + 1, by omega, h1, rfl, rfl, rfl, rfl, rep_snoc _ _, trivial⟩
  · obtain rfl := fill_end hx (tmN16 h)
    exact ⟨rfl, rfl, rfl, filled_length _, rfl, trivial⟩
theorem b44 (l b : By) (L : Nat) (hL : L = l.length) (hb : l.length + b.length < 1099511627776) : Must (bodyP Tryd.prog T1 gl0 [] [(3, ls44 (l ++ b))] 3000 Tryd.f65 1 [.slice 0 0 1 L .ow .unk, .rb false b .unk] [⟨.bytes l, true, 1⟩] (retQ Tryd.prog Tryd.f65 1 (r44 1 [some none] [] (filled (l ++ b))))) := by
  constructor
  rw [vc44]
  have hf := fillN_lt (l ++ b).length
  have hl : (l ++ b).length = l.length + b.length := List.length_append
  refine ⟨hL, by unfold roomFor; omega, ⟨0, Nat.zero_le _, rfl, rfl, rfl, by omega, by simp, trivial⟩, fun x hx => ?_⟩
  replace hx : x ≤ fillN (l ++ b).length := hx
  refine brec (fun h => ?_) (fun h => ?_)
  · have h1 := fill_go hx (tmY16 h)
    exact ⟨rfl, by simp <;> omega, by unfold roomFor; omega, x + 1, by omega, h1, rfl, rfl, rfl, rfl, rep_snoc _ _, trivial⟩
  · obtain rfl := fill_end hx (tmN16 h)
    exact ⟨rfl, rfl, rfl, filled_length _, rfl, trivial⟩
theorem b45 (l : By) (L m : Nat) (hL : L = l.length) (hb : l.length < 1099511627776) (hm : m < 1099511627776) : Must (bodyP Tryd.prog T1 gl0 [] [] 3000 Tryd.f66 1 [.slice 0 0 1 L .ow .unk, .int .i64 (m : Int)] [⟨.bytes l, true, 1⟩] (retQ Tryd.prog Tryd.f66 1 (r44 1 [some none] [] (cnt l m)))) := by
  constructor
  rw [vc45]
  rw [c8_eq m 0 1 rfl hm, c8_eq m 8 256 rfl hm, c8_eq m 16 65536 rfl hm, c8_eq m 24 16777216 rfl hm, c8_eq m 32 4294967296 rfl hm, c8_eq m 40 1099511627776 rfl hm, c8_eq m 48 281474976710656 rfl hm, c8_eq m 56 72057594037927936 rfl hm]
  subst hL
  repeat refine And.intro (by first | exact Int.natCast_nonneg _ | exact Int.le_refl _ | exact cnt_length _ _ | (simp only [roomFor, List.length_append, List.length_cons, List.length_nil] <;> omega) | exact rfl) ?_
  trivial
end Go.Sym

namespace Go.Sym
open Go.Proofs Go.Spec
set_option linter.unusedVariables false
def ioOwn (xs : List AV) (h : H) : List Nat := match xs with | .slice i 0 1 _ .ow _ :: _ => [i] | _ => []
noncomputable def g44 (xs : List AV) (bs : List ABlk) : TL := match xs, bs with
  | [.nils, .rb false b .unk], [] => .ok (r44 0 [] [b.length < 1099511627776] (filled b))
  | [.slice 0 0 1 L .ow .unk, .rb false b .unk], [⟨.bytes l, true, 1⟩] => .ok (r44 1 [some none] [L = l.length ∧ l.length + b.length < 1099511627776] (filled (l ++ b)))
  | _, _ => .no
noncomputable def sp44 : Spec := ⟨[.kp, .by0], ioOwn, fun _ l => l.map fun _ => [], g44⟩
noncomputable def g45 (xs : List AV) (bs : List ABlk) : TL := match xs, bs with
  | [.slice 0 0 1 L .ow .unk, .int .i64 (.ofNat m)], [⟨.bytes l, true, 1⟩] => .ok (r44 1 [some none] [L = l.length ∧ l.length < 1099511627776 ∧ m < 1099511627776] (cnt l m))
  | _, _ => .no
noncomputable def sp45 : Spec := ⟨[.kp, .kp], ioOwn, fun _ l => l.map fun _ => [], g45⟩
noncomputable def X1 : Ctx := T1.add 65 (mkF sp44)
noncomputable def X2 : Ctx := X1.add 66 (mkF sp45)
end Go.Sym

namespace Go.Sym
open Go.Proofs Go.Spec
set_option linter.unusedVariables false
theorem okX1 : COKs Tryd.prog gl0 X1 := okT1.add <| by
  refine ctrE (fn := Tryd.f65) [] 3000 (by kernel_rfl) (by kernel_rfl) okT1 (by kernel_rfl) (fun args w => by kernel_rfl) fun xs bs r hs ho => ?_
  replace hs : (g44 xs bs).sel = some r := hs
  unfold g44 at hs
  split at hs
  · simp only [TL.sel, Option.some.injEq] at hs
    subst hs
    exact ⟨_, b44n _ (obsT_one.1 ho)⟩
  · simp only [TL.sel, Option.some.injEq] at hs
    subst hs
    have o := obsT_one.1 ho
    exact ⟨_, b44 _ _ _ o.1 o.2⟩
  · simp [TL.sel] at hs
theorem okX2 : COKs Tryd.prog gl0 X2 := okX1.add <| by
  refine ctrE (fn := Tryd.f66) [] 3000 (by kernel_rfl) (by kernel_rfl) okT1 (by kernel_rfl) (fun args w => by kernel_rfl) fun xs bs r hs ho => ?_
  replace hs : (g45 xs bs).sel = some r := hs
  unfold g45 at hs
  split at hs
  · simp only [TL.sel, Option.some.injEq] at hs
    subst hs
    have o := obsT_one.1 ho
    exact ⟨_, b45 _ _ _ o.1 o.2.1 o.2.2⟩
  · simp [TL.sel] at hs
end Go.Sym
