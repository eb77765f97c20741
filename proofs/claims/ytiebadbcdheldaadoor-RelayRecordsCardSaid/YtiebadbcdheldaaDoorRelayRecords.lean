/- RelayRecords: texts that are sealed by numbers that were reserved come out of the stream of their bytes again, in whatever pieces. Condition: the tables of the packages start as the text of the program lays them, which the card ties. -/
import Derived.Test.YtiebadbcdheldaaDoorRelA
import Derived.Test.YtiebadbcdheldaaDoorRelB
import Derived.Test.YtiebadbcdheldaaDoorShaB
import Derived.Test.YtiebadbcdheldaaDoorChaC
namespace Go.Spec
open Go.Sym
/-- A text, as far as it is sent. -/
def rdT (F : Nat → By) (j : Nat) : By := List.take (Min.min (↑(List.length (F j)) : Int) (256 : Int)).toNat (F j)
/-- The keys out of a secret, as the calls meet them. -/
noncomputable def rsK (key : F8) : F8 := fun i => (rgA (dkB (rg 32 key)) 0 32 (rg 12 (diB (rg 32 key)))).getD i 0
noncomputable def rsI (key : F8) : F8 := fun i => (rgA (dkB (rg 32 key)) 0 32 (rg 12 (diB (rg 32 key)))).getD (32 + i) 0
/-- All the bytes that are sent. -/
noncomputable def rdB' (key : F8) (F : Nat → By) (n : Nat) : By := rcat (rsK key) (rsI key) (rdT F) 0 n
structure RrS where
  i : Nat
  a : Nat
  x : Nat
  L : By
def RrS.M (z : RrS) : By := z.L.drop z.x
structure rrI (key : F8) (F : Nat → By) (N lim : Nat) (z : RrS) : Prop where
  hx : z.x ≤ z.L.length
  hL : z.L.length ≤ 5560
  ha : z.a ≤ N
  hM : z.M ++ (rdB' key F N).drop (min lim (rdB' key F N).length) = rcat (rsK key) (rsI key) (rdT F) z.a (N - z.a)
structure rrJ (key : F8) (F : Nat → By) (N : Nat) (z : RrS) : Prop extends rrI key F N z.i z where
  hi : z.i ≤ 6000
  hO : stO z.M = false
structure rrG (key : F8) (F : Nat → By) (N i0 st : Nat) (z : RrS) : Prop extends rrI key F N (i0 + st) z where
  hi : z.i = i0
end Go.Spec
namespace Go.Sym
open Go.Proofs Go.Spec
set_option linter.unusedVariables false
noncomputable def lsR1 (key : F8) (m : Nat) (F : Nat → By) (C : Nat → Bool) (c : Bool) (n : Int) : LS := ⟨Nat, fun i => [(1, .ros true 1 m (fun j => [.rb true (F j) (.is (C j))]) (.is c)), (2, .int .i64 n), (7, .ptr 100 0 0 0), (8, .ptr 101 0 0 0), (9, .slice 102 0 1 (rdB' key F i).length .ow .unk), (10, .slice 103 0 1 i .ow .unk), (11, .int .i64 i)],
  fun i => [(100, ⟨.cells (rw8 32 (dkB (rg 32 key)) ++ rw8 12 (diB (rg 32 key))), true, 0⟩), (101, ⟨.cells [.int .i64 0, .int .i64 i, .int .i64 (c8u i)], true, 0⟩), (102, ⟨.bytes (rdB' key F i), true, 1⟩), (103, ⟨.rows 1 i (fun j => [.rb true (rdT F j) (.is (C j))]), true, 1⟩)], 1000, fun i => 20 - i, fun i => i ≤ m ∧ i ≤ 20, fun _ => []⟩
noncomputable def rrE (key : F8) (F : Nat → By) (N st : Nat) (z : RrS) : List (Nat × AV) := [(7, .ptr 100 0 0 0), (9, .slice 102 0 1 (rdB' key F N).length .ow .unk), (10, .slice 103 0 1 N .ow .unk), (19, .ptr 104 0 0 0), (20, .int .i64 z.a), (21, .int .i64 st), (22, .int .i64 z.i)]
noncomputable def rrK (key : F8) (F : Nat → By) (C : Nat → Bool) (N : Nat) (z : RrS) : List (Nat × ABlk) := [(100, ⟨.cells (rw8 32 (dkB (rg 32 key)) ++ rw8 12 (diB (rg 32 key))), true, 0⟩), (102, ⟨.bytes (rdB' key F N), true, 1⟩), (103, ⟨.rows 1 N (fun j => [.rb true (rdT F j) (.is (C j))]), true, 1⟩),
  (104, ⟨.cells [.slice 105 z.x 1 (z.L.length - z.x) .ox .unk, .int .i64 0], true, 0⟩), (105, ⟨.bytes z.L, true, 1⟩)]
noncomputable def lsR3 (key : F8) (F : Nat → By) (C : Nat → Bool) (N st i0 : Nat) : LS := ⟨RrS, rrE key F N st, rrK key F C N, 2000, fun z => N + 1 - z.a, rrG key F N i0 st, fun _ => []⟩
noncomputable def lsR2 (key : F8) (F : Nat → By) (C : Nat → Bool) (N st : Nat) : LS := ⟨RrS, rrE key F N st, rrK key F C N, 1000, fun z => (rdB' key F N).length + 1 - z.i, rrJ key F N, fun z => [(26, lsR3 key F C N st z.i)]⟩
noncomputable def lsRr (key : F8) (m : Nat) (F : Nat → By) (C : Nat → Bool) (c : Bool) (n : Int) (st : Nat) : List (Nat × LS) := [(7, lsR1 key m F C c n), (22, lsR2 key F C (min m 20) st)]
noncomputable def V6 : Ctx := (((V5.add 21 (mkF spt69)).add 22 (mkF feSp)).add 23 (mkF (reSp 1 gt64))).add 25 (mkF (reSp 1 gt67))
theorem okV6 : COKs Tryd.prog gl0 V6 := (((okV5.add ct69).add ct66).add ct64).add ct67
noncomputable def V7 : Ctx := V6.withSym [60, 61, 64, 65, 169, 170]
theorem okV7 : COKs Tryd.prog gl0 V7 := okV6.withSym _
end Go.Sym

namespace Go.Sym
open Go.Proofs Go.Spec
set_option linter.unusedVariables false
/-- What the second loop of the law must be shown to do. -/
def rrV (key : F8) (m : Nat) (F : Nat → By) (C : Nat → Bool) (st : Nat) : Prop := (let x1 := List.length (rdB' key F (Min.min m 20)); let x2 := rgA (dkB (rg 32 key)) 0 32 (rg 12 (diB (rg 32 key))); let x3 := ∀ (y : Nat), y < Min.min m 20 → datas Bool.false [AV.rb Bool.true (rdT F y) (NL.is (C y))] = Bool.true ∧ [AV.rb Bool.true (rdT F y) (NL.is (C y))] = [AV.rb Bool.true (rdT F y) (NL.is (C y))]; let x4 := fun (i : Nat) => x2.getD (32 + i) (0 : BitVec 8); let x5 := Min.min m 20 = Min.min m 20; let x6 := fun (i : Nat) => x2.getD i (0 : BitVec 8); let x7 := fun (i : Nat) => diB (rg 32 key) i = diB (rg 32 key) i; let x8 := fun (i : Nat) => dkB (rg 32 key) i = dkB (rg 32 key) i; let x9 := rdB' key F (Min.min m 20) = rdB' key F (Min.min m 20); ∀ (x : RrS), let x1_1 := let x1_1 := List.take (minus (Min.min (IntKind.i64.wrap ((↑x.i : Int) + (↑st : Int))) (↑x1 : Int)).toNat (Min.min (↑x.i : Int) (↑x1 : Int)).toNat) (dropN (Min.min (↑x.i : Int) (↑x1 : Int)).toNat (rdB' key F (Min.min m 20))); (0 : Int) ≤ Min.min (↑x.i : Int) (↑x1 : Int) ∧ (0 : Int) ≤ Min.min (IntKind.i64.wrap ((↑x.i : Int) + (↑st : Int))) (↑x1 : Int) ∧ (Min.min (↑x.i : Int) (↑x1 : Int)).toNat ≤ (Min.min (IntKind.i64.wrap ((↑x.i : Int) + (↑st : Int))) (↑x1 : Int)).toNat ∧ (Min.min (IntKind.i64.wrap ((↑x.i : Int) + (↑st : Int))) (↑x1 : Int)).toNat ≤ x1 ∧ (Min.min (↑x.i : Int) (↑x1 : Int)).toNat + minus (Min.min (IntKind.i64.wrap ((↑x.i : Int) + (↑st : Int))) (↑x1 : Int)).toNat (Min.min (↑x.i : Int) (↑x1 : Int)).toNat ≤ x1 ∧ x.x + (List.length x.L - x.x) = List.length x.L ∧ List.length x.L + x1_1.length < 1099511627776 ∧ (∃ (x_1 : RrS), rrG key F (Min.min m 20) x.i st x_1 ∧ 0 = 0 ∧ 0 = 0 ∧ 0 = 0 ∧ 0 = 0 ∧ x1 = x1 ∧ 0 = 0 ∧ 0 = 0 ∧ 0 = 0 ∧ x5 ∧ 0 = 0 ∧ (↑x_1.a : Int) = (↑x.a : Int) ∧ (↑st : Int) = (↑st : Int) ∧ (↑x_1.i : Int) = (↑x.i : Int) ∧ allP x8 0 32 (allP x7 0 12 (x9 ∧ x5 ∧ x3 ∧ x_1.x = 0 ∧ 0 = 0 ∧ x_1.x = 0 ∧ List.length x_1.L - x_1.x = List.length x.L - x.x + x1_1.length ∧ (0 : Int) = (0 : Int) ∧ x_1.L = List.drop x.x x.L ++ x1_1 ∧ True))) ∧ ∀ (x_1 : RrS), let x1_2 := opM x6 x4 (BitVec.ofInt 64 (↑x_1.a : Int)) (stB (List.drop x_1.x x_1.L)); rrG key F (Min.min m 20) x.i st x_1 → x_1.x + (List.length x_1.L - x_1.x) = List.length x_1.L ∧ List.length x_1.L < 1099511627776 ∧ @Bool.rec (fun _ => Prop) (@Bool.rec (fun _ => Prop) (@Bool.rec (fun _ => Prop) (List.length (stB (List.drop x_1.x x_1.L)) = List.length (stB (List.drop x_1.x x_1.L)) ∧ List.length (stB (List.drop x_1.x x_1.L)) < 549755813888 ∧ @Bool.rec (fun _ => Prop) (Bool.true = Bool.false ∧ True) (Bool.true = Bool.false ∧ True) !!decide (stK (List.drop x_1.x x_1.L) = (23 : Int))) (List.length (stB (List.drop x_1.x x_1.L)) = List.length (stB (List.drop x_1.x x_1.L)) ∧ List.length (stB (List.drop x_1.x x_1.L)) < 549755813888 ∧ @Bool.rec (fun _ => Prop) (Bool.true = Bool.false ∧ True) (@Bool.rec (fun _ => Prop) (Bool.true = Bool.false ∧ True) (@Bool.rec (fun _ => Prop) (Bool.true = Bool.false ∧ True) (0 + (trimN (BitVec.ofNat 8 0) x1_2 - 1) ≤ List.length x1_2 ∧ (0 : Int) ≤ (↑x_1.a : Int) ∧ (↑x_1.a : Int).toNat < Min.min m 20 ∧ (↑x_1.a : Int).toNat < Min.min m 20 ∧ @Bool.rec (fun _ => Prop) (∃ (y : RrS), Min.min m 20 + 1 - y.a < Min.min m 20 + 1 - x_1.a ∧ rrG key F (Min.min m 20) x.i st y ∧ 0 = 0 ∧ 0 = 0 ∧ 0 = 0 ∧ 0 = 0 ∧ x1 = x1 ∧ 0 = 0 ∧ 0 = 0 ∧ 0 = 0 ∧ x5 ∧ 0 = 0 ∧ (↑y.a : Int) = IntKind.i64.wrap ((↑x_1.a : Int) + (1 : Int)) ∧ (↑st : Int) = (↑st : Int) ∧ (↑y.i : Int) = (↑x_1.i : Int) ∧ allP x8 0 32 (allP x7 0 12 (x9 ∧ x5 ∧ x3 ∧ y.x = x_1.x + stX (List.drop x_1.x x_1.L) ∧ 0 = 0 ∧ y.x = x_1.x + stX (List.drop x_1.x x_1.L) ∧ List.length y.L - y.x = List.length x_1.L - (x_1.x + stX (List.drop x_1.x x_1.L)) ∧ (0 : Int) = stF (List.drop x_1.x x_1.L) ∧ y.L = x_1.L ∧ True))) (Bool.true = Bool.false ∧ True) !decide (List.take (trimN (BitVec.ofNat 8 0) x1_2 - 1) x1_2 = rdT F (↑x_1.a : Int).toNat)) !decide ((↑(Min.min m 20) : Int) ≤ (↑x_1.a : Int))) !!decide (lastT x1_2 = (23 : Int))) !!decide (stK (List.drop x_1.x x_1.L) = (23 : Int))) (decide (recE x6 x4 (BitVec.ofInt 64 (↑x_1.a : Int)) (stB (List.drop x_1.x x_1.L)) = (0 : Int)))) (∃ (y : RrS), x1 + 1 - y.i < x1 + 1 - x.i ∧ rrJ key F (Min.min m 20) y ∧ 0 = 0 ∧ 0 = 0 ∧ 0 = 0 ∧ 0 = 0 ∧ x1 = x1 ∧ 0 = 0 ∧ 0 = 0 ∧ 0 = 0 ∧ x5 ∧ 0 = 0 ∧ (↑y.a : Int) = (↑x_1.a : Int) ∧ (↑st : Int) = (↑st : Int) ∧ (↑y.i : Int) = IntKind.i64.wrap ((↑x_1.i : Int) + (↑st : Int)) ∧ allP x8 0 32 (allP x7 0 12 (x9 ∧ x5 ∧ x3 ∧ y.x = x_1.x + stX (List.drop x_1.x x_1.L) ∧ 0 = 0 ∧ y.x = x_1.x + stX (List.drop x_1.x x_1.L) ∧ List.length y.L - y.x = List.length x_1.L - (x_1.x + stX (List.drop x_1.x x_1.L)) ∧ (0 : Int) = stF (List.drop x_1.x x_1.L) ∧ y.L = x_1.L ∧ True))) !stO (List.drop x_1.x x_1.L)) (Bool.true = Bool.false ∧ True) !decide (stF (List.drop x_1.x x_1.L) = (0 : Int)); rrJ key F (Min.min m 20) x → @Bool.rec (fun _ => Prop) x1_1 (@Bool.rec (fun _ => Prop) (@Bool.rec (fun _ => Prop) (Bool.true = Bool.false ∧ True) (x.x + (List.length x.L - x.x) = List.length x.L ∧ List.length x.L < 1099511627776 ∧ Bool.true = decide ((↑(List.drop x.x x.L).length : Int) = (0 : Int)) ∧ True) (decide ((↑x.a : Int) = (↑(Min.min m 20) : Int)))) x1_1 (decide ((↑x.i : Int) = (0 : Int)))) !decide ((↑x.i : Int) < (↑x1 : Int)) : Prop)
set_option maxRecDepth 100000 in
theorem vrr (key : F8) (m : Nat) (F : Nat → By) (C : Nat → Bool) (c : Bool) (n : Int) (st : Nat) : bodyP Tryd.prog V7 gl0 [] (lsRr key m F C c n st) 3000 Tryd.f5 0 [aggB 32 key, .ros true 1 m (fun j => [.rb true (F j) (.is (C j))]) (.is c), .int .i64 n] [] (retQ Tryd.prog Tryd.f5 0 ⟨[], .bool true, [], []⟩) = (
let x1 := rrV key m F C st; let x2 := rgA (dkB (rg 32 key)) 0 32 (rg 12 (diB (rg 32 key))); let x3 := fun (i : Nat) => x2.getD (32 + i) (0 : BitVec 8); let x4 := ∀ (y : Nat), y < Min.min m 20 → datas Bool.false [AV.rb Bool.true (rdT F y) (NL.is (C y))] = Bool.true ∧ [AV.rb Bool.true (rdT F y) (NL.is (C y))] = [AV.rb Bool.true (rdT F y) (NL.is (C y))]; (∃ (x : Nat), (x ≤ m ∧ x ≤ 20) ∧ c = c ∧ m = m ∧ (∀ (y : Nat), y < m → datas Bool.true [AV.rb Bool.true (F y) (NL.is (C y))] = Bool.true ∧ C y = C y ∧ F y = F y ∧ True) ∧ n = n ∧ 0 = 0 ∧ 0 = 0 ∧ List.length (rdB' key F x) = 0 ∧ x = 0 ∧ (↑x : Int) = (0 : Int) ∧ allP (fun (i : Nat) => dkB (rg 32 key) i = dkB (rg 32 key) i) 0 32 (allP (fun (i : Nat) => diB (rg 32 key) i = diB (rg 32 key) i) 0 12 ((0 : Int) = Int.ofNat 0 ∧ (↑x : Int) = (0 : Int) ∧ (↑(c8u x) : Int) = (0 : Int) ∧ rdB' key F x = [] ∧ x = 0 ∧ True))) ∧ ∀ (x : Nat), let x1 := 0 < 1099511627776 ∧ (∃ (x_1 : RrS), rrJ key F (Min.min m 20) x_1 ∧ 0 = 0 ∧ 0 = 0 ∧ 0 = 0 ∧ 0 = 0 ∧ List.length (rdB' key F (Min.min m 20)) = List.length (rdB' key F x) ∧ 0 = 0 ∧ 0 = 0 ∧ 0 = 0 ∧ Min.min m 20 = x ∧ 0 = 0 ∧ (↑x_1.a : Int) = (0 : Int) ∧ (↑st : Int) = IntKind.i64.wrap ((1 : Int) + IntKind.i64.wrap (↑(BitVec.ofInt 64 n % BitVec.ofNat 64 300).toNat : Int)) ∧ (↑x_1.i : Int) = (0 : Int) ∧ allP (fun (i : Nat) => dkB (rg 32 key) i = dkB (rg 32 key) i) 0 32 (allP (fun (i : Nat) => diB (rg 32 key) i = diB (rg 32 key) i) 0 12 (rdB' key F (Min.min m 20) = rdB' key F x ∧ Min.min m 20 = x ∧ x4 ∧ x_1.x = 0 ∧ 0 = 0 ∧ x_1.x = 0 ∧ List.length x_1.L - x_1.x = 0 ∧ (0 : Int) = (0 : Int) ∧ x_1.L = [] ∧ True))) ∧ x1; let x2_1 := List.take (Min.min (↑(List.length (F (↑x : Int).toNat)) : Int) (256 : Int)).toNat (F (↑x : Int).toNat); let x3_1 := Max.max (↑(c8u x) : Int) (((↑x : Int) + Min.min (1 : Int) ((64 : Int) - (↑x : Int)) + (7 : Int)) / (8 : Int) * (8 : Int)); let x4 := gR (0 : Int) (↑x : Int) (gW (↑x : Int) (↑(c8u x) : Int) (1 : Int)) ∧ (0 : Int) ≤ (↑x : Int) ∧ (↑x : Int).toNat < m ∧ (0 : Int) ≤ (↑x : Int) ∧ (↑x : Int).toNat < m ∧ (0 : Int) ≤ Min.min (↑(List.length (F (↑x : Int).toNat)) : Int) (256 : Int) ∧ (Min.min (↑(List.length (F (↑x : Int).toNat)) : Int) (256 : Int)).toNat ≤ List.length (F (↑x : Int).toNat) ∧ @Bool.rec (fun _ => Prop) (Bool.true = Bool.false ∧ True) (x2_1.length < 549755813888 ∧ Bool.true = Bool.false ∧ True) (recBad (23 : Int) (0 : Int) x2_1.length); let x5 := recS (fun (i : Nat) => x2.getD i (0 : BitVec 8)) x3 (BitVec.ofInt 64 (↑x : Int)) (23 : Int) (0 : Int) x2_1; x ≤ m ∧ x ≤ 20 → @Bool.rec (fun _ => Prop) x1 (@Bool.rec (fun _ => Prop) x1 (gR (0 : Int) (↑x : Int) (↑(c8u x) : Int) ∧ ((0 : Int) ≤ (1 : Int) ∧ (1 : Int) ≤ (64 : Int)) ∧ gR (0 : Int) (↑x : Int) (↑(c8u x) : Int) ∧ (↑(c8u x) : Int) ≤ x3_1 ∧ x3_1 ≤ (64 : Int) ∧ x3_1 % (8 : Int) = (0 : Int) ∧ @Bool.rec (fun _ => Prop) (@Bool.rec (fun _ => Prop) (gR (0 : Int) (↑x : Int) (gW (↑x : Int) (↑(c8u x) : Int) (1 : Int)) ∧ (0 : Int) ≤ (↑x : Int) ∧ (↑x : Int).toNat < m ∧ (0 : Int) ≤ (↑x : Int) ∧ (↑x : Int).toNat < m ∧ (0 : Int) ≤ Min.min (↑(List.length (F (↑x : Int).toNat)) : Int) (256 : Int) ∧ (Min.min (↑(List.length (F (↑x : Int).toNat)) : Int) (256 : Int)).toNat ≤ List.length (F (↑x : Int).toNat) ∧ @Bool.rec (fun _ => Prop) (@Bool.rec (fun _ => Prop) (List.length x5 = List.length x5 ∧ List.length (rdB' key F x) = List.length (rdB' key F x) ∧ roomFor (List.length (rdB' key F x)) (List.length x5) 1 ∧ x = x ∧ roomFor x 1 24 ∧ ∃ (y : Nat), 20 - y < 20 - x ∧ (y ≤ m ∧ y ≤ 20) ∧ c = c ∧ m = m ∧ (∀ (y : Nat), y < m → datas Bool.true [AV.rb Bool.true (F y) (NL.is (C y))] = Bool.true ∧ C y = C y ∧ F y = F y ∧ True) ∧ n = n ∧ 0 = 0 ∧ 0 = 0 ∧ 0 = 0 ∧ 0 = 0 ∧ 0 = 0 ∧ List.length (rdB' key F y) = List.length (rdB' key F x) + List.length x5 ∧ 0 = 0 ∧ 0 = 0 ∧ 0 = 0 ∧ y = x + 1 ∧ (↑y : Int) = IntKind.i64.wrap ((↑x : Int) + (1 : Int)) ∧ allP (fun (i : Nat) => dkB (rg 32 key) i = dkB (rg 32 key) i) 0 32 (allP (fun (i : Nat) => diB (rg 32 key) i = diB (rg 32 key) i) 0 12 ((0 : Int) = (0 : Int) ∧ (↑y : Int) = (↑x : Int) + (1 : Int) ∧ (↑(c8u y) : Int) = x3_1 ∧ rdB' key F y = rdB' key F x ++ x5 ∧ y = x + 1 ∧ (∀ (y_1 : Nat), y_1 < y → datas Bool.false [AV.rb Bool.true (rdT F y_1) (NL.is (C y_1))] = Bool.true ∧ glue (fun (j : Nat) => [AV.rb Bool.true (rdT F j) (NL.is (C j))]) x (cut 1 (List.take 1 (List.drop 0 [AV.rb Bool.true x2_1 (NL.is (C (↑x : Int).toNat))]))) y_1 = [AV.rb Bool.true (rdT F y_1) (NL.is (C y_1))]) ∧ True))) (Bool.true = Bool.false ∧ True) !decide ((↑x : Int) = (↑x : Int))) (x2_1.length < 549755813888 ∧ Bool.true = Bool.false ∧ True) (recBad (23 : Int) (0 : Int) x2_1.length)) x4 (decide ((↑x : Int) = x3_1))) x4 (decide ((↑x : Int) = (64 : Int)))) (decide ((↑x : Int) < (20 : Int)))) (decide ((↑x : Int) < (↑m : Int))) : Prop) := by kernel_rfl
end Go.Sym

namespace Go.Spec
open Go.Sym
theorem rdT_le (F : Nat → By) (j : Nat) : (rdT F j).length ≤ 256 := by
  unfold rdT
  rw [List.length_take]
  omega
theorem rdB_le (key : F8) (F : Nat → By) (n : Nat) (h : n ≤ 20) : (rdB' key F n).length ≤ 5560 := by
  have := rcat_len (k := rsK key) (iv := rsI key) (rdT_le F) n 0
  unfold rdB'
  omega
/-- A piece out of the bytes, and what is behind it. -/
theorem cut_more (B : By) (a b : Nat) (h1 : a ≤ b) (h2 : b ≤ B.length) : (B.take b).drop a ++ B.drop b = B.drop a := by
  have : B.drop a = ((B.take b) ++ B.drop b).drop a := by rw [List.take_append_drop]
  rw [this, List.drop_append_of_le_length (by rw [List.length_take]; omega)]
section
variable {key : F8} {F : Nat → By} {N : Nat} (hN : N ≤ 20)
include hN
/-- A piece comes. -/
theorem rr_piece {i st : Nat} {z : RrS} (h : rrI key F N i z) : rrI key F N (i + st) ⟨i, z.a, 0, z.L.drop z.x ++ ((rdB' key F N).take (min (i + st) (rdB' key F N).length)).drop (min i (rdB' key F N).length)⟩ := by
  have hM := h.hM
  have hc := cut_more (rdB' key F N) (min i (rdB' key F N).length) (min (i + st) (rdB' key F N).length) (by omega) (by omega)
  have hM2 : (RrS.M ⟨i, z.a, 0, z.L.drop z.x ++ ((rdB' key F N).take (min (i + st) (rdB' key F N).length)).drop (min i (rdB' key F N).length)⟩) ++ (rdB' key F N).drop (min (i + st) (rdB' key F N).length) = rcat (rsK key) (rsI key) (rdT F) z.a (N - z.a) := by
    show List.drop 0 (z.L.drop z.x ++ ((rdB' key F N).take (min (i + st) (rdB' key F N).length)).drop (min i (rdB' key F N).length)) ++ _ = _
    rw [List.drop_zero, List.append_assoc, hc]
    exact hM
  refine ⟨Nat.zero_le _, ?_, h.ha, hM2⟩
  have hl := rcat_len (k := rsK key) (iv := rsI key) (rdT_le F) (N - z.a) z.a
  rw [← hM2, List.length_append] at hl
  have e : RrS.M ⟨i, z.a, 0, z.L.drop z.x ++ ((rdB' key F N).take (min (i + st) (rdB' key F N).length)).drop (min i (rdB' key F N).length)⟩ = z.L.drop z.x ++ ((rdB' key F N).take (min (i + st) (rdB' key F N).length)).drop (min i (rdB' key F N).length) := List.drop_zero
  rw [e] at hl
  show (z.L.drop z.x ++ ((rdB' key F N).take (min (i + st) (rdB' key F N).length)).drop (min i (rdB' key F N).length)).length ≤ 5560
  omega
end
end Go.Spec
namespace Go.Sym
open Go.Proofs Go.Spec
set_option linter.unusedVariables false
/-- A record of a text, opened again. -/
theorem txt_open (K I : Nat → BitVec 8) (s : BitVec 64) (t : By) (ht : t.length ≤ 256) :
    (recB K I s 23 0 t).length < 549755813888 ∧ recE K I s (recB K I s 23 0 t) = 0 ∧ opM K I s (recB K I s 23 0 t) = recI 23 0 t ∧ lastT (recI 23 0 t) = 23 ∧
    trimN (BitVec.ofNat 8 0) (recI 23 0 t) - 1 = t.length ∧ (recI 23 0 t).take t.length = t ∧ (recI 23 0 t).length = t.length + 1 := by
  have hb : recBad 23 0 t.length = false := recBad_no (by decide) (by decide) (by decide) (by omega)
  have h1 : trimN (BitVec.ofNat 8 0) (recI 23 0 t) = t.length + 1 := trim_recI t (by decide) (by decide)
  rw [h1]
  exact ⟨by rw [rec_len0]; omega, recE_recB K I s hb, opM_recB K I s 23 0 t, lastT_recI t (by decide) (by decide), rfl, take_recI 23 0 t, recI_length 23 0 t⟩
set_option maxRecDepth 100000 in
theorem hrrV (key : Nat → BitVec 8) (m : Nat) (F : Nat → By) (C : Nat → Bool) (st : Nat) (h1 : 1 ≤ st) (h300 : st ≤ 300) : rrV key m F C st := by
  have hN : min m 20 ≤ 20 := Nat.min_le_right _ _
  have hB := rdB_le key F (min m 20) hN
  unfold rrV
  intro z1 z2 z3 z4 z5 z6 z7 z8 z9 x y1 hJ
  have hz3 : z3 := fun y hy => ⟨rfl, rfl⟩
  have hz5 : z5 := rfl
  have hz9 : z9 := rfl
  have hz87 : ∀ r : Prop, r → allP z8 0 32 (allP z7 0 12 r) := fun r hr => allP_of _ _ (fun _ _ _ => rfl) (allP_of _ _ (fun _ _ _ => rfl) hr)
  have hz1 : z1 = (rdB' key F (min m 20)).length := rfl
  have hz6 : z6 = rsK key := rfl
  have hz4 : z4 = rsI key := rfl
  have hx := hJ.hx
  have hL := hJ.hL
  have ha := hJ.ha
  have hM := hJ.hM
  have hi := hJ.hi
  have hO := hJ.hO
  have hy1 : (x.i < z1 ∨ x.i = 0) → y1 := by
    intro hlt
    unfold y1
    intro w1
    have w0 : IntKind.i64.wrap ((x.i : Int) + (st : Int)) = ((x.i + st : Nat) : Int) := wrap_nat _ (by omega) (by omega)
    have e1 : (min (IntKind.i64.wrap ((x.i : Int) + (st : Int))) (z1 : Int)).toNat = min (x.i + st) z1 := by rw [w0]; omega
    have e2 : (min (x.i : Int) (z1 : Int)).toNat = min x.i z1 := by omega
    have hw1 : w1 = ((rdB' key F (min m 20)).take (min (x.i + st) z1)).drop (min x.i z1) := by
      show List.take (minus (min (IntKind.i64.wrap ((x.i : Int) + (st : Int))) (z1 : Int)).toNat (min (x.i : Int) (z1 : Int)).toNat) (dropN (min (x.i : Int) (z1 : Int)).toNat (rdB' key F (min m 20))) = _
      rw [e1, e2, minus_eq, dropN_eq, List.drop_take]
    have hwl : w1.length ≤ 5560 := by
      rw [hw1, List.length_drop, List.length_take]
      omega
    have hp := rr_piece hN (i := x.i) (st := st) hJ.torrI
    rw [← hz1, ← hw1] at hp
    rw [e1, e2, minus_eq]
    clear_value w1
    refine ⟨by omega, by rw [w0]; omega, by omega, by omega, by omega, by omega, by omega, ⟨⟨x.i, x.a, 0, List.drop x.x x.L ++ w1⟩, ⟨hp, rfl⟩, rfl, rfl, rfl, rfl, rfl, rfl, rfl, rfl, hz5, rfl, rfl, rfl, rfl, hz87 _ ⟨hz9, hz5, hz3, rfl, rfl, rfl, ?_, rfl, rfl, trivial⟩⟩, ?_⟩
    · show (List.drop x.x x.L ++ w1).length - 0 = x.L.length - x.x + w1.length
      rw [List.length_append, List.length_drop]
      omega
    · intro z w2 hG
      have gx := hG.hx
      have gL := hG.hL
      have ga := hG.ha
      have gM := hG.hM
      have gi := hG.hi
      have hF : stF (List.drop z.x z.L) = 0 := rr_F (rdT_le F) ga gM
      refine ⟨by omega, by omega, ?_⟩
      refine brec (fun h => absurd hF (ntf h)) (fun _ => ?_)
      refine brec (fun h => ?_) (fun h => ?_)
      · -- nothing more to be taken
        have hO2 : stO (List.drop z.x z.L) = false := by simpa using h
        have hX : stX (List.drop z.x z.L) = 0 := stX_no hO2
        refine ⟨⟨z.i + st, z.a, z.x, z.L⟩, ?_, ⟨⟨gx, gL, ga, ?_⟩, ?_, hO2⟩, rfl, rfl, rfl, rfl, rfl, rfl, rfl, rfl, hz5, rfl, rfl, rfl, ?_, hz87 _ ⟨hz9, hz5, hz3, ?_, rfl, ?_, ?_, hF.symm, rfl, trivial⟩⟩
        · show z1 + 1 - (z.i + st) < z1 + 1 - x.i
          omega
        · show RrS.M z ++ List.drop (min (z.i + st) (rdB' key F (min m 20)).length) (rdB' key F (min m 20)) = _
          rw [gi]
          exact gM
        · show z.i + st ≤ 6000
          omega
        · exact (wrap_nat (z.i + st) (by omega) (by omega)).symm
        · show z.x = z.x + stX (List.drop z.x z.L)
          omega
        · show z.x = z.x + stX (List.drop z.x z.L)
          omega
        · show z.L.length - z.x = z.L.length - (z.x + stX (List.drop z.x z.L))
          omega
      · -- a record
        have hO2 : stO (List.drop z.x z.L) = true := by simpa using h
        obtain ⟨r1, r2, r3, r4, r5⟩ := rr_O (rdT_le F) ga gM hO2
        have r2 : stK (List.drop z.x z.L) = 23 := r2
        have r3 : stB (List.drop z.x z.L) = recB (rsK key) (rsI key) (BitVec.ofInt 64 (z.a : Int)) 23 0 (rdT F z.a) := r3
        have r4 : stX (List.drop z.x z.L) ≤ (List.drop z.x z.L).length := r4
        rw [List.length_drop] at r4
        obtain ⟨t1, t2, t3, t4, t5, t6, t7⟩ := txt_open (rsK key) (rsI key) (BitVec.ofInt 64 (z.a : Int)) (rdT F z.a) (rdT_le F z.a)
        have hw2 : w2 = recI 23 0 (rdT F z.a) := by
          show opM (rsK key) (rsI key) (BitVec.ofInt 64 (z.a : Int)) (stB (List.drop z.x z.L)) = _
          rw [r3]
          exact t3
        have hE : recE z6 z4 (BitVec.ofInt 64 (z.a : Int)) (stB (List.drop z.x z.L)) = 0 := by
          rw [r3]
          exact t2
        have hl : (stB (List.drop z.x z.L)).length < 549755813888 := by rw [r3]; exact t1
        rw [← hw2] at t4 t5 t6 t7
        clear_value w2
        refine brec (fun _ => ?_) (fun h => absurd hE (df' h))
        refine ⟨rfl, hl, ?_⟩
        refine brec (fun _ => ?_) (fun h => absurd r2 (nnf h))
        refine brec (fun _ => ?_) (fun h => absurd t4 (nnf h))
        refine brec (fun _ => ?_) (fun h => ?_)
        · have et : List.take (trimN (BitVec.ofNat 8 0) w2 - 1) w2 = rdT F z.a := by rw [t5]; exact t6
          refine ⟨by rw [t5, t7]; omega, by omega, by omega, by omega, ?_⟩
          refine brec (fun h => absurd et (ntf h)) (fun _ => ?_)
          refine ⟨⟨z.i, z.a + 1, z.x + stX (List.drop z.x z.L), z.L⟩, ?_, ⟨⟨?_, gL, ?_, ?_⟩, gi⟩, rfl, rfl, rfl, rfl, rfl, rfl, rfl, rfl, hz5, rfl, (wrap_nat (z.a + 1) (by omega) (by omega)).symm, rfl, rfl, hz87 _ ⟨hz9, hz5, hz3, rfl, rfl, rfl, rfl, hF.symm, rfl, trivial⟩⟩
          · show min m 20 + 1 - (z.a + 1) < min m 20 + 1 - z.a
            omega
          · show z.x + stX (List.drop z.x z.L) ≤ z.L.length
            omega
          · show z.a + 1 ≤ min m 20
            omega
          · show List.drop (z.x + stX (List.drop z.x z.L)) z.L ++ _ = _
            rw [← List.drop_drop]
            exact r5
        · exfalso
          have h : (!decide (((min m 20 : Nat) : Int) ≤ (z.a : Int))) = false := h
          rw [decide_eq_false (show ¬ ((min m 20 : Nat) : Int) ≤ (z.a : Int) by omega)] at h
          cases h
  refine brec (fun d => ?_) (fun d => ?_)
  · have d : ¬ (x.i : Int) < (z1 : Int) := ntf d
    refine brec (fun d2 => ?_) (fun d2 => ?_)
    · have d2 : (x.i : Int) = 0 := dt' d2
      exact hy1 (.inr (by omega))
    · have hd : min x.i (rdB' key F (min m 20)).length = (rdB' key F (min m 20)).length := by omega
      rw [hd, List.drop_length] at hM
      obtain ⟨f1, f2⟩ := rr_end (rdT_le F) ha hM rfl hO
      have f2 : List.drop x.x x.L = [] := f2
      refine brec (fun _ => ?_) (fun h => absurd (show (x.a : Int) = ((min m 20 : Nat) : Int) by omega) (df' h))
      refine ⟨by omega, by omega, ?_, trivial⟩
      rw [f2]
      rfl
  · have d : (x.i : Int) < (z1 : Int) := by
      have d : (!decide ((x.i : Int) < (z1 : Int))) = false := d
      by_cases e : (x.i : Int) < (z1 : Int)
      · exact e
      · rw [decide_eq_false e] at d
        cases d
    exact hy1 (.inl (by omega))
set_option maxRecDepth 100000 in
theorem brr (key : Nat → BitVec 8) (m : Nat) (F : Nat → By) (C : Nat → Bool) (c : Bool) (n : Int) (st : Nat) (hst : IntKind.i64.wrap ((1 : Int) + IntKind.i64.wrap (↑(BitVec.ofInt 64 n % BitVec.ofNat 64 300).toNat : Int)) = (st : Int)) (h1 : 1 ≤ st) (h300 : st ≤ 300) :
    Must (bodyP Tryd.prog V7 gl0 [] (lsRr key m F C c n st) 3000 Tryd.f5 0 [aggB 32 key, .ros true 1 m (fun j => [.rb true (F j) (.is (C j))]) (.is c), .int .i64 n] [] (retQ Tryd.prog Tryd.f5 0 ⟨[], .bool true, [], []⟩)) := by
  constructor
  rw [vrr, hst]
  intro x1 x2 x3 x4
  have hx1 : x1 := hrrV key m F C st h1 h300
  clear_value x1
  have hx4 : x4 := fun y hy => ⟨rfl, rfl⟩
  clear_value x4
  refine ⟨⟨0, ⟨Nat.zero_le _, Nat.zero_le _⟩, rfl, rfl, fun y hy => ⟨rfl, rfl, rfl, trivial⟩, rfl, rfl, rfl, rfl, rfl, rfl, allP_of _ _ (fun _ _ _ => rfl) (allP_of _ _ (fun _ _ _ => rfl) ⟨rfl, rfl, (by show ((c8u 0 : Nat) : Int) = 0; decide), rfl, rfl, trivial⟩)⟩, ?_⟩
  intro i y1 y2 y3 y4 y5 hi
  obtain ⟨im, i20⟩ := hi
  have hy1 : i = min m 20 → y1 := by
    intro e
    refine ⟨by omega, ⟨⟨0, 0, 0, []⟩, ⟨⟨Nat.le_refl _, Nat.zero_le _, Nat.zero_le _, ?_⟩, Nat.zero_le _, rfl⟩, rfl, rfl, rfl, rfl, by rw [← e], rfl, rfl, rfl, e.symm, rfl, rfl, rfl, rfl, allP_of _ _ (fun _ _ _ => rfl) (allP_of _ _ (fun _ _ _ => rfl) ⟨by rw [← e], e.symm, hx4, rfl, rfl, rfl, rfl, rfl, rfl, trivial⟩)⟩, hx1⟩
    show [] ++ List.drop (min 0 (rdB' key F (min m 20)).length) (rdB' key F (min m 20)) = rcat (rsK key) (rsI key) (rdT F) 0 (min m 20 - 0)
    rw [Nat.zero_min, List.drop_zero]
    rfl
  refine brec (fun d1 => ?_) (fun d1 => hy1 (by have := df' d1; omega))
  refine brec (fun d2 => ?_) (fun d2 => hy1 (by have := df' d2; omega))
  have d1 : (i : Int) < (m : Int) := dt' d1
  have d2 : (i : Int) < 20 := dt' d2
  obtain ⟨u1, u2, u3, u4⟩ := c8u_ok i (by omega)
  obtain ⟨v1, v2, v3, v4⟩ := c8u_ok (i + 1) (by omega)
  have hR : gR 0 i (c8u i) := .of (by omega) (by omega) (by omega) (by omega) (by omega)
  have hy3 : y3 = ((c8u (i + 1) : Nat) : Int) := by
    show gW i (c8u i) 1 = _
    unfold gW c8u
    omega
  have hR7 : gR 0 i (gW i (c8u i) 1) := by
    have : gW i (c8u i) 1 = ((c8u (i + 1) : Nat) : Int) := hy3
    rw [this]
    exact .of (by omega) (by omega) (by omega) (by omega) (by omega)
  have hy2 : y2 = rdT F i := rfl
  have hyl : y2.length ≤ 256 := rdT_le F i
  have hbad : recBad 23 0 y2.length = false := recBad_no (by decide) (by decide) (by decide) (by omega)
  have hBi := rdB_le key F i (by omega)
  have h5 : y5.length = y2.length + 17 + 5 := (recS_len _ _ _ 23 0 _).trans (by rw [rec_len0])
  have hB1 : rdB' key F (i + 1) = rdB' key F i ++ y5 := by
    have e := rcat_snoc (rsK key) (rsI key) (rdT F) i 0
    rw [Nat.zero_add] at e
    exact e
  clear_value y1 y3 y4
  subst hy3
  refine ⟨hR, ⟨by omega, by omega⟩, hR, by omega, by omega, by omega, ?_⟩
  refine brec (fun h => absurd (dt' h : (i : Int) = 64) (by omega)) (fun _ => ?_)
  refine brec (fun h => absurd (dt' h : (i : Int) = ((c8u (i + 1) : Nat) : Int)) (by omega)) (fun _ => ?_)
  refine ⟨hR7, by omega, by omega, by omega, by omega, by omega, by omega, ?_⟩
  refine brec (fun h => absurd (hbad.symm.trans h) Bool.false_ne_true) (fun _ => ?_)
  refine brec (fun h => absurd rfl (ntf h)) (fun _ => ?_)
  refine ⟨rfl, rfl, by unfold roomFor; omega, rfl, by unfold roomFor; omega, i + 1, by omega, ⟨by omega, by omega⟩, rfl, rfl, fun y hy => ⟨rfl, rfl, rfl, trivial⟩, rfl, rfl, rfl, rfl, rfl, rfl, by rw [hB1, List.length_append], rfl, rfl, rfl, rfl, (wrap_nat (i + 1) (by omega) (by omega)).symm, allP_of _ _ (fun _ _ _ => rfl) (allP_of _ _ (fun _ _ _ => rfl) ⟨rfl, rfl, rfl, hB1, rfl, fun y hy => ⟨rfl, ?_⟩, trivial⟩)⟩
  unfold glue
  by_cases e : y < i
  · rw [if_pos e]
  · rw [if_neg e]
    obtain rfl : y = i := by omega
    rw [Nat.sub_self]
    rfl
end Go.Sym

namespace Go.Sym
open Go.Proofs Go.Spec
set_option linter.unusedVariables false
def rrSt (n : Int) : Nat := 1 + (BitVec.ofInt 64 n % BitVec.ofNat 64 300).toNat
theorem brr5 (key : Nat → BitVec 8) (m : Nat) (F : Nat → By) (C : Nat → Bool) (c : Bool) (n : Int) : Must (bodyP Tryd.prog V7 gl0 [] (lsRr key m F C c n (rrSt n)) 3000 Tryd.f5 0 [aggB 32 key, .ros true 1 m (fun j => [.rb true (F j) (.is (C j))]) (.is c), .int .i64 n] [] (retQ Tryd.prog Tryd.f5 0 ⟨[], .bool true, [], []⟩)) := by
  have h : (BitVec.ofInt 64 n % BitVec.ofNat 64 300).toNat < 300 := by
    rw [BitVec.toNat_umod]
    exact Nat.mod_lt _ (by decide)
  have e : IntKind.i64.wrap (↑(BitVec.ofInt 64 n % BitVec.ofNat 64 300).toNat : Int) = ((BitVec.ofInt 64 n % BitVec.ofNat 64 300).toNat : Int) := wrap_nat _ rfl (by omega)
  refine brr key m F C c n (rrSt n) ?_ (by unfold rrSt; omega) (by unfold rrSt; omega)
  rw [e]
  exact wrap_nat _ (by unfold rrSt; omega) (by unfold rrSt; omega)
end Go.Sym

/- RelayRecords: texts that are sealed by numbers that were reserved come out of the stream of their bytes again, in whatever pieces. Condition: the tables of the packages start as the text of the program lays them, which the card ties. -/
namespace Go.Sym
open Go.Proofs Go.Spec
theorem w5 (W : World) (hG : GW gl0 W) (v0 : Value) (k : Nat → BitVec 8) (h0 : VRel (κW W) (aggB 32 k) v0) (v1 : Value) (F : Nat → List (BitVec 8)) (C : Nat → Bool) (n1 : Nat) (c1 : Bool) (h1 : VRel (κW W) (.ros true 1 n1 (fun j => [.rb true (F j) (.is (C j))]) (.is c1)) v1) (_k1 : n1 ≤ maxLen) (n2 : Int) :
    Calls Tryd.prog 5 #[v0, v1, .int .i64 n2] W fun e w' => e = .returned (.bool true) ∧ RowKit.Below W.heap.size W w' := by
  have hv : VRels (κW W) [aggB 32 k, .ros true 1 n1 (fun j => [.rb true (F j) (.is (C j))]) (.is c1), .int .i64 n2] [v0, v1, .int .i64 n2] := by
    simp only [VRels]
    exact ⟨_, _, rfl, h0, _, _, rfl, h1, _, _, rfl, rfl, rfl⟩
  refine law_walk (gl := gl0) (Γ := V7) (fn := Tryd.f5) (av := [aggB 32 k, .ros true 1 n1 (fun j => [.rb true (F j) (.is (C j))]) (.is c1), .int .i64 n2]) (ls := lsRr k n1 F C c1 n2 (rrSt n2)) [] 3000 (by kernel_rfl) (by kernel_rfl) okV7 (by kernel_rfl) hG (by kernel_rfl) hv ?_
  exact brr5 k n1 F C c1 n2
end Go.Sym
namespace Go.Proofs.YtiebadbcdheldaaDoor.relayRecords
open Go.ChangeShapes Go.WideShapes Go.ChangeAt Go.WideMaps Go.WideElems Go.RowKit
set_option linter.unusedVariables false
set_option maxRecDepth 100000 in
theorem lifted (os : Os) (started : os.Started) (H : Type) (enc : TypeId × Value → H) :
    ReturnsInHanded {} Tryd.checked os 5 .any (fun w args => (Rows.relayRecordsSpec.pre enc Tryd.prog Tryd.f5 [] false w args ∧ laidMetH Tryd.prog laid4 w) ∧ sizedMet enc Tryd.prog Tryd.f5 (OpenSpec.ofChange Rows.relayRecordsSpec) false w args)
      (Rows.relayRecordsSpec.post enc Tryd.prog Tryd.f5 false true false false) := by
  refine returnsInHanded_of_change_and (C := Tryd.checked) (X := fun w _ => laidMetH Tryd.prog laid4 w) (fun _ _ _ hh h => h.of_heap hh) own started (by kernel_rfl) Tryd.func5
    (ChangeSpec.witness_shaped (enc := enc) (C := Tryd.checked) (os := os) (X := fun w _ => laidMetH Tryd.prog laid4 w) false (World.laidAll Tryd.prog os laid4) #[.agg (Array.replicate 32 (.int .u8 0)), .slice none 0 0, .int .i64 0] 8 (World.laidAll_os _ _ _) (World.shaped_of_ZipB (by kernel_rfl) (by kernel_rfl)) (by kernel_rfl) (by kernel_rfl) (by kernel_rfl) (by rw [MakeChecks.laidMetH_plain _ _ _ (by kernel_rfl)]; exact laidMet_laidAll _ (by kernel_rfl) (by kernel_rfl))) ?_
  intro W base args ds gs before hval0 hW _ _ hL _
  have hval : ∀ (j : Nat) t v, Tryd.f5.params[j]? = some t → args[j]? = some v → Value.okWide Tryd.prog W .any base t v := hval0
  have hW' := hW
  obtain ⟨p, q, hA0, hV, rfl, hfz, hnd⟩ := hW
  have hA : DataW.TrodAll enc Tryd.prog W 0 (fun _ => true) true Tryd.f5.params.toList args.toList ds p := hA0
  rw [Tryd.params5] at hA hval
  obtain ⟨v0, vs0, d0, ds0, p0, q0, hargs, rfl, rfl, h0, r0⟩ := trodAll_cons hA
  obtain ⟨v1, vs1, d1, ds1, p1, q1, rfl, rfl, rfl, h1, r1⟩ := trodAll_cons r0
  obtain ⟨v2, vs2, d2, ds2, p2, q2, rfl, rfl, rfl, h2, r2⟩ := trodAll_cons r1
  obtain ⟨rfl, rfl, rfl⟩ := trodAll_nil r2
  obtain rfl : args = #[v0, v1, v2] := by cases args; simp_all
  obtain ⟨rfl, rfl⟩ := trodVars_none hV
  obtain ⟨a2, rfl, rfl, rfl, w2⟩ := open_int Tryd.underlying3 (hval 2 3 v2 rfl rfl) h2
  clear hA0 hval0
  have hlt0 : ∀ x ∈ p0, x.block < W.heap.size := fun x hx => hW'.lt x (by simp [hx])
  obtain ⟨fuel0, hf0⟩ := h0
  obtain ⟨avs0, hs0, hd0, hr0⟩ := Go.Sym.rd_flat 9 22 (List.replicate 32 (.i .u8)) _ _ _ (by kernel_rfl) hf0
  obtain ⟨k, rfl⟩ := Go.Sym.sh_by hs0
  have hu0 := Go.Sym.agg_of_cells hr0 (by simp)
  have hlt1 : ∀ x ∈ p1, x.block < W.heap.size := fun x hx => hW'.lt x (by simp [hx])
  obtain ⟨fuel1, hf1⟩ := h1
  obtain ⟨u1, n1, g1, c1, hc1, hcl1, hll1, hg1, hu1⟩ := Go.Sym.rd_rowsF (sz := 1) (l := [.y]) (av0 := [.rb true [] (.is true)]) Tryd.underlying45 (by kernel_rfl) (by decide) (by kernel_rfl) ⟨⟨[], true, rfl, fun _ => rfl, by simp⟩, trivial⟩ hf1
  have hv1 : v1 = u1 := Go.Sym.cells_slice Tryd.underlying45 (hval 1 45 v1 rfl rfl) hc1
  subst hv1
  obtain ⟨F, C, rfl, hFC⟩ := Go.Sym.sh_rb hg1
  refine (Go.Sym.w5 W (gw_laid4 hL) v0 k hu0 v1 F C n1 c1 hu1 hll1 a2).mono fun e W' ⟨he, bel⟩ => ?_
  subst he
  exact ⟨_, rfl, _, _, _, [], _, [], hW', trodAll_mk1 (shut_bool Tryd.underlying4 _), (trodAll_cons_mk (Below.trod laidO (by kernel_rfl) (of_decide_eq_true (by kernel_rfl)) ⟨fuel0, hf0⟩ bel hlt0) (trodAll_cons_mk (Below.trod laidO (by kernel_rfl) (of_decide_eq_true (by kernel_rfl)) ⟨fuel1, hf1⟩ bel hlt1) (trodAll_cons_mk (shut_int Tryd.underlying3 w2) trodAll_mk0))), rfl, bel.frame _, fun h => by cases h⟩

theorem over : Rows.relayRecordsRow.holds Tryd.pinned (OpenSpec.ofChange Rows.relayRecordsSpec) :=
  OpenClaim.holds_of_wide 5 Tryd.f5 rfl rfl rfl rfl rfl rfl rfl ⟨rfl, rfl, rfl, rfl, rfl⟩ rfl rfl rfl rfl rfl (by kernel_rfl) Tryd.func5 (by kernel_rfl)
    (of_decide_eq_true (by kernel_rfl)) (by unfold Func.isWrapper; first | (rw [if_pos (by decide +kernel)]; kernel_rfl) | (rw [if_neg (by decide +kernel)]; exact ⟨rfl, rfl⟩))
    (fun os started H enc _ => lifted os started H enc)

theorem proved : Rows.RelayRecordsCardSaid :=
  Claim7.holds_tied_plain_at .later [] [.data, .data, .data, .pinned] true (true, "4f7a8e753edb5b4691afba683ba9c8f8d97d01650ee63b208324206125437412") false
    over (fun _ h => by cases h) (by kernel_rfl) (fun _ h => by cases h) relayRecords_row_tie rfl ⟨rfl, rfl⟩ (by kernel_rfl) rfl
    (fun f fn hf hfn => by
      obtain rfl : f = 5 := Option.some.inj ((show Tryd.prog.funcNamed "relay/relaytop.RelayRecords" = some 5 by kernel_rfl).symm.trans hf) |>.symm
      obtain rfl : fn = Tryd.f5 := (Option.some.inj (Tryd.func5.symm.trans hfn)).symm
      exact ⟨by kernel_rfl, fun j t ht => by
        rw [Tryd.params5] at ht
        have hm : t ∈ [22, 45, 3] := by simpa using Array.mem_of_getElem? ht
        have hall : ([22, 45, 3].all fun u => !Tryd.prog.wantsStandIn u) = true := by kernel_rfl
        exact (show Tryd.prog.wantsStandIn t = false by simpa using List.all_eq_true.1 hall t hm)⟩)
    (by kernel_rfl)
#print axioms proved
end Go.Proofs.YtiebadbcdheldaaDoor.relayRecords
