/- MessageBodies: of all chains, tickets and signatures the bytes are told, or that they can't be; what is put is read back. No conditions. -/
import Derived.Test.YtgniepaehjdjaaaCurB
import Derived.Test.YtgniepaehjdjaaaSnpA
import Derived.Test.YtgniepaehjdjaaaMesA
import Derived.Test.YtgniepaehjdjaaaCurA
import Derived.Test.YtgniepaehjdjaaaRows
import Derived.WalkKit
import Derived.ProofKit
import Derived.OpenShut
import Derived.ChangeOld
import Derived.Below
import Derived.Carry
namespace Go.Sym
set_option linter.unusedVariables false
/-- Two numbers and two rows of bytes. -/
theorem sh_iiyy {avs : List AV} (h : shAll [.i .i64, .i .i64, .y, .y] avs) : ∃ (l a : Int) (x : List (BitVec 8)) (c1 : Bool) (y : List (BitVec 8)) (c2 : Bool), avs = [.int .i64 l, .int .i64 a, .rb true x (.is c1), .rb true y (.is c2)] := by
  obtain ⟨a, r, rfl, ⟨l, rfl, _⟩, h1⟩ := sh_cons h
  obtain ⟨b, r, rfl, ⟨a, rfl, _⟩, h2⟩ := sh_cons h1
  obtain ⟨x, r, rfl, ⟨lx, cx, rfl, _, _⟩, h3⟩ := sh_cons h2
  obtain ⟨y, r, rfl, ⟨ly, cy, rfl, _, _⟩, h4⟩ := sh_cons h3
  obtain rfl := sh_nil h4
  exact ⟨l, a, lx, cx, ly, cy, rfl⟩
end Go.Sym

namespace Go.Spec
open Go.Sym
/-- Certificates one behind the other. -/
def chB (F : Nat → By) : Nat → By
  | 0 => []
  | j + 1 => pvB (pvB (chB F j) (F j) 3) [] 2
def chOk (n : Nat) (F : Nat → By) : Prop := (1 ≤ n ∧ n ≤ 4) ∧ ∀ j, j < n → 1 ≤ (F j).length ∧ (F j).length ≤ 300
open Classical in
noncomputable def pcB (n : Nat) (F : Nat → By) : By := if chOk n F then pvB [0#8] (chB F n) 3 else []
open Classical in
noncomputable def pcE (n : Nat) (F : Nat → By) : Int := if chOk n F then 0 else 1
def pnOk (l a : Int) (nx ny : Nat) : Prop := (0 ≤ l ∧ l ≤ 4294967295) ∧ (0 ≤ a ∧ a ≤ 4294967295) ∧ nx ≤ 8 ∧ 1 ≤ ny ∧ ny ≤ 255
def pyOk (s : Int) (n : Nat) : Prop := (0 ≤ s ∧ s ≤ 65535) ∧ 1 ≤ n ∧ n ≤ 100
open Classical in
noncomputable def pnB (l a : Int) (x y : By) : By := if pnOk l a x.length y.length then pvB (pvB (pvB (puB (puB [] l 4) a 4) x 1) y 2) [] 2 else []
open Classical in
noncomputable def pnE (l a : Int) (nx ny : Nat) : Int := if pnOk l a nx ny then 0 else 1
open Classical in
noncomputable def pyB (s : Int) (x : By) : By := if pyOk s x.length then pvB (puB [] s 2) x 2 else []
open Classical in
noncomputable def pyE (s : Int) (n : Nat) : Int := if pyOk s n then 0 else 1
end Go.Spec
namespace Go.Sym
open Go.Proofs Go.Spec
set_option linter.unusedVariables false
noncomputable def N1 : Ctx := (((Qz20.add 30 (mkF spt30)).add 31 (mkF spt31)).add 76 (mkF spt76)).add 87 (mkF spt87)
theorem okN1 : COKs Try.prog gl0 N1 := (((okQz20.add ct30).add ct31).add ct76).add ct87
noncomputable def N2 : Ctx := N1.exe Try.prog gl0 [] 300 Try.f73.params.size 73 Try.f73
theorem okN2 : COKs Try.prog gl0 N2 := okN1.exe [] 300 _ (by kernel_rfl) (by kernel_rfl) (by kernel_rfl) (fun args w => by kernel_rfl)
noncomputable def N3 : Ctx := N2.exe Try.prog gl0 [] 300 Try.f75.params.size 75 Try.f75
theorem okN3 : COKs Try.prog gl0 N3 := okN2.exe [] 300 _ (by kernel_rfl) (by kernel_rfl) (by kernel_rfl) (fun args w => by kernel_rfl)
noncomputable def N4 : Ctx := (Qz20.add 87 (mkF spt87)).exe Try.prog gl0 [] 300 Try.f75.params.size 75 Try.f75
theorem okN4 : COKs Try.prog gl0 N4 := (okQz20.add ct87).exe [] 300 _ (by kernel_rfl) (by kernel_rfl) (by kernel_rfl) (fun args w => by kernel_rfl)
def chR (n : Nat) (F : Nat → By) (C : Nat → Bool) (nl : NL) : AV := .ros true 1 n (fun j => [.rb true (F j) (.is (C j))]) nl
def lsC1 (n : Nat) (F : Nat → By) (C : Nat → Bool) (nl : NL) : LS := ⟨Nat, fun j => [(11, chR n F C .unk), (12, .int .i64 n), (13, .int .i64 j), (4, .slice 100 0 1 (chB F j).length .ow .unk)], fun j => [(100, ⟨.bytes (chB F j), true, 1⟩)], 1000, fun j => n - j, fun j => j ≤ n ∧ ∀ i, i < j → 1 ≤ (F i).length ∧ (F i).length ≤ 300, fun _ => []⟩
def lsC2 (n : Nat) (F : Nat → By) (C : Nat → Bool) (nl : NL) : LS := ⟨Nat, fun j => [(0, chR n F C .unk), (5, .int .i64 j), (4, .slice 100 0 1 (chB F j).length .ow .unk)], fun j => [(100, ⟨.bytes (chB F j), true, 1⟩)], 1000, fun j => n - j, fun j => j ≤ n ∧ ∀ i, i < j → 1 ≤ (F i).length ∧ (F i).length ≤ 300, fun _ => []⟩
def rMp (m : Nat) (e : Int) (B : By) : RL := ⟨[], .tup [.slice 0 0 1 m .ow .unk, .int .i64 e], [], [⟨.bytes B, true, 1⟩]⟩
def rMq (m : Nat) (e : Bool) (B : By) : RL := ⟨[], .tup [.slice 0 0 1 m .ow .unk, .bool e], [], [⟨.bytes B, true, 1⟩]⟩
def asNw (l a : Int) (x y : AV) : AV := .agg [.int .i64 l, .int .i64 a, x, y]
end Go.Sym

namespace Go.Sym
open Go.Proofs Go.Spec
set_option linter.unusedVariables false
set_option maxRecDepth 100000 in
theorem vb37 (n m : Nat) (F : Nat → By) (C : Nat → Bool) (nl : NL) (e : Int) (B : By) : bodyP Try.prog N3 gl0 [] [(6, lsC1 n F C nl)] 3000 Try.f37 0 [chR n F C nl] [] (retQ Try.prog Try.f37 0 (rMp m e B)) = (
let x1 := m = 0 ∧ e = (1 : Int) ∧ B = [] ∧ True; @Bool.rec (fun _ => Prop) x1 (@Bool.rec (fun _ => Prop) ((∃ (x : Nat), (x ≤ n ∧ ∀ (i : Nat), i < x → 1 ≤ List.length (F i) ∧ List.length (F i) ≤ 300) ∧ n = n ∧ (∀ (y : Nat), y < n → datas Bool.true [AV.rb Bool.true (F y) (NL.is (C y))] = Bool.true ∧ C y = C y ∧ F y = F y ∧ True) ∧ (↑n : Int) = (↑n : Int) ∧ (↑x : Int) = (0 : Int) ∧ List.length (chB F x) = 0 ∧ chB F x = [] ∧ True) ∧ ∀ (x : Nat), (x ≤ n ∧ ∀ (i : Nat), i < x → 1 ≤ List.length (F i) ∧ List.length (F i) ≤ 300) → @Bool.rec (fun _ => Prop) (0 < 1099511627776 ∧ Bool.false = Bool.false ∧ 1 = 1 ∧ List.length (chB F x) = List.length (chB F x) ∧ 1 + List.length (chB F x) < 549755813888 ∧ puBad (↑(List.length (chB F x)) : Int) (3 : Int) = Bool.false ∧ 0 = 0 ∧ 0 = 0 ∧ 0 = 0 ∧ m = 4 + List.length (chB F x) ∧ e = (0 : Int) ∧ B = pvB (puB [] (0 : Int) (1 : Int)) (chB F x) (3 : Int) ∧ True) ((0 : Int) ≤ (↑x : Int) ∧ (↑x : Int).toNat < n ∧ @Bool.rec (fun _ => Prop) x1 (@Bool.rec (fun _ => Prop) (List.length (chB F x) = List.length (chB F x) ∧ List.length (chB F x) + List.length (F (↑x : Int).toNat) < 549755813888 ∧ puBad (↑(List.length (F (↑x : Int).toNat)) : Int) (3 : Int) = Bool.false ∧ List.length (chB F x) + 3 + List.length (F (↑x : Int).toNat) = List.length (pvB (chB F x) (F (↑x : Int).toNat) (3 : Int)) ∧ List.length (pvB (chB F x) (F (↑x : Int).toNat) (3 : Int)) + 0 < 549755813888 ∧ Bool.false = Bool.false ∧ ∃ (y : Nat), n - y < n - x ∧ (y ≤ n ∧ ∀ (i : Nat), i < y → 1 ≤ List.length (F i) ∧ List.length (F i) ≤ 300) ∧ n = n ∧ (∀ (y : Nat), y < n → datas Bool.true [AV.rb Bool.true (F y) (NL.is (C y))] = Bool.true ∧ C y = C y ∧ F y = F y ∧ True) ∧ (↑n : Int) = (↑n : Int) ∧ (↑y : Int) = IntKind.i64.wrap ((↑x : Int) + (1 : Int)) ∧ 0 = 0 ∧ 0 = 0 ∧ 0 = 0 ∧ List.length (chB F y) = List.length (pvB (chB F x) (F (↑x : Int).toNat) (3 : Int)) + 2 + 0 ∧ chB F y = pvB (pvB (chB F x) (F (↑x : Int).toNat) (3 : Int)) [] (2 : Int) ∧ True) x1 !decide ((↑(List.length (F (↑x : Int).toNat)) : Int) ≤ (300 : Int))) (decide ((1 : Int) ≤ (↑(List.length (F (↑x : Int).toNat)) : Int)))) (decide ((↑x : Int) < (↑n : Int)))) x1 !decide ((↑n : Int) ≤ (4 : Int))) (decide ((1 : Int) ≤ (↑n : Int))) : Prop) := by kernel_rfl
set_option maxRecDepth 100000 in
theorem vb38 (n m : Nat) (F : Nat → By) (C : Nat → Bool) (nl : NL) (e : Bool) (B : By) : bodyP Try.prog N3 gl0 [] [(6, lsC2 n F C nl)] 3000 Try.f38 0 [chR n F C nl] [] (retQ Try.prog Try.f38 0 (rMq m e B)) = (
let x1 := m = 0 ∧ e = Bool.false ∧ B = [] ∧ True; @Bool.rec (fun _ => Prop) x1 (@Bool.rec (fun _ => Prop) ((∃ (x : Nat), (x ≤ n ∧ ∀ (i : Nat), i < x → 1 ≤ List.length (F i) ∧ List.length (F i) ≤ 300) ∧ n = n ∧ (∀ (y : Nat), y < n → datas Bool.true [AV.rb Bool.true (F y) (NL.is (C y))] = Bool.true ∧ C y = C y ∧ F y = F y ∧ True) ∧ (↑x : Int) = (0 : Int) ∧ List.length (chB F x) = 0 ∧ chB F x = [] ∧ True) ∧ ∀ (x : Nat), (x ≤ n ∧ ∀ (i : Nat), i < x → 1 ≤ List.length (F i) ∧ List.length (F i) ≤ 300) → @Bool.rec (fun _ => Prop) (List.length (chB F x) = List.length (chB F x) ∧ 0 + List.length (chB F x) < 549755813888 ∧ puBad (↑(List.length (chB F x)) : Int) (3 : Int) = Bool.false ∧ 3 + List.length (chB F x) = List.length (pvB [] (chB F x) (3 : Int)) ∧ 1 = 1 ∧ roomFor 1 (List.length (pvB [] (chB F x) (3 : Int))) 1 ∧ 0 = 0 ∧ 0 = 0 ∧ 0 = 0 ∧ m = 1 + List.length (pvB [] (chB F x) (3 : Int)) ∧ e = Bool.true ∧ B = [BitVec.ofNat 8 0] ++ pvB [] (chB F x) (3 : Int) ∧ True) ((0 : Int) ≤ (↑x : Int) ∧ (↑x : Int).toNat < n ∧ @Bool.rec (fun _ => Prop) x1 ((0 : Int) ≤ (↑x : Int) ∧ (↑x : Int).toNat < n ∧ @Bool.rec (fun _ => Prop) ((0 : Int) ≤ (↑x : Int) ∧ (↑x : Int).toNat < n ∧ 0 + List.length (F (↑x : Int).toNat) < 549755813888 ∧ puBad (↑(List.length (F (↑x : Int).toNat)) : Int) (3 : Int) = Bool.false ∧ 3 + List.length (F (↑x : Int).toNat) = List.length (pvB [] (F (↑x : Int).toNat) (3 : Int)) ∧ List.length (chB F x) = List.length (chB F x) ∧ roomFor (List.length (chB F x)) (List.length (pvB [] (F (↑x : Int).toNat) (3 : Int))) 1 ∧ 2 = 2 ∧ List.length (chB F x) + List.length (pvB [] (F (↑x : Int).toNat) (3 : Int)) = (chB F x ++ pvB [] (F (↑x : Int).toNat) (3 : Int)).length ∧ roomFor (List.length (chB F x) + List.length (pvB [] (F (↑x : Int).toNat) (3 : Int))) 2 1 ∧ ∃ (y : Nat), n - y < n - x ∧ (y ≤ n ∧ ∀ (i : Nat), i < y → 1 ≤ List.length (F i) ∧ List.length (F i) ≤ 300) ∧ n = n ∧ (∀ (y : Nat), y < n → datas Bool.true [AV.rb Bool.true (F y) (NL.is (C y))] = Bool.true ∧ C y = C y ∧ F y = F y ∧ True) ∧ (↑y : Int) = IntKind.i64.wrap ((↑x : Int) + (1 : Int)) ∧ 0 = 0 ∧ 0 = 0 ∧ 0 = 0 ∧ List.length (chB F y) = List.length (chB F x) + List.length (pvB [] (F (↑x : Int).toNat) (3 : Int)) + 2 ∧ chB F y = chB F x ++ pvB [] (F (↑x : Int).toNat) (3 : Int) ++ [BitVec.ofNat 8 0, BitVec.ofNat 8 0] ∧ True) x1 (decide ((300 : Int) < (↑(List.length (F (↑x : Int).toNat)) : Int)))) !decide ((↑(List.length (F (↑x : Int).toNat)) : Int) < (1 : Int))) (decide ((↑x : Int) < (↑n : Int)))) x1 (decide ((4 : Int) < (↑n : Int)))) !decide ((↑n : Int) < (1 : Int)) : Prop) := by kernel_rfl
set_option maxRecDepth 100000 in
theorem vb39 (l a e : Int) (x y B : By) (m : Nat) : bodyP Try.prog N3 gl0 [] [] 3000 Try.f39 0 [asNw l a (.rb false x .unk) (.rb false y .unk)] [] (retQ Try.prog Try.f39 0 (rMp m e B)) = (
let x1 := m = 0 ∧ e = (1 : Int) ∧ B = [] ∧ True; let x2 := puB (puB [] l (4 : Int)) a (4 : Int); @Bool.rec (fun _ => Prop) x1 (@Bool.rec (fun _ => Prop) x1 (@Bool.rec (fun _ => Prop) x1 (@Bool.rec (fun _ => Prop) x1 (@Bool.rec (fun _ => Prop) x1 (@Bool.rec (fun _ => Prop) x1 (@Bool.rec (fun _ => Prop) (0 < 1099511627776 ∧ puBad l (4 : Int) = Bool.false ∧ 4 = List.length (puB [] l (4 : Int)) ∧ List.length (puB [] l (4 : Int)) < 1099511627776 ∧ puBad a (4 : Int) = Bool.false ∧ List.length (puB [] l (4 : Int)) + 4 = List.length x2 ∧ List.length x2 + List.length x < 549755813888 ∧ puBad (↑(List.length x) : Int) (1 : Int) = Bool.false ∧ List.length x2 + 1 + List.length x = List.length (pvB x2 x (1 : Int)) ∧ List.length (pvB x2 x (1 : Int)) + List.length y < 549755813888 ∧ puBad (↑(List.length y) : Int) (2 : Int) = Bool.false ∧ List.length (pvB x2 x (1 : Int)) + 2 + List.length y = List.length (pvB (pvB x2 x (1 : Int)) y (2 : Int)) ∧ List.length (pvB (pvB x2 x (1 : Int)) y (2 : Int)) + 0 < 549755813888 ∧ Bool.false = Bool.false ∧ 0 = 0 ∧ 0 = 0 ∧ 0 = 0 ∧ m = List.length (pvB (pvB x2 x (1 : Int)) y (2 : Int)) + 2 + 0 ∧ e = (0 : Int) ∧ B = pvB (pvB (pvB x2 x (1 : Int)) y (2 : Int)) [] (2 : Int) ∧ True) x1 !decide ((↑(List.length y) : Int) ≤ (255 : Int))) (decide ((1 : Int) ≤ (↑(List.length y) : Int)))) !decide ((8 : Int) < (↑(List.length x) : Int))) !!decide (a ≤ (4294967295 : Int))) (decide ((0 : Int) ≤ a))) !!decide (l ≤ (4294967295 : Int))) (decide ((0 : Int) ≤ l)) : Prop) := by kernel_rfl
set_option maxRecDepth 100000 in
theorem vb40 (l a : Int) (e : Bool) (x y B : By) (m : Nat) : bodyP Try.prog N3 gl0 [] [] 3000 Try.f40 0 [asNw l a (.rb false x .unk) (.rb false y .unk)] [] (retQ Try.prog Try.f40 0 (rMq m e B)) = (
let x1 := m = 0 ∧ e = Bool.false ∧ B = [] ∧ True; let x2 := List.length (puB [] l (4 : Int)) + 4 + List.length (pvB [] x (1 : Int)); @Bool.rec (fun _ => Prop) x1 (@Bool.rec (fun _ => Prop) x1 (@Bool.rec (fun _ => Prop) x1 (@Bool.rec (fun _ => Prop) x1 (@Bool.rec (fun _ => Prop) x1 (@Bool.rec (fun _ => Prop) x1 (@Bool.rec (fun _ => Prop) (0 < 1099511627776 ∧ puBad l (4 : Int) = Bool.false ∧ 4 = List.length (puB [] l (4 : Int)) ∧ List.length (puB [] l (4 : Int)) < 1099511627776 ∧ puBad a (4 : Int) = Bool.false ∧ 0 + List.length x < 549755813888 ∧ puBad (↑(List.length x) : Int) (1 : Int) = Bool.false ∧ 1 + List.length x = List.length (pvB [] x (1 : Int)) ∧ List.length (puB [] l (4 : Int)) + 4 = List.length (puB (puB [] l (4 : Int)) a (4 : Int)) ∧ roomFor (List.length (puB [] l (4 : Int)) + 4) (List.length (pvB [] x (1 : Int))) 1 ∧ 0 + List.length y < 549755813888 ∧ puBad (↑(List.length y) : Int) (2 : Int) = Bool.false ∧ 2 + List.length y = List.length (pvB [] y (2 : Int)) ∧ x2 = (puB (puB [] l (4 : Int)) a (4 : Int) ++ pvB [] x (1 : Int)).length ∧ roomFor x2 (List.length (pvB [] y (2 : Int))) 1 ∧ 2 = 2 ∧ x2 + List.length (pvB [] y (2 : Int)) = (puB (puB [] l (4 : Int)) a (4 : Int) ++ pvB [] x (1 : Int) ++ pvB [] y (2 : Int)).length ∧ roomFor (x2 + List.length (pvB [] y (2 : Int))) 2 1 ∧ 0 = 0 ∧ 0 = 0 ∧ 0 = 0 ∧ m = x2 + List.length (pvB [] y (2 : Int)) + 2 ∧ e = Bool.true ∧ B = puB (puB [] l (4 : Int)) a (4 : Int) ++ pvB [] x (1 : Int) ++ pvB [] y (2 : Int) ++ [BitVec.ofNat 8 0, BitVec.ofNat 8 0] ∧ True) x1 (decide ((255 : Int) < (↑(List.length y) : Int)))) !decide ((↑(List.length y) : Int) < (1 : Int))) !decide ((8 : Int) < (↑(List.length x) : Int))) !decide ((4294967296 : Int) ≤ a)) !decide (a < (0 : Int))) !decide ((4294967296 : Int) ≤ l)) !decide (l < (0 : Int)) : Prop) := by kernel_rfl
set_option maxRecDepth 100000 in
theorem vb41 (s e : Int) (x B : By) (m : Nat) : bodyP Try.prog N3 gl0 [] [] 3000 Try.f41 0 [.int .i64 s, .rb false x .unk] [] (retQ Try.prog Try.f41 0 (rMp m e B)) = (
let x1 := m = 0 ∧ e = (1 : Int) ∧ B = [] ∧ True; @Bool.rec (fun _ => Prop) x1 (@Bool.rec (fun _ => Prop) x1 (@Bool.rec (fun _ => Prop) x1 (@Bool.rec (fun _ => Prop) (0 < 1099511627776 ∧ puBad s (2 : Int) = Bool.false ∧ 2 = List.length (puB [] s (2 : Int)) ∧ List.length (puB [] s (2 : Int)) + List.length x < 549755813888 ∧ puBad (↑(List.length x) : Int) (2 : Int) = Bool.false ∧ 0 = 0 ∧ 0 = 0 ∧ 0 = 0 ∧ m = List.length (puB [] s (2 : Int)) + 2 + List.length x ∧ e = (0 : Int) ∧ B = pvB (puB [] s (2 : Int)) x (2 : Int) ∧ True) x1 !decide ((↑(List.length x) : Int) ≤ (100 : Int))) (decide ((1 : Int) ≤ (↑(List.length x) : Int)))) !!decide (s ≤ (65535 : Int))) (decide ((0 : Int) ≤ s)) : Prop) := by kernel_rfl
set_option maxRecDepth 100000 in
theorem vb42 (s : Int) (e : Bool) (x B : By) (m : Nat) : bodyP Try.prog N4 gl0 [] [] 3000 Try.f42 0 [.int .i64 s, .rb false x .unk] [] (retQ Try.prog Try.f42 0 (rMq m e B)) = (
@Bool.rec (fun _ => Prop) (0 < 1099511627776 ∧ @Bool.rec (fun _ => Prop) (m = 0 ∧ e = Bool.false ∧ B = [] ∧ True) (@Bool.rec (fun _ => Prop) (0 + List.length x < 549755813888 ∧ puBad (↑(List.length x) : Int) (2 : Int) = Bool.false ∧ 2 + List.length x = List.length (pvB [] x (2 : Int)) ∧ 2 = List.length (puB [] s (2 : Int)) ∧ roomFor 2 (List.length (pvB [] x (2 : Int))) 1 ∧ 0 = 0 ∧ 0 = 0 ∧ 0 = 0 ∧ m = 2 + List.length (pvB [] x (2 : Int)) ∧ e = Bool.true ∧ B = puB [] s (2 : Int) ++ pvB [] x (2 : Int) ∧ True) (m = 0 ∧ e = Bool.false ∧ B = [] ∧ True) (decide ((100 : Int) < (↑(List.length x) : Int)))) !decide ((↑(List.length x) : Int) < (1 : Int))) (0 < 1099511627776 ∧ m = 0 ∧ e = Bool.false ∧ B = [] ∧ True) (puBad s (2 : Int)) : Prop) := by kernel_rfl
end Go.Sym

set_option linter.unusedSimpArgs false
namespace Go.Spec
theorem pvB_len' (b v : By) (w : Int) : (pvB b v w).length = b.length + w.toNat + v.length := by simp [pvB, puB, puL_len]; omega
theorem puB_len' (b : By) (n w : Int) : (puB b n w).length = b.length + w.toNat := by simp [puB, puL_len]
theorem pvB_app (b v : By) (w : Int) : b ++ pvB [] v w = pvB b v w := by simp [pvB, puB]
theorem pvB_nil (b : By) : b ++ [0#8, 0#8] = pvB b [] 2 := by
  have : puL 0 2 = [0#8, 0#8] := by decide
  simp [pvB, puB, this]
theorem puB_zero : puB [] 0 1 = [0#8] := by
  have : puL 0 1 = [0#8] := by decide
  simp [puB, this]
theorem chB_len (F : Nat → By) : ∀ (n : Nat), n ≤ 4 → (∀ i, i < n → (F i).length ≤ 300) → (chB F n).length ≤ 305 * n
  | 0, _, _ => by simp [chB]
  | n + 1, h, h2 => by
    have h3 := chB_len F n (by omega) (fun i hi => h2 i (by omega))
    have h4 := h2 n (by omega)
    simp only [chB, pvB_len', List.length_nil]
    omega
end Go.Spec
namespace Go.Sym
open Go.Proofs Go.Spec
set_option linter.unusedVariables false
theorem dt {p : Prop} [Decidable p] (h : decide p = true) : p := of_decide_eq_true h
theorem df {p : Prop} [Decidable p] (h : decide p = false) : ¬ p := of_decide_eq_false h
theorem ndt {p : Prop} [Decidable p] (h : (!decide p) = true) : ¬ p := by simpa using h
theorem ndf {p : Prop} [Decidable p] (h : (!decide p) = false) : p := by simpa using h
theorem nndt {p : Prop} [Decidable p] (h : (!!decide p) = true) : p := by simpa using h
theorem nndf {p : Prop} [Decidable p] (h : (!!decide p) = false) : ¬ p := by simpa using h
theorem bad1 {n : Int} (h0 : 0 ≤ n) (h1 : n ≤ 255) : puBad n 1 = false := by
  simp [puBad]; omega
theorem bad2 {n : Int} (h0 : 0 ≤ n) (h1 : n ≤ 65535) : puBad n 2 = false := by
  simp [puBad]; omega
theorem bad3 {n : Int} (h0 : 0 ≤ n) (h1 : n ≤ 16777215) : puBad n 3 = false := by
  simp [puBad]; omega
theorem bad4 {n : Int} (h0 : 0 ≤ n) (h1 : n ≤ 4294967295) : puBad n 4 = false := by
  simp [puBad]; omega
theorem bb41 (s : Int) (x : By) : Must (bodyP Try.prog N3 gl0 [] [] 3000 Try.f41 0 [.int .i64 s, .rb false x .unk] [] (retQ Try.prog Try.f41 0 (rMp (pyB s x).length (pyE s x.length) (pyB s x)))) := by
  constructor
  rw [vb41]
  intro x1
  have hx1 : ¬ pyOk s x.length → x1 := fun h => by
    have e1 : pyB s x = [] := by unfold pyB; rw [if_neg h]
    have e2 : pyE s x.length = 1 := by unfold pyE; rw [if_neg h]
    exact ⟨by rw [e1]; rfl, e2, e1, trivial⟩
  refine brec (fun c1 => ?_) (fun c1 => hx1 fun h => df c1 h.1.1)
  refine brec (fun c2 => ?_) (fun c2 => hx1 fun h => nndf c2 h.1.2)
  refine brec (fun c3 => ?_) (fun c3 => hx1 fun h => df c3 (by have := h.2; omega))
  refine brec (fun c4 => hx1 fun h => ndt c4 (by have := h.2; omega)) (fun c4 => ?_)
  have c1 := dt c1
  have c2 := nndt c2
  have c3 := dt c3
  have c4 := ndf c4
  have h : pyOk s x.length := ⟨⟨c1, c2⟩, by omega, by omega⟩
  have e1 : pyB s x = pvB (puB [] s 2) x 2 := by unfold pyB; rw [if_pos h]
  have e2 : pyE s x.length = 0 := by unfold pyE; rw [if_pos h]
  rw [e1, e2]
  exact ⟨by omega, bad2 c1 c2, by rw [puB_len']; rfl, by rw [puB_len']; simp; omega, bad2 (by omega) (by omega), rfl, rfl, rfl, by rw [pvB_len']; rfl, rfl, rfl, trivial⟩
theorem bb42 (s : Int) (x : By) : Must (bodyP Try.prog N4 gl0 [] [] 3000 Try.f42 0 [.int .i64 s, .rb false x .unk] [] (retQ Try.prog Try.f42 0 (rMq (pyB s x).length (decide (pyE s x.length = 0)) (pyB s x)))) := by
  constructor
  rw [vb42]
  have hx1 : ¬ pyOk s x.length → ((pyB s x).length = 0 ∧ decide (pyE s x.length = 0) = false ∧ pyB s x = [] ∧ True) := fun h => by
    have e1 : pyB s x = [] := by unfold pyB; rw [if_neg h]
    have e2 : pyE s x.length = 1 := by unfold pyE; rw [if_neg h]
    exact ⟨by rw [e1]; rfl, by rw [e2]; rfl, e1, trivial⟩
  have hs : puBad s 2 = true ↔ ¬ (0 ≤ s ∧ s ≤ 65535) := by
    simp [puBad]; omega
  refine brec (fun c1 => ⟨by omega, hx1 fun h => hs.1 c1 h.1⟩) (fun c1 => ⟨by omega, ?_⟩)
  have c1 : 0 ≤ s ∧ s ≤ 65535 := Classical.byContradiction fun h => by rw [hs.2 h] at c1; cases c1
  refine brec (fun c2 => ?_) (fun c2 => ?_)
  · have c2 := ndt c2
    refine brec (fun c3 => hx1 fun h => by have := dt c3; have := h.2; omega) (fun c3 => ?_)
    have c3 := df c3
    have h : pyOk s x.length := ⟨c1, by omega, by omega⟩
    have e1 : pyB s x = pvB (puB [] s 2) x 2 := by unfold pyB; rw [if_pos h]
    have e2 : pyE s x.length = 0 := by unfold pyE; rw [if_pos h]
    rw [e1, e2]
    exact ⟨by omega, bad2 (by omega) (by omega), by rw [pvB_len']; simp, by rw [puB_len']; rfl, by unfold roomFor; rw [pvB_len']; simp; omega, rfl, rfl, rfl, by rw [pvB_len', pvB_len', puB_len']; simp; omega, rfl, (pvB_app ..).symm, trivial⟩
  · exact hx1 fun h => by have := ndf c2; have := h.2; omega
theorem bb39 (l a : Int) (x y : By) : Must (bodyP Try.prog N3 gl0 [] [] 3000 Try.f39 0 [asNw l a (.rb false x .unk) (.rb false y .unk)] [] (retQ Try.prog Try.f39 0 (rMp (pnB l a x y).length (pnE l a x.length y.length) (pnB l a x y)))) := by
  constructor
  rw [vb39]
  intro x1 x2
  have hx1 : ¬ pnOk l a x.length y.length → x1 := fun h => by
    have e1 : pnB l a x y = [] := by unfold pnB; rw [if_neg h]
    have e2 : pnE l a x.length y.length = 1 := by unfold pnE; rw [if_neg h]
    exact ⟨by rw [e1]; rfl, e2, e1, trivial⟩
  have hx2 : x2 = puB (puB [] l 4) a 4 := rfl
  clear_value x1 x2
  subst hx2
  refine brec (fun c1 => ?_) (fun c1 => hx1 fun h => df c1 h.1.1)
  refine brec (fun c2 => ?_) (fun c2 => hx1 fun h => nndf c2 h.1.2)
  refine brec (fun c3 => ?_) (fun c3 => hx1 fun h => df c3 h.2.1.1)
  refine brec (fun c4 => ?_) (fun c4 => hx1 fun h => nndf c4 h.2.1.2)
  refine brec (fun c5 => ?_) (fun c5 => hx1 fun h => by have := ndf c5; have := h.2.2.1; omega)
  refine brec (fun c6 => ?_) (fun c6 => hx1 fun h => df c6 (by have := h.2.2.2.1; omega))
  refine brec (fun c7 => hx1 fun h => ndt c7 (by have := h.2.2.2.2; omega)) (fun c7 => ?_)
  have c1 := dt c1
  have c2 := nndt c2
  have c3 := dt c3
  have c4 := nndt c4
  have c5 := ndt c5
  have c6 := dt c6
  have c7 := ndf c7
  have h : pnOk l a x.length y.length := ⟨⟨c1, c2⟩, ⟨c3, c4⟩, by omega, by omega, by omega⟩
  have e1 : pnB l a x y = pvB (pvB (pvB (puB (puB [] l 4) a 4) x 1) y 2) [] 2 := by unfold pnB; rw [if_pos h]
  have e2 : pnE l a x.length y.length = 0 := by unfold pnE; rw [if_pos h]
  rw [e1, e2]
  simp (config := { decide := true }) only [pvB_len', puB_len', List.length_nil, Int.toNat, Nat.zero_add]
  and_intros
  all_goals first | omega | exact bad4 (by omega) (by omega) | exact bad1 (by omega) (by omega) | exact bad2 (by omega) (by omega) | trivial
theorem bb40 (l a : Int) (x y : By) : Must (bodyP Try.prog N3 gl0 [] [] 3000 Try.f40 0 [asNw l a (.rb false x .unk) (.rb false y .unk)] [] (retQ Try.prog Try.f40 0 (rMq (pnB l a x y).length (decide (pnE l a x.length y.length = 0)) (pnB l a x y)))) := by
  constructor
  rw [vb40]
  intro x1 x2
  have hx1 : ¬ pnOk l a x.length y.length → x1 := fun h => by
    have e1 : pnB l a x y = [] := by unfold pnB; rw [if_neg h]
    have e2 : pnE l a x.length y.length = 1 := by unfold pnE; rw [if_neg h]
    exact ⟨by rw [e1]; rfl, by rw [e2]; rfl, e1, trivial⟩
  have hx2 : x2 = 9 + x.length := by
    show List.length (puB [] l 4) + 4 + List.length (pvB [] x 1) = _
    rw [pvB_len', puB_len']; simp; omega
  clear_value x1 x2
  subst hx2
  refine brec (fun c1 => ?_) (fun c1 => hx1 fun h => by have := ndf c1; have := h.1.1; omega)
  refine brec (fun c2 => ?_) (fun c2 => hx1 fun h => by have := ndf c2; have := h.1.2; omega)
  refine brec (fun c3 => ?_) (fun c3 => hx1 fun h => by have := ndf c3; have := h.2.1.1; omega)
  refine brec (fun c4 => ?_) (fun c4 => hx1 fun h => by have := ndf c4; have := h.2.1.2; omega)
  refine brec (fun c5 => ?_) (fun c5 => hx1 fun h => by have := ndf c5; have := h.2.2.1; omega)
  refine brec (fun c6 => ?_) (fun c6 => hx1 fun h => by have := ndf c6; have := h.2.2.2.1; omega)
  refine brec (fun c7 => hx1 fun h => by have := dt c7; have := h.2.2.2.2; omega) (fun c7 => ?_)
  have c1 := ndt c1
  have c2 := ndt c2
  have c3 := ndt c3
  have c4 := ndt c4
  have c5 := ndt c5
  have c6 := ndt c6
  have c7 := df c7
  have h : pnOk l a x.length y.length := ⟨⟨by omega, by omega⟩, ⟨by omega, by omega⟩, by omega, by omega, by omega⟩
  have e1 : pnB l a x y = pvB (pvB (pvB (puB (puB [] l 4) a 4) x 1) y 2) [] 2 := by unfold pnB; rw [if_pos h]
  have e2 : pnE l a x.length y.length = 0 := by unfold pnE; rw [if_pos h]
  have hz : [BitVec.ofNat 8 0, BitVec.ofNat 8 0] = [0#8, 0#8] := rfl
  rw [e1, e2, hz, pvB_app, pvB_app, pvB_nil]
  simp (config := { decide := true }) only [pvB_len', puB_len', List.length_nil, Int.toNat, Nat.zero_add]
  unfold roomFor
  and_intros
  all_goals first | omega | exact bad4 (by omega) (by omega) | exact bad1 (by omega) (by omega) | exact bad2 (by omega) (by omega) | trivial
theorem bb37 (n : Nat) (F : Nat → By) (C : Nat → Bool) (nl : NL) : Must (bodyP Try.prog N3 gl0 [] [(6, lsC1 n F C nl)] 3000 Try.f37 0 [chR n F C nl] [] (retQ Try.prog Try.f37 0 (rMp (pcB n F).length (pcE n F) (pcB n F)))) := by
  constructor
  rw [vb37]
  intro x1
  have hx1 : ¬ chOk n F → x1 := fun h => by
    have e1 : pcB n F = [] := by unfold pcB; rw [if_neg h]
    have e2 : pcE n F = 1 := by unfold pcE; rw [if_neg h]
    exact ⟨by rw [e1]; rfl, e2, e1, trivial⟩
  clear_value x1
  refine brec (fun c1 => ?_) (fun c1 => hx1 fun h => df c1 (by have := h.1; omega))
  refine brec (fun c2 => hx1 fun h => ndt c2 (by have := h.1; omega)) (fun c2 => ?_)
  have c1 := dt c1
  have c2 := ndf c2
  refine ⟨⟨0, ⟨Nat.zero_le _, fun i hi => absurd hi (by omega)⟩, rfl, fun y hy => ⟨rfl, rfl, rfl, trivial⟩, rfl, rfl, rfl, rfl, trivial⟩, fun x hx => ?_⟩
  have hx : x ≤ n ∧ ∀ i, i < x → 1 ≤ (F i).length ∧ (F i).length ≤ 300 := hx
  have hl := chB_len F x (by omega) (fun i hi => (hx.2 i hi).2)
  refine brec (fun d => ?_) (fun d => ?_)
  · have d := dlt.1 d
    refine ⟨by omega, by omega, ?_⟩
    rw [Int.toNat_natCast]
    refine brec (fun c3 => ?_) (fun c3 => hx1 fun h => df c3 (by have := h.2 x (by omega); omega))
    refine brec (fun c4 => hx1 fun h => ndt c4 (by have := h.2 x (by omega); omega)) (fun c4 => ?_)
    have c3 := dt c3
    have c4 := ndf c4
    refine ⟨rfl, by omega, bad3 (by omega) (by omega), by rw [pvB_len']; rfl, by rw [pvB_len']; simp; omega, rfl, x + 1, by omega, ⟨by omega, fun i hi => ?_⟩, ?_⟩
    · rcases Nat.lt_or_ge i x with h1 | h1
      · exact hx.2 i h1
      · obtain rfl : i = x := by omega
        exact ⟨by omega, by omega⟩
    · rw [wrap_nat (x + 1) (by omega) (by omega)]
      and_intros
      all_goals first | rfl | trivial | skip
      · intro y hy; exact ⟨rfl, rfl, rfl, trivial⟩
      · simp only [chB]; rw [pvB_len' _ [] 2]; rfl
  · have d := ndlt.1 d
    obtain rfl : x = n := by omega
    have h : chOk x F := ⟨⟨by omega, by omega⟩, hx.2⟩
    have e1 : pcB x F = pvB [0#8] (chB F x) 3 := by unfold pcB; rw [if_pos h]
    have e2 : pcE x F = 0 := by unfold pcE; rw [if_pos h]
    rw [e1, e2]
    exact ⟨by omega, rfl, rfl, rfl, by omega, bad3 (by omega) (by omega), rfl, rfl, rfl, by rw [pvB_len']; rfl, rfl, by rw [puB_zero], trivial⟩
theorem bb38 (n : Nat) (F : Nat → By) (C : Nat → Bool) (nl : NL) : Must (bodyP Try.prog N3 gl0 [] [(6, lsC2 n F C nl)] 3000 Try.f38 0 [chR n F C nl] [] (retQ Try.prog Try.f38 0 (rMq (pcB n F).length (decide (pcE n F = 0)) (pcB n F)))) := by
  constructor
  rw [vb38]
  intro x1
  have hx1 : ¬ chOk n F → x1 := fun h => by
    have e1 : pcB n F = [] := by unfold pcB; rw [if_neg h]
    have e2 : pcE n F = 1 := by unfold pcE; rw [if_neg h]
    exact ⟨by rw [e1]; rfl, by rw [e2]; rfl, e1, trivial⟩
  clear_value x1
  refine brec (fun c1 => ?_) (fun c1 => hx1 fun h => by have := ndf c1; have := h.1; omega)
  refine brec (fun c2 => hx1 fun h => by have := dt c2; have := h.1; omega) (fun c2 => ?_)
  have c1 := ndt c1
  have c2 := df c2
  refine ⟨⟨0, ⟨Nat.zero_le _, fun i hi => absurd hi (by omega)⟩, rfl, fun y hy => ⟨rfl, rfl, rfl, trivial⟩, rfl, rfl, rfl, trivial⟩, fun x hx => ?_⟩
  have hx : x ≤ n ∧ ∀ i, i < x → 1 ≤ (F i).length ∧ (F i).length ≤ 300 := hx
  have hl := chB_len F x (by omega) (fun i hi => (hx.2 i hi).2)
  refine brec (fun d => ?_) (fun d => ?_)
  · have d := dlt.1 d
    refine ⟨by omega, by omega, ?_⟩
    rw [Int.toNat_natCast]
    refine brec (fun c3 => ?_) (fun c3 => hx1 fun h => by have := ndf c3; have := h.2 x (by omega); omega)
    refine ⟨by omega, by omega, ?_⟩
    refine brec (fun c4 => hx1 fun h => by have := dt c4; have := h.2 x (by omega); omega) (fun c4 => ?_)
    have c3 := ndt c3
    have c4 := df c4
    have hz : [BitVec.ofNat 8 0, BitVec.ofNat 8 0] = [0#8, 0#8] := rfl
    have hp : (pvB [] (F x) 3).length = 3 + (F x).length := by rw [pvB_len']; simp
    rw [hz, hp, pvB_app, pvB_nil]
    refine ⟨by omega, by omega, by omega, bad3 (by omega) (by omega), rfl, rfl, by unfold roomFor; omega, rfl, by rw [pvB_len']; simp; omega, by unfold roomFor; omega, x + 1, by omega, ⟨by omega, fun i hi => ?_⟩, ?_⟩
    · rcases Nat.lt_or_ge i x with h1 | h1
      · exact hx.2 i h1
      · obtain rfl : i = x := by omega
        exact ⟨by omega, by omega⟩
    · rw [wrap_nat (x + 1) (by omega) (by omega)]
      and_intros
      all_goals first | rfl | trivial | skip
      · intro y hy; exact ⟨rfl, rfl, rfl, trivial⟩
      · simp only [chB]; rw [pvB_len' _ [] 2, pvB_len']; simp; omega
  · have d := ndlt.1 d
    obtain rfl : x = n := by omega
    have h : chOk x F := ⟨⟨by omega, by omega⟩, hx.2⟩
    have e1 : pcB x F = pvB [0#8] (chB F x) 3 := by unfold pcB; rw [if_pos h]
    have e2 : pcE x F = 0 := by unfold pcE; rw [if_pos h]
    have hp : (pvB [] (chB F x) 3).length = 3 + (chB F x).length := by rw [pvB_len']; simp
    rw [e1, e2, hp]
    exact ⟨rfl, by omega, bad3 (by omega) (by omega), rfl, rfl, by unfold roomFor; omega, rfl, rfl, rfl, by rw [pvB_len']; simp; omega, rfl, (pvB_app ..).symm, trivial⟩
end Go.Sym

namespace Go.Spec
open Go.Sym
/-- Where the j-th certificate begins; what it is. -/
def chX (I : By) : Nat → Nat
  | 0 => 0
  | j + 1 => chX I j + 3 + beN (cutB I (chX I j) 3) + 2
def chG (I : By) (j : Nat) : By := cutB I (chX I j + 3) (beN (cutB I (chX I j) 3))
structure gcOk (I : By) (N : Nat) : Prop where
  n1 : 1 ≤ N
  n4 : N ≤ 4
  e : chX I N = I.length
  a : ∀ j, j < N → 1 ≤ beN (cutB I (chX I j) 3) ∧ beN (cutB I (chX I j) 3) ≤ 300 ∧ beN (cutB I (chX I j + 3 + beN (cutB I (chX I j) 3)) 2) = 0
def chI (b : By) : By := cutB b 4 (beN (cutB b 1 3))
structure gbOk (b : By) (N : Nat) : Prop where
  l : b.length < 1099511627776
  z : beN (cutB b 0 1) = 0
  e : 4 + beN (cutB b 1 3) = b.length
  I : gcOk (chI b) N
end Go.Spec
namespace Go.Sym
open Go.Proofs Go.Spec
set_option linter.unusedVariables false
noncomputable def P1 : Ctx := (((Qz21.add 18 (mkF (reSp 2 gt18))).add 19 (mkF (reSp 2 gt19))).add 20 (mkF (reSp 4 gt20))).add 22 (mkF (reSp 1 gt22))
theorem okP1 : COKs Try.prog gl0 P1 := (((okQz21.add ct18).add ct19).add ct20).add ct22
noncomputable def P2 : Ctx := P1.exe Try.prog gl0 [] 300 Try.f73.params.size 73 Try.f73
theorem okP2 : COKs Try.prog gl0 P2 := okP1.exe [] 300 _ (by kernel_rfl) (by kernel_rfl) (by kernel_rfl) (fun args w => by kernel_rfl)
def chRow (I : By) : Nat → List AV := fun i => [.rb true (chG I i) .unk]
def lsG1 (b : By) (N : Nat) : LS := ⟨Nat, fun j => [(4, .ptr 100 0 0 0), (5, .slice 104 0 1 j .ow .unk), (6, .ptr 102 0 0 0)],
  fun j => [(100, ⟨.cells [.slice 101 b.length 1 0 .ox .unk, .int .i64 0], true, 0⟩), (101, ⟨.bytes b, true, 1⟩), (102, ⟨.cells [.slice 103 (chX (chI b) j) 1 ((chI b).length - chX (chI b) j) .ox .unk, .int .i64 0], true, 0⟩), (103, ⟨.bytes (chI b), true, 1⟩), (104, ⟨.rows 1 j (chRow (chI b)), true, 1⟩)],
  1000, fun j => N - j, fun j => j ≤ N, fun _ => []⟩
def rMg3 (N : Nat) (g : Nat → List AV) : RL := ⟨[], .tup [.slice 0 0 1 N .ow .unk, .int .i64 0], [], [⟨.rows 1 N g, true, 1⟩]⟩
end Go.Sym

set_option linter.unusedSimpArgs false
namespace Go.Spec
open Go.Sym
structure gvOk (b : By) : Prop where
  l : b.length < 1099511627776
  a : 1 ≤ beN (cutB b 2 2) ∧ beN (cutB b 2 2) ≤ 100
  e : 4 + beN (cutB b 2 2) = b.length
structure gnOk (b : By) (x1 x2 : Nat) : Prop where
  l : b.length < 1099511627776
  h1 : x1 = 9 + beN (cutB b 8 1)
  h2 : x2 = x1 + 2 + beN (cutB b x1 2)
  a : beN (cutB b 8 1) ≤ 8
  c : 1 ≤ beN (cutB b x1 2) ∧ beN (cutB b x1 2) ≤ 255
  z : beN (cutB b x2 2) = 0
  e : x2 + 2 = b.length
theorem chX_mono {I : By} : ∀ {j k : Nat}, j ≤ k → chX I j + 5 * (k - j) ≤ chX I k
  | j, 0, h => by obtain rfl : j = 0 := by omega
                  simp
  | j, k + 1, h => by
    rcases Nat.lt_or_ge k j with h1 | h1
    · obtain rfl : j = k + 1 := by omega
      simp
    · have := chX_mono (I := I) h1
      simp only [chX]
      omega
end Go.Spec
namespace Go.Sym
open Go.Proofs Go.Spec
set_option linter.unusedVariables false
set_option maxRecDepth 100000 in
theorem vb45 (b B : By) (v : Int) (m : Nat) : bodyP Try.prog P2 gl0 [] [] 3000 Try.f45 0 [.rb false b .unk] [] (retQ Try.prog Try.f45 0 ⟨[], .tup [.int .i64 v, .slice 0 0 1 m .ow .unk, .int .i64 0], [], [⟨.bytes B, true, 1⟩]⟩) = (
List.length b < 1099511627776 ∧ 0 + List.length b = List.length b ∧ List.length b < 1099511627776 ∧ ((1 : Int) ≤ (2 : Int) ∧ (2 : Int) ≤ (4 : Int)) ∧ 2 ≤ List.length b ∧ 2 + (List.length b - 2) = List.length b ∧ List.length b < 1099511627776 ∧ ((1 : Int) ≤ (2 : Int) ∧ (2 : Int) ≤ (4 : Int)) ∧ (4 + beN (cutB b 2 2) ≤ List.length b ∧ (1 : Int) ≤ (↑(beN (cutB b 2 2)) : Int) ∧ (↑(beN (cutB b 2 2)) : Int) ≤ (100 : Int)) ∧ List.length b - (4 + beN (cutB b 2 2)) = 0 ∧ v = (↑(beN (cutB b 0 2)) : Int) ∧ 0 = 0 ∧ 0 = 0 ∧ 0 = 0 ∧ m = beN (cutB b 2 2) ∧ (0 : Int) = (0 : Int) ∧ B = cutB b 4 (beN (cutB b 2 2)) ∧ True : Prop) := by kernel_rfl
set_option maxRecDepth 100000 in
theorem vb44 (b X Y : By) (l a : Int) (m1 m2 : Nat) : bodyP Try.prog P2 gl0 [] [] 3000 Try.f44 0 [.rb false b .unk] [] (retQ Try.prog Try.f44 0 ⟨[], .tup [.agg [.int .i64 l, .int .i64 a, .slice 0 0 1 m1 .ow .unk, .slice 1 0 1 m2 .ow .unk], .int .i64 0], [], [⟨.bytes X, true, 1⟩, ⟨.bytes Y, true, 1⟩]⟩) = (
let x1 := 9 + beN (cutB b 8 1); let x2 := x1 + 2 + beN (cutB b x1 2); List.length b < 1099511627776 ∧ 0 + List.length b = List.length b ∧ List.length b < 1099511627776 ∧ ((1 : Int) ≤ (4 : Int) ∧ (4 : Int) ≤ (4 : Int)) ∧ 4 ≤ List.length b ∧ 4 + (List.length b - 4) = List.length b ∧ List.length b < 1099511627776 ∧ ((1 : Int) ≤ (4 : Int) ∧ (4 : Int) ≤ (4 : Int)) ∧ 8 ≤ List.length b ∧ 8 + (List.length b - 8) = List.length b ∧ List.length b < 1099511627776 ∧ ((1 : Int) ≤ (1 : Int) ∧ (1 : Int) ≤ (4 : Int)) ∧ (x1 ≤ List.length b ∧ (0 : Int) ≤ (↑(beN (cutB b 8 1)) : Int) ∧ (↑(beN (cutB b 8 1)) : Int) ≤ (8 : Int)) ∧ x1 + (List.length b - x1) = List.length b ∧ List.length b < 1099511627776 ∧ ((1 : Int) ≤ (2 : Int) ∧ (2 : Int) ≤ (4 : Int)) ∧ (x2 ≤ List.length b ∧ (1 : Int) ≤ (↑(beN (cutB b x1 2)) : Int) ∧ (↑(beN (cutB b x1 2)) : Int) ≤ (255 : Int)) ∧ x2 + (List.length b - x2) = List.length b ∧ List.length b < 1099511627776 ∧ ((1 : Int) ≤ (2 : Int) ∧ (2 : Int) ≤ (4 : Int)) ∧ (x2 + 2 + beN (cutB b x2 2) ≤ List.length b ∧ (0 : Int) ≤ (↑(beN (cutB b x2 2)) : Int) ∧ (↑(beN (cutB b x2 2)) : Int) ≤ (0 : Int)) ∧ List.length b - (x2 + 2 + beN (cutB b x2 2)) = 0 ∧ l = (↑(beN (cutB b 0 4)) : Int) ∧ a = (↑(beN (cutB b 4 4)) : Int) ∧ 0 = 0 ∧ 0 = 0 ∧ 0 = 0 ∧ m1 = beN (cutB b 8 1) ∧ 0 = 0 ∧ 0 = 0 ∧ 0 = 0 ∧ m2 = beN (cutB b x1 2) ∧ (0 : Int) = (0 : Int) ∧ X = cutB b 9 (beN (cutB b 8 1)) ∧ Y = cutB b (x1 + 2) (beN (cutB b x1 2)) ∧ True : Prop) := by kernel_rfl
set_option maxRecDepth 100000 in
theorem vb43 (b : By) (N : Nat) : bodyP Try.prog (P2.withFrz [(23, [.by8])]) gl0 [] [(7, lsG1 b N)] 3000 Try.f43 0 [.rb false b .unk] [] (retQ Try.prog Try.f43 0 (rMg3 N (chRow (chI b)))) = (
List.length b < 1099511627776 ∧
 0 + List.length b = List.length b ∧
 List.length b < 1099511627776 ∧
 ((1 : Int) ≤ (1 : Int) ∧
 (1 : Int) ≤ (4 : Int)) ∧
 1 ≤ List.length b ∧
 @Bool.rec (fun _ => Prop) (1 + (List.length b - 1) = List.length b ∧
 List.length b < 1099511627776 ∧
 ((1 : Int) ≤ (3 : Int) ∧
 (3 : Int) ≤ (4 : Int)) ∧
 (4 + beN (cutB b 1 3) ≤ List.length b ∧
 (0 : Int) ≤ (↑(beN (cutB b 1 3)) : Int) ∧
 (↑(beN (cutB b 1 3)) : Int) ≤ (16777215 : Int)) ∧
 beN (cutB b 1 3) = List.length (cutB b 4 (beN (cutB b 1 3))) ∧
 List.length (cutB b 4 (beN (cutB b 1 3))) < 1099511627776 ∧
 (∃ (x : Nat), x.le N ∧
 0 = 0 ∧
 x = 0 ∧
 0 = 0 ∧
 List.length b = 4 + beN (cutB b 1 3) ∧
 0 = 0 ∧
 List.length b = 4 + beN (cutB b 1 3) ∧
 0 = List.length b - (4 + beN (cutB b 1 3)) ∧
 (0 : Int) = (0 : Int) ∧
 b = b ∧
 chX (chI b) x = 0 ∧
 0 = 0 ∧
 chX (chI b) x = 0 ∧
 List.length (chI b) - chX (chI b) x = List.length (cutB b 4 (beN (cutB b 1 3))) ∧
 (0 : Int) = (0 : Int) ∧
 chI b = cutB b 4 (beN (cutB b 1 3)) ∧
 x = 0 ∧
 True) ∧
 ∀ (x : Nat), let x1 := chX (chI b) x + 3 + beN (cutB (chI b) (chX (chI b) x) 3); x.le N → @Bool.rec (fun _ => Prop) (@Bool.rec (fun _ => Prop) False (@Bool.rec (fun _ => Prop) (0 = 0 ∧
 (∀ (y : Nat), y < N → outs Bool.true [AV.rb Bool.true (chG (chI b) y) NL.unk] = Bool.true) ∧
 0 = 0 ∧
 0 = 0 ∧
 0 = 0 ∧
 N = x ∧
 (0 : Int) = (0 : Int) ∧
 N = x ∧
 (∀ (y : Nat), y < N → datas Bool.false [AV.rb Bool.true (chG (chI b) y) NL.unk] = Bool.true ∧
 [AV.rb Bool.true (chG (chI b) y) NL.unk] = [AV.rb Bool.true (chG (chI b) y) NL.unk]) ∧
 True) False !decide ((↑x : Int) ≤ (4 : Int))) (decide ((1 : Int) ≤ (↑x : Int)))) (chX (chI b) x + (List.length (chI b) - chX (chI b) x) = List.length (chI b) ∧
 List.length (chI b) < 1099511627776 ∧
 ((1 : Int) ≤ (3 : Int) ∧
 (3 : Int) ≤ (4 : Int)) ∧
 (x1 ≤ List.length (chI b) ∧
 (1 : Int) ≤ (↑(beN (cutB (chI b) (chX (chI b) x) 3)) : Int) ∧
 (↑(beN (cutB (chI b) (chX (chI b) x) 3)) : Int) ≤ (300 : Int)) ∧
 beN (cutB (chI b) (chX (chI b) x) 3) = List.length (cutB (chI b) (chX (chI b) x + 3) (beN (cutB (chI b) (chX (chI b) x) 3))) ∧
 x = x ∧
 roomFor x 1 24 ∧
 x1 + (List.length (chI b) - x1) = List.length (chI b) ∧
 List.length (chI b) < 1099511627776 ∧
 ((1 : Int) ≤ (2 : Int) ∧
 (2 : Int) ≤ (4 : Int)) ∧
 (x1 + 2 + beN (cutB (chI b) x1 2) ≤ List.length (chI b) ∧
 (0 : Int) ≤ (↑(beN (cutB (chI b) x1 2)) : Int) ∧
 (↑(beN (cutB (chI b) x1 2)) : Int) ≤ (0 : Int)) ∧
 ∃ (y : Nat), N - y < N - x ∧
 y.le N ∧
 0 = 0 ∧
 0 = 0 ∧
 0 = 0 ∧
 0 = 0 ∧
 y = x + 1 ∧
 0 = 0 ∧
 List.length b = List.length b ∧
 0 = 0 ∧
 List.length b = List.length b ∧
 0 = 0 ∧
 (0 : Int) = (0 : Int) ∧
 b = b ∧
 chX (chI b) y = x1 + 2 + beN (cutB (chI b) x1 2) ∧
 0 = 0 ∧
 chX (chI b) y = x1 + 2 + beN (cutB (chI b) x1 2) ∧
 List.length (chI b) - chX (chI b) y = List.length (chI b) - (x1 + 2 + beN (cutB (chI b) x1 2)) ∧
 (0 : Int) = (0 : Int) ∧
 chI b = chI b ∧
 y = x + 1 ∧
 (∀ (y_1 : Nat), y_1 < y → datas Bool.false [AV.rb Bool.true (chG (chI b) y_1) NL.unk] = Bool.true ∧
 glue (fun (i : Nat) => [AV.rb Bool.true (chG (chI b) i) NL.unk]) x (cut 1 (List.take 1 (List.drop 0 [AV.rb Bool.true (cutB (chI b) (chX (chI b) x + 3) (beN (cutB (chI b) (chX (chI b) x) 3))) NL.unk]))) y_1 = [AV.rb Bool.true (chG (chI b) y_1) NL.unk]) ∧
 True) (decide ((0 : Int) < lfV (List.length (chI b) - chX (chI b) x) (0 : Int)))) False !decide ((↑(beN (cutB b 0 1)) : Int) = (0 : Int)) : Prop) := by kernel_rfl
theorem nd {p : Prop} [Decidable p] (h : p) : (!decide p) = false := by rw [decide_eq_true h]; rfl
theorem beN_lt3 (l : By) (h : l.length = 3) : beN l ≤ 16777215 := by
  match l, h with
  | [a, b, c], _ =>
    have := a.isLt
    have := b.isLt
    have := c.isLt
    simp only [beN, List.foldl]
    omega
theorem bb45 (b : By) (h : gvOk b) : Must (bodyP Try.prog P2 gl0 [] [] 3000 Try.f45 0 [.rb false b .unk] [] (retQ Try.prog Try.f45 0 ⟨[], .tup [.int .i64 (beN (cutB b 0 2)), .slice 0 0 1 (beN (cutB b 2 2)) .ow .unk, .int .i64 0], [], [⟨.bytes (cutB b 4 (beN (cutB b 2 2))), true, 1⟩]⟩)) := by
  constructor
  rw [vb45]
  have hl := h.l
  have ha := h.a
  have he := h.e
  exact ⟨hl, by omega, hl, by omega, by omega, by omega, hl, by omega, ⟨by omega, by omega, by omega⟩, by omega, rfl, rfl, rfl, rfl, rfl, rfl, rfl, trivial⟩
theorem bb44 (b : By) (x1 x2 : Nat) (h : gnOk b x1 x2) : Must (bodyP Try.prog P2 gl0 [] [] 3000 Try.f44 0 [.rb false b .unk] [] (retQ Try.prog Try.f44 0 ⟨[], .tup [.agg [.int .i64 (beN (cutB b 0 4)), .int .i64 (beN (cutB b 4 4)), .slice 0 0 1 (beN (cutB b 8 1)) .ow .unk, .slice 1 0 1 (beN (cutB b x1 2)) .ow .unk], .int .i64 0], [], [⟨.bytes (cutB b 9 (beN (cutB b 8 1))), true, 1⟩, ⟨.bytes (cutB b (x1 + 2) (beN (cutB b x1 2))), true, 1⟩]⟩)) := by
  constructor
  rw [vb44]
  intro y1 y2
  have hy1 : y1 = x1 := h.h1.symm
  have hy2 : y2 = y1 + 2 + beN (cutB b y1 2) := rfl
  clear_value y1 y2
  subst hy1
  rw [← h.h2] at hy2
  subst hy2
  have hl := h.l
  have h1 := h.h1
  have h2 := h.h2
  have ha := h.a
  have hc := h.c
  have hz := h.z
  have he := h.e
  and_intros
  all_goals first | omega | rfl | trivial
theorem bb43 (b : By) (N : Nat) (h : gbOk b N) : Must (bodyP Try.prog (P2.withFrz [(23, [.by8])]) gl0 [] [(7, lsG1 b N)] 3000 Try.f43 0 [.rb false b .unk] [] (retQ Try.prog Try.f43 0 (rMg3 N (chRow (chI b))))) := by
  constructor
  rw [vb43]
  have hl := h.l
  have hz := h.z
  have he := h.e
  have n1 := h.I.n1
  have n4 := h.I.n4
  have hI := h.I.e
  have hIl : (chI b).length = beN (cutB b 1 3) := cutB_len ..
  have h3 := beN_lt3 (cutB b 1 3) (cutB_len ..)
  have hcl : (cutB b 4 (beN (cutB b 1 3))).length = beN (cutB b 1 3) := cutB_len ..
  refine ⟨hl, by omega, hl, by omega, by omega, ?_⟩
  rw [nd (show (↑(beN (cutB b 0 1)) : Int) = 0 by omega)]
  rw [hcl]
  refine ⟨by omega, hl, by omega, ⟨by omega, by omega, by omega⟩, rfl, by omega, ⟨0, Nat.zero_le _, rfl, rfl, rfl, by omega, rfl, by omega, by omega, rfl, rfl, rfl, rfl, rfl, by rw [hIl]; rfl, rfl, rfl, rfl, trivial⟩, ?_⟩
  intro x x1 hx
  have hx : x ≤ N := hx
  have hx1 : x1 = chX (chI b) x + 3 + beN (cutB (chI b) (chX (chI b) x) 3) := rfl
  clear_value x1
  have hm := chX_mono (I := chI b) hx
  refine brec (fun d => ?_) (fun d => ?_)
  · have d := dlt.1 d
    have hxN : x < N := by
      rcases Nat.lt_or_ge x N with h1 | h1
      · exact h1
      · exfalso
        obtain rfl : x = N := by omega
        rw [hI, Nat.sub_self] at d
        simp [lfV] at d
    obtain ⟨a1, a2, a3⟩ := h.I.a x hxN
    rw [← hx1] at a3
    have hm2 := chX_mono (I := chI b) (j := x + 1) (k := N) (by omega)
    have hm3 : chX (chI b) (x + 1) = x1 + 2 := by simp only [chX]; omega
    rw [cutB_len, a3, Nat.add_zero]
    refine ⟨by omega, by omega, by omega, ⟨by omega, by omega, by omega⟩, rfl, rfl, by unfold roomFor; omega, by omega, by omega, by omega, ⟨by omega, by omega, by omega⟩, x + 1, by omega, (by show x + 1 ≤ N; omega), ?_⟩
    rw [hm3]
    and_intros
    all_goals first | rfl | trivial | skip
    intro y hy
    refine ⟨rfl, ?_⟩
    unfold glue
    by_cases hyx : y < x
    · rw [if_pos hyx]
    · rw [if_neg hyx]
      obtain rfl : y = x := by omega
      rw [Nat.sub_self]
      rfl
  · have d := ndlt.1 d
    have hxN : x = N := by
      rcases Nat.lt_or_ge x N with h1 | h1
      · exfalso
        have : 0 < (chI b).length - chX (chI b) x := by omega
        simp [lfV] at d
        omega
      · omega
    subst hxN
    rw [decide_eq_true (show (1 : Int) ≤ (↑x : Int) by omega)]
    rw [nd (show (↑x : Int) ≤ 4 by omega)]
    and_intros
    all_goals first | rfl | trivial | omega | skip
    · intro y hy; rfl
    · intro y hy; exact ⟨rfl, rfl⟩
end Go.Sym

set_option linter.unusedSimpArgs false
namespace Go.Spec
open Go.Sym
theorem gb_uniq {b : By} {N M : Nat} (h : gbOk b N) (k : gbOk b M) : N = M := by
  have e1 := h.I.e
  have e2 := k.I.e
  rcases Nat.lt_trichotomy N M with h1 | h1 | h1
  · have := chX_mono (I := chI b) (Nat.le_of_lt h1); omega
  · exact h1
  · have := chX_mono (I := chI b) (Nat.le_of_lt h1); omega
open Classical in
/-- How many certificates there are. -/
noncomputable def chNum (b : By) : Nat := if h : ∃ N, gbOk b N then Classical.choose h else 0
theorem chNum_eq {b : By} {N : Nat} (h : gbOk b N) : chNum b = N := by
  have he : ∃ N, gbOk b N := ⟨N, h⟩
  unfold chNum
  rw [dif_pos he]
  exact gb_uniq (Classical.choose_spec he) h
def gnX1 (b : By) : Nat := 9 + beN (cutB b 8 1)
def gnX2 (b : By) : Nat := gnX1 b + 2 + beN (cutB b (gnX1 b) 2)
end Go.Spec
namespace Go.Sym
open Go.Proofs Go.Spec
set_option linter.unusedVariables false
def rowB' (g : Nat → List AV) (j : Nat) : By := match g j with | [.rb true l _] => l | _ => []
def rowC' (g : Nat → List AV) (j : Nat) : Bool := match g j with | [.rb true _ (.is c)] => c | _ => false
def isRowC (g : Nat → List AV) : Prop := g = fun j => [.rb true (rowB' g j) (.is (rowC' g j))]
noncomputable def gm37 (xs : List AV) (bs : List ABlk) : TL := match xs, bs with
  | [.ros true 1 n g nl], [] => .ok ⟨[isRowC g], .tup [.slice 0 0 1 (pcB n (rowB' g)).length .ow .unk, .int .i64 (pcE n (rowB' g))], [], [⟨.bytes (pcB n (rowB' g)), true, 1⟩]⟩
  | _, _ => .no
noncomputable def spm37 : Spec := ⟨[.r 1], fun _ _ => [], fun _ _ => [], gm37⟩
theorem cm37 : COK Try.prog gl0 37 (mkF spm37) := by
  refine ctrE (fn := Try.f37) [] 3000 (by kernel_rfl) (by kernel_rfl) okN3 (by kernel_rfl) (fun args w => by kernel_rfl) fun xs bs r hs ho => ?_
  replace hs : (gm37 xs bs).sel = some r := hs
  unfold gm37 at hs
  split at hs
  · rename_i n g nl
    simp only [TL.sel, Option.some.injEq] at hs
    subst hs
    have h : isRowC g := obsT_one.1 ho
    have hb := bb37 n (rowB' g) (rowC' g) nl
    have e : chR n (rowB' g) (rowC' g) nl = .ros true 1 n g nl := by
      show AV.ros true 1 n (fun j => [.rb true (rowB' g j) (.is (rowC' g j))]) nl = _
      rw [← h]
    refine ⟨[(6, lsC1 n (rowB' g) (rowC' g) nl)], ?_⟩
    rw [e] at hb
    exact hb
  · simp [TL.sel] at hs
noncomputable def gm38 (xs : List AV) (bs : List ABlk) : TL := match xs, bs with
  | [.ros true 1 n g nl], [] => .ok ⟨[isRowC g], .tup [.slice 0 0 1 (pcB n (rowB' g)).length .ow .unk, .bool (decide (pcE n (rowB' g) = 0))], [], [⟨.bytes (pcB n (rowB' g)), true, 1⟩]⟩
  | _, _ => .no
noncomputable def spm38 : Spec := ⟨[.r 1], fun _ _ => [], fun _ _ => [], gm38⟩
theorem cm38 : COK Try.prog gl0 38 (mkF spm38) := by
  refine ctrE (fn := Try.f38) [] 3000 (by kernel_rfl) (by kernel_rfl) okN3 (by kernel_rfl) (fun args w => by kernel_rfl) fun xs bs r hs ho => ?_
  replace hs : (gm38 xs bs).sel = some r := hs
  unfold gm38 at hs
  split at hs
  · rename_i n g nl
    simp only [TL.sel, Option.some.injEq] at hs
    subst hs
    have h : isRowC g := obsT_one.1 ho
    have hb := bb38 n (rowB' g) (rowC' g) nl
    have e : chR n (rowB' g) (rowC' g) nl = .ros true 1 n g nl := by
      show AV.ros true 1 n (fun j => [.rb true (rowB' g j) (.is (rowC' g j))]) nl = _
      rw [← h]
    refine ⟨[(6, lsC2 n (rowB' g) (rowC' g) nl)], ?_⟩
    rw [e] at hb
    exact hb
  · simp [TL.sel] at hs
noncomputable def gm39 (xs : List AV) (bs : List ABlk) : TL := match xs, bs with
  | [.agg [.int .i64 l, .int .i64 a, .rb false x .unk, .rb false y .unk]], [] => .ok ⟨[], .tup [.slice 0 0 1 (pnB l a x y).length .ow .unk, .int .i64 (pnE l a x.length y.length)], [], [⟨.bytes (pnB l a x y), true, 1⟩]⟩
  | _, _ => .no
noncomputable def spm39 : Spec := ⟨[.a [.kp, .kp, .by0, .by0]], fun _ _ => [], fun _ _ => [], gm39⟩
theorem cm39 : COK Try.prog gl0 39 (mkF spm39) := by
  refine ctrE (fn := Try.f39) [] 3000 (by kernel_rfl) (by kernel_rfl) okN3 (by kernel_rfl) (fun args w => by kernel_rfl) fun xs bs r hs ho => ?_
  replace hs : (gm39 xs bs).sel = some r := hs
  unfold gm39 at hs
  split at hs
  · simp only [TL.sel, Option.some.injEq] at hs
    subst hs
    exact ⟨[], bb39 _ _ _ _⟩
  · simp [TL.sel] at hs
noncomputable def gm40 (xs : List AV) (bs : List ABlk) : TL := match xs, bs with
  | [.agg [.int .i64 l, .int .i64 a, .rb false x .unk, .rb false y .unk]], [] => .ok ⟨[], .tup [.slice 0 0 1 (pnB l a x y).length .ow .unk, .bool (decide (pnE l a x.length y.length = 0))], [], [⟨.bytes (pnB l a x y), true, 1⟩]⟩
  | _, _ => .no
noncomputable def spm40 : Spec := ⟨[.a [.kp, .kp, .by0, .by0]], fun _ _ => [], fun _ _ => [], gm40⟩
theorem cm40 : COK Try.prog gl0 40 (mkF spm40) := by
  refine ctrE (fn := Try.f40) [] 3000 (by kernel_rfl) (by kernel_rfl) okN3 (by kernel_rfl) (fun args w => by kernel_rfl) fun xs bs r hs ho => ?_
  replace hs : (gm40 xs bs).sel = some r := hs
  unfold gm40 at hs
  split at hs
  · simp only [TL.sel, Option.some.injEq] at hs
    subst hs
    exact ⟨[], bb40 _ _ _ _⟩
  · simp [TL.sel] at hs
noncomputable def gm41 (xs : List AV) (bs : List ABlk) : TL := match xs, bs with
  | [.int .i64 s, .rb false x .unk], [] => .ok ⟨[], .tup [.slice 0 0 1 (pyB s x).length .ow .unk, .int .i64 (pyE s x.length)], [], [⟨.bytes (pyB s x), true, 1⟩]⟩
  | _, _ => .no
noncomputable def spm41 : Spec := ⟨[.kp, .by0], fun _ _ => [], fun _ _ => [], gm41⟩
theorem cm41 : COK Try.prog gl0 41 (mkF spm41) := by
  refine ctrE (fn := Try.f41) [] 3000 (by kernel_rfl) (by kernel_rfl) okN3 (by kernel_rfl) (fun args w => by kernel_rfl) fun xs bs r hs ho => ?_
  replace hs : (gm41 xs bs).sel = some r := hs
  unfold gm41 at hs
  split at hs
  · simp only [TL.sel, Option.some.injEq] at hs
    subst hs
    exact ⟨[], bb41 _ _⟩
  · simp [TL.sel] at hs
noncomputable def gm42 (xs : List AV) (bs : List ABlk) : TL := match xs, bs with
  | [.int .i64 s, .rb false x .unk], [] => .ok ⟨[], .tup [.slice 0 0 1 (pyB s x).length .ow .unk, .bool (decide (pyE s x.length = 0))], [], [⟨.bytes (pyB s x), true, 1⟩]⟩
  | _, _ => .no
noncomputable def spm42 : Spec := ⟨[.kp, .by0], fun _ _ => [], fun _ _ => [], gm42⟩
theorem cm42 : COK Try.prog gl0 42 (mkF spm42) := by
  refine ctrE (fn := Try.f42) [] 3000 (by kernel_rfl) (by kernel_rfl) okN4 (by kernel_rfl) (fun args w => by kernel_rfl) fun xs bs r hs ho => ?_
  replace hs : (gm42 xs bs).sel = some r := hs
  unfold gm42 at hs
  split at hs
  · simp only [TL.sel, Option.some.injEq] at hs
    subst hs
    exact ⟨[], bb42 _ _⟩
  · simp [TL.sel] at hs
noncomputable def gm43 (xs : List AV) (bs : List ABlk) : TL := match xs, bs with
  | [.rb false b .unk], [] => .ok ⟨[gbOk b (chNum b)], .tup [.slice 0 0 1 (chNum b) .ow .unk, .int .i64 0], [], [⟨.rows 1 (chNum b) (chRow (chI b)), true, 1⟩]⟩
  | _, _ => .no
noncomputable def spm43 : Spec := ⟨[.by0], fun _ _ => [], fun _ _ => [], gm43⟩
theorem cm43 : COK Try.prog gl0 43 (mkF spm43) := by
  refine ctrE (fn := Try.f43) [] 3000 (by kernel_rfl) (by kernel_rfl) (okP2.withFrz [(23, [.by8])]) (by kernel_rfl) (fun args w => by kernel_rfl) fun xs bs r hs ho => ?_
  replace hs : (gm43 xs bs).sel = some r := hs
  unfold gm43 at hs
  split at hs
  · rename_i b
    simp only [TL.sel, Option.some.injEq] at hs
    subst hs
    exact ⟨[(7, lsG1 b (chNum b))], bb43 b (chNum b) (obsT_one.1 ho)⟩
  · simp [TL.sel] at hs
def gm44 (xs : List AV) (bs : List ABlk) : TL := match xs, bs with
  | [.rb false b .unk], [] => .ok ⟨[gnOk b (gnX1 b) (gnX2 b)], .tup [.agg [.int .i64 (beN (cutB b 0 4)), .int .i64 (beN (cutB b 4 4)), .slice 0 0 1 (beN (cutB b 8 1)) .ow .unk, .slice 1 0 1 (beN (cutB b (gnX1 b) 2)) .ow .unk], .int .i64 0], [], [⟨.bytes (cutB b 9 (beN (cutB b 8 1))), true, 1⟩, ⟨.bytes (cutB b (gnX1 b + 2) (beN (cutB b (gnX1 b) 2))), true, 1⟩]⟩
  | _, _ => .no
def spm44 : Spec := ⟨[.by0], fun _ _ => [], fun _ _ => [], gm44⟩
theorem cm44 : COK Try.prog gl0 44 (mkF spm44) := by
  refine ctrE (fn := Try.f44) [] 3000 (by kernel_rfl) (by kernel_rfl) okP2 (by kernel_rfl) (fun args w => by kernel_rfl) fun xs bs r hs ho => ?_
  replace hs : (gm44 xs bs).sel = some r := hs
  unfold gm44 at hs
  split at hs
  · simp only [TL.sel, Option.some.injEq] at hs
    subst hs
    exact ⟨[], bb44 _ _ _ (obsT_one.1 ho)⟩
  · simp [TL.sel] at hs
def gm45 (xs : List AV) (bs : List ABlk) : TL := match xs, bs with
  | [.rb false b .unk], [] => .ok ⟨[gvOk b], .tup [.int .i64 (beN (cutB b 0 2)), .slice 0 0 1 (beN (cutB b 2 2)) .ow .unk, .int .i64 0], [], [⟨.bytes (cutB b 4 (beN (cutB b 2 2))), true, 1⟩]⟩
  | _, _ => .no
def spm45 : Spec := ⟨[.by0], fun _ _ => [], fun _ _ => [], gm45⟩
theorem cm45 : COK Try.prog gl0 45 (mkF spm45) := by
  refine ctrE (fn := Try.f45) [] 3000 (by kernel_rfl) (by kernel_rfl) okP2 (by kernel_rfl) (fun args w => by kernel_rfl) fun xs bs r hs ho => ?_
  replace hs : (gm45 xs bs).sel = some r := hs
  unfold gm45 at hs
  split at hs
  · simp only [TL.sel, Option.some.injEq] at hs
    subst hs
    exact ⟨[], bb45 _ (obsT_one.1 ho)⟩
  · simp [TL.sel] at hs
noncomputable def P3 : Ctx := (((((M6.add 37 (mkF spm37)).add 38 (mkF spm38)).add 39 (mkF spm39)).add 40 (mkF spm40)).add 41 (mkF spm41)).add 42 (mkF spm42)
theorem okP3 : COKs Try.prog gl0 P3 := ((((((okM5.add cm33).add cm37).add cm38).add cm39).add cm40).add cm41).add cm42
noncomputable def P4 : Ctx := ((P3.add 43 (mkF spm43)).add 44 (mkF spm44)).add 45 (mkF spm45)
theorem okP4 : COKs Try.prog gl0 P4 := ((okP3.add cm43).add cm44).add cm45
noncomputable def lsBd (n : Nat) (F : Nat → By) (C : Nat → Bool) (l a s : Int) (x y : By) (c1 c2 : Bool) : LS := ⟨Nat, fun i => [(0, chR n F C .unk), (2, .int .i64 s), (4, .ptr 111 0 0 0), (8, .int .i64 (pcE n F)), (11, .slice 112 0 1 (pnB l a x y).length .ow .unk), (12, .int .i64 (pnE l a x.length y.length)), (15, .slice 113 0 1 (pyB s y).length .ow .unk), (16, .int .i64 (pyE s y.length)), (19, .slice 110 0 1 (chNum (pcB n F)) .ow .unk), (21, .int .i64 i)],
  fun i => [(110, ⟨.rows 1 (chNum (pcB n F)) (chRow (chI (pcB n F))), true, 1⟩), (111, ⟨.cells [.int .i64 l, .int .i64 a, .rb true x (.is c1), .rb true y (.is c2)], true, 0⟩), (112, ⟨.bytes (pnB l a x y), true, 1⟩), (113, ⟨.bytes (pyB s y), true, 1⟩)], 1000, fun i => chNum (pcB n F) - i, fun i => i ≤ chNum (pcB n F), fun _ => []⟩
end Go.Sym

set_option linter.unusedSimpArgs false
namespace Go.Spec
open Go.Sym
theorem mcut {L A X R : By} {x m : Nat} (hL : L = A ++ (X ++ R)) (hx : A.length = x) (hm : X.length = m) : cutB L x m = X := by
  subst hL hx hm
  rw [← cutB_eq (by simp), List.drop_left, List.take_left]
theorem pvB_eq (b v : By) (w : Int) : pvB b v w = b ++ (puL v.length w.toNat ++ v) := by simp [pvB, puB]
theorem beN_zero2 : beN (puL 0 2) = 0 := by rw [beN_puL]
theorem beN_puL' {n : Nat} {w : Nat} (h : n < 256 ^ w) : beN (puL n w) = n := by rw [beN_puL, Nat.mod_eq_of_lt h]
theorem chB_succ (F : Nat → By) (j : Nat) : chB F (j + 1) = chB F j ++ (puL (F j).length 3 ++ (F j ++ puL 0 2)) := by
  simp only [chB, pvB_eq, List.append_nil, List.append_assoc]
  rfl
theorem chB_pre (F : Nat → By) : ∀ (n j : Nat), j ≤ n → ∃ R, chB F n = chB F j ++ R
  | 0, j, h => ⟨[], by obtain rfl : j = 0 := by omega
                       simp⟩
  | n + 1, j, h => by
    rcases Nat.lt_or_ge n j with h1 | h1
    · obtain rfl : j = n + 1 := by omega
      exact ⟨[], by simp⟩
    · obtain ⟨R, hR⟩ := chB_pre F n j h1
      exact ⟨R ++ (puL (F n).length 3 ++ (F n ++ puL 0 2)), by rw [chB_succ, hR]; simp⟩
theorem chB_at {F : Nat → By} {n j : Nat} (h : j < n) : ∃ R, chB F n = chB F j ++ (puL (F j).length 3 ++ (F j ++ (puL 0 2 ++ R))) := by
  obtain ⟨R, hR⟩ := chB_pre F n (j + 1) h
  exact ⟨R, by rw [hR, chB_succ]; simp⟩
theorem chX_B {n : Nat} {F : Nat → By} (h : chOk n F) : ∀ (j : Nat), j ≤ n → chX (chB F n) j = (chB F j).length
  | 0, _ => rfl
  | j + 1, hj => by
    have ih := chX_B h j (by omega)
    obtain ⟨R, hR⟩ := chB_at (F := F) (n := n) (j := j) (by omega)
    have hl := (h.2 j (by omega)).2
    have e1 : cutB (chB F n) (chX (chB F n) j) 3 = puL (F j).length 3 := mcut hR ih.symm (puL_len ..)
    simp only [chX]
    rw [e1, beN_puL' (by omega), ih, chB_succ]
    simp only [List.length_append, puL_len]
    omega
theorem ch_len3 {n : Nat} {F : Nat → By} (h : chOk n F) {j : Nat} (hj : j < n) : cutB (chB F n) (chX (chB F n) j) 3 = puL (F j).length 3 := by
  obtain ⟨R, hR⟩ := chB_at (F := F) (n := n) (j := j) hj
  exact mcut hR (chX_B h j (by omega)).symm (puL_len ..)
theorem ch_beN {n : Nat} {F : Nat → By} (h : chOk n F) {j : Nat} (hj : j < n) : beN (cutB (chB F n) (chX (chB F n) j) 3) = (F j).length := by
  rw [ch_len3 h hj, beN_puL' (by have := (h.2 j hj).2; omega)]
theorem chG_B {n : Nat} {F : Nat → By} (h : chOk n F) {j : Nat} (hj : j < n) : chG (chB F n) j = F j := by
  obtain ⟨R, hR⟩ := chB_at (F := F) (n := n) (j := j) hj
  unfold chG
  rw [ch_beN h hj]
  exact mcut (A := chB F j ++ puL (F j).length 3) (R := puL 0 2 ++ R) (by rw [hR]; simp) (by rw [chX_B h j (by omega)]; simp [puL_len]) rfl
theorem ch_z {n : Nat} {F : Nat → By} (h : chOk n F) {j : Nat} (hj : j < n) : beN (cutB (chB F n) (chX (chB F n) j + 3 + beN (cutB (chB F n) (chX (chB F n) j) 3)) 2) = 0 := by
  obtain ⟨R, hR⟩ := chB_at (F := F) (n := n) (j := j) hj
  rw [ch_beN h hj]
  rw [mcut (A := chB F j ++ (puL (F j).length 3 ++ F j)) (X := puL 0 2) (R := R) (by rw [hR]; simp) (by rw [chX_B h j (by omega)]; simp [puL_len]; omega) (puL_len ..)]
  exact beN_zero2
theorem gc_ok {n : Nat} {F : Nat → By} (h : chOk n F) : gcOk (chB F n) n where
  n1 := h.1.1
  n4 := h.1.2
  e := chX_B h n (Nat.le_refl n)
  a := fun j hj => ⟨by rw [ch_beN h hj]; exact (h.2 j hj).1, by rw [ch_beN h hj]; exact (h.2 j hj).2, ch_z h hj⟩
theorem pcB_ok {n : Nat} {F : Nat → By} (h : chOk n F) : pcB n F = [0#8] ++ (puL (chB F n).length 3 ++ chB F n) := by
  unfold pcB; rw [if_pos h, pvB_eq]; rfl
theorem pc_len {n : Nat} {F : Nat → By} (h : chOk n F) : (chB F n).length ≤ 1220 := by
  have := chB_len F n h.1.2 (fun i hi => (h.2 i hi).2)
  have := h.1.2
  omega
theorem pc_beN {n : Nat} {F : Nat → By} (h : chOk n F) : beN (cutB (pcB n F) 1 3) = (chB F n).length := by
  rw [mcut (x := 1) (m := 3) (pcB_ok h) rfl (puL_len ..), beN_puL' (by have := pc_len h; omega)]
theorem chI_pc {n : Nat} {F : Nat → By} (h : chOk n F) : chI (pcB n F) = chB F n := by
  unfold chI
  rw [pc_beN h]
  exact mcut (A := [0#8] ++ puL (chB F n).length 3) (R := []) (by rw [pcB_ok h]; simp) (by simp [puL_len]) rfl
theorem gb_ok {n : Nat} {F : Nat → By} (h : chOk n F) : gbOk (pcB n F) n where
  l := by
    have := pc_len h
    rw [pcB_ok h]; simp [puL_len]; omega
  z := by
    rw [mcut (x := 0) (m := 1) (A := []) (X := [0#8]) (by rw [pcB_ok h]; rfl) rfl rfl]; rfl
  e := by
    rw [pc_beN h, pcB_ok h]; simp [puL_len]; omega
  I := by rw [chI_pc h]; exact gc_ok h
theorem num_pc {n : Nat} {F : Nat → By} (h : chOk n F) : chNum (pcB n F) = n := chNum_eq (gb_ok h)
theorem G_pc {n : Nat} {F : Nat → By} (h : chOk n F) {j : Nat} (hj : j < n) : chG (chI (pcB n F)) j = F j := by rw [chI_pc h]; exact chG_B h hj
theorem pc0 {n : Nat} {F : Nat → By} (h : pcE n F = 0) : chOk n F := Classical.byContradiction fun k => by
  unfold pcE at h; rw [if_neg k] at h; cases h
theorem pc1 {n : Nat} {F : Nat → By} (h : ¬ pcE n F = 0) : pcE n F = 1 := by
  by_cases k : chOk n F
  · exact absurd (by unfold pcE; rw [if_pos k]) h
  · unfold pcE; rw [if_neg k]
theorem pn0 {l a : Int} {x y : Nat} (h : pnE l a x y = 0) : pnOk l a x y := Classical.byContradiction fun k => by
  unfold pnE at h; rw [if_neg k] at h; cases h
theorem pn1 {l a : Int} {x y : Nat} (h : ¬ pnE l a x y = 0) : pnE l a x y = 1 := by
  by_cases k : pnOk l a x y
  · exact absurd (by unfold pnE; rw [if_pos k]) h
  · unfold pnE; rw [if_neg k]
theorem py0 {s : Int} {x : Nat} (h : pyE s x = 0) : pyOk s x := Classical.byContradiction fun k => by
  unfold pyE at h; rw [if_neg k] at h; cases h
theorem py1 {s : Int} {x : Nat} (h : ¬ pyE s x = 0) : pyE s x = 1 := by
  by_cases k : pyOk s x
  · exact absurd (by unfold pyE; rw [if_pos k]) h
  · unfold pyE; rw [if_neg k]
theorem pyB_ok {s : Int} {y : By} (h : pyOk s y.length) : pyB s y = puL s.toNat 2 ++ (puL y.length 2 ++ y) := by
  unfold pyB; rw [if_pos h, pvB_eq]; simp [puB]
theorem py_s {s : Int} {y : By} (h : pyOk s y.length) : (↑(beN (cutB (pyB s y) 0 2)) : Int) = s := by
  have := h.1
  rw [mcut (x := 0) (m := 2) (A := []) (by rw [pyB_ok h]; rfl) rfl (puL_len ..), beN_puL' (by omega)]
  omega
theorem py_n {s : Int} {y : By} (h : pyOk s y.length) : beN (cutB (pyB s y) 2 2) = y.length := by
  have := h.2
  rw [mcut (x := 2) (m := 2) (pyB_ok h) (puL_len ..) (puL_len ..), beN_puL' (by omega)]
theorem py_y {s : Int} {y : By} (h : pyOk s y.length) : cutB (pyB s y) 4 (beN (cutB (pyB s y) 2 2)) = y := by
  rw [py_n h]
  exact mcut (A := puL s.toNat 2 ++ puL y.length 2) (R := []) (by rw [pyB_ok h]; simp) (by simp [puL_len]) rfl
theorem gv_ok {s : Int} {y : By} (h : pyOk s y.length) : gvOk (pyB s y) where
  l := by have := h.2; rw [pyB_ok h]; simp [puL_len]; omega
  a := by rw [py_n h]; exact h.2
  e := by rw [py_n h, pyB_ok h]; simp [puL_len]; omega
theorem pnB_ok {l a : Int} {x y : By} (h : pnOk l a x.length y.length) : pnB l a x y = puL l.toNat 4 ++ (puL a.toNat 4 ++ (puL x.length 1 ++ (x ++ (puL y.length 2 ++ (y ++ puL 0 2))))) := by
  unfold pnB; rw [if_pos h]; simp only [pvB_eq]; simp [puB]
theorem pn_l {l a : Int} {x y : By} (h : pnOk l a x.length y.length) : (↑(beN (cutB (pnB l a x y) 0 4)) : Int) = l := by
  have := h.1
  rw [mcut (x := 0) (m := 4) (A := []) (by rw [pnB_ok h]; rfl) rfl (puL_len ..), beN_puL' (by omega)]
  omega
theorem pn_a {l a : Int} {x y : By} (h : pnOk l a x.length y.length) : (↑(beN (cutB (pnB l a x y) 4 4)) : Int) = a := by
  have := h.2.1
  rw [mcut (x := 4) (m := 4) (pnB_ok h) (puL_len ..) (puL_len ..), beN_puL' (by omega)]
  omega
theorem pn_nx {l a : Int} {x y : By} (h : pnOk l a x.length y.length) : beN (cutB (pnB l a x y) 8 1) = x.length := by
  have := h.2.2.1
  rw [mcut (x := 8) (m := 1) (A := puL l.toNat 4 ++ puL a.toNat 4) (X := puL x.length 1) (by rw [pnB_ok h]; simp only [List.append_assoc]; rfl) (by simp [puL_len]) (puL_len ..), beN_puL' (by omega)]
theorem pn_x {l a : Int} {x y : By} (h : pnOk l a x.length y.length) : cutB (pnB l a x y) 9 (beN (cutB (pnB l a x y) 8 1)) = x := by
  rw [pn_nx h]
  exact mcut (A := puL l.toNat 4 ++ (puL a.toNat 4 ++ puL x.length 1)) (by rw [pnB_ok h]; simp only [List.append_assoc]; rfl) (by simp [puL_len]) rfl
theorem gnX1_pn {l a : Int} {x y : By} (h : pnOk l a x.length y.length) : gnX1 (pnB l a x y) = 9 + x.length := by unfold gnX1; rw [pn_nx h]
theorem pn_ny {l a : Int} {x y : By} (h : pnOk l a x.length y.length) : beN (cutB (pnB l a x y) (gnX1 (pnB l a x y)) 2) = y.length := by
  have := h.2.2.2
  rw [gnX1_pn h, mcut (m := 2) (A := puL l.toNat 4 ++ (puL a.toNat 4 ++ (puL x.length 1 ++ x))) (X := puL y.length 2) (by rw [pnB_ok h]; simp only [List.append_assoc]; rfl) (by simp [puL_len]; omega) (puL_len ..), beN_puL' (by omega)]
theorem pn_y {l a : Int} {x y : By} (h : pnOk l a x.length y.length) : cutB (pnB l a x y) (gnX1 (pnB l a x y) + 2) (beN (cutB (pnB l a x y) (gnX1 (pnB l a x y)) 2)) = y := by
  rw [pn_ny h, gnX1_pn h]
  exact mcut (A := puL l.toNat 4 ++ (puL a.toNat 4 ++ (puL x.length 1 ++ (x ++ puL y.length 2)))) (by rw [pnB_ok h]; simp only [List.append_assoc]; rfl) (by simp [puL_len]; omega) rfl
theorem gnX2_pn {l a : Int} {x y : By} (h : pnOk l a x.length y.length) : gnX2 (pnB l a x y) = 11 + x.length + y.length := by unfold gnX2; rw [pn_ny h, gnX1_pn h]; omega
theorem gn_ok {l a : Int} {x y : By} (h : pnOk l a x.length y.length) : gnOk (pnB l a x y) (gnX1 (pnB l a x y)) (gnX2 (pnB l a x y)) where
  l := by have := h.2.2; rw [pnB_ok h]; simp [puL_len]; omega
  h1 := rfl
  h2 := rfl
  a := by rw [pn_nx h]; exact h.2.2.1
  c := by rw [pn_ny h]; exact h.2.2.2
  z := by
    rw [gnX2_pn h, mcut (A := puL l.toNat 4 ++ (puL a.toNat 4 ++ (puL x.length 1 ++ (x ++ (puL y.length 2 ++ y))))) (X := puL 0 2) (R := []) (by rw [pnB_ok h]; simp) (by simp [puL_len]; omega) (puL_len ..)]
    exact beN_zero2
  e := by rw [gnX2_pn h, pnB_ok h]; simp [puL_len]; omega
end Go.Spec

namespace Go.Sym
open Go.Proofs Go.Spec
set_option linter.unusedVariables false
set_option maxRecDepth 100000 in
theorem vb7 (n : Nat) (F : Nat → By) (C : Nat → Bool) (c c1 c2 : Bool) (l a s : Int) (x y : By) : bodyP Try.prog P4 gl0 [] [(15, lsBd n F C l a s x y c1 c2)] 3000 Try.f7 0 [chR n F C (.is c), asNw l a (.rb true x (.is c1)) (.rb true y (.is c2)), .int .i64 s] [] (retQ Try.prog Try.f7 0 ⟨[], .bool true, [], []⟩) = (
let x1 := @Bool.rec (fun _ => Prop) (@Bool.rec (fun _ => Prop) (Bool.true = Bool.true ∧ True) (Bool.true = decide (pyE s (List.length y) = (1 : Int)) ∧ True) !decide (pyE s (List.length y) = (0 : Int))) (@Bool.rec (fun _ => Prop) (Bool.true = Bool.false ∧ True) (@Bool.rec (fun _ => Prop) (Bool.true = Bool.true ∧ True) (Bool.true = decide (pyE s (List.length y) = (1 : Int)) ∧ True) !decide (pyE s (List.length y) = (0 : Int))) (decide (pnE l a (List.length x) (List.length y) = (1 : Int)))) !decide (pnE l a (List.length x) (List.length y) = (0 : Int)); let x2 := @Bool.rec (fun _ => Prop) (@Bool.rec (fun _ => Prop) x1 (@Bool.rec (fun _ => Prop) (Bool.true = Bool.false ∧ True) x1 (decide ((pcE n fun (j : Nat) => F j) = (1 : Int)))) !decide ((pcE n fun (j : Nat) => F j) = (0 : Int))) (List.length (pyB s y) = List.length (pyB s y) ∧ gvOk ([List.length (pyB s y) = List.length (pyB s y)], pyB s y).snd ∧ @Bool.rec (fun _ => Prop) (Bool.true = Bool.false ∧ True) (beN (cutB (pyB s y) 2 2) = List.length (cutB (pyB s y) 4 (beN (cutB (pyB s y) 2 2))) ∧ @Bool.rec (fun _ => Prop) (@Bool.rec (fun _ => Prop) x1 (@Bool.rec (fun _ => Prop) (Bool.true = Bool.false ∧ True) x1 (decide ((pcE n fun (j : Nat) => F j) = (1 : Int)))) !decide ((pcE n fun (j : Nat) => F j) = (0 : Int))) (Bool.true = Bool.false ∧ True) !decide (cutB (pyB s y) 4 (beN (cutB (pyB s y) 2 2)) = y)) !!decide ((↑(beN (cutB (pyB s y) 0 2)) : Int) = s)) (decide (pyE s (List.length y) = (0 : Int))); let x3 := @Bool.rec (fun _ => Prop) (@Bool.rec (fun _ => Prop) x1 (@Bool.rec (fun _ => Prop) (Bool.true = Bool.false ∧ True) x1 (decide (pcE n F = (1 : Int)))) !decide (pcE n F = (0 : Int))) (List.length (pyB s y) = List.length (pyB s y) ∧ gvOk ([List.length (pyB s y) = List.length (pyB s y)], pyB s y).snd ∧ @Bool.rec (fun _ => Prop) (Bool.true = Bool.false ∧ True) (beN (cutB (pyB s y) 2 2) = List.length (cutB (pyB s y) 4 (beN (cutB (pyB s y) 2 2))) ∧ @Bool.rec (fun _ => Prop) (@Bool.rec (fun _ => Prop) x1 (@Bool.rec (fun _ => Prop) (Bool.true = Bool.false ∧ True) x1 (decide (pcE n F = (1 : Int)))) !decide (pcE n F = (0 : Int))) (Bool.true = Bool.false ∧ True) !decide (cutB (pyB s y) 4 (beN (cutB (pyB s y) 2 2)) = y)) !!decide ((↑(beN (cutB (pyB s y) 0 2)) : Int) = s)) (decide (pyE s (List.length y) = (0 : Int))); let x4 := List.length (pnB l a x y) = List.length (pnB l a x y); let x5 := fun (j : Nat) => [AV.rb Bool.true (F j) (NL.is (C j))]; let x6 := cutB (pnB l a x y) (gnX1 (pnB l a x y) + 2) (beN (cutB (pnB l a x y) (gnX1 (pnB l a x y)) 2)); let x7 := cutB (pnB l a x y) 9 (beN (cutB (pnB l a x y) 8 1)); let x8 := ([x4], pnB l a x y).snd; let x9 := l = l ∧ a = a ∧ c1 = c1 ∧ x = x ∧ c2 = c2 ∧ y = y ∧ pnB l a x y = pnB l a x y ∧ pyB s y = pyB s y ∧ True; x5 = x5 ∧ x5 = x5 ∧ @Bool.rec (fun _ => Prop) (Bool.true = Bool.false ∧ True) (@Bool.rec (fun _ => Prop) (Bool.true = Bool.false ∧ True) (@Bool.rec (fun _ => Prop) (Bool.true = Bool.false ∧ True) (List.length (pcB n fun (j : Nat) => F j) = List.length (pcB n fun (j : Nat) => F j) ∧ List.length (pcB n fun (j : Nat) => F j) = List.length (pcB n fun (j : Nat) => F j) ∧ @Bool.rec (fun _ => Prop) (Bool.true = Bool.false ∧ True) (x4 ∧ x4 ∧ @Bool.rec (fun _ => Prop) (Bool.true = Bool.false ∧ True) (List.length (pyB s y) = List.length (pyB s y) ∧ List.length (pyB s y) = List.length (pyB s y) ∧ @Bool.rec (fun _ => Prop) (@Bool.rec (fun _ => Prop) (@Bool.rec (fun _ => Prop) x2 (x4 ∧ gnOk x8 (gnX1 x8) (gnX2 x8) ∧ @Bool.rec (fun _ => Prop) (Bool.true = Bool.false ∧ True) (@Bool.rec (fun _ => Prop) (Bool.true = Bool.false ∧ True) (beN (cutB (pnB l a x y) 8 1) = List.length x7 ∧ @Bool.rec (fun _ => Prop) (Bool.true = Bool.false ∧ True) (beN (cutB (pnB l a x y) (gnX1 (pnB l a x y)) 2) = List.length x6 ∧ @Bool.rec (fun _ => Prop) x2 (Bool.true = Bool.false ∧ True) !decide (x6 = y)) !!decide (x7 = x)) !!decide ((↑(beN (cutB (pnB l a x y) 4 4)) : Int) = a)) !!decide ((↑(beN (cutB (pnB l a x y) 0 4)) : Int) = l)) (decide (pnE l a (List.length x) (List.length y) = (0 : Int)))) (List.length (pcB n fun (j : Nat) => F j) = List.length (pcB n fun (j : Nat) => F j) ∧ gbOk ([List.length (pcB n (rowB' x5)) = List.length (pcB n (rowB' x5))], pcB n (rowB' x5)).snd (chNum ([List.length (pcB n (rowB' x5)) = List.length (pcB n (rowB' x5))], pcB n (rowB' x5)).snd) ∧ @Bool.rec (fun _ => Prop) ((∃ (x_1 : Nat), x_1.le (chNum (pcB n F)) ∧ n = n ∧ (∀ (y : Nat), y < n → datas Bool.true [AV.rb Bool.true (F y) (NL.is (C y))] = Bool.true ∧ C y = C y ∧ F y = F y ∧ True) ∧ s = s ∧ 0 = 0 ∧ (pcE n F = pcE n fun (j : Nat) => F j) ∧ 0 = 0 ∧ 0 = 0 ∧ 0 = 0 ∧ x4 ∧ pnE l a (List.length x) (List.length y) = pnE l a (List.length x) (List.length y) ∧ 0 = 0 ∧ 0 = 0 ∧ 0 = 0 ∧ List.length (pyB s y) = List.length (pyB s y) ∧ pyE s (List.length y) = pyE s (List.length y) ∧ 0 = 0 ∧ 0 = 0 ∧ 0 = 0 ∧ chNum (pcB n F) = chNum (pcB n fun (j : Nat) => F j) ∧ (↑x_1 : Int) = (0 : Int) ∧ chNum (pcB n F) = chNum (pcB n fun (j : Nat) => F j) ∧ (∀ (y : Nat), y < chNum (pcB n F) → datas Bool.false [AV.rb Bool.true (chG (chI (pcB n F)) y) NL.unk] = Bool.true ∧ [AV.rb Bool.true (chG (chI (pcB n fun (j : Nat) => F j)) y) NL.unk] = [AV.rb Bool.true (chG (chI (pcB n F)) y) NL.unk]) ∧ x9) ∧ ∀ (x_1 : Nat), x_1.le (chNum (pcB n F)) → @Bool.rec (fun _ => Prop) (@Bool.rec (fun _ => Prop) x3 (x4 ∧ gnOk x8 (gnX1 x8) (gnX2 x8) ∧ @Bool.rec (fun _ => Prop) (Bool.true = Bool.false ∧ True) (@Bool.rec (fun _ => Prop) (Bool.true = Bool.false ∧ True) (beN (cutB (pnB l a x y) 8 1) = List.length x7 ∧ @Bool.rec (fun _ => Prop) (Bool.true = Bool.false ∧ True) (beN (cutB (pnB l a x y) (gnX1 (pnB l a x y)) 2) = List.length x6 ∧ @Bool.rec (fun _ => Prop) x3 (Bool.true = Bool.false ∧ True) !decide (x6 = y)) !!decide (x7 = x)) !!decide ((↑(beN (cutB (pnB l a x y) 4 4)) : Int) = a)) !!decide ((↑(beN (cutB (pnB l a x y) 0 4)) : Int) = l)) (decide (pnE l a (List.length x) (List.length y) = (0 : Int)))) ((0 : Int) ≤ (↑x_1 : Int) ∧ (↑x_1 : Int).toNat < chNum (pcB n F) ∧ (↑x_1 : Int).toNat < chNum (pcB n F) ∧ (0 : Int) ≤ (↑x_1 : Int) ∧ (↑x_1 : Int).toNat < n ∧ @Bool.rec (fun _ => Prop) (∃ (y_1 : Nat), chNum (pcB n F) - y_1 < chNum (pcB n F) - x_1 ∧ y_1.le (chNum (pcB n F)) ∧ n = n ∧ (∀ (y : Nat), y < n → datas Bool.true [AV.rb Bool.true (F y) (NL.is (C y))] = Bool.true ∧ C y = C y ∧ F y = F y ∧ True) ∧ s = s ∧ 0 = 0 ∧ pcE n F = pcE n F ∧ 0 = 0 ∧ 0 = 0 ∧ 0 = 0 ∧ x4 ∧ pnE l a (List.length x) (List.length y) = pnE l a (List.length x) (List.length y) ∧ 0 = 0 ∧ 0 = 0 ∧ 0 = 0 ∧ List.length (pyB s y) = List.length (pyB s y) ∧ pyE s (List.length y) = pyE s (List.length y) ∧ 0 = 0 ∧ 0 = 0 ∧ 0 = 0 ∧ chNum (pcB n F) = chNum (pcB n F) ∧ (↑y_1 : Int) = IntKind.i64.wrap ((↑x_1 : Int) + (1 : Int)) ∧ chNum (pcB n F) = chNum (pcB n F) ∧ (∀ (y : Nat), y < chNum (pcB n F) → datas Bool.false [AV.rb Bool.true (chG (chI (pcB n F)) y) NL.unk] = Bool.true ∧ [AV.rb Bool.true (chG (chI (pcB n F)) y) NL.unk] = [AV.rb Bool.true (chG (chI (pcB n F)) y) NL.unk]) ∧ x9) (Bool.true = Bool.false ∧ True) !decide (chG (chI (pcB n F)) (↑x_1 : Int).toNat = F (↑x_1 : Int).toNat)) (decide ((↑x_1 : Int) < (↑(chNum (pcB n F)) : Int)))) (Bool.true = Bool.false ∧ True) !decide ((↑(chNum (pcB n fun (j : Nat) => F j)) : Int) = (↑n : Int))) (decide ((pcE n fun (j : Nat) => F j) = (0 : Int)))) (Bool.true = Bool.false ∧ True) !decide (pyB s y = pyB s y)) !!decide (pnB l a x y = pnB l a x y)) !!decide ((pcB n fun (j : Nat) => F j) = pcB n fun (j : Nat) => F j)) !!decide (decide (pyE s (List.length y) = (0 : Int)) = decide (pyE s (List.length y) = (0 : Int)))) !!decide (decide (pnE l a (List.length x) (List.length y) = (0 : Int)) = decide (pnE l a (List.length x) (List.length y) = (0 : Int)))) !!decide (decide ((pcE n fun (j : Nat) => F j) = (0 : Int)) = decide ((pcE n fun (j : Nat) => F j) = (0 : Int))) : Prop) := by kernel_rfl
end Go.Sym

namespace Go.Sym
open Go.Proofs Go.Spec
set_option linter.unusedVariables false
theorem bb7 (n : Nat) (F : Nat → By) (C : Nat → Bool) (c c1 c2 : Bool) (l a s : Int) (x y : By) : Must (bodyP Try.prog P4 gl0 [] [(15, lsBd n F C l a s x y c1 c2)] 3000 Try.f7 0 [chR n F C (.is c), asNw l a (.rb true x (.is c1)) (.rb true y (.is c2)), .int .i64 s] [] (retQ Try.prog Try.f7 0 ⟨[], .bool true, [], []⟩)) := by
  constructor
  rw [vb7]
  intro x1 x2 x3 x4 x5 x6 x7 x8 x9
  have hx1 : x1 := by
    have hy : @Bool.rec (fun _ => Prop) (true = true ∧ True) (true = decide (pyE s (List.length y) = 1) ∧ True) (!decide (pyE s (List.length y) = 0)) := brec (fun d => ⟨by rw [decide_eq_true (py1 (ndt d))], trivial⟩) (fun _ => ⟨rfl, trivial⟩)
    exact brec (fun d => brec (fun _ => hy) (fun e => absurd (pn1 (ndt d)) (df e))) (fun _ => hy)
  have hv : @Bool.rec (fun _ => Prop) x1 (@Bool.rec (fun _ => Prop) (true = false ∧ True) x1 (decide (pcE n F = 1))) (!decide (pcE n F = 0)) := brec (fun d => brec (fun _ => hx1) (fun e => absurd (pc1 (ndt d)) (df e))) (fun _ => hx1)
  have hx3 : x3 := by
    refine brec (fun d => ?_) (fun _ => hv)
    have h := py0 (dt d)
    refine ⟨rfl, gv_ok h, ?_⟩
    refine brec (fun e => ?_) (fun e => absurd (py_s h) (nndf e))
    refine ⟨(cutB_len ..).symm, ?_⟩
    exact brec (fun e => absurd (py_y h) (ndt e)) (fun e => hv)
  have hx2 : x2 := hx3
  have h6 : pnOk l a x.length y.length → x6 = y := fun h => pn_y h
  have h7 : pnOk l a x.length y.length → x7 = x := fun h => pn_x h
  have h6l : x6.length = beN (cutB (pnB l a x y) (gnX1 (pnB l a x y)) 2) := cutB_len ..
  have h7l : x7.length = beN (cutB (pnB l a x y) 8 1) := cutB_len ..
  have h8 : pnOk l a x.length y.length → gnOk x8 (gnX1 x8) (gnX2 x8) := fun h => gn_ok h
  have h4 : x4 := rfl
  have h9 : x9 := ⟨rfl, rfl, rfl, rfl, rfl, rfl, rfl, rfl, trivial⟩
  have h55 : x5 = x5 := rfl
  have hg : gbOk ([List.length (pcB n (rowB' x5)) = List.length (pcB n (rowB' x5))], pcB n (rowB' x5)).snd (chNum ([List.length (pcB n (rowB' x5)) = List.length (pcB n (rowB' x5))], pcB n (rowB' x5)).snd) = gbOk (pcB n F) (chNum (pcB n F)) := rfl
  rw [hg]
  clear_value x1 x2 x3 x4 x5 x6 x7 x8 x9
  have hN : ∀ (P : Prop), P → @Bool.rec (fun _ => Prop) P (x4 ∧ gnOk x8 (gnX1 x8) (gnX2 x8) ∧ @Bool.rec (fun _ => Prop) (true = false ∧ True) (@Bool.rec (fun _ => Prop) (true = false ∧ True) (beN (cutB (pnB l a x y) 8 1) = List.length x7 ∧ @Bool.rec (fun _ => Prop) (true = false ∧ True) (beN (cutB (pnB l a x y) (gnX1 (pnB l a x y)) 2) = List.length x6 ∧ @Bool.rec (fun _ => Prop) P (true = false ∧ True) (!decide (x6 = y))) (!!decide (x7 = x))) (!!decide ((↑(beN (cutB (pnB l a x y) 4 4)) : Int) = a))) (!!decide ((↑(beN (cutB (pnB l a x y) 0 4)) : Int) = l))) (decide (pnE l a (List.length x) (List.length y) = 0)) := by
    intro P hP
    refine brec (fun d => ?_) (fun _ => hP)
    have h := pn0 (dt d)
    refine ⟨h4, h8 h, ?_⟩
    refine brec (fun _ => ?_) (fun e => absurd (pn_l h) (nndf e))
    refine brec (fun _ => ?_) (fun e => absurd (pn_a h) (nndf e))
    refine ⟨h7l.symm, ?_⟩
    refine brec (fun _ => ?_) (fun e => absurd (h7 h) (nndf e))
    refine ⟨h6l.symm, ?_⟩
    exact brec (fun e => absurd (h6 h) (ndt e)) (fun _ => hP)
  refine ⟨h55, h55, ?_⟩
  refine brec (fun _ => ?_) (fun e => absurd rfl (nndf e))
  refine brec (fun _ => ?_) (fun e => absurd rfl (nndf e))
  refine brec (fun _ => ?_) (fun e => absurd rfl (nndf e))
  refine ⟨rfl, rfl, ?_⟩
  refine brec (fun _ => ?_) (fun e => absurd rfl (nndf e))
  refine ⟨h4, h4, ?_⟩
  refine brec (fun _ => ?_) (fun e => absurd rfl (nndf e))
  refine ⟨rfl, rfl, ?_⟩
  refine brec (fun e => absurd rfl (ndt e)) (fun _ => ?_)
  refine brec (fun d => ?_) (fun _ => hN x2 hx2)
  have h := pc0 (dt d)
  have hn := num_pc h
  have hG := fun j (hj : j < n) => G_pc h hj
  have n4 := h.1.2
  refine ⟨rfl, by rw [hn]; exact gb_ok h, ?_⟩
  refine brec (fun e => absurd (by show (↑(chNum (pcB n F)) : Int) = ↑n; rw [hn]) (ndt e)) (fun _ => ?_)
  rw [hn]
  refine ⟨⟨0, Nat.zero_le _, rfl, fun y hy => ⟨rfl, rfl, rfl, trivial⟩, rfl, rfl, rfl, rfl, rfl, rfl, h4, rfl, rfl, rfl, rfl, rfl, rfl, rfl, rfl, rfl, rfl, rfl, rfl, fun y hy => ⟨rfl, rfl⟩, h9⟩, ?_⟩
  intro i hi
  have hi : i ≤ n := hi
  refine brec (fun d => ?_) (fun _ => hN x3 hx3)
  have d := dlt.1 d
  rw [Int.toNat_natCast]
  refine ⟨by omega, by omega, by omega, by omega, by omega, ?_⟩
  refine brec (fun e => absurd (hG i (by omega)) (ndt e)) (fun _ => ?_)
  refine ⟨i + 1, by omega, (by show i + 1 ≤ n; omega), rfl, fun y hy => ⟨rfl, rfl, rfl, trivial⟩, rfl, rfl, rfl, rfl, rfl, rfl, h4, rfl, rfl, rfl, rfl, rfl, rfl, rfl, rfl, rfl, rfl, (wrap_nat (i + 1) (by omega) (by omega)).symm, rfl, fun y hy => ⟨rfl, rfl⟩, h9⟩
end Go.Sym

/- MessageBodies: of all chains, tickets and signatures the bytes are told, or that they can't be; what is put is read back. No conditions. -/
namespace Go.Sym
open Go.Proofs Go.Spec
theorem w7 (W : World) (v0 : Value) (F : Nat → List (BitVec 8)) (C : Nat → Bool) (n0 : Nat) (c0 : Bool) (h0 : VRel (κW W) (.ros true 1 n0 (fun j => [.rb true (F j) (.is (C j))]) (.is c0)) v0) (_k0 : n0 ≤ maxLen) (v1 : Value) (l a : Int) (x : List (BitVec 8)) (c1 : Bool) (y : List (BitVec 8)) (c2 : Bool) (h1 : VRel (κW W) (.agg [.int .i64 l, .int .i64 a, .rb true x (.is c1), .rb true y (.is c2)]) v1) (n2 : Int) :
    Calls Try.prog 7 #[v0, v1, .int .i64 n2] W fun e w' => e = .returned (.bool true) ∧ RowKit.Below W.heap.size W w' := by
  have hv : VRels (κW W) [.ros true 1 n0 (fun j => [.rb true (F j) (.is (C j))]) (.is c0), .agg [.int .i64 l, .int .i64 a, .rb true x (.is c1), .rb true y (.is c2)], .int .i64 n2] [v0, v1, .int .i64 n2] := by
    simp only [VRels]
    exact ⟨_, _, rfl, h0, _, _, rfl, h1, _, _, rfl, rfl, rfl⟩
  refine law_walk (gl := gl0) (Γ := P4) (fn := Try.f7) (av := [.ros true 1 n0 (fun j => [.rb true (F j) (.is (C j))]) (.is c0), .agg [.int .i64 l, .int .i64 a, .rb true x (.is c1), .rb true y (.is c2)], .int .i64 n2]) (ls := [(15, lsBd n0 F C l a n2 x y c1 c2)]) [] 3000 (by kernel_rfl) (by kernel_rfl) okP4 (by kernel_rfl) (GW.nil W) (by kernel_rfl) hv ?_
  exact bb7 n0 F C c0 c1 c2 l a n2 x y
end Go.Sym
namespace Go.Proofs.Ytgniepaehjdjaaa.messageBodies
open Go.ChangeShapes Go.WideShapes Go.ChangeAt Go.RowKit
set_option linter.unusedVariables false

theorem own : ownKnob Try.prog.godebug = none := by kernel_rfl
theorem laid : laidOutB Try.prog = true := by kernel_rfl

set_option maxRecDepth 100000 in
theorem lifted (os : Os) (started : os.Started) (H : Type) (enc : TypeId × Value → H) :
    ReturnsInHanded {} Try.checked os 7 .any (Rows.messageBodiesSpec.pre6 enc Try.prog Try.f7 Rows.messageBodiesRow.domain false) (Rows.messageBodiesSpec.post enc Try.prog Try.f7 false true false false) := by
  refine returnsInHanded_of_change (C := Try.checked) own started (by kernel_rfl) Try.func7
    (ChangeSpec.witness6 (enc := enc) (C := Try.checked) false ⟨#[], #[.slice none 0 0, .agg #[.int .i64 0, .int .i64 0, .slice none 0 0, .slice none 0 0], .int .i64 0], []⟩ 8 (by kernel_rfl) (by kernel_rfl) (by kernel_rfl) (by kernel_rfl)) ?_
  intro W base args ds gs before hval0 hW hcnd _
  have hval : ∀ (j : Nat) t v, Try.f7.params[j]? = some t → args[j]? = some v → Value.okWide Try.prog W .any base t v := hval0
  have hW' := hW
  obtain ⟨p, q, hA0, hV, rfl, hfz, hnd⟩ := hW
  have hA : DataW.TrodAll enc Try.prog W 0 (fun _ => true) true Try.f7.params.toList args.toList ds p := hA0
  rw [Try.params7] at hA hval
  obtain ⟨v0, vs0, d0, ds0, p0, q0, hargs, rfl, rfl, h0, r0⟩ := trodAll_cons hA
  obtain ⟨v1, vs1, d1, ds1, p1, q1, rfl, rfl, rfl, h1, r1⟩ := trodAll_cons r0
  obtain ⟨v2, vs2, d2, ds2, p2, q2, rfl, rfl, rfl, h2, r2⟩ := trodAll_cons r1
  obtain ⟨rfl, rfl, rfl⟩ := trodAll_nil r2
  obtain rfl : args = #[v0, v1, v2] := by cases args; simp_all
  obtain ⟨rfl, rfl⟩ := trodVars_none hV
  obtain ⟨a2, rfl, rfl, rfl, w2⟩ := open_int Try.underlying3 (hval 2 3 v2 rfl rfl) h2
  clear hA0 hval0
  have hlt0 : ∀ x ∈ p0, x.block < W.heap.size := fun x hx => hW'.lt x (by simp [hx])
  obtain ⟨fuel0, hf0⟩ := h0
  obtain ⟨u0, n0, g0, c0, hc0, hcl0, hll0, hg0, hu0⟩ := Go.Sym.rd_rowsF (sz := 1) (l := [.y]) (av0 := [.rb true [] (.is true)]) Try.underlying41 (by kernel_rfl) (by decide) (by kernel_rfl) ⟨⟨[], true, rfl, fun _ => rfl, by simp⟩, trivial⟩ hf0
  have hv0 : v0 = u0 := Go.Sym.cells_slice Try.underlying41 (hval 0 41 v0 rfl rfl) hc0
  subst hv0
  obtain ⟨F, C, rfl, hFC⟩ := Go.Sym.sh_rb hg0
  have hlt1 : ∀ x ∈ p1, x.block < W.heap.size := fun x hx => hW'.lt x (by simp [hx])
  obtain ⟨fuel1, hf1⟩ := h1
  obtain ⟨avs1, hs1, hd1, hr1⟩ := Go.Sym.rd_flat 9 60 ([.i .i64, .i .i64, .y, .y]) _ _ _ (by kernel_rfl) hf1
  obtain ⟨l, a, x, c1, y, c2, rfl⟩ := Go.Sym.sh_iiyy hs1
  have hu1 := Go.Sym.agg_of_cells hr1 (by simp)
  refine (Go.Sym.w7 W v0 F C n0 c0 hu0 hll0 v1 l a x c1 y c2 hu1 a2).mono fun e W' ⟨he, bel⟩ => ?_
  subst he
  exact ⟨_, rfl, _, _, _, [], _, [], hW', trodAll_mk1 (shut_bool Try.underlying4 _), (trodAll_cons_mk (Below.trod laid (by kernel_rfl) (of_decide_eq_true (by kernel_rfl)) ⟨fuel0, hf0⟩ bel hlt0) (trodAll_cons_mk (Below.trod laid (by kernel_rfl) (of_decide_eq_true (by kernel_rfl)) ⟨fuel1, hf1⟩ bel hlt1) (trodAll_cons_mk (shut_int Try.underlying3 w2) trodAll_mk0))), rfl, bel.frame _, fun h => by cases h⟩

theorem over : Rows.messageBodiesRow.holds Try.pinned (OpenSpec.ofChange Rows.messageBodiesSpec) :=
  OpenClaim.holds_of_wide 7 Try.f7 rfl rfl rfl rfl rfl rfl rfl ⟨rfl, rfl, rfl, rfl, rfl⟩ rfl rfl rfl rfl rfl (by kernel_rfl) Try.func7 (by kernel_rfl)
    (of_decide_eq_true (by kernel_rfl)) (by unfold Func.isWrapper; first | (rw [if_pos (by decide +kernel)]; kernel_rfl) | (rw [if_neg (by decide +kernel)]; exact ⟨rfl, rfl⟩))
    (fun os started H enc _ => lifted os started H enc)

theorem proved : Rows.MessageBodiesSaid :=
  over
#print axioms proved
end Go.Proofs.Ytgniepaehjdjaaa.messageBodies
