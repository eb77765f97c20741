/- Greetings are read: those without a ticket. -/
import Derived.Test.YtknplceohfeamaaGreatDoorParts
set_option linter.unusedVariables false
set_option linter.unusedSimpArgs false
namespace Go.Spec
open Go.Sym
abbrev Pat := List (Option (BitVec 8))
def tS : Pat->By->Bool
 | [],[] => true
 | none::p,_::b => tS p b
 | some x::p,y::b => decide (x = y) && tS p b
 | _,_ => false
def fill (f : F8) : Pat->Nat->By
 | [],_ => []
 | none::p,i => f i::fill f p (i + 1)
 | some x::p,i => x::fill f p (i + 1)
theorem cG : ∀ (p : Pat) (b r : By),tS p b = true->fill (fun i => (r++b).getD i 0) p r.length = b
 | [],[],r,_ => rfl
 | [],_::_,_,h => by cases h
 | none::p,[],_,h => by cases h
 | some x::p,[],_,h => by cases h
 | none::p,y::b,r,h => by
  have e : r++y::b = (r++[y])++b := by simp
  have h2 := cG p b (r++[y]) h
  simp only [fill]
  rw [e]
  rw [List.length_append] at h2
  rw [show r.length + 1 = r.length + [y].length from rfl,h2]
  congr 1
  simp [List.getD]
 | some x::p,y::b,r,h => by
  simp only [tS,Bool.and_eq_true,decide_eq_true_eq] at h
  obtain ⟨rfl,h⟩ := h
  have e : r++x::b = (r++[x])++b := by simp
  have h2 := cG p b (r++[x]) h
  simp only [fill]
  rw [e]
  rw [List.length_append] at h2
  rw [show r.length + 1 = r.length + [x].length from rfl,h2]
theorem O8 {p : Pat} {b : By} (h : tS p b = true) : b = fill (fun i => b.getD i 0) p 0 := (cG p b [] h).symm
def lt (l : List Nat) : Pat := l.map fun n => some (BitVec.ofNat 8 n)
def fr (n : Nat) : Pat := List.replicate n none
def B9 (g2 own tk : Bool) : Pat :=
 lt [3,3]++fr 32++lt [0,0,2,19,3,1,0,0,71 + (if g2 then 2 else 0) + (if tk then 50 else 0),0,43,0,3,2,3,4]
 ++ (if g2 then lt [0,10,0,6,0,4,0,29,0,23] else lt [0,10,0,4,0,2,0,29])
 ++ lt [0,13,0,4,0,2,254,1,0,51,0,38,0,36,0,(if own then 29 else 23),0,32]++fr 32++lt [0,45,0,2,1,1]
 ++ (if tk then lt [0,41,0,46,0,9,0,3]++fr 3++lt [0,0,0,0,0,33,32]++fr 32 else [])
end Go.Spec
namespace Go.Sym
open Go.Proofs Go.Spec
def O9 (g2 own tk : Bool) (f : F8) : AV := .tup [.agg (yD 32 (fun i => f (2 + i))++[.slice 0 0 1 0 .ow .unk,.slice 1 0 1 1 .ow (.is false),.slice 2 0 1 1 .ow (.is false),.slice 3 0 1 (match g2 with | true => 2 | false => 1) .ow (.is false),.slice 4 0 1 1 .ow (.is false),.slice 5 0 2 1 .ow (.is false),.nils,.slice 7 0 1 1 .ow .unk]++(match tk with | true => [.slice 8 0 2 1 .ow (.is false),.slice 10 0 1 1 .ow (.is false)] | false => [.nils,.nils])),.int .i64 0]
def kpG (g2 : Bool) : Nat := match g2 with | true => 2 | false => 0
def P0 (g2 own tk : Bool) (f : F8) : List ABlk := [⟨.bytes [],true,1⟩,⟨.cells [.int .i64 4867],true,1⟩,⟨.cells [.int .i64 772],true,1⟩,⟨.cells (match g2 with | true => [.int .i64 29,.int .i64 23] | false => [.int .i64 29]),true,1⟩,⟨.cells [.int .i64 65025],true,1⟩,⟨.cells [.int .i64 (match own with | true => 29 | false => 23),.slice 6 0 1 32 .ow .unk],true,2⟩,⟨.bytes (rg 32 fun i => f (76 + kpG g2 + i)),true,1⟩,⟨.bytes [1#8],true,1⟩] ++
 (match tk with | true => [⟨.cells [.slice 9 0 1 3 .ow .unk,.int .i64 0],true,2⟩,⟨.bytes (rg 3 fun i => f (122 + kpG g2 + i)),true,1⟩,⟨.cells [.slice 11 0 1 32 .ow .unk],true,1⟩,⟨.bytes (rg 32 fun i => f (132 + kpG g2 + i)),true,1⟩] | false => [])
set_option maxHeartbeats 0
set_option maxRecDepth 100000 in
theorem v2q (f : F8) : bq Y3 Tryz.f157 0 [.rb false (fill f (B9 false true false) 0) .unk] [] ⟨[],O9 false true false f,[],P0 false true false f⟩ = (
cj [0,32,0,2,3,0,1,8,0,1,0,1,0,71,0,3,0,2,3,0,1,8,0,4,0,2,3,0,1,8,0,4,0,2,3,0,1,8,0,38,0,36,3,0,1,32,0,2] (zG (fun (i : Nat) => f (2 + i) = if i < (zY f 2 32 []).length then (zY f 2 32 []).getD i (0 : BitVec 8) else 0#8) 0 32 (cj (List.replicate 8 0) (false = false /\
 cj (zY (fun (i : Nat) => 0) 0 7 [1]) (false = false /\
 cj (zY (fun (i : Nat) => 0) 0 7 [1]) (false = false /\
 cj (zY (fun (i : Nat) => 0) 0 7 [1]) (false = false /\
 cj (zY (fun (i : Nat) => 0) 0 7 [1]) (false = false /\
 cj (zY (fun (i : Nat) => 0) 0 7 (1::zY (fun (i : Nat) => 0) 0 7 [1,4,0])) (([] : By) = [] /\
 cj (4::4867::4::772::4::29::4::65025::4::29::zY (fun (i : Nat) => 0) 0 7 [32]) ((rg 32 fun (i : Nat) => f (76 + i)) = zY f 76 32 [] /\
 [1#8] = [1#8] /\
 True))))))))) : Prop) := by kernel_rfl
set_option maxRecDepth 100000 in
theorem u2q (f : F8) : bq Y3 Tryz.f157 0 [.rb false (fill f (B9 true true false) 0) .unk] [] ⟨[],O9 true true false f,[],P0 true true false f⟩ = (
cj [0,32,0,2,3,0,1,8,0,1,0,1,0,73,0,3,0,2,3,0,1,8,0,6,0,4,3,0,1,8,3,1,1,8,0,4,0,2,3,0,1,8,0,38,0,36,3,0,1,32,0,2] (zG (fun (i : Nat) => f (2 + i) = if i < (zY f 2 32 []).length then (zY f 2 32 []).getD i (0 : BitVec 8) else 0#8) 0 32 (cj (List.replicate 8 0) (false = false /\
 cj (zY (fun (i : Nat) => 0) 0 7 [1]) (false = false /\
 cj (zY (fun (i : Nat) => 0) 0 7 [1]) (false = false /\
 cj (zY (fun (i : Nat) => 0) 0 7 [2]) (false = false /\
 cj (zY (fun (i : Nat) => 0) 0 7 [1]) (false = false /\
 cj (zY (fun (i : Nat) => 0) 0 7 (1::zY (fun (i : Nat) => 0) 0 7 [1,4,0])) (([] : By) = [] /\
 cj (4::4867::4::772::4::29::4::23::4::65025::4::29::zY (fun (i : Nat) => 0) 0 7 [32]) ((rg 32 fun (i : Nat) => f (78 + i)) = zY f 78 32 [] /\
 [1#8] = [1#8] /\
 True))))))))) : Prop) := by kernel_rfl
set_option maxRecDepth 100000 in
theorem k2q (f : F8) : bq Y3 Tryz.f157 0 [.rb false (fill f (B9 true false false) 0) .unk] [] ⟨[],O9 true false false f,[],P0 true false false f⟩ = (
cj [0,32,0,2,3,0,1,8,0,1,0,1,0,73,0,3,0,2,3,0,1,8,0,6,0,4,3,0,1,8,3,1,1,8,0,4,0,2,3,0,1,8,0,38,0,36,3,0,1,32,0,2] (zG (fun (i : Nat) => f (2 + i) = if i < (zY f 2 32 []).length then (zY f 2 32 []).getD i (0 : BitVec 8) else 0#8) 0 32 (cj (List.replicate 8 0) (false = false /\
 cj (zY (fun (i : Nat) => 0) 0 7 [1]) (false = false /\
 cj (zY (fun (i : Nat) => 0) 0 7 [1]) (false = false /\
 cj (zY (fun (i : Nat) => 0) 0 7 [2]) (false = false /\
 cj (zY (fun (i : Nat) => 0) 0 7 [1]) (false = false /\
 cj (zY (fun (i : Nat) => 0) 0 7 (1::zY (fun (i : Nat) => 0) 0 7 [1,4,0])) (([] : By) = [] /\
 cj (4::4867::4::772::4::29::4::23::4::65025::4::23::zY (fun (i : Nat) => 0) 0 7 [32]) ((rg 32 fun (i : Nat) => f (78 + i)) = zY f 78 32 [] /\
 [1#8] = [1#8] /\
 True))))))))) : Prop) := by kernel_rfl
end Go.Sym
