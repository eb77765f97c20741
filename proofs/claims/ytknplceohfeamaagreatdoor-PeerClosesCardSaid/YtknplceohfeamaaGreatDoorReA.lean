/- A server asks for a share. -/
import Derived.Test.YtknplceohfeamaaGreatDoorSteps
set_option linter.unusedVariables false
set_option linter.unusedSimpArgs false
namespace Go.Sym
open Go.Proofs Go.Spec
set_option maxHeartbeats 0
set_option maxRecDepth 100000 in
theorem vR0 (cr ck bi S : F8) (s : BitVec 8) (LG OU : By) (n : Nat) : bq (Y6 S [] 22) Tryz.f30 0 [svS 0 [] (z8 224) 0 0 0 0 false [],.rb false (grR true false [] cr ck bi) .unk,.u8 s] [] ⟨[],.tup [C2 1 n (z8 224) 0 0 0 0 false 0,.slice 2 0 1 61 .ow (.is false),.bool true],[],[bk LG,bk [],bk OU]⟩ = (
let x1 := [2#8,0#8,0#8,52#8,3#8,3#8,207#8,33#8,173#8,116#8,229#8,154#8,97#8,17#8,190#8,29#8,140#8,2#8,30#8,101#8,184#8,145#8,194#8,162#8,17#8,22#8,122#8,187#8,140#8,94#8,7#8,158#8,9#8,226#8,200#8,168#8,51#8,156#8,0#8,19#8,3#8,0#8,0#8,12#8,0#8,43#8,0#8,2#8,3#8,4#8,0#8,51#8,0#8,2#8,0#8,29#8]; cj [0,125,1,0,125,1,1,125,1,3,125,1,4,125,1,0,125,0,125,1,3,125,1,4,125,0,125,1,3,125,1,4,125,1,0,125,1,0,125,5,0,125,2,5,125,2,125,125,2,125,125,5,0,125,2,125,125,1,0,3,1,0,3,1,0,1099511627776,1,0,1099511627776,1,0,1099511627776,0,120,0,0,3,0,120,1,0,120,5,0,0,1,0,1,0,3,0,6,0,1,0,8,0,116,5,0,0,1,0,1,5,0,0,1,0,1,5,0,0,1,0,2,0,116,0,1,5,0,0,1,0,1,0,0,0,52,0,1,0,56,5,0,0,1,0,1,1,0,1,0,5,3,5,56,1,0,61,3,0,61,1,0,120,1,120,4611686018427387904,0,1,0,56,0,36,3,36,56,1,0,61,3,0,61,1,2,125,125,2,125,125,4,1,0,0,0,0,0,0] (n = 92/\zG (fun (i : Nat) => (0 : BitVec 8) = (0 : BitVec 8)) 0 224 (cj [4,0,4,0,4,0,4,0] (false = false/\cj [0,0,0,0,0,0,0,0] (Int.negSucc 0 = Int.negSucc 0/\false = false/\cj [0,0,0,0,0,0,0,61] (true = true/\LG = 254#8::0#8::0#8::32#8::rg 32 (zL (1#8::0#8::0#8::116#8::3#8::3#8::zY cr 0 32 (0#8::0#8::2#8::19#8::3#8::1#8::0#8::0#8::73#8::0#8::43#8::0#8::3#8::2#8::3#8::4#8::0#8::10#8::0#8::6#8::0#8::4#8::0#8::29#8::0#8::23#8::0#8::13#8::0#8::4#8::0#8::2#8::254#8::1#8::0#8::51#8::0#8::38#8::0#8::36#8::0#8::23#8::0#8::32#8::zY ck 0 32 [0#8,45#8,0#8,2#8,1#8,1#8])))++x1/\([] : By) = []/\OU = [22#8,3#8,3#8,0#8,56#8]++x1/\True))))) : Prop) := by kernel_rfl
set_option maxRecDepth 100000 in
theorem vR1 (cr ck bi S : F8) (a b c s : BitVec 8) (LG OU : By) (n : Nat) : bq (Y6 S [] 22) Tryz.f30 0 [svS 0 [] (z8 224) 0 0 0 0 false [],.rb false (grR true false [a,b,c] cr ck bi) .unk,.u8 s] [] ⟨[],.tup [C2 1 n (z8 224) 0 0 0 0 false 0,.slice 2 0 1 61 .ow (.is false),.bool true],[],[bk LG,bk [],bk OU]⟩ = (
let x1 := [2#8,0#8,0#8,52#8,3#8,3#8,207#8,33#8,173#8,116#8,229#8,154#8,97#8,17#8,190#8,29#8,140#8,2#8,30#8,101#8,184#8,145#8,194#8,162#8,17#8,22#8,122#8,187#8,140#8,94#8,7#8,158#8,9#8,226#8,200#8,168#8,51#8,156#8,0#8,19#8,3#8,0#8,0#8,12#8,0#8,43#8,0#8,2#8,3#8,4#8,0#8,51#8,0#8,2#8,0#8,29#8]; cj [0,175,1,0,175,1,1,175,1,3,175,1,4,175,1,0,175,0,175,1,3,175,1,4,175,0,175,1,3,175,1,4,175,1,0,175,1,0,175,5,0,175,2,5,175,2,175,175,2,175,175,5,0,175,2,175,175,1,0,3,1,0,3,1,0,1099511627776,1,0,1099511627776,1,0,1099511627776,0,170,0,0,3,0,170,1,0,170,5,0,0,1,0,1,0,3,0,6,0,1,0,8,0,166,5,0,0,1,0,1,5,0,0,1,0,1,5,0,0,1,0,2,0,166,0,1,5,0,0,1,0,1,0,0,0,52,0,1,0,56,5,0,0,1,0,1,1,0,1,0,5,3,5,56,1,0,61,3,0,61,1,0,170,1,170,4611686018427387904,0,1,0,56,0,36,3,36,56,1,0,61,3,0,61,1,2,175,175,2,175,175,4,1,0,0,0,0,0,0] (n = 92/\zG (fun (i : Nat) => (0 : BitVec 8) = (0 : BitVec 8)) 0 224 (cj [4,0,4,0,4,0,4,0] (false = false/\cj [0,0,0,0,0,0,0,0] (Int.negSucc 0 = Int.negSucc 0/\false = false/\cj [0,0,0,0,0,0,0,61] (true = true/\LG = 254#8::0#8::0#8::32#8::rg 32 (zL (1#8::0#8::0#8::166#8::3#8::3#8::zY cr 0 32 (0#8::0#8::2#8::19#8::3#8::1#8::0#8::0#8::BitVec.ofNat 8 (71 + grK true [a,b,c])::0#8::43#8::0#8::3#8::2#8::3#8::4#8::0#8::10#8::0#8::6#8::0#8::4#8::0#8::29#8::0#8::23#8::0#8::13#8::0#8::4#8::0#8::2#8::254#8::1#8::0#8::51#8::0#8::38#8::0#8::36#8::0#8::23#8::0#8::32#8::zY ck 0 32 (0#8::45#8::0#8::2#8::1#8::1#8::0#8::41#8::0#8::46#8::0#8::9#8::0#8::3#8::a::b::c::0#8::0#8::0#8::0#8::0#8::33#8::32#8::rg 32 bi))))++x1/\([] : By) = []/\OU = [22#8,3#8,3#8,0#8,56#8]++x1/\True))))) : Prop) := by kernel_rfl
set_option maxRecDepth 100000
theorem bR0 (s : BitVec 8) : Must (xQ Tryz.prog (Y6 (mL s) [] 22) gl0 [] [] 3000 Tryz.f30 0 (Y0 false [] s) [] (vL Tryz.prog Tryz.f30 0 (rFr [] s))) := by
 constructor
 refine kx ?_ (vR0 (zX s) (fun _ => 0#8) (biN [] true false [] s) (mL s) s (cJ (F3 [] s)) reR 92).symm
 intro x1
 refine ck (by kernel_rfl) ?_
 refine ⟨by kernel_rfl,?_⟩
 refine al ?_
 refine ck (by kernel_rfl) ?_
 refine a0 ?_
 refine ck (by kernel_rfl) ?_
 refine a0 ?_
 refine a0 ?_
 refine ck (by kernel_rfl) ?_
 refine a0 ?_
 refine ⟨by kernel_rfl,?_⟩
 refine a0 ?_
 refine ⟨by kernel_rfl,?_⟩
 trivial
theorem bR1 {tk : By} (ht : tk = xN \/ tk = xJ) (s : BitVec 8) : Must (xQ Tryz.prog (Y6 (mL s) [] 22) gl0 [] [] 3000 Tryz.f30 0 (Y0 false tk s) [] (vL Tryz.prog Tryz.f30 0 (rFr tk s))) := by
 constructor
 rcases ht with rfl | rfl
 refine kx ?_ (vR1 (zX s) (fun _ => 0#8) (biN [] true false xN s) (mL s) 110#8 101#8 119#8 s (cJ (F3 xN s)) reR 92).symm
 rotate_left
 refine kx ?_ (vR1 (zX s) (fun _ => 0#8) (biN [] true false xJ s) (mL s) 111#8 108#8 100#8 s (cJ (F3 xJ s)) reR 92).symm
 all_goals
  intro x1
  refine ck (by kernel_rfl) ?_
  refine ⟨by kernel_rfl,?_⟩
  refine al ?_
  refine ck (by kernel_rfl) ?_
  refine a0 ?_
  refine ck (by kernel_rfl) ?_
  refine a0 ?_
  refine a0 ?_
  refine ck (by kernel_rfl) ?_
  refine a0 ?_
  refine ⟨by kernel_rfl,?_⟩
  refine a0 ?_
  refine ⟨by kernel_rfl,?_⟩
  trivial
end Go.Sym
