/- The last message, and nothing. -/
import Derived.Test.YtknplceohfeamaaGreatDoorSteps
set_option linter.unusedVariables false
set_option linter.unusedSimpArgs false
namespace Go.Sym
open Go.Proofs Go.Spec
set_option maxHeartbeats 0
set_option maxRecDepth 100000 in
theorem vFi (fp bd S su ea ha ma ci so la : F8) (s : BitVec 8) (lg us LG : By) (n : Nat) : bq (Y6 S (fiM fp) 22) Tryz.f30 0 [svS 2 lg (iV (z8 32) ea ha ma ci so la) 0 0 1 2 true us,.rb false (fiR bd) .unk,.u8 s] [] ⟨[],.tup [C2 3 n (iV (yD 32 su) ea ha ma la so la) 0 0 2 2 true us.length,.nils,.bool true],[],[bk LG,bk us]⟩ = (
let x1 := 20#8::0#8::0#8::32#8::rg 32 fp; cj [0,58,1,0,58,1,1,58,1,3,58,1,4,58,1,0,58,0,58,1,3,58,1,4,58,0,58,1,3,58,1,4,58,1,0,58,1,0,58,5,0,58,2,5,58,2,58,58,2,58,58,5,0,58,2,58,58,1,0,3,1,0,3] (List.length lg < 1099511627776/\cj [1,0,1099511627776] (List.length us < 1099511627776/\cj [0,53] (rg 53 bd = rg 53 (wY (rg 32 (aA (rg 32 ci))) (rg 12 (aB (rg 32 ci))) (BitVec.ofNat 64 0) (22 : Int) x1)/\cj [2,36,37,0,0,3,0,36,1,0,36] (List.length lg = List.length lg/\List.length lg < 4611686018427387904/\cj [0,32] (((rg 32 fp).length < 4611686018427387904/\rg 32 fp = rg 32 (j0 (rg 32 ci) (rg 32 (zL lg))))/\cj [0,32,0,1,0,36] (List.length lg = List.length lg/\zD (List.length lg) x1.length 1/\List.length lg + x1.length = (lg++x1).length/\(lg++x1).length < 4611686018427387904/\cj [3,0,0,1,2,58,58,2,58,58,4,3,0,0,0,0,0,0] (n = List.length lg + x1.length/\zG (fun (i : Nat) => su i = zL (lg++x1) i) 0 32 (zG (fun (i : Nat) => ea i = ea i) 0 32 (zG (fun (i : Nat) => ha i = ha i) 0 32 (zG (fun (i : Nat) => ma i = ma i) 0 32 (zG (fun (i : Nat) => la i = la i) 0 32 (zG (fun (i : Nat) => so i = so i) 0 32 (zG (fun (i : Nat) => la i = la i) 0 32 (cj [4,0,4,0,4,2,4,2] (true = true/\cj [0,0,0,0,0,0] (List.length us = List.length us/\Int.negSucc 0 = Int.negSucc 0/\true = true/\true = true/\LG = lg++x1/\us = us/\True)))))))))))))))) : Prop) := by kernel_rfl
set_option maxRecDepth 100000 in
theorem vE (sh rt rs : Bool) (r ps S su ea ha ma ci co : F8) (tk lg LG : By) : bq (Y8 S [] 22) Tryz.f17 0 [l5 sh tk ps 3 r lg (aD su ea ha ma ci co) 0 0 2 2 0 rt rs,.rb false [] .unk] [] ⟨[],.tup [tP sh tk.length ps 3 r lg.length (aD su ea ha ma ci co) 0 0 2 2 0 rt rs,.nils,.int .i64 0],[],[bk tk,bk LG,bk [],bk [],bk []]⟩ = (
List.length tk < 1099511627776/\List.length lg < 1099511627776/\cj [1,0,1099511627776,1,0,1099511627776,1,0,1099511627776,0,0,3,0,0,1,0,0,0,0] (7#8 = 7#8/\zG (fun (i : Nat) => 0#8 = 0#8) 0 31 (sh = sh/\cj [0,0,0,0,0,0] (List.length tk = List.length tk/\zG (fun (i : Nat) => ps i = ps i) 0 32 (cj [4,3] (zG (fun (i : Nat) => r i = r i) 0 64 (cj [0,0,0,0,0,0] (List.length lg = List.length lg/\zG (fun (i : Nat) => su i = su i) 0 32 (zG (fun (i : Nat) => ea i = ea i) 0 32 (zG (fun (i : Nat) => ha i = ha i) 0 32 (zG (fun (i : Nat) => ma i = ma i) 0 32 (zG (fun (i : Nat) => ci i = ci i) 0 32 (zG (fun (i : Nat) => co i = co i) 0 32 (cj [4,0,4,0,4,2,4,2,4,0] (rt = rt/\rs = rs/\cj [0,0,0,0,0,0,0,0,0,0,0,0,0,0,0,0,0,0,0,0,0,0,0,0] (Int.negSucc 0 = Int.negSucc 0/\cj [4,0] (tk = tk/\LG = lg/\([] : By) = []/\([] : By) = []/\([] : By) = []/\True)))))))))))))))) : Prop) := by kernel_rfl
set_option maxRecDepth 100000
theorem bF2 (sh : Bool) {tk : By} (ht : pK tk) (s : BitVec 8) : Must (xQ Tryz.prog (Y6 (mL s) (fiM (fpN (yC sh tk s) (vF tk) s)) 22) gl0 [] [] 3000 Tryz.f30 0 (aF2 sh tk s) [] (vL Tryz.prog Tryz.f30 0 (rF2 sh tk s))) := by
 constructor
 refine kx ?_ (vFi (fpN (yC sh tk s) (vF tk) s) (bpN (yC sh tk s) (vF tk) s) (mL s) (hH (yC sh tk s) (vF tk) s) (qZ (vF tk)) (qA (vF tk) s) (qN (vF tk) s) (ciN (yC sh tk s) (vF tk) s) (nE (yC sh tk s) (vF tk) s) (jF (yC sh tk s) (vF tk) s) s (bI (yC sh tk s) (vF tk) s) (F4 tk) (mM (yC sh tk s) (vF tk) s) (mM (yC sh tk s) (vF tk) s).length).symm
 rcases ht with rfl | rfl | rfl <;> cases sh
 all_goals
  intro x1
  refine ck (by kernel_rfl) ?_
  refine ad (by kernel_rfl) ?_
  refine ck (by kernel_rfl) ?_
  refine ad (by kernel_rfl) ?_
  refine ck (by kernel_rfl) ?_
  refine ⟨by kernel_rfl,?_⟩
  refine ck (by kernel_rfl) ?_
  refine a0 ?_
  refine ad (by kernel_rfl) ?_
  refine ck (by kernel_rfl) ?_
  refine And.intro (⟨dN (by kernel_rfl),by kernel_rfl⟩) ?_
  refine ck (by kernel_rfl) ?_
  refine a0 ?_
  refine ar (by kernel_rfl) ?_
  iterate 2 refine ad (by kernel_rfl) ?_
  refine ck (by kernel_rfl) ?_
  refine ⟨by kernel_rfl,?_⟩
  refine zS (fun i _ _ => by kernel_rfl) ?_
  iterate 6 refine al ?_
  refine ck (by kernel_rfl) ?_
  refine a0 ?_
  refine ck (by kernel_rfl) ?_
  iterate 4 refine a0 ?_
  refine ⟨by kernel_rfl,?_⟩
  refine a0 ?_
  trivial
theorem bP2 (sh : Bool) {tk : By} (ht : pK tk) (s : BitVec 8) : Must (xQ Tryz.prog (Y8 (mL s) [] 22) gl0 [] [] 3000 Tryz.f17 0 (aP2 sh tk s) [] (vL Tryz.prog Tryz.f17 0 (rP2 sh tk s))) := by
 constructor
 refine kx ?_ (vE sh (!sh) (vF tk) (zX s) (tV tk) (mL s) (hH (yC sh tk s) (vF tk) s) (qZ (vF tk)) (qA (vF tk) s) (qN (vF tk) s) (nE (yC sh tk s) (vF tk) s) (jF (yC sh tk s) (vF tk) s) tk (mM (yC sh tk s) (vF tk) s) (mM (yC sh tk s) (vF tk) s)).symm
 rcases ht with rfl | rfl | rfl <;> cases sh
 all_goals
  iterate 2 refine ad (by kernel_rfl) ?_
  refine ck (by kernel_rfl) ?_
  refine a0 ?_
  refine al ?_
  refine a0 ?_
  refine ck (by kernel_rfl) ?_
  refine a0 ?_
  refine al ?_
  refine ck (by kernel_rfl) ?_
  refine al ?_
  refine ck (by kernel_rfl) ?_
  refine a0 ?_
  iterate 6 refine al ?_
  refine ck (by kernel_rfl) ?_
  refine a0 ?_
  refine a0 ?_
  refine ck (by kernel_rfl) ?_
  refine a0 ?_
  refine ck (by kernel_rfl) ?_
  refine a0 ?_
  refine ⟨by kernel_rfl,?_⟩
  iterate 3 refine a0 ?_
  trivial
end Go.Sym
