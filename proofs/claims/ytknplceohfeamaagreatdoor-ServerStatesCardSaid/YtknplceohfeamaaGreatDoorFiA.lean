/- The last message, and nothing. -/
import Derived.Test.YtknplceohfeamaaGreatDoorSteps
set_option linter.unusedVariables false
set_option linter.unusedSimpArgs false
namespace Go.Sym
open Go.Proofs Go.Spec
set_option maxHeartbeats 0
set_option maxRecDepth 100000 in
theorem vFi (fp bd S su ea ha ma ci so la : F8) (s : BitVec 8) (lg us LG : By) (n : Nat) : bodyP Tryz.prog (Y6 S (fiM fp) 22) gl0 [] [] 3000 Tryz.f30 0 [svS 2 lg (svC (z8 32) ea ha ma ci so la) 0 0 1 2 true us,.rb false (fiR bd) .unk,.u8 s] [] (retQ Tryz.prog Tryz.f30 0 ⟨[],.tup [svA 3 n (svC (row8 32 su) ea ha ma la so la) 0 0 2 2 true us.length,.nils,.bool true],[],[bk LG,bk us]⟩) = (
let x1 := 20#8::0#8::0#8::32#8::rg 32 fp; cj [0,58,1,0,58,1,1,58,1,3,58,1,4,58,1,0,58,0,58,1,3,58,1,4,58,0,58,1,3,58,1,4,58,1,0,58,1,0,58,5,0,58,2,5,58,2,58,58,2,58,58,5,0,58,2,58,58,1,0,3,1,0,3] (List.length lg < 1099511627776∧cj [1,0,1099511627776] (List.length us < 1099511627776∧cj [0,53] (rg 53 bd = rg 53 (bodB (rg 32 (dkB (rg 32 ci))) (rg 12 (diB (rg 32 ci))) (BitVec.ofNat 64 0) (22 : Int) x1)∧cj [2,36,37,0,0,3,0,36,1,0,36] (List.length lg = List.length lg∧List.length lg < 4611686018427387904∧cj [0,32] (((rg 32 fp).length < 4611686018427387904∧rg 32 fp = rg 32 (vfF (rg 32 ci) (rg 32 (shaB lg))))∧cj [0,32,0,1,0,36] (List.length lg = List.length lg∧roomFor (List.length lg) x1.length 1∧List.length lg + x1.length = (lg++x1).length∧(lg++x1).length < 4611686018427387904∧cj [3,0,0,1,2,58,58,2,58,58,4,3,0,0,0,0,0,0] (n = List.length lg + x1.length∧allP (fun (i : Nat) => su i = shaB (lg++x1) i) 0 32 (allP (fun (i : Nat) => ea i = ea i) 0 32 (allP (fun (i : Nat) => ha i = ha i) 0 32 (allP (fun (i : Nat) => ma i = ma i) 0 32 (allP (fun (i : Nat) => la i = la i) 0 32 (allP (fun (i : Nat) => so i = so i) 0 32 (allP (fun (i : Nat) => la i = la i) 0 32 (cj [4,0,4,0,4,2,4,2] (true = true∧cj [0,0,0,0,0,0] (List.length us = List.length us∧Int.negSucc 0 = Int.negSucc 0∧true = true∧true = true∧LG = lg++x1∧us = us∧True)))))))))))))))) : Prop) := by kernel_rfl
set_option maxRecDepth 100000 in
theorem vE (sh rt rs : Bool) (r ps S su ea ha ma ci co : F8) (tk lg LG : By) : bodyP Tryz.prog (Y8 S [] 22) gl0 [] [] 3000 Tryz.f17 0 [peS sh tk ps 3 r lg (peC su ea ha ma ci co) 0 0 2 2 0 rt rs,.rb false [] .unk] [] (retQ Tryz.prog Tryz.f17 0 ⟨[],.tup [peA sh tk.length ps 3 r lg.length (peC su ea ha ma ci co) 0 0 2 2 0 rt rs,.nils,.int .i64 0],[],[bk tk,bk LG,bk [],bk [],bk []]⟩) = (
List.length tk < 1099511627776∧List.length lg < 1099511627776∧cj [1,0,1099511627776,1,0,1099511627776,1,0,1099511627776,0,0,3,0,0,1,0,0,0,0] (7#8 = 7#8∧allP (fun (i : Nat) => 0#8 = 0#8) 0 31 (sh = sh∧cj [0,0,0,0,0,0] (List.length tk = List.length tk∧allP (fun (i : Nat) => ps i = ps i) 0 32 (cj [4,3] (allP (fun (i : Nat) => r i = r i) 0 64 (cj [0,0,0,0,0,0] (List.length lg = List.length lg∧allP (fun (i : Nat) => su i = su i) 0 32 (allP (fun (i : Nat) => ea i = ea i) 0 32 (allP (fun (i : Nat) => ha i = ha i) 0 32 (allP (fun (i : Nat) => ma i = ma i) 0 32 (allP (fun (i : Nat) => ci i = ci i) 0 32 (allP (fun (i : Nat) => co i = co i) 0 32 (cj [4,0,4,0,4,2,4,2,4,0] (rt = rt∧rs = rs∧cj [0,0,0,0,0,0,0,0,0,0,0,0,0,0,0,0,0,0,0,0,0,0,0,0] (Int.negSucc 0 = Int.negSucc 0∧cj [4,0] (tk = tk∧LG = lg∧([] : By) = []∧([] : By) = []∧([] : By) = []∧True)))))))))))))))) : Prop) := by kernel_rfl
set_option maxRecDepth 100000
theorem bF2 (sh : Bool) {tk : By} (ht : isTk tk) (s : BitVec 8) : Must (bodyP Tryz.prog (Y6 (shN s) (fiM (fpN (lgA sh tk s) (pkO tk) s)) 22) gl0 [] [] 3000 Tryz.f30 0 (aF2 sh tk s) [] (retQ Tryz.prog Tryz.f30 0 (rF2 sh tk s))) := by
 constructor
 refine kx ?_ (vFi (fpN (lgA sh tk s) (pkO tk) s) (bpN (lgA sh tk s) (pkO tk) s) (shN s) (suN (lgA sh tk s) (pkO tk) s) (eaN (pkO tk)) (haN (pkO tk) s) (maN (pkO tk) s) (ciN (lgA sh tk s) (pkO tk) s) (soN (lgA sh tk s) (pkO tk) s) (laN (lgA sh tk s) (pkO tk) s) s (l3N (lgA sh tk s) (pkO tk) s) (usO tk) (l4N (lgA sh tk s) (pkO tk) s) (l4N (lgA sh tk s) (pkO tk) s).length).symm
 rcases ht with rfl | rfl | rfl <;> cases sh
 all_goals
  intro x1
  refine ck (by kernel_rfl) ?_
  refine ad (by kernel_rfl) ?_
  refine ck (by kernel_rfl) ?_
  refine ad (by kernel_rfl) ?_
  refine ck (by kernel_rfl) ?_
  refine ⟨by kernel_rfl,?_⟩
  refine ck (by kernel_rfl) ?_
  refine a0 ?_
  refine ad (by kernel_rfl) ?_
  refine ck (by kernel_rfl) ?_
  refine And.intro (⟨dN (by kernel_rfl),by kernel_rfl⟩) ?_
  refine ck (by kernel_rfl) ?_
  refine a0 ?_
  refine ar (by kernel_rfl) ?_
  iterate 2 refine ad (by kernel_rfl) ?_
  refine ck (by kernel_rfl) ?_
  refine ⟨by kernel_rfl,?_⟩
  refine allP_in (fun i _ _ => by kernel_rfl) ?_
  iterate 6 refine al ?_
  refine ck (by kernel_rfl) ?_
  refine a0 ?_
  refine ck (by kernel_rfl) ?_
  iterate 4 refine a0 ?_
  refine ⟨by kernel_rfl,?_⟩
  refine a0 ?_
  trivial
theorem bP2 (sh : Bool) {tk : By} (ht : isTk tk) (s : BitVec 8) : Must (bodyP Tryz.prog (Y8 (shN s) [] 22) gl0 [] [] 3000 Tryz.f17 0 (aP2 sh tk s) [] (retQ Tryz.prog Tryz.f17 0 (rP2 sh tk s))) := by
 constructor
 refine kx ?_ (vE sh (!sh) (pkO tk) (rndF s) (psF tk) (shN s) (suN (lgA sh tk s) (pkO tk) s) (eaN (pkO tk)) (haN (pkO tk) s) (maN (pkO tk) s) (soN (lgA sh tk s) (pkO tk) s) (laN (lgA sh tk s) (pkO tk) s) tk (l4N (lgA sh tk s) (pkO tk) s) (l4N (lgA sh tk s) (pkO tk) s)).symm
 rcases ht with rfl | rfl | rfl <;> cases sh
 all_goals
  iterate 2 refine ad (by kernel_rfl) ?_
  refine ck (by kernel_rfl) ?_
  refine a0 ?_
  refine al ?_
  refine a0 ?_
  refine ck (by kernel_rfl) ?_
  refine a0 ?_
  refine al ?_
  refine ck (by kernel_rfl) ?_
  refine al ?_
  refine ck (by kernel_rfl) ?_
  refine a0 ?_
  iterate 6 refine al ?_
  refine ck (by kernel_rfl) ?_
  refine a0 ?_
  refine a0 ?_
  refine ck (by kernel_rfl) ?_
  refine a0 ?_
  refine ck (by kernel_rfl) ?_
  refine a0 ?_
  refine ⟨by kernel_rfl,?_⟩
  iterate 3 refine a0 ?_
  trivial
end Go.Sym
