/- A server and its peer, fewer than three rounds on. -/
import Derived.Test.YtknplceohfeamaaGreatDoorSteps
import Derived.Test.YtknplceohfeamaaGreatDoorTwo
set_option linter.unusedVariables false
set_option linter.unusedSimpArgs false
namespace Go.Sym
open Go.Proofs Go.Spec
inductive It : Type 1 where
 | e {α : Type} (a : α)
 | z (n : Nat)
 | r {α : Type} (F : Nat→α) (k n : Nat)
 | d (p : Prop) (i : Decidable p)
def zeQ (q : Prop) : Nat→Prop
 | 0 => q
 | n + 1 => 0 = 0∧zeQ q n
def okP : List It→Prop
 | [] => True
 | .e a::l => a = a∧okP l
 | .z n::l => zeQ (okP l) n
 | .r F k n::l => allP (fun i => F i = F i) k n (okP l)
 | .d p _::l => p∧okP l
def ckI : List It→Bool
 | [] => true
 | .d p i::l => @decide p i && ckI l
 | _::l => ckI l
theorem zeQ_of {q : Prop} (h : q) : ∀ n,zeQ q n
 | 0 => h
 | n + 1 => ⟨rfl,zeQ_of h n⟩
theorem okP_of : ∀ (l : List It),ckI l = true→okP l
 | [],_ => trivial
 | .e _::l,h => ⟨rfl,okP_of l h⟩
 | .z n::l,h => zeQ_of (okP_of l h) n
 | .r _ _ _::l,h => allP_in (fun _ _ _ => rfl) (okP_of l h)
 | .d p i::l,h => by
  simp only [ckI,Bool.and_eq_true] at h
  exact ⟨@of_decide_eq_true p i h.1,okP_of l h.2⟩
abbrev It.c (p : Prop) [i : Decidable p] : It := .d p i
theorem oki {P : Prop} (l : List It) (h : ckI l = true) (e : okP l = P) : P := e ▸ okP_of l h
def sv0 : AV := .agg ([.int .i64 0,.nils]++z8 224++[.int .i64 0,.int .i64 0,.int .i64 0,.int .i64 0,.bool false,.nils,.nils,.int .i64 (-1)])
noncomputable def rC0 (sh : Bool) (tk : By) (s : BitVec 8) : RL := ⟨[],.tup [.agg (cellsOf sv0++cellsOf (peA sh tk.length (psF tk) 1 (rndF s) (grN [] (!sh) sh tk s).length (z8 192) 0 0 0 0 2 false false)),.bool true],[],[bk tk,bk (grN [] (!sh) sh tk s),bk [],bk [],bk []]⟩
noncomputable def rCa (sh : Bool) (tk : By) (s : BitVec 8) : RL := ⟨[],.tup [prA (svF (lgA sh tk s) (pkO tk) s (usO tk).length) (peF sh (lgA sh tk s) tk (pkO tk) s),.bool true],[],[bk (l3N (lgA sh tk s) (pkO tk) s),bk (usO tk),bk tk,bk (l4N (lgA sh tk s) (pkO tk) s),bk [],bk [],bk []]⟩
noncomputable def rCr (tk : By) (s : BitVec 8) : RL := ⟨[],.tup [prA (svA 1 92 (z8 224) 0 0 0 0 false 0) (peA false tk.length (psF tk) 1 (rndF s) (lgA false tk s).length (z8 192) 0 0 0 0 2 true false),.bool true],[],[bk (lgR (h1N tk s)),bk [],bk tk,bk (lgA false tk s),bk [],bk [],bk []]⟩
noncomputable def rCk (k : Nat) (sh : Bool) (tk : By) (s : BitVec 8) : RL := match k with
 | 0 => rC0 sh tk s
 | 1 => (match sh with | true => rCa true tk s | false => rCr tk s)
 | _ => (match sh with | true => rCo true tk s | false => rCa false tk s)
noncomputable def gCk (k : Nat) (xs : List AV) (bs : List ABlk) : TL := match xs,bs with
 | [.agg [.bool a,.bool b,.bool c,.u8 s],.int .i64 e],[] =>
  let o (sh : Bool) (tk : By) : TL := .ok ⟨[e = Int.ofNat k],(rCk k sh tk s).v,(rCk k sh tk s).io,(rCk k sh tk s).nw⟩
  (match a with
  | true => (match b with | false => o true [] | true => (match c with | true => o true tkO | false => o true tkN))
  | false => (match b with | false => o false [] | true => (match c with | true => o false tkO | false => o false tkN)))
 | _,_ => .no
set_option maxHeartbeats 0
set_option maxRecDepth 100000
abbrev bD (k : Nat) (a b c : Bool) (tk : By) (s : BitVec 8) : Prop := Must (bodyP Tryz.prog (X1 eqL a tk s) gl0 [] [] 3000 Tryz.f9 0 [.agg [.bool a,.bool b,.bool c,.u8 s],.int .i64 k] [] (retQ Tryz.prog Tryz.f9 0 (rCk k a tk s)))
theorem bD010 (s : BitVec 8) (kn : Bool) : bD 0 true false kn [] s := ⟨oki ([.e (aHe true [] s),.e (0 : Int),.r (fun _ => 0#8) 0 224,.e (0 : Int),.e (0 : Int),.e (0 : Int),.e (0 : Int),.e false,.e (Int.negSucc 0),.e (7#8),.r (fun _ => 0#8) 0 31,.e true,.z 4,.r (fun _ => 0#8) 0 32,.e (1 : Int),.r (rndF s) 0 64,.z 3,.e (List.length (grN [] false true [] s)),.r (fun _ => (0 : BitVec 8)) 0 192,.e (0 : Int),.e (0 : Int),.e (0 : Int),.e (0 : Int),.e (2 : Int),.e false,.e false,.r (fun _ => 0) 0 12,.e (Int.negSucc 0),.e true,.e ([] : By),.e (grN [] false true [] s),.e ([] : By),.e ([] : By),.e ([] : By)]) (by kernel_rfl) (by kernel_rfl)⟩
theorem bD011 (s : BitVec 8) : bD 0 true true false tkN s := ⟨oki ([.c (0 < 3),.c (0 < 3),.e 3,.e (aHe true tkN s),.e (0 : Int),.r (fun _ => 0#8) 0 224,.e (0 : Int),.e (0 : Int),.e (0 : Int),.e (0 : Int),.e false,.e (Int.negSucc 0),.e (7#8),.r (fun _ => 0#8) 0 31,.e true,.z 3,.e 3,.e (9#8),.r (fun _ => 0#8) 0 31,.e (1 : Int),.r (rndF s) 0 64,.z 3,.e (List.length (grN [] false true tkN s)),.r (fun _ => (0 : BitVec 8)) 0 192,.e (0 : Int),.e (0 : Int),.e (0 : Int),.e (0 : Int),.e (2 : Int),.e false,.e false,.r (fun _ => 0) 0 12,.e (Int.negSucc 0),.e true,.e tkN,.e (grN [] false true tkN s),.e ([] : By),.e ([] : By),.e ([] : By)]) (by kernel_rfl) (by kernel_rfl)⟩
theorem bD012 (s : BitVec 8) : bD 0 true true true tkO s := ⟨oki ([.c (0 < 3),.c (0 < 3),.c (0 < 3),.c (0 < 3),.e 3,.e (aHe true tkO s),.e (0 : Int),.r (fun _ => 0#8) 0 224,.e (0 : Int),.e (0 : Int),.e (0 : Int),.e (0 : Int),.e false,.e (Int.negSucc 0),.e (7#8),.r (fun _ => 0#8) 0 31,.e true,.z 3,.e 3,.e (9#8),.r (fun _ => 0#8) 0 31,.e (1 : Int),.r (rndF s) 0 64,.z 3,.e (List.length (grN [] false true tkO s)),.r (fun _ => (0 : BitVec 8)) 0 192,.e (0 : Int),.e (0 : Int),.e (0 : Int),.e (0 : Int),.e (2 : Int),.e false,.e false,.r (fun _ => 0) 0 12,.e (Int.negSucc 0),.e true,.e tkO,.e (grN [] false true tkO s),.e ([] : By),.e ([] : By),.e ([] : By)]) (by kernel_rfl) (by kernel_rfl)⟩
theorem bD000 (s : BitVec 8) (kn : Bool) : bD 0 false false kn [] s := ⟨oki ([.e (aHe false [] s),.e (0 : Int),.r (fun _ => 0#8) 0 224,.e (0 : Int),.e (0 : Int),.e (0 : Int),.e (0 : Int),.e false,.e (Int.negSucc 0),.e (7#8),.r (fun _ => 0#8) 0 31,.e false,.z 4,.r (fun _ => 0#8) 0 32,.e (1 : Int),.r (rndF s) 0 64,.z 3,.e (List.length (grN [] true false [] s)),.r (fun _ => (0 : BitVec 8)) 0 192,.e (0 : Int),.e (0 : Int),.e (0 : Int),.e (0 : Int),.e (2 : Int),.e false,.e false,.r (fun _ => 0) 0 12,.e (Int.negSucc 0),.e true,.e ([] : By),.e (grN [] true false [] s),.e ([] : By),.e ([] : By),.e ([] : By)]) (by kernel_rfl) (by kernel_rfl)⟩
theorem bD001 (s : BitVec 8) : bD 0 false true false tkN s := ⟨oki ([.c (0 < 3),.c (0 < 3),.e 3,.e (aHe false tkN s),.e (0 : Int),.r (fun _ => 0#8) 0 224,.e (0 : Int),.e (0 : Int),.e (0 : Int),.e (0 : Int),.e false,.e (Int.negSucc 0),.e (7#8),.r (fun _ => 0#8) 0 31,.e false,.z 3,.e 3,.e (9#8),.r (fun _ => 0#8) 0 31,.e (1 : Int),.r (rndF s) 0 64,.z 3,.e (List.length (grN [] true false tkN s)),.r (fun _ => (0 : BitVec 8)) 0 192,.e (0 : Int),.e (0 : Int),.e (0 : Int),.e (0 : Int),.e (2 : Int),.e false,.e false,.r (fun _ => 0) 0 12,.e (Int.negSucc 0),.e true,.e tkN,.e (grN [] true false tkN s),.e ([] : By),.e ([] : By),.e ([] : By)]) (by kernel_rfl) (by kernel_rfl)⟩
theorem bD002 (s : BitVec 8) : bD 0 false true true tkO s := ⟨oki ([.c (0 < 3),.c (0 < 3),.c (0 < 3),.c (0 < 3),.e 3,.e (aHe false tkO s),.e (0 : Int),.r (fun _ => 0#8) 0 224,.e (0 : Int),.e (0 : Int),.e (0 : Int),.e (0 : Int),.e false,.e (Int.negSucc 0),.e (7#8),.r (fun _ => 0#8) 0 31,.e false,.z 3,.e 3,.e (9#8),.r (fun _ => 0#8) 0 31,.e (1 : Int),.r (rndF s) 0 64,.z 3,.e (List.length (grN [] true false tkO s)),.r (fun _ => (0 : BitVec 8)) 0 192,.e (0 : Int),.e (0 : Int),.e (0 : Int),.e (0 : Int),.e (2 : Int),.e false,.e false,.r (fun _ => 0) 0 12,.e (Int.negSucc 0),.e true,.e tkO,.e (grN [] true false tkO s),.e ([] : By),.e ([] : By),.e ([] : By)]) (by kernel_rfl) (by kernel_rfl)⟩
theorem bD110 (s : BitVec 8) (kn : Bool) : bD 1 true false kn [] s := ⟨oki (let q1 := lgA true [] s; [.e (aHe true [] s),.e (List.length (g1R true [] s)),.e (aF0 true [] s),.z 1,.e (List.length (grN [] false true [] s)),.z 3,.c (215 = List.length (ouN q1 false s)),.e (aP1 true [] s),.e (2 : Int),.z 3,.e (List.length (l3N q1 false s)),.r (fun _ => (0 : BitVec 8)) 0 32,.r (eaN false) 0 32,.r (haN false s) 0 32,.r (maN false s) 0 32,.r (ciN q1 false s) 0 32,.r (soN q1 false s) 0 32,.r (laN q1 false s) 0 32,.e (0 : Int),.e (0 : Int),.e (1 : Int),.e (2 : Int),.e true,.z 4,.e (Int.negSucc 0),.e (7#8),.r (fun _ => 0#8) 0 31,.e true,.z 4,.r (fun _ => 0#8) 0 32,.e (3 : Int),.r (rndF s) 0 64,.z 3,.e (List.length (l4N q1 false s)),.r (suN q1 false s) 0 32,.r (eaN false) 0 32,.r (haN false s) 0 32,.r (maN false s) 0 32,.r (soN q1 false s) 0 32,.r (laN q1 false s) 0 32,.e (0 : Int),.e (0 : Int),.e (2 : Int),.e (2 : Int),.e (0 : Int),.e false,.e false,.r (fun _ => 0) 0 12,.e (Int.negSucc 0),.e true,.e (l3N q1 false s),.e (usO []),.e ([] : By),.e (l4N q1 false s),.e ([] : By),.e ([] : By),.e ([] : By)]) (by kernel_rfl) (by kernel_rfl)⟩
theorem bD111 (s : BitVec 8) : bD 1 true true false tkN s := ⟨oki (let q1 := lgA true tkN s; [.c (0 < 3),.c (0 < 3),.e 3,.e (aHe true tkN s),.e (List.length (g1R true tkN s)),.e (aF0 true tkN s),.e 3,.e (List.length (grN [] false true tkN s)),.z 3,.c (215 = List.length (ouN q1 false s)),.e (aP1 true tkN s),.e (2 : Int),.z 3,.e (List.length (l3N q1 false s)),.r (fun _ => (0 : BitVec 8)) 0 32,.r (eaN false) 0 32,.r (haN false s) 0 32,.r (maN false s) 0 32,.r (ciN q1 false s) 0 32,.r (soN q1 false s) 0 32,.r (laN q1 false s) 0 32,.e (0 : Int),.e (0 : Int),.e (1 : Int),.e (2 : Int),.e true,.z 4,.e (Int.negSucc 0),.e (7#8),.r (fun _ => 0#8) 0 31,.e true,.z 3,.e 3,.e (9#8),.r (fun _ => 0#8) 0 31,.e (3 : Int),.r (rndF s) 0 64,.z 3,.e (List.length (l4N q1 false s)),.r (suN q1 false s) 0 32,.r (eaN false) 0 32,.r (haN false s) 0 32,.r (maN false s) 0 32,.r (soN q1 false s) 0 32,.r (laN q1 false s) 0 32,.e (0 : Int),.e (0 : Int),.e (2 : Int),.e (2 : Int),.e (0 : Int),.e false,.e false,.r (fun _ => 0) 0 12,.e (Int.negSucc 0),.e true,.e (l3N q1 false s),.e (usO tkN),.e tkN,.e (l4N q1 false s),.e ([] : By),.e ([] : By),.e ([] : By)]) (by kernel_rfl) (by kernel_rfl)⟩
theorem bD112 (s : BitVec 8) : bD 1 true true true tkO s := ⟨oki (let q1 := lgA true tkO s; [.c (0 < 3),.c (0 < 3),.c (0 < 3),.c (0 < 3),.e 3,.e (aHe true tkO s),.e (List.length (g1R true tkO s)),.e (aF0 true tkO s),.e 3,.e (List.length (grN [] false true tkO s)),.z 3,.c (165 = List.length (ouN q1 true s)),.e (aP1 true tkO s),.e (2 : Int),.z 3,.e (List.length (l3N q1 true s)),.r (fun _ => (0 : BitVec 8)) 0 32,.r (eaN true) 0 32,.r (haN true s) 0 32,.r (maN true s) 0 32,.r (ciN q1 true s) 0 32,.r (soN q1 true s) 0 32,.r (laN q1 true s) 0 32,.e (0 : Int),.e (0 : Int),.e (1 : Int),.e (2 : Int),.e true,.z 3,.e 3,.e (Int.negSucc 0),.e (7#8),.r (fun _ => 0#8) 0 31,.e true,.z 3,.e 3,.e (9#8),.r (fun _ => 0#8) 0 31,.e (3 : Int),.r (rndF s) 0 64,.z 3,.e (List.length (l4N q1 true s)),.r (suN q1 true s) 0 32,.r (eaN true) 0 32,.r (haN true s) 0 32,.r (maN true s) 0 32,.r (soN q1 true s) 0 32,.r (laN q1 true s) 0 32,.e (0 : Int),.e (0 : Int),.e (2 : Int),.e (2 : Int),.e (0 : Int),.e false,.e true,.r (fun _ => 0) 0 12,.e (Int.negSucc 0),.e true,.e (l3N q1 true s),.e (usO tkO),.e tkO,.e (l4N q1 true s),.e ([] : By),.e ([] : By),.e ([] : By)]) (by kernel_rfl) (by kernel_rfl)⟩
theorem bD100 (s : BitVec 8) (kn : Bool) : bD 1 false false kn [] s := ⟨oki ([.e (aHe false [] s),.e (List.length (g1R false [] s)),.e (aF0 false [] s),.z 1,.e (List.length (grN [] true false [] s)),.z 3,.e 61,.e (aP0 [] s),.e (1 : Int),.z 3,.e 92,.r (fun _ => (0 : BitVec 8)) 0 224,.e (0 : Int),.e (0 : Int),.e (0 : Int),.e (0 : Int),.e false,.z 4,.e (Int.negSucc 0),.e (7#8),.r (fun _ => 0#8) 0 31,.e false,.z 4,.r (fun _ => 0#8) 0 32,.e (1 : Int),.r (rndF s) 0 64,.z 3,.e (List.length (lgA false [] s)),.r (fun _ => (0 : BitVec 8)) 0 192,.e (0 : Int),.e (0 : Int),.e (0 : Int),.e (0 : Int),.e (2 : Int),.e true,.e false,.r (fun _ => 0) 0 12,.e (Int.negSucc 0),.e true,.e (lgR (h1N [] s)),.e ([] : By),.e ([] : By),.e (lgA false [] s),.e ([] : By),.e ([] : By),.e ([] : By)]) (by kernel_rfl) (by kernel_rfl)⟩
theorem bD101 (s : BitVec 8) : bD 1 false true false tkN s := ⟨oki ([.c (0 < 3),.c (0 < 3),.e 3,.e (aHe false tkN s),.e (List.length (g1R false tkN s)),.e (aF0 false tkN s),.e 3,.e (List.length (grN [] true false tkN s)),.z 3,.e 61,.e (aP0 tkN s),.e (1 : Int),.z 3,.e 92,.r (fun _ => (0 : BitVec 8)) 0 224,.e (0 : Int),.e (0 : Int),.e (0 : Int),.e (0 : Int),.e false,.z 4,.e (Int.negSucc 0),.e (7#8),.r (fun _ => 0#8) 0 31,.e false,.z 3,.e 3,.e (9#8),.r (fun _ => 0#8) 0 31,.e (1 : Int),.r (rndF s) 0 64,.z 3,.e (List.length (lgA false tkN s)),.r (fun _ => (0 : BitVec 8)) 0 192,.e (0 : Int),.e (0 : Int),.e (0 : Int),.e (0 : Int),.e (2 : Int),.e true,.e false,.r (fun _ => 0) 0 12,.e (Int.negSucc 0),.e true,.e (lgR (h1N tkN s)),.e ([] : By),.e tkN,.e (lgA false tkN s),.e ([] : By),.e ([] : By),.e ([] : By)]) (by kernel_rfl) (by kernel_rfl)⟩
theorem bD102 (s : BitVec 8) : bD 1 false true true tkO s := ⟨oki ([.c (0 < 3),.c (0 < 3),.c (0 < 3),.c (0 < 3),.e 3,.e (aHe false tkO s),.e (List.length (g1R false tkO s)),.e (aF0 false tkO s),.e 3,.e (List.length (grN [] true false tkO s)),.z 3,.e 61,.e (aP0 tkO s),.e (1 : Int),.z 3,.e 92,.r (fun _ => (0 : BitVec 8)) 0 224,.e (0 : Int),.e (0 : Int),.e (0 : Int),.e (0 : Int),.e false,.z 4,.e (Int.negSucc 0),.e (7#8),.r (fun _ => 0#8) 0 31,.e false,.z 3,.e 3,.e (9#8),.r (fun _ => 0#8) 0 31,.e (1 : Int),.r (rndF s) 0 64,.z 3,.e (List.length (lgA false tkO s)),.r (fun _ => (0 : BitVec 8)) 0 192,.e (0 : Int),.e (0 : Int),.e (0 : Int),.e (0 : Int),.e (2 : Int),.e true,.e false,.r (fun _ => 0) 0 12,.e (Int.negSucc 0),.e true,.e (lgR (h1N tkO s)),.e ([] : By),.e tkO,.e (lgA false tkO s),.e ([] : By),.e ([] : By),.e ([] : By)]) (by kernel_rfl) (by kernel_rfl)⟩
theorem bD210 (s : BitVec 8) (kn : Bool) : bD 2 true false kn [] s := ⟨oki (let q1 := lgA true [] s; let q2 := List.length (l4N q1 false s); [.e (aHe true [] s),.e (List.length (g1R true [] s)),.e (aF0 true [] s),.z 1,.e (List.length (grN [] false true [] s)),.z 3,.c (215 = List.length (ouN q1 false s)),.e (aP1 true [] s),.e (List.length (l3N q1 false s)),.z 1,.c (58 = List.length (fiR (bpN q1 false s))),.e (aF2 true [] s),.z 1,.e q2,.z 3,.e (aP2 true [] s),.e (3 : Int),.z 3,.e q2,.r (suN q1 false s) 0 32,.r (eaN false) 0 32,.r (haN false s) 0 32,.r (maN false s) 0 32,.r (laN q1 false s) 0 32,.r (soN q1 false s) 0 32,.r (laN q1 false s) 0 32,.e (0 : Int),.e (0 : Int),.e (2 : Int),.e (2 : Int),.e true,.z 4,.e (Int.negSucc 0),.e (7#8),.r (fun _ => 0#8) 0 31,.e true,.z 4,.r (fun _ => 0#8) 0 32,.e (3 : Int),.r (rndF s) 0 64,.z 3,.e q2,.r (suN q1 false s) 0 32,.r (eaN false) 0 32,.r (haN false s) 0 32,.r (maN false s) 0 32,.r (soN q1 false s) 0 32,.r (laN q1 false s) 0 32,.e (0 : Int),.e (0 : Int),.e (2 : Int),.e (2 : Int),.e (0 : Int),.e false,.e false,.r (fun _ => 0) 0 12,.e (Int.negSucc 0),.e true,.e (l4N q1 false s),.e (usO []),.e ([] : By),.e (l4N q1 false s),.e ([] : By),.e ([] : By),.e ([] : By)]) (by kernel_rfl) (by kernel_rfl)⟩
theorem bD211 (s : BitVec 8) : bD 2 true true false tkN s := ⟨oki (let q1 := lgA true tkN s; let q2 := List.length (l4N q1 false s); [.c (0 < 3),.c (0 < 3),.e 3,.e (aHe true tkN s),.e (List.length (g1R true tkN s)),.e (aF0 true tkN s),.e 3,.e (List.length (grN [] false true tkN s)),.z 3,.c (215 = List.length (ouN q1 false s)),.e (aP1 true tkN s),.e (List.length (l3N q1 false s)),.z 1,.c (58 = List.length (fiR (bpN q1 false s))),.e (aF2 true tkN s),.e 3,.e q2,.z 3,.e (aP2 true tkN s),.e (3 : Int),.z 3,.e q2,.r (suN q1 false s) 0 32,.r (eaN false) 0 32,.r (haN false s) 0 32,.r (maN false s) 0 32,.r (laN q1 false s) 0 32,.r (soN q1 false s) 0 32,.r (laN q1 false s) 0 32,.e (0 : Int),.e (0 : Int),.e (2 : Int),.e (2 : Int),.e true,.z 4,.e (Int.negSucc 0),.e (7#8),.r (fun _ => 0#8) 0 31,.e true,.z 3,.e 3,.e (9#8),.r (fun _ => 0#8) 0 31,.e (3 : Int),.r (rndF s) 0 64,.z 3,.e q2,.r (suN q1 false s) 0 32,.r (eaN false) 0 32,.r (haN false s) 0 32,.r (maN false s) 0 32,.r (soN q1 false s) 0 32,.r (laN q1 false s) 0 32,.e (0 : Int),.e (0 : Int),.e (2 : Int),.e (2 : Int),.e (0 : Int),.e false,.e false,.r (fun _ => 0) 0 12,.e (Int.negSucc 0),.e true,.e (l4N q1 false s),.e (usO tkN),.e tkN,.e (l4N q1 false s),.e ([] : By),.e ([] : By),.e ([] : By)]) (by kernel_rfl) (by kernel_rfl)⟩
theorem bD212 (s : BitVec 8) : bD 2 true true true tkO s := ⟨oki (let q1 := lgA true tkO s; let q2 := List.length (l4N q1 true s); [.c (0 < 3),.c (0 < 3),.c (0 < 3),.c (0 < 3),.e 3,.e (aHe true tkO s),.e (List.length (g1R true tkO s)),.e (aF0 true tkO s),.e 3,.e (List.length (grN [] false true tkO s)),.z 3,.c (165 = List.length (ouN q1 true s)),.e (aP1 true tkO s),.e (List.length (l3N q1 true s)),.e 3,.c (58 = List.length (fiR (bpN q1 true s))),.e (aF2 true tkO s),.e 3,.e q2,.z 3,.e (aP2 true tkO s),.e (3 : Int),.z 3,.e q2,.r (suN q1 true s) 0 32,.r (eaN true) 0 32,.r (haN true s) 0 32,.r (maN true s) 0 32,.r (laN q1 true s) 0 32,.r (soN q1 true s) 0 32,.r (laN q1 true s) 0 32,.e (0 : Int),.e (0 : Int),.e (2 : Int),.e (2 : Int),.e true,.z 3,.e 3,.e (Int.negSucc 0),.e (7#8),.r (fun _ => 0#8) 0 31,.e true,.z 3,.e 3,.e (9#8),.r (fun _ => 0#8) 0 31,.e (3 : Int),.r (rndF s) 0 64,.z 3,.e q2,.r (suN q1 true s) 0 32,.r (eaN true) 0 32,.r (haN true s) 0 32,.r (maN true s) 0 32,.r (soN q1 true s) 0 32,.r (laN q1 true s) 0 32,.e (0 : Int),.e (0 : Int),.e (2 : Int),.e (2 : Int),.e (0 : Int),.e false,.e true,.r (fun _ => 0) 0 12,.e (Int.negSucc 0),.e true,.e (l4N q1 true s),.e (usO tkO),.e tkO,.e (l4N q1 true s),.e ([] : By),.e ([] : By),.e ([] : By)]) (by kernel_rfl) (by kernel_rfl)⟩
theorem bD200 (s : BitVec 8) (kn : Bool) : bD 2 false false kn [] s := ⟨oki (let q1 := lgA false [] s; [.e (aHe false [] s),.e (List.length (g1R false [] s)),.e (aF0 false [] s),.z 1,.e (List.length (grN [] true false [] s)),.z 3,.e 61,.e (aP0 [] s),.c (92 = List.length (lgR (h1N [] s))),.z 1,.e (List.length (g2R [] s)),.e (aF1 [] s),.z 1,.e (List.length q1),.z 3,.c (215 = List.length (ouN q1 false s)),.e (aP1 false [] s),.e (2 : Int),.z 3,.e (List.length (l3N q1 false s)),.r (fun _ => (0 : BitVec 8)) 0 32,.r (eaN false) 0 32,.r (haN false s) 0 32,.r (maN false s) 0 32,.r (ciN q1 false s) 0 32,.r (soN q1 false s) 0 32,.r (laN q1 false s) 0 32,.e (0 : Int),.e (0 : Int),.e (1 : Int),.e (2 : Int),.e true,.z 4,.e (Int.negSucc 0),.e (7#8),.r (fun _ => 0#8) 0 31,.e false,.z 4,.r (fun _ => 0#8) 0 32,.e (3 : Int),.r (rndF s) 0 64,.z 3,.e (List.length (l4N q1 false s)),.r (suN q1 false s) 0 32,.r (eaN false) 0 32,.r (haN false s) 0 32,.r (maN false s) 0 32,.r (soN q1 false s) 0 32,.r (laN q1 false s) 0 32,.e (0 : Int),.e (0 : Int),.e (2 : Int),.e (2 : Int),.e (0 : Int),.e true,.e false,.r (fun _ => 0) 0 12,.e (Int.negSucc 0),.e true,.e (l3N q1 false s),.e (usO []),.e ([] : By),.e (l4N q1 false s),.e ([] : By),.e ([] : By),.e ([] : By)]) (by kernel_rfl) (by kernel_rfl)⟩
theorem bD201 (s : BitVec 8) : bD 2 false true false tkN s := ⟨oki (let q1 := lgA false tkN s; [.c (0 < 3),.c (0 < 3),.e 3,.e (aHe false tkN s),.e (List.length (g1R false tkN s)),.e (aF0 false tkN s),.e 3,.e (List.length (grN [] true false tkN s)),.z 3,.e 61,.e (aP0 tkN s),.c (92 = List.length (lgR (h1N tkN s))),.z 1,.e (List.length (g2R tkN s)),.e (aF1 tkN s),.e 3,.e (List.length q1),.z 3,.c (215 = List.length (ouN q1 false s)),.e (aP1 false tkN s),.e (2 : Int),.z 3,.e (List.length (l3N q1 false s)),.r (fun _ => (0 : BitVec 8)) 0 32,.r (eaN false) 0 32,.r (haN false s) 0 32,.r (maN false s) 0 32,.r (ciN q1 false s) 0 32,.r (soN q1 false s) 0 32,.r (laN q1 false s) 0 32,.e (0 : Int),.e (0 : Int),.e (1 : Int),.e (2 : Int),.e true,.z 4,.e (Int.negSucc 0),.e (7#8),.r (fun _ => 0#8) 0 31,.e false,.z 3,.e 3,.e (9#8),.r (fun _ => 0#8) 0 31,.e (3 : Int),.r (rndF s) 0 64,.z 3,.e (List.length (l4N q1 false s)),.r (suN q1 false s) 0 32,.r (eaN false) 0 32,.r (haN false s) 0 32,.r (maN false s) 0 32,.r (soN q1 false s) 0 32,.r (laN q1 false s) 0 32,.e (0 : Int),.e (0 : Int),.e (2 : Int),.e (2 : Int),.e (0 : Int),.e true,.e false,.r (fun _ => 0) 0 12,.e (Int.negSucc 0),.e true,.e (l3N q1 false s),.e (usO tkN),.e tkN,.e (l4N q1 false s),.e ([] : By),.e ([] : By),.e ([] : By)]) (by kernel_rfl) (by kernel_rfl)⟩
theorem bD202 (s : BitVec 8) : bD 2 false true true tkO s := ⟨oki (let q1 := lgA false tkO s; [.c (0 < 3),.c (0 < 3),.c (0 < 3),.c (0 < 3),.e 3,.e (aHe false tkO s),.e (List.length (g1R false tkO s)),.e (aF0 false tkO s),.e 3,.e (List.length (grN [] true false tkO s)),.z 3,.e 61,.e (aP0 tkO s),.c (92 = List.length (lgR (h1N tkO s))),.z 1,.e (List.length (g2R tkO s)),.e (aF1 tkO s),.e 3,.e (List.length q1),.z 3,.c (165 = List.length (ouN q1 true s)),.e (aP1 false tkO s),.e (2 : Int),.z 3,.e (List.length (l3N q1 true s)),.r (fun _ => (0 : BitVec 8)) 0 32,.r (eaN true) 0 32,.r (haN true s) 0 32,.r (maN true s) 0 32,.r (ciN q1 true s) 0 32,.r (soN q1 true s) 0 32,.r (laN q1 true s) 0 32,.e (0 : Int),.e (0 : Int),.e (1 : Int),.e (2 : Int),.e true,.z 3,.e 3,.e (Int.negSucc 0),.e (7#8),.r (fun _ => 0#8) 0 31,.e false,.z 3,.e 3,.e (9#8),.r (fun _ => 0#8) 0 31,.e (3 : Int),.r (rndF s) 0 64,.z 3,.e (List.length (l4N q1 true s)),.r (suN q1 true s) 0 32,.r (eaN true) 0 32,.r (haN true s) 0 32,.r (maN true s) 0 32,.r (soN q1 true s) 0 32,.r (laN q1 true s) 0 32,.e (0 : Int),.e (0 : Int),.e (2 : Int),.e (2 : Int),.e (0 : Int),.e true,.e true,.r (fun _ => 0) 0 12,.e (Int.negSucc 0),.e true,.e (l3N q1 true s),.e (usO tkO),.e tkO,.e (l4N q1 true s),.e ([] : By),.e ([] : By),.e ([] : By)]) (by kernel_rfl) (by kernel_rfl)⟩
theorem cCk0 : COK Tryz.prog gl0 9 (mkF ⟨[.kp,.kp],fun _ _ => [],fun _ _ => [],gCk 0⟩) := by
 refine ctrE2 (fn := Tryz.f9) [] 3000 (by kernel_rfl) (by kernel_rfl) (by kernel_rfl) (fun args w => by kernel_rfl) fun xs bs r hs ho => ?_
 simp only [gCk] at hs
 split at hs
 ·rename_i a b c s e
  cases a <;> cases b
  ·cases hs; rw [obsT_one.1 ho]; exact ⟨_,okX1 false (.inl rfl) s,_,bD000 s c⟩
  ·cases c
   ·cases hs; rw [obsT_one.1 ho]; exact ⟨_,okX1 false (.inr (.inl rfl)) s,_,bD001 s⟩
   ·cases hs; rw [obsT_one.1 ho]; exact ⟨_,okX1 false (.inr (.inr rfl)) s,_,bD002 s⟩
  ·cases hs; rw [obsT_one.1 ho]; exact ⟨_,okX1 true (.inl rfl) s,_,bD010 s c⟩
  ·cases c
   ·cases hs; rw [obsT_one.1 ho]; exact ⟨_,okX1 true (.inr (.inl rfl)) s,_,bD011 s⟩
   ·cases hs; rw [obsT_one.1 ho]; exact ⟨_,okX1 true (.inr (.inr rfl)) s,_,bD012 s⟩
 ·cases hs
theorem cCk1 : COK Tryz.prog gl0 9 (mkF ⟨[.kp,.kp],fun _ _ => [],fun _ _ => [],gCk 1⟩) := by
 refine ctrE2 (fn := Tryz.f9) [] 3000 (by kernel_rfl) (by kernel_rfl) (by kernel_rfl) (fun args w => by kernel_rfl) fun xs bs r hs ho => ?_
 simp only [gCk] at hs
 split at hs
 ·rename_i a b c s e
  cases a <;> cases b
  ·cases hs; rw [obsT_one.1 ho]; exact ⟨_,okX1 false (.inl rfl) s,_,bD100 s c⟩
  ·cases c
   ·cases hs; rw [obsT_one.1 ho]; exact ⟨_,okX1 false (.inr (.inl rfl)) s,_,bD101 s⟩
   ·cases hs; rw [obsT_one.1 ho]; exact ⟨_,okX1 false (.inr (.inr rfl)) s,_,bD102 s⟩
  ·cases hs; rw [obsT_one.1 ho]; exact ⟨_,okX1 true (.inl rfl) s,_,bD110 s c⟩
  ·cases c
   ·cases hs; rw [obsT_one.1 ho]; exact ⟨_,okX1 true (.inr (.inl rfl)) s,_,bD111 s⟩
   ·cases hs; rw [obsT_one.1 ho]; exact ⟨_,okX1 true (.inr (.inr rfl)) s,_,bD112 s⟩
 ·cases hs
theorem cCk2 : COK Tryz.prog gl0 9 (mkF ⟨[.kp,.kp],fun _ _ => [],fun _ _ => [],gCk 2⟩) := by
 refine ctrE2 (fn := Tryz.f9) [] 3000 (by kernel_rfl) (by kernel_rfl) (by kernel_rfl) (fun args w => by kernel_rfl) fun xs bs r hs ho => ?_
 simp only [gCk] at hs
 split at hs
 ·rename_i a b c s e
  cases a <;> cases b
  ·cases hs; rw [obsT_one.1 ho]; exact ⟨_,okX1 false (.inl rfl) s,_,bD200 s c⟩
  ·cases c
   ·cases hs; rw [obsT_one.1 ho]; exact ⟨_,okX1 false (.inr (.inl rfl)) s,_,bD201 s⟩
   ·cases hs; rw [obsT_one.1 ho]; exact ⟨_,okX1 false (.inr (.inr rfl)) s,_,bD202 s⟩
  ·cases hs; rw [obsT_one.1 ho]; exact ⟨_,okX1 true (.inl rfl) s,_,bD210 s c⟩
  ·cases c
   ·cases hs; rw [obsT_one.1 ho]; exact ⟨_,okX1 true (.inr (.inl rfl)) s,_,bD211 s⟩
   ·cases hs; rw [obsT_one.1 ho]; exact ⟨_,okX1 true (.inr (.inr rfl)) s,_,bD212 s⟩
 ·cases hs
end Go.Sym
