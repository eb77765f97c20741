/- A server that is not open. -/
import Derived.Test.YtknplceohfeamaaGreatDoorFew
set_option linter.unusedVariables false
set_option linter.unusedSimpArgs false
namespace Go.Sym
open Go.Proofs Go.Spec
noncomputable def W1 : Ctx := exeS Tryz.prog gl0 3000 [(32,Tryz.f32),(34,Tryz.f34),(36,Tryz.f36),(31,Tryz.f31),(11,Tryz.f11),(13,Tryz.f13),(14,Tryz.f14),(29,Tryz.f29)] (Y6 (fun _ => 0) [] 22)
theorem okW1 : COKs Tryz.prog gl0 W1 := (okY6 _ _ _).exeS 3000 (by kernel_rfl) _ (by kernel_rfl) (by kernel_rfl)
noncomputable def yesC (xs : List AV) (bs : List ABlk) : TL := match xs,bs with | [],[] => .ok ⟨[],.bool true,[],[]⟩ | _,_ => .no
noncomputable def W2 (k : Nat) : Ctx := (W1.add 10 (mkF ⟨[],fun _ _ => [],fun _ _ => [],yesC⟩)).add 9 (mkF ⟨[.kp,.kp],fun _ _ => [],fun _ _ => [],gCk k⟩)
set_option maxHeartbeats 0
set_option maxRecDepth 100000
def kOf (n : Int) : Int := IntKind.i64.wrap (((BitVec.ofInt 64 n % 3#64).toNat : Nat) : Int)
theorem vAn : bodyP Tryz.prog W1 gl0 [] [] 3000 Tryz.f10 0 [] [] (retQ Tryz.prog Tryz.f10 0 ⟨[],.bool true,[],[]⟩) = (cj [1,0,3,1,0,3,1,0,1099511627776,1,0,1099511627776,1,0,1099511627776,0,2,5,0,0,1,0,1,1,0,1,0,5,3,5,2,1,0,7,3,0,7,1,0,7] ( true = true∧True) : Prop) := by kernel_rfl
theorem cAn : COK Tryz.prog gl0 10 (mkF ⟨[],fun _ _ => [],fun _ _ => [],yesC⟩) := by
 refine ctrE (fn := Tryz.f10) [] 3000 (by kernel_rfl) (by kernel_rfl) okW1 (by kernel_rfl) (fun args w => by kernel_rfl) fun xs bs r hs ho => ?_
 simp only [yesC] at hs
 split at hs
 ·cases hs
  refine ⟨_,⟨kx ?_ vAn.symm⟩⟩
  repeat first | exact True.intro | refine ck (by kernel_rfl) ?_ | refine a0 ?_
 ·cases hs
theorem okW2 : ∀ k,k < 3→COKs Tryz.prog gl0 (W2 k)
 | 0,_ => (okW1.add cAn).add cCk0
 | 1,_ => (okW1.add cAn).add cCk1
 | 2,_ => (okW1.add cAn).add cCk2
abbrev bS (k : Nat) (a b e : Bool) (s : BitVec 8) (n : Int) (x : By) (c : Bool) : Prop := bodyP Tryz.prog (W2 k) gl0 [] [] 3000 Tryz.f3 0 [.agg [.bool a,.bool b,.bool e,.u8 s],.int .i64 n,.rb true x (.is c)] [] (retQ Tryz.prog Tryz.f3 0 ⟨[],.bool true,[],[]⟩)
def rowS (m u : Nat) : List Nat := (List.replicate 6 [0,m,1,m,1099511627776,1,0,1099511627776,0,u,1,u,1099511627776]).flatten++[0,m,0,m]
def row0 : List Nat := (List.replicate 18 [1,0,1099511627776]).flatten++[0,0]
def pS (k : Nat) (l : List Nat) (n : Int) (q : Prop) : Prop := kOf n = Int.ofNat k∧cj l (q∧True)
def dS (A : By) : Prop := true = decide (A = A)
theorem pS_of {k : Nat} {l : List Nat} {n : Int} {q p : Prop} (h : kOf n = Int.ofNat k) (e : q) (c : cjB l = true) (i : pS k l n q = p) : Must p := ⟨kx ⟨h,ck c ⟨e,trivial⟩⟩ i⟩
theorem dS_of (A : By) : dS A := (decide_eq_true rfl).symm
theorem bS000 {s : BitVec 8} {n : Int} {x : By} {c kn : Bool} (h : kOf n = Int.ofNat 0) : Must (bS 0 false false kn s n x c) := pS_of (l := row0) (q := true = true) h rfl (by kernel_rfl) (by kernel_rfl)
theorem bS001 {s : BitVec 8} {n : Int} {x : By} {c : Bool} (h : kOf n = Int.ofNat 0) : Must (bS 0 false true false s n x c) := pS_of (l := row0) (q := true = true) h rfl (by kernel_rfl) (by kernel_rfl)
theorem bS002 {s : BitVec 8} {n : Int} {x : By} {c : Bool} (h : kOf n = Int.ofNat 0) : Must (bS 0 false true true s n x c) := pS_of (l := row0) (q := true = true) h rfl (by kernel_rfl) (by kernel_rfl)
theorem bS010 {s : BitVec 8} {n : Int} {x : By} {c kn : Bool} (h : kOf n = Int.ofNat 0) : Must (bS 0 true false kn s n x c) := pS_of (l := row0) (q := true = true) h rfl (by kernel_rfl) (by kernel_rfl)
theorem bS011 {s : BitVec 8} {n : Int} {x : By} {c : Bool} (h : kOf n = Int.ofNat 0) : Must (bS 0 true true false s n x c) := pS_of (l := row0) (q := true = true) h rfl (by kernel_rfl) (by kernel_rfl)
theorem bS012 {s : BitVec 8} {n : Int} {x : By} {c : Bool} (h : kOf n = Int.ofNat 0) : Must (bS 0 true true true s n x c) := pS_of (l := row0) (q := true = true) h rfl (by kernel_rfl) (by kernel_rfl)
theorem bSt0 (a b e : Bool) (s : BitVec 8) (n : Int) (x : By) (c : Bool) (h : kOf n = Int.ofNat 0) : Must (bS 0 a b e s n x c) := by
 cases a <;> cases b
 ·exact bS000 h
 ·cases e
  ·exact bS001 h
  ·exact bS002 h
 ·exact bS010 h
 ·cases e
  ·exact bS011 h
  ·exact bS012 h
theorem bS100 {s : BitVec 8} {n : Int} {x : By} {c kn : Bool} (h : kOf n = Int.ofNat 1) : Must (bS 1 false false kn s n x c) := pS_of (l := rowS 92 0) h (dS_of (lgR (h1N [] s))) (by kernel_rfl) (by kernel_rfl)
theorem bS101 {s : BitVec 8} {n : Int} {x : By} {c : Bool} (h : kOf n = Int.ofNat 1) : Must (bS 1 false true false s n x c) := pS_of (l := rowS 92 0) h (dS_of (lgR (h1N tkN s))) (by kernel_rfl) (by kernel_rfl)
theorem bS102 {s : BitVec 8} {n : Int} {x : By} {c : Bool} (h : kOf n = Int.ofNat 1) : Must (bS 1 false true true s n x c) := pS_of (l := rowS 92 0) h (dS_of (lgR (h1N tkO s))) (by kernel_rfl) (by kernel_rfl)
theorem bS110 {s : BitVec 8} {n : Int} {x : By} {c kn : Bool} (h : kOf n = Int.ofNat 1) : Must (bS 1 true false kn s n x c) := pS_of (l := rowS 306 0) h (dS_of (l3N (lgA true [] s) false s)) (by kernel_rfl) (by kernel_rfl)
theorem bS111 {s : BitVec 8} {n : Int} {x : By} {c : Bool} (h : kOf n = Int.ofNat 1) : Must (bS 1 true true false s n x c) := pS_of (l := rowS 356 0) h (dS_of (l3N (lgA true tkN s) false s)) (by kernel_rfl) (by kernel_rfl)
theorem bS112 {s : BitVec 8} {n : Int} {x : By} {c : Bool} (h : kOf n = Int.ofNat 1) : Must (bS 1 true true true s n x c) := pS_of (l := rowS 306 3) h (dS_of (l3N (lgA true tkO s) true s)) (by kernel_rfl) (by kernel_rfl)
theorem bSt1 (a b e : Bool) (s : BitVec 8) (n : Int) (x : By) (c : Bool) (h : kOf n = Int.ofNat 1) : Must (bS 1 a b e s n x c) := by
 cases a <;> cases b
 ·exact bS100 h
 ·cases e
  ·exact bS101 h
  ·exact bS102 h
 ·exact bS110 h
 ·cases e
  ·exact bS111 h
  ·exact bS112 h
theorem bS200 {s : BitVec 8} {n : Int} {x : By} {c kn : Bool} (h : kOf n = Int.ofNat 2) : Must (bS 2 false false kn s n x c) := pS_of (l := rowS 400 0) h (dS_of (l3N (lgA false [] s) false s)) (by kernel_rfl) (by kernel_rfl)
theorem bS201 {s : BitVec 8} {n : Int} {x : By} {c : Bool} (h : kOf n = Int.ofNat 2) : Must (bS 2 false true false s n x c) := pS_of (l := rowS 450 0) h (dS_of (l3N (lgA false tkN s) false s)) (by kernel_rfl) (by kernel_rfl)
theorem bS202 {s : BitVec 8} {n : Int} {x : By} {c : Bool} (h : kOf n = Int.ofNat 2) : Must (bS 2 false true true s n x c) := pS_of (l := rowS 400 3) h (dS_of (l3N (lgA false tkO s) true s)) (by kernel_rfl) (by kernel_rfl)
theorem bS210 {s : BitVec 8} {n : Int} {x : By} {c kn : Bool} (h : kOf n = Int.ofNat 2) : Must (bS 2 true false kn s n x c) := pS_of (l := []) (q := true = true) h rfl (by kernel_rfl) (by kernel_rfl)
theorem bS211 {s : BitVec 8} {n : Int} {x : By} {c : Bool} (h : kOf n = Int.ofNat 2) : Must (bS 2 true true false s n x c) := pS_of (l := []) (q := true = true) h rfl (by kernel_rfl) (by kernel_rfl)
theorem bS212 {s : BitVec 8} {n : Int} {x : By} {c : Bool} (h : kOf n = Int.ofNat 2) : Must (bS 2 true true true s n x c) := pS_of (l := []) (q := true = true) h rfl (by kernel_rfl) (by kernel_rfl)
theorem bSt2 (a b e : Bool) (s : BitVec 8) (n : Int) (x : By) (c : Bool) (h : kOf n = Int.ofNat 2) : Must (bS 2 a b e s n x c) := by
 cases a <;> cases b
 ·exact bS200 h
 ·cases e
  ·exact bS201 h
  ·exact bS202 h
 ·exact bS210 h
 ·cases e
  ·exact bS211 h
  ·exact bS212 h
theorem kOf_3 (n : Int) : kOf n = Int.ofNat 0 ∨ kOf n = Int.ofNat 1 ∨ kOf n = Int.ofNat 2 := by
 have h : (BitVec.ofInt 64 n % 3#64).toNat < 3 := by
  rw [BitVec.toNat_umod]
  exact Nat.mod_lt _ (by decide)
 unfold kOf
 generalize (BitVec.ofInt 64 n % 3#64).toNat = m at h
 match m,h with
 | 0,_ => exact .inl (by decide)
 | 1,_ => exact .inr (.inl (by decide))
 | 2,_ => exact .inr (.inr (by decide))
end Go.Sym
