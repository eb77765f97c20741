/- What is shared: the call of the program; by numbers. -/
import Derived.Test.YtknplceohfeamaaGreatDoorCurB
set_option linter.unusedVariables false
set_option linter.unusedSimpArgs false
namespace Go.Sym
open Go.Proofs Go.Spec
set_option maxRecDepth 100000 in
theorem vshr (s p z : F8) (q : Bool) : bodyP Tryz.prog V7 gl0 [] [(5,lsShr s p)] 3000 Tryz.f161 0 [aggB 32 s,aggB 32 p] [] (retQ Tryz.prog Tryz.f161 0 ⟨[],.tup [aggB 32 z,.bool q],[],[]⟩) = (
let x1 := fun (i : Nat) => (rg 32 p).getD i (0 : BitVec 8); (∃ (x : Nat),x.le 255∧0 = 0∧Bool.false = Bool.false∧0 = 0∧0 = 0∧(254 : Int) - (↑x : Int) = (254 : Int)∧allP (fun (i : Nat) => (0 : BitVec 8) = BitVec.ofNat 8 0) 0 32 (allP (fun (i : Nat) => claL s i = claL (fun (i : Nat) => (rg 32 s).getD i (0 : BitVec 8)) i) 0 32 (ladN (claL s) (numSq p 255) x 0 = numSq x1 255 0∧ladN (claL s) (numSq p 255) x 1 = numSq x1 255 1∧ladN (claL s) (numSq p 255) x 2 = numSq x1 255 2∧ladN (claL s) (numSq p 255) x 3 = numSq x1 255 3∧ladN (claL s) (numSq p 255) x 4 = numSq x1 255 4∧ladN (claL s) (numSq p 255) x 5 = BitVec.ofNat 64 1∧allP (fun (i : Nat) => ladN (claL s) (numSq p 255) x i = BitVec.ofNat 64 0) 6 9 (ladN (claL s) (numSq p 255) x 15 = numSq x1 255 0∧ladN (claL s) (numSq p 255) x 16 = numSq x1 255 1∧ladN (claL s) (numSq p 255) x 17 = numSq x1 255 2∧ladN (claL s) (numSq p 255) x 18 = numSq x1 255 3∧ladN (claL s) (numSq p 255) x 19 = numSq x1 255 4∧ladN (claL s) (numSq p 255) x 20 = BitVec.ofNat 64 1∧ladN (claL s) (numSq p 255) x 21 = BitVec.ofNat 64 0∧ladN (claL s) (numSq p 255) x 22 = BitVec.ofNat 64 0∧ladN (claL s) (numSq p 255) x 23 = BitVec.ofNat 64 0∧ladN (claL s) (numSq p 255) x 24 = BitVec.ofNat 64 0∧True))))∧∀ (x : Nat),let x1 := fun (i : Nat) => [invN (fun (i : Nat) => [ladN (claL s) (numSq p 255) x 10,ladN (claL s) (numSq p 255) x 11,ladN (claL s) (numSq p 255) x 12,ladN (claL s) (numSq p 255) x 13,ladN (claL s) (numSq p 255) x 14].getD i (0 : B64)) 255 0,invN (fun (i : Nat) => [ladN (claL s) (numSq p 255) x 10,ladN (claL s) (numSq p 255) x 11,ladN (claL s) (numSq p 255) x 12,ladN (claL s) (numSq p 255) x 13,ladN (claL s) (numSq p 255) x 14].getD i (0 : B64)) 255 1,invN (fun (i : Nat) => [ladN (claL s) (numSq p 255) x 10,ladN (claL s) (numSq p 255) x 11,ladN (claL s) (numSq p 255) x 12,ladN (claL s) (numSq p 255) x 13,ladN (claL s) (numSq p 255) x 14].getD i (0 : B64)) 255 2,invN (fun (i : Nat) => [ladN (claL s) (numSq p 255) x 10,ladN (claL s) (numSq p 255) x 11,ladN (claL s) (numSq p 255) x 12,ladN (claL s) (numSq p 255) x 13,ladN (claL s) (numSq p 255) x 14].getD i (0 : B64)) 255 3,invN (fun (i : Nat) => [ladN (claL s) (numSq p 255) x 10,ladN (claL s) (numSq p 255) x 11,ladN (claL s) (numSq p 255) x 12,ladN (claL s) (numSq p 255) x 13,ladN (claL s) (numSq p 255) x 14].getD i (0 : B64)) 255 4].getD i (0 : B64); let x2 := fun (i : Nat) => [ladN (claL s) (numSq p 255) x 5,ladN (claL s) (numSq p 255) x 6,ladN (claL s) (numSq p 255) x 7,ladN (claL s) (numSq p 255) x 8,ladN (claL s) (numSq p 255) x 9].getD i (0 : B64); let x3 := leaL fun (i : Nat) => [timesL x2 x1 0,timesL x2 x1 1,timesL x2 x1 2,timesL x2 x1 3,timesL x2 x1 4].getD i (0 : B64); let x4 := BitVec.setWidth 64 ((rg 32 (claL s)).getD (IntKind.i64.wrap (((254 : Int) - (↑x : Int)).tdiv (8 : Int))).toNat (0 : BitVec 8) >>> (((254 : Int) - (↑x : Int)).tmod (8 : Int)).toNat) &&& BitVec.ofNat 64 1; x.le 255→@Bool.rec (fun _ => Prop) (allP (fun (i : Nat) => z i = bytS x3 255 i) 0 32 (q = !andP (fun (i : Nat) => decide (bytS x3 255 i = BitVec.ofNat 8 0)) 0 32 Bool.true∧True)) ((0 : Int)≤IntKind.i64.wrap (((254 : Int) - (↑x : Int)).tdiv (8 : Int))∧(IntKind.i64.wrap (((254 : Int) - (↑x : Int)).tdiv (8 : Int))).toNat < 32∧(IntKind.i64.wrap (((254 : Int) - (↑x : Int)).tdiv (8 : Int))).toNat < (rg 32 (claL s)).length∧(0 : Int)≤((254 : Int) - (↑x : Int)).tmod (8 : Int)∧∃ (y : Nat),255 - y < 255 - x∧y.le 255∧0 = 0∧Bool.false = Bool.false∧0 = 0∧0 = 0∧(254 : Int) - (↑y : Int) = IntKind.i64.wrap ((254 : Int) - (↑x : Int) - (1 : Int))∧allP (fun (i : Nat) => (0 : BitVec 8) = (0 : BitVec 8)) 0 32 (allP (fun (i : Nat) => claL s i = claL s i) 0 32 (allP (fun (i : Nat) => ladN (claL s) (numSq p 255) y i = swaL (fun (i : Nat) => (rg 25 (steL fun (i : Nat) => (rg 25 (swaL (fun (i : Nat) => (rg 25 (ladN (claL s) (numSq p 255) x)).getD i (0 : B64)) x4)).getD i (0 : B64))).getD i (0 : B64)) x4 i) 0 25 True))) (decide ((0 : Int)≤(254 : Int) - (↑x : Int))) : Prop) := by kernel_rfl
end Go.Sym
namespace Go.Spec
open Go.Sym
theorem numS_congr {a b : F8} (h : ∀ i,i < 32→a i = b i) : ∀ k,k≤255→numSq a k = numSq b k
 | 0,_ => rfl
 | k + 1,hk => by
  have e : bitB a k = bitB b k := by unfold bitB; rw [h (k / 8) (by omega)]
  funext j
  rw [numSq,numSq,numS_congr h k (by omega),e]
noncomputable def shS (s p : F8) : F8 := shut (shrB s p)
theorem shS_eq (s p : F8) : shS s p = shrB s p := shut_eq _
def okB (f : F8) : Bool := !andP (fun i => decide (f i = BitVec.ofNat 8 0)) 0 32 true
end Go.Spec
namespace Go.Sym
open Go.Proofs Go.Spec
theorem one0 : oneN 0 = BitVec.ofNat 64 1 := rfl
theorem one1 (i : Nat) (h : 0 < i) : oneN i = BitVec.ofNat 64 0 := by unfold oneN; rw [if_neg (by omega)]
theorem fz2 (L : N5) : (fun i => [L 5,L 6,L 7,L 8,L 9].getD i (0 : B64)) = atL L 5 := rfl
theorem fz0 (L : N5) : (fun i => [L 10,L 11,L 12,L 13,L 14].getD i (0 : B64)) = atL L 10 := rfl
theorem fz5 (f : N5) : (fun i => [f 0,f 1,f 2,f 3,f 4].getD i (0 : B64)) = re5 f := rfl
theorem fzI (L : N5) : (fun i => [invN (fun i => [L 10,L 11,L 12,L 13,L 14].getD i (0 : B64)) 255 0,invN (fun i => [L 10,L 11,L 12,L 13,L 14].getD i (0 : B64)) 255 1,invN (fun i => [L 10,L 11,L 12,L 13,L 14].getD i (0 : B64)) 255 2,invN (fun i => [L 10,L 11,L 12,L 13,L 14].getD i (0 : B64)) 255 3,invN (fun i => [L 10,L 11,L 12,L 13,L 14].getD i (0 : B64)) 255 4].getD i (0 : B64)) = re5 (invN (atL L 10) 255) := by
 rw [fz0 L]
 exact fz5 _
theorem fr25 (L : N5) : (fun i => (rg 25 L).getD i (0 : B64)) = re25 L := rfl
theorem ladN_s (s : F8) (u : N5) (k : Nat) : ladN s u (k + 1) = swaL (re25 (steL (re25 (swaL (re25 (ladN s u k)) (bitB s (254 - k)))))) (bitB s (254 - k)) := by rw [ladN]
theorem lad_cells (L : N5) (f : N5) (h : L = f) : ∀ i,L i = f i := fun i => congrFun h i
set_option maxRecDepth 100000 in
theorem bshr (s p : F8) : Must (bodyP Tryz.prog V7 gl0 [] [(5,lsShr s p)] 3000 Tryz.f161 0 [aggB 32 s,aggB 32 p] [] (retQ Tryz.prog Tryz.f161 0 ⟨[],.tup [aggB 32 (shrB s p),.bool (okB (shrB s p))],[],[]⟩)) := by
 constructor
 rw [vshr]
 intro x1
 have hx1 : numSq x1 255 = numSq p 255 := numS_congr (fun i hi => rgG p 0 i 32 hi) 255 (Nat.le_refl _)
 clear_value x1
 have hu : shrB s p = bytS (leaL (re5 (outN (ladN (claL s) (numSq p 255) 255)))) 255 := rfl
 have hsc : ∀ i,i < 32→claL s i = claL (fun i => (rg 32 s).getD i (0 : BitVec 8)) i := by
  intro i hi
  unfold claL
  dsimp only
  rw [rgG s 0 0 32 (by omega),rgG s 0 31 32 (by omega),rgG s 0 i 32 (by omega)]
 generalize claL s = sc at *
 generalize numSq p 255 = u at *
 refine ⟨⟨0,Nat.zero_le _,rfl,rfl,rfl,rfl,rfl,allP_of _ _ (fun _ _ _ => rfl) (allP_of _ _ (fun i _ hi => hsc i (by omega)) ?_)⟩,?_⟩
 ·rw [hx1]
  have hl : ladN sc u 0 = Go.Spec.mkS u oneN nulN u oneN := rfl
  rw [hl]
  refine ⟨Go.Spec.mkS_0 u oneN nulN u oneN,Go.Spec.mkS_1 u oneN nulN u oneN,Go.Spec.mkS_2 u oneN nulN u oneN,Go.Spec.mkS_3 u oneN nulN u oneN,Go.Spec.mkS_4 u oneN nulN u oneN,(Go.Spec.mkS_5 u oneN nulN u oneN).trans one0,allP_of _ _ (fun i h1 h2 => ?_) ⟨Go.Spec.mkS_15 u oneN nulN u oneN,Go.Spec.mkS_16 u oneN nulN u oneN,Go.Spec.mkS_17 u oneN nulN u oneN,Go.Spec.mkS_18 u oneN nulN u oneN,Go.Spec.mkS_19 u oneN nulN u oneN,(Go.Spec.mkS_20 u oneN nulN u oneN).trans one0,(Go.Spec.mkS_21 u oneN nulN u oneN).trans (one1 1 (by omega)),(Go.Spec.mkS_22 u oneN nulN u oneN).trans (one1 2 (by omega)),(Go.Spec.mkS_23 u oneN nulN u oneN).trans (one1 3 (by omega)),(Go.Spec.mkS_24 u oneN nulN u oneN).trans (one1 4 (by omega)),trivial⟩⟩
  have : i = 6 ∨ i = 7 ∨ i = 8 ∨ i = 9 ∨ i = 10 ∨ i = 11 ∨ i = 12 ∨ i = 13 ∨ i = 14 := by omega
  rcases this with rfl | rfl | rfl | rfl | rfl | rfl | rfl | rfl | rfl
  ·exact (Go.Spec.mkS_6 u oneN nulN u oneN).trans (one1 1 (by omega))
  ·exact (Go.Spec.mkS_7 u oneN nulN u oneN).trans (one1 2 (by omega))
  ·exact (Go.Spec.mkS_8 u oneN nulN u oneN).trans (one1 3 (by omega))
  ·exact (Go.Spec.mkS_9 u oneN nulN u oneN).trans (one1 4 (by omega))
  ·exact Go.Spec.mkS_10 u oneN nulN u oneN
  ·exact Go.Spec.mkS_11 u oneN nulN u oneN
  ·exact Go.Spec.mkS_12 u oneN nulN u oneN
  ·exact Go.Spec.mkS_13 u oneN nulN u oneN
  ·exact Go.Spec.mkS_14 u oneN nulN u oneN
 ·intro k z1 z2 z3 z4 hk
  have hk : k≤255 := hk
  have hz2 : z2 = atL (ladN sc u k) 5 := fz2 _
  have hz1 : z1 = re5 (invN (atL (ladN sc u k) 10) 255) := fzI _
  have hz3 : z3 = leaL (re5 (timesL z2 z1)) := congrArg leaL (fz5 (timesL z2 z1))
  clear_value z1 z2 z3
  refine brec (fun d => ?_) (fun d => ?_)
  ·have d : (0 : Int)≤254 - (k : Int) := of_decide_eq_true d
   obtain ⟨a1,a2⟩ := dvw (254 - k) 8 (by omega) (by omega)
   have c1 : (254 : Int) - (k : Int) = ((254 - k : Nat) : Int) := by omega
   have m8 : ((254 - k : Nat) : Int).tmod 8 = (((254 - k) % 8 : Nat) : Int) := rfl
   have a1 : (IntKind.i64.wrap (((254 - k : Nat) : Int).tdiv 8)).toNat = (254 - k) / 8 := a1
   have hz4 : z4 = bitB sc (254 - k) := by
    show BitVec.setWidth 64 ((rg 32 sc).getD (IntKind.i64.wrap (((254 : Int) - (k : Int)).tdiv 8)).toNat (0 : BitVec 8) >>> (((254 : Int) - (k : Int)).tmod 8).toNat) &&& BitVec.ofNat 64 1 = _
    rw [c1,m8,a1,Int.toNat_natCast,rgG sc 0 ((254 - k) / 8) 32 (by omega)]
    rfl
   clear_value z4
   have e : ladN sc u (k + 1) = swaL (re25 (steL (re25 (swaL (re25 (ladN sc u k)) z4)))) z4 := by rw [hz4]; exact ladN_s sc u k
   have w : (254 : Int) - ((k + 1 : Nat) : Int) = IntKind.i64.wrap (254 - (k : Int) - 1) := by rw [wrap_i64 (by omega) (by omega)]; omega
   rw [rg_length]
   refine ⟨by rw [c1]; exact a2,by rw [c1,a1]; omega,by rw [c1,a1]; omega,by rw [c1,m8]; exact Int.natCast_nonneg _,k + 1,by omega,(by show k + 1≤255; omega),rfl,rfl,rfl,rfl,w,allP_of _ _ (fun _ _ _ => rfl) (allP_of _ _ (fun _ _ _ => rfl) (allP_of _ _ (fun i _ _ => ?_) trivial))⟩
   rw [e]
   generalize ladN sc u k = L
   have r1 := fr25 L
   rw [r1]
   generalize swaL (re25 L) z4 = M
   have r2 := fr25 M
   rw [r2]
   generalize steL (re25 M) = N
   have r3 := fr25 N
   rw [r3]
  ·have d : ¬ (0 : Int)≤254 - (k : Int) := of_decide_eq_false d
   obtain rfl : k = 255 := by omega
   have e : z3 = leaL (re5 (outN (ladN sc u 255))) := by rw [hz3,hz2,hz1,outN]
   rw [hu,← e]
   exact allP_of _ _ (fun _ _ _ => rfl) ⟨rfl,trivial⟩
noncomputable def gShr (xs : List AV) : TL := match xs with | [.agg cs,.agg ds] => asB 32 cs fun s => asB 32 ds fun p => .ok (rt (.tup [aggB 32 (shS s p),.bool (okB (shS s p))])) | _ => .no
theorem cshr : COK Tryz.prog gl0 161 (mkF (spK 2 gShr)) := by
 refine ctrE (fn := Tryz.f161) [] 3000 (by kernel_rfl) (by kernel_rfl) (okV6.withSym [27,28]) (by kernel_rfl) (fun args w => by kernel_rfl) fun xs bs r hs ho => ?_
 obtain ⟨rfl,hs0⟩ := spK_sel hs
 clear hs
 rename (TL.sel _ = _) => hs
 unfold gShr at hs
 split at hs
 ·obtain ⟨x,e,hs⟩ := asB_sel hs
  obtain ⟨y,e2,hs⟩ := asB_sel hs
  simp only [TL.sel,Option.some.injEq] at hs
  subst hs
  rw [e,e2]
  rw [shS_eq]
  exact ⟨_,bshr x y⟩
 ·simp [TL.sel] at hs
noncomputable def V8 : Ctx := V0.add 161 (mkF (spK 2 gShr))
theorem okV8 : COKs Tryz.prog gl0 V8 := okV0.add cshr
noncomputable def V9 : Ctx := V8.exe Tryz.prog gl0 [] 3000 Tryz.f132.params.size 132 Tryz.f132
theorem okV9 : COKs Tryz.prog gl0 V9 := okV8.exe [] 3000 _ (by kernel_rfl) (by kernel_rfl) (by kernel_rfl) (fun args w => by kernel_rfl)
end Go.Sym
namespace Go.Spec
open Go.Sym
def fA (a b : Nat) : Nat := (a + b) % PZ
def fS (a b : Nat) : Nat := (a + (PZ - b)) % PZ
def fM (a b : Nat) : Nat := a * b % PZ
def invV (v : Nat) : Nat→Nat
 | 0 => 1
 | k + 1 => if k = 252 ∨ k = 250 then fM (invV v k) (invV v k) else fM (fM (invV v k) (invV v k)) v
structure L4 where
 x2 : Nat
 z2 : Nat
 x3 : Nat
 z3 : Nat
def stepV (u : Nat) (s : L4) : L4 :=
  ⟨fM (fM (fA s.x2 s.z2) (fA s.x2 s.z2)) (fM (fS s.x2 s.z2) (fS s.x2 s.z2)),
   fM (fS (fM (fA s.x2 s.z2) (fA s.x2 s.z2)) (fM (fS s.x2 s.z2) (fS s.x2 s.z2))) (fA (fM (fA s.x2 s.z2) (fA s.x2 s.z2)) (fM 121665 (fS (fM (fA s.x2 s.z2) (fA s.x2 s.z2)) (fM (fS s.x2 s.z2) (fS s.x2 s.z2))))),
   fM (fA (fM (fS s.x3 s.z3) (fA s.x2 s.z2)) (fM (fA s.x3 s.z3) (fS s.x2 s.z2))) (fA (fM (fS s.x3 s.z3) (fA s.x2 s.z2)) (fM (fA s.x3 s.z3) (fS s.x2 s.z2))),
   fM u (fM (fS (fM (fS s.x3 s.z3) (fA s.x2 s.z2)) (fM (fA s.x3 s.z3) (fS s.x2 s.z2))) (fS (fM (fS s.x3 s.z3) (fA s.x2 s.z2)) (fM (fA s.x3 s.z3) (fS s.x2 s.z2))))⟩
def swapV (b : Bool) (s : L4) : L4 := match b with | true => ⟨s.x3,s.z3,s.x2,s.z2⟩ | false => s
def bitV (s : F8) (i : Nat) : Bool := (s (i / 8)).getLsbD (i % 8)
def ladV (s : F8) (u : Nat) : Nat→L4
 | 0 => ⟨1,0,u,1⟩
 | k + 1 => swapV (bitV s (254 - k)) (stepV u (swapV (bitV s (254 - k)) (ladV s u k)))
def shV (s : F8) (u : Nat) : Nat := fM (ladV s u 255).x2 (invV (ladV s u 255).z2 255)
structure RL (l : N5) (u : Nat) (s : L4) : Prop where
 r1 : Rp (atL l 0) u
 r2 : Rp (atL l 5) s.x2
 r3 : Rp (atL l 10) s.z2
 r4 : Rp (atL l 15) s.x3
 r5 : Rp (atL l 20) s.z3
theorem one_R : Rp oneN 1 := ⟨⟨by decide,by decide,by decide,by decide,by decide⟩,rfl⟩
theorem nul_R : Rp nulN 0 := ⟨⟨by decide,by decide,by decide,by decide,by decide⟩,rfl⟩
theorem kN_R : Rp kN 121665 := ⟨⟨by decide,by decide,by decide,by decide,by decide⟩,rfl⟩
theorem inv_R {n : N5} {v : Nat} (h : Rp n v) : ∀ k,Rp (invN n k) (invV v k)
 | 0 => one_R
 | k + 1 => by
  have ih := Rp_re5 (inv_R h k)
  by_cases c : k = 252 ∨ k = 250
  ·rw [invN,if_pos c,invV,if_pos c]
   exact tim_R ih ih
  ·rw [invN,if_neg c,invV,if_neg c]
   exact tim_R (Rp_re5 (tim_R ih ih)) (Rp_re5 h)
theorem at_mk0 (a b c d e : N5) : atL (mkS a b c d e) 0 = re5 a := rfl
theorem at_mk1 (a b c d e : N5) : atL (mkS a b c d e) 5 = re5 b := rfl
theorem at_mk2 (a b c d e : N5) : atL (mkS a b c d e) 10 = re5 c := rfl
theorem at_mk3 (a b c d e : N5) : atL (mkS a b c d e) 15 = re5 d := rfl
theorem at_mk4 (a b c d e : N5) : atL (mkS a b c d e) 20 = re5 e := rfl
theorem RL_mk {a b c d e : N5} {u : Nat} {s : L4} (h1 : Rp a u) (h2 : Rp b s.x2) (h3 : Rp c s.z2) (h4 : Rp d s.x3) (h5 : Rp e s.z3) : RL (mkS a b c d e) u s :=
 ⟨by rw [at_mk0]; exact Rp_re5 h1,by rw [at_mk1]; exact Rp_re5 h2,by rw [at_mk2]; exact Rp_re5 h3,by rw [at_mk3]; exact Rp_re5 h4,by rw [at_mk4]; exact Rp_re5 h5⟩
theorem RL_25 {l : N5} {u : Nat} {s : L4} (h : RL l u s) : RL (re25 l) u s := ⟨h.r1,h.r2,h.r3,h.r4,h.r5⟩
theorem step_R {l : N5} {u : Nat} {s : L4} (h : RL l u s) : RL (steL l) u (stepV u s) := by
 have a := Rp_re5 (pls_R h.r2 h.r3)
 have b := Rp_re5 (mns_R h.r2 h.r3)
 have c := Rp_re5 (pls_R h.r4 h.r5)
 have d := Rp_re5 (mns_R h.r4 h.r5)
 have da := Rp_re5 (tim_R d a)
 have cb := Rp_re5 (tim_R c b)
 have aa := Rp_re5 (tim_R a a)
 have bb := Rp_re5 (tim_R b b)
 have e := Rp_re5 (mns_R aa bb)
 have s1 := Rp_re5 (pls_R da cb)
 have t1 := Rp_re5 (mns_R da cb)
 unfold steL stS
 exact RL_mk h.r1 (tim_R aa bb) (tim_R e (Rp_re5 (pls_R aa (Rp_re5 (tim_R (Rp_re5 kN_R) e))))) (tim_R s1 s1) (tim_R h.r1 (Rp_re5 (tim_R t1 t1)))
theorem bitB_V (s : F8) (i : Nat) : bitB s i = if bitV s i then 1 else 0 := by
 unfold bitB bitV
 apply BitVec.eq_of_getLsbD_eq
 intro j hj
 rw [BitVec.getLsbD_and]
 by_cases h : j = 0
 ·subst h
  have hm : i % 8 < 64 := by omega
  cases hb : (s (i / 8)).getLsbD (i % 8) <;> simp [hb,hm]
 ·have : (1 : B64).getLsbD j = false := by
   have := BitVec.getLsbD_one (w := 64) (i := j)
   simp [h]
  rw [this]
  cases (s (i / 8)).getLsbD (i % 8) <;> simp [h]
theorem swa_at (l : N5) (b : B64) : atL (swaL l b) 0 = re5 (atL l 0)∧atL (swaL l b) 5 = re5 (choL (atL l 5) (atL l 15) b)∧atL (swaL l b) 10 = re5 (choL (atL l 10) (atL l 20) b)∧atL (swaL l b) 15 = re5 (choL (atL l 15) (atL l 5) b)∧atL (swaL l b) 20 = re5 (choL (atL l 20) (atL l 10) b) := ⟨rfl,rfl,rfl,rfl,rfl⟩
theorem swap_R {l : N5} {u : Nat} {s : L4} (h : RL l u s) (b : Bool) : RL (swaL l (if b then 1 else 0)) u (swapV b s) := by
 cases b
 ·obtain ⟨a0,a1,a2,a3,a4⟩ := swa_at l 0
  have c : ∀ x y : N5,choL x y 0 = x := fun x y => funext fun i => cho0 x y i
  refine ⟨?_,?_,?_,?_,?_⟩
  ·show Rp (atL (swaL l 0) 0) u; rw [a0]; exact Rp_re5 h.r1
  ·show Rp (atL (swaL l 0) 5) s.x2; rw [a1,c]; exact Rp_re5 h.r2
  ·show Rp (atL (swaL l 0) 10) s.z2; rw [a2,c]; exact Rp_re5 h.r3
  ·show Rp (atL (swaL l 0) 15) s.x3; rw [a3,c]; exact Rp_re5 h.r4
  ·show Rp (atL (swaL l 0) 20) s.z3; rw [a4,c]; exact Rp_re5 h.r5
 ·obtain ⟨a0,a1,a2,a3,a4⟩ := swa_at l 1
  have c : ∀ x y : N5,choL x y 1 = y := fun x y => funext fun i => cho1 x y i
  refine ⟨?_,?_,?_,?_,?_⟩
  ·show Rp (atL (swaL l 1) 0) u; rw [a0]; exact Rp_re5 h.r1
  ·show Rp (atL (swaL l 1) 5) s.x3; rw [a1,c]; exact Rp_re5 h.r4
  ·show Rp (atL (swaL l 1) 10) s.z3; rw [a2,c]; exact Rp_re5 h.r5
  ·show Rp (atL (swaL l 1) 15) s.x2; rw [a3,c]; exact Rp_re5 h.r2
  ·show Rp (atL (swaL l 1) 20) s.z2; rw [a4,c]; exact Rp_re5 h.r3
theorem lad_R (s : F8) {un : N5} {u : Nat} (h : Rp un u) : ∀ k,RL (ladN s un k) u (ladV s u k)
 | 0 => RL_mk (s := ⟨1,0,u,1⟩) h one_R nul_R h one_R
 | k + 1 => by
  have ih := RL_25 (lad_R s h k)
  rw [ladN,ladV,bitB_V]
  exact swap_R (RL_25 (step_R (RL_25 (swap_R ih _)))) _
theorem out_R (s : F8) {un : N5} {u : Nat} (h : Rp un u) : Rp (outN (ladN s un 255)) (shV s u) := by
 have hl := lad_R s h 255
 unfold outN
 exact tim_R hl.r2 (Rp_re5 (inv_R hl.r3 255))
theorem bytS_congr {a b : N5} (h : ∀ i,i < 5→a i = b i) : ∀ k,k≤255→bytS a k = bytS b k
 | 0,_ => rfl
 | k + 1,hk => by
  have e : bitN a k = bitN b k := by unfold bitN; rw [h (k / 51) (by omega)]
  funext j
  rw [bytS,bytS,bytS_congr h k (by omega),e]
theorem shr_V (s p : F8) {u : Nat} (h : Rp (numSq p 255) u) : shrB s p = bytS (limL (shV (claL s) u)) 255 := by
 have r := Rp_re5 (out_R (claL s) h)
 obtain ⟨e0,e1,e2,e3,e4⟩ := lea_R r
 unfold shrB
 refine bytS_congr (fun i hi => ?_) 255 (Nat.le_refl _)
 rcases i with _ | _ | _ | _ | _ | i
 ·exact e0
 ·exact e1
 ·exact e2
 ·exact e3
 ·exact e4
 ·omega
end Go.Spec
