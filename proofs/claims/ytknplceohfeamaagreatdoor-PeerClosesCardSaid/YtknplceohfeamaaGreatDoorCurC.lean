/- What is shared: the call of the program; by numbers. -/
import Derived.Test.YtknplceohfeamaaGreatDoorCurB
set_option linter.unusedVariables false
set_option linter.unusedSimpArgs false
namespace Go.Sym
open Go.Proofs Go.Spec
set_option maxRecDepth 100000 in
theorem vshr (s p z : F8) (q : Bool) : bg V7 [] [(5,m1k s p)] Tryz.f161 0 [aggB 32 s,aggB 32 p] [] ⟨[],.tup [aggB 32 z,.bool q],[],[]⟩ = (
let x1 := fun (i : Nat) => (rg 32 p).getD i (0 : BitVec 8); (∃ (x : Nat),x.le 255/\0 = 0/\Bool.false = Bool.false/\0 = 0/\0 = 0/\(254 : Int) - (↑x : Int) = (254 : Int)/\zG (fun (i : Nat) => (0 : BitVec 8) = BitVec.ofNat 8 0) 0 32 (zG (fun (i : Nat) => claL s i = claL (fun (i : Nat) => (rg 32 s).getD i (0 : BitVec 8)) i) 0 32 (ladN (claL s) (numSq p 255) x 0 = numSq x1 255 0/\ladN (claL s) (numSq p 255) x 1 = numSq x1 255 1/\ladN (claL s) (numSq p 255) x 2 = numSq x1 255 2/\ladN (claL s) (numSq p 255) x 3 = numSq x1 255 3/\ladN (claL s) (numSq p 255) x 4 = numSq x1 255 4/\ladN (claL s) (numSq p 255) x 5 = BitVec.ofNat 64 1/\zG (fun (i : Nat) => ladN (claL s) (numSq p 255) x i = BitVec.ofNat 64 0) 6 9 (ladN (claL s) (numSq p 255) x 15 = numSq x1 255 0/\ladN (claL s) (numSq p 255) x 16 = numSq x1 255 1/\ladN (claL s) (numSq p 255) x 17 = numSq x1 255 2/\ladN (claL s) (numSq p 255) x 18 = numSq x1 255 3/\ladN (claL s) (numSq p 255) x 19 = numSq x1 255 4/\ladN (claL s) (numSq p 255) x 20 = BitVec.ofNat 64 1/\ladN (claL s) (numSq p 255) x 21 = BitVec.ofNat 64 0/\ladN (claL s) (numSq p 255) x 22 = BitVec.ofNat 64 0/\ladN (claL s) (numSq p 255) x 23 = BitVec.ofNat 64 0/\ladN (claL s) (numSq p 255) x 24 = BitVec.ofNat 64 0/\True))))/\∀ (x : Nat),let x1 := fun (i : Nat) => [xC (fun (i : Nat) => [ladN (claL s) (numSq p 255) x 10,ladN (claL s) (numSq p 255) x 11,ladN (claL s) (numSq p 255) x 12,ladN (claL s) (numSq p 255) x 13,ladN (claL s) (numSq p 255) x 14].getD i (0 : yP)) 255 0,xC (fun (i : Nat) => [ladN (claL s) (numSq p 255) x 10,ladN (claL s) (numSq p 255) x 11,ladN (claL s) (numSq p 255) x 12,ladN (claL s) (numSq p 255) x 13,ladN (claL s) (numSq p 255) x 14].getD i (0 : yP)) 255 1,xC (fun (i : Nat) => [ladN (claL s) (numSq p 255) x 10,ladN (claL s) (numSq p 255) x 11,ladN (claL s) (numSq p 255) x 12,ladN (claL s) (numSq p 255) x 13,ladN (claL s) (numSq p 255) x 14].getD i (0 : yP)) 255 2,xC (fun (i : Nat) => [ladN (claL s) (numSq p 255) x 10,ladN (claL s) (numSq p 255) x 11,ladN (claL s) (numSq p 255) x 12,ladN (claL s) (numSq p 255) x 13,ladN (claL s) (numSq p 255) x 14].getD i (0 : yP)) 255 3,xC (fun (i : Nat) => [ladN (claL s) (numSq p 255) x 10,ladN (claL s) (numSq p 255) x 11,ladN (claL s) (numSq p 255) x 12,ladN (claL s) (numSq p 255) x 13,ladN (claL s) (numSq p 255) x 14].getD i (0 : yP)) 255 4].getD i (0 : yP); let x2 := fun (i : Nat) => [ladN (claL s) (numSq p 255) x 5,ladN (claL s) (numSq p 255) x 6,ladN (claL s) (numSq p 255) x 7,ladN (claL s) (numSq p 255) x 8,ladN (claL s) (numSq p 255) x 9].getD i (0 : yP); let x3 := yW fun (i : Nat) => [zF x2 x1 0,zF x2 x1 1,zF x2 x1 2,zF x2 x1 3,zF x2 x1 4].getD i (0 : yP); let x4 := BitVec.setWidth 64 ((rg 32 (claL s)).getD (IntKind.i64.wrap (((254 : Int) - (↑x : Int)).tdiv (8 : Int))).toNat (0 : BitVec 8) >>> (((254 : Int) - (↑x : Int)).tmod (8 : Int)).toNat) &&& BitVec.ofNat 64 1; x.le 255->@Bool.rec (fun _ => Prop) (zG (fun (i : Nat) => z i = vT x3 255 i) 0 32 (q = !xM (fun (i : Nat) => decide (vT x3 255 i = BitVec.ofNat 8 0)) 0 32 Bool.true/\True)) ((0 : Int)<=IntKind.i64.wrap (((254 : Int) - (↑x : Int)).tdiv (8 : Int))/\(IntKind.i64.wrap (((254 : Int) - (↑x : Int)).tdiv (8 : Int))).toNat < 32/\(IntKind.i64.wrap (((254 : Int) - (↑x : Int)).tdiv (8 : Int))).toNat < (rg 32 (claL s)).length/\(0 : Int)<=((254 : Int) - (↑x : Int)).tmod (8 : Int)/\∃ (y : Nat),255 - y < 255 - x/\y.le 255/\0 = 0/\Bool.false = Bool.false/\0 = 0/\0 = 0/\(254 : Int) - (↑y : Int) = IntKind.i64.wrap ((254 : Int) - (↑x : Int) - (1 : Int))/\zG (fun (i : Nat) => (0 : BitVec 8) = (0 : BitVec 8)) 0 32 (zG (fun (i : Nat) => claL s i = claL s i) 0 32 (zG (fun (i : Nat) => ladN (claL s) (numSq p 255) y i = swaL (fun (i : Nat) => (rg 25 (steL fun (i : Nat) => (rg 25 (swaL (fun (i : Nat) => (rg 25 (ladN (claL s) (numSq p 255) x)).getD i (0 : yP)) x4)).getD i (0 : yP))).getD i (0 : yP)) x4 i) 0 25 True))) (decide ((0 : Int)<=(254 : Int) - (↑x : Int))) : Prop) := by kernel_rfl
end Go.Sym
namespace Go.Spec
open Go.Sym
theorem aY {a b : F8} (h : ∀ i,i < 32->a i = b i) : ∀ k,k<=255->numSq a k = numSq b k
 | 0,_ => rfl
 | k + 1,hk => by
  have e : bX a k = bX b k := by unfold bX; rw [h (k / 8) (by omega)]
  funext j
  rw [numSq,numSq,aY h k (by omega),e]
noncomputable def eR (s p : F8) : F8 := mQ (D6 s p)
theorem D7 (s p : F8) : eR s p = D6 s p := vQ _
def okB (f : F8) : Bool := !xM (fun i => decide (f i = BitVec.ofNat 8 0)) 0 32 true
end Go.Spec
namespace Go.Sym
open Go.Proofs Go.Spec
theorem one0 : xB 0 = BitVec.ofNat 64 1 := rfl
theorem g8 (i : Nat) (h : 0 < i) : xB i = BitVec.ofNat 64 0 := by unfold xB; rw [if_neg (by omega)]
theorem fz2 (L : N5) : (fun i => [L 5,L 6,L 7,L 8,L 9].getD i (0 : yP)) = uC L 5 := rfl
theorem fz0 (L : N5) : (fun i => [L 10,L 11,L 12,L 13,L 14].getD i (0 : yP)) = uC L 10 := rfl
theorem fz5 (f : N5) : (fun i => [f 0,f 1,f 2,f 3,f 4].getD i (0 : yP)) = yK f := rfl
theorem fzI (L : N5) : (fun i => [xC (fun i => [L 10,L 11,L 12,L 13,L 14].getD i (0 : yP)) 255 0,xC (fun i => [L 10,L 11,L 12,L 13,L 14].getD i (0 : yP)) 255 1,xC (fun i => [L 10,L 11,L 12,L 13,L 14].getD i (0 : yP)) 255 2,xC (fun i => [L 10,L 11,L 12,L 13,L 14].getD i (0 : yP)) 255 3,xC (fun i => [L 10,L 11,L 12,L 13,L 14].getD i (0 : yP)) 255 4].getD i (0 : yP)) = yK (xC (uC L 10) 255) := by
 rw [fz0 L]
 exact fz5 _
theorem fr25 (L : N5) : (fun i => (rg 25 L).getD i (0 : yP)) = cF L := rfl
theorem x2j (s : F8) (u : N5) (k : Nat) : ladN s u (k + 1) = swaL (cF (steL (cF (swaL (cF (ladN s u k)) (bX s (254 - k)))))) (bX s (254 - k)) := by rw [ladN]
set_option maxRecDepth 100000 in
theorem bshr (s p : F8) : Must (bg V7 [] [(5,m1k s p)] Tryz.f161 0 [aggB 32 s,aggB 32 p] [] ⟨[],.tup [aggB 32 (D6 s p),.bool (okB (D6 s p))],[],[]⟩) := by
 constructor
 rw [vshr]
 intro x1
 have hx1 : numSq x1 255 = numSq p 255 := aY (fun i hi => rgG p 0 i 32 hi) 255 (Nat.le_refl _)
 clear_value x1
 have hu : D6 s p = vT (yW (yK (V9 (ladN (claL s) (numSq p 255) 255)))) 255 := rfl
 have hsc : ∀ i,i < 32->claL s i = claL (fun i => (rg 32 s).getD i (0 : BitVec 8)) i := by
  intro i hi
  unfold claL
  dsimp only
  rw [rgG s 0 0 32 (by omega),rgG s 0 31 32 (by omega),rgG s 0 i 32 (by omega)]
 generalize claL s = sc at *
 generalize numSq p 255 = u at *
 refine ⟨⟨0,Nat.zero_le _,rfl,rfl,rfl,rfl,rfl,wQ _ _ (fun _ _ _ => rfl) (wQ _ _ (fun i _ hi => hsc i (by omega)) ?_)⟩,?_⟩
 ·rw [hx1]
  have hl : ladN sc u 0 = Go.Spec.mkS u xB uL u xB := rfl
  rw [hl]
  refine ⟨Go.Spec.mkS_0 u xB uL u xB,Go.Spec.mkS_1 u xB uL u xB,Go.Spec.mkS_2 u xB uL u xB,Go.Spec.mkS_3 u xB uL u xB,Go.Spec.mkS_4 u xB uL u xB,(Go.Spec.mkS_5 u xB uL u xB).trans one0,wQ _ _ (fun i h1 h2 => ?_) ⟨Go.Spec.mkS_15 u xB uL u xB,Go.Spec.mkS_16 u xB uL u xB,Go.Spec.mkS_17 u xB uL u xB,Go.Spec.mkS_18 u xB uL u xB,Go.Spec.mkS_19 u xB uL u xB,(Go.Spec.mkS_20 u xB uL u xB).trans one0,(Go.Spec.mkS_21 u xB uL u xB).trans (g8 1 (by omega)),(Go.Spec.mkS_22 u xB uL u xB).trans (g8 2 (by omega)),(Go.Spec.mkS_23 u xB uL u xB).trans (g8 3 (by omega)),(Go.Spec.mkS_24 u xB uL u xB).trans (g8 4 (by omega)),trivial⟩⟩
  have : i = 6 \/ i = 7 \/ i = 8 \/ i = 9 \/ i = 10 \/ i = 11 \/ i = 12 \/ i = 13 \/ i = 14 := by omega
  rcases this with rfl | rfl | rfl | rfl | rfl | rfl | rfl | rfl | rfl
  ·exact (Go.Spec.mkS_6 u xB uL u xB).trans (g8 1 (by omega))
  ·exact (Go.Spec.mkS_7 u xB uL u xB).trans (g8 2 (by omega))
  ·exact (Go.Spec.mkS_8 u xB uL u xB).trans (g8 3 (by omega))
  ·exact (Go.Spec.mkS_9 u xB uL u xB).trans (g8 4 (by omega))
  ·exact Go.Spec.mkS_10 u xB uL u xB
  ·exact Go.Spec.mkS_11 u xB uL u xB
  ·exact Go.Spec.mkS_12 u xB uL u xB
  ·exact Go.Spec.mkS_13 u xB uL u xB
  ·exact Go.Spec.mkS_14 u xB uL u xB
 ·intro k z1 z2 z3 z4 hk
  have hk : k<=255 := hk
  have hz2 : z2 = uC (ladN sc u k) 5 := fz2 _
  have hz1 : z1 = yK (xC (uC (ladN sc u k) 10) 255) := fzI _
  have hz3 : z3 = yW (yK (zF z2 z1)) := congrArg yW (fz5 (zF z2 z1))
  clear_value z1 z2 z3
  refine yE (fun d => ?_) (fun d => ?_)
  ·have d : (0 : Int)<=254 - (k : Int) := of_decide_eq_true d
   obtain ⟨a1,a2⟩ := dvw (254 - k) 8 (by omega) (by omega)
   have c1 : (254 : Int) - (k : Int) = ((254 - k : Nat) : Int) := by omega
   have m8 : ((254 - k : Nat) : Int).tmod 8 = (((254 - k) % 8 : Nat) : Int) := rfl
   have a1 : (IntKind.i64.wrap (((254 - k : Nat) : Int).tdiv 8)).toNat = (254 - k) / 8 := a1
   have hz4 : z4 = bX sc (254 - k) := by
    show BitVec.setWidth 64 ((rg 32 sc).getD (IntKind.i64.wrap (((254 : Int) - (k : Int)).tdiv 8)).toNat (0 : BitVec 8) >>> (((254 : Int) - (k : Int)).tmod 8).toNat) &&& BitVec.ofNat 64 1 = _
    rw [c1,m8,a1,Int.toNat_natCast,rgG sc 0 ((254 - k) / 8) 32 (by omega)]
    rfl
   clear_value z4
   have e : ladN sc u (k + 1) = swaL (cF (steL (cF (swaL (cF (ladN sc u k)) z4)))) z4 := by rw [hz4]; exact x2j sc u k
   have w : (254 : Int) - ((k + 1 : Nat) : Int) = IntKind.i64.wrap (254 - (k : Int) - 1) := by rw [wK (by omega) (by omega)]; omega
   rw [wM]
   refine ⟨by rw [c1]; exact a2,by rw [c1,a1]; omega,by rw [c1,a1]; omega,by rw [c1,m8]; exact Int.natCast_nonneg _,k + 1,by omega,(by show k + 1<=255; omega),rfl,rfl,rfl,rfl,w,wQ _ _ (fun _ _ _ => rfl) (wQ _ _ (fun _ _ _ => rfl) (wQ _ _ (fun i _ _ => ?_) trivial))⟩
   rw [e]
   generalize ladN sc u k = L
   have r1 := fr25 L
   rw [r1]
   generalize swaL (cF L) z4 = M
   have r2 := fr25 M
   rw [r2]
   generalize steL (cF M) = N
   have r3 := fr25 N
   rw [r3]
  ·have d : ¬ (0 : Int)<=254 - (k : Int) := of_decide_eq_false d
   obtain rfl : k = 255 := by omega
   have e : z3 = yW (yK (V9 (ladN sc u 255))) := by rw [hz3,hz2,hz1,V9]
   rw [hu,<- e]
   exact wQ _ _ (fun _ _ _ => rfl) ⟨rfl,trivial⟩
noncomputable def gShr (xs : List AV) : TL := match xs with | [.agg cs,.agg ds] => bE 32 cs fun s => bE 32 ds fun p => .ok (rt (.tup [aggB 32 (eR s p),.bool (okB (eR s p))])) | _ => .no
theorem cshr : COK Tryz.prog gl0 161 (mkF (qL 2 gShr)) := by
 refine yY (fn := Tryz.f161) [] 3000 (by kernel_rfl) (by kernel_rfl) (okV6.withSym [27,28]) (by kernel_rfl) (fun args w => by kernel_rfl) fun xs bs r hs ho => ?_
 obtain ⟨rfl,hs0⟩ := yS hs
 clear hs
 rename (TL.sel _ = _) => hs
 unfold gShr at hs
 split at hs
 ·obtain ⟨x,e,hs⟩ := yZ hs
  obtain ⟨y,e2,hs⟩ := yZ hs
  simp only [TL.sel,Option.some.injEq] at hs
  subst hs
  rw [e,e2]
  rw [D7]
  exact ⟨_,bshr x y⟩
 ·simp [TL.sel] at hs
noncomputable def V8 : Ctx := V0.add 161 (mkF (qL 2 gShr))
theorem okV8 : COKs Tryz.prog gl0 V8 := okV0.add cshr
end Go.Sym
namespace Go.Spec
open Go.Sym
def fA (a b : Nat) : Nat := (a + b) % PZ
def fS (a b : Nat) : Nat := (a + (PZ - b)) % PZ
def fM (a b : Nat) : Nat := a * b % PZ
def fT (v : Nat) : Nat->Nat
 | 0 => 1
 | k + 1 => if k = 252 \/ k = 250 then fM (fT v k) (fT v k) else fM (fM (fT v k) (fT v k)) v
structure L4 where
 x2 : Nat
 z2 : Nat
 x3 : Nat
 z3 : Nat
def sM (u : Nat) (s : L4) : L4 :=
  ⟨fM (fM (fA s.x2 s.z2) (fA s.x2 s.z2)) (fM (fS s.x2 s.z2) (fS s.x2 s.z2)),
   fM (fS (fM (fA s.x2 s.z2) (fA s.x2 s.z2)) (fM (fS s.x2 s.z2) (fS s.x2 s.z2))) (fA (fM (fA s.x2 s.z2) (fA s.x2 s.z2)) (fM 121665 (fS (fM (fA s.x2 s.z2) (fA s.x2 s.z2)) (fM (fS s.x2 s.z2) (fS s.x2 s.z2))))),
   fM (fA (fM (fS s.x3 s.z3) (fA s.x2 s.z2)) (fM (fA s.x3 s.z3) (fS s.x2 s.z2))) (fA (fM (fS s.x3 s.z3) (fA s.x2 s.z2)) (fM (fA s.x3 s.z3) (fS s.x2 s.z2))),
   fM u (fM (fS (fM (fS s.x3 s.z3) (fA s.x2 s.z2)) (fM (fA s.x3 s.z3) (fS s.x2 s.z2))) (fS (fM (fS s.x3 s.z3) (fA s.x2 s.z2)) (fM (fA s.x3 s.z3) (fS s.x2 s.z2))))⟩
def M6 (b : Bool) (s : L4) : L4 := match b with | true => ⟨s.x3,s.z3,s.x2,s.z2⟩ | false => s
def mO (s : F8) (i : Nat) : Bool := (s (i / 8)).getLsbD (i % 8)
def aZ (s : F8) (u : Nat) : Nat->L4
 | 0 => ⟨1,0,u,1⟩
 | k + 1 => M6 (mO s (254 - k)) (sM u (M6 (mO s (254 - k)) (aZ s u k)))
def shV (s : F8) (u : Nat) : Nat := fM (aZ s u 255).x2 (fT (aZ s u 255).z2 255)
structure RL (l : N5) (u : Nat) (s : L4) : Prop where
 r1 : Rp (uC l 0) u
 r2 : Rp (uC l 5) s.x2
 r3 : Rp (uC l 10) s.z2
 r4 : Rp (uC l 15) s.x3
 r5 : Rp (uC l 20) s.z3
theorem b0q : Rp xB 1 := ⟨⟨by decide,by decide,by decide,by decide,by decide⟩,rfl⟩
theorem nul_R : Rp uL 0 := ⟨⟨by decide,by decide,by decide,by decide,by decide⟩,rfl⟩
theorem kN_R : Rp kN 121665 := ⟨⟨by decide,by decide,by decide,by decide,by decide⟩,rfl⟩
theorem h1k {n : N5} {v : Nat} (h : Rp n v) : ∀ k,Rp (xC n k) (fT v k)
 | 0 => b0q
 | k + 1 => by
  have ih := yL (h1k h k)
  by_cases c : k = 252 \/ k = 250
  ·rw [xC,if_pos c,fT,if_pos c]
   exact jY ih ih
  ·rw [xC,if_neg c,fT,if_neg c]
   exact jY (yL (jY ih ih)) (yL h)
theorem w2j (a b c d e : N5) : uC (mkS a b c d e) 0 = yK a := rfl
theorem v2j (a b c d e : N5) : uC (mkS a b c d e) 5 = yK b := rfl
theorem u2j (a b c d e : N5) : uC (mkS a b c d e) 10 = yK c := rfl
theorem k2j (a b c d e : N5) : uC (mkS a b c d e) 15 = yK d := rfl
theorem j2j (a b c d e : N5) : uC (mkS a b c d e) 20 = yK e := rfl
theorem g1k {a b c d e : N5} {u : Nat} {s : L4} (h1 : Rp a u) (h2 : Rp b s.x2) (h3 : Rp c s.z2) (h4 : Rp d s.x3) (h5 : Rp e s.z3) : RL (mkS a b c d e) u s :=
 ⟨by rw [w2j]; exact yL h1,by rw [v2j]; exact yL h2,by rw [u2j]; exact yL h3,by rw [k2j]; exact yL h4,by rw [j2j]; exact yL h5⟩
theorem a0q {l : N5} {u : Nat} {s : L4} (h : RL l u s) : RL (cF l) u s := ⟨h.r1,h.r2,h.r3,h.r4,h.r5⟩
theorem q2j {l : N5} {u : Nat} {s : L4} (h : RL l u s) : RL (steL l) u (sM u s) := by
 have a := yL (K8 h.r2 h.r3)
 have b := yL (K9 h.r2 h.r3)
 have c := yL (K8 h.r4 h.r5)
 have d := yL (K9 h.r4 h.r5)
 have da := yL (jY d a)
 have cb := yL (jY c b)
 have aa := yL (jY a a)
 have bb := yL (jY b b)
 have e := yL (K9 aa bb)
 have s1 := yL (K8 da cb)
 have t1 := yL (K9 da cb)
 unfold steL stS
 exact g1k h.r1 (jY aa bb) (jY e (yL (K8 aa (yL (jY (yL kN_R) e))))) (jY s1 s1) (jY h.r1 (yL (jY t1 t1)))
theorem D8 (s : F8) (i : Nat) : bX s i = if mO s i then 1 else 0 := by
 unfold bX mO
 apply BitVec.eq_of_getLsbD_eq
 intro j hj
 rw [BitVec.getLsbD_and]
 by_cases h : j = 0
 ·subst h
  have hm : i % 8 < 64 := by omega
  cases hb : (s (i / 8)).getLsbD (i % 8) <;> simp [hb,hm]
 ·have : (1 : yP).getLsbD j = false := by
   have := BitVec.getLsbD_one (w := 64) (i := j)
   simp [h]
  rw [this]
  cases (s (i / 8)).getLsbD (i % 8) <;> simp [h]
theorem z0z (l : N5) (b : yP) : uC (swaL l b) 0 = yK (uC l 0)/\uC (swaL l b) 5 = yK (jK (uC l 5) (uC l 15) b)/\uC (swaL l b) 10 = yK (jK (uC l 10) (uC l 20) b)/\uC (swaL l b) 15 = yK (jK (uC l 15) (uC l 5) b)/\uC (swaL l b) 20 = yK (jK (uC l 20) (uC l 10) b) := ⟨rfl,rfl,rfl,rfl,rfl⟩
theorem y0z {l : N5} {u : Nat} {s : L4} (h : RL l u s) (b : Bool) : RL (swaL l (if b then 1 else 0)) u (M6 b s) := by
 cases b
 ·obtain ⟨a0,a1,a2,a3,a4⟩ := z0z l 0
  have c : ∀ x y : N5,jK x y 0 = x := fun x y => funext fun i => U8 x y i
  refine ⟨?_,?_,?_,?_,?_⟩
  ·show Rp (uC (swaL l 0) 0) u; rw [a0]; exact yL h.r1
  ·show Rp (uC (swaL l 0) 5) s.x2; rw [a1,c]; exact yL h.r2
  ·show Rp (uC (swaL l 0) 10) s.z2; rw [a2,c]; exact yL h.r3
  ·show Rp (uC (swaL l 0) 15) s.x3; rw [a3,c]; exact yL h.r4
  ·show Rp (uC (swaL l 0) 20) s.z3; rw [a4,c]; exact yL h.r5
 ·obtain ⟨a0,a1,a2,a3,a4⟩ := z0z l 1
  have c : ∀ x y : N5,jK x y 1 = y := fun x y => funext fun i => U9 x y i
  refine ⟨?_,?_,?_,?_,?_⟩
  ·show Rp (uC (swaL l 1) 0) u; rw [a0]; exact yL h.r1
  ·show Rp (uC (swaL l 1) 5) s.x3; rw [a1,c]; exact yL h.r4
  ·show Rp (uC (swaL l 1) 10) s.z3; rw [a2,c]; exact yL h.r5
  ·show Rp (uC (swaL l 1) 15) s.x2; rw [a3,c]; exact yL h.r2
  ·show Rp (uC (swaL l 1) 20) s.z2; rw [a4,c]; exact yL h.r3
theorem f1k (s : F8) {un : N5} {u : Nat} (h : Rp un u) : ∀ k,RL (ladN s un k) u (aZ s u k)
 | 0 => g1k (s := ⟨1,0,u,1⟩) h b0q nul_R h b0q
 | k + 1 => by
  have ih := a0q (f1k s h k)
  rw [ladN,aZ,D8]
  exact y0z (a0q (q2j (a0q (y0z ih _)))) _
theorem out_R (s : F8) {un : N5} {u : Nat} (h : Rp un u) : Rp (V9 (ladN s un 255)) (shV s u) := by
 have hl := f1k s h 255
 unfold V9
 exact jY hl.r2 (yL (h1k hl.r3 255))
theorem pA {a b : N5} (h : ∀ i,i < 5->a i = b i) : ∀ k,k<=255->vT a k = vT b k
 | 0,_ => rfl
 | k + 1,hk => by
  have e : D5 a k = D5 b k := by unfold D5; rw [h (k / 51) (by omega)]
  funext j
  rw [vT,vT,pA h k (by omega),e]
theorem shr_V (s p : F8) {u : Nat} (h : Rp (numSq p 255) u) : D6 s p = vT (nP (shV (claL s) u)) 255 := by
 have r := yL (out_R (claL s) h)
 obtain ⟨e0,e1,e2,e3,e4⟩ := lea_R r
 unfold D6
 refine pA (fun i hi => ?_) 255 (Nat.le_refl _)
 rcases i with _ | _ | _ | _ | _ | i
 ·exact e0
 ·exact e1
 ·exact e2
 ·exact e3
 ·exact e4
 ·omega
end Go.Spec
