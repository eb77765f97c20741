/- The ladder by points: what is shared is the point so many times. -/
import Derived.Test.YtknplceohfeamaaGreatDoorCurE
import Derived.Test.YtknplceohfeamaaGreatDoorCurC
set_option linter.unusedVariables false
set_option linter.unusedSimpArgs false
namespace Go.Num
open Go.Spec Go.Sym
instance : NeZero PZ := ⟨by decide⟩
abbrev K := Fin PZ
theorem prZ : Pr PZ := prP
def kk (a : Nat) : K := Fin.ofNat PZ a
theorem kk_M (a b : Nat) : kk (fM a b) = kk a * kk b := by
 apply Fin.ext
 simp only [kk,fM,Fin.val_mul,Fin.val_ofNat,Nat.mod_mod,Nat.mul_mod_mod,Nat.mod_mul_mod]
theorem kk_A (a b : Nat) : kk (fA a b) = kk a + kk b := by
 apply Fin.ext
 simp only [kk,fA,Fin.val_add,Fin.val_ofNat,Nat.mod_mod,Nat.add_mod_mod,Nat.mod_add_mod]
theorem q0z {a b : Nat} (hb : b < PZ) : kk (fS a b) = kk a - kk b := by
 apply Fin.ext
 simp only [kk,fS,Fin.sub_def,Fin.val_ofNat,Nat.mod_mod]
 rw [Nat.mod_eq_of_lt hb,Nat.add_comm a,Nat.add_mod_mod]
theorem d2j {a b : Nat} (ha : a < PZ) (hb : b < PZ) (h : kk a = kk b) : a = b := by
 have := congrArg Fin.val h
 simp only [kk,Fin.val_ofNat] at this
 rwa [Nat.mod_eq_of_lt ha,Nat.mod_eq_of_lt hb] at this
theorem n0z (x : K) : kk x.val = x := by
 apply Fin.ext
 simp only [kk,Fin.val_ofNat]
 exact Nat.mod_eq_of_lt x.isLt
theorem pD (a b : Nat) : fM a b < PZ := Nat.mod_lt _ (by decide)
def exV : Nat->Nat
 | 0 => 0
 | k + 1 => if k = 252 \/ k = 250 then 2 * exV k else 2 * exV k + 1
theorem O3 (v : Nat) : ∀ k,fT v k % PZ = v ^ exV k % PZ
 | 0 => rfl
 | k + 1 => by
  have ih := O3 v k
  by_cases c : k = 252 \/ k = 250
  ·rw [fT,if_pos c,exV,if_pos c,fM,Nat.mod_mod,Nat.mul_mod,ih,<- Nat.mul_mod,<- Nat.pow_add,Nat.two_mul]
  ·rw [fT,if_neg c,exV,if_neg c,fM,fM,Nat.mod_mod,Nat.mod_mul_mod,Nat.pow_succ,Nat.two_mul,Nat.pow_add]
   rw [Nat.mul_mod,Nat.mul_mod (fT v k),ih,<- Nat.mul_mod (v ^ exV k),<- Nat.mul_mod]
theorem exV_p : exV 255 = PZ - 2 := by decide +kernel
theorem O4 {v : Nat} (h : kk v ≠ 0) : kk v * kk (fT v 255) = 1 := by
 have d : ¬ PZ ∣ v := by
  rintro ⟨q,rfl⟩
  apply h
  apply Fin.ext
  simp [kk]
 have f := E1 prZ d
 apply Fin.ext
 have e := O3 v 255
 rw [exV_p] at e
 simp only [kk,Fin.val_mul,Fin.val_ofNat]
 rw [<- Nat.mul_mod,Nat.mul_mod,e,<- Nat.mul_mod,Nat.mul_comm,<- Nat.pow_succ]
 exact f
theorem k_inv (x : K) (h : x ≠ 0) : ∃ y,x * y = 1 := ⟨kk (fT x.val 255),by
 have := O4 (v := x.val) (by rw [n0z]; exact h)
 rwa [n0z] at this⟩
def kc : K := kk 20800338683988658368647408995589388737092878452977063003340006470870624536394
theorem n1q : pw PZ 255 20800338683988658368647408995589388737092878452977063003340006470870624536394 ((PZ - 1) / 2) = PZ - 1 := by decide +kernel
theorem kc_ns (s : K) : kc ≠ s * s := by
 intro h
 have e := iG PZ 255 20800338683988658368647408995589388737092878452977063003340006470870624536394 ((PZ - 1) / 2) (by decide)
 rw [n1q] at e
 have hv := congrArg Fin.val h
 simp only [kc,kk,Fin.val_mul,Fin.val_ofNat] at hv
 have q : 2 * ((PZ - 1) / 2) = PZ - 1 := by decide
 have e2 : s.val ^ (2 * ((PZ - 1) / 2)) % PZ = 20800338683988658368647408995589388737092878452977063003340006470870624536394 ^ ((PZ - 1) / 2) % PZ := by
  rw [Nat.pow_mul,Nat.pow_two,Nat.pow_mod,<- hv,<- Nat.pow_mod]
 rw [q,<- e] at e2
 by_cases d : PZ ∣ s.val
 ·rw [Nat.pow_mod,Nat.mod_eq_zero_of_dvd d,Nat.zero_pow (by decide)] at e2
  exact absurd e2 (by decide)
 ·rw [E1 prZ d] at e2
  exact absurd e2 (by decide)
theorem kEd : Ed kc := ⟨k_inv,by decide,kc_ns⟩
theorem kMo : Mo kc := ⟨kEd,by decide +kernel,by decide +kernel⟩
structure LR (s : L4) (y1 y2 : K) : Prop where
 r1 : Rep (kk s.x2) (kk s.z2) y1
 r2 : Rep (kk s.x3) (kk s.z3) y2
def vl (s : F8) : Nat->Nat
 | 0 => 0
 | k + 1 => 2 * vl s k + (if mO s (254 - k) then 1 else 0)
structure Lt4 (s : L4) : Prop where
 a : s.x2 < PZ
 b : s.z2 < PZ
 c : s.x3 < PZ
 d : s.z3 < PZ
theorem iI {s : L4} (h : Lt4 s) (b : Bool) : Lt4 (M6 b s) := by
 cases b
 ·exact h
 ·exact ⟨h.c,h.d,h.a,h.b⟩
theorem m1q (u : Nat) (s : L4) : Lt4 (sM u s) := ⟨pD _ _,pD _ _,pD _ _,pD _ _⟩
theorem c2j (s : F8) {u : Nat} (hu : u < PZ) : ∀ k,Lt4 (aZ s u k)
 | 0 => ⟨show 1 < PZ by decide,show 0 < PZ by decide,hu,show 1 < PZ by decide⟩
 | k + 1 => iI (m1q u _) _
theorem O5 {s : L4} {u : Nat} {P Q S D : Pt kc} (hs : Lt4 s) (h : LR s P.y Q.y) (hS : add kEd P P = D) (hD : add kEd P Q = S) {yd : K} (d : yd * (1 + kc * P.x * Q.x * P.y * Q.y) = P.y * Q.y + P.x * Q.x) (hu : kk u * (1 - yd) = 1 + yd) (u0 : kk u ≠ 0) (d0 : 1 - yd ≠ 0) : LR (sM u s) D.y S.y := by
 have s1 := (uW kEd P P).sy
 have s2 := (uW kEd P Q).sy
 rw [hS] at s1
 rw [hD] at s2
 have a := dbl kMo P.on h.r1 s1
 have b := dad kEd P.on Q.on h.r1 h.r2 s2 d hu u0 d0
 have e2 : kk 121665 = 121665 := rfl
 refine ⟨?_,?_⟩
 ·simp only [sM,kk_M,kk_A,q0z hs.b,q0z (pD _ _),e2]
  exact a
 ·simp only [sM,kk_M,kk_A,q0z hs.b,q0z hs.d,q0z (pD _ _)]
  exact b
theorem neg_y {P Q S : Pt kc} (h : add kEd P Q = S) : Q.y * (1 + kc * P.x * S.x * P.y * S.y) = P.y * S.y + P.x * S.x := by
 have e : add kEd S P.neg = Q := by
  rw [<- h,add_comm,<- add_assoc,add_comm kEd P.neg P,v1q,eS]
 have k := (uW kEd S P.neg).sy
 rw [e] at k
 simp only [Pt.neg] at k
 grobner
theorem E5 (s : F8) {u : Nat} {P : Pt kc} (ul : u < PZ) (hu : kk u * (1 - P.y) = 1 + P.y) (u0 : kk u ≠ 0) (d0 : 1 - P.y ≠ 0) : ∀ k,LR (aZ s u k) (mul kEd P (vl s k)).y (mul kEd P (vl s k + 1)).y
 | 0 => by
  obtain ⟨half,hh⟩ := kEd.inv _ kEd.two
  obtain ⟨i,hi⟩ := kEd.inv _ d0
  have e0 : kk 0 = 0 := rfl
  have e1 : kk 1 = 1 := rfl
  refine ⟨⟨half,?_,?_,?_⟩,⟨i,?_,?_,?_⟩⟩
  ·rintro rfl
   apply kEd.one
   grobner
  ·show kk 1 = half * (1 + 1)
   rw [e1]
   grobner
  ·show kk 0 = half * (1 - 1)
   rw [e0]
   grobner
  ·rintro rfl
   apply kEd.one
   grobner
  ·show kk u = i * (1 + (mul kEd P 1).y)
   rw [mul_one,<- hu]
   grobner
  ·show kk 1 = i * (1 - (mul kEd P 1).y)
   rw [mul_one,e1]
   grobner
 | k + 1 => by
  have ih := E5 s ul hu u0 d0 k
  have lt := c2j s ul k
  have n1 := neg_y (P := mul kEd P (vl s k)) (Q := P) (S := mul kEd P (vl s k + 1)) rfl
  rw [aZ]
  cases hb : mO s (254 - k)
  ·have r := O5 (u := u) (D := mul kEd P (2 * vl s k)) (S := mul kEd P (2 * vl s k + 1)) (iI lt false) (by exact ih) (by rw [<- mul_add]; congr 1; omega) (by rw [<- mul_add]; congr 1; omega) n1 hu u0 d0
   rw [vl,hb]
   exact r
  ·have n2 : P.y * (1 + kc * (mul kEd P (vl s k + 1)).x * (mul kEd P (vl s k)).x * (mul kEd P (vl s k + 1)).y * (mul kEd P (vl s k)).y) = (mul kEd P (vl s k + 1)).y * (mul kEd P (vl s k)).y + (mul kEd P (vl s k + 1)).x * (mul kEd P (vl s k)).x := by
    generalize mul kEd P (vl s k + 1) = A at *
    generalize mul kEd P (vl s k) = B at *
    clear ih
    grobner
   have r := O5 (u := u) (P := mul kEd P (vl s k + 1)) (Q := mul kEd P (vl s k)) (D := mul kEd P (2 * vl s k + 1 + 1)) (S := mul kEd P (2 * vl s k + 1)) (iI lt true) ⟨ih.r2,ih.r1⟩ (by rw [<- mul_add]; congr 1; omega) (by rw [<- mul_add]; congr 1; omega) n2 hu u0 d0
   rw [vl,hb]
   exact ⟨r.r2,r.r1⟩
theorem sh_R (s : F8) {u : Nat} {P : Pt kc} (ul : u < PZ) (hu : kk u * (1 - P.y) = 1 + P.y) (u0 : kk u ≠ 0) (d0 : 1 - P.y ≠ 0) (hR : 1 - (mul kEd P (vl s 255)).y ≠ 0) :
  shV s u < PZ/\kk (shV s u) * (1 - (mul kEd P (vl s 255)).y) = 1 + (mul kEd P (vl s 255)).y := by
 obtain ⟨⟨l,l0,e1,e2⟩,_⟩ := E5 s ul hu u0 d0 255
 refine ⟨pD _ _,?_⟩
 have z0 : kk (aZ s u 255).z2 ≠ 0 := by rw [e2]; exact kEd.nz l0 hR
 have iv := O4 z0
 rw [shV,kk_M,e1]
 rw [e2] at iv
 generalize (mul kEd P (vl s 255)).y = y at *
 generalize kk (fT (aZ s u 255).z2 255) = w at *
 clear e1 e2 z0 hu
 grobner
def kB : Pt kc := ⟨kk 9771384041963202563870679428059935816164187996444183106833894008023910952347,kk 46316835694926478169428394003475163141307993866256225615783033603165251855960,by unfold On; decide +kernel⟩
def LZ : Nat := 7237005577332262213973186563042994240857116359379907606001950938285454250989
theorem prLZ : Pr LZ := prL
theorem kB9 : kk 9 * (1 - kB.y) = 1 + kB.y := by decide +kernel
theorem kB0 : 1 - kB.y ≠ 0 := by decide +kernel
theorem nine : kk 9 ≠ 0 := by decide +kernel
def bytL (v : Nat) : F8 := fun j => BitVec.ofNat 8 (v / 256 ^ j)
set_option maxRecDepth 100000 in
theorem vl_LZ : vl (bytL LZ) 255 = LZ := by decide +kernel
set_option maxRecDepth 100000 in
theorem b2j : (aZ (bytL LZ) 9 255).z2 = 0 := by decide +kernel
theorem y1_x {P : Pt kc} (h : P.y * P.y = 1) : P.x = 0 := by
 have o := P.on
 unfold On at o
 apply Classical.byContradiction
 intro x0
 have k : (1 - kc) * (P.x * P.x) = 0 := by grobner
 have c1 : (1 - kc) ≠ 0 := by
  intro e
  apply kc_ns 1
  grobner
 exact kEd.nz c1 (kEd.nz x0 x0) k
theorem a2j : mul kEd kB LZ = zer := by
 obtain ⟨⟨l,l0,e1,e2⟩,_⟩ := E5 (bytL LZ) (by decide) kB9 nine kB0 255
 rw [vl_LZ,b2j] at e2
 have e0 : kk 0 = 0 := rfl
 rw [e0] at e2
 have y1 : (1 : K) - (mul kEd kB LZ).y = 0 := Classical.byContradiction fun h => kEd.nz l0 h e2.symm
 generalize mul kEd kB LZ = R at *
 have e : R.y = 1 := by clear e1 e2; grobner
 have x := y1_x (P := R) (by rw [e]; grobner)
 exact Pt.ext' x e
theorem kB_ne : kB ≠ zer := by
 intro h
 have := congrArg Pt.y h
 exact absurd this (by decide +kernel)
theorem nz_y {m : Nat} (h : ¬ LZ ∣ m) : (mul kEd kB m).y * (mul kEd kB m).y ≠ 1 := by
 intro e
 have x := y1_x e
 have z : mul kEd kB (m * 2) = zer := by
  rw [eT]
  generalize mul kEd kB m = P at *
  have : mul kEd P 2 = add kEd P P := by rw [show 2 = 1 + 1 from rfl,mul_add,mul_one]
  rw [this]
  apply iH
  refine ⟨?_,?_⟩
  ·show (0 : K) * (1 + kc * P.x * P.x * P.y * P.y) = P.x * P.y + P.y * P.x
   rw [x]
   grobner
  ·show (1 : K) * (1 - kc * P.x * P.x * P.y * P.y) = P.y * P.y - P.x * P.x
   rw [x,e]
   grobner
 have d := k1q kEd prLZ a2j kB_ne z
 rcases prLZ.euclid d with d | d
 ·exact h d
 ·exact absurd (Nat.le_of_dvd (by decide) d) (by decide)
theorem nz_1 {m : Nat} (h : ¬ LZ ∣ m) : 1 - (mul kEd kB m).y ≠ 0 := by
 intro e
 apply nz_y h
 grobner
theorem nz_2 {m : Nat} (h : ¬ LZ ∣ m) : 1 + (mul kEd kB m).y ≠ 0 := by
 intro e
 apply nz_y h
 grobner
structure Of (u m : Nat) : Prop where
 lt : u < PZ
 is : kk u * (1 - (mul kEd kB m).y) = 1 + (mul kEd kB m).y
theorem Of.nz {u m : Nat} (h : Of u m) (hm : ¬ LZ ∣ m) : kk u ≠ 0 := by
 intro e
 have := h.is
 rw [e] at this
 apply nz_2 hm
 rw [<- this]
 grobner
theorem Of.unique {u v m : Nat} (hm : ¬ LZ ∣ m) (h : Of u m) (h' : Of v m) : u = v :=
 d2j h.lt h'.lt (kEd.can (nz_1 hm) (h.is.trans h'.is.symm))
theorem of_9 : Of 9 1 := ⟨by decide,by rw [mul_one]; exact kB9⟩
theorem m0z (s : F8) {u m : Nat} (h : Of u m) (hm : ¬ LZ ∣ m) (hs : ¬ LZ ∣ m * vl s 255) : Of (shV s u) (m * vl s 255) := by
 have := sh_R s h.lt h.is (h.nz hm) (nz_1 hm) (by rw [<- eT]; exact nz_1 hs)
 rw [<- eT] at this
 exact ⟨this.1,this.2⟩
theorem cop {a b : Nat} (ha : ¬ LZ ∣ a) (hb : ¬ LZ ∣ b) : ¬ LZ ∣ a * b := fun d => (prLZ.euclid d).elim ha hb
theorem d1k (s : F8) : ∀ k,vl s k < 2 ^ k
 | 0 => by show 0 < 1; decide
 | k + 1 => by
  have := d1k s k
  rw [vl,Nat.pow_succ]
  split <;> omega
theorem h0z (s : F8) (h : mO s 254 = true) : ∀ k,0 < vl s (k + 1)
 | 0 => by rw [vl,show 254 - 0 = 254 from rfl,h]; simp
 | k + 1 => by
  have := h0z s h k
  rw [vl]
  omega
theorem z2q (s : F8) : mO (claL s) 254 = true := by
 have key : ∀ a : Fin 256,((BitVec.ofFin a &&& BitVec.ofNat 8 127 ||| BitVec.ofNat 8 64 : BitVec 8)).getLsbD 6 = true := by decide +kernel
 exact key (s 31).toFin
theorem y2q (s : F8) : mO (claL s) 0 = false/\mO (claL s) 1 = false/\mO (claL s) 2 = false := by
 have key : ∀ a : Fin 256,((BitVec.ofFin a &&& BitVec.ofNat 8 248 : BitVec 8)).getLsbD 0 = false/\((BitVec.ofFin a &&& BitVec.ofNat 8 248 : BitVec 8)).getLsbD 1 = false/\((BitVec.ofFin a &&& BitVec.ofNat 8 248 : BitVec 8)).getLsbD 2 = false := by decide +kernel
 exact key (s 0).toFin
theorem x2q (s : F8) : ¬ LZ ∣ vl (claL s) 255 := by
 obtain ⟨b0,b1,b2⟩ := y2q s
 have p : 0 < vl (claL s) 252 := h0z (claL s) (z2q s) 251
 have l := d1k (claL s) 252
 have e : vl (claL s) 255 = vl (claL s) 252 * 8 := by
  rw [show 255 = 252 + 1 + 1 + 1 from rfl,vl,vl,vl,show 254 - 252 = 2 from rfl,show 254 - (252 + 1) = 1 from rfl,show 254 - (252 + 1 + 1) = 0 from rfl,b0,b1,b2]
  simp only [Bool.false_eq_true,if_false]
  omega
 rw [e]
 intro d
 rcases prLZ.euclid d with d | d
 ·have := Nat.le_of_dvd p d
  have : 2 ^ 252 < LZ := by decide
  omega
 ·exact absurd (Nat.le_of_dvd (by decide) d) (by decide)
end Go.Num
namespace Go.Spec
open Go.Sym
def hs (w : Nat) (f : Nat->Nat) : Nat->Nat
 | 0 => 0
 | n + 1 => 2 ^ (w * n) * f n + hs w f n
theorem c1k {w : Nat} {f : Nat->Nat} : ∀ n,(∀ i,i < n->f i < 2 ^ w)->hs w f n < 2 ^ (w * n)
 | 0,_ => by simp [hs]
 | n + 1,h => by
  have ih := c1k n (fun i hi => h i (by omega))
  have hn := h n (by omega)
  have e : 2 ^ (w * (n + 1)) = 2 ^ (w * n) * 2 ^ w := by rw [Nat.mul_add,Nat.mul_one,Nat.pow_add]
  rw [hs,e]
  have : 2 ^ (w * n) * (f n + 1)<=2 ^ (w * n) * 2 ^ w := Nat.mul_le_mul_left _ hn
  rw [Nat.mul_add,Nat.mul_one] at this
  omega
theorem g0z {w : Nat} (hw : 0 < w) {f : Nat->Nat} : ∀ n,(∀ i,i < n->f i < 2 ^ w)->∀ i,(hs w f n).testBit i = (decide (i < w * n) && (f (i / w)).testBit (i % w))
 | 0,_,i => by simp [hs]
 | n + 1,h,i => by
  rw [hs,Nat.testBit_two_pow_mul_add _ (c1k n (fun i hi => h i (by omega)))]
  have ih := g0z hw n (fun i hi => h i (by omega)) i
  have e : w * (n + 1) = w * n + w := by rw [Nat.mul_add,Nat.mul_one]
  by_cases c : i < w * n
  ·rw [if_pos c,ih,decide_eq_true c,decide_eq_true (by omega)]
  ·rw [if_neg c]
   by_cases d : i < w * (n + 1)
   ·have q : i / w = n := by
     rw [Nat.div_eq_iff hw]
     rw [Nat.mul_comm n w]
     omega
    have r : i % w = i - w * n := by
     have := Nat.div_add_mod i w
     rw [q] at this
     omega
    rw [decide_eq_true d,q,r]
    rfl
   ·rw [decide_eq_false d]
    refine (Nat.testBit_lt_two_pow ?_).trans (by rfl)
    refine Nat.lt_of_lt_of_le (h n (by omega)) (Nat.pow_le_pow_right (by omega) (by omega))
end Go.Spec
namespace Go.Spec
open Go.Sym
theorem iJ {w : Nat} (b : Bool) (k t : Nat) (hk : k < w) (ht : t < w) : ((if b then 1 else 0 : BitVec w) <<< k).getLsbD t = (decide (t = k) && b) := by
 rw [BitVec.getLsbD_shiftLeft]
 cases b
 ·simp
 ·by_cases h : t = k
  ·subst h; simp [ht,Nat.lt_of_le_of_lt (Nat.zero_le _) ht]
  ·by_cases c : t < k
   ·simp [c,h]
   ·have : t - k ≠ 0 := by omega
    simp [h,c,ht,this]
theorem f0z (b : F8) (n j : Nat) : numSq b (n + 1) j = if j = n / 51 then numSq b n j ||| bX b n <<< (n % 51) else numSq b n j := rfl
theorem w2q (b : N5) (n j : Nat) : vT b (n + 1) j = if j = n / 8 then vT b n j ||| D5 b n <<< (n % 8) else vT b n j := rfl
theorem i1 (b : F8) (j t : Nat) (ht : t < 51) : ∀ n,(numSq b n j).getLsbD t = (decide (51 * j + t < n) && mO b (51 * j + t))
 | 0 => by simp [numSq]
 | n + 1 => by
  have ih := i1 b j t ht n
  rw [f0z]
  by_cases c : j = n / 51
  ·rw [if_pos c,BitVec.getLsbD_or,ih,D8,iJ _ _ _ (by omega) (by omega)]
   by_cases d : 51 * j + t = n
   ·rw [d,decide_eq_true (show t = n % 51 by omega)]
    simp
   ·rw [decide_eq_false (show ¬ t = n % 51 by omega)]
    by_cases e : 51 * j + t < n
    ·rw [decide_eq_true e,decide_eq_true (show 51 * j + t < n + 1 by omega)]; simp
    ·rw [decide_eq_false e,decide_eq_false (show ¬ 51 * j + t < n + 1 by omega)]; simp
  ·rw [if_neg c,ih]
   by_cases e : 51 * j + t < n
   ·rw [decide_eq_true e,decide_eq_true (show 51 * j + t < n + 1 by omega)]
   ·rw [decide_eq_false e,decide_eq_false (show ¬ 51 * j + t < n + 1 by omega)]
theorem O6 (b : F8) (j t : Nat) (ht : 51<=t) : ∀ n,(numSq b n j).getLsbD t = false
 | 0 => by simp [numSq]
 | n + 1 => by
  have ih := O6 b j t ht n
  rw [f0z]
  by_cases c : j = n / 51
  ·rw [if_pos c,BitVec.getLsbD_or,ih,D8]
   by_cases h : t < 64
   ·rw [iJ _ _ _ (by omega) h,decide_eq_false (show ¬ t = n % 51 by omega)]
    rfl
   ·rw [BitVec.getLsbD_of_ge _ _ (by omega)]
    rfl
  ·rw [if_neg c,ih]
theorem O7 (b : F8) (n j : Nat) : tN (numSq b n) j < 2 ^ 51 := by
 refine Nat.lt_pow_two_of_testBit _ fun t ht => ?_
 exact O6 b j t ht n
theorem vN_hs (a : N5) : vN a = hs 51 (tN a) 5 := by
 unfold vN vS
 simp only [hs,Nat.reduceMul,Nat.reducePow]
 omega
theorem pE (p : F8) (i : Nat) : (vN (numSq p 255)).testBit i = (decide (i < 255) && mO p i) := by
 rw [vN_hs,g0z (by decide) 5 (fun i _ => O7 p 255 i)]
 by_cases h : i < 255
 ·have e : (tN (numSq p 255) (i / 51)).testBit (i % 51) = (numSq p 255 (i / 51)).getLsbD (i % 51) := rfl
  rw [e,i1 p _ _ (by omega) 255,show 51 * (i / 51) + i % 51 = i by omega,decide_eq_true h]
  rfl
 ·rw [decide_eq_false h]
  rfl
theorem i2 (n : N5) (j t : Nat) (ht : t < 8) : ∀ k,k<=255->(vT n k j).getLsbD t = (decide (8 * j + t < k) && (n ((8 * j + t) / 51)).getLsbD ((8 * j + t) % 51))
 | 0,_ => by simp [vT]
 | k + 1,hk => by
  have ih := i2 n j t ht k (by omega)
  have eb : D5 n k = if (n (k / 51)).getLsbD (k % 51) then 1 else 0 := by
   unfold D5
   apply BitVec.eq_of_getLsbD_eq
   intro q hq
   rw [BitVec.getLsbD_and]
   by_cases h : q = 0
   ·subst h
    cases hb : (n (k / 51)).getLsbD (k % 51) <;> simp [hb]
   ·have : (1 : BitVec 8).getLsbD q = false := by
     simp [h]
    rw [this]
    cases (n (k / 51)).getLsbD (k % 51) <;> simp [h]
  rw [w2q]
  by_cases c : j = k / 8
  ·rw [if_pos c,BitVec.getLsbD_or,ih,eb,iJ _ _ _ (by omega) ht]
   by_cases d : 8 * j + t = k
   ·rw [d,decide_eq_true (show t = k % 8 by omega)]
    simp
   ·rw [decide_eq_false (show ¬ t = k % 8 by omega)]
    by_cases e : 8 * j + t < k
    ·rw [decide_eq_true e,decide_eq_true (show 8 * j + t < k + 1 by omega)]; simp
    ·rw [decide_eq_false e,decide_eq_false (show ¬ 8 * j + t < k + 1 by omega)]; simp
  ·rw [if_neg c,ih]
   by_cases e : 8 * j + t < k
   ·rw [decide_eq_true e,decide_eq_true (show 8 * j + t < k + 1 by omega)]
   ·rw [decide_eq_false e,decide_eq_false (show ¬ 8 * j + t < k + 1 by omega)]
end Go.Spec
namespace Go.Spec
open Go.Sym
theorem h1q (v i : Nat) (hi : i < 255) : (nP v (i / 51)).getLsbD (i % 51) = v.testBit i := by
 have key : ∀ j,j < 5->(nP v j).toNat = v / 2 ^ (51 * j) % 2 ^ 51 := by
  intro j hj
  have h : ∀ q,q < 2 ^ 51->(BitVec.ofNat 64 q).toNat = q := fun q hq => by rw [BitVec.toNat_ofNat]; omega
  match j,hj with
  | 0,_ => exact (h _ (Nat.mod_lt _ (by decide))).trans (by simp)
  | 1,_ => exact (h _ (Nat.mod_lt _ (by decide))).trans rfl
  | 2,_ => exact (h _ (Nat.mod_lt _ (by decide))).trans rfl
  | 3,_ => exact (h _ (Nat.mod_lt _ (by decide))).trans rfl
  | 4,_ => exact (h _ (Nat.mod_lt _ (by decide))).trans rfl
 have e : (nP v (i / 51)).getLsbD (i % 51) = (nP v (i / 51)).toNat.testBit (i % 51) := rfl
 rw [e,key (i / 51) (by omega),Nat.testBit_mod_two_pow,Nat.testBit_div_two_pow,decide_eq_true (show i % 51 < 51 by omega),show i % 51 + 51 * (i / 51) = i by omega]
 rfl
theorem num_R (p : F8) : Rp (numSq p 255) (vN (numSq p 255) % PZ) := by
 have h := fun j => O7 p 255 j
 have e : 2 ^ 51 = 2251799813685248 := rfl
 simp only [e] at h
 exact ⟨⟨Nat.lt_of_lt_of_le (h 0) (by decide),h 1,h 2,h 3,h 4⟩,rfl⟩
end Go.Spec
namespace Go.Num
open Go.Spec Go.Sym
theorem byt_V (v i : Nat) (hi : i < 255) : mO (vT (nP v) 255) i = v.testBit i := by
 unfold mO
 rw [i2 _ _ _ (by omega) 255 (Nat.le_refl _),show 8 * (i / 8) + i % 8 = i by omega,decide_eq_true hi,h1q v i hi]
 rfl
theorem g1q {v : Nat} (h : v < PZ) : vN (numSq (vT (nP v) 255) 255) = v := by
 apply Nat.eq_of_testBit_eq
 intro i
 rw [pE]
 by_cases c : i < 255
 ·rw [decide_eq_true c,byt_V v i c]
  rfl
 ·rw [decide_eq_false c]
  refine ((Nat.testBit_lt_two_pow ?_).trans (by rfl)).symm
  exact Nat.lt_of_lt_of_le h (Nat.le_trans (show PZ<=2 ^ 255 by decide) (Nat.pow_le_pow_right (by decide) (by omega)))
structure Is (p : F8) (m : Nat) : Prop where
 nz : ¬ LZ ∣ m
 ex : Of (vN (numSq p 255)) m
theorem Is.bytes {s p : F8} {m : Nat} (h : Is p m) : Is (eR s p) (m * vl (claL s) 255)/\eR s p = vT (nP (shV (claL s) (vN (numSq p 255)))) 255 := by
 have hn := cop h.nz (x2q s)
 have o := m0z (claL s) h.ex h.nz hn
 have e : eR s p = vT (nP (shV (claL s) (vN (numSq p 255)))) 255 := by
  have r := num_R p
  rw [Nat.mod_eq_of_lt h.ex.lt] at r
  rw [D7,shr_V s p r]
 refine ⟨⟨hn,?_⟩,e⟩
 rw [e,g1q o.lt]
 exact o
theorem Is.sh {p : F8} {m : Nat} (s : F8) (h : Is p m) : Is (eR s p) (m * vl (claL s) 255) := (Is.bytes h).1
theorem Is.eq {s t p q : F8} {m k : Nat} (h : Is p m) (h' : Is q k) (e : m * vl (claL s) 255 = k * vl (claL t) 255) : eR s p = eR t q := by
 obtain ⟨a1,a2⟩ := Is.bytes (s := s) h
 obtain ⟨b1,b2⟩ := Is.bytes (s := t) h'
 rw [a2,b2]
 have o1 := m0z (claL s) h.ex h.nz a1.nz
 have o2 := m0z (claL t) h'.ex h'.nz b1.nz
 rw [<- e] at o2
 rw [Of.unique a1.nz o1 o2]
theorem Is.ok {p : F8} {m : Nat} (h : Is p m) : okB p = true := by
 apply Classical.byContradiction
 intro hn
 have e : xM (fun i => decide (p i = BitVec.ofNat 8 0)) 0 32 true = true := by
  unfold okB at hn
  cases hh : xM (fun i => decide (p i = BitVec.ofNat 8 0)) 0 32 true
  ·rw [hh] at hn
   exact absurd rfl hn
  ·rfl
 have z : ∀ i,i < 32->p i = 0 := fun i hi => by
  have := ((eV 32 0).mp e).1 i (Nat.zero_le _) (by omega)
  exact of_decide_eq_true this
 have v0 : vN (numSq p 255) = 0 := by
  apply Nat.eq_of_testBit_eq
  intro i
  rw [pE,Nat.zero_testBit]
  by_cases c : i < 255
  ·unfold mO
   rw [z (i / 8) (by omega)]
   simp
  ·rw [decide_eq_false c]
   rfl
 have := h.ex.nz h.nz
 rw [v0] at this
 exact this rfl
theorem Is.congr {p q : F8} {m : Nat} (h : Is p m) (e : ∀ i,i < 32->q i = p i) : Is q m := by
 have v : vN (numSq q 255) = vN (numSq p 255) := by
  apply Nat.eq_of_testBit_eq
  intro i
  rw [pE,pE]
  by_cases c : i < 255
  ·unfold mO
   rw [e (i / 8) (by omega)]
  ·rw [decide_eq_false c]
   rfl
 exact ⟨h.nz,by rw [v]; exact h.ex⟩
theorem is_9 {p : F8} (h0 : p 0 = 9#8) (h : ∀ i,0 < i->i < 32->p i = 0#8) : Is p 1 := by
 refine ⟨fun d => absurd (Nat.le_of_dvd (by decide) d) (by decide),?_⟩
 have v : vN (numSq p 255) = 9 := by
  apply Nat.eq_of_testBit_eq
  intro i
  rw [pE]
  by_cases c : i < 255
  ·rw [decide_eq_true c]
   unfold mO
   by_cases d : i < 8
   ·rw [show i / 8 = 0 by omega,h0]
    have key : ∀ k : Fin 8,(true && (9#8).getLsbD (k.val % 8)) = (9 : Nat).testBit k.val := by decide +kernel
    exact key ⟨i,d⟩
   ·rw [h (i / 8) (by omega) (by omega),Nat.testBit_lt_two_pow (show 9 < 2 ^ i from Nat.lt_of_lt_of_le (by decide : 9 < 2 ^ 8) (Nat.pow_le_pow_right (by decide) (by omega)))]
    simp
  ·rw [decide_eq_false c,Nat.testBit_lt_two_pow (show 9 < 2 ^ i from Nat.lt_of_lt_of_le (by decide : 9 < 2 ^ 8) (Nat.pow_le_pow_right (by decide) (by omega)))]
   rfl
 rw [v]
 exact of_9
end Go.Num
