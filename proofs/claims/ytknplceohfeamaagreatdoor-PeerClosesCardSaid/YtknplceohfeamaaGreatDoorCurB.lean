/- The same: out of bytes, into bytes, a step of the ladder, what is one over a number. -/
import Derived.Test.YtknplceohfeamaaGreatDoorCurA
set_option linter.unusedVariables false
set_option linter.unusedSimpArgs false
namespace Go.Spec
open Go.Sym
def Rp (a : N5) (v : Nat) : Prop := okN a/\vN a % PZ = v
theorem yL {a : N5} {v : Nat} (h : Rp a v) : Rp (yK a) v := ⟨⟨h.1.h0,h.1.h1,h.1.h2,h.1.h3,h.1.h4⟩,h.2⟩
theorem k1k (f : N5) (m : Nat) (hm : m<=7881299347898368) (h0 : tN f 0 < m) (h1 : tN f 1 < m) (h2 : tN f 2 < m) (h3 : tN f 3 < m) (h4 : tN f 4 < m) : okN (carL (yK f))/\∃ c,vN (carL (yK f)) + PZ * c = vN f := by
 obtain ⟨c,c1,c2,c3,c4,c5,c6,c7,c8⟩ := d0q (yK f) m (by omega) h0 h1 h2 h3 h4
 have : c<=3 := by omega
 exact ⟨⟨by omega,c5,c6,c7,c8⟩,c,c2⟩
theorem e8 {a b c : Nat} (h : a + PZ * c = b) : a % PZ = b % PZ := by
 rw [<- h,Nat.add_mul_mod_self_left]
theorem U7 {x y : yP} (h : x.toNat + y.toNat < 18446744073709551616) : (x + y).toNat = x.toNat + y.toNat := by
 rw [BitVec.toNat_add]; omega
theorem K8 {a b : N5} {v w : Nat} (ha : Rp a v) (hb : Rp b w) : Rp (xS a b) ((v + w) % PZ) := by
 obtain ⟨⟨a0,a1,a2,a3,a4⟩,ea⟩ := ha
 obtain ⟨⟨b0,b1,b2,b3,b4⟩,eb⟩ := hb
 have s : ∀ i,tN a i < 2251799813685312->tN b i < 2251799813685312->tN (fun i => a i + b i) i = tN a i + tN b i := fun i h1 h2 => U7 (by unfold tN at h1 h2; omega)
 have s0 := s 0 (by omega) (by omega)
 have s1 := s 1 (by omega) (by omega)
 have s2 := s 2 (by omega) (by omega)
 have s3 := s 3 (by omega) (by omega)
 have s4 := s 4 (by omega) (by omega)
 obtain ⟨k1,c,k2⟩ := k1k (fun i => a i + b i) 4503599627370624 (by omega) (by omega) (by omega) (by omega) (by omega) (by omega)
 have e : vN (fun i => a i + b i) = vN a + vN b := by
  unfold vN vS
  rw [s0,s1,s2,s3,s4]
  omega
 refine ⟨k1,?_⟩
 show vN (carL (yK fun i => a i + b i)) % PZ = _
 rw [e8 k2,e,Nat.add_mod,ea,eb]
theorem K9 {a b : N5} {v w : Nat} (ha : Rp a v) (hb : Rp b w) : Rp (xU a b) ((v + (PZ - w)) % PZ) := by
 obtain ⟨⟨a0,a1,a2,a3,a4⟩,ea⟩ := ha
 obtain ⟨⟨b0,b1,b2,b3,b4⟩,eb⟩ := hb
 have hw : w < PZ := by rw [<- eb]; exact Nat.mod_lt _ (by decide)
 have q : ∀ (x y : yP) (c : yP),y.toNat<=c.toNat->x.toNat + c.toNat < 18446744073709551616->(x + (c - y)).toNat = x.toNat + (c.toNat - y.toNat) := by
  intro x y c h1 h2
  have hc := c.isLt
  have : (c - y).toNat = c.toNat - y.toNat := by rw [BitVec.toNat_sub]; omega
  rw [BitVec.toNat_add,this]; omega
 have z0 : (4503599627370458#64).toNat = 4503599627370458 := rfl
 have z1 : (4503599627370494#64).toNat = 4503599627370494 := rfl
 unfold tN at *
 have s0 : (mnO a b 0).toNat = (a 0).toNat + (4503599627370458 - (b 0).toNat) := q (a 0) (b 0) 4503599627370458#64 (by omega) (by omega)
 have s1 : (mnO a b 1).toNat = (a 1).toNat + (4503599627370494 - (b 1).toNat) := q (a 1) (b 1) 4503599627370494#64 (by omega) (by omega)
 have s2 : (mnO a b 2).toNat = (a 2).toNat + (4503599627370494 - (b 2).toNat) := q (a 2) (b 2) 4503599627370494#64 (by omega) (by omega)
 have s3 : (mnO a b 3).toNat = (a 3).toNat + (4503599627370494 - (b 3).toNat) := q (a 3) (b 3) 4503599627370494#64 (by omega) (by omega)
 have s4 : (mnO a b 4).toNat = (a 4).toNat + (4503599627370494 - (b 4).toNat) := q (a 4) (b 4) 4503599627370494#64 (by omega) (by omega)
 obtain ⟨k1,c,k2⟩ := k1k (mnO a b) 6755399441055808 (by omega) (by unfold tN; omega) (by unfold tN; omega) (by unfold tN; omega) (by unfold tN; omega) (by unfold tN; omega)
 have e : vN (mnO a b) + vN b = vN a + PZ * 2 := by
  unfold vN vS tN PZ
  rw [s0,s1,s2,s3,s4]
  omega
 refine ⟨k1,?_⟩
 show vN (carL (yK (mnO a b))) % PZ = _
 rw [e8 k2]
 have m1 := Nat.div_add_mod (vN b) PZ
 have m2 := Nat.div_add_mod (vN a) PZ
 rw [eb] at m1
 rw [ea] at m2
 have f : vN (mnO a b) + PZ * (vN b / PZ + 1) = (v + (PZ - w)) + PZ * (vN a / PZ + 2) := by
  rw [Nat.mul_add,Nat.mul_add]
  omega
 have g := congrArg (· % PZ) f
 simp only [Nat.add_mul_mod_self_left] at g
 exact g
end Go.Spec
namespace Go.Spec
open Go.Sym
def sN (s : yP × yP) : Nat := s.1.toNat * 18446744073709551616 + s.2.toNat
theorem aX (s : yP × yP) (x y : yP) (h : sN s + x.toNat * y.toNat < 340282366920938463463374607431768211456) : sN (iF s x y) = sN s + x.toNat * y.toNat := h1j s x y h
theorem g1j (x y : N5) (k : Nat) (s : yP × yP) (A : Nat) (hA : A = 5070602400912918000000000000000000 )
  (h0 : (x 0).toNat * (zK y (5 + k)).toNat<=A) (h1 : (x 1).toNat * (zK y (4 + k)).toNat<=A) (h2 : (x 2).toNat * (zK y (3 + k)).toNat<=A) (h3 : (x 3).toNat * (zK y (2 + k)).toNat<=A) (h4 : (x 4).toNat * (zK y (1 + k)).toNat<=A) (hs : sN s < 18446744073709551616) :
  sN (rowT x y k s) = sN s + (x 0).toNat * (zK y (5 + k)).toNat + (x 1).toNat * (zK y (4 + k)).toNat + (x 2).toNat * (zK y (3 + k)).toNat + (x 3).toNat * (zK y (2 + k)).toNat + (x 4).toNat * (zK y (1 + k)).toNat := by
 unfold rowT
 have e0 := aX s (x 0) (zK y (5 + k)) (by omega)
 have e1 := aX (iF s (x 0) (zK y (5 + k))) (x 1) (zK y (4 + k)) (by omega)
 have e2 := aX (iF (iF s (x 0) (zK y (5 + k))) (x 1) (zK y (4 + k))) (x 2) (zK y (3 + k)) (by omega)
 have e3 := aX (iF (iF (iF s (x 0) (zK y (5 + k))) (x 1) (zK y (4 + k))) (x 2) (zK y (3 + k))) (x 3) (zK y (2 + k)) (by omega)
 have e4 := aX (iF (iF (iF (iF s (x 0) (zK y (5 + k))) (x 1) (zK y (4 + k))) (x 2) (zK y (3 + k))) (x 3) (zK y (2 + k))) (x 4) (zK y (1 + k)) (by omega)
 rw [e4,e3,e2,e1,e0]
theorem mW (s : yP × yP) (h : s.1.toNat < 2251799813685248) : (vB s).toNat = sN s / 2251799813685248 := by
 unfold vB sN
 have h1 : (s.1 <<< 13).toNat = s.1.toNat <<< 13 := by
  rw [BitVec.toNat_shiftLeft,Nat.shiftLeft_eq]
  omega
 have h2 := kW s.2
 have l2 := s.2.isLt
 rw [BitVec.toNat_or,h1,h2]
 have := Nat.shiftLeft_add_eq_or_of_lt (i := 13) (b := s.2.toNat / 2251799813685248) (by omega) s.1.toNat
 rw [<- this,Nat.shiftLeft_eq]
 omega
theorem eQ (s : yP × yP) : (s.2 &&& eM).toNat = sN s % 2251799813685248 := by
 rw [xY]
 unfold sN
 omega
theorem f1j (y : N5) (i : Nat) (h : i < 5) (hy : (y i).toNat < 2251799813685312) : (zK y i).toNat = 19 * (y i).toNat := by
 unfold zK
 rw [if_pos h,BitVec.toNat_mul]
 have : (19#64).toNat = 19 := rfl
 rw [this]
 omega
theorem e1j (y : N5) (i : Nat) : (zK y (5 + i)).toNat = (y i).toNat := by
 unfold zK
 rw [if_neg (by omega),Nat.add_sub_cancel_left]
end Go.Spec
namespace Go.Spec
open Go.Sym
theorem e9 (x : N5) (h0 : tN x 0 < 9223372036854775808) (h1 : tN x 1 < 9223372036854775808) (h2 : tN x 2 < 9223372036854775808) (h3 : tN x 3 < 9223372036854775808) (h4 : tN x 4 < 9223372036854775808) :
  ∃ c0 c1 c2 c3 c,c0 = tN x 0 / 2251799813685248/\c1 = (tN x 1 + c0) / 2251799813685248/\c2 = (tN x 2 + c1) / 2251799813685248/\c3 = (tN x 3 + c2) / 2251799813685248/\c = (tN x 4 + c3) / 2251799813685248/\vN (carL x) + PZ * c = vN x /\
   tN (carL x) 0 = tN x 0 % 2251799813685248 + 19 * c/\tN (carL x) 1 = (tN x 1 + c0) % 2251799813685248/\tN (carL x) 2 = (tN x 2 + c1) % 2251799813685248/\tN (carL x) 3 = (tN x 3 + c2) % 2251799813685248/\tN (carL x) 4 = (tN x 4 + c3) % 2251799813685248 := by
 unfold tN at *
 have o0 : (yB x 0).toNat = 0 := rfl
 have s0 : (x 0 + yB x 0).toNat = (x 0).toNat := by rw [BitVec.toNat_add,o0]; omega
 have o1 : (yB x 1).toNat = (x 0).toNat / 2251799813685248 := by show ((x 0 + yB x 0) >>> 51).toNat = _; rw [kW,s0]
 have s1 : (x 1 + yB x 1).toNat = (x 1).toNat + (yB x 1).toNat := by rw [BitVec.toNat_add,o1]; omega
 have o2 : (yB x 2).toNat = ((x 1).toNat + (yB x 1).toNat) / 2251799813685248 := by show ((x 1 + yB x 1) >>> 51).toNat = _; rw [kW,s1]
 have s2 : (x 2 + yB x 2).toNat = (x 2).toNat + (yB x 2).toNat := by rw [BitVec.toNat_add,o2,o1]; omega
 have o3 : (yB x 3).toNat = ((x 2).toNat + (yB x 2).toNat) / 2251799813685248 := by show ((x 2 + yB x 2) >>> 51).toNat = _; rw [kW,s2]
 have s3 : (x 3 + yB x 3).toNat = (x 3).toNat + (yB x 3).toNat := by rw [BitVec.toNat_add,o3,o2,o1]; omega
 have o4 : (yB x 4).toNat = ((x 3).toNat + (yB x 3).toNat) / 2251799813685248 := by show ((x 3 + yB x 3) >>> 51).toNat = _; rw [kW,s3]
 have s4 : (x 4 + yB x 4).toNat = (x 4).toNat + (yB x 4).toNat := by rw [BitVec.toNat_add,o4,o3,o2,o1]; omega
 have o5 : (yB x 5).toNat = ((x 4).toNat + (yB x 4).toNat) / 2251799813685248 := by show ((x 4 + yB x 4) >>> 51).toNat = _; rw [kW,s4]
 have b1 : (yB x 1).toNat<=4096 := by rw [o1]; omega
 have b2 : (yB x 2).toNat<=4097 := by rw [o2]; omega
 have b3 : (yB x 3).toNat<=4097 := by rw [o3]; omega
 have b4 : (yB x 4).toNat<=4097 := by rw [o4]; omega
 have b5 : (yB x 5).toNat<=4097 := by rw [o5]; omega
 have e0 : (carL x 0).toNat = (x 0).toNat % 2251799813685248 + 19 * (yB x 5).toNat := by
  show (((x 0 + yB x 0) &&& eM) + 19#64 * yB x 5).toNat = _
  rw [BitVec.toNat_add,BitVec.toNat_mul,xY,s0]
  have : (19#64).toNat = 19 := rfl
  rw [this]
  omega
 have e1 : (carL x 1).toNat = ((x 1).toNat + (yB x 1).toNat) % 2251799813685248 := by show ((x 1 + yB x 1) &&& eM).toNat = _; rw [xY,s1]
 have e2 : (carL x 2).toNat = ((x 2).toNat + (yB x 2).toNat) % 2251799813685248 := by show ((x 2 + yB x 2) &&& eM).toNat = _; rw [xY,s2]
 have e3 : (carL x 3).toNat = ((x 3).toNat + (yB x 3).toNat) % 2251799813685248 := by show ((x 3 + yB x 3) &&& eM).toNat = _; rw [xY,s3]
 have e4 : (carL x 4).toNat = ((x 4).toNat + (yB x 4).toNat) % 2251799813685248 := by show ((x 4 + yB x 4) &&& eM).toNat = _; rw [xY,s4]
 refine ⟨_,_,_,_,_,o1,o2,o3,o4,o5,?_,e0,e1,e2,e3,e4⟩
 unfold vN tN
 rw [e0,e1,e2,e3,e4]
 exact iE _ _ _ _ _ _ _ _ _ _ o1 o2 o3 o4 o5
theorem cols (T0 T1 T2 T3 T4 m1 m2 m3 m4 m5 : Nat) (e1 : m1 = T0 / 2251799813685248) (e2 : m2 = (T1 + m1) / 2251799813685248) (e3 : m3 = (T2 + m2) / 2251799813685248) (e4 : m4 = (T3 + m3) / 2251799813685248) (e5 : m5 = (T4 + m4) / 2251799813685248) :
  vS (T0 % 2251799813685248 + 19 * m5) ((T1 + m1) % 2251799813685248) ((T2 + m2) % 2251799813685248) ((T3 + m3) % 2251799813685248) ((T4 + m4) % 2251799813685248) + PZ * m5 = vS T0 T1 T2 T3 T4 := iE _ _ _ _ _ _ _ _ _ _ e1 e2 e3 e4 e5
theorem sN_0 (m : yP) : sN ((0,m) : yP × yP) = m.toNat := by
 show 0 * 18446744073709551616 + m.toNat = m.toNat
 omega
set_option maxHeartbeats 4000000 in
theorem jY {x y : N5} {v w : Nat} (hx : Rp x v) (hy : Rp y w) : Rp (zF x y) (v * w % PZ) := by
 obtain ⟨⟨x0,x1,x2,x3,x4⟩,ex⟩ := hx
 obtain ⟨⟨y0,y1,y2,y3,y4⟩,ey⟩ := hy
 have hlim := e0q (tN x 0) (tN x 1) (tN x 2) (tN x 3) (tN x 4) (tN y 0) (tN y 1) (tN y 2) (tN y 3) (tN y 4)
 have ev : vN x * vN y = vS (tN x 0) (tN x 1) (tN x 2) (tN x 3) (tN x 4) * vS (tN y 0) (tN y 1) (tN y 2) (tN y 3) (tN y 4) := rfl
 have P : ∀ i j,tN x i<=2251799813685311->tN y j<=2251799813685311->tN x i * tN y j<=5070602400913201332763337166721 := fun i j h1 h2 => Nat.mul_le_mul h1 h2
 have lo : ∀ i,i < 5->tN y i < 2251799813685312->(zK y i).toNat = 19 * tN y i := fun i h1 h2 => f1j y i h1 h2
 have hi : ∀ i,(zK y (5 + i)).toNat = tN y i := fun i => e1j y i
 have g1 := lo 1 (by omega) (by omega)
 have g2 := lo 2 (by omega) (by omega)
 have g3 := lo 3 (by omega) (by omega)
 have g4 := lo 4 (by omega) (by omega)
 have k0 : (zK y 5).toNat = tN y 0 := hi 0
 have k1 : (zK y 6).toNat = tN y 1 := hi 1
 have k2 : (zK y 7).toNat = tN y 2 := hi 2
 have k3 : (zK y 8).toNat = tN y 3 := hi 3
 have k4 : (zK y 9).toNat = tN y 4 := hi 4
 have c19 : ∀ a b : Nat,a * (19 * b) = 19 * (a * b) := fun a b => Nat.mul_left_comm a 19 b
 have p00 := P 0 0 (by omega) (by omega)
 have p01 := P 0 1 (by omega) (by omega)
 have p02 := P 0 2 (by omega) (by omega)
 have p03 := P 0 3 (by omega) (by omega)
 have p04 := P 0 4 (by omega) (by omega)
 have p10 := P 1 0 (by omega) (by omega)
 have p11 := P 1 1 (by omega) (by omega)
 have p12 := P 1 2 (by omega) (by omega)
 have p13 := P 1 3 (by omega) (by omega)
 have p14 := P 1 4 (by omega) (by omega)
 have p20 := P 2 0 (by omega) (by omega)
 have p21 := P 2 1 (by omega) (by omega)
 have p22 := P 2 2 (by omega) (by omega)
 have p23 := P 2 3 (by omega) (by omega)
 have p24 := P 2 4 (by omega) (by omega)
 have p30 := P 3 0 (by omega) (by omega)
 have p31 := P 3 1 (by omega) (by omega)
 have p32 := P 3 2 (by omega) (by omega)
 have p33 := P 3 3 (by omega) (by omega)
 have p34 := P 3 4 (by omega) (by omega)
 have p40 := P 4 0 (by omega) (by omega)
 have p41 := P 4 1 (by omega) (by omega)
 have p42 := P 4 2 (by omega) (by omega)
 have p43 := P 4 3 (by omega) (by omega)
 have p44 := P 4 4 (by omega) (by omega)
 have row := fun k s h0 h1 h2 h3 h4 hs => g1j x y k s _ rfl h0 h1 h2 h3 h4 hs
 have sz : sN ((0,0) : yP × yP) = 0 := rfl
 have sm : ∀ m : yP,sN ((0,m) : yP × yP) = m.toNat := sN_0
 have lt64 : ∀ m : yP,sN ((0,m) : yP × yP) < 18446744073709551616 := fun m => by rw [sm]; exact m.isLt
 have hib : ∀ s : yP × yP,sN s < 41538374868278621028243970633760768->s.1.toNat < 2251799813685248 := fun s h => by unfold sN at h; omega
 have S0 : sN (yU x y 0) = tN x 0 * tN y 0 + 19 * (tN x 1 * tN y 4 + tN x 2 * tN y 3 + tN x 3 * tN y 2 + tN x 4 * tN y 1) := by
  have r := row 0 (0,0) (by show tN x 0 * (zK y 5).toNat<=_; rw [k0]; omega) (by show tN x 1 * (zK y 4).toNat<=_; rw [g4,c19]; omega) (by show tN x 2 * (zK y 3).toNat<=_; rw [g3,c19]; omega) (by show tN x 3 * (zK y 2).toNat<=_; rw [g2,c19]; omega) (by show tN x 4 * (zK y 1).toNat<=_; rw [g1,c19]; omega) (by rw [sz]; omega)
  have r : sN (yU x y 0) = sN (0,0) + tN x 0 * (zK y 5).toNat + tN x 1 * (zK y 4).toNat + tN x 2 * (zK y 3).toNat + tN x 3 * (zK y 2).toNat + tN x 4 * (zK y 1).toNat := r
  rw [r,sz,k0,g4,g3,g2,g1,c19,c19,c19,c19]
  omega
 have M1 := mW (yU x y 0) (hib _ (by omega))
 have S1 : sN (yU x y 1) = tN x 0 * tN y 1 + tN x 1 * tN y 0 + 19 * (tN x 2 * tN y 4 + tN x 3 * tN y 3 + tN x 4 * tN y 2) + (vB (yU x y 0)).toNat := by
  have r := row 1 (0,vB (yU x y 0)) (by show tN x 0 * (zK y 6).toNat<=_; rw [k1]; omega) (by show tN x 1 * (zK y 5).toNat<=_; rw [k0]; omega) (by show tN x 2 * (zK y 4).toNat<=_; rw [g4,c19]; omega) (by show tN x 3 * (zK y 3).toNat<=_; rw [g3,c19]; omega) (by show tN x 4 * (zK y 2).toNat<=_; rw [g2,c19]; omega) (lt64 _)
  have r : sN (yU x y 1) = sN (0,vB (yU x y 0)) + tN x 0 * (zK y 6).toNat + tN x 1 * (zK y 5).toNat + tN x 2 * (zK y 4).toNat + tN x 3 * (zK y 3).toNat + tN x 4 * (zK y 2).toNat := r
  rw [r,sm,k1,k0,g4,g3,g2,c19,c19,c19]
  omega
 have M2 := mW (yU x y 1) (hib _ (by omega))
 have S2 : sN (yU x y 2) = tN x 0 * tN y 2 + tN x 1 * tN y 1 + tN x 2 * tN y 0 + 19 * (tN x 3 * tN y 4 + tN x 4 * tN y 3) + (vB (yU x y 1)).toNat := by
  have r := row 2 (0,vB (yU x y 1)) (by show tN x 0 * (zK y 7).toNat<=_; rw [k2]; omega) (by show tN x 1 * (zK y 6).toNat<=_; rw [k1]; omega) (by show tN x 2 * (zK y 5).toNat<=_; rw [k0]; omega) (by show tN x 3 * (zK y 4).toNat<=_; rw [g4,c19]; omega) (by show tN x 4 * (zK y 3).toNat<=_; rw [g3,c19]; omega) (lt64 _)
  have r : sN (yU x y 2) = sN (0,vB (yU x y 1)) + tN x 0 * (zK y 7).toNat + tN x 1 * (zK y 6).toNat + tN x 2 * (zK y 5).toNat + tN x 3 * (zK y 4).toNat + tN x 4 * (zK y 3).toNat := r
  rw [r,sm,k2,k1,k0,g4,g3,c19,c19]
  omega
 have M3 := mW (yU x y 2) (hib _ (by omega))
 have S3 : sN (yU x y 3) = tN x 0 * tN y 3 + tN x 1 * tN y 2 + tN x 2 * tN y 1 + tN x 3 * tN y 0 + 19 * (tN x 4 * tN y 4) + (vB (yU x y 2)).toNat := by
  have r := row 3 (0,vB (yU x y 2)) (by show tN x 0 * (zK y 8).toNat<=_; rw [k3]; omega) (by show tN x 1 * (zK y 7).toNat<=_; rw [k2]; omega) (by show tN x 2 * (zK y 6).toNat<=_; rw [k1]; omega) (by show tN x 3 * (zK y 5).toNat<=_; rw [k0]; omega) (by show tN x 4 * (zK y 4).toNat<=_; rw [g4,c19]; omega) (lt64 _)
  have r : sN (yU x y 3) = sN (0,vB (yU x y 2)) + tN x 0 * (zK y 8).toNat + tN x 1 * (zK y 7).toNat + tN x 2 * (zK y 6).toNat + tN x 3 * (zK y 5).toNat + tN x 4 * (zK y 4).toNat := r
  rw [r,sm,k3,k2,k1,k0,g4,c19]
  omega
 have M4 := mW (yU x y 3) (hib _ (by omega))
 have S4 : sN (yU x y 4) = tN x 0 * tN y 4 + tN x 1 * tN y 3 + tN x 2 * tN y 2 + tN x 3 * tN y 1 + tN x 4 * tN y 0 + (vB (yU x y 3)).toNat := by
  have r := row 4 (0,vB (yU x y 3)) (by show tN x 0 * (zK y 9).toNat<=_; rw [k4]; omega) (by show tN x 1 * (zK y 8).toNat<=_; rw [k3]; omega) (by show tN x 2 * (zK y 7).toNat<=_; rw [k2]; omega) (by show tN x 3 * (zK y 6).toNat<=_; rw [k1]; omega) (by show tN x 4 * (zK y 5).toNat<=_; rw [k0]; omega) (lt64 _)
  have r : sN (yU x y 4) = sN (0,vB (yU x y 3)) + tN x 0 * (zK y 9).toNat + tN x 1 * (zK y 8).toNat + tN x 2 * (zK y 7).toNat + tN x 3 * (zK y 6).toNat + tN x 4 * (zK y 5).toNat := r
  rw [r,sm,k4,k3,k2,k1,k0]
  omega
 have M5 := mW (yU x y 4) (hib _ (by omega))
 generalize (vB (yU x y 0)).toNat = m1 at *
 generalize (vB (yU x y 1)).toNat = m2 at *
 generalize (vB (yU x y 2)).toNat = m3 at *
 generalize (vB (yU x y 3)).toNat = m4 at *
 generalize hm5 : (vB (yU x y 4)).toNat = m5 at *
 have b5 : m5<=11258999068430000 := by omega
 have u1 : tN (uB x y) 1 = sN (yU x y 1) % 2251799813685248 := eQ _
 have u2 : tN (uB x y) 2 = sN (yU x y 2) % 2251799813685248 := eQ _
 have u3 : tN (uB x y) 3 = sN (yU x y 3) % 2251799813685248 := eQ _
 have u4 : tN (uB x y) 4 = sN (yU x y 4) % 2251799813685248 := eQ _
 have u0 : tN (uB x y) 0 = sN (yU x y 0) % 2251799813685248 + 19 * m5 := by
  show (((yU x y 0).2 &&& eM) + 19#64 * vB (yU x y 4)).toNat = _
  rw [BitVec.toNat_add,BitVec.toNat_mul,eQ,hm5]
  have : (19#64).toNat = 19 := rfl
  rw [this]
  omega
 obtain ⟨d0,d1,d2,d3,d,f0,f1,f2,f3,f4,f5,f6,f7,f8,f9,f10⟩ := e9 (yK (uB x y)) (by show tN (uB x y) 0 < _; omega) (by show tN (uB x y) 1 < _; omega) (by show tN (uB x y) 2 < _; omega) (by show tN (uB x y) 3 < _; omega) (by show tN (uB x y) 4 < _; omega)
 have f0 : d0 = tN (uB x y) 0 / 2251799813685248 := f0
 have f1 : d1 = (tN (uB x y) 1 + d0) / 2251799813685248 := f1
 have f2 : d2 = (tN (uB x y) 2 + d1) / 2251799813685248 := f2
 have f3 : d3 = (tN (uB x y) 3 + d2) / 2251799813685248 := f3
 have f4 : d = (tN (uB x y) 4 + d3) / 2251799813685248 := f4
 have f5 : vN (zF x y) + PZ * d = vN (uB x y) := f5
 have f6 : tN (zF x y) 0 = tN (uB x y) 0 % 2251799813685248 + 19 * d := f6
 have f7 : tN (zF x y) 1 = (tN (uB x y) 1 + d0) % 2251799813685248 := f7
 have f8 : tN (zF x y) 2 = (tN (uB x y) 2 + d1) % 2251799813685248 := f8
 have f9 : tN (zF x y) 3 = (tN (uB x y) 3 + d2) % 2251799813685248 := f9
 have f10 : tN (zF x y) 4 = (tN (uB x y) 4 + d3) % 2251799813685248 := f10
 have hd0 : d0<=96 := by omega
 have hd1 : d1<=1 := by omega
 have hd2 : d2<=1 := by omega
 have hd3 : d3<=1 := by omega
 have hd : d<=1 := by omega
 refine ⟨⟨by omega,by omega,by omega,by omega,by omega⟩,?_⟩
 have hv : vN (uB x y) + PZ * m5 = vS (tN x 0 * tN y 0 + 19 * (tN x 1 * tN y 4 + tN x 2 * tN y 3 + tN x 3 * tN y 2 + tN x 4 * tN y 1)) (tN x 0 * tN y 1 + tN x 1 * tN y 0 + 19 * (tN x 2 * tN y 4 + tN x 3 * tN y 3 + tN x 4 * tN y 2)) (tN x 0 * tN y 2 + tN x 1 * tN y 1 + tN x 2 * tN y 0 + 19 * (tN x 3 * tN y 4 + tN x 4 * tN y 3)) (tN x 0 * tN y 3 + tN x 1 * tN y 2 + tN x 2 * tN y 1 + tN x 3 * tN y 0 + 19 * (tN x 4 * tN y 4)) (tN x 0 * tN y 4 + tN x 1 * tN y 3 + tN x 2 * tN y 2 + tN x 3 * tN y 1 + tN x 4 * tN y 0) := by
  show vS (tN (uB x y) 0) (tN (uB x y) 1) (tN (uB x y) 2) (tN (uB x y) 3) (tN (uB x y) 4) + PZ * m5 = _
  rw [u0,u1,u2,u3,u4,S0,S1,S2,S3,S4]
  refine cols _ _ _ _ _ m1 m2 m3 m4 m5 ?_ ?_ ?_ ?_ ?_
  ·rw [<- S0]; exact M1
  ·rw [<- S1]; exact M2
  ·rw [<- S2]; exact M3
  ·rw [<- S3]; exact M4
  ·rw [<- S4]; exact M5
 rw [e8 f5,e8 hv,<- ex,<- ey,<- Nat.mul_mod,ev,hlim,Nat.add_mul_mod_self_left]
end Go.Spec
namespace Go.Spec
open Go.Sym
def nP (v : Nat) : N5 := aW (BitVec.ofNat 64 (v % 2251799813685248)) (BitVec.ofNat 64 (v / 2251799813685248 % 2251799813685248)) (BitVec.ofNat 64 (v / 5070602400912917605986812821504 % 2251799813685248)) (BitVec.ofNat 64 (v / 11417981541647679048466287755595961091061972992 % 2251799813685248)) (BitVec.ofNat 64 (v / 25711008708143844408671393477458601640355247900524685364822016 % 2251799813685248))
theorem U8 (x y : N5) (i : Nat) : jK x y 0 i = x i := by
 unfold jK
 have : (0 : yP) - 0 &&& (x i ^^^ y i) = 0 := by simp
 rw [this]
 simp
theorem U9 (x y : N5) (i : Nat) : jK x y 1 i = y i := by
 unfold jK
 have h : (0 : yP) - 1 = BitVec.allOnes 64 := by decide
 rw [h,BitVec.allOnes_and,<- BitVec.xor_assoc,BitVec.xor_self,BitVec.zero_xor]
theorem digs (c0 c1 c2 c3 c4 v : Nat) (h0 : c0 < 2251799813685248) (h1 : c1 < 2251799813685248) (h2 : c2 < 2251799813685248) (h3 : c3 < 2251799813685248) (h4 : c4 < 2251799813685248) (hv : vS c0 c1 c2 c3 c4 = v) :
  v % 2251799813685248 = c0/\v / 2251799813685248 % 2251799813685248 = c1/\v / 5070602400912917605986812821504 % 2251799813685248 = c2/\v / 11417981541647679048466287755595961091061972992 % 2251799813685248 = c3/\v / 25711008708143844408671393477458601640355247900524685364822016 % 2251799813685248 = c4 := by
 unfold vS at hv
 omega
theorem c0q {a : N5} {v : Nat} (h0 : tN a 0 < 2251799813685248) (h1 : tN a 1 < 2251799813685248) (h2 : tN a 2 < 2251799813685248) (h3 : tN a 3 < 2251799813685248) (h4 : tN a 4 < 2251799813685248) (hv : vN a = v) : a 0 = nP v 0/\a 1 = nP v 1/\a 2 = nP v 2/\a 3 = nP v 3/\a 4 = nP v 4 := by
 obtain ⟨d0,d1,d2,d3,d4⟩ := digs _ _ _ _ _ v h0 h1 h2 h3 h4 hv
 have k : ∀ (x : yP) (n : Nat),n = x.toNat->x = BitVec.ofNat 64 n := fun x n h => by rw [h]; simp
 exact ⟨k _ _ d0,k _ _ d1,k _ _ d2,k _ _ d3,k _ _ d4⟩
theorem d1j (c : N5) (h0 : tN c 0 < 2251799813685248) (h1 : tN c 1 < 2251799813685248) (h2 : tN c 2 < 2251799813685248) (h3 : tN c 3 < 2251799813685248) (h4 : tN c 4 < 2251799813685248) :
  (jE c 0).toNat = tN c 0 + 19/\(jE c 1).toNat = tN c 1 + (jE c 0).toNat / 2251799813685248/\(jE c 2).toNat = tN c 2 + (jE c 1).toNat / 2251799813685248/\(jE c 3).toNat = tN c 3 + (jE c 2).toNat / 2251799813685248/\(jE c 4).toNat = tN c 4 + (jE c 3).toNat / 2251799813685248 := by
 unfold tN at *
 have z : (19#64).toNat = 19 := rfl
 have e0 : (jE c 0).toNat = (c 0).toNat + 19 := by show (c 0 + 19#64).toNat = _; rw [BitVec.toNat_add,z]; omega
 have e1 : (jE c 1).toNat = (c 1).toNat + (jE c 0).toNat / 2251799813685248 := by show (c 1 + jE c 0 >>> 51).toNat = _; rw [BitVec.toNat_add,kW]; omega
 have e2 : (jE c 2).toNat = (c 2).toNat + (jE c 1).toNat / 2251799813685248 := by show (c 2 + jE c 1 >>> 51).toNat = _; rw [BitVec.toNat_add,kW]; omega
 have e3 : (jE c 3).toNat = (c 3).toNat + (jE c 2).toNat / 2251799813685248 := by show (c 3 + jE c 2 >>> 51).toNat = _; rw [BitVec.toNat_add,kW]; omega
 have e4 : (jE c 4).toNat = (c 4).toNat + (jE c 3).toNat / 2251799813685248 := by show (c 4 + jE c 3 >>> 51).toNat = _; rw [BitVec.toNat_add,kW]; omega
 exact ⟨e0,e1,e2,e3,e4⟩
theorem c1j {c0 c1 c2 c3 c4 : Nat} (h0 : c0 < 2251799813685248) (h1 : c1 < 2251799813685248) (h2 : c2 < 2251799813685248) (h3 : c3 < 2251799813685248) (h4 : c4 < 2251799813685248) : vS c0 c1 c2 c3 c4 < 57896044618658097711785492504343953926634992332820282019728792003956564819968 := by
 unfold vS
 omega
theorem les0 (c0 c1 c2 c3 c4 l0 l1 l2 l3 l4 : Nat) (e0 : l0 = c0 + 19) (e1 : l1 = c1 + l0 / 2251799813685248) (e2 : l2 = c2 + l1 / 2251799813685248) (e3 : l3 = c3 + l2 / 2251799813685248) (e4 : l4 = c4 + l3 / 2251799813685248) (h : vS c0 c1 c2 c3 c4 < PZ) : l4 / 2251799813685248 = 0 := by
 unfold vS PZ at h
 omega
theorem les1 (c0 c1 c2 c3 c4 l0 l1 l2 l3 l4 : Nat) (h0 : c0 < 2251799813685248) (h1 : c1 < 2251799813685248) (h2 : c2 < 2251799813685248) (h3 : c3 < 2251799813685248) (h4 : c4 < 2251799813685248) (e0 : l0 = c0 + 19) (e1 : l1 = c1 + l0 / 2251799813685248) (e2 : l2 = c2 + l1 / 2251799813685248) (e3 : l3 = c3 + l2 / 2251799813685248) (e4 : l4 = c4 + l3 / 2251799813685248) (h : ¬ vS c0 c1 c2 c3 c4 < PZ) : l4 / 2251799813685248 = 1 := by
 unfold vS PZ at h
 omega
theorem les2 (c0 c1 c2 c3 c4 l0 l1 l2 l3 l4 v : Nat) (e0 : l0 = c0 + 19) (e1 : l1 = c1 + l0 / 2251799813685248) (e2 : l2 = c2 + l1 / 2251799813685248) (e3 : l3 = c3 + l2 / 2251799813685248) (e4 : l4 = c4 + l3 / 2251799813685248) (hs : l4 / 2251799813685248 = 1) (h : vS c0 c1 c2 c3 c4 = PZ + v) :
  vS (l0 % 2251799813685248) (l1 % 2251799813685248) (l2 % 2251799813685248) (l3 % 2251799813685248) (l4 % 2251799813685248) = v := by
 unfold vS PZ at h
 unfold vS
 omega
set_option maxHeartbeats 2000000 in
theorem lea_R {x : N5} {v : Nat} (hx : Rp x v) : yW x 0 = nP v 0/\yW x 1 = nP v 1/\yW x 2 = nP v 2/\yW x 3 = nP v 3/\yW x 4 = nP v 4 := by
 obtain ⟨⟨x0,x1,x2,x3,x4⟩,ex⟩ := hx
 obtain ⟨d0,d1,d2,d3,d,f0,f1,f2,f3,f4,f5,f6,f7,f8,f9,f10⟩ := e9 (yK x) (by show tN x 0 < _; omega) (by show tN x 1 < _; omega) (by show tN x 2 < _; omega) (by show tN x 3 < _; omega) (by show tN x 4 < _; omega)
 have f0 : d0 = tN x 0 / 2251799813685248 := f0
 have f1 : d1 = (tN x 1 + d0) / 2251799813685248 := f1
 have f2 : d2 = (tN x 2 + d1) / 2251799813685248 := f2
 have f3 : d3 = (tN x 3 + d2) / 2251799813685248 := f3
 have f4 : d = (tN x 4 + d3) / 2251799813685248 := f4
 have f5 : vN (carL (yK x)) + PZ * d = vN x := f5
 have f6 : tN (carL (yK x)) 0 = tN x 0 % 2251799813685248 + 19 * d := f6
 have f7 : tN (carL (yK x)) 1 = (tN x 1 + d0) % 2251799813685248 := f7
 have f8 : tN (carL (yK x)) 2 = (tN x 2 + d1) % 2251799813685248 := f8
 have f9 : tN (carL (yK x)) 3 = (tN x 3 + d2) % 2251799813685248 := f9
 have f10 : tN (carL (yK x)) 4 = (tN x 4 + d3) % 2251799813685248 := f10
 have hc0 : tN (carL (yK x)) 0 < 2251799813685248 := by omega
 have hm := e8 f5
 rw [ex] at hm
 have eC : yW x = jK (yK (carL (yK x))) (yK fun i => jE (carL (yK x)) i &&& eM) (jE (carL (yK x)) 4 >>> 51) := rfl
 rw [eC]
 generalize carL (yK x) = c at *
 have hc1 : tN c 1 < 2251799813685248 := by omega
 have hc2 : tN c 2 < 2251799813685248 := by omega
 have hc3 : tN c 3 < 2251799813685248 := by omega
 have hc4 : tN c 4 < 2251799813685248 := by omega
 obtain ⟨e0,e1,e2,e3,e4⟩ := d1j c hc0 hc1 hc2 hc3 hc4
 have hV : vN c = vS (tN c 0) (tN c 1) (tN c 2) (tN c 3) (tN c 4) := rfl
 have hPZ : PZ = 57896044618658097711785492504343953926634992332820282019728792003956564819949 := rfl
 have es : (jE c 4 >>> 51).toNat = (jE c 4).toNat / 2251799813685248 := kW _
 by_cases hlt : vN c < PZ
 ·have hv : vN c = v := by rw [<- hm,Nat.mod_eq_of_lt hlt]
  have hb : jE c 4 >>> 51 = 0 := by
   apply BitVec.eq_of_toNat_eq
   rw [es]
   exact les0 _ _ _ _ _ _ _ _ _ _ e0 e1 e2 e3 e4 (by rw [<- hV]; exact hlt)
  rw [hb,U8,U8,U8,U8,U8]
  exact c0q hc0 hc1 hc2 hc3 hc4 hv
 ·have h2 : vN c < 57896044618658097711785492504343953926634992332820282019728792003956564819968 := by rw [hV]; exact c1j hc0 hc1 hc2 hc3 hc4
  have hv : vN c = PZ + v := by
   rw [hPZ] at hm hlt ⊢
   clear hV e0 e1 e2 e3 e4 es f0 f1 f2 f3 f4 f5 f6 f7 f8 f9 f10 ex
   omega
  have hb : jE c 4 >>> 51 = 1 := by
   apply BitVec.eq_of_toNat_eq
   rw [es]
   exact les1 _ _ _ _ _ _ _ _ _ _ hc0 hc1 hc2 hc3 hc4 e0 e1 e2 e3 e4 (by rw [<- hV]; exact hlt)
  rw [hb,U9,U9,U9,U9,U9]
  have m0 : tN (yK fun i => jE c i &&& eM) 0 = (jE c 0).toNat % 2251799813685248 := xY _
  have m1 : tN (yK fun i => jE c i &&& eM) 1 = (jE c 1).toNat % 2251799813685248 := xY _
  have m2 : tN (yK fun i => jE c i &&& eM) 2 = (jE c 2).toNat % 2251799813685248 := xY _
  have m3 : tN (yK fun i => jE c i &&& eM) 3 = (jE c 3).toNat % 2251799813685248 := xY _
  have m4 : tN (yK fun i => jE c i &&& eM) 4 = (jE c 4).toNat % 2251799813685248 := xY _
  have hs : (jE c 4).toNat / 2251799813685248 = 1 := by
   rw [<- es,hb]; rfl
  have lt : ∀ n : Nat,n % 2251799813685248 < 2251799813685248 := fun n => Nat.mod_lt _ (by decide)
  refine c0q (by rw [m0]; exact lt _) (by rw [m1]; exact lt _) (by rw [m2]; exact lt _) (by rw [m3]; exact lt _) (by rw [m4]; exact lt _) ?_
  have : vN (yK fun i => jE c i &&& eM) = vS (tN (yK fun i => jE c i &&& eM) 0) (tN (yK fun i => jE c i &&& eM) 1) (tN (yK fun i => jE c i &&& eM) 2) (tN (yK fun i => jE c i &&& eM) 3) (tN (yK fun i => jE c i &&& eM) 4) := rfl
  rw [this,m0,m1,m2,m3,m4]
  exact les2 _ _ _ _ _ _ _ _ _ _ v e0 e1 e2 e3 e4 hs (by rw [<- hV]; exact hv)
end Go.Spec
namespace Go.Spec
def uC (l : N5) (k : Nat) : N5 := yK fun i => l (k + i)
def swaL (l : N5) (b : yP) : N5 := fun i =>
 if i < 5 then l i else if i < 10 then jK (uC l 5) (uC l 15) b (i - 5) else if i < 15 then jK (uC l 10) (uC l 20) b (i - 10) else if i < 20 then jK (uC l 15) (uC l 5) b (i - 15) else jK (uC l 20) (uC l 10) b (i - 20)
def kN : N5 := fun i => if i = 0 then 121665#64 else 0
def mkS (x1 x2 z2 x3 z3 : N5) : N5 := fun i => if i < 5 then x1 i else if i < 10 then x2 (i - 5) else if i < 15 then z2 (i - 10) else if i < 20 then x3 (i - 15) else z3 (i - 20)
def stS (x1 x2 z2 x3 z3 : N5) : N5 := mkS x1
 (zF (yK (zF (yK (xS x2 z2)) (yK (xS x2 z2)))) (yK (zF (yK (xU x2 z2)) (yK (xU x2 z2)))))
 (zF (yK (xU (yK (zF (yK (xS x2 z2)) (yK (xS x2 z2)))) (yK (zF (yK (xU x2 z2)) (yK (xU x2 z2)))))) (yK (xS (yK (zF (yK (xS x2 z2)) (yK (xS x2 z2)))) (yK (zF (yK kN) (yK (xU (yK (zF (yK (xS x2 z2)) (yK (xS x2 z2)))) (yK (zF (yK (xU x2 z2)) (yK (xU x2 z2)))))))))))
 (zF (yK (xS (yK (zF (yK (xU x3 z3)) (yK (xS x2 z2)))) (yK (zF (yK (xS x3 z3)) (yK (xU x2 z2)))))) (yK (xS (yK (zF (yK (xU x3 z3)) (yK (xS x2 z2)))) (yK (zF (yK (xS x3 z3)) (yK (xU x2 z2)))))))
 (zF x1 (yK (zF (yK (xU (yK (zF (yK (xU x3 z3)) (yK (xS x2 z2)))) (yK (zF (yK (xS x3 z3)) (yK (xU x2 z2)))))) (yK (xU (yK (zF (yK (xU x3 z3)) (yK (xS x2 z2)))) (yK (zF (yK (xS x3 z3)) (yK (xU x2 z2)))))))))
def steL (l : N5) : N5 := stS (uC l 0) (uC l 5) (uC l 10) (uC l 15) (uC l 20)
theorem mkS_0 (x1 x2 z2 x3 z3 : N5) : mkS x1 x2 z2 x3 z3 0 = x1 0 := rfl
theorem mkS_1 (x1 x2 z2 x3 z3 : N5) : mkS x1 x2 z2 x3 z3 1 = x1 1 := rfl
theorem mkS_2 (x1 x2 z2 x3 z3 : N5) : mkS x1 x2 z2 x3 z3 2 = x1 2 := rfl
theorem mkS_3 (x1 x2 z2 x3 z3 : N5) : mkS x1 x2 z2 x3 z3 3 = x1 3 := rfl
theorem mkS_4 (x1 x2 z2 x3 z3 : N5) : mkS x1 x2 z2 x3 z3 4 = x1 4 := rfl
theorem mkS_5 (x1 x2 z2 x3 z3 : N5) : mkS x1 x2 z2 x3 z3 5 = x2 0 := rfl
theorem mkS_6 (x1 x2 z2 x3 z3 : N5) : mkS x1 x2 z2 x3 z3 6 = x2 1 := rfl
theorem mkS_7 (x1 x2 z2 x3 z3 : N5) : mkS x1 x2 z2 x3 z3 7 = x2 2 := rfl
theorem mkS_8 (x1 x2 z2 x3 z3 : N5) : mkS x1 x2 z2 x3 z3 8 = x2 3 := rfl
theorem mkS_9 (x1 x2 z2 x3 z3 : N5) : mkS x1 x2 z2 x3 z3 9 = x2 4 := rfl
theorem mkS_10 (x1 x2 z2 x3 z3 : N5) : mkS x1 x2 z2 x3 z3 10 = z2 0 := rfl
theorem mkS_11 (x1 x2 z2 x3 z3 : N5) : mkS x1 x2 z2 x3 z3 11 = z2 1 := rfl
theorem mkS_12 (x1 x2 z2 x3 z3 : N5) : mkS x1 x2 z2 x3 z3 12 = z2 2 := rfl
theorem mkS_13 (x1 x2 z2 x3 z3 : N5) : mkS x1 x2 z2 x3 z3 13 = z2 3 := rfl
theorem mkS_14 (x1 x2 z2 x3 z3 : N5) : mkS x1 x2 z2 x3 z3 14 = z2 4 := rfl
theorem mkS_15 (x1 x2 z2 x3 z3 : N5) : mkS x1 x2 z2 x3 z3 15 = x3 0 := rfl
theorem mkS_16 (x1 x2 z2 x3 z3 : N5) : mkS x1 x2 z2 x3 z3 16 = x3 1 := rfl
theorem mkS_17 (x1 x2 z2 x3 z3 : N5) : mkS x1 x2 z2 x3 z3 17 = x3 2 := rfl
theorem mkS_18 (x1 x2 z2 x3 z3 : N5) : mkS x1 x2 z2 x3 z3 18 = x3 3 := rfl
theorem mkS_19 (x1 x2 z2 x3 z3 : N5) : mkS x1 x2 z2 x3 z3 19 = x3 4 := rfl
theorem mkS_20 (x1 x2 z2 x3 z3 : N5) : mkS x1 x2 z2 x3 z3 20 = z3 0 := rfl
theorem mkS_21 (x1 x2 z2 x3 z3 : N5) : mkS x1 x2 z2 x3 z3 21 = z3 1 := rfl
theorem mkS_22 (x1 x2 z2 x3 z3 : N5) : mkS x1 x2 z2 x3 z3 22 = z3 2 := rfl
theorem mkS_23 (x1 x2 z2 x3 z3 : N5) : mkS x1 x2 z2 x3 z3 23 = z3 3 := rfl
theorem mkS_24 (x1 x2 z2 x3 z3 : N5) : mkS x1 x2 z2 x3 z3 24 = z3 4 := rfl
end Go.Spec
namespace Go.Sym
open Go.Proofs Go.Spec
def mk25 (a0 a1 a2 a3 a4 a5 a6 a7 a8 a9 a10 a11 a12 a13 a14 a15 a16 a17 a18 a19 a20 a21 a22 a23 a24 : yP) : N5 := fun i => [a0,a1,a2,a3,a4,a5,a6,a7,a8,a9,a10,a11,a12,a13,a14,a15,a16,a17,a18,a19,a20,a21,a22,a23,a24].getD i 0
def ag25 (f : N5) : AV := .agg [.u64 (f 0),.u64 (f 1),.u64 (f 2),.u64 (f 3),.u64 (f 4),.u64 (f 5),.u64 (f 6),.u64 (f 7),.u64 (f 8),.u64 (f 9),.u64 (f 10),.u64 (f 11),.u64 (f 12),.u64 (f 13),.u64 (f 14),.u64 (f 15),.u64 (f 16),.u64 (f 17),.u64 (f 18),.u64 (f 19),.u64 (f 20),.u64 (f 21),.u64 (f 22),.u64 (f 23),.u64 (f 24)]
def M0 (cs : List AV) (k : N5->TL) : TL := match cs with | [.u64 a0,.u64 a1,.u64 a2,.u64 a3,.u64 a4,.u64 a5,.u64 a6,.u64 a7,.u64 a8,.u64 a9,.u64 a10,.u64 a11,.u64 a12,.u64 a13,.u64 a14,.u64 a15,.u64 a16,.u64 a17,.u64 a18,.u64 a19,.u64 a20,.u64 a21,.u64 a22,.u64 a23,.u64 a24] => k (mk25 a0 a1 a2 a3 a4 a5 a6 a7 a8 a9 a10 a11 a12 a13 a14 a15 a16 a17 a18 a19 a20 a21 a22 a23 a24) | _ => .no
set_option maxHeartbeats 0 in
theorem sL {cs : List AV} {k : N5->TL} {r : RL} (h : (M0 cs k).sel = some r) : ∃ f,AV.agg cs = agD 25 f/\(k f).sel = some r := by
 unfold M0 at h
 split at h
 ·exact ⟨_,rfl,h⟩
 ·simp [TL.sel] at h
set_option maxRecDepth 100000 in
theorem vswa (x : N5) (b : yP) : bq V3 Tryz.f197 0 [agD 25 x,.u64 b] [] ⟨[],agD 25 (swaL x b),[],[]⟩ = dA (swaL x b) 0 25 := by kernel_rfl
set_option maxRecDepth 100000 in
theorem vste (x z : N5) : bq V3 Tryz.f198 0 [agD 25 x] [] ⟨[],agD 25 z,[],[]⟩ = (let y1 : N5 := aW (x 5) (x 6) (x 7) (x 8) (x 9); let y2 : N5 := aW (x 10) (x 11) (x 12) (x 13) (x 14); let y3 : N5 := aW (xS y1 y2 0) (xS y1 y2 1) (xS y1 y2 2) (xS y1 y2 3) (xS y1 y2 4); let y4 : N5 := aW (zF y3 y3 0) (zF y3 y3 1) (zF y3 y3 2) (zF y3 y3 3) (zF y3 y3 4); let y5 : N5 := aW (xU y1 y2 0) (xU y1 y2 1) (xU y1 y2 2) (xU y1 y2 3) (xU y1 y2 4); let y6 : N5 := aW (zF y5 y5 0) (zF y5 y5 1) (zF y5 y5 2) (zF y5 y5 3) (zF y5 y5 4); let y7 : N5 := aW (x 15) (x 16) (x 17) (x 18) (x 19); let y8 : N5 := aW (x 20) (x 21) (x 22) (x 23) (x 24); let y9 : N5 := aW (xU y7 y8 0) (xU y7 y8 1) (xU y7 y8 2) (xU y7 y8 3) (xU y7 y8 4); let y10 : N5 := aW (zF y9 y3 0) (zF y9 y3 1) (zF y9 y3 2) (zF y9 y3 3) (zF y9 y3 4); let y11 : N5 := aW (xS y7 y8 0) (xS y7 y8 1) (xS y7 y8 2) (xS y7 y8 3) (xS y7 y8 4); let y12 : N5 := aW (zF y11 y5 0) (zF y11 y5 1) (zF y11 y5 2) (zF y11 y5 3) (zF y11 y5 4); let y13 : N5 := aW (BitVec.ofNat 64 121665) (BitVec.ofNat 64 0) (BitVec.ofNat 64 0) (BitVec.ofNat 64 0) (BitVec.ofNat 64 0); let w1 : N5 := aW (xU y4 y6 0) (xU y4 y6 1) (xU y4 y6 2) (xU y4 y6 3) (xU y4 y6 4); let w2 : N5 := aW (xU y10 y12 0) (xU y10 y12 1) (xU y10 y12 2) (xU y10 y12 3) (xU y10 y12 4); let w3 : N5 := aW (xS y10 y12 0) (xS y10 y12 1) (xS y10 y12 2) (xS y10 y12 3) (xS y10 y12 4); let w6 : N5 := aW (zF y13 w1 0) (zF y13 w1 1) (zF y13 w1 2) (zF y13 w1 3) (zF y13 w1 4); let w8 : N5 := aW (zF w2 w2 0) (zF w2 w2 1) (zF w2 w2 2) (zF w2 w2 3) (zF w2 w2 4); let w9 : N5 := aW (xS y4 w6 0) (xS y4 w6 1) (xS y4 w6 2) (xS y4 w6 3) (xS y4 w6 4); let w11 : N5 := aW (x 0) (x 1) (x 2) (x 3) (x 4); z 0 = x 0/\z 1 = x 1/\z 2 = x 2/\z 3 = x 3/\z 4 = x 4/\z 5 = zF y4 y6 0/\z 6 = zF y4 y6 1/\z 7 = zF y4 y6 2/\z 8 = zF y4 y6 3/\z 9 = zF y4 y6 4/\z 10 = zF w1 w9 0/\z 11 = zF w1 w9 1/\z 12 = zF w1 w9 2/\z 13 = zF w1 w9 3/\z 14 = zF w1 w9 4/\z 15 = zF w3 w3 0/\z 16 = zF w3 w3 1/\z 17 = zF w3 w3 2/\z 18 = zF w3 w3 3/\z 19 = zF w3 w3 4/\z 20 = zF w11 w8 0/\z 21 = zF w11 w8 1/\z 22 = zF w11 w8 2/\z 23 = zF w11 w8 3/\z 24 = zF w11 w8 4/\True : Prop) := by kernel_rfl
set_option maxRecDepth 100000 in
theorem bste (x : N5) : Must (bq V3 Tryz.f198 0 [agD 25 x] [] ⟨[],agD 25 (steL x),[],[]⟩) := by
 constructor
 rw [vste]
 intro y1 y2 y3 y4 y5 y6 y7 y8 y9 y10 y11 y12 y13 w1 w2 w3 w6 w8 w9 w11
 have hy1 : y1 = uC x 5 := rfl
 have hy2 : y2 = uC x 10 := rfl
 have hy3 : y3 = yK (xS y1 y2) := rfl
 have hy4 : y4 = yK (zF y3 y3) := rfl
 have hy5 : y5 = yK (xU y1 y2) := rfl
 have hy6 : y6 = yK (zF y5 y5) := rfl
 have hy7 : y7 = uC x 15 := rfl
 have hy8 : y8 = uC x 20 := rfl
 have hy9 : y9 = yK (xU y7 y8) := rfl
 have hy10 : y10 = yK (zF y9 y3) := rfl
 have hy11 : y11 = yK (xS y7 y8) := rfl
 have hy12 : y12 = yK (zF y11 y5) := rfl
 have hy13 : y13 = yK kN := rfl
 have hw1 : w1 = yK (xU y4 y6) := rfl
 have hw2 : w2 = yK (xU y10 y12) := rfl
 have hw3 : w3 = yK (xS y10 y12) := rfl
 have hw6 : w6 = yK (zF y13 w1) := rfl
 have hw8 : w8 = yK (zF w2 w2) := rfl
 have hw9 : w9 = yK (xS y4 w6) := rfl
 have hw11 : w11 = uC x 0 := rfl
 clear_value y1 y2 y3 y4 y5 y6 y7 y8 y9 y10 y11 y12 y13 w1 w2 w3 w6 w8 w9 w11
 subst hy1 hy2 hy3 hy4 hy5 hy6 hy7 hy8 hy9 hy10 hy11 hy12 hy13 hw1 hw2 hw3 hw6 hw8 hw9 hw11
 rw [steL,stS]
 exact ⟨mkS_0 _ _ _ _ _,mkS_1 _ _ _ _ _,mkS_2 _ _ _ _ _,mkS_3 _ _ _ _ _,mkS_4 _ _ _ _ _,mkS_5 _ _ _ _ _,mkS_6 _ _ _ _ _,mkS_7 _ _ _ _ _,mkS_8 _ _ _ _ _,mkS_9 _ _ _ _ _,mkS_10 _ _ _ _ _,mkS_11 _ _ _ _ _,mkS_12 _ _ _ _ _,mkS_13 _ _ _ _ _,mkS_14 _ _ _ _ _,mkS_15 _ _ _ _ _,mkS_16 _ _ _ _ _,mkS_17 _ _ _ _ _,mkS_18 _ _ _ _ _,mkS_19 _ _ _ _ _,mkS_20 _ _ _ _ _,mkS_21 _ _ _ _ _,mkS_22 _ _ _ _ _,mkS_23 _ _ _ _ _,mkS_24 _ _ _ _ _,trivial⟩
def gSwa (xs : List AV) : TL := match xs with | [.agg cs,.u64 b] => M0 cs fun x => .ok (rt (ag25 (swaL x b))) | _ => .no
def gSte (xs : List AV) : TL := match xs with | [.agg cs] => M0 cs fun x => .ok (rt (ag25 (steL x))) | _ => .no
theorem cswa : COK Tryz.prog gl0 197 (mkF (qL 2 gSwa)) := by
 refine yY (fn := Tryz.f197) [] 3000 (by kernel_rfl) (by kernel_rfl) okV3 (by kernel_rfl) (fun args w => by kernel_rfl) fun xs bs r hs ho => ?_
 obtain ⟨rfl,hs0⟩ := yS hs
 clear hs
 rename (TL.sel _ = _) => hs
 unfold gSwa at hs
 split at hs
 ·obtain ⟨x,e,hs⟩ := sL hs
  simp only [TL.sel,Option.some.injEq] at hs
  subst hs
  rw [e]
  refine ⟨[],⟨?_⟩⟩
  show bq V3 Tryz.f197 0 [agD 25 x,.u64 _] [] ⟨[],agD 25 (swaL x _),[],[]⟩
  rw [vswa]
  exact kZ _ _ _
 ·simp [TL.sel] at hs
theorem cste : COK Tryz.prog gl0 198 (mkF (qL 1 gSte)) := by
 refine yY (fn := Tryz.f198) [] 3000 (by kernel_rfl) (by kernel_rfl) okV3 (by kernel_rfl) (fun args w => by kernel_rfl) fun xs bs r hs ho => ?_
 obtain ⟨rfl,hs0⟩ := yS hs
 clear hs
 rename (TL.sel _ = _) => hs
 unfold gSte at hs
 split at hs
 ·obtain ⟨x,e,hs⟩ := sL hs
  simp only [TL.sel,Option.some.injEq] at hs
  subst hs
  rw [e]
  exact ⟨[],bste x⟩
 ·simp [TL.sel] at hs
noncomputable def V4 : Ctx := (V3.add 197 (mkF (qL 2 gSwa))).add 198 (mkF (qL 1 gSte))
theorem okV4 : COKs Tryz.prog gl0 V4 := (okV3.add cswa).add cste
end Go.Sym
namespace Go.Spec
open Go.Sym
def bX (b : F8) (i : Nat) : yP := ((b (i / 8)) >>> (i % 8)).setWidth 64 &&& 1
def numSq (b : F8) : Nat->N5
 | 0 => fun _ => 0
 | i + 1 => fun j => if j = i / 51 then numSq b i j ||| bX b i <<< (i % 51) else numSq b i j
end Go.Spec
namespace Go.Sym
open Go.Proofs Go.Spec
def j1k (b : F8) : LS := ⟨Nat,fun i => [(1,.ptr 100 0 0 0),(2,.ptr 101 0 0 0),(3,.ptr 102 0 0 0),(6,.int .i64 i)],
 fun i => [(100,⟨.cells ((List.range 32).map fun i => .u8 (b i)),true,0⟩),(101,⟨.cells ((List.range 5).map fun j => .u64 0),true,0⟩),(102,⟨.rows 1 5 (fun j => [.u64 (numSq b i j)]),true,0⟩)],1000,fun i => 255 - i,fun i => i<=255,fun _ => []⟩
noncomputable def V3n : Ctx := V3.withSym [11,12,20,21,27]
end Go.Sym
namespace Go.Spec
open Go.Sym
def D5 (n : N5) (i : Nat) : BitVec 8 := (n (i / 51) >>> (i % 51)).setWidth 8 &&& 1
def vT (n : N5) : Nat->F8
 | 0 => fun _ => 0
 | i + 1 => fun j => if j = i / 8 then vT n i j ||| D5 n i <<< (i % 8) else vT n i j
end Go.Spec
namespace Go.Sym
open Go.Proofs Go.Spec
def q1k (n : N5) : LS := ⟨Nat,fun i => [(1,.ptr 100 0 0 0),(2,.ptr 101 0 0 0),(3,.ptr 102 0 0 0),(8,.int .i64 i)],
 fun i => [(100,⟨.cells ((List.range 5).map fun j => .u64 (yW n j)),true,0⟩),(101,⟨.cells ((List.range 32).map fun j => .u8 0),true,0⟩),(102,⟨.rows 1 32 (fun j => [.u8 (vT (yW n) i j)]),true,0⟩)],1000,fun i => 255 - i,fun i => i<=255,fun _ => []⟩
noncomputable def V3b : Ctx := V3.withSym [13,14,22,23,29]
set_option maxRecDepth 100000 in
theorem vnum (x : F8) (z : N5) : bg V3n [] [(4,j1k x)] Tryz.f196 0 [aggB 32 x] [] ⟨[],agD 5 z,[],[]⟩ = (
(∃ (x_1 : Nat),x_1.le 255/\0 = 0/\0 = 0/\0 = 0/\(↑x_1 : Int) = (0 : Int)/\zG (fun (i : Nat) => x i = x i) 0 32 ((0 : BitVec 64) = BitVec.ofNat 64 0/\(0 : BitVec 64) = BitVec.ofNat 64 0/\(0 : BitVec 64) = BitVec.ofNat 64 0/\(0 : BitVec 64) = BitVec.ofNat 64 0/\(0 : BitVec 64) = BitVec.ofNat 64 0/\5 = 5/\(∀ (y : Nat),y < 5->zT Bool.false [AV.u64 (numSq x x_1 y)] = Bool.true/\cut 1 [AV.u64 (BitVec.ofNat 64 0),AV.u64 (BitVec.ofNat 64 0),AV.u64 (BitVec.ofNat 64 0),AV.u64 (BitVec.ofNat 64 0),AV.u64 (BitVec.ofNat 64 0)] y = [AV.u64 (numSq x x_1 y)])/\True))/\∀ (x_1 : Nat),x_1.le 255->@Bool.rec (fun _ => Prop) (5<=5/\z 0 = numSq x x_1 0/\z 1 = numSq x x_1 1/\z 2 = numSq x x_1 2/\z 3 = numSq x x_1 3/\z 4 = numSq x x_1 4/\True) ((0 : Int)<=IntKind.i64.wrap ((↑x_1 : Int).tdiv (8 : Int))/\(IntKind.i64.wrap ((↑x_1 : Int).tdiv (8 : Int))).toNat < 32/\(IntKind.i64.wrap ((↑x_1 : Int).tdiv (8 : Int))).toNat < (rg 32 x).length/\(0 : Int)<=(↑x_1 : Int).tmod (8 : Int)/\(0 : Int)<=IntKind.i64.wrap ((↑x_1 : Int).tdiv (51 : Int))/\(IntKind.i64.wrap ((↑x_1 : Int).tdiv (51 : Int))).toNat < 5/\(IntKind.i64.wrap ((↑x_1 : Int).tdiv (51 : Int))).toNat < 5/\True/\(0 : Int)<=(↑x_1 : Int).tmod (51 : Int)/\(0 : Int)<=IntKind.i64.wrap ((↑x_1 : Int).tdiv (51 : Int))/\(IntKind.i64.wrap ((↑x_1 : Int).tdiv (51 : Int))).toNat < 5/\(IntKind.i64.wrap ((↑x_1 : Int).tdiv (51 : Int))).toNat < 5/\[AV.u64 (numSq x x_1 (IntKind.i64.wrap ((↑x_1 : Int).tdiv (51 : Int))).toNat)].length = 1/\∃ (y : Nat),255 - y < 255 - x_1/\y.le 255/\0 = 0/\0 = 0/\0 = 0/\(↑y : Int) = IntKind.i64.wrap ((↑x_1 : Int) + (1 : Int))/\zG (fun (i : Nat) => x i = x i) 0 32 ((0 : BitVec 64) = (0 : BitVec 64)/\(0 : BitVec 64) = (0 : BitVec 64)/\(0 : BitVec 64) = (0 : BitVec 64)/\(0 : BitVec 64) = (0 : BitVec 64)/\(0 : BitVec 64) = (0 : BitVec 64)/\5 = 5/\(∀ (y_1 : Nat),y_1 < 5->zT Bool.false [AV.u64 (numSq x y y_1)] = Bool.true/\(bif y_1 == (IntKind.i64.wrap ((↑x_1 : Int).tdiv (51 : Int))).toNat then [AV.u64 (numSq x x_1 (IntKind.i64.wrap ((↑x_1 : Int).tdiv (51 : Int))).toNat ||| (BitVec.setWidth 64 ((rg 32 x).getD (IntKind.i64.wrap ((↑x_1 : Int).tdiv (8 : Int))).toNat (0 : BitVec 8) >>> ((↑x_1 : Int).tmod (8 : Int)).toNat) &&& BitVec.ofNat 64 1) <<< ((↑x_1 : Int).tmod (51 : Int)).toNat)] else [AV.u64 (numSq x x_1 y_1)]) = [AV.u64 (numSq x y y_1)])/\True)) (decide ((↑x_1 : Int) < (255 : Int))) : Prop) := by kernel_rfl
set_option maxRecDepth 100000 in
theorem vbyt (x : N5) (z : F8) : bg V3b [] [(5,q1k x)] Tryz.f199 0 [agD 5 x] [] ⟨[],aggB 32 z,[],[]⟩ = (
let x1 := fun (i : Nat) => [x 0,x 1,x 2,x 3,x 4].getD i (0 : yP); (∃ (x_1 : Nat),x_1.le 255/\0 = 0/\0 = 0/\0 = 0/\(↑x_1 : Int) = (0 : Int)/\yW x 0 = yW x1 0/\yW x 1 = yW x1 1/\yW x 2 = yW x1 2/\yW x 3 = yW x1 3/\yW x 4 = yW x1 4/\zG (fun (i : Nat) => (0 : BitVec 8) = BitVec.ofNat 8 0) 0 32 (32 = 32/\(∀ (y : Nat),y < 32->zT Bool.false [AV.u8 (vT (yW x) x_1 y)] = Bool.true/\cut 1 (List.replicate 32 (AV.u8 (BitVec.ofNat 8 0))) y = [AV.u8 (vT (yW x) x_1 y)])/\True))/\∀ (x_1 : Nat),x_1.le 255->@Bool.rec (fun _ => Prop) (32<=32/\zG (fun (i : Nat) => z i = vT (yW x) x_1 i) 0 32 True) ((0 : Int)<=IntKind.i64.wrap ((↑x_1 : Int).tdiv (51 : Int))/\(IntKind.i64.wrap ((↑x_1 : Int).tdiv (51 : Int))).toNat < 5/\(IntKind.i64.wrap ((↑x_1 : Int).tdiv (51 : Int))).toNat < [yW x 0,yW x 1,yW x 2,yW x 3,yW x 4].length/\True/\(0 : Int)<=(↑x_1 : Int).tmod (51 : Int)/\(0 : Int)<=IntKind.i64.wrap ((↑x_1 : Int).tdiv (8 : Int))/\(IntKind.i64.wrap ((↑x_1 : Int).tdiv (8 : Int))).toNat < 32/\(IntKind.i64.wrap ((↑x_1 : Int).tdiv (8 : Int))).toNat < 32/\(0 : Int)<=(↑x_1 : Int).tmod (8 : Int)/\(0 : Int)<=IntKind.i64.wrap ((↑x_1 : Int).tdiv (8 : Int))/\(IntKind.i64.wrap ((↑x_1 : Int).tdiv (8 : Int))).toNat < 32/\(IntKind.i64.wrap ((↑x_1 : Int).tdiv (8 : Int))).toNat < 32/\[AV.u8 (vT (yW x) x_1 (IntKind.i64.wrap ((↑x_1 : Int).tdiv (8 : Int))).toNat)].length = 1/\∃ (y : Nat),255 - y < 255 - x_1/\y.le 255/\0 = 0/\0 = 0/\0 = 0/\(↑y : Int) = IntKind.i64.wrap ((↑x_1 : Int) + (1 : Int))/\yW x 0 = yW x 0/\yW x 1 = yW x 1/\yW x 2 = yW x 2/\yW x 3 = yW x 3/\yW x 4 = yW x 4/\zG (fun (i : Nat) => (0 : BitVec 8) = (0 : BitVec 8)) 0 32 (32 = 32/\(∀ (y_1 : Nat),y_1 < 32->zT Bool.false [AV.u8 (vT (yW x) y y_1)] = Bool.true/\(bif y_1 == (IntKind.i64.wrap ((↑x_1 : Int).tdiv (8 : Int))).toNat then [AV.u8 (vT (yW x) x_1 (IntKind.i64.wrap ((↑x_1 : Int).tdiv (8 : Int))).toNat ||| (BitVec.setWidth 8 ([yW x 0,yW x 1,yW x 2,yW x 3,yW x 4].getD (IntKind.i64.wrap ((↑x_1 : Int).tdiv (51 : Int))).toNat (0 : BitVec 64) >>> ((↑x_1 : Int).tmod (51 : Int)).toNat) &&& BitVec.ofNat 8 1) <<< ((↑x_1 : Int).tmod (8 : Int)).toNat)] else [AV.u8 (vT (yW x) x_1 y_1)]) = [AV.u8 (vT (yW x) y y_1)])/\True)) (decide ((↑x_1 : Int) < (255 : Int))) : Prop) := by kernel_rfl
theorem dvw (i d : Nat) (hi : i < 256) (hd : 0 < d) : (IntKind.i64.wrap ((i : Int).tdiv (d : Int))).toNat = i / d/\0<=IntKind.i64.wrap ((i : Int).tdiv (d : Int)) := by
 have e : (i : Int).tdiv (d : Int) = ((i / d : Nat) : Int) := rfl
 have h : i / d<=i := Nat.div_le_self _ _
 rw [e,zU _ rfl (by omega)]
 exact ⟨Int.toNat_natCast _,Int.natCast_nonneg _⟩
theorem rgG {α : Type} (F : Nat->α) (d : α) (i n : Nat) (h : i < n) : (rg n F).getD i d = F i := gP n F i d h
set_option maxRecDepth 100000 in
theorem bnum (x : F8) : Must (bg V3n [] [(4,j1k x)] Tryz.f196 0 [aggB 32 x] [] ⟨[],agD 5 (numSq x 255),[],[]⟩) := by
 constructor
 rw [vnum]
 refine ⟨⟨0,Nat.zero_le _,rfl,rfl,rfl,rfl,wQ _ _ (fun _ _ _ => rfl) ⟨rfl,rfl,rfl,rfl,rfl,rfl,fun y hy => ⟨rfl,?_⟩,trivial⟩⟩,fun i hi => ?_⟩
 ·rcases y with _ | _ | _ | _ | _ | y <;> first | rfl | omega
 ·have hi : i<=255 := hi
  refine yE (fun d => ?_) (fun d => ?_)
  ·have d : (i : Int) < 255 := of_decide_eq_true d
   obtain ⟨a1,a2⟩ := dvw i 8 (by omega) (by omega)
   obtain ⟨b1,b2⟩ := dvw i 51 (by omega) (by omega)
   have a1 : (IntKind.i64.wrap ((i : Int).tdiv 8)).toNat = i / 8 := a1
   have b1 : (IntKind.i64.wrap ((i : Int).tdiv 51)).toNat = i / 51 := b1
   have m8 : (i : Int).tmod 8 = ((i % 8 : Nat) : Int) := rfl
   have m51 : (i : Int).tmod 51 = ((i % 51 : Nat) : Int) := rfl
   rw [a1,b1,m8,m51,Int.toNat_natCast,Int.toNat_natCast,wM]
   refine ⟨a2,by omega,by omega,Int.natCast_nonneg _,b2,by omega,by omega,trivial,Int.natCast_nonneg _,b2,by omega,by omega,rfl,i + 1,by omega,(by show i + 1<=255; omega),rfl,rfl,rfl,(zU (i + 1) (by omega) (by omega)).symm,wQ _ _ (fun _ _ _ => rfl) ⟨rfl,rfl,rfl,rfl,rfl,rfl,fun y hy => ⟨rfl,?_⟩,trivial⟩⟩
   rw [rgG x 0 (i / 8) 32 (by omega)]
   by_cases e : y = i / 51
   ·subst e
    have : ((i / 51) == (i / 51)) = true := by simp
    rw [this]
    show [AV.u64 _] = [AV.u64 (if i / 51 = i / 51 then _ else _)]
    rw [if_pos rfl]
    rfl
   ·have : (y == (i / 51)) = false := by simp [e]
    rw [this]
    show [AV.u64 _] = [AV.u64 (if y = i / 51 then _ else _)]
    rw [if_neg e]
  ·have d : ¬ (i : Int) < 255 := of_decide_eq_false d
   obtain rfl : i = 255 := by omega
   exact ⟨Nat.le_refl _,rfl,rfl,rfl,rfl,rfl,trivial⟩
set_option maxRecDepth 100000 in
theorem bbyt (x : N5) : Must (bg V3b [] [(5,q1k x)] Tryz.f199 0 [agD 5 x] [] ⟨[],aggB 32 (vT (yW x) 255),[],[]⟩) := by
 constructor
 rw [vbyt]
 intro x1
 refine ⟨⟨0,Nat.zero_le _,rfl,rfl,rfl,rfl,rfl,rfl,rfl,rfl,rfl,wQ _ _ (fun _ _ _ => rfl) ⟨rfl,fun y hy => ⟨rfl,?_⟩,trivial⟩⟩,fun i hi => ?_⟩
 ·have : ∀ k,k < 32->cut 1 (List.replicate 32 (AV.u8 (BitVec.ofNat 8 0))) k = [AV.u8 0] := by
   intro k hk
   unfold cut
   rw [Nat.mul_one,List.drop_replicate,List.take_replicate]
   have : min 1 (32 - k) = 1 := by omega
   rw [this]
   rfl
  exact this y hy
 ·have hi : i<=255 := hi
  refine yE (fun d => ?_) (fun d => ?_)
  ·have d : (i : Int) < 255 := of_decide_eq_true d
   obtain ⟨a1,a2⟩ := dvw i 8 (by omega) (by omega)
   obtain ⟨b1,b2⟩ := dvw i 51 (by omega) (by omega)
   have a1 : (IntKind.i64.wrap ((i : Int).tdiv 8)).toNat = i / 8 := a1
   have b1 : (IntKind.i64.wrap ((i : Int).tdiv 51)).toNat = i / 51 := b1
   have m8 : (i : Int).tmod 8 = ((i % 8 : Nat) : Int) := rfl
   have m51 : (i : Int).tmod 51 = ((i % 51 : Nat) : Int) := rfl
   rw [a1,b1,m8,m51,Int.toNat_natCast,Int.toNat_natCast]
   refine ⟨b2,by omega,(by show i / 51 < 5; omega),trivial,Int.natCast_nonneg _,a2,by omega,by omega,Int.natCast_nonneg _,a2,by omega,by omega,rfl,i + 1,by omega,(by show i + 1<=255; omega),rfl,rfl,rfl,(zU (i + 1) (by omega) (by omega)).symm,rfl,rfl,rfl,rfl,rfl,wQ _ _ (fun _ _ _ => rfl) ⟨rfl,fun y hy => ⟨rfl,?_⟩,trivial⟩⟩
   have g : [yW x 0,yW x 1,yW x 2,yW x 3,yW x 4].getD (i / 51) (0 : BitVec 64) = yW x (i / 51) := by
    have : i / 51 < 5 := by omega
    generalize i / 51 = k at this
    rcases k with _ | _ | _ | _ | _ | k <;> first | rfl | omega
   rw [g]
   by_cases e : y = i / 8
   ·subst e
    have : ((i / 8) == (i / 8)) = true := by simp
    rw [this]
    show [AV.u8 _] = [AV.u8 (if i / 8 = i / 8 then _ else _)]
    rw [if_pos rfl]
    rfl
   ·have : (y == (i / 8)) = false := by simp [e]
    rw [this]
    show [AV.u8 _] = [AV.u8 (if y = i / 8 then _ else _)]
    rw [if_neg e]
  ·have d : ¬ (i : Int) < 255 := of_decide_eq_false d
   obtain rfl : i = 255 := by omega
   exact ⟨Nat.le_refl _,wQ _ _ (fun _ _ _ => rfl) trivial⟩
def gNum (xs : List AV) : TL := match xs with | [.agg cs] => bE 32 cs fun x => .ok (rt (ag5 (numSq x 255))) | _ => .no
def gByt (xs : List AV) : TL := match xs with | [.agg cs] => eP cs fun x => .ok (rt (aggB 32 (vT (yW x) 255))) | _ => .no
theorem cnum : COK Tryz.prog gl0 196 (mkF (qL 1 gNum)) := by
 refine yY (fn := Tryz.f196) [] 3000 (by kernel_rfl) (by kernel_rfl) (okV3.withSym [11,12,20,21,27]) (by kernel_rfl) (fun args w => by kernel_rfl) fun xs bs r hs ho => ?_
 obtain ⟨rfl,hs0⟩ := yS hs
 clear hs
 rename (TL.sel _ = _) => hs
 unfold gNum at hs
 split at hs
 ·obtain ⟨x,e,hs⟩ := yZ hs
  simp only [TL.sel,Option.some.injEq] at hs
  subst hs
  rw [e]
  exact ⟨_,bnum x⟩
 ·simp [TL.sel] at hs
theorem cbyt : COK Tryz.prog gl0 199 (mkF (qL 1 gByt)) := by
 refine yY (fn := Tryz.f199) [] 3000 (by kernel_rfl) (by kernel_rfl) (okV3.withSym [13,14,22,23,29]) (by kernel_rfl) (fun args w => by kernel_rfl) fun xs bs r hs ho => ?_
 obtain ⟨rfl,hs0⟩ := yS hs
 clear hs
 rename (TL.sel _ = _) => hs
 unfold gByt at hs
 split at hs
 ·obtain ⟨x,e,hs⟩ := wI hs
  simp only [TL.sel,Option.some.injEq] at hs
  subst hs
  rw [e]
  exact ⟨_,bbyt x⟩
 ·simp [TL.sel] at hs
end Go.Sym
namespace Go.Spec
open Go.Sym
def xB : N5 := fun i => if i = 0 then 1#64 else 0#64
def uL : N5 := fun _ => 0#64
def xC (n : N5) : Nat->N5
 | 0 => xB
 | k + 1 => if k = 252 \/ k = 250 then zF (yK (xC n k)) (yK (xC n k)) else zF (yK (zF (yK (xC n k)) (yK (xC n k)))) (yK n)
def cF (f : N5) : N5 := mk25 (f 0) (f 1) (f 2) (f 3) (f 4) (f 5) (f 6) (f 7) (f 8) (f 9) (f 10) (f 11) (f 12) (f 13) (f 14) (f 15) (f 16) (f 17) (f 18) (f 19) (f 20) (f 21) (f 22) (f 23) (f 24)
def ladN (s : F8) (u : N5) : Nat->N5
 | 0 => mkS u xB uL u xB
 | k + 1 => swaL (cF (steL (cF (swaL (cF (ladN s u k)) (bX s (254 - k)))))) (bX s (254 - k))
def V9 (l : N5) : N5 := zF (uC l 5) (yK (xC (uC l 10) 255))
def D6 (s p : F8) : F8 := vT (yW (yK (V9 (ladN (claL s) (numSq p 255) 255)))) 255
end Go.Spec
namespace Go.Sym
open Go.Proofs Go.Spec
def n1k (n : N5) : LS := ⟨Nat,fun k => [(1,.ptr 100 0 0 0),(2,.ptr 101 0 0 0),(3,.ptr 102 0 0 0),(4,.int .i64 (254 - (k : Int)))],
 fun k => [(100,⟨.cells ((List.range 5).map fun j => .u64 (n j)),true,0⟩),(101,⟨.cells ((List.range 5).map fun j => .u64 0),true,0⟩),(102,⟨.cells ((List.range 5).map fun j => .u64 (xC n k j)),true,0⟩)],1000,fun k => 255 - k,fun k => k<=255,fun _ => []⟩
noncomputable def V5 : Ctx := (V4.add 196 (mkF (qL 1 gNum))).add 199 (mkF (qL 1 gByt))
theorem okV5 : COKs Tryz.prog gl0 V5 := (okV4.add cnum).add cbyt
set_option maxRecDepth 100000 in
theorem vinv (x : N5) (z : N5) : bg V5 [] [(4,n1k x)] Tryz.f201 0 [agD 5 x] [] ⟨[],agD 5 z,[],[]⟩ = (
let x1 := fun (i : Nat) => [x 0,x 1,x 2,x 3,x 4].getD i (0 : yP); (∃ (x_1 : Nat),x_1.le 255/\0 = 0/\0 = 0/\0 = 0/\(254 : Int) - (↑x_1 : Int) = (254 : Int)/\x 0 = x 0/\x 1 = x 1/\x 2 = x 2/\x 3 = x 3/\x 4 = x 4/\(0 : BitVec 64) = BitVec.ofNat 64 0/\(0 : BitVec 64) = BitVec.ofNat 64 0/\(0 : BitVec 64) = BitVec.ofNat 64 0/\(0 : BitVec 64) = BitVec.ofNat 64 0/\(0 : BitVec 64) = BitVec.ofNat 64 0/\xC x x_1 0 = BitVec.ofNat 64 1/\xC x x_1 1 = BitVec.ofNat 64 0/\xC x x_1 2 = BitVec.ofNat 64 0/\xC x x_1 3 = BitVec.ofNat 64 0/\xC x x_1 4 = BitVec.ofNat 64 0/\True)/\∀ (x_1 : Nat),let x1_1 := fun (i : Nat) => [xC x x_1 0,xC x x_1 1,xC x x_1 2,xC x x_1 3,xC x x_1 4].getD i (0 : yP); let x2 := ∃ (y : Nat),255 - y < 255 - x_1/\y.le 255/\0 = 0/\0 = 0/\0 = 0/\(254 : Int) - (↑y : Int) = IntKind.i64.wrap ((254 : Int) - (↑x_1 : Int) - (1 : Int))/\x 0 = x 0/\x 1 = x 1/\x 2 = x 2/\x 3 = x 3/\x 4 = x 4/\(0 : BitVec 64) = (0 : BitVec 64)/\(0 : BitVec 64) = (0 : BitVec 64)/\(0 : BitVec 64) = (0 : BitVec 64)/\(0 : BitVec 64) = (0 : BitVec 64)/\(0 : BitVec 64) = (0 : BitVec 64)/\xC x y 0 = zF x1_1 x1_1 0/\xC x y 1 = zF x1_1 x1_1 1/\xC x y 2 = zF x1_1 x1_1 2/\xC x y 3 = zF x1_1 x1_1 3/\xC x y 4 = zF x1_1 x1_1 4/\True; let x3 := fun (i : Nat) => [zF x1_1 x1_1 0,zF x1_1 x1_1 1,zF x1_1 x1_1 2,zF x1_1 x1_1 3,zF x1_1 x1_1 4].getD i (0 : yP); x_1.le 255->@Bool.rec (fun _ => Prop) (z 0 = xC x x_1 0/\z 1 = xC x x_1 1/\z 2 = xC x x_1 2/\z 3 = xC x x_1 3/\z 4 = xC x x_1 4/\True) (@Bool.rec (fun _ => Prop) x2 (@Bool.rec (fun _ => Prop) x2 (∃ (y : Nat),255 - y < 255 - x_1/\y.le 255/\0 = 0/\0 = 0/\0 = 0/\(254 : Int) - (↑y : Int) = IntKind.i64.wrap ((254 : Int) - (↑x_1 : Int) - (1 : Int))/\x 0 = x 0/\x 1 = x 1/\x 2 = x 2/\x 3 = x 3/\x 4 = x 4/\(0 : BitVec 64) = (0 : BitVec 64)/\(0 : BitVec 64) = (0 : BitVec 64)/\(0 : BitVec 64) = (0 : BitVec 64)/\(0 : BitVec 64) = (0 : BitVec 64)/\(0 : BitVec 64) = (0 : BitVec 64)/\xC x y 0 = zF x3 x1 0/\xC x y 1 = zF x3 x1 1/\xC x y 2 = zF x3 x1 2/\xC x y 3 = zF x3 x1 3/\xC x y 4 = zF x3 x1 4/\True) !decide ((254 : Int) - (↑x_1 : Int) = (4 : Int))) !decide ((254 : Int) - (↑x_1 : Int) = (2 : Int))) (decide ((0 : Int)<=(254 : Int) - (↑x_1 : Int))) : Prop) := by kernel_rfl
theorem z2j (n : N5) (k : Nat) (h : k = 252 \/ k = 250) : xC n (k + 1) = zF (yK (xC n k)) (yK (xC n k)) := by rw [xC,if_pos h]
theorem y2j (n : N5) (k : Nat) (h : ¬ (k = 252 \/ k = 250)) : xC n (k + 1) = zF (yK (zF (yK (xC n k)) (yK (xC n k)))) (yK n) := by rw [xC,if_neg h]
set_option maxRecDepth 100000 in
theorem binv (x : N5) : Must (bg V5 [] [(4,n1k x)] Tryz.f201 0 [agD 5 x] [] ⟨[],agD 5 (xC x 255),[],[]⟩) := by
 constructor
 rw [vinv]
 intro x1
 have hx1 : x1 = yK x := rfl
 clear_value x1
 refine ⟨⟨0,Nat.zero_le _,rfl,rfl,rfl,rfl,rfl,rfl,rfl,rfl,rfl,rfl,rfl,rfl,rfl,rfl,rfl,rfl,rfl,rfl,rfl,trivial⟩,?_⟩
 intro k y1 y2 y3 hk
 have hk : k<=255 := hk
 have hy1 : y1 = yK (xC x k) := rfl
 have hy3 : y3 = yK (zF y1 y1) := rfl
 have hs : (k = 252 \/ k = 250)->y2 := by
  intro h
  have e : xC x (k + 1) = zF y1 y1 := z2j x k h
  have w : (254 : Int) - ((k + 1 : Nat) : Int) = IntKind.i64.wrap (254 - (k : Int) - 1) := by rw [wK (by omega) (by omega)]; omega
  exact ⟨k + 1,by omega,(by show k + 1<=255; omega),rfl,rfl,rfl,w,rfl,rfl,rfl,rfl,rfl,rfl,rfl,rfl,rfl,rfl,congrFun e 0,congrFun e 1,congrFun e 2,congrFun e 3,congrFun e 4,trivial⟩
 clear_value y1 y2 y3
 refine yE (fun d => ?_) (fun d => ?_)
 ·have d : (0 : Int)<=254 - (k : Int) := of_decide_eq_true d
  refine yE (fun d1 => ?_) (fun d1 => hs ?_)
  ·refine yE (fun d2 => ?_) (fun d2 => hs ?_)
   ·have hn : ¬ (k = 252 \/ k = 250) := by
     simp only [Bool.not_eq_true',decide_eq_false_iff_not] at d1 d2
     omega
    have e : xC x (k + 1) = zF y3 x1 := by rw [hy3,hy1,hx1]; exact y2j x k hn
    have w : (254 : Int) - ((k + 1 : Nat) : Int) = IntKind.i64.wrap (254 - (k : Int) - 1) := by rw [wK (by omega) (by omega)]; omega
    exact ⟨k + 1,by omega,(by show k + 1<=255; omega),rfl,rfl,rfl,w,rfl,rfl,rfl,rfl,rfl,rfl,rfl,rfl,rfl,rfl,congrFun e 0,congrFun e 1,congrFun e 2,congrFun e 3,congrFun e 4,trivial⟩
   ·simp only [Bool.not_eq_false',decide_eq_true_eq] at d2
    omega
  ·simp only [Bool.not_eq_false',decide_eq_true_eq] at d1
   omega
 ·have d : ¬ (0 : Int)<=254 - (k : Int) := of_decide_eq_false d
  obtain rfl : k = 255 := by omega
  exact ⟨rfl,rfl,rfl,rfl,rfl,trivial⟩
def gInv (xs : List AV) : TL := match xs with | [.agg cs] => eP cs fun x => .ok (rt (ag5 (xC x 255))) | _ => .no
theorem cinv : COK Tryz.prog gl0 201 (mkF (qL 1 gInv)) := by
 refine yY (fn := Tryz.f201) [] 3000 (by kernel_rfl) (by kernel_rfl) okV5 (by kernel_rfl) (fun args w => by kernel_rfl) fun xs bs r hs ho => ?_
 obtain ⟨rfl,hs0⟩ := yS hs
 clear hs
 rename (TL.sel _ = _) => hs
 unfold gInv at hs
 split at hs
 ·obtain ⟨x,e,hs⟩ := wI hs
  simp only [TL.sel,Option.some.injEq] at hs
  subst hs
  rw [e]
  exact ⟨_,binv x⟩
 ·simp [TL.sel] at hs
noncomputable def V6 : Ctx := V5.add 201 (mkF (qL 1 gInv))
theorem okV6 : COKs Tryz.prog gl0 V6 := okV5.add cinv
noncomputable def V7 : Ctx := V6.withSym [27,28]
def m1k (s p : F8) : LS := ⟨Nat,fun k => [(4,.ptr 100 0 0 0),(5,.bool false),(6,.ptr 101 0 0 0),(8,.ptr 102 0 0 0),(9,.int .i64 (254 - (k : Int)))],
 fun k => [(100,⟨.cells ((List.range 32).map fun j => .u8 0),true,0⟩),(101,⟨.cells ((List.range 32).map fun j => .u8 (claL s j)),true,0⟩),(102,⟨.cells ((List.range 25).map fun j => .u64 (ladN (claL s) (numSq p 255) k j)),true,0⟩)],1000,fun k => 255 - k,fun k => k<=255,fun _ => []⟩
end Go.Sym
