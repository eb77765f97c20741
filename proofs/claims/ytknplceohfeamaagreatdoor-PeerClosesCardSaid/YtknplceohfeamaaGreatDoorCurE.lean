/- Two numbers are prime; the group of a curve of Edwards; the two formulas of the ladder, by points. -/

set_option linter.unusedVariables false
set_option linter.unusedSimpArgs false
namespace Go.Num
def Pr (p : Nat) : Prop := 1 < p/\∀ d,d ∣ p->d = 1 \/ d = p
theorem Pr.cop {p a : Nat} (h : Pr p) (ha : ¬ p ∣ a) : Nat.Coprime p a := by
 rcases h.2 (Nat.gcd p a) (Nat.gcd_dvd_left _ _) with e | e
 ·exact e
 ·exact absurd (e ▸ Nat.gcd_dvd_right p a) ha
theorem Pr.euclid {p a b : Nat} (h : Pr p) (hd : p ∣ a * b) : p ∣ a \/ p ∣ b := by
 by_cases c : p ∣ a
 ·exact .inl c
 ·exact .inr ((h.cop c).dvd_of_dvd_mul_left hd)
def C : Nat->Nat->Nat
 | _,0 => 1
 | 0,_ + 1 => 0
 | n + 1,k + 1 => C n k + C n (k + 1)
theorem pB (n : Nat) : C n 0 = 1 := by cases n <;> rfl
theorem M7 : ∀ n k : Nat,(k + 1) * C (n + 1) (k + 1) = (n + 1) * C n k
 | 0,0 => rfl
 | 0,k + 1 => by simp [C]
 | n + 1,0 => by
  have h := M7 n 0
  rw [pB] at h ⊢
  rw [C,pB]
  omega
 | n + 1,k + 1 => by
  have h1 := M7 n k
  have h2 := M7 n (k + 1)
  rw [C]
  have e : C (n + 1) (k + 1) = C n k + C n (k + 1) := rfl
  have : (k + 1 + 1) * (C (n + 1) (k + 1) + C (n + 1) (k + 1 + 1)) = (k + 1) * C (n + 1) (k + 1) + C (n + 1) (k + 1) + (k + 1 + 1) * C (n + 1) (k + 1 + 1) := by
   rw [Nat.mul_add]
   congr 1
   rw [Nat.add_mul (k + 1) 1,Nat.one_mul]
  rw [this,h1,h2]
  have : (n + 1 + 1) * C (n + 1) (k + 1) = (n + 1) * C (n + 1) (k + 1) + C (n + 1) (k + 1) := by rw [Nat.add_mul (n + 1) 1,Nat.one_mul]
  rw [this,e,Nat.mul_add]
  omega
theorem D9 : ∀ n j : Nat,C n (n + 1 + j) = 0
 | 0,j => by rw [show 0 + 1 + j = j + 1 by omega]; rfl
 | n + 1,j => by
  have h1 := D9 n j
  have h2 := D9 n (j + 1)
  rw [show n + 1 + 1 + j = (n + 1 + j) + 1 by omega,C,h1,show n + 1 + j + 1 = n + 1 + (j + 1) by omega,h2]
theorem x0z : ∀ n : Nat,C n n = 1
 | 0 => rfl
 | n + 1 => by
  have h := D9 n 0
  rw [C,x0z n]
  simpa using h
def S (x n : Nat) : Nat->Nat
 | 0 => 0
 | k + 1 => S x n k + C n k * x ^ k
theorem g9 (x n : Nat) : ∀ m,S x (n + 1) (m + 1) = S x n (m + 1) + x * S x n m
 | 0 => by simp [S,pB]
 | m + 1 => by
  rw [S,g9 x n m,C]
  have e1 : S x n (m + 1 + 1) = S x n (m + 1) + C n (m + 1) * x ^ (m + 1) := rfl
  have e2 : S x n (m + 1) = S x n m + C n m * x ^ m := rfl
  rw [e1]
  have : x * S x n (m + 1) = x * S x n m + C n m * x ^ (m + 1) := by
   rw [e2,Nat.mul_add,Nat.pow_succ]
   congr 1
   rw [<- Nat.mul_assoc,Nat.mul_comm x,Nat.mul_assoc,Nat.mul_comm x]
  rw [this,Nat.add_mul]
  omega
theorem w0z (x : Nat) : ∀ n m : Nat,n < m->S x n m = (x + 1) ^ n
 | 0,m + 1,_ => by
  induction m with
  | zero => simp [S,pB]
  | succ m ih => rw [S,ih (by omega)]; simp [C]
 | n + 1,m + 1,h => by
  rw [g9,w0z x n (m + 1) (by omega),w0z x n m (by omega),Nat.pow_succ,Nat.mul_add,Nat.mul_comm x]
  omega
theorem C_dvd {p k : Nat} (h : Pr p) (h0 : 0 < k) (hk : k < p) : p ∣ C p k := by
 obtain ⟨q,rfl⟩ : ∃ q,p = q + 1 := ⟨p - 1,by have := h.1; omega⟩
 obtain ⟨j,rfl⟩ : ∃ j,k = j + 1 := ⟨k - 1,by omega⟩
 have := M7 q j
 rcases h.euclid ⟨_,this⟩ with d | d
 ·exact absurd (Nat.le_of_dvd (by omega) d) (by omega)
 ·exact d
theorem e1k {p : Nat} (h : Pr p) (x : Nat) : ∀ m,m + 1<=p->S x p (m + 1) % p = 1
 | 0,_ => by simp [S,pB,Nat.mod_eq_of_lt h.1]
 | m + 1,hm => by
  rw [S,Nat.add_mod,e1k h x m (by omega)]
  obtain ⟨q,hq⟩ := C_dvd h (k := m + 1) (by omega) (by omega)
  rw [hq,Nat.mul_assoc,Nat.mul_mod_right,Nat.add_zero,Nat.mod_eq_of_lt h.1]
theorem M8 {p : Nat} (h : Pr p) : ∀ x : Nat,x ^ p % p = x % p
 | 0 => by rw [Nat.zero_pow (by have := h.1; omega)]
 | x + 1 => by
  have e := w0z x p (p + 1) (by omega)
  obtain ⟨q,hq⟩ : ∃ q,p = q + 1 := ⟨p - 1,by have := h.1; omega⟩
  have e1 := e1k h x q (by omega)
  rw [<- hq] at e1
  rw [<- e,S,x0z,Nat.one_mul,Nat.add_mod,e1,M8 h x,Nat.add_comm,Nat.add_mod x 1 p,Nat.mod_eq_of_lt h.1]
theorem E1 {p x : Nat} (h : Pr p) (hx : ¬ p ∣ x) : x ^ (p - 1) % p = 1 := by
 have f := M8 h x
 obtain ⟨q,hq⟩ : ∃ q,p = q + 1 := ⟨p - 1,by have := h.1; omega⟩
 have hp : 0 < x := by
  rcases Nat.eq_zero_or_pos x with e | e
  ·exact absurd (e ▸ Nat.dvd_zero p) hx
  ·exact e
 have e : x ^ p = x ^ (p - 1) * x := by rw [<- Nat.pow_succ]; congr 1; omega
 have one : 1<=x ^ (p - 1) := Nat.pos_of_ne_zero (by have := Nat.pow_pos (n := p - 1) hp; omega)
 have d : p ∣ (x ^ (p - 1) - 1) * x := by
  rw [Nat.sub_mul,<- e,Nat.one_mul]
  exact Nat.dvd_of_mod_eq_zero (Nat.sub_mod_eq_zero_of_mod_eq f)
 rcases h.euclid d with d | d
 ·obtain ⟨k,hk⟩ := d
  rw [show x ^ (p - 1) = 1 + p * k by omega,Nat.add_mul_mod_self_left,Nat.mod_eq_of_lt h.1]
 ·exact absurd d hx
theorem b1j {r b : Nat} (hr : 1 < r) (m n : Nat) (h1 : b ^ m % r = 1) (h2 : b ^ n % r = 1) : b ^ Nat.gcd m n % r = 1 := by
 induction m,n using Nat.gcd.induction with
 | H0 n => rw [Nat.gcd_zero_left]; exact h2
 | H1 m n hm ih =>
  rw [Nat.gcd_rec]
  refine ih ?_ h1
  have e : b ^ n = (b ^ m) ^ (n / m) * b ^ (n % m) := by rw [<- Nat.pow_mul,<- Nat.pow_add,Nat.div_add_mod]
  rw [e,Nat.mul_mod,Nat.pow_mod,h1,Nat.one_pow,Nat.mod_eq_of_lt hr,Nat.one_mul,Nat.mod_mod] at h2
  exact h2
theorem v0z : ∀ n : Nat,1 < n->∃ r,Pr r/\r ∣ n := by
 intro n
 induction n using Nat.strongRecOn with
 | _ n ih =>
  intro h
  by_cases c : Pr n
  ·exact ⟨n,c,Nat.dvd_refl n⟩
  ·have : ∃ d,d ∣ n/\d ≠ 1/\d ≠ n := by
    apply Classical.byContradiction
    intro hn
    refine c ⟨h,fun d hd => ?_⟩
    apply Classical.byContradiction
    intro hh
    exact hn ⟨d,hd,fun e => hh (.inl e),fun e => hh (.inr e)⟩
   obtain ⟨d,hd,d1,d2⟩ := this
   have dl := Nat.le_of_dvd (by omega) hd
   have d0 : d ≠ 0 := by rintro rfl; have := Nat.eq_zero_of_zero_dvd hd; omega
   obtain ⟨r,pr,hr⟩ := ih d (by omega) (by omega)
   exact ⟨r,pr,Nat.dvd_trans hr hd⟩
theorem u0z {n : Nat} (h : 1 < n) (c : ¬ Pr n) : ∃ r,Pr r/\r ∣ n/\r * r<=n := by
 have : ∃ d,d ∣ n/\d ≠ 1/\d ≠ n := by
  apply Classical.byContradiction
  intro hn
  refine c ⟨h,fun d hd => ?_⟩
  apply Classical.byContradiction
  intro hh
  exact hn ⟨d,hd,fun e => hh (.inl e),fun e => hh (.inr e)⟩
 obtain ⟨d,⟨e,he⟩,d1,d2⟩ := this
 have d0 : d ≠ 0 := by rintro rfl; simp at he; omega
 have e0 : e ≠ 0 := by rintro rfl; simp at he; omega
 have e1 : e ≠ 1 := by rintro rfl; simp at he; omega
 by_cases l : d<=e
 ·obtain ⟨r,pr,hr⟩ := v0z d (by omega)
  refine ⟨r,pr,Nat.dvd_trans hr ⟨e,he⟩,?_⟩
  have := Nat.le_of_dvd (by omega) hr
  rw [he]
  exact Nat.mul_le_mul this (by omega)
 ·obtain ⟨r,pr,hr⟩ := v0z e (by omega)
  refine ⟨r,pr,Nat.dvd_trans hr ⟨d,by rw [he,Nat.mul_comm]⟩,?_⟩
  have := Nat.le_of_dvd (by omega) hr
  rw [he]
  exact Nat.mul_le_mul (by omega) this
def pw (n : Nat) : Nat->Nat->Nat->Nat
 | 0,_,_ => 1 % n
 | f + 1,a,e => if e % 2 = 1 then a * pw n f (a * a % n) (e / 2) % n else pw n f (a * a % n) (e / 2)
theorem iG (n : Nat) : ∀ f a e : Nat,e < 2 ^ f->pw n f a e = a ^ e % n
 | 0,a,e,h => by
  have : e = 0 := by simpa using h
  subst this
  simp [pw]
 | f + 1,a,e,h => by
  have h2 : e / 2 < 2 ^ f := by rw [Nat.pow_succ] at h; omega
  have ih := iG n f (a * a % n) (e / 2) h2
  have q : (a * a % n) ^ (e / 2) % n = a ^ (2 * (e / 2)) % n := by rw [<- Nat.pow_mod,Nat.pow_mul,Nat.pow_two]
  rw [pw,ih,q]
  split
  ·rw [Nat.mul_mod_mod,Nat.mul_comm,<- Nat.pow_succ]
   congr 2
   omega
  ·congr 2
   omega
theorem k0z {n q a r f : Nat} (hq : Pr q) (hd : (n - 1) / q * q = n - 1) (hf : n - 1 < 2 ^ f) (h1 : pw n f a (n - 1) = 1) (h2 : Nat.gcd (pw n f a ((n - 1) / q) + (n - 1)) n = 1) (hn : 1 < n) (hr : Pr r) (hrn : r ∣ n) : q ∣ r - 1 := by
 rw [iG n f a _ hf] at h1
 rw [iG n f a _ (Nat.lt_of_le_of_lt (Nat.div_le_self _ _) hf)] at h2
 have m : ∀ k : Nat,k % n % r = k % r := fun k => Nat.mod_mod_of_dvd k hrn
 have g1 : a ^ (n - 1) % r = 1 := by rw [<- m,h1,Nat.mod_eq_of_lt hr.1]
 have g2 : a ^ ((n - 1) / q) % r ≠ 1 := by
  intro e
  have d : r ∣ a ^ ((n - 1) / q) % n + (n - 1) := by
   apply Nat.dvd_of_mod_eq_zero
   rw [Nat.add_mod,m,e]
   obtain ⟨k,hk⟩ := hrn
   have k0 : k ≠ 0 := by rintro rfl; simp at hk; omega
   obtain ⟨j,rfl⟩ : ∃ j,k = j + 1 := ⟨k - 1,by omega⟩
   have : n - 1 = (r - 1) + r * j := by rw [hk,Nat.mul_add,Nat.mul_one]; have := hr.1; omega
   rw [this,Nat.add_mul_mod_self_left,Nat.mod_eq_of_lt (show r - 1 < r by have := hr.1; omega),show 1 + (r - 1) = r by have := hr.1; omega,Nat.mod_self]
  have := Nat.dvd_gcd d hrn
  rw [h2] at this
  have := Nat.le_of_dvd (by omega) this
  have := hr.1
  omega
 have b1 : (a ^ ((n - 1) / q)) ^ q % r = 1 := by rw [<- Nat.pow_mul,hd]; exact g1
 have na : ¬ r ∣ a ^ ((n - 1) / q) := by
  intro d
  rw [Nat.pow_mod,Nat.mod_eq_zero_of_dvd d,Nat.zero_pow (by have := hq.1; omega)] at b1
  simp at b1
 have b2 := E1 hr na
 apply Classical.byContradiction
 intro nd
 have g := b1j hr.1 _ _ b1 b2
 rw [hq.cop nd,Nat.pow_one] at g
 exact g2 g
theorem pock {n F : Nat} (hn : 1 < n) (hF : n < F * F) (h : ∀ r,Pr r->r ∣ n->F ∣ r - 1) : Pr n := by
 apply Classical.byContradiction
 intro c
 obtain ⟨r,pr,hr,hl⟩ := u0z hn c
 have d := Nat.le_of_dvd (by have := pr.1; omega) (h r pr hr)
 have : F * F<=r * r := Nat.mul_le_mul (by omega) (by omega)
 omega
theorem by1 (n q a f : Nat) (hq : Pr q) (h : (decide (1 < n) && decide (n < q * q) && decide ((n - 1) / q * q = n - 1) && decide (n - 1 < 2 ^ f) && decide (pw n f a (n - 1) = 1) && decide (Nat.gcd (pw n f a ((n - 1) / q) + (n - 1)) n = 1)) = true) : Pr n := by
 simp only [Bool.and_eq_true,decide_eq_true_eq] at h
 obtain ⟨⟨⟨⟨⟨h1,h2⟩,h3⟩,h4⟩,h5⟩,h6⟩ := h
 exact pock h1 h2 fun r pr hr => k0z hq h3 h4 h5 h6 h1 pr hr
theorem by2 (n q s a f : Nat) (hq : Pr q) (hs : Pr s) (h : (decide (1 < n) && decide (n < (q * s) * (q * s)) && decide ((n - 1) / q * q = n - 1) && decide (n - 1 < 2 ^ f) && decide (pw n f a (n - 1) = 1) && decide (Nat.gcd (pw n f a ((n - 1) / q) + (n - 1)) n = 1) && decide ((n - 1) / s * s = n - 1) && decide (Nat.gcd (pw n f a ((n - 1) / s) + (n - 1)) n = 1) && decide (s < q)) = true) : Pr n := by
 simp only [Bool.and_eq_true,decide_eq_true_eq] at h
 obtain ⟨⟨⟨⟨⟨⟨⟨⟨h1,h2⟩,h3⟩,h4⟩,h5⟩,h6⟩,h7⟩,h8⟩,h9⟩ := h
 refine pock h1 h2 fun r pr hr => ?_
 have d1 := k0z hq h3 h4 h5 h6 h1 pr hr
 have d2 := k0z hs h7 h4 h5 h8 h1 pr hr
 refine Nat.Coprime.mul_dvd_of_dvd_of_dvd (hq.cop fun d => ?_) d1 d2
 have := Nat.le_of_dvd (by have := hs.1; omega) d
 omega
def tri (n : Nat) : Nat->Bool
 | 0 => true
 | k + 1 => (decide (k < 2) || n % k != 0) && tri n k
theorem by0 (n : Nat) (h : (decide (1 < n) && tri n n) = true) : Pr n := by
 rw [Bool.and_eq_true,decide_eq_true_eq] at h
 refine ⟨h.1,fun d hd => ?_⟩
 have key : ∀ k,tri n k = true->d < k->d < 2 \/ n % d ≠ 0 := by
  intro k
  induction k with
  | zero => intro _ h; omega
  | succ k ih =>
   intro ht hk
   rw [tri,Bool.and_eq_true] at ht
   by_cases e : d = k
   ·subst e
    have := ht.1
    rw [Bool.or_eq_true,decide_eq_true_eq,bne_iff_ne] at this
    exact this
   ·exact ih ht.2 (by omega)
 have dl := Nat.le_of_dvd (by have := h.1; omega) hd
 have d0 : d ≠ 0 := by rintro rfl; have := Nat.eq_zero_of_zero_dvd hd; omega
 by_cases e : d = n
 ·exact .inr e
 ·rcases key n h.2 (by omega) with k | k
  ·exact .inl (by omega)
  ·exact absurd (Nat.mod_eq_zero_of_dvd hd) k
end Go.Num
namespace Go.Num
theorem n2j : Pr 991 := by0 _ (by decide +kernel)
theorem m2j : Pr 103 := by0 _ (by decide +kernel)
theorem E2 : Pr 8574133 := by2 _ 991 103 2 24 n2j m2j (by decide +kernel)
theorem h2j : Pr 127 := by0 _ (by decide +kernel)
theorem fD : Pr 1919519569386763 := by2 _ 8574133 127 2 51 E2 h2j (by decide +kernel)
theorem g2j : Pr 419 := by0 _ (by decide +kernel)
theorem pr_97 : Pr 97 := by0 _ (by decide +kernel)
theorem W6 : Pr 569003 := by2 _ 419 97 2 20 g2j pr_97 (by decide +kernel)
theorem tR : Pr 2773320623 := by1 _ 569003 2 32 W6 (by decide +kernel)
theorem pC : Pr 72106336199 := by1 _ 2773320623 2 37 tR (by decide +kernel)
theorem wU : Pr 75445702479781427272750846543864801 := by2 _ 1919519569386763 72106336199 2 116 fD pC (by decide +kernel)
theorem a1j : Pr 1723 := by0 _ (by decide +kernel)
theorem W7 : Pr 430751 := by1 _ 1723 2 19 a1j (by decide +kernel)
theorem z1q : Pr 4153 := by0 _ (by decide +kernel)
theorem mX : Pr 31757755568855353 := by2 _ 430751 4153 2 55 W7 z1q (by decide +kernel)
theorem yM : Pr 74058212732561358302231226437062788676166966415465897661863160754340907 := by2 _ 75445702479781427272750846543864801 31757755568855353 2 236 wU mX (by decide +kernel)
theorem prP : Pr 57896044618658097711785492504343953926634992332820282019728792003956564819949 := by1 _ 74058212732561358302231226437062788676166966415465897661863160754340907 2 255 yM (by decide +kernel)
theorem y1q : Pr 2551 := by0 _ (by decide +kernel)
theorem E3 : Pr 1224481 := by1 _ 2551 2 21 y1q (by decide +kernel)
theorem x1q : Pr 3797 := by0 _ (by decide +kernel)
theorem W8 : Pr 531581 := by1 _ 3797 2 20 x1q (by decide +kernel)
theorem fE : Pr 1257559732178653 := by2 _ 1224481 531581 2 51 E3 W8 (by decide +kernel)
theorem nQ : Pr 4434155615661930479 := by1 _ 1257559732178653 2 62 fE (by decide +kernel)
theorem uP : Pr 172054593956031949258510691 := by1 _ 4434155615661930479 2 88 nQ (by decide +kernel)
theorem xZ : Pr 19757330305831588566944191468367130476339 := by1 _ 172054593956031949258510691 2 134 uP (by decide +kernel)
theorem xX : Pr 276602624281642239937218680557139826668747 := by1 _ 19757330305831588566944191468367130476339 2 138 xZ (by decide +kernel)
theorem prL : Pr 7237005577332262213973186563042994240857116359379907606001950938285454250989 := by1 _ 276602624281642239937218680557139826668747 2 253 xX (by decide +kernel)
end Go.Num
namespace Go.Num
variable {n : Nat} [NeZero n] {c : Fin n}
structure Ed (c : Fin n) : Prop where
 inv : ∀ x : Fin n,x ≠ 0->∃ y,x * y = 1
 two : (2 : Fin n) ≠ 0
 ns : ∀ s : Fin n,c ≠ s * s
theorem Ed.one (H : Ed c) : (1 : Fin n) ≠ 0 := by
 intro h
 apply H.two
 grobner
theorem Ed.nz (H : Ed c) {x y : Fin n} (hx : x ≠ 0) (hy : y ≠ 0) : x * y ≠ 0 := by
 intro h
 obtain ⟨z,hz⟩ := H.inv x hx
 apply hy
 have : y = z * (x * y) := by grobner
 rw [this,h]
 grobner
theorem Ed.can (H : Ed c) {a b u : Fin n} (hu : u ≠ 0) (h : a * u = b * u) : a = b := by
 obtain ⟨z,hz⟩ := H.inv u hu
 have h1 : a = a * u * z := by grobner
 have h2 : b = b * u * z := by grobner
 rw [h1,h2,h]
theorem Ed.left (_ : Ed c) {x y : Fin n} (h : x * y ≠ 0) : x ≠ 0 := by
 rintro rfl
 apply h
 grobner
theorem Ed.right (_ : Ed c) {x y : Fin n} (h : x * y ≠ 0) : y ≠ 0 := by
 rintro rfl
 apply h
 grobner
theorem Ed.root (H : Ed c) {s k : Fin n} (hk : k ≠ 0) (h : s * s = c * (k * k)) : False := by
 obtain ⟨z,hz⟩ := H.inv k hk
 apply H.ns (s * z)
 have : s * z * (s * z) = c * (k * z) * (k * z) := by grobner
 rw [this,hz]
 grobner
def On (c x y : Fin n) : Prop := x * x + y * y = 1 + c * (x * x) * (y * y)
theorem den (H : Ed c) {x1 y1 x2 y2 : Fin n} (h1 : On c x1 y1) (h2 : On c x2 y2) : 1 + c * x1 * x2 * y1 * y2 ≠ 0 := by
 intro e
 unfold On at h1 h2
 have one := H.one
 have nz : x1 * y1 * (x2 * y2) ≠ 0 := by
  intro h
  apply one
  have : c * x1 * x2 * y1 * y2 = c * (x1 * y1 * (x2 * y2)) := by grobner
  rw [this,h] at e
  grobner
 have nz1 := H.left nz
 have nz2 := H.right nz
 have r1 : (x1 - y1) * (x1 - y1) = c * ((x1 * y1 * (x2 + y2)) * (x1 * y1 * (x2 + y2))) := by grobner
 have r2 : (x1 + y1) * (x1 + y1) = c * ((x1 * y1 * (x2 - y2)) * (x1 * y1 * (x2 - y2))) := by grobner
 by_cases k1 : x2 + y2 = 0
 ·by_cases k2 : x2 - y2 = 0
  ·have : (2 : Fin n) * y2 = 0 := by grobner
   exact H.nz H.two (H.right nz2) this
  ·exact H.root (H.nz nz1 k2) r2
 ·exact H.root (H.nz nz1 k1) r1
theorem On.neg {x y : Fin n} (h : On c x y) : On c (-x) y := by
 unfold On at *
 grobner
theorem E4 (H : Ed c) {x1 y1 x2 y2 : Fin n} (h1 : On c x1 y1) (h2 : On c x2 y2) : 1 - c * x1 * x2 * y1 * y2 ≠ 0 := by
 have := den H h1.neg h2
 intro e
 apply this
 grobner
structure Sum (c x1 y1 x2 y2 x y : Fin n) : Prop where
 sx : x * (1 + c * x1 * x2 * y1 * y2) = x1 * y2 + y1 * x2
 sy : y * (1 - c * x1 * x2 * y1 * y2) = y1 * y2 - x1 * x2
theorem on_id {x1 y1 x2 y2 : Fin n} (h1 : On c x1 y1) (h2 : On c x2 y2) :
  (x1 * y2 + y1 * x2) * (x1 * y2 + y1 * x2) * ((1 - c * x1 * x2 * y1 * y2) * (1 - c * x1 * x2 * y1 * y2)) + (y1 * y2 - x1 * x2) * (y1 * y2 - x1 * x2) * ((1 + c * x1 * x2 * y1 * y2) * (1 + c * x1 * x2 * y1 * y2)) = ((1 + c * x1 * x2 * y1 * y2) * (1 - c * x1 * x2 * y1 * y2)) * ((1 + c * x1 * x2 * y1 * y2) * (1 - c * x1 * x2 * y1 * y2)) + c * ((x1 * y2 + y1 * x2) * (x1 * y2 + y1 * x2)) * ((y1 * y2 - x1 * x2) * (y1 * y2 - x1 * x2)) := by
 unfold On at *
 grobner
theorem Sum.on (H : Ed c) {x1 y1 x2 y2 x y : Fin n} (h1 : On c x1 y1) (h2 : On c x2 y2) (h : Sum c x1 y1 x2 y2 x y) : On c x y := by
 have d1 := den H h1 h2
 have d2 := E4 H h1 h2
 obtain ⟨sx,sy⟩ := h
 have key := on_id h1 h2
 refine H.can (u := ((1 + c * x1 * x2 * y1 * y2) * (1 - c * x1 * x2 * y1 * y2)) * ((1 + c * x1 * x2 * y1 * y2) * (1 - c * x1 * x2 * y1 * y2))) (H.nz (H.nz d1 d2) (H.nz d1 d2)) ?_
 rw [<- sx,<- sy] at key
 generalize 1 + c * x1 * x2 * y1 * y2 = a at *
 generalize 1 - c * x1 * x2 * y1 * y2 = b at *
 clear h1 h2 d1 d2 sx sy
 grobner
theorem Sum.exists (H : Ed c) {x1 y1 x2 y2 : Fin n} (h1 : On c x1 y1) (h2 : On c x2 y2) : ∃ x y,Sum c x1 y1 x2 y2 x y := by
 obtain ⟨i,hi⟩ := H.inv _ (den H h1 h2)
 obtain ⟨j,hj⟩ := H.inv _ (E4 H h1 h2)
 refine ⟨(x1 * y2 + y1 * x2) * i,(y1 * y2 - x1 * x2) * j,?_,?_⟩
 ·generalize 1 + c * x1 * x2 * y1 * y2 = a at *
  grobner
 ·generalize 1 - c * x1 * x2 * y1 * y2 = a at *
  grobner
theorem Sum.unique (H : Ed c) {x1 y1 x2 y2 x y x' y' : Fin n} (h1 : On c x1 y1) (h2 : On c x2 y2) (h : Sum c x1 y1 x2 y2 x y) (h' : Sum c x1 y1 x2 y2 x' y') : x = x'/\y = y' :=
 ⟨H.can (den H h1 h2) (h.sx.trans h'.sx.symm),H.can (E4 H h1 h2) (h.sy.trans h'.sy.symm)⟩
theorem Sum.comm {x1 y1 x2 y2 x y : Fin n} (h : Sum c x1 y1 x2 y2 x y) : Sum c x2 y2 x1 y1 x y := by
 obtain ⟨sx,sy⟩ := h
 exact ⟨by grobner,by grobner⟩
theorem Sum.turn {x1 y1 x2 y2 x y : Fin n} (h : Sum c x1 y1 x2 y2 x y) : Sum c x1 y1 y2 (-x2) y (-x) := by
 obtain ⟨sx,sy⟩ := h
 exact ⟨by grobner,by grobner⟩
theorem On.turn {x y : Fin n} (h : On c x y) : On c y (-x) := by
 unfold On at *
 grobner
theorem j0z {x1 y1 x2 y2 x3 y3 : Fin n} (h1 : On c x1 y1) (h2 : On c x2 y2) (h3 : On c x3 y3) :
  ((x1 * y2 + y1 * x2) * (1 - c * x1 * x2 * y1 * y2) * y3 + (y1 * y2 - x1 * x2) * (1 + c * x1 * x2 * y1 * y2) * x3) * ((1 + c * x2 * x3 * y2 * y3) * (1 - c * x2 * x3 * y2 * y3) + c * x1 * y1 * (x2 * y3 + y2 * x3) * (y2 * y3 - x2 * x3)) =
  (x1 * (y2 * y3 - x2 * x3) * (1 + c * x2 * x3 * y2 * y3) + y1 * (x2 * y3 + y2 * x3) * (1 - c * x2 * x3 * y2 * y3)) * ((1 + c * x1 * x2 * y1 * y2) * (1 - c * x1 * x2 * y1 * y2) + c * x3 * y3 * (x1 * y2 + y1 * x2) * (y1 * y2 - x1 * x2)) := by
 unfold On at *
 grobner
theorem M9 (H : Ed c) {x1 y1 x2 y2 x3 y3 xa ya xb yb x y x' y' : Fin n} (h1 : On c x1 y1) (h2 : On c x2 y2) (h3 : On c x3 y3) (ha : Sum c x1 y1 x2 y2 xa ya) (hb : Sum c x2 y2 x3 y3 xb yb) (h : Sum c xa ya x3 y3 x y) (h' : Sum c x1 y1 xb yb x' y') : x = x' := by
 have ona := ha.on H h1 h2
 have onb := hb.on H h2 h3
 have k := j0z h1 h2 h3
 have a1 := den H h1 h2
 have a2 := E4 H h1 h2
 have b1 := den H h2 h3
 have b2 := E4 H h2 h3
 have d1 := den H ona h3
 have d2 := den H h1 onb
 have sx := h.sx
 have sx' := h'.sx
 rw [<- ha.sx,<- ha.sy,<- hb.sx,<- hb.sy] at k
 generalize 1 + c * x1 * x2 * y1 * y2 = p1 at *
 generalize 1 - c * x1 * x2 * y1 * y2 = p2 at *
 generalize 1 + c * x2 * x3 * y2 * y3 = q1 at *
 generalize 1 - c * x2 * x3 * y2 * y3 = q2 at *
 have e1 : xa * p1 * p2 * y3 + ya * p2 * p1 * x3 = x * (1 + c * xa * x3 * ya * y3) * (p1 * p2) := by rw [sx]; grobner
 have e2 : x1 * (yb * q2) * q1 + y1 * (xb * q1) * q2 = x' * (1 + c * x1 * xb * y1 * yb) * (q1 * q2) := by rw [sx']; grobner
 have e3 : q1 * q2 + c * x1 * y1 * (xb * q1) * (yb * q2) = (1 + c * x1 * xb * y1 * yb) * (q1 * q2) := by grobner
 have e4 : p1 * p2 + c * x3 * y3 * (xa * p1) * (ya * p2) = (1 + c * xa * x3 * ya * y3) * (p1 * p2) := by grobner
 rw [e1,e2,e3,e4] at k
 generalize 1 + c * xa * x3 * ya * y3 = r1 at *
 generalize 1 + c * x1 * xb * y1 * yb = r2 at *
 refine H.can (u := (r1 * (p1 * p2)) * (r2 * (q1 * q2))) (H.nz (H.nz d1 (H.nz a1 a2)) (H.nz d2 (H.nz b1 b2))) ?_
 clear e1 e2 e3 e4 sx sx' h1 h2 h3 ha hb h h' ona onb a1 a2 b1 b2 d1 d2
 grobner
structure Pt (c : Fin n) where
 x : Fin n
 y : Fin n
 on : On c x y
theorem Pt.ext' {P Q : Pt c} (h1 : P.x = Q.x) (h2 : P.y = Q.y) : P = Q := by
 cases P
 cases Q
 simp only at h1 h2
 subst h1 h2
 rfl
noncomputable def add (H : Ed c) (P Q : Pt c) : Pt c :=
 ⟨(Sum.exists H P.on Q.on).choose,(Sum.exists H P.on Q.on).choose_spec.choose,Sum.on H P.on Q.on (Sum.exists H P.on Q.on).choose_spec.choose_spec⟩
theorem uW (H : Ed c) (P Q : Pt c) : Sum c P.x P.y Q.x Q.y (add H P Q).x (add H P Q).y := (Sum.exists H P.on Q.on).choose_spec.choose_spec
theorem iH (H : Ed c) {P Q R : Pt c} (h : Sum c P.x P.y Q.x Q.y R.x R.y) : add H P Q = R :=
 Pt.ext' ((uW H P Q).unique H P.on Q.on h).1 ((uW H P Q).unique H P.on Q.on h).2
theorem add_comm (H : Ed c) (P Q : Pt c) : add H P Q = add H Q P := iH H (uW H Q P).comm
theorem add_assoc (H : Ed c) (P Q R : Pt c) : add H (add H P Q) R = add H P (add H Q R) := by
 have ha := uW H P Q
 have hb := uW H Q R
 have h := uW H (add H P Q) R
 have h' := uW H P (add H Q R)
 exact Pt.ext' (M9 H P.on Q.on R.on ha hb h h') (M9 H P.on Q.on R.on.turn ha hb.turn h.turn h'.turn)
def zer : Pt c := ⟨0,1,by unfold On; grobner⟩
def Pt.neg (P : Pt c) : Pt c := ⟨-P.x,P.y,P.on.neg⟩
theorem eS (H : Ed c) (P : Pt c) : add H zer P = P := iH H ⟨by simp only [zer]; grobner,by simp only [zer]; grobner⟩
theorem w1q (H : Ed c) (P : Pt c) : add H P zer = P := by rw [add_comm,eS]
theorem v1q (H : Ed c) (P : Pt c) : add H P P.neg = zer := by
 have := P.on
 unfold On at this
 exact iH H ⟨by simp only [zer,Pt.neg]; grobner,by simp only [zer,Pt.neg]; grobner⟩
noncomputable def mul (H : Ed c) (P : Pt c) : Nat->Pt c
 | 0 => zer
 | k + 1 => add H (mul H P k) P
theorem mul_one (H : Ed c) (P : Pt c) : mul H P 1 = P := eS H P
theorem mul_add (H : Ed c) (P : Pt c) (a : Nat) : ∀ b,mul H P (a + b) = add H (mul H P a) (mul H P b)
 | 0 => (w1q H _).symm
 | b + 1 => by rw [<- Nat.add_assoc,mul,mul_add H P a b,mul,add_assoc]
theorem eT (H : Ed c) (P : Pt c) (a : Nat) : ∀ b,mul H P (a * b) = mul H (mul H P a) b
 | 0 => rfl
 | b + 1 => by rw [Nat.mul_succ,mul_add,eT H P a b,mul]
theorem N9 (H : Ed c) : ∀ b,mul H (zer : Pt c) b = zer
 | 0 => rfl
 | b + 1 => by rw [mul,N9 H b,eS]
theorem u1q (H : Ed c) (P : Pt c) (a b : Nat) (h1 : mul H P a = zer) (h2 : mul H P b = zer) : mul H P (Nat.gcd a b) = zer := by
 induction a,b using Nat.gcd.induction with
 | H0 b => rw [Nat.gcd_zero_left]; exact h2
 | H1 a b ha ih =>
  rw [Nat.gcd_rec]
  refine ih ?_ h1
  have e : mul H P b = add H (mul H P (a * (b / a))) (mul H P (b % a)) := by rw [<- mul_add,Nat.div_add_mod]
  rw [eT,h1,N9,eS] at e
  rw [<- e,h2]
theorem k1q (H : Ed c) {P : Pt c} {l : Nat} (hl : Pr l) (h : mul H P l = zer) (hp : P ≠ zer) {k : Nat} (hk : mul H P k = zer) : l ∣ k := by
 apply Classical.byContradiction
 intro d
 have g := u1q H P l k h hk
 rw [hl.cop d,mul_one] at g
 exact hp g
end Go.Num
namespace Go.Num
variable {n : Nat} [NeZero n] {c : Fin n}
structure Mo (c : Fin n) : Prop where
 ed : Ed c
 ac : 486664 * c = (486660 : Fin n)
 a0 : (486664 : Fin n) ≠ 0
def Rep (X Z y : Fin n) : Prop := ∃ l,l ≠ 0/\X = l * (1 + y)/\Z = l * (1 - y)
theorem den1 (H : Ed c) (y : Fin n) : 1 - c * (y * y) ≠ 0 := by
 intro e
 have y0 : y ≠ 0 := by
  rintro rfl
  apply H.one
  grobner
 obtain ⟨z,hz⟩ := H.inv y y0
 apply H.ns z
 have : c = c * (y * y) * (z * z) := by grobner
 have e : c * (y * y) = 1 := by grobner
 rw [this,e]
 grobner
theorem f2j {x y y2 : Fin n} (on : On c x y) (s : y2 * (1 - c * x * x * y * y) = y * y - x * x) (ac : 486664 * c = (486660 : Fin n)) :
  486664 * ((1 - c * x * x * y * y) * (1 - c * (y * y))) * (1 + y2) = 8 * (y * y)/\486664 * ((1 - c * x * x * y * y) * (1 - c * (y * y))) * (1 - y2) = 8 * ((1 - y * y) * (1 + 121665 * (1 - y * y))) := by
 unfold On at on
 constructor
 ·grobner
 ·grobner
theorem dbl (M : Mo c) {X Z x y y2 : Fin n} (on : On c x y) (h : Rep X Z y) (s : y2 * (1 - c * x * x * y * y) = y * y - x * x) :
  Rep ((X + Z) * (X + Z) * ((X - Z) * (X - Z))) (((X + Z) * (X + Z) - (X - Z) * (X - Z)) * ((X + Z) * (X + Z) + 121665 * ((X + Z) * (X + Z) - (X - Z) * (X - Z)))) y2 := by
 obtain ⟨l,l0,rfl,rfl⟩ := h
 obtain ⟨e1,e2⟩ := f2j on s M.ac
 have w := E4 M.ed on on
 have v := den1 M.ed y
 have k := M.ed.nz M.a0 (M.ed.nz w v)
 generalize 486664 * ((1 - c * x * x * y * y) * (1 - c * (y * y))) = q at *
 have l2 := M.ed.nz (M.ed.nz l0 l0) (M.ed.nz l0 l0)
 refine ⟨2 * (l * l * (l * l)) * q,M.ed.nz (M.ed.nz M.ed.two l2) k,?_,?_⟩
 ·clear e2 s on w v k l2 l0 M
  have : 2 * (l * l * (l * l)) * q * (1 + y2) = 2 * (l * l * (l * l)) * (q * (1 + y2)) := by grobner
  rw [this,e1]
  clear this e1
  grobner
 ·clear e1 s on w v k l2 l0 M
  have : 2 * (l * l * (l * l)) * q * (1 - y2) = 2 * (l * l * (l * l)) * (q * (1 - y2)) := by grobner
  rw [this,e2]
  clear this e2
  grobner
theorem e2j {x1 y1 x2 y2 : Fin n} (h1 : On c x1 y1) (h2 : On c x2 y2) :
  (1 - c * (y1 * y1)) * (1 - c * (y2 * y2)) * ((1 - c * x1 * x2 * y1 * y2 + (y1 * y2 - x1 * x2)) * (1 + c * x1 * x2 * y1 * y2 + (y1 * y2 + x1 * x2)) * ((y1 - y2) * (y1 - y2))) =
  (1 - c * (y1 * y1)) * (1 - c * (y2 * y2)) * ((1 - c * x1 * x2 * y1 * y2 - (y1 * y2 - x1 * x2)) * (1 + c * x1 * x2 * y1 * y2 - (y1 * y2 + x1 * x2)) * ((y1 + y2) * (y1 + y2))) := by
 unfold On at h1 h2
 grobner
theorem j1q (H : Ed c) {x1 y1 x2 y2 ys yd : Fin n} (h1 : On c x1 y1) (h2 : On c x2 y2) (s : ys * (1 - c * x1 * x2 * y1 * y2) = y1 * y2 - x1 * x2) (d : yd * (1 + c * x1 * x2 * y1 * y2) = y1 * y2 + x1 * x2) :
  (1 + ys) * (1 + yd) * ((y1 - y2) * (y1 - y2)) = (1 - ys) * (1 - yd) * ((y1 + y2) * (y1 + y2)) := by
 have k := e2j h1 h2
 have a := den H h1 h2
 have b := E4 H h1 h2
 have v1 := den1 H y1
 have v2 := den1 H y2
 rw [<- s,<- d] at k
 generalize 1 + c * x1 * x2 * y1 * y2 = p at *
 generalize 1 - c * x1 * x2 * y1 * y2 = q at *
 generalize 1 - c * (y1 * y1) = r at *
 generalize 1 - c * (y2 * y2) = t at *
 refine H.can (u := r * t * (p * q)) (H.nz (H.nz v1 v2) (H.nz a b)) ?_
 clear a b v1 v2 s d h1 h2 H
 grobner
theorem q1q : (16 : Fin n) = 2 * 2 * (2 * 2) := by grobner
theorem Ed.six (H : Ed c) : (16 : Fin n) ≠ 0 := by
 rw [q1q]
 exact H.nz (H.nz H.two H.two) (H.nz H.two H.two)
theorem dad (H : Ed c) {X2 Z2 X3 Z3 u x1 y1 x2 y2 ys yd : Fin n} (h1 : On c x1 y1) (h2 : On c x2 y2) (r1 : Rep X2 Z2 y1) (r2 : Rep X3 Z3 y2) (s : ys * (1 - c * x1 * x2 * y1 * y2) = y1 * y2 - x1 * x2) (d : yd * (1 + c * x1 * x2 * y1 * y2) = y1 * y2 + x1 * x2)
  (hu : u * (1 - yd) = 1 + yd) (u0 : u ≠ 0) (d0 : 1 - yd ≠ 0) :
  Rep (((X3 - Z3) * (X2 + Z2) + (X3 + Z3) * (X2 - Z2)) * ((X3 - Z3) * (X2 + Z2) + (X3 + Z3) * (X2 - Z2))) (u * (((X3 - Z3) * (X2 + Z2) - (X3 + Z3) * (X2 - Z2)) * ((X3 - Z3) * (X2 + Z2) - (X3 + Z3) * (X2 - Z2)))) ys := by
 have k := j1q H h1 h2 s d
 have k2 : (1 + ys) * (u * ((y1 - y2) * (y1 - y2))) = (1 - ys) * ((y1 + y2) * (y1 + y2)) := by
  refine H.can d0 ?_
  rw [<- hu] at k
  clear hu h1 h2 s d r1 r2 u0 d0 H
  grobner
 obtain ⟨half,hh⟩ := H.inv _ H.two
 have nz : ¬ ((y1 + y2) * (y1 + y2) = 0/\u * ((y1 - y2) * (y1 - y2)) = 0) := by
  rintro ⟨e1,e2⟩
  have a1 : y1 + y2 = 0 := Classical.byContradiction fun h => H.nz h h e1
  have a2 : y1 - y2 = 0 := Classical.byContradiction fun h => H.nz u0 (H.nz h h) e2
  have b1 : y1 = 0 := Classical.byContradiction fun h => H.nz H.two h (by clear hu h1 h2 s d; grobner)
  have b2 : y2 = 0 := by rw [b1] at a1; clear hu h1 h2 s d; grobner
  subst b1 b2
  unfold On at h1 h2
  have q1 : x1 * x1 = 1 := by clear hu h2 s d; grobner
  have q2 : x2 * x2 = 1 := by clear hu h1 s d; grobner
  have q3 : yd = x1 * x2 := by clear hu h1 h2 s; grobner
  have q4 : (1 - yd) * (1 + yd) = 0 := by rw [q3]; clear hu h1 h2 s d; grobner
  rw [<- hu] at q4
  exact H.nz d0 (H.nz u0 d0) q4
 obtain ⟨l,l0,rfl,rfl⟩ := r1
 obtain ⟨m,m0,rfl,rfl⟩ := r2
 have lm := H.nz (H.nz l0 l0) (H.nz m0 m0)
 have four := H.six
 clear h1 h2 s d hu k
 generalize hA : (y1 + y2) * (y1 + y2) = A at *
 generalize hB : u * ((y1 - y2) * (y1 - y2)) = B at *
 have eA : A = half * (A + B) * (1 + ys) := by clear hA hB; grobner
 have eB : B = half * (A + B) * (1 - ys) := by clear hA hB; grobner
 refine ⟨16 * (l * l * (m * m)) * (half * (A + B)),H.nz (H.nz four lm) ?_,?_,?_⟩
 ·intro z
  rw [z] at eA eB
  exact nz ⟨by rw [eA]; grobner,by rw [eB]; grobner⟩
 ·have : 16 * (l * l * (m * m)) * (half * (A + B)) * (1 + ys) = 16 * (l * l * (m * m)) * (half * (A + B) * (1 + ys)) := by grobner
  rw [this,<- eA,<- hA]
  clear this eA eB hA hB nz k2 four lm
  grobner
 ·have : 16 * (l * l * (m * m)) * (half * (A + B)) * (1 - ys) = 16 * (l * l * (m * m)) * (half * (A + B) * (1 - ys)) := by grobner
  rw [this,<- eB,<- hB]
  clear this eA eB hA hB nz k2 four lm
  grobner
end Go.Num
