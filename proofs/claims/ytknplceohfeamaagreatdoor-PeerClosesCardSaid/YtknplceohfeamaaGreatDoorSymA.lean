/- A machine of what is known of values: what each operation does to it, and that this is what the model does. -/
import Derived.Calls
import Derived.Orders
import Derived.Laws.Cells
import Derived.Laws.AppendOwn
import Derived.Laws.StructEq
set_option linter.unusedVariables false
set_option linter.unusedSimpArgs false
namespace Go.Sym
inductive Cap where
 | kn (c : Nat)
 | un
 | ow
 /-- Own, and what is there may reach beyond the slice. -/
 | os
 /-- Own, from a place on. -/
 | ox
 deriving DecidableEq,Inhabited
inductive NL where
 | unk
 | is (b : Bool)
 deriving DecidableEq,Inhabited
inductive AV where
 | any
 | bool (b : Bool)
 | u8 (x : BitVec 8)
 | u16 (x : BitVec 16)
 | u32 (x : BitVec 32)
 | u64 (x : BitVec 64)
 | int (k : IntKind) (n : Int)
 | str (l : List (BitVec 8))
 | nilp
 | nils
 | ptr (i x sz c : Nat)
 | slice (i x sz n : Nat) (c : Cap) (nl : NL)
 | rb (p : Bool) (l : List (BitVec 8)) (nl : NL)
 | ros (p : Bool) (sz n : Nat) (g : Nat->List AV) (nl : NL)
 | rp (p : Bool) (cs : List AV)
 | agg (cs : List AV)
 | tup (vs : List AV)
 | fn (f : FuncId) (first caps : List AV)
 | raw (v : Value)
 /-- A map: the number of its block. -/
 | mp (i : Nat)
 deriving Inhabited
mutual
def AV.data (p : Bool) : AV->Bool
 | .ptr _ _ _ _ => false
 | .slice _ _ _ _ _ _ => false
 | .mp _ => false
 | .rb q _ _ => q || !p
 | .ros q _ _ _ _ => q || !p
 | .rp q cs => q || !p
 | .agg cs => zT p cs
 | .tup cs => zT p cs
 | .fn _ a b => zT p a && zT p b
 | _ => true
def zT (p : Bool) : List AV->Bool
 | [] => true
 | a::as => a.data p && zT p as
end
def zM (l : List (BitVec 8)) : ByteArray := ⟨(l.map UInt8.ofBitVec).toArray⟩
def wA (s : ByteArray) : List (BitVec 8) := s.data.toList.map UInt8.toBitVec
theorem uD (l : List (BitVec 8)) : wA (zM l) = l := by
 simp [wA,zM,Function.comp_def]
theorem qB (s : ByteArray) : zM (wA s) = s := by
 have : (s.data.toList.map UInt8.toBitVec).map UInt8.ofBitVec = s.data.toList := by
  rw [List.map_map]; simp [Function.comp_def]
 simp only [zM,wA,this]
theorem bytesStr_inj {l k : List (BitVec 8)} (h : zM l = zM k) : l = k := by
 rw [<- uD l,h,uD]
theorem wN (l : List (BitVec 8)) : (zM l).size = l.length := by simp [zM,ByteArray.size]
abbrev Mem := Addr->Option Value
structure Ker where
 ρ : Nat->Option (Nat × Nat)
 cap : Nat->Nat
 m : Mem
 v : Mem
 sub : ∀ a x,m a = some x->v a = some x
def Ker.mem (κ : Ker) (p : Bool) : Mem := match p with | true => κ.m | false => κ.v
def CapR (κ : Ker) (i x : Nat) (c : Cap) (k : Nat) : Prop :=
 match c with
 | .kn m => k = m
 | .un => True
 | .ow => x = 0/\k = κ.cap i/\(κ.ρ i).isSome
 | .os => x = 0/\k = κ.cap i/\(κ.ρ i).isSome
 | .ox => k + x = κ.cap i/\(κ.ρ i).isSome
def bJ (nl : NL) (a : Option Addr) : Prop :=
 match nl with
 | .unk => True
 | .is b => b = a.isNone
mutual
def VRel (κ : Ker) : AV->Value->Prop
 | .any,_ => True
 | .bool b,v => v = .bool b
 | .u8 x,v => v = .int .u8 x.toNat
 | .u16 x,v => v = .int .u16 x.toNat
 | .u32 x,v => v = .int .u32 x.toNat
 | .u64 x,v => v = .int .u64 x.toNat
 | .int k n,v => v = .int k n
 | .str l,v => v = .string (zM l)
 | .nilp,v => v = .pointer none
 | .nils,v => v = .slice none 0 0
 | .ptr i x sz c,v => ∃ B O,κ.ρ i = some (B,O)/\v = .pointer (some ⟨B,O + (x * sz + c),none⟩)
 | .slice i x sz n c nl,v => ∃ a k,v = .slice a n k/\n<=k/\bJ nl a/\CapR κ i x c k/\((∃ B O,κ.ρ i = some (B,O)/\a = some ⟨B,O + x * sz,none⟩) \/ (n = 0/\k = 0))
 | .rb p l nl,v => ∃ a k,v = .slice a l.length k/\l.length<=k/\bJ nl a/\(l = [] \/ ∃ B O,a = some ⟨B,O,none⟩/\∀ (j : Nat) b,l[j]? = some b->κ.mem p ⟨B,O + j,none⟩ = some (.int .u8 b.toNat))
 | .ros p sz n g nl,v => ∃ a k,v = .slice a n k/\n<=k/\bJ nl a/\(n = 0 \/ ∃ B O,a = some ⟨B,O,none⟩/\∀ j,j < n->zT p (g j) = true/\∃ xs : List Value,VRels κ (g j) xs/\∀ (c : Nat) x,xs[c]? = some x->κ.mem p ⟨B,O + (j * sz + c),none⟩ = some x)
 | .rp p cs,v => zT p cs = true/\∃ B O,∃ xs : List Value,v = .pointer (some ⟨B,O,none⟩)/\VRels κ cs xs/\∀ (c : Nat) x,xs[c]? = some x->κ.mem p ⟨B,O + c,none⟩ = some x
 | .agg cs,v => ∃ vs : Array Value,v = .agg vs/\VRels κ cs vs.toList
 | .tup cs,v => ∃ vs : Array Value,v = .tuple vs/\VRels κ cs vs.toList
 | .fn f first caps,v => ∃ vs us : Array Value,v = .func (.func f) vs us/\VRels κ first vs.toList/\VRels κ caps us.toList
 | .raw u,v => v = u
 | .mp i,v => ∃ B O,κ.ρ i = some (B,O)/\v = .map (some B)
def VRels (κ : Ker) : List AV->List Value->Prop
 | [],vs => vs = []
 | a::as,vs => ∃ x xs,vs = x::xs/\VRel κ a x/\VRels κ as xs
end
structure Ker.le (κ κ' : Ker) : Prop where
 ρ : ∀ i p,κ.ρ i = some p->κ'.ρ i = some p
 cap : ∀ i,(κ.ρ i).isSome->κ'.cap i = κ.cap i
 m : ∀ a x,κ.m a = some x->κ'.m a = some x
 v : ∀ a x,κ.v a = some x->κ'.v a = some x
theorem Ker.le_refl (κ : Ker) : κ.le κ := ⟨fun _ _ h => h,fun _ _ => rfl,fun _ _ h => h,fun _ _ h => h⟩
theorem Ker.le_trans {a b c : Ker} (h : a.le b) (k : b.le c) : a.le c :=
  ⟨fun i p hp => k.ρ i p (h.ρ i p hp),fun i hi => by
    rw [k.cap i (by obtain ⟨p,hp⟩ := Option.isSome_iff_exists.1 hi; rw [h.ρ i p hp]; rfl),h.cap i hi],
   fun x y hx => k.m x y (h.m x y hx),fun x y hx => k.v x y (h.v x y hx)⟩
theorem Ker.le.mem {κ κ' : Ker} (h : κ.le κ') (p : Bool) (a : Addr) (x : Value) (hx : κ.mem p a = some x) : κ'.mem p a = some x := by
 cases p
 ·exact h.v a x hx
 ·exact h.m a x hx
theorem CapR.mono {κ κ' : Ker} (h : κ.le κ') {i x : Nat} {c : Cap} {k : Nat} (hc : CapR κ i x c k) : CapR κ' i x c k := by
 cases c with
 | kn m => exact hc
 | un => exact hc
 | ow =>
  obtain ⟨h1,h2,h3⟩ := hc
  refine ⟨h1,by rw [h.cap i h3]; exact h2,?_⟩
  obtain ⟨p,hp⟩ := Option.isSome_iff_exists.1 h3
  rw [h.ρ i p hp]; rfl
 | os =>
  obtain ⟨h1,h2,h3⟩ := hc
  refine ⟨h1,by rw [h.cap i h3]; exact h2,?_⟩
  obtain ⟨p,hp⟩ := Option.isSome_iff_exists.1 h3
  rw [h.ρ i p hp]; rfl
 | ox =>
  obtain ⟨h2,h3⟩ := hc
  refine ⟨by rw [h.cap i h3]; exact h2,?_⟩
  obtain ⟨p,hp⟩ := Option.isSome_iff_exists.1 h3
  rw [h.ρ i p hp]; rfl
mutual
theorem VRel.mono {κ κ' : Ker} (h : κ.le κ') : ∀ (a : AV) (v : Value),VRel κ a v->VRel κ' a v
 | .any,_,_ => trivial
 | .bool _,_,hv => hv
 | .u8 _,_,hv => hv
 | .u16 _,_,hv => hv
 | .u32 _,_,hv => hv
 | .u64 _,_,hv => hv
 | .int _ _,_,hv => hv
 | .str _,_,hv => hv
 | .nilp,_,hv => hv
 | .nils,_,hv => hv
 | .ptr i x sz c,v,hv => by
  obtain ⟨B,O,h1,h2⟩ := hv
  exact ⟨B,O,h.ρ _ _ h1,h2⟩
 | .slice i x sz n c nl,v,hv => by
  obtain ⟨a,k,h1,h2,h3,h4,h5⟩ := hv
  refine ⟨a,k,h1,h2,h3,h4.mono h,?_⟩
  rcases h5 with ⟨B,O,e1,e2⟩ | h0
  ·exact .inl ⟨B,O,h.ρ _ _ e1,e2⟩
  ·exact .inr h0
 | .rb p l nl,v,hv => by
  obtain ⟨a,k,h1,h2,h3,h4⟩ := hv
  refine ⟨a,k,h1,h2,h3,?_⟩
  rcases h4 with h0 | ⟨B,O,e1,e2⟩
  ·exact .inl h0
  ·exact .inr ⟨B,O,e1,fun j b hb => h.mem p _ _ (e2 j b hb)⟩
 | .ros p sz n g nl,v,hv => by
  obtain ⟨a,k,h1,h2,h3,h4⟩ := hv
  refine ⟨a,k,h1,h2,h3,?_⟩
  rcases h4 with h0 | ⟨B,O,e1,e2⟩
  ·exact .inl h0
  ·refine .inr ⟨B,O,e1,fun j hj => ?_⟩
   obtain ⟨hd,xs,hx,hc⟩ := e2 j hj
   exact ⟨hd,xs,VRels.mono h (g j) xs hx,fun c x hcx => h.mem p _ _ (hc c x hcx)⟩
 | .rp p cs,v,hv => by
  obtain ⟨hd,B,O,xs,h1,h2,h3⟩ := hv
  exact ⟨hd,B,O,xs,h1,VRels.mono h cs xs h2,fun c x hc => h.mem p _ _ (h3 c x hc)⟩
 | .agg cs,v,hv => by
  obtain ⟨vs,h1,h2⟩ := hv
  exact ⟨vs,h1,VRels.mono h cs _ h2⟩
 | .tup cs,v,hv => by
  obtain ⟨vs,h1,h2⟩ := hv
  exact ⟨vs,h1,VRels.mono h cs _ h2⟩
 | .fn f first caps,v,hv => by
  obtain ⟨vs,us,h1,h2,h3⟩ := hv
  exact ⟨vs,us,h1,VRels.mono h first _ h2,VRels.mono h caps _ h3⟩
 | .raw _,_,hv => hv
 | .mp i,v,hv => by
  obtain ⟨B,O,h1,h2⟩ := hv
  exact ⟨B,O,h.ρ _ _ h1,h2⟩
theorem VRels.mono {κ κ' : Ker} (h : κ.le κ') : ∀ (as : List AV) (vs : List Value),VRels κ as vs->VRels κ' as vs
 | [],_,hv => hv
 | a::as,vs,hv => by
  obtain ⟨x,xs,h1,h2,h3⟩ := hv
  exact ⟨x,xs,h1,VRel.mono h a x h2,VRels.mono h as xs h3⟩
end
theorem F5 {p q r : Bool} (h : (q || !p) = true) (k : (r || !q) = true) : (r || !p) = true := by cases p <;> cases q <;> cases r <;> simp_all
mutual
theorem AV.data_low {p q : Bool} (h : (q || !p) = true) : ∀ a : AV,a.data q = true->a.data p = true
 | .ptr _ _ _ _,k => k
 | .slice _ _ _ _ _ _,k => k
 | .mp _,k => k
 | .rb r _ _,k => F5 h k
 | .ros r _ _ _ _,k => F5 h k
 | .rp r _,k => F5 h k
 | .agg cs,k => uQ h cs k
 | .tup cs,k => uQ h cs k
 | .fn _ a b,k => by
  simp only [AV.data,Bool.and_eq_true] at k ⊢
  exact ⟨uQ h a k.1,uQ h b k.2⟩
 | .any,_ => rfl
 | .bool _,_ => rfl
 | .u8 _,_ => rfl
 | .u16 _,_ => rfl
 | .u32 _,_ => rfl
 | .u64 _,_ => rfl
 | .int _ _,_ => rfl
 | .str _,_ => rfl
 | .nilp,_ => rfl
 | .nils,_ => rfl
 | .raw _,_ => rfl
theorem uQ {p q : Bool} (h : (q || !p) = true) : ∀ as : List AV,zT q as = true->zT p as = true
 | [],_ => rfl
 | a::as,k => by
  simp only [zT,Bool.and_eq_true] at k ⊢
  exact ⟨AV.data_low h a k.1,uQ h as k.2⟩
end
theorem nF {p : Bool} : ∀ {as : List AV},zT p as = true->∀ {i : Nat} {a : AV},as[i]? = some a->a.data p = true
 | [],_,_,_,h => by simp at h
 | b::as,k,i,a,h => by
  simp only [zT,Bool.and_eq_true] at k
  cases i with
  | zero => simp at h; subst h; exact k.1
  | succ i => simp at h; exact nF k.2 h
theorem fV {p : Bool} : ∀ (n : Nat) {as : List AV},zT p as = true->zT p (as.drop n) = true
 | 0,_,h => h
 | n + 1,[],_ => rfl
 | n + 1,a::as,h => by
  simp only [zT,Bool.and_eq_true] at h
  exact fV n h.2
mutual
theorem VRel.data {κ κ2 : Ker} {p : Bool} (hm : ∀ q a x,(q || !p) = true->κ.mem q a = some x->κ2.mem q a = some x) : ∀ (a : AV) (v : Value),a.data p = true->VRel κ a v->VRel κ2 a v
 | .ptr _ _ _ _,_,k,_ => by simp [AV.data] at k
 | .slice _ _ _ _ _ _,_,k,_ => by simp [AV.data] at k
 | .mp _,_,k,_ => by simp [AV.data] at k
 | .rb q l nl,v,k,hv => by
  obtain ⟨a,c,h1,h2,h3,h4⟩ := hv
  refine ⟨a,c,h1,h2,h3,?_⟩
  rcases h4 with h0 | ⟨B,O,e1,e2⟩
  ·exact .inl h0
  ·exact .inr ⟨B,O,e1,fun j b hb => hm q _ _ k (e2 j b hb)⟩
 | .ros q sz n g nl,v,k,hv => by
  obtain ⟨a,c,h1,h2,h3,h4⟩ := hv
  refine ⟨a,c,h1,h2,h3,?_⟩
  rcases h4 with h0 | ⟨B,O,e1,e2⟩
  ·exact .inl h0
  ·refine .inr ⟨B,O,e1,fun j hj => ?_⟩
   obtain ⟨hd,xs,hx,hc⟩ := e2 j hj
   exact ⟨hd,xs,VRels.data hm (g j) xs (uQ k _ hd) hx,fun d x hdx => hm q _ _ k (hc d x hdx)⟩
 | .rp q cs,v,k,hv => by
  obtain ⟨hd,B,O,xs,h1,h2,h3⟩ := hv
  exact ⟨hd,B,O,xs,h1,VRels.data hm cs xs (uQ k _ hd) h2,fun d x hdx => hm q _ _ k (h3 d x hdx)⟩
 | .agg cs,v,k,hv => by
  obtain ⟨vs,h1,h2⟩ := hv
  exact ⟨vs,h1,VRels.data hm cs _ k h2⟩
 | .tup cs,v,k,hv => by
  obtain ⟨vs,h1,h2⟩ := hv
  exact ⟨vs,h1,VRels.data hm cs _ k h2⟩
 | .fn f a b,v,k,hv => by
  obtain ⟨vs,us,h1,h2,h3⟩ := hv
  simp only [AV.data,Bool.and_eq_true] at k
  exact ⟨vs,us,h1,VRels.data hm a _ k.1 h2,VRels.data hm b _ k.2 h3⟩
 | .any,_,_,_ => trivial
 | .bool _,_,_,hv => hv
 | .u8 _,_,_,hv => hv
 | .u16 _,_,_,hv => hv
 | .u32 _,_,_,hv => hv
 | .u64 _,_,_,hv => hv
 | .int _ _,_,_,hv => hv
 | .str _,_,_,hv => hv
 | .nilp,_,_,hv => hv
 | .nils,_,_,hv => hv
 | .raw _,_,_,hv => hv
theorem VRels.data {κ κ2 : Ker} {p : Bool} (hm : ∀ q a x,(q || !p) = true->κ.mem q a = some x->κ2.mem q a = some x) : ∀ (as : List AV) (vs : List Value),zT p as = true->VRels κ as vs->VRels κ2 as vs
 | [],_,_,hv => hv
 | a::as,vs,k,hv => by
  simp only [zT,Bool.and_eq_true] at k
  obtain ⟨x,xs,h1,h2,h3⟩ := hv
  exact ⟨x,xs,h1,VRel.data hm a x k.1 h2,VRels.data hm as xs k.2 h3⟩
end
section
variable {κ : Ker}
theorem VRels.length : ∀ {as : List AV} {vs : List Value},VRels κ as vs->as.length = vs.length
 | [],_,h => by simp only [VRels] at h; subst h; rfl
 | a::as,_,h => by
  obtain ⟨x,xs,rfl,_,h3⟩ := h
  simp [VRels.length h3]
theorem VRels.get : ∀ {as : List AV} {vs : List Value},VRels κ as vs->∀ {i : Nat} {a : AV},as[i]? = some a->∃ x,vs[i]? = some x/\VRel κ a x
 | [],_,_,i,a,hi => by simp at hi
 | b::as,_,h,i,a,hi => by
  obtain ⟨x,xs,rfl,h2,h3⟩ := h
  cases i with
  | zero => simp at hi; subst hi; exact ⟨x,by simp,h2⟩
  | succ i => simp at hi; simpa using VRels.get h3 hi
theorem VRels.of_get : ∀ {as : List AV} {vs : List Value},as.length = vs.length->(∀ (i : Nat) a x,as[i]? = some a->vs[i]? = some x->VRel κ a x)->VRels κ as vs
 | [],vs,hl,_ => by simp at hl; simp only [VRels]; exact (List.eq_nil_of_length_eq_zero hl.symm)
 | a::as,[],hl,_ => by simp at hl
 | a::as,x::xs,hl,h => ⟨x,xs,rfl,h 0 a x rfl rfl,VRels.of_get (by simpa using hl) (fun i b y hb hy => h (i + 1) b y (by simpa using hb) (by simpa using hy))⟩
theorem VRels.append : ∀ {as bs : List AV} {vs us : List Value},VRels κ as vs->VRels κ bs us->VRels κ (as++bs) (vs++us)
 | [],_,_,_,h,k => by simp only [VRels] at h; subst h; simpa using k
 | a::as,_,_,_,h,k => by
  obtain ⟨x,xs,rfl,h2,h3⟩ := h
  exact ⟨x,xs++_,rfl,h2,VRels.append h3 k⟩
theorem VRels.take (n : Nat) : ∀ {as : List AV} {vs : List Value},VRels κ as vs->VRels κ (as.take n) (vs.take n) := by
 induction n with
 | zero => intro as vs _; simp [VRels]
 | succ n ih =>
  intro as vs h
  cases as with
  | nil => simp only [VRels] at h; subst h; simp [VRels]
  | cons a as =>
   obtain ⟨x,xs,rfl,h2,h3⟩ := h
   exact ⟨x,xs.take n,rfl,h2,ih h3⟩
theorem VRels.drop (n : Nat) : ∀ {as : List AV} {vs : List Value},VRels κ as vs->VRels κ (as.drop n) (vs.drop n) := by
 induction n with
 | zero => intro as vs h; simpa using h
 | succ n ih =>
  intro as vs h
  cases as with
  | nil => simp only [VRels] at h; subst h; simp [VRels]
  | cons a as =>
   obtain ⟨x,xs,rfl,h2,h3⟩ := h
   simpa using ih h3
def AV.scal : AV->Bool
 | .any | .agg _ | .tup _ => false
 | .raw v => v.oneCell'
 | _ => true
theorem VRel.oneCell {a : AV} {v : Value} (h : VRel κ a v) (hs : a.scal = true) : v.oneCell' = true := by
 cases a <;> simp only [AV.scal,Bool.false_eq_true] at hs <;> simp only [VRel] at h
 case ptr => obtain ⟨B,O,_,rfl⟩ := h; rfl
 case slice => obtain ⟨a,k,rfl,_⟩ := h; rfl
 case rb => obtain ⟨a,k,rfl,_⟩ := h; rfl
 case ros => obtain ⟨a,k,rfl,_⟩ := h; rfl
 case rp => obtain ⟨_,B,O,xs,rfl,_⟩ := h; rfl
 case fn => obtain ⟨vs,us,rfl,_⟩ := h; rfl
 case mp => obtain ⟨B,O,_,rfl⟩ := h; rfl
 case raw => subst h; exact hs
 all_goals (subst h; rfl)
def AV.cells : AV->Option (List AV)
 | .agg cs => if cs.all AV.scal then some cs else none
 | a => if a.scal then some [a] else none
theorem VRel.cells {a : AV} {v : Value} {cs : List AV} (h : VRel κ a v) (hc : a.cells = some cs) :
  VRels κ cs v.cells.toList/\(∀ x ∈ v.cells.toList,x.oneCell' = true) := by
 have one : ∀ (b : AV),b.scal = true->VRel κ b v->VRels κ [b] v.cells.toList/\(∀ x ∈ v.cells.toList,x.oneCell' = true) := by
  intro b hb hv
  have h1 := hv.oneCell hb
  have hcells : v.cells = #[v] := by cases v <;> simp_all [Value.cells,Value.oneCell']
  rw [hcells]
  exact ⟨⟨v,[],rfl,hv,rfl⟩,by simpa using h1⟩
 cases a
 case agg as =>
  simp only [AV.cells] at hc
  split at hc
  ·rename_i hall
   simp at hc
   subst hc
   obtain ⟨vs,rfl,h2⟩ := h
   refine ⟨h2,?_⟩
   intro x hx
   simp only [Value.cells] at hx
   obtain ⟨i,hi⟩ := List.getElem?_of_mem hx
   have hlt : i < as.length := by
    rw [h2.length]; exact (List.getElem?_eq_some_iff.1 hi).1
   obtain ⟨y,hy,hr⟩ := h2.get (List.getElem?_eq_getElem hlt)
   rw [hi] at hy
   simp at hy
   subst hy
   exact hr.oneCell (List.all_eq_true.1 hall _ (List.getElem_mem hlt))
  ·simp at hc
 all_goals
  simp only [AV.cells] at hc
  split at hc
  ·rename_i hs
   simp at hc
   subst hc
   exact one _ hs h
  ·simp at hc
end
inductive Con where
 | cells (l : List AV)
 | bytes (l : List (BitVec 8))
 | rows (sz n : Nat) (g : Nat->List AV)
 /-- A map: its keys' form; which keys are there; what stands at them. -/
 | mp (ag : Nat) (p : List Int->Bool) (g : List Int->AV)
 deriving Inhabited
def Con.at : Con->Nat->Option AV
 | .cells l,o => l[o]?
 | .bytes l,o => (l[o]?).map .u8
 | .rows sz n g,o => if o < n * sz then (g (o / sz))[o % sz]? else none
 | .mp _ _ _,_ => none
def Con.len : Con->Nat
 | .cells l => l.length
 | .bytes l => l.length
 | .rows sz n _ => n * sz
 | .mp _ _ _ => 0
theorem Con.at_lt {c : Con} {o : Nat} {a : AV} (h : c.at o = some a) : o < c.len := by
 cases c with
 | cells l => exact (List.getElem?_eq_some_iff.1 h).1
 | bytes l =>
  simp only [Con.at,Option.map_eq_some_iff] at h
  obtain ⟨b,hb,_⟩ := h
  exact (List.getElem?_eq_some_iff.1 hb).1
 | rows sz n g =>
  simp only [Con.at] at h
  split at h
  ·assumption
  ·cases h
 | mp ag p g => simp [Con.at] at h
structure ABlk where
 con : Con
 wr : Bool
 own : Nat
 deriving Inhabited
abbrev H := Nat->Option ABlk
def upd (h : H) (i : Nat) (b : Option ABlk) : H := fun j => if j = i then b else h j
def H.le (h k : H) : Prop := ∀ i b,h i = some b->k i = some b
def H.empty : H := fun _ => none
def Marked (w : World) (B : Nat) : Prop := ∃ c t lo hi,w.heap[B]? = some (.cells c t (lo,hi))/\(lo = hi \/ c.size<=lo)
theorem Marked.same {w w' : World} {B : Nat} (h : Marked w B) (hs : w'.heap[B]? = w.heap[B]?) : Marked w' B := by
 obtain ⟨c,t,lo,hi,hc,h2⟩ := h
 exact ⟨c,t,lo,hi,by rw [hs]; exact hc,h2⟩
theorem Marked.setCell {w : World} {B : Nat} (h : Marked w B) (a : Addr) (v : Value) : Marked (w.setCell a v) B := by
 obtain ⟨c,t,lo,hi,hc,h2⟩ := h
 by_cases he : a.block = B
 ·refine ⟨if a.spot.isSome then c else c.setIfInBounds a.off v,t,lo,hi,?_,?_⟩
  ·simp only [World.setCell,Array.getElem?_modify,he,if_true,hc,Option.map_some]
  ·split
   ·exact h2
   ·simpa using h2
 ·exact ⟨c,t,lo,hi,by simp only [World.setCell,Array.getElem?_modify,he,if_false]; exact hc,h2⟩
def LiveB (κ : Ker) (i : Nat) (b : ABlk) : Prop := (∃ o a,b.con.at o = some a) \/ (0 < b.own/\0 < κ.cap i)
def Con.isMap : Con->Bool
 | .mp _ _ _ => true
 | _ => false
def vH (ag : Nat) (ks : List Int) : Value :=
 match ag with
 | 0 => .int .i64 (ks.headD 0)
 | _ => .agg (ks.map (Value.int .i64)).toArray
def C4 (ag : Nat) (ks : List Int) : Prop := ks.length = (match ag with | 0 => 1 | n => n)
structure EntR (κ : Ker) (ag : Nat) (p : List Int->Bool) (g : List Int->AV) (es : List MapEntry) : Prop where
 ent : ∀ e ∈ es,∃ ks,C4 ag ks/\e.key = vH ag ks/\p ks = true/\VRel κ (g ks) e.val
 has : ∀ ks,C4 ag ks->p ks = true->∃ e ∈ es,e.key = vH ag ks
 apart : es.Pairwise fun x y => x.key ≠ y.key
theorem EntR.mono {κ κ' : Ker} (hle : κ.le κ') {ag : Nat} {p : List Int->Bool} {g : List Int->AV} {es : List MapEntry} (h : EntR κ ag p g es) : EntR κ' ag p g es :=
 ⟨fun e he => by obtain ⟨ks,h1,h2,h3,h4⟩ := h.1 e he; exact ⟨ks,h1,h2,h3,h4.mono hle⟩,h.2,h.3⟩
structure MapR (M : Nat->Prop) (w : World) (κ : Ker) (h : H) : Prop where
 ent : ∀ i b ag p g,h i = some b->b.con = .mp ag p g->∃ B O es ck,κ.ρ i = some (B,O)/\M B/\w.heap[B]? = some (.map es ck)/\EntR κ ag p g es.toList
 sep : ∀ i j b b',h i = some b->h j = some b'->b.con.isMap = true->b'.con.isMap = true->i ≠ j->∀ B O B' O',κ.ρ i = some (B,O)->κ.ρ j = some (B',O')->B ≠ B'
theorem Con.isMap_eq {c : Con} (h : c.isMap = true) : ∃ ag p g,c = .mp ag p g := by
 cases c <;> simp [Con.isMap] at h
 exact ⟨_,_,_,rfl⟩
theorem MapR.none {M : Nat->Prop} {w : World} {κ : Ker} {h : H} (hn : ∀ i b,h i = some b->b.con.isMap = false) : MapR M w κ h where
 ent := fun i b ag p g hi hc => by have h1 := hn i b hi; rw [hc] at h1; cases h1
 sep := fun i j b b' hi hj hb _ _ _ _ _ _ _ _ => by rw [hn i b hi] at hb; cases hb
theorem MapR.of {M M' : Nat->Prop} {w w' : World} {κ κ' : Ker} {h h' : H} (r : MapR M w κ h) (hle : κ.le κ')
  (hb : ∀ i b,h' i = some b->b.con.isMap = true->h i = some b \/ ∃ b',h i = some b'/\b'.con = b.con)
  (hM : ∀ B es ck,M B->w.heap[B]? = some (.map es ck)->M' B)
  (hw : ∀ i b B O es ck,h i = some b->b.con.isMap = true->κ.ρ i = some (B,O)->w.heap[B]? = some (.map es ck)->w'.heap[B]? = some (.map es ck)) : MapR M' w' κ' h' := by
 have hb' : ∀ i b,h' i = some b->b.con.isMap = true->∃ b',h i = some b'/\b'.con = b.con := by
  intro i b hi hm
  rcases hb i b hi hm with h1 | h1
  ·exact ⟨b,h1,rfl⟩
  ·exact h1
 refine ⟨fun i b ag p g hi hc => ?_,fun i j b b' hi hj hm hm' hne B O B' O' h1 h2 => ?_⟩
 ·obtain ⟨b0,h0,e0⟩ := hb' i b hi (by rw [hc]; rfl)
  obtain ⟨B,O,es,ck,k1,k2,k3,k4⟩ := r.ent i b0 ag p g h0 (by rw [e0,hc])
  exact ⟨B,O,es,ck,hle.ρ _ _ k1,hM _ _ _ k2 k3,hw i b0 B O es ck h0 (by rw [e0,hc]; rfl) k1 k3,k4.mono hle⟩
 ·obtain ⟨b0,h0,e0⟩ := hb' i b hi hm
  obtain ⟨b1,h3,e1⟩ := hb' j b' hj hm'
  obtain ⟨ag,p,g,ec⟩ := Con.isMap_eq hm
  obtain ⟨ag',p',g',ec'⟩ := Con.isMap_eq hm'
  obtain ⟨C,D,_,_,k1,_⟩ := r.ent i b0 ag p g h0 (by rw [e0,ec])
  obtain ⟨C',D',_,_,k1',_⟩ := r.ent j b1 ag' p' g' h3 (by rw [e1,ec'])
  have e2 := hle.ρ _ _ k1
  have e3 := hle.ρ _ _ k1'
  rw [h1] at e2
  rw [h2] at e3
  simp only [Option.some.injEq,Prod.mk.injEq] at e2 e3
  obtain ⟨rfl,rfl⟩ := e2
  obtain ⟨rfl,rfl⟩ := e3
  exact r.sep i j b0 b1 h0 h3 (by rw [e0]; exact hm) (by rw [e1]; exact hm') hne _ _ _ _ k1 k1'
theorem MapR.upd {M : Nat->Prop} {w w' : World} {κ κ' : Ker} {h : H} (r : MapR M w κ h) (hle : κ.le κ') {f : Nat} {b : ABlk} (hm : b.con.isMap = false)
  (hw : ∀ i b B O es ck,h i = some b->b.con.isMap = true->κ.ρ i = some (B,O)->w.heap[B]? = some (.map es ck)->w'.heap[B]? = some (.map es ck)) : MapR M w' κ' (upd h f (some b)) :=
 r.of hle (fun i c hi hc => by
  unfold Go.Sym.upd at hi
  split at hi
  ·simp only [Option.some.injEq] at hi
   subst hi
   rw [hm] at hc; cases hc
  ·exact .inl hi) (fun _ _ _ h _ => h) hw
structure HRel (M : Nat->Prop) (w : World) (κ : Ker) (h : H) : Prop where
 blk : ∀ i b,h i = some b->∃ B O,κ.ρ i = some (B,O)/\(b.wr = true->LiveB κ i b->M B/\B < w.heap.size/\Marked w B/\(∀ a x,κ.v a = some x->a.block ≠ B)) /\
  ∀ off a,b.con.at off = some a->(∃ x,w.cell? ⟨B,O + off,none⟩ = some x/\VRel κ a x)/\(b.wr = true->w.frozen? ⟨B,O + off,none⟩ = false)
 sep : ∀ i j b b' B O B' O',h i = some b->h j = some b'->i ≠ j->b.wr = true->LiveB κ i b->LiveB κ j b'->κ.ρ i = some (B,O)->κ.ρ j = some (B',O')->B ≠ B'
 own : ∀ i b B O,h i = some b->0 < b.own->κ.ρ i = some (B,O)->b.wr = true/\b.con.len<=κ.cap i * b.own /\
  ∀ off,off < κ.cap i * b.own->(∃ x,w.cell? ⟨B,O + off,none⟩ = some x)/\w.frozen? ⟨B,O + off,none⟩ = false
 mem : ∀ a x,κ.v a = some x->w.cell? a = some x
 mp : MapR M w κ h
structure Only (M : Nat->Prop) (w w' : World) : Prop where
 os : w'.os = w.os
 tape : w'.tape = w.tape
 output : w'.output = w.output
 size : w.heap.size<=w'.heap.size
 block : ∀ k,k < w.heap.size->¬ M k->w'.heap[k]? = w.heap[k]?
theorem Only.refl (M : Nat->Prop) (w : World) : Only M w w := ⟨rfl,rfl,rfl,Nat.le_refl _,fun _ _ _ => rfl⟩
theorem Only.trans {M : Nat->Prop} {a b c : World} (h : Only M a b) (k : Only M b c) : Only M a c :=
 ⟨k.os.trans h.os,k.tape.trans h.tape,k.output.trans h.output,Nat.le_trans h.size k.size,fun i hi hm => (k.block i (Nat.lt_of_lt_of_le hi h.size) hm).trans (h.block i hi hm)⟩
theorem Only.mono {M N : Nat->Prop} {w w' : World} (h : Only M w w') (hs : ∀ k,k < w.heap.size->M k->N k) : Only N w w' :=
 ⟨h.os,h.tape,h.output,h.size,fun i hi hm => h.block i hi (fun hM => hm (hs i hi hM))⟩
theorem Only.alloc (M : Nat->Prop) (w : World) (o : Obj) : Only M w (w.alloc o) :=
 ⟨rfl,rfl,rfl,by simp,fun k hk _ => heap_alloc_old w o k hk⟩
theorem Only.drew (M : Nat->Prop) (w : World) : Only M w w.drew := ⟨rfl,rfl,rfl,Nat.le_refl _,fun _ _ _ => rfl⟩
theorem Only.setCell {M : Nat->Prop} (w : World) (a : Addr) (v : Value) (hM : M a.block) : Only M w (w.setCell a v) :=
 ⟨rfl,rfl,rfl,by simp,fun k hk hm => heap_setCell_other w a k v (fun e => hm (e ▸ hM))⟩
theorem yO {w : World} {a : Addr} {v : Value} (h : w.cell? a = some v) : a.block < w.heap.size := World.block_lt_of_cell? w a h
theorem LiveB.of_cell {κ : Ker} {i : Nat} {b : ABlk} {off : Nat} {a : AV} (h : b.con.at off = some a) : LiveB κ i b := .inl ⟨off,a,h⟩
theorem HRel.live_lt {M : Nat->Prop} {w : World} {κ : Ker} {h : H} (r : HRel M w κ h) {i : Nat} {b : ABlk} {B O : Nat} (hi : h i = some b) (hl : LiveB κ i b) (hρ : κ.ρ i = some (B,O)) : B < w.heap.size := by
 obtain ⟨B1,O1,h1,_,h3⟩ := r.blk i b hi
 rw [hρ] at h1
 simp only [Option.some.injEq,Prod.mk.injEq] at h1
 obtain ⟨rfl,rfl⟩ := h1
 rcases hl with ⟨o,a,hc⟩ | ⟨ho,h0⟩
 ·obtain ⟨⟨x,hx,_⟩,_⟩ := h3 o a hc
  exact yO hx
 ·obtain ⟨_,_,hc⟩ := r.own i b B O hi ho hρ
  obtain ⟨⟨x,hx⟩,_⟩ := hc 0 (Nat.mul_pos h0 ho)
  exact yO hx
theorem HRel.world {M : Nat->Prop} {w w' : World} {κ : Ker} {h : H} (r : HRel M w κ h) (hs : w.heap.size<=w'.heap.size)
  (hb : ∀ i b B O,h i = some b->κ.ρ i = some (B,O)->B < w.heap.size->w'.heap[B]? = w.heap[B]?) (hm : ∀ a x,κ.v a = some x->w'.cell? a = some x) : HRel M w' κ h := by
 refine ⟨?_,r.sep,?_,hm,r.mp.of (Ker.le_refl κ) (fun i b hi _ => .inl hi) (fun _ _ _ h _ => h) fun i b B O es ck hi _ hρ he => by rw [hb i b B O hi hρ (Array.getElem?_eq_some_iff.1 he).1]; exact he⟩
 ·intro i b hi
  obtain ⟨B,O,h1,h2,h3⟩ := r.blk i b hi
  refine ⟨B,O,h1,fun hw hl => ⟨(h2 hw hl).1,Nat.lt_of_lt_of_le (h2 hw hl).2.1 hs,(h2 hw hl).2.2.1.same (hb i b B O hi h1 (h2 hw hl).2.1),(h2 hw hl).2.2.2⟩,?_⟩
  intro off a ha
  obtain ⟨⟨x,hx,hv⟩,hf⟩ := h3 off a ha
  have hlt := yO hx
  have hsame := hb i b B O hi h1 hlt
  exact ⟨⟨x,by rw [World.cell?_of_block (w := w) hsame]; exact hx,hv⟩,fun hw => by rw [World.frozen?_of_block (w := w) hsame]; exact hf hw⟩
 ·intro i b B O hi ho hρ
  obtain ⟨hw,hl,hc⟩ := r.own i b B O hi ho hρ
  refine ⟨hw,hl,?_⟩
  intro off hoff
  obtain ⟨⟨x,hx⟩,hf⟩ := hc off hoff
  have hsame := hb i b B O hi hρ (yO hx)
  exact ⟨⟨x,by rw [World.cell?_of_block (w := w) hsame]; exact hx⟩,by rw [World.frozen?_of_block (w := w) hsame]; exact hf⟩
theorem HRel.keep {M : Nat->Prop} {w w' : World} {κ : Ker} {h : H} (r : HRel M w κ h) (hs : w.heap.size<=w'.heap.size) (hb : ∀ B,B < w.heap.size->w'.heap[B]? = w.heap[B]?) : HRel M w' κ h :=
 r.world hs (fun _ _ B _ _ _ hlt => hb B hlt) fun a x hx => by
  have hc := r.mem a x hx
  rw [World.cell?_of_block (w := w) (hb a.block (yO hc))]; exact hc
theorem HRel.only {M : Nat->Prop} {w w' : World} {κ : Ker} {h : H} (r : HRel M w κ h) (k : Only (fun B => w.heap.size<=B) w w') : HRel M w' κ h :=
 r.keep k.size fun B hlt => k.block B hlt (by omega)
theorem HRel.le {M : Nat->Prop} {w : World} {κ : Ker} {h k : H} (r : HRel M w κ k) (hle : h.le k) : HRel M w κ h :=
 ⟨fun i b hi => r.blk i b (hle i b hi),fun i j b b' B O B' O' hi hj => r.sep i j b b' B O B' O' (hle i b hi) (hle j b' hj),fun i b B O hi => r.own i b B O (hle i b hi),r.mem,r.mp.of (Ker.le_refl κ) (fun i b hi _ => .inl (hle i b hi)) (fun _ _ _ h _ => h) fun _ _ _ _ _ _ _ _ _ h => h⟩
theorem HRel.named {M : Nat->Prop} {w : World} {κ : Ker} {h : H} (r : HRel M w κ h) {i : Nat} {b : ABlk} (hi : h i = some b) : ∃ p,κ.ρ i = some p := by
 obtain ⟨B,O,h1,_⟩ := r.blk i b hi
 exact ⟨_,h1⟩
theorem HRel.live_back {M : Nat->Prop} {w : World} {κ κ' : Ker} {h : H} (r : HRel M w κ h) (hle : κ.le κ') {i : Nat} {b : ABlk} (hi : h i = some b) (hl : LiveB κ' i b) : LiveB κ i b := by
 rcases hl with hc | ⟨ho,h0⟩
 ·exact .inl hc
 ·obtain ⟨p,h1⟩ := r.named hi
  rw [hle.cap i (by rw [h1]; rfl)] at h0
  exact .inr ⟨ho,h0⟩
theorem HRel.ker {M : Nat->Prop} {w : World} {κ κ' : Ker} {h : H} (r : HRel M w κ h) (hle : κ.le κ') (hm : ∀ a x,κ'.v a = some x->w.cell? a = some x)
  (hn : ∀ i b B O,h i = some b->b.wr = true->LiveB κ i b->κ.ρ i = some (B,O)->∀ a x,κ'.v a = some x->a.block ≠ B) : HRel M w κ' h := by
 have back : ∀ {i b B O},h i = some b->κ'.ρ i = some (B,O)->κ.ρ i = some (B,O) := by
  intro i b B O hi h1
  obtain ⟨B1,O1,e1,_⟩ := r.blk i b hi
  have := hle.ρ _ _ e1
  rw [h1] at this
  simp only [Option.some.injEq,Prod.mk.injEq] at this
  obtain ⟨rfl,rfl⟩ := this
  exact e1
 refine ⟨?_,?_,?_,hm,r.mp.of hle (fun i b hi _ => .inl hi) (fun _ _ _ h _ => h) fun _ _ _ _ _ _ _ _ _ h => h⟩
 ·intro i b hi
  obtain ⟨B,O,h1,h2,h3⟩ := r.blk i b hi
  refine ⟨B,O,hle.ρ _ _ h1,fun hw hl => ?_,fun off a ha => let ⟨⟨x,hx,hv⟩,hf⟩ := h3 off a ha; ⟨⟨x,hx,hv.mono hle⟩,hf⟩⟩
  have hl' := r.live_back hle hi hl
  exact ⟨(h2 hw hl').1,(h2 hw hl').2.1,(h2 hw hl').2.2.1,hn i b B O hi hw hl' h1⟩
 ·intro i j b b' B O B' O' hi hj hne hw hc hc' h1 h2
  exact r.sep i j b b' B O B' O' hi hj hne hw (r.live_back hle hi hc) (r.live_back hle hj hc') (back hi h1) (back hj h2)
 ·intro i b B O hi ho h1
  have hb := back hi h1
  obtain ⟨hw,hl,hc⟩ := r.own i b B O hi ho hb
  rw [hle.cap i (by rw [hb]; rfl)]
  exact ⟨hw,hl,hc⟩
def Ker.put (κ : Ker) (i : Nat) (p : Nat × Nat) (R : Nat) : Ker :=
 { κ with ρ := fun j => if j = i then some p else κ.ρ j,cap := fun j => if j = i then R else κ.cap j }
theorem Ker.le_put {κ : Ker} {i : Nat} {p : Nat × Nat} {R : Nat} (h : κ.ρ i = none) : κ.le (κ.put i p R) := by
 refine ⟨?_,?_,fun _ _ h => h,fun _ _ h => h⟩
 ·intro j q hq
  simp only [Ker.put]
  split
  ·subst_vars; rw [h] at hq; cases hq
  ·exact hq
 ·intro j hj
  simp only [Ker.put]
  split
  ·subst_vars; rw [h] at hj; cases hj
  ·rfl
theorem Ker.put_self (κ : Ker) (i : Nat) (p : Nat × Nat) (R : Nat) : (κ.put i p R).ρ i = some p := by simp [Ker.put]
theorem Ker.put_cap (κ : Ker) (i : Nat) (p : Nat × Nat) (R : Nat) : (κ.put i p R).cap i = R := by simp [Ker.put]
theorem Ker.put_other (κ : Ker) {i j : Nat} (p : Nat × Nat) (R : Nat) (h : j ≠ i) : (κ.put i p R).ρ j = κ.ρ j := by simp [Ker.put,h]
theorem HRel.alloc {M : Nat->Prop} {w : World} {κ : Ker} {h : H} (r : HRel M w κ h) {f : Nat} (hf : κ.ρ f = none) (hM : M w.heap.size)
  (e : TypeId) (cs : Array Value) (c : Con) (R ow : Nat) (hlen : 0 < ow->c.len<=R * ow/\R * ow<=cs.size) (hv : ∀ (off : Nat) a,c.at off = some a->∃ x,cs[off]? = some x/\VRel κ a x)
  (fz : Nat × Nat := (0,0)) (hz : fz.1 = fz.2 \/ cs.size<=fz.1 := by simp) (hnm : c.isMap = false := by rfl) :
  HRel M (w.alloc (.cells cs e fz)) (κ.put f (w.heap.size,0) R) (upd h f (some ⟨c,true,ow⟩)) := by
 have hle : κ.le (κ.put f (w.heap.size,0) R) := Ker.le_put hf
 have hold : ∀ a x,κ.v a = some x->a.block < w.heap.size := fun a x hx => yO (r.mem a x hx)
 have rw1 : HRel M (w.alloc (.cells cs e fz)) κ h := r.keep (by simp) fun B hlt => heap_alloc_old w _ B hlt
 have r1 : HRel M (w.alloc (.cells cs e fz)) (κ.put f (w.heap.size,0) R) h := by
  refine rw1.ker hle (fun a x hx => rw1.mem a x hx) ?_
  intro i b B O hi hw hl h1 a x hx
  obtain ⟨B1,O1,e1,e2,_⟩ := rw1.blk i b hi
  rw [h1] at e1
  simp only [Option.some.injEq,Prod.mk.injEq] at e1
  obtain ⟨rfl,rfl⟩ := e1
  exact (e2 hw hl).2.2.2 a x hx
 have hn := heap_alloc_new w (.cells cs e fz)
 have hcell : ∀ off x,cs[off]? = some x->(w.alloc (.cells cs e fz)).cell? ⟨w.heap.size,0 + off,none⟩ = some x/\(w.alloc (.cells cs e fz)).frozen? ⟨w.heap.size,0 + off,none⟩ = false := by
  intro off x hx
  refine ⟨?_,?_⟩
  ·rw [Nat.zero_add]; simp only [World.cell?,hn]; simpa using hx
  ·rw [Nat.zero_add]
   have h1 := (Array.getElem?_eq_some_iff.1 hx).1
   obtain ⟨lo,hi2⟩ := fz
   simp only [World.frozen?,hn]
   simp only at hz
   simp only [Bool.and_eq_false_imp,decide_eq_true_eq,decide_eq_false_iff_not]
   intro h2 h3
   omega
 have old : ∀ k c C D,k ≠ f->h k = some c->LiveB (κ.put f (w.heap.size,0) R) k c->(κ.put f (w.heap.size,0) R).ρ k = some (C,D)->C < w.heap.size := by
  intro k c C D hk hkc hl hC
  rw [Ker.put_other κ _ _ hk] at hC
  exact r.live_lt hkc (r.live_back hle hkc hl) hC
 refine ⟨?_,?_,?_,r1.mem,r1.mp.upd (Ker.le_refl _) hnm fun _ _ _ _ _ _ _ _ _ h => h⟩
 ·intro i b hi
  unfold upd at hi
  split at hi
  ·rename_i he
   subst he
   simp only [Option.some.injEq] at hi
   subst hi
   refine ⟨w.heap.size,0,Ker.put_self _ _ _ _,fun _ _ => ⟨hM,by simp,⟨cs,e,fz.1,fz.2,hn,hz⟩,fun a x hx => by have := hold a x hx; omega⟩,?_⟩
   intro off a ha
   obtain ⟨x,hx,hr⟩ := hv off a ha
   exact ⟨⟨x,(hcell off x hx).1,hr.mono hle⟩,fun _ => (hcell off x hx).2⟩
  ·exact r1.blk i b hi
 ·intro i j b b' B O B' O' hi hj hne hw hc hc' h1 h2
  unfold upd at hi hj
  split at hi
  ·rename_i he
   subst he
   split at hj
   ·rename_i he2; exact absurd he2.symm hne
   ·have hlt := old j b' B' O' (Ne.symm hne) hj hc' h2
    rw [Ker.put_self] at h1
    simp only [Option.some.injEq,Prod.mk.injEq] at h1
    omega
  ·rename_i hni
   split at hj
   ·rename_i he
    subst he
    have hlt := old i b B O hni hi hc h1
    rw [Ker.put_self] at h2
    simp only [Option.some.injEq,Prod.mk.injEq] at h2
    omega
   ·exact r1.sep i j b b' B O B' O' hi hj hne hw hc hc' h1 h2
 ·intro i b B O hi ho h1
  unfold upd at hi
  split at hi
  ·rename_i he
   subst he
   simp only [Option.some.injEq] at hi
   subst hi
   rw [Ker.put_self] at h1
   simp only [Option.some.injEq,Prod.mk.injEq] at h1
   obtain ⟨rfl,rfl⟩ := h1
   rw [Ker.put_cap]
   refine ⟨rfl,(hlen ho).1,?_⟩
   intro off hoff
   have hlt : off < cs.size := Nat.lt_of_lt_of_le hoff (hlen ho).2
   have := hcell off cs[off] (Array.getElem?_eq_getElem hlt)
   exact ⟨⟨_,this.1⟩,this.2⟩
  ·exact r1.own i b B O hi ho h1
theorem HRel.wrote {M : Nat->Prop} {w w' : World} {κ : Ker} {h : H} (r : HRel M w κ h) {i : Nat} {b : ABlk} {B O : Nat} {c : Con}
  (hi : h i = some b) (hw : b.wr = true) (hρ : κ.ρ i = some (B,O)) (hlive : LiveB κ i b) (hlen : 0 < b.own->c.len<=κ.cap i * b.own)
  (hs : w'.heap.size = w.heap.size) (hother : ∀ k,k ≠ B->w'.heap[k]? = w.heap[k]?) (hmark : Marked w' B)
  (hex : ∀ off x,w.cell? ⟨B,off,none⟩ = some x->(∃ y,w'.cell? ⟨B,off,none⟩ = some y)/\w'.frozen? ⟨B,off,none⟩ = w.frozen? ⟨B,off,none⟩)
  (hv : ∀ off a,c.at off = some a->(∃ x,w'.cell? ⟨B,O + off,none⟩ = some x/\VRel κ a x)/\w'.frozen? ⟨B,O + off,none⟩ = false) (hnm : c.isMap = false) :
  HRel M w' κ (upd h i (some ⟨c,true,b.own⟩)) := by
 obtain ⟨B1,O1,e1,h2,h3⟩ := r.blk i b hi
 rw [hρ] at e1
 simp only [Option.some.injEq,Prod.mk.injEq] at e1
 obtain ⟨rfl,rfl⟩ := e1
 have hB := h2 hw hlive
 have tr : ∀ k c0,upd h i (some ⟨c,true,b.own⟩) k = some c0->LiveB κ k c0->∃ c1,h k = some c1/\LiveB κ k c1/\(c0.wr = true->c1.wr = true) := by
  intro k c0 hk hl
  unfold upd at hk
  split at hk
  ·rename_i he
   subst he
   exact ⟨b,hi,hlive,fun _ => hw⟩
  ·exact ⟨c0,hk,hl,fun h => h⟩
 have oth : ∀ j c0 B2 O2,h j = some c0->j ≠ i->LiveB κ j c0->κ.ρ j = some (B2,O2)->B2 ≠ B := by
  intro j c0 B2 O2 hj hne hl hρ2 he
  exact r.sep i j b c0 B O B2 O2 hi hj (Ne.symm hne) hw hlive hl hρ hρ2 he.symm
 refine ⟨?_,?_,?_,?_,r.mp.upd (Ker.le_refl κ) hnm fun i b B2 O2 es ck _ _ _ he => by
  rw [hother B2 ?_]
  ·exact he
  ·rintro rfl
   obtain ⟨_,_,⟨c0,t,lo,hi2,hc0,_⟩,_⟩ := hB
   rw [hc0] at he; cases he⟩
 ·intro j c0 hj
  unfold upd at hj
  split at hj
  ·rename_i he
   subst he
   simp only [Option.some.injEq] at hj
   subst hj
   exact ⟨B,O,hρ,fun _ _ => ⟨hB.1,by rw [hs]; exact hB.2.1,hmark,hB.2.2.2⟩,fun off a ha => ⟨(hv off a ha).1,fun _ => (hv off a ha).2⟩⟩
  ·rename_i hne
   obtain ⟨B2,O2,e2,k2,k3⟩ := r.blk j c0 hj
   have same : LiveB κ j c0->w'.heap[B2]? = w.heap[B2]? := fun hl => hother B2 (oth j c0 B2 O2 hj hne hl e2)
   refine ⟨B2,O2,e2,fun hc hl => ⟨(k2 hc hl).1,by rw [hs]; exact (k2 hc hl).2.1,(k2 hc hl).2.2.1.same (same hl),(k2 hc hl).2.2.2⟩,?_⟩
   intro o2 a2 ha2
   obtain ⟨⟨y,hy,hvy⟩,hf⟩ := k3 o2 a2 ha2
   have hsame := same (LiveB.of_cell ha2)
   exact ⟨⟨y,by rw [World.cell?_of_block (w := w) hsame]; exact hy,hvy⟩,fun hc => by rw [World.frozen?_of_block (w := w) hsame]; exact hf hc⟩
 ·intro j k c0 c1 C D C' D' hj hk hne hcw hcc hcc' e1 e2
  obtain ⟨d0,k1,k2,k3⟩ := tr j c0 hj hcc
  obtain ⟨d1,k4,k5,_⟩ := tr k c1 hk hcc'
  exact r.sep j k d0 d1 C D C' D' k1 k4 hne (k3 hcw) k2 k5 e1 e2
 ·intro j c0 C D hj ho e1
  unfold upd at hj
  split at hj
  ·rename_i he
   subst he
   simp only [Option.some.injEq] at hj
   subst hj
   rw [hρ] at e1
   simp only [Option.some.injEq,Prod.mk.injEq] at e1
   obtain ⟨rfl,rfl⟩ := e1
   obtain ⟨_,_,hc⟩ := r.own j b B O hi ho hρ
   refine ⟨rfl,hlen ho,fun off hoff => ?_⟩
   obtain ⟨⟨x,hx⟩,hf⟩ := hc off hoff
   obtain ⟨⟨y,hy⟩,hz⟩ := hex _ x hx
   exact ⟨⟨y,hy⟩,by rw [hz]; exact hf⟩
  ·rename_i hne
   obtain ⟨hw0,hl0,hc⟩ := r.own j c0 C D hj ho e1
   refine ⟨hw0,hl0,fun off hoff => ?_⟩
   obtain ⟨⟨x,hx⟩,hf⟩ := hc off hoff
   have hcap : 0 < κ.cap j := by
    rcases Nat.eq_zero_or_pos (κ.cap j) with h0 | h0
    ·rw [h0] at hoff; simp at hoff
    ·exact h0
   have hsame := hother C (oth j c0 C D hj hne (.inr ⟨ho,hcap⟩) e1)
   exact ⟨⟨x,by rw [World.cell?_of_block (w := w) hsame]; exact hx⟩,by rw [World.frozen?_of_block (w := w) hsame]; exact hf⟩
 ·intro a x hx
  have hne := hB.2.2.2 a x hx
  rw [World.cell?_of_block (w := w) (hother a.block hne)]
  exact r.mem a x hx
theorem l7 (h : H) (i : Nat) (b : ABlk) (hi : h i = some b) : upd h i (some b) = h := by
 funext j
 unfold upd
 split
 ·rename_i he; subst he; exact hi.symm
 ·rfl
theorem l8 (h : H) (i : Nat) : (upd h i none).le h := by
 intro j b hj
 unfold upd at hj
 split at hj
 ·cases hj
 ·exact hj
theorem HRel.drop {M : Nat->Prop} {w : World} {κ : Ker} {h : H} (r : HRel M w κ h) (i : Nat) : HRel M w κ (upd h i none) := r.le (l8 h i)
end Go.Sym
namespace Go.Sym
inductive Tr (α : Type) where
 | nil
 | leaf (o : Option α)
 | node (l r : Tr α)
 deriving Inhabited
variable {α : Type}
def Tr.get : Nat->Tr α->Nat->Option α
 | 0,.leaf o,_ => o
 | 0,_,_ => none
 | d + 1,.node l r,t => match t % 2 with | 0 => Tr.get d l (t / 2) | _ => Tr.get d r (t / 2)
 | _ + 1,_,_ => none
def Tr.put : Nat->Tr α->Nat->Option α->Tr α
 | 0,_,_,v => .leaf v
 | d + 1,.node l r,t,v => match t % 2 with | 0 => .node (Tr.put d l (t / 2) v) r | _ => .node l (Tr.put d r (t / 2) v)
 | d + 1,_,t,v => match t % 2 with | 0 => .node (Tr.put d .nil (t / 2) v) .nil | _ => .node .nil (Tr.put d .nil (t / 2) v)
def Tr.putK {β : Type} : Nat->Tr α->Nat->Option α->(Tr α->β)->β
 | 0,_,_,v,k => k (.leaf v)
 | d + 1,.node l r,t,v,k => match t % 2 with | 0 => Tr.putK d l (t / 2) v fun l' => k (.node l' r) | _ => Tr.putK d r (t / 2) v fun r' => k (.node l r')
 | d + 1,_,t,v,k => match t % 2 with | 0 => Tr.putK d .nil (t / 2) v fun l' => k (.node l' .nil) | _ => Tr.putK d .nil (t / 2) v fun r' => k (.node .nil r')
theorem Tr.putK_eq {β : Type} : ∀ (d : Nat) (T : Tr α) (t : Nat) (v : Option α) (k : Tr α->β),Tr.putK d T t v k = k (Tr.put d T t v) := by
 intro d
 induction d with
 | zero => intro T t v k; cases T <;> rfl
 | succ d ih =>
  intro T t v k
  cases T <;> simp only [Tr.putK,Tr.put] <;> split <;> simp only [ih]
theorem mod2 (t : Nat) : t % 2 = 0 \/ t % 2 = 1 := by omega
theorem Tr.get_nil (d t : Nat) : Tr.get d (.nil : Tr α) t = none := by cases d <;> rfl
theorem Tr.get_put : ∀ (d : Nat) (T : Tr α) (t u : Nat) (v : Option α),t < 2 ^ d->u < 2 ^ d->Tr.get d (Tr.put d T t v) u = if u = t then v else Tr.get d T u := by
 intro d
 induction d with
 | zero =>
  intro T t u v ht hu
  have : u = t := by simp at ht hu; omega
  rw [if_pos this]
  cases T <;> rfl
 | succ d ih =>
  intro T t u v ht hu
  have h1 : t / 2 < 2 ^ d := by rw [Nat.pow_succ] at ht; omega
  have h2 : u / 2 < 2 ^ d := by rw [Nat.pow_succ] at hu; omega
  rcases mod2 t with e1 | e1 <;> rcases mod2 u with e2 | e2
  ·have : (u = t) = (u / 2 = t / 2) := by apply propext; constructor <;> intro <;> omega
   rw [show (if u = t then v else Tr.get (d + 1) T u) = (if u / 2 = t / 2 then v else Tr.get (d + 1) T u) by simp only [this]]
   cases T <;> simp only [Tr.put,Tr.get,e1,e2] <;> rw [ih _ _ _ _ h1 h2] <;> simp [Tr.get_nil]
  ·have : u ≠ t := by omega
   rw [if_neg this]
   cases T <;> simp only [Tr.put,Tr.get,e1,e2] <;> simp [Tr.get_nil]
  ·have : u ≠ t := by omega
   rw [if_neg this]
   cases T <;> simp only [Tr.put,Tr.get,e1,e2] <;> simp [Tr.get_nil]
  ·have : (u = t) = (u / 2 = t / 2) := by apply propext; constructor <;> intro <;> omega
   rw [show (if u = t then v else Tr.get (d + 1) T u) = (if u / 2 = t / 2 then v else Tr.get (d + 1) T u) by simp only [this]]
   cases T <;> simp only [Tr.put,Tr.get,e1,e2] <;> rw [ih _ _ _ _ h1 h2] <;> simp [Tr.get_nil]
theorem Tr.put_comm : ∀ (d : Nat) (T : Tr α) (t u : Nat) (v w : Option α),t < 2 ^ d->u < 2 ^ d->t ≠ u->Tr.put d (Tr.put d T t v) u w = Tr.put d (Tr.put d T u w) t v := by
 intro d
 induction d with
 | zero => intro T t u v w ht hu hne; simp at ht hu; omega
 | succ d ih =>
  intro T t u v w ht hu hne
  have h1 : t / 2 < 2 ^ d := by rw [Nat.pow_succ] at ht; omega
  have h2 : u / 2 < 2 ^ d := by rw [Nat.pow_succ] at hu; omega
  rcases mod2 t with e1 | e1 <;> rcases mod2 u with e2 | e2
  ·have : t / 2 ≠ u / 2 := by omega
   cases T <;> simp only [Tr.put,e1,e2] <;> rw [ih _ _ _ _ _ h1 h2 this]
  ·cases T <;> simp only [Tr.put,e1,e2]
  ·cases T <;> simp only [Tr.put,e1,e2]
  ·have : t / 2 ≠ u / 2 := by omega
   cases T <;> simp only [Tr.put,e1,e2] <;> rw [ih _ _ _ _ _ h1 h2 this]
end Go.Sym
namespace Go.Sym
def GB : Nat := 8388608
def xI : Nat := 64
def DE : Nat := 12
def DH : Nat := 24
def absC0 : Value->AV
 | .bool b => .bool b
 | .int k n =>
  match k with
  | .u8 => if 0<=n/\n < 256 then .u8 (BitVec.ofNat 8 n.toNat) else .raw (.int k n)
  | .u16 => if 0<=n/\n < 65536 then .u16 (BitVec.ofNat 16 n.toNat) else .raw (.int k n)
  | .u32 => if 0<=n/\n < 4294967296 then .u32 (BitVec.ofNat 32 n.toNat) else .raw (.int k n)
  | .u64 => if 0<=n/\n < 18446744073709551616 then .u64 (BitVec.ofNat 64 n.toNat) else .raw (.int k n)
  | k => .int k n
 | .string s => .str (wA s)
 | .pointer none => .nilp
 | .slice none 0 0 => .nils
 | v => .raw v
def absC : Value->AV
 | .agg cs => .agg (cs.toList.map absC0)
 | .tuple cs => .tup (cs.toList.map absC0)
 | v => absC0 v
theorem cK (κ : Ker) (v : Value) : VRel κ (absC0 v) v := by
 unfold absC0
 split
 ·rfl
 ·split
  ·split
   ·simp only [VRel,BitVec.toNat_ofNat]; congr 1; omega
   ·rfl
  ·split
   ·simp only [VRel,BitVec.toNat_ofNat]; congr 1; omega
   ·rfl
  ·split
   ·simp only [VRel,BitVec.toNat_ofNat]; congr 1; omega
   ·rfl
  ·split
   ·simp only [VRel,BitVec.toNat_ofNat]; congr 1; omega
   ·rfl
  ·rfl
 ·simp only [VRel,qB]
 ·rfl
 ·rfl
 ·rfl
theorem VRels.absC0 (κ : Ker) : ∀ (vs : List Value),VRels κ (vs.map absC0) vs
 | [] => rfl
 | v::vs => ⟨v,vs,rfl,cK κ v,VRels.absC0 κ vs⟩
theorem d0k (κ : Ker) (v : Value) : VRel κ (absC v) v := by
 unfold absC
 split
 ·exact ⟨_,rfl,VRels.absC0 κ _⟩
 ·exact ⟨_,rfl,VRels.absC0 κ _⟩
 ·exact cK κ v
abbrev Env := Tr AV
def Env.at (e : Env) (t : Nat) : AV := (Tr.get DE e t).getD .any
def Env.set (e : Env) (t : Nat) (a : AV) : Env := Tr.put DE e t (some a)
def aeval (e : Env) : Operand->AV
 | .tmp t => e.at t
 | .const v => absC v
 | .global g => .ptr (GB + g) 0 0 0
 | .func f => .fn f [] []
abbrev PO (α : Type) := Option (List Prop × α)
def fF : List Prop->Prop->Prop
 | [],K => K
 | p::ps,K => p/\fF ps K
def zP (l : List Prop) : Prop := fF l True
theorem vI : ∀ (l : List Prop) (K : Prop),fF l K ↔ zP l/\K
 | [],K => by simp [fF,zP]
 | p::ps,K => by
  have := vI ps K
  simp only [fF,zP] at *
  rw [this,and_assoc]
theorem zE {a b : List Prop} : zP (a++b) ↔ zP a/\zP b := by
 induction a with
 | nil => simp [zP,fF]
 | cons p a ih => simp only [zP,fF,List.cons_append] at *; rw [ih,and_assoc]
theorem l9 : zP [] := trivial
theorem zA {p : Prop} : zP [p] ↔ p := by simp [zP,fF]
theorem zJ {p : Prop} {l : List Prop} : zP (p::l) ↔ p/\zP l := Iff.rfl
def AV.num : AV->Option Int
 | .u8 x => some x.toNat
 | .u16 x => some x.toNat
 | .u32 x => some x.toNat
 | .u64 x => some x.toNat
 | .int _ n => some n
 | _ => none
def AV.nat : AV->PO Nat
 | .u8 x => some ([],x.toNat)
 | .u16 x => some ([],x.toNat)
 | .u32 x => some ([],x.toNat)
 | .u64 x => some ([],x.toNat)
 | .int _ n => some ([0<=n],n.toNat)
 | _ => none
def vJ (x : Operand) (a : AV) : PO Nat :=
 match x with
 | .const (.int _ (.ofNat n)) => some ([],n)
 | _ => a.nat
def c0k (k : IntKind) (n : Int) : AV :=
 match k with
 | .u8 => .u8 (BitVec.ofInt 8 n)
 | .u16 => .u16 (BitVec.ofInt 16 n)
 | .u32 => .u32 (BitVec.ofInt 32 n)
 | .u64 => .u64 (BitVec.ofInt 64 n)
 | k => .int k (k.wrap n)
def nz (yo : Operand) (p : Prop) : Option (List Prop) :=
 match yo with
 | .const (.int _ n) => if n = 0 then none else some []
 | _ => some [p]
def sV {w : Nat} (mk : BitVec w->AV) (yo : Operand) (op : BinOp) (x y : BitVec w) : PO AV :=
 match op with
 | .add => some ([],mk (x + y))
 | .sub => some ([],mk (x - y))
 | .mul => some ([],mk (x * y))
 | .quo => (nz yo (y.toNat ≠ 0)).map fun l => (l,mk (x / y))
 | .rem => (nz yo (y.toNat ≠ 0)).map fun l => (l,mk (x % y))
 | .and => some ([],mk (x &&& y))
 | .or => some ([],mk (x ||| y))
 | .xor => some ([],mk (x ^^^ y))
 | .andNot => some ([],mk (x &&& ~~~y))
 | .eql => some ([],.bool (decide (x = y)))
 | .neq => some ([],.bool (!decide (x = y)))
 | .lss => some ([],.bool (decide (x.toNat < y.toNat)))
 | .leq => some ([],.bool (decide (x.toNat<=y.toNat)))
 | .gtr => some ([],.bool (decide (y.toNat < x.toNat)))
 | .geq => some ([],.bool (decide (y.toNat<=x.toNat)))
 | _ => none
def b0k (k : IntKind) (yo : Operand) (op : BinOp) (x y : Int) : PO AV :=
 match op with
 | .add => some ([],.int k (k.wrap (x + y)))
 | .sub => some ([],.int k (k.wrap (x - y)))
 | .mul => some ([],.int k (k.wrap (x * y)))
 | .quo => (nz yo (y ≠ 0)).map fun l => (l,.int k (k.wrap (x.tdiv y)))
 | .rem => (nz yo (y ≠ 0)).map fun l => (l,.int k (x.tmod y))
 | .and => some ([],.int k (k.wrap (BitVec.ofInt k.bits x &&& BitVec.ofInt k.bits y).toNat))
 | .or => some ([],.int k (k.wrap (BitVec.ofInt k.bits x ||| BitVec.ofInt k.bits y).toNat))
 | .xor => some ([],.int k (k.wrap (BitVec.ofInt k.bits x ^^^ BitVec.ofInt k.bits y).toNat))
 | .andNot => some ([],.int k (k.wrap (BitVec.ofInt k.bits x &&& ~~~(BitVec.ofInt k.bits y)).toNat))
 | .eql => some ([],.bool (decide (x = y)))
 | .neq => some ([],.bool (!decide (x = y)))
 | .lss => some ([],.bool (decide (x < y)))
 | .leq => some ([],.bool (decide (x<=y)))
 | .gtr => some ([],.bool (decide (y < x)))
 | .geq => some ([],.bool (decide (y<=x)))
 | _ => none
def ashl (a : AV) (m : Nat) : Option AV :=
 match a with
 | .u8 x => some (.u8 (x <<< m))
 | .u16 x => some (.u16 (x <<< m))
 | .u32 x => some (.u32 (x <<< m))
 | .u64 x => some (.u64 (x <<< m))
 | .int k x => some (.int k (k.wrap (x * 2 ^ (min m k.bits))))
 | _ => none
def ashr (a : AV) (m : Nat) : Option AV :=
 match a with
 | .u8 x => some (.u8 (x >>> m))
 | .u16 x => some (.u16 (x >>> m))
 | .u32 x => some (.u32 (x >>> m))
 | .u64 x => some (.u64 (x >>> m))
 | .int k x => some (.int k (x.fdiv (2 ^ (min m k.bits))))
 | _ => none
def pL : AV->AV->Option Bool
 | .u8 x,.u8 y => some (decide (x = y))
 | .u16 x,.u16 y => some (decide (x = y))
 | .u32 x,.u32 y => some (decide (x = y))
 | .u64 x,.u64 y => some (decide (x = y))
 | .int k x,.int k' y => if k = k' then some (decide (x = y)) else none
 | _,_ => none
def wR : List AV->List AV->Option Bool
 | [],[] => some true
 | a::as,b::bs =>
  match pL a b,wR as bs with
  | some p,some q => some (p && q)
  | _,_ => none
 | _,_ => none
def vU (P : Program) (t : TypeId) : Option Bool :=
 match P.underlying t with
 | some (.struct _) | some (.array _ _) => some true
 | some _ => some false
 | none => none
def apart (P : Program) (t : TypeId) (cs : List AV) (off : Nat) : Option AV :=
 match vU P t,P.info? t with
 | some true,some i => let p := (cs.drop off).take i.size; if p.length = i.size then some (.agg p) else none
 | some false,_ => cs[off]?
 | _,_ => none
def iW (P : Program) (t : TypeId) (a b : AV) : Option Bool :=
 match P.underlying t with
 | some (.int _) => pL a b
 | some .bool => (match a,b with | .bool x,.bool y => some (decide (x = y)) | _,_ => none)
 | some .string => (match a,b with | .str x,.str y => some (decide (x = y)) | _,_ => none)
 | some (.array n e) =>
  (match a,b with
  | .agg xs,.agg ys => (match P.underlying e,P.info? e with
   | some (.int _),some i => if i.size = 1/\xs.length = n then wR xs ys else none
   | _,_ => none)
  | _,_ => none)
 | _ => none
def Z4 (P : Program) (xs ys : List AV) : List Field->Option Bool
 | [] => some true
 | f :: fs => if f.name = "_" then none else
  match apart P f.type xs f.offset,apart P f.type ys f.offset with
  | some a,some b => (match iW P f.type a b,Z4 P xs ys fs with
   | some p,some q => some (p && q)
   | _,_ => none)
  | _,_ => none
def pM (P : Program) (e : TypeId) (sz : Nat) (xs ys : List AV) : Nat->Nat->Option Bool
 | _,0 => some true
 | s,n + 1 => match apart P e xs (s * sz),apart P e ys (s * sz) with
  | some a,some b => (match iW P e a b,pM P e sz xs ys (s + 1) n with
   | some p,some q => some (p && q)
   | _,_ => none)
  | _,_ => none
def m6 : AV->Option Bool
 | .nils => some true
 | .slice _ _ _ _ _ (.is b) => some b
 | .rb _ _ (.is b) => some b
 | .ros _ _ _ _ (.is b) => some b
 | _ => none
def hO : AV->Bool
 | .nils => true
 | _ => false
def a0k (P : Program) (op : BinOp) (t : TypeId) (yo : Operand) (a b : AV) : PO AV :=
 match a,b with
 | .u8 x,.u8 y => sV .u8 yo op x y
 | .u16 x,.u16 y => sV .u16 yo op x y
 | .u32 x,.u32 y => sV .u32 yo op x y
 | .u64 x,.u64 y => sV .u64 yo op x y
 | .int k x,.int k' y => if k = k' then b0k k yo op x y else none
 | .str x,.str y =>
  match op with
  | .eql => some ([],.bool (decide (x = y)))
  | .neq => some ([],.bool (!decide (x = y)))
  | .add => some ([x.length + y.length<=9223372036854775807],.str (x++y))
  | _ => none
 | .bool x,.bool y =>
  match P.underlying t,op with
  | some .bool,.eql => some ([],.bool (decide (x = y)))
  | some .bool,.neq => some ([],.bool (!decide (x = y)))
  | _,_ => none
 | .agg xs,.agg ys =>
  match P.underlying t with
  | some (.array n e) =>
   match P.underlying e,P.info? e with
   | some (.int _),some i =>
    if i.size = 1/\xs.length = n/\P.eqGuardType P.depth t = false then
     match op with
     | .eql => (wR xs ys).map fun b => ([],.bool b)
     | .neq => (wR xs ys).map fun b => ([],.bool (!b))
     | _ => none
    else none
   | some (.array _ _),some i =>
    if P.eqGuardType P.depth t = false then
     match op with
     | .eql => (pM P e i.size xs ys 0 n).map fun b => ([],.bool b)
     | .neq => (pM P e i.size xs ys 0 n).map fun b => ([],.bool (!b))
     | _ => none
    else none
   | _,_ => none
  | some (.struct fields) => if P.stoodInHeld t = false/\P.eqGuardType P.depth t = false then
     match op with
     | .eql => (Z4 P xs ys fields.toList).map fun b => ([],.bool b)
     | .neq => (Z4 P xs ys fields.toList).map fun b => ([],.bool (!b))
     | _ => none
    else none
  | _ => none
 | _,_ => none
def bK : AV->Option Bool
 | .ptr _ _ _ _ => some false
 | .rp _ _ => some false
 | .nilp => some true
 | _ => none
def z0v (P : Program) (op : BinOp) (t : TypeId) (a b : AV) : PO AV :=
 match P.underlying t,op with
 | some (.pointer _),.eql => (match bK a,bK b with | some p,some q => if p || q then some ([],.bool (p && q)) else none | _,_ => none)
 | some (.pointer _),.neq => (match bK a,bK b with | some p,some q => if p || q then some ([],.bool (!(p && q))) else none | _,_ => none)
 | some (.slice _),.eql => if hO b then (m6 a).map fun p => ([],.bool p) else none
 | some (.slice _),.neq => if hO b then (m6 a).map fun p => ([],.bool (!p)) else none
 | _,_ => none
def y0v (P : Program) (op : BinOp) (t : TypeId) (yo : Operand) (a b : AV) : PO AV :=
 match a0k P op t yo a b with
 | some r => some r
 | none => z0v P op t a b
def x0v (P : Program) (op : BinOp) (t : TypeId) (yo : Operand) (a b : AV) : PO AV :=
 match op with
 | .shl => (vJ yo b).bind fun q => (ashl a q.2).map fun v => (q.1,v)
 | .shr => (vJ yo b).bind fun q => (ashr a q.2).map fun v => (q.1,v)
 | _ => y0v P op t yo a b
def aun (op : UnOp) (a : AV) : Option AV :=
 match op,a with
 | .neg,.u8 x => some (.u8 (0 - x))
 | .neg,.u16 x => some (.u16 (0 - x))
 | .neg,.u32 x => some (.u32 (0 - x))
 | .neg,.u64 x => some (.u64 (0 - x))
 | .neg,.int k n => some (.int k (k.wrap (0 - n)))
 | .xor,.u8 x => some (.u8 (~~~x))
 | .xor,.u16 x => some (.u16 (~~~x))
 | .xor,.u32 x => some (.u32 (~~~x))
 | .xor,.u64 x => some (.u64 (~~~x))
 | .not,.bool b => some (.bool (!b))
 | _,_ => none
def w0v (k : IntKind) (a : AV) : Option AV :=
 match a,k with
 | .u8 x,.i64 => some (.int .i64 x.toNat)
 | .u16 x,.i64 => some (.int .i64 x.toNat)
 | .u32 x,.i64 => some (.int .i64 x.toNat)
 | .u8 x,.u8 => some (.u8 x)
 | .u8 x,.u16 => some (.u16 (x.setWidth 16))
 | .u8 x,.u32 => some (.u32 (x.setWidth 32))
 | .u8 x,.u64 => some (.u64 (x.setWidth 64))
 | .u16 x,.u8 => some (.u8 (x.setWidth 8))
 | .u16 x,.u16 => some (.u16 x)
 | .u16 x,.u32 => some (.u32 (x.setWidth 32))
 | .u16 x,.u64 => some (.u64 (x.setWidth 64))
 | .u32 x,.u8 => some (.u8 (x.setWidth 8))
 | .u32 x,.u16 => some (.u16 (x.setWidth 16))
 | .u32 x,.u32 => some (.u32 x)
 | .u32 x,.u64 => some (.u64 (x.setWidth 64))
 | .u64 x,.u8 => some (.u8 (x.setWidth 8))
 | .u64 x,.u16 => some (.u16 (x.setWidth 16))
 | .u64 x,.u32 => some (.u32 (x.setWidth 32))
 | .u64 x,.u64 => some (.u64 x)
 | a,k => (AV.num a).map (c0k k)
def nG (place : Nat->Option (Nat × Nat)) (cells : List AV) : List (Nat × AV)->Option (List AV)
 | [] => some cells
 | (i,v)::rest =>
  match place i,v.cells with
  | some (off,size),some vc =>
   if vc.length ≠ size \/ off + vc.length > cells.length then none
   else nG place (cells.take off++vc++cells.drop (off + vc.length)) rest
  | _,_ => none
def yN (P : Program) (t : TypeId) : Option (List AV) :=
 (P.info? t).bind fun i => i.zero.map fun z => z.cells.toList.map absC0
def nU (P : Program) (fields : Array Field) : Option (List (Nat × Nat)) :=
 fields.toList.mapM (fun f => (P.info? f.type).map fun i => (f.offset,i.size))
def vZ (x n : Nat) : Nat := match x with | 0 => n | x => x + n
def Q7 (lo hi : Option Operand) (l : Nat) (c : Cap) : Cap :=
 match lo,hi with
 | none,none => c
 | none,some _ => match c with | .kn c => .kn c | .ow => .os | .os => .os | _ => .un
 | some _,none => match c with | .kn c => .kn (c - l) | .ow => .ox | .ox => .ox | _ => .un
 | some _,some _ => match c with | .kn c => .kn (c - l) | _ => .un
def hP (lo hi : Option Operand) (bs : List AV) (n : Nat) : PO (Nat × Nat) :=
 match lo,hi,bs with
 | none,none,[] => some ([],(0,n))
 | some l,none,[a] => (vJ l a).map fun p => (p.1++[p.2<=n],(p.2,n))
 | none,some h,[b] => (vJ h b).map fun q => (q.1++[q.2<=n],(0,q.2))
 | some l,some h,[a,b] => (vJ l a).bind fun p => (vJ h b).map fun q => (p.1++q.1++[p.2<=q.2,q.2<=n],(p.2,q.2))
 | _,_,_ => none
def Q8 {α : Type} (hi : Option Operand) (h : Nat) (l : List α) : List α := match hi with | none => l | some _ => l.take h
def Q9 {α : Type} (lo : Option Operand) (k : Nat) (l : List α) : List α := match lo with | none => l | some _ => l.drop k
def kE (h l : Nat) : Nat := match l with | 0 => h | l => h - l
def v0v (mx : Bool) : AV->AV->Option AV
 | .u8 x,.u8 y => some (.u8 (bif mx then (if x.toNat < y.toNat then y else x) else (if y.toNat < x.toNat then y else x)))
 | .u16 x,.u16 y => some (.u16 (bif mx then (if x.toNat < y.toNat then y else x) else (if y.toNat < x.toNat then y else x)))
 | .u32 x,.u32 y => some (.u32 (bif mx then (if x.toNat < y.toNat then y else x) else (if y.toNat < x.toNat then y else x)))
 | .u64 x,.u64 y => some (.u64 (bif mx then (if x.toNat < y.toNat then y else x) else (if y.toNat < x.toNat then y else x)))
 | .int k x,.int k' y => if k = k' then some (.int k (bif mx then max x y else min x y)) else none
 | _,_ => none
def R0 (mx : Bool) : List AV->Option AV
 | [] => none
 | x::rest => rest.foldlM (v0v mx) x
def kR (l : List (BitVec 8)) : Nat->Nat->List AV
 | _,0 => []
 | p,k + 1 => .u8 (l.getD p 0)::kR l (p + 1) k
def F6 (P : Program) (o : Oper) (args : List AV) : PO AV :=
 match o.op,args with
 | .move _,[a] => some ([],a)
 | .assign _,[a] => some ([],a)
 | .nilCheck _,[.ptr i x sz c] => some ([],.ptr i x sz c)
 | .nilCheck _,[.rp p cs] => some ([],.rp p cs)
 | .nilCheck _,[.fn f a b] => some ([],.fn f a b)
 | .binOp op t _ yo _,[a,b] => x0v P op t yo a b
 | .unOp op _ _,[a] => (aun op a).map fun v => ([],v)
 | .convert src dst _,[a] =>
  match P.underlying src,P.underlying dst with
  | some _,some (.int k) => (w0v k a).map fun v => ([],v)
  | some .string,some .string => match a with | .str s => some ([],.str s) | _ => none
  | _,_ => none
 | .makeFunc (.func f) first _,args => some ([],.fn f (args.take first.size) (args.drop first.size))
 | .extract _ ix,[.tup vs] => (vs[ix]?).map fun v => ([],v)
 | .sliceToArrayPointer t _,[.slice i x sz n _ _] =>
  match P.underlying t with
  | some (.array k _) => if k = 0 then none else some ([k<=n],.ptr i x sz 0)
  | _ => none
 | .sliceToArrayPointer t _,[.rb p l _] =>
  match P.underlying t with
  | some (.array k _) => if k = 0 then none else some ([k<=l.length],.rp p (kR l 0 k))
  | _ => none
 | .field t _ f,[.agg cs] =>
  match P.underlying t with
  | some (.struct fields) => (fields[f]?).bind fun fd => (apart P fd.type cs fd.offset).map fun v => ([],v)
  | _ => none
 | .index t _ io,[.agg cs,ix] =>
  match P.underlying t with
  | some (.array n e) => (vJ io ix).bind fun j => if j.2 < n then (P.info? e).bind fun i => (apart P e cs (j.2 * i.size)).map fun v => (j.1,v) else none
  | _ => none
 | .index t _ io,[.str s,ix] =>
  match P.underlying t with
  | some .string => (vJ io ix).map fun j => (j.1++[j.2 < s.length],.u8 (s.getD j.2 0))
  | _ => none
 | .indexAddr t _ io,[.ptr i x sz c,ix] =>
  match P.underlying t with
  | some (.array n e) => (vJ io ix).bind fun j => if j.2 < n then (P.info? e).map fun inf => (j.1,.ptr i x sz (c + j.2 * inf.size)) else none
  | _ => none
 | .indexAddr t _ io,[.slice i x sz n _ _,ix] =>
  match P.underlying t with
  | some (.slice e) => (vJ io ix).bind fun j => (P.info? e).bind fun inf => if inf.size = sz then some (j.1++[j.2 < n],.ptr i (vZ x j.2) sz 0) else none
  | _ => none
 | .indexAddr t _ io,[.rb p l _,ix] =>
  match P.underlying t with
  | some (.slice e) => (vJ io ix).bind fun j => (P.info? e).bind fun inf => if inf.size = 1 then some (j.1++[j.2 < l.length],.rp p [.u8 (l.getD j.2 0)]) else none
  | _ => none
 | .indexAddr t _ io,[.ros p sz n g _,ix] =>
  match P.underlying t with
  | some (.slice e) => (vJ io ix).bind fun j => (P.info? e).bind fun inf => if inf.size = sz then some (j.1++[j.2 < n],.rp p (g j.2)) else none
  | _ => none
 | .fieldAddr t _ f,[.ptr i x sz c] =>
  match P.underlying t with
  | some (.struct fields) => (fields[f]?).bind fun fd => (P.info? fd.type).bind fun inf => if inf.size = 0 then none else some ([],.ptr i x sz (c + fd.offset))
  | _ => none
 | .fieldAddr t _ f,[.rp p cs] =>
  match P.underlying t with
  | some (.struct fields) => (fields[f]?).bind fun fd => (P.info? fd.type).bind fun inf => if inf.size = 0 then none else some ([],.rp p (cs.drop fd.offset))
  | _ => none
 | .load t _,[.rp p cs] => (apart P t cs 0).map fun v => ([],v)
 | .slice t _ lo hi none,x::bs =>
  match P.underlying t,x with
  | some (.slice e),.slice i x sz n c nl => (hP lo hi bs n).bind fun q => (P.info? e).bind fun inf =>
   if inf.size = sz then some (q.1,.slice i (vZ x q.2.1) sz (kE q.2.2 q.2.1) (Q7 lo hi q.2.1 c) nl) else none
  | some (.slice e),.nils => (hP lo hi bs 0).bind fun q => (P.info? e).map fun inf => (q.1,.nils)
  | some (.slice e),.rb p l nl => (hP lo hi bs l.length).bind fun q => (P.info? e).bind fun inf =>
   if inf.size = 1 then some (q.1,.rb p (Q9 lo q.2.1 (Q8 hi q.2.2 l)) nl) else none
  | some (.slice e),.ros p sz n g nl => (hP lo hi bs n).bind fun q => (P.info? e).bind fun inf =>
   if inf.size = sz then some (q.1,.ros p sz (kE q.2.2 q.2.1) (match lo with | none => g | some _ => fun j => g (q.2.1 + j)) nl) else none
  | some (.array n e),.ptr i x sz c => (hP lo hi bs n).bind fun q => (P.info? e).bind fun inf =>
    if inf.size = 1 then some (q.1,.slice i (vZ (x * sz) (c + q.2.1)) 1 (kE q.2.2 q.2.1) (.kn (n - q.2.1)) (.is false)) else none
  | some .string,.str s => (hP lo hi bs s.length).map fun q => (q.1,.str (Q9 lo q.2.1 (Q8 hi q.2.2 s)))
  | _,_ => none
 | .build t parts,args =>
  match yN P t,P.underlying t with
  | some z,some (.array _ e) => (P.info? e).bind fun ie => (nG (fun i => some (i * ie.size,ie.size)) z ((parts.toList.map (·.1)).zip args)).map fun l => ([],.agg l)
  | some z,some (.struct fields) => (nU P fields).bind fun places => (nG (fun i => places.toArray[i]?) z ((parts.toList.map (·.1)).zip args)).map fun l => ([],.agg l)
  | _,_ => none
 | .call { callee := .builtin .len,argTypes,.. },[a] =>
  match (argTypes[0]?).bind P.underlying,a with
  | some .string,.str s => some ([],.int .i64 s.length)
  | some (.slice _),.slice _ _ _ n _ _ => some ([],.int .i64 n)
  | some (.slice _),.nils => some ([],.int .i64 0)
  | some (.slice _),.rb _ l _ => some ([],.int .i64 l.length)
  | some (.slice _),.ros _ _ n _ _ => some ([],.int .i64 n)
  | some (.array n _),_ => some ([],.int .i64 n)
  | _,_ => none
 | .call { callee := .builtin .cap,argTypes,.. },[a] =>
  match (argTypes[0]?).bind P.underlying,a with
  | some (.slice _),.slice _ _ _ _ (.kn c) _ => some ([],.int .i64 c)
  | some (.slice _),.nils => some ([],.int .i64 0)
  | _,_ => none
 | .call { callee := .builtin .min,.. },args => (R0 false args).map fun v => ([],v)
 | .call { callee := .builtin .max,.. },args => (R0 true args).map fun v => ([],v)
 | _,_ => none
end Go.Sym
namespace Go.Sym
theorem R1 (k : IntKind) (hs : k.signed = false) (n : Int) : k.wrap n = n % (2 ^ k.bits : Int) := by
 simp [IntKind.wrap,hs]
theorem gQ (k : IntKind) (hs : k.signed = false) (n : Nat) : k.wrap (n : Int) = ((n % 2 ^ k.bits : Nat) : Int) := by
 rw [R1 k hs]; norm_cast
theorem xV (k : IntKind) (hs : k.signed = false) (x : BitVec k.bits) : k.wrap (x.toNat : Int) = x.toNat := by
 rw [gQ k hs,Nat.mod_eq_of_lt x.isLt]
theorem wadd (k : IntKind) (hs : k.signed = false) (x y : BitVec k.bits) : k.wrap ((x.toNat : Int) + y.toNat) = (x + y).toNat := by
 have h := gQ k hs (x.toNat + y.toNat)
 rw [BitVec.toNat_add,<- h]; norm_cast
theorem wmul (k : IntKind) (hs : k.signed = false) (x y : BitVec k.bits) : k.wrap ((x.toNat : Int) * y.toNat) = (x * y).toNat := by
 have h := gQ k hs (x.toNat * y.toNat)
 rw [BitVec.toNat_mul,<- h]; norm_cast
theorem wsub (k : IntKind) (hs : k.signed = false) (x y : BitVec k.bits) : k.wrap ((x.toNat : Int) - y.toNat) = (x - y).toNat := by
 have h := gQ k hs (2 ^ k.bits - y.toNat + x.toNat)
 have hy := y.isLt
 rw [BitVec.toNat_sub,<- h,R1 k hs,R1 k hs]
 have e : ((2 ^ k.bits - y.toNat + x.toNat : Nat) : Int) = ((x.toNat : Int) - y.toNat) + (2 ^ k.bits : Int) := by
  have e1 : ((2 ^ k.bits : Nat) : Int) = (2 ^ k.bits : Int) := by norm_cast
  omega
 rw [e,Int.add_emod_right]
theorem kF {w : Nat} (x : BitVec w) : BitVec.ofInt w (x.toNat : Int) = x := by
 apply BitVec.eq_of_toNat_eq
 rw [BitVec.toNat_ofInt]
 have h : ((x.toNat : Int) % ((2 ^ w : Nat) : Int)) = ((x.toNat % 2 ^ w : Nat) : Int) := by norm_cast
 rw [h,Int.toNat_natCast,Nat.mod_eq_of_lt x.isLt]
section
variable {P : Program} {κ : Ker} {w : World}
theorem aK {yo : Operand} {p : Prop} {l : List Prop} {y : Int} (h : nz yo p = some l) (ho : zP l) (hy : ∀ k n,yo = .const (.int k n)->y = n) (hp : p->y ≠ 0) : y ≠ 0 := by
 unfold nz at h
 split at h
 ·rename_i k n
  split at h
  ·cases h
  ·rw [hy k n rfl]; assumption
 ·simp only [Option.some.injEq] at h
  subst h
  exact hp (zA.1 ho)
theorem qC (k : IntKind) (hs : k.signed = false) (mk : BitVec k.bits->AV) (hmk : ∀ b,VRel κ (mk b) (.int k b.toNat)) {op : BinOp} (hop : op ≠ .shl/\op ≠ .shr) {t : TypeId} {x y : BitVec k.bits} {yo : Operand} {l : List Prop} {v : AV}
  (h : sV mk yo op x y = some (l,v)) (ho : zP l) (hy : ∀ k n,yo = .const (.int k n)->(y.toNat : Int) = n) : ∃ z,VRel κ v z/\(binOp op t (.int k x.toNat) (.int k y.toNat)).run P w = .ok z w := by
 have hlt := x.isLt
 have hlt2 := y.isLt
 cases op <;> simp only [sV,Option.some.injEq,reduceCtorEq,Prod.mk.injEq,Option.map_eq_some_iff] at h
 case quo =>
  obtain ⟨l',hl,rfl,rfl⟩ := h
  have hy0 := aK hl ho hy (fun h => by omega)
  have hy1 : ¬ y.toNat = 0 := by omega
  refine ⟨_,hmk _,?_⟩
  have e : (x.toNat : Int).tdiv y.toNat = ((x / y).toNat : Int) := by
   rw [BitVec.toNat_udiv,Int.tdiv_eq_ediv_of_nonneg (by omega)]; norm_cast
  simp [binOp,Op.intDiv,hy1,e,xV k hs,-BitVec.toNat_udiv]
 case rem =>
  obtain ⟨l',hl,rfl,rfl⟩ := h
  have hy0 := aK hl ho hy (fun h => by omega)
  have hy1 : ¬ y.toNat = 0 := by omega
  refine ⟨_,hmk _,?_⟩
  have e : (x.toNat : Int).tmod y.toNat = ((x % y).toNat : Int) := by
   rw [BitVec.toNat_umod,Int.tmod_eq_emod_of_nonneg (by omega)]; norm_cast
  simp [binOp,Op.intDiv,hy1,e,-BitVec.toNat_umod]
 all_goals obtain ⟨rfl,rfl⟩ := h
 case add => exact ⟨_,hmk _,by simp [binOp,Op.intArith,wadd k hs]⟩
 case sub => exact ⟨_,hmk _,by simp [binOp,Op.intArith,wsub k hs]⟩
 case mul => exact ⟨_,hmk _,by simp [binOp,Op.intArith,wmul k hs]⟩
 case and => exact ⟨_,hmk _,by simp [binOp,Op.intBits,kF,xV k hs,-BitVec.toNat_and]⟩
 case or => exact ⟨_,hmk _,by simp [binOp,Op.intBits,kF,xV k hs,-BitVec.toNat_or]⟩
 case xor => exact ⟨_,hmk _,by simp [binOp,Op.intBits,kF,xV k hs,-BitVec.toNat_xor]⟩
 case andNot => exact ⟨_,hmk _,by simp [binOp,Op.intBits,kF,xV k hs,-BitVec.toNat_and,-BitVec.toNat_not]⟩
 case eql =>
  refine ⟨_,rfl,?_⟩
  have e : ((x.toNat : Int) == y.toNat) = decide (x = y) := by
   rw [Bool.eq_iff_iff]; simp only [beq_iff_eq,decide_eq_true_eq]; exact ⟨fun h => BitVec.eq_of_toNat_eq (by omega),fun h => by rw [h]⟩
  simp [binOp,Op.intCmp,e]
 case neq =>
  refine ⟨_,rfl,?_⟩
  have e : ((x.toNat : Int) != y.toNat) = !decide (x = y) := by
   rw [Bool.eq_iff_iff]; simp only [bne_iff_ne,ne_eq,Bool.not_eq_true',decide_eq_false_iff_not]; exact not_congr ⟨fun h => BitVec.eq_of_toNat_eq (by omega),fun h => by rw [h]⟩
  simp [binOp,Op.intCmp,e]
 case lss => exact ⟨_,rfl,by simp [binOp,Op.intCmp]⟩
 case leq => exact ⟨_,rfl,by simp [binOp,Op.intCmp]⟩
 case gtr => exact ⟨_,rfl,by simp [binOp,Op.intCmp]⟩
 case geq => exact ⟨_,rfl,by simp [binOp,Op.intCmp]⟩
theorem m7 (k : IntKind) {op : BinOp} {t : TypeId} {x y : Int} {yo : Operand} {l : List Prop} {v : AV}
  (h : b0k k yo op x y = some (l,v)) (ho : zP l) (hy : ∀ k n,yo = .const (.int k n)->y = n) : ∃ z,VRel κ v z/\(binOp op t (.int k x) (.int k y)).run P w = .ok z w := by
 cases op <;> simp only [b0k,Option.some.injEq,reduceCtorEq,Prod.mk.injEq,Option.map_eq_some_iff] at h
 case quo =>
  obtain ⟨l',hl,rfl,rfl⟩ := h
  have hy0 := aK hl ho hy (fun h => h)
  exact ⟨_,rfl,by simp [binOp,Op.intDiv,hy0]⟩
 case rem =>
  obtain ⟨l',hl,rfl,rfl⟩ := h
  have hy0 := aK hl ho hy (fun h => h)
  exact ⟨_,rfl,by simp [binOp,Op.intDiv,hy0]⟩
 all_goals obtain ⟨rfl,rfl⟩ := h
 case eql => exact ⟨_,rfl,by simp [binOp,Op.intCmp]; rw [Bool.eq_iff_iff]; simp⟩
 case neq => exact ⟨_,rfl,by simp [binOp,Op.intCmp]; rw [Bool.eq_iff_iff]; simp⟩
 all_goals exact ⟨_,rfl,by simp [binOp,Op.intArith,Op.intBits,Op.intCmp]⟩
theorem w1x {a : AV} {x : Value} {l : List Prop} {n : Nat} (h : VRel κ a x) (hi : AV.nat a = some (l,n)) (ho : zP l) : ∃ k,x = .int k (n : Int) := by
 cases a <;> simp only [AV.nat,reduceCtorEq,Option.some.injEq,Prod.mk.injEq] at hi <;> simp only [VRel] at h
 case int k m =>
  obtain ⟨rfl,rfl⟩ := hi
  have := zA.1 ho
  exact ⟨k,by rw [h]; congr 1; omega⟩
 all_goals (obtain ⟨rfl,rfl⟩ := hi; exact ⟨_,h⟩)
theorem yT {ox : Operand} {a : AV} {x : Value} {l : List Prop} {n : Nat} (h : VRel κ a x) (hx : ∀ v,ox = .const v->x = v) (hi : vJ ox a = some (l,n)) (ho : zP l) : ∃ k,x = .int k (n : Int) := by
 unfold vJ at hi
 split at hi
 ·rename_i k m
  simp only [Option.some.injEq,Prod.mk.injEq] at hi
  obtain ⟨rfl,rfl⟩ := hi
  exact ⟨k,hx _ rfl⟩
 ·exact w1x h hi ho
theorem v1x {a : AV} {x : Value} {n : Int} (h : VRel κ a x) (hi : AV.num a = some n) : ∃ k,x = .int k n := by
 cases a <;> simp only [AV.num,reduceCtorEq,Option.some.injEq] at hi <;> simp only [VRel] at h
 all_goals (subst hi; exact ⟨_,h⟩)
theorem shlU (k : IntKind) (hs : k.signed = false) (x : BitVec k.bits) (m : Nat) : k.wrap ((x.toNat : Int) * 2 ^ (min m k.bits)) = (x <<< m).toNat := by
 have h := gQ k hs (x.toNat * 2 ^ (min m k.bits))
 have e : ((x.toNat * 2 ^ (min m k.bits) : Nat) : Int) = (x.toNat : Int) * 2 ^ (min m k.bits) := by norm_cast
 rw [<- e,h,BitVec.toNat_shiftLeft,Nat.shiftLeft_eq]
 rcases Nat.le_total m k.bits with hm | hm
 ·rw [Nat.min_eq_left hm]
 ·rw [Nat.min_eq_right hm]
  obtain ⟨d,rfl⟩ := Nat.exists_eq_add_of_le hm
  rw [Nat.pow_add,<- Nat.mul_assoc,Nat.mul_mod_left,Nat.mul_right_comm,Nat.mul_mod_left]
theorem shrU (k : IntKind) (x : BitVec k.bits) (m : Nat) : (x.toNat : Int).fdiv (2 ^ (min m k.bits)) = (x >>> m).toNat := by
 have e : (2 ^ (min m k.bits) : Int) = ((2 ^ (min m k.bits) : Nat) : Int) := by norm_cast
 rw [Int.fdiv_eq_ediv_of_nonneg _ (by rw [e]; exact Int.natCast_nonneg _),e,BitVec.toNat_ushiftRight,Nat.shiftRight_eq_div_pow]
 rcases Nat.le_total m k.bits with hm | hm
 ·rw [Nat.min_eq_left hm]; norm_cast
 ·rw [Nat.min_eq_right hm]
  have h1 : x.toNat / 2 ^ k.bits = 0 := Nat.div_eq_of_lt x.isLt
  have h2 : x.toNat / 2 ^ m = 0 := Nat.div_eq_of_lt (Nat.lt_of_lt_of_le x.isLt (Nat.pow_le_pow_right (by omega) hm))
  rw [h2]
  norm_cast
theorem dC (t : TypeId) (k yk : IntKind) (x : Int) (m : Nat) : (binOp .shl t (.int k x) (.int yk (m : Int))).run P w = .ok (.int k (k.wrap (x * 2 ^ (min m k.bits)))) w := by
 have hneg : ¬ ((m : Int) < 0) := by omega
 simp only [binOp,Op.shift,if_neg hneg,Int.toNat_natCast,Sem.run_pure]
theorem dD (t : TypeId) (k yk : IntKind) (x : Int) (m : Nat) : (binOp .shr t (.int k x) (.int yk (m : Int))).run P w = .ok (.int k (x.fdiv (2 ^ (min m k.bits)))) w := by
 have hneg : ¬ ((m : Int) < 0) := by omega
 simp only [binOp,Op.shift,if_neg hneg,Int.toNat_natCast,Sem.run_pure]
theorem F7 {a : AV} {x : Value} {m : Nat} {v : AV} (ha : VRel κ a x) (h : ashl a m = some v) (t : TypeId) (yk : IntKind) :
  ∃ z,VRel κ v z/\(binOp .shl t x (.int yk (m : Int))).run P w = .ok z w := by
 cases a <;> simp only [ashl,reduceCtorEq,Option.some.injEq] at h <;> simp only [VRel] at ha <;> subst ha <;> subst h
 case u8 x => exact ⟨_,rfl,by rw [dC]; exact congrArg (fun n => Result.ok (Value.int .u8 n) w) (shlU .u8 rfl x m)⟩
 case u16 x => exact ⟨_,rfl,by rw [dC]; exact congrArg (fun n => Result.ok (Value.int .u16 n) w) (shlU .u16 rfl x m)⟩
 case u32 x => exact ⟨_,rfl,by rw [dC]; exact congrArg (fun n => Result.ok (Value.int .u32 n) w) (shlU .u32 rfl x m)⟩
 case u64 x => exact ⟨_,rfl,by rw [dC]; exact congrArg (fun n => Result.ok (Value.int .u64 n) w) (shlU .u64 rfl x m)⟩
 case int k x => exact ⟨_,rfl,dC ..⟩
theorem F9 {a : AV} {x : Value} {m : Nat} {v : AV} (ha : VRel κ a x) (h : ashr a m = some v) (t : TypeId) (yk : IntKind) :
  ∃ z,VRel κ v z/\(binOp .shr t x (.int yk (m : Int))).run P w = .ok z w := by
 cases a <;> simp only [ashr,reduceCtorEq,Option.some.injEq] at h <;> simp only [VRel] at ha <;> subst ha <;> subst h
 case u8 x => exact ⟨_,rfl,by rw [dD]; exact congrArg (fun n => Result.ok (Value.int .u8 n) w) (shrU .u8 x m)⟩
 case u16 x => exact ⟨_,rfl,by rw [dD]; exact congrArg (fun n => Result.ok (Value.int .u16 n) w) (shrU .u16 x m)⟩
 case u32 x => exact ⟨_,rfl,by rw [dD]; exact congrArg (fun n => Result.ok (Value.int .u32 n) w) (shrU .u32 x m)⟩
 case u64 x => exact ⟨_,rfl,by rw [dD]; exact congrArg (fun n => Result.ok (Value.int .u64 n) w) (shrU .u64 x m)⟩
 case int k x => exact ⟨_,rfl,dD ..⟩
end
end Go.Sym
namespace Go.Sym
section
variable {P : Program} {κ : Ker} {w : World}
theorem VRels.one {a : AV} {vs : List Value} (h : VRels κ [a] vs) : ∃ x,vs = [x]/\VRel κ a x := by
 obtain ⟨x,xs,rfl,h1,h2⟩ := h
 simp only [VRels] at h2
 subst h2
 exact ⟨x,rfl,h1⟩
theorem VRels.two {a b : AV} {vs : List Value} (h : VRels κ [a,b] vs) : ∃ x y,vs = [x,y]/\VRel κ a x/\VRel κ b y := by
 obtain ⟨x,xs,rfl,h1,h2⟩ := h
 obtain ⟨y,rfl,h3⟩ := h2.one
 exact ⟨x,y,rfl,h1,h3⟩
theorem VRels.three {a b c : AV} {vs : List Value} (h : VRels κ [a,b,c] vs) : ∃ x y z,vs = [x,y,z]/\VRel κ a x/\VRel κ b y/\VRel κ c z := by
 obtain ⟨x,xs,rfl,h1,h2⟩ := h
 obtain ⟨y,z,rfl,h3,h4⟩ := h2.two
 exact ⟨x,y,z,rfl,h1,h3,h4⟩
theorem xK {t : TypeId} {b : Bool} (h : vU P t = some b) : (isAgg t).run P w = .ok b w := by
 unfold vU at h
 cases hu : P.underlying t with
 | none => simp [hu] at h
 | some d =>
  cases d <;> simp [hu] at h <;> subst h <;> simp [isAgg,run_underlying hu]
theorem zO {t : TypeId} {i : TypeInfo} (h : P.info? t = some i) : (sizeOf t).run P w = .ok i.size w := by
 simp [sizeOf,typeInfo,h]
theorem vX {t : TypeId} {as : List AV} {cs : Array Value} {off : Nat} {v : AV} (hv : VRels κ as cs.toList) (h : apart P t as off = some v) :
  ∃ x,VRel κ v x/\(part t cs off).run P w = .ok x w := by
 unfold apart at h
 split at h
 ·rename_i i hb hi
  dsimp only at h
  split at h
  ·rename_i hl
   simp at h
   subst h
   refine ⟨.agg (cs.extract off (off + i.size)),⟨_,rfl,?_⟩,?_⟩
   ·have e : (cs.extract off (off + i.size)).toList = (cs.toList.drop off).take i.size := by
     simp [List.extract_eq_take_drop]
    rw [e]
    exact (hv.drop off).take i.size
   ·simp [part,xK hb,zO hi]
  ·simp at h
 ·rename_i hb
  obtain ⟨x,hx,hr⟩ := hv.get h
  refine ⟨x,hr,?_⟩
  simp only [part,Sem.run_bind,xK hb,Result.andThen_ok]
  have : cs[off]? = some x := by simpa using hx
  simp [this]
 ·simp at h
theorem pN {a c : AV} {p : Bool} (h : pL a c = some p) {x y : Value} (hx : VRel κ a x) (hy : VRel κ c y) :
  ∃ k m n,x = .int k m/\y = .int k n/\p = (m == n) := by
 have nat : ∀ {w : Nat} (p q : BitVec w),decide (p = q) = ((p.toNat : Int) == (q.toNat : Int)) := by
  intro w p q
  rw [Bool.eq_iff_iff]; simp only [beq_iff_eq,decide_eq_true_eq]; exact ⟨fun h => by rw [h],fun h => BitVec.eq_of_toNat_eq (by omega)⟩
 cases a <;> cases c <;> simp only [pL,Option.some.injEq,reduceCtorEq] at h <;> simp only [VRel] at hx hy <;> subst hx <;> subst hy
 case int.int k m k' n =>
  split at h
  ·rename_i hk
   subst hk
   simp at h
   subst h
   exact ⟨k,m,n,rfl,rfl,rfl⟩
  ·simp at h
 all_goals
  subst h
  exact ⟨_,_,_,rfl,rfl,nat _ _⟩
theorem iX {a c : AV} {as bs : List AV} {b : Bool} (h : wR (a::as) (c::bs) = some b) {x y : Value} (hx : VRel κ a x) (hy : VRel κ c y) :
  ∃ b1 k m n,wR as bs = some b1/\x = .int k m/\y = .int k n/\b = ((m == n) && b1) := by
 simp only [wR] at h
 split at h
 ·rename_i p q hp hq
  simp at h
  subst h
  obtain ⟨k,m,n,h1,h2,h3⟩ := pN hp hx hy
  exact ⟨q,k,m,n,hq,h1,h2,by rw [h3]⟩
 ·simp at h
theorem G0 (d : Nat) (e : TypeId) (i : TypeInfo) {k0 : IntKind} (hu : P.underlying e = some (.int k0)) (hi : P.info? e = some i) (hsz : i.size = 1) (xs ys : Array Value) :
  ∀ (as bs : List AV) (s : Nat) (b : Bool),VRels κ as (xs.toList.drop s)->VRels κ bs (ys.toList.drop s)->wR as bs = some b ->
  (forIn (List.range' s as.length) ((none,()) : Option Bool × Unit) (fun i _ => do
   let a <- part e xs (i * 1)
   let b <- part e ys (i * 1)
   let r <- Op.equalIn (d + 1) e a b
   if (!r) = true then pure (ForInStep.done (some false,())) else pure (ForInStep.yield (none,())))).run P w
   = .ok ((if b then none else some false,()) : Option Bool × Unit) w := by
 intro as
 induction as with
 | nil =>
  intro bs s b _ _ h
  cases bs with
  | nil => simp [wR] at h; subst h; simp
  | cons c bs => simp [wR] at h
 | cons a as ih =>
  intro bs s b h1 h2 h
  cases bs with
  | nil => simp [wR] at h
  | cons c bs =>
   obtain ⟨x,xr,hx0,hxa,hxr⟩ := h1
   obtain ⟨y,yr,hy0,hyc,hyr⟩ := h2
   obtain ⟨b1,k,m,n,hb1,rfl,rfl,rfl⟩ := iX h hxa hyc
   have hb : vU P e = some false := by simp [vU,hu]
   have gx : xs[s]? = some (.int k m) := by
    have := congrArg (·[0]?) hx0
    simpa using this
   have gy : ys[s]? = some (.int k n) := by
    have := congrArg (·[0]?) hy0
    simpa using this
   have dx : xs.toList.drop (s + 1) = xr := by
    have := congrArg (List.drop 1) hx0
    simpa [List.drop_drop,Nat.add_comm] using this
   have dy : ys.toList.drop (s + 1) = yr := by
    have := congrArg (List.drop 1) hy0
    simpa [List.drop_drop,Nat.add_comm] using this
   have px : (part e xs (s * 1)).run P w = .ok (.int k m) w := by
    simp only [Nat.mul_one,part,Sem.run_bind,xK hb,Result.andThen_ok]
    simp [gx]
   have py : (part e ys (s * 1)).run P w = .ok (.int k n) w := by
    simp only [Nat.mul_one,part,Sem.run_bind,xK hb,Result.andThen_ok]
    simp [gy]
   simp only [List.length_cons,List.range'_succ,List.forIn_cons,Sem.run_bind,px,py,Result.andThen_ok,run_equalIn_int w d e k k0 m n hu]
   cases hmn : (m == n)
   ·simp
   ·simp only [Bool.not_true,Bool.false_eq_true,if_false,Sem.run_pure,Result.andThen_ok,Bool.true_and]
    exact ih bs (s + 1) b1 (dx ▸ hxr) (dy ▸ hyr) hb1
theorem wS (d : Nat) (t e : TypeId) (n : Nat) (i : TypeInfo) {k0 : IntKind} (ht : P.underlying t = some (.array n e)) (hu : P.underlying e = some (.int k0)) (hi : P.info? e = some i) (hsz : i.size = 1)
  (xs ys : Array Value) (as bs : List AV) (b : Bool) (h1 : VRels κ as xs.toList) (h2 : VRels κ bs ys.toList) (hn : as.length = n) (h : wR as bs = some b) :
  (Op.equalIn (d + 2) t (.agg xs) (.agg ys)).run P w = .ok b w := by
 have hl := G0 (w := w) d e i hu hi hsz xs ys as bs 0 b (by simpa using h1) (by simpa using h2) h
 rw [hn] at hl
 unfold Op.equalIn
 simp only [Sem.run_bind,run_underlying ht,Result.andThen_ok,zO hi,hsz,Std.Legacy.Range.forIn_eq_forIn_range',Std.Legacy.Range.size]
 simp only [Nat.sub_zero,Nat.add_one_sub_one,Nat.div_one,Nat.add_sub_cancel] at hl ⊢
 rw [hl]
 cases b <;> simp
theorem q2x (x y : List (BitVec 8)) : (zM x == zM y) = decide (x = y) := by
 rw [Bool.eq_iff_iff,decide_eq_true_eq]
 constructor
 ·intro h
  apply bytesStr_inj
  have e : (zM x).data == (zM y).data := h
  exact ByteArray.ext (by simpa using e)
 ·rintro rfl
  show ((zM x).data == (zM x).data) = true
  simp
theorem iY (x y : List (BitVec 8)) : ((zM x).toList == (zM y).toList) = decide (x = y) := by rw [<- beq_toListBytes,q2x]
theorem aG (x y : List (BitVec 8)) : zM x++zM y = zM (x++y) := by
 apply ByteArray.ext
 simp [zM,ByteArray.data_append]
theorem pO (a b : Bool) : (a == b) = decide (a = b) := by cases a <;> cases b <;> rfl
theorem m9 {t : TypeId} {a b : Bool} (h : P.underlying t = some .bool) : (do pure (); binOp .eql t (.bool a) (.bool b) : Sem Value).run P w = .ok (.bool (decide (a = b))) w := by
 rw [<- pO]; exact run_eql_bool w t a b h
theorem n3 {t : TypeId} {a b : Bool} (h : P.underlying t = some .bool) : (do pure (); binOp .neq t (.bool a) (.bool b) : Sem Value).run P w = .ok (.bool (!decide (a = b))) w := by
 rw [<- pO]; exact run_neq_bool w t a b h
theorem n4 (d : Nat) {t e : TypeId} (a : Option Addr) (h : P.underlying t = some (.pointer e)) : (Op.equalIn (d + 1) t (.pointer none) (.pointer a)).run P w = .ok a.isNone w := by
 simp [Op.equalIn,run_underlying h]
theorem n5 (d : Nat) {t e : TypeId} (a : Addr) (h : P.underlying t = some (.pointer e)) : (Op.equalIn (d + 1) t (.pointer (some a)) (.pointer none)).run P w = .ok false w := by
 simp [Op.equalIn,run_underlying h]
theorem iZ (d : Nat) {t e : TypeId} (a : Option Addr) (l c : Nat) (h : P.underlying t = some (.slice e)) : (Op.equalIn (d + 1) t (.slice a l c) (.slice none 0 0)).run P w = .ok a.isNone w := by
 cases a <;> simp [Op.equalIn,run_underlying h]
theorem u1x {a : AV} {p : Bool} {x : Value} (h : m6 a = some p) (hx : VRel κ a x) : ∃ ad n k,x = .slice ad n k/\p = ad.isNone := by
 unfold m6 at h
 split at h <;> simp only [Option.some.injEq,reduceCtorEq] at h
 ·subst h; simp only [VRel] at hx; exact ⟨none,_,_,hx,rfl⟩
 ·subst h; obtain ⟨a,k,h1,_,h3,_⟩ := hx; exact ⟨a,_,k,h1,h3⟩
 ·subst h; obtain ⟨a,k,h1,_,h3,_⟩ := hx; exact ⟨a,_,k,h1,h3⟩
 ·subst h; obtain ⟨a,k,h1,_,h3,_⟩ := hx; exact ⟨a,_,k,h1,h3⟩
theorem G1 {a : AV} {x : Value} (h : hO a = true) (hx : VRel κ a x) : x = .slice none 0 0 := by
 unfold hO at h
 split at h
 ·exact hx
 ·cases h
theorem dE (d : Nat) {t : TypeId} {a b : AV} {p : Bool} (h : iW P t a b = some p) {x y : Value} (hx : VRel κ a x) (hy : VRel κ b y) :
  (Op.equalIn (d + 2) t x y).run P w = .ok p w := by
 unfold iW at h
 split at h
 ·rename_i k hu
  obtain ⟨k',m,n,rfl,rfl,rfl⟩ := pN h hx hy
  exact run_equalIn_int w (d + 1) t k' k m n hu
 ·rename_i hu
  split at h
  ·simp only [Option.some.injEq] at h
   subst h
   simp only [VRel] at hx hy
   subst hx; subst hy
   rw [<- pO]
   exact run_equalIn_bool' w (d + 1) t _ _ hu
  ·cases h
 ·rename_i hu
  split at h
  ·simp only [Option.some.injEq] at h
   subst h
   simp only [VRel] at hx hy
   subst hx; subst hy
   rw [<- iY]
   exact run_equalIn_string w (d + 1) t _ _ hu
  ·cases h
 ·rename_i n e hu
  split at h
  ·split at h
   ·rename_i k0 i hue hi
    split at h
    ·rename_i hc
     obtain ⟨vs,rfl,hvs⟩ := hx
     obtain ⟨us,rfl,hus⟩ := hy
     exact wS (w := w) d t e n i hu hue hi hc.1 vs us _ _ p hvs hus hc.2 h
    ·cases h
   ·cases h
  ·cases h
 ·cases h
theorem fW (d : Nat) {as bs : List AV} {xs ys : Array Value} (hx : VRels κ as xs.toList) (hy : VRels κ bs ys.toList) :
  ∀ (fs : List Field) (p : Bool),Z4 P as bs fs = some p->(Op.eqFields (d + 2) xs ys fs).run P w = .ok p w
 | [],p,h => by
  simp only [Z4,Option.some.injEq] at h
  subst h
  rfl
 | f::fs,p,h => by
  simp only [Z4] at h
  split at h
  ·cases h
  ·rename_i hn
   split at h
   ·rename_i a b ha hb
    split at h
    ·rename_i q r hq hr
     simp only [Option.some.injEq] at h
     subst h
     obtain ⟨x,hxr,hpx⟩ := vX (w := w) hx ha
     obtain ⟨y,hyr,hpy⟩ := vX (w := w) hy hb
     simp only [Op.eqFields,if_pos hn,Sem.run_bind,hpx,hpy,Result.andThen_ok,dE (w := w) d hq hxr hyr]
     cases q
     ·simp
     ·simp only [Bool.not_true,Bool.false_eq_true,if_false,Bool.true_and]
      exact fW d hx hy fs r hr
    ·cases h
   ·cases h
theorem sW (d : Nat) {e : TypeId} {sz : Nat} {as bs : List AV} {xs ys : Array Value} (hx : VRels κ as xs.toList) (hy : VRels κ bs ys.toList) :
  ∀ (n s : Nat) (b : Bool),pM P e sz as bs s n = some b ->
  (forIn (List.range' s n) ((none,()) : Option Bool × Unit) (fun i _ => do
   let a <- part e xs (i * sz)
   let b <- part e ys (i * sz)
   let r <- Op.equalIn (d + 2) e a b
   if (!r) = true then pure (ForInStep.done (some false,())) else pure (ForInStep.yield (none,())))).run P w
   = .ok ((if b then none else some false,()) : Option Bool × Unit) w
 | 0,s,b,h => by
  simp only [pM,Option.some.injEq] at h
  subst h
  simp
 | n + 1,s,b,h => by
  simp only [pM] at h
  split at h
  ·rename_i a c ha hb
   split at h
   ·rename_i q r hq hr
    simp only [Option.some.injEq] at h
    subst h
    obtain ⟨x,hxr,hpx⟩ := vX (w := w) hx ha
    obtain ⟨y,hyr,hpy⟩ := vX (w := w) hy hb
    simp only [List.range'_succ,List.forIn_cons,Sem.run_bind,hpx,hpy,Result.andThen_ok,dE (w := w) d hq hxr hyr]
    cases q
    ·simp
    ·simp only [Bool.not_true,Bool.false_eq_true,if_false,Sem.run_pure,Result.andThen_ok,Bool.true_and]
     exact sW d hx hy n (s + 1) r hr
   ·cases h
  ·cases h
theorem jM (d : Nat) (t e : TypeId) (n : Nat) (i : TypeInfo) (ht : P.underlying t = some (.array n e)) (hi : P.info? e = some i)
  (xs ys : Array Value) (as bs : List AV) (b : Bool) (h1 : VRels κ as xs.toList) (h2 : VRels κ bs ys.toList) (h : pM P e i.size as bs 0 n = some b) :
  (Op.equalIn (d + 3) t (.agg xs) (.agg ys)).run P w = .ok b w := by
 have hl := sW (w := w) d h1 h2 n 0 b h
 unfold Op.equalIn
 simp only [Sem.run_bind,run_underlying ht,Result.andThen_ok,zO hi,Std.Legacy.Range.forIn_eq_forIn_range',Std.Legacy.Range.size]
 simp only [Nat.sub_zero,Nat.add_one_sub_one,Nat.div_one,Nat.add_sub_cancel] at hl ⊢
 rw [hl]
 cases b <;> simp
theorem n6 {op : BinOp} {t : TypeId} {a b v : AV} {l : List Prop} {x y : Value} (ox oy : Operand) (h' : a0k P op t oy a b = some (l,v)) (hob : zP l) (hx : VRel κ a x) (hy : VRel κ b y) (hop : ¬ op = .shl) (hop2 : ¬ op = .shr)
  (hlit : ∀ {k0 : IntKind} {m : Int},y = .int k0 m->∀ k n,oy = .const (.int k n)->m = n) :
  ∃ z,VRel κ v z/\(do eqGuard op t ox oy x y; binOp op t x y : Sem Value).run P w = .ok z w := by
 have fin : ∀ {k n} {u : Value},x = .int k n->(∃ z,VRel κ v z/\(binOp op t x u).run P w = .ok z w)->∃ z,VRel κ v z/\(do eqGuard op t ox oy x u; binOp op t x u : Sem Value).run P w = .ok z w := by
  intro k n u hxk ⟨z,h1,h2⟩
  subst hxk
  refine ⟨z,h1,?_⟩
  rw [eqGuard_at_int]
  exact h2
 unfold a0k at h'
 split at h'
 ·simp only [VRel] at hx hy; subst hx; subst hy; exact fin rfl (qC .u8 rfl AV.u8 (fun _ => by simp only [VRel]; rfl) ⟨hop,hop2⟩ h' hob (hlit rfl))
 ·simp only [VRel] at hx hy; subst hx; subst hy; exact fin rfl (qC .u16 rfl AV.u16 (fun _ => by simp only [VRel]; rfl) ⟨hop,hop2⟩ h' hob (hlit rfl))
 ·simp only [VRel] at hx hy; subst hx; subst hy; exact fin rfl (qC .u32 rfl AV.u32 (fun _ => by simp only [VRel]; rfl) ⟨hop,hop2⟩ h' hob (hlit rfl))
 ·simp only [VRel] at hx hy; subst hx; subst hy; exact fin rfl (qC .u64 rfl AV.u64 (fun _ => by simp only [VRel]; rfl) ⟨hop,hop2⟩ h' hob (hlit rfl))
 ·split at h'
  ·rename_i hk
   subst hk
   simp only [VRel] at hx hy; subst hx; subst hy; exact fin rfl (m7 _ h' hob (hlit rfl))
  ·simp at h'
 ·simp only [VRel] at hx hy
  subst hx
  subst hy
  rw [eqGuard_at_string]
  split at h'
  ·simp at h'; obtain ⟨rfl,rfl⟩ := h'; exact ⟨_,rfl,by simp [binOp,Op.stringOp,iY]⟩
  ·simp at h'; obtain ⟨rfl,rfl⟩ := h'; exact ⟨_,rfl,by simp [binOp,Op.stringOp,iY]⟩
  ·rename_i x y
   simp at h'; obtain ⟨rfl,rfl⟩ := h'
   have hsz := zA.1 hob
   refine ⟨_,rfl,?_⟩
   simp only [binOp,Op.stringOp,wN]
   rw [if_neg (by simp only [IntKind.max_i64]; omega),aG]
   rfl
  ·simp at h'
 ·simp only [VRel] at hx hy
  subst hx
  subst hy
  rw [eqGuard_at_bool]
  split at h'
  ·rename_i hu; simp at h'; obtain ⟨rfl,rfl⟩ := h'; exact ⟨_,rfl,m9 hu⟩
  ·rename_i hu; simp at h'; obtain ⟨rfl,rfl⟩ := h'; exact ⟨_,rfl,n3 hu⟩
  ·simp at h'
 ·split at h'
  ·rename_i n e hu
   split at h'
   ·rename_i k0 i hue hi
    split at h'
    ·rename_i hc
     obtain ⟨hsz,hl,hg⟩ := hc
     obtain ⟨vs,rfl,hvs⟩ := hx
     obtain ⟨us,rfl,hus⟩ := hy
     split at h'
     ·simp only [Option.map_eq_some_iff,Prod.mk.injEq] at h'
      obtain ⟨b,hb,rfl,rfl⟩ := h'
      refine ⟨_,rfl,?_⟩
      simp only [Sem.run_bind,run_eqGuard_agg w _ t ox oy vs us hg,Result.andThen_ok,run_eql_struct,wS (w := w) 9998 t e n i hu hue hi hsz vs us _ _ b hvs hus hl hb]
     ·simp only [Option.map_eq_some_iff,Prod.mk.injEq] at h'
      obtain ⟨b,hb,rfl,rfl⟩ := h'
      refine ⟨_,rfl,?_⟩
      simp only [Sem.run_bind,run_eqGuard_agg w _ t ox oy vs us hg,Result.andThen_ok,run_neq_struct,wS (w := w) 9998 t e n i hu hue hi hsz vs us _ _ b hvs hus hl hb]
     ·simp at h'
    ·simp at h'
   ·rename_i i hue hi
    split at h'
    ·rename_i hg
     obtain ⟨vs,rfl,hvs⟩ := hx
     obtain ⟨us,rfl,hus⟩ := hy
     split at h'
     ·simp only [Option.map_eq_some_iff,Prod.mk.injEq] at h'
      obtain ⟨b,hb,rfl,rfl⟩ := h'
      refine ⟨_,rfl,?_⟩
      simp only [Sem.run_bind,run_eqGuard_agg w _ t ox oy vs us hg,Result.andThen_ok,run_eql_struct,jM (w := w) 9997 t e n i hu hi vs us _ _ b hvs hus hb]
     ·simp only [Option.map_eq_some_iff,Prod.mk.injEq] at h'
      obtain ⟨b,hb,rfl,rfl⟩ := h'
      refine ⟨_,rfl,?_⟩
      simp only [Sem.run_bind,run_eqGuard_agg w _ t ox oy vs us hg,Result.andThen_ok,run_neq_struct,jM (w := w) 9997 t e n i hu hi vs us _ _ b hvs hus hb]
     ·simp at h'
    ·simp at h'
   ·simp at h'
  ·rename_i fields hu
   have hf : P.fieldsOf t = fields := by simp [Program.fieldsOf,hu]
   split at h'
   ·rename_i hc
    obtain ⟨hst,hg⟩ := hc
    obtain ⟨vs,rfl,hvs⟩ := hx
    obtain ⟨us,rfl,hus⟩ := hy
    have hus' : P.underlying t = some (.struct (P.fieldsOf t)) := by rw [hf]; exact hu
    split at h'
    ·simp only [Option.map_eq_some_iff,Prod.mk.injEq] at h'
     obtain ⟨b,hb,rfl,rfl⟩ := h'
     refine ⟨_,rfl,?_⟩
     simp only [Sem.run_bind,run_eqGuard_agg w _ t ox oy vs us hg,Result.andThen_ok,run_eql_struct,run_equalIn_struct w 9999 t vs us hus' hst]
     rw [hf,fW (w := w) 9997 hvs hus _ _ hb]
     rfl
    ·simp only [Option.map_eq_some_iff,Prod.mk.injEq] at h'
     obtain ⟨b,hb,rfl,rfl⟩ := h'
     refine ⟨_,rfl,?_⟩
     simp only [Sem.run_bind,run_eqGuard_agg w _ t ox oy vs us hg,Result.andThen_ok,run_neq_struct,run_equalIn_struct w 9999 t vs us hus' hst]
     rw [hf,fW (w := w) 9997 hvs hus _ _ hb]
     rfl
    ·simp at h'
   ·simp at h'
  ·simp at h'
 ·simp at h'
theorem R2 {a : AV} {p : Bool} {x : Value} (h : bK a = some p) (hx : VRel κ a x) : ∃ ad,x = .pointer ad/\p = ad.isNone := by
 unfold bK at h
 split at h <;> simp only [Option.some.injEq,reduceCtorEq] at h <;> subst h
 ·obtain ⟨B,O,_,rfl⟩ := hx; exact ⟨_,rfl,rfl⟩
 ·obtain ⟨_,B,O,_,rfl,_⟩ := hx; exact ⟨_,rfl,rfl⟩
 ·simp only [VRel] at hx; exact ⟨none,hx,rfl⟩
theorem n7 {op : BinOp} {t : TypeId} {a b v : AV} {l : List Prop} {x y : Value} (ox oy : Operand) (h' : z0v P op t a b = some (l,v)) (hx : VRel κ a x) (hy : VRel κ b y) :
  ∃ z,VRel κ v z/\(do eqGuard op t ox oy x y; binOp op t x y : Sem Value).run P w = .ok z w := by
 have ptr : ∀ {e : TypeId} {p q : Bool},P.underlying t = some (.pointer e)->bK a = some p->bK b = some q->(p || q) = true ->
   eqGuard op t ox oy x y = pure ()/\(Op.equal t x y).run P w = .ok (p && q) w/\binOp .eql t x y = (do pure (.bool (<- Op.equal t x y)) : Sem Value)/\binOp .neq t x y = (do pure (.bool (!(<- Op.equal t x y))) : Sem Value) := by
  intro e p q hu hp hq hor
  obtain ⟨ax,rfl,rfl⟩ := R2 hp hx
  obtain ⟨ay,rfl,rfl⟩ := R2 hq hy
  refine ⟨eqGuard_at_pointer ..,?_,?_,?_⟩
  ·unfold Op.equal Op.maxDepth
   cases ax with
   | none => rw [n4 9999 _ hu]; simp
   | some ax =>
    cases ay with
    | none => rw [n5 9999 _ hu]; simp
    | some ay => simp at hor
  ·cases ax <;> cases ay <;> first | rfl | simp at hor
  ·cases ax <;> cases ay <;> first | rfl | simp at hor
 have slc : ∀ {e : TypeId} {p : Bool},P.underlying t = some (.slice e)->m6 a = some p->hO b = true ->
   eqGuard op t ox oy x y = pure ()/\(Op.equal t x y).run P w = .ok p w/\binOp .eql t x y = (do pure (.bool (<- Op.equal t x y)) : Sem Value)/\binOp .neq t x y = (do pure (.bool (!(<- Op.equal t x y))) : Sem Value) := by
  intro e p hu hp hl
  obtain ⟨ad,n,k,rfl,rfl⟩ := u1x hp hx
  obtain rfl := G1 hl hy
  exact ⟨eqGuard_at_slice ..,iZ 9999 ad n k hu,rfl,rfl⟩
 unfold z0v at h'
 split at h'
 ·rename_i e hu
  split at h'
  ·rename_i p q hp hq
   split at h'
   ·rename_i hor
    simp only [Option.some.injEq,Prod.mk.injEq] at h'
    obtain ⟨rfl,rfl⟩ := h'
    obtain ⟨h1,h2,h3,h4⟩ := ptr hu hp hq hor
    exact ⟨_,rfl,by rw [h1,h3]; simp only [Sem.run_bind,h2,Sem.run_pure,Result.andThen_ok]⟩
   ·cases h'
  ·cases h'
 ·rename_i e hu
  split at h'
  ·rename_i p q hp hq
   split at h'
   ·rename_i hor
    simp only [Option.some.injEq,Prod.mk.injEq] at h'
    obtain ⟨rfl,rfl⟩ := h'
    obtain ⟨h1,h2,h3,h4⟩ := ptr hu hp hq hor
    exact ⟨_,rfl,by rw [h1,h4]; simp only [Sem.run_bind,h2,Sem.run_pure,Result.andThen_ok]⟩
   ·cases h'
  ·cases h'
 ·rename_i e hu
  split at h'
  ·rename_i hl
   simp only [Option.map_eq_some_iff,Prod.mk.injEq] at h'
   obtain ⟨p,hp,rfl,rfl⟩ := h'
   obtain ⟨h1,h2,h3,h4⟩ := slc hu hp hl
   exact ⟨_,rfl,by rw [h1,h3]; simp only [Sem.run_bind,h2,Sem.run_pure,Result.andThen_ok]⟩
  ·cases h'
 ·rename_i e hu
  split at h'
  ·rename_i hl
   simp only [Option.map_eq_some_iff,Prod.mk.injEq] at h'
   obtain ⟨p,hp,rfl,rfl⟩ := h'
   obtain ⟨h1,h2,h3,h4⟩ := slc hu hp hl
   exact ⟨_,rfl,by rw [h1,h4]; simp only [Sem.run_bind,h2,Sem.run_pure,Result.andThen_ok]⟩
  ·cases h'
 ·cases h'
theorem G2 {op : BinOp} {t : TypeId} {a b v : AV} {l : List Prop} {x y : Value} (ox oy : Operand) (h : x0v P op t oy a b = some (l,v)) (hob : zP l) (hx : VRel κ a x) (hy : VRel κ b y) (hoy : ∀ v,oy = .const v->y = v) :
  ∃ z,VRel κ v z/\(do eqGuard op t ox oy x y; binOp op t x y : Sem Value).run P w = .ok z w := by
 by_cases hop : op = .shl
 ·subst hop
  simp only [x0v,Option.bind_eq_some_iff,Option.map_eq_some_iff,Prod.mk.injEq] at h
  obtain ⟨⟨l',m⟩,hm,v',h,rfl,rfl⟩ := h
  obtain ⟨k,rfl⟩ := yT hy hoy hm hob
  obtain ⟨z,h1,h2⟩ := F7 (P := P) (w := w) hx h t k
  exact ⟨z,h1,by rw [eqGuard_shl]; exact h2⟩
 by_cases hop2 : op = .shr
 ·subst hop2
  simp only [x0v,Option.bind_eq_some_iff,Option.map_eq_some_iff,Prod.mk.injEq] at h
  obtain ⟨⟨l',m⟩,hm,v',h,rfl,rfl⟩ := h
  obtain ⟨k,rfl⟩ := yT hy hoy hm hob
  obtain ⟨z,h1,h2⟩ := F9 (P := P) (w := w) hx h t k
  exact ⟨z,h1,by rw [eqGuard_shr]; exact h2⟩
 have h' : y0v P op t oy a b = some (l,v) := by
  unfold x0v at h
  split at h
  ·exact absurd rfl hop
  ·exact absurd rfl hop2
  ·exact h
 clear h
 have hlit : ∀ {k0 : IntKind} {m : Int},y = .int k0 m->∀ k n,oy = .const (.int k n)->m = n := by
  intro k0 m e k n he
  have := hoy _ he
  rw [e] at this
  simp only [Value.int.injEq] at this
  exact this.2
 unfold y0v at h'
 split at h'
 ·rename_i r hr
  simp only [Option.some.injEq] at h'
  subst h'
  exact n6 ox oy hr hob hx hy hop hop2 hlit
 ·exact n7 ox oy h' hx hy
theorem Z5 {op : UnOp} {a v : AV} {x : Value} (h : aun op a = some v) (hx : VRel κ a x) : ∃ z,VRel κ v z/\(Op.unary op x).run P w = .ok z w := by
 have neg : ∀ (k : IntKind) (hs : k.signed = false) (x : BitVec k.bits),k.wrap (0 - (x.toNat : Int)) = ((0#k.bits - x).toNat : Int) := by
  intro k hs x
  have := wsub k hs 0 x
  simpa using this
 have xr : ∀ (k : IntKind) (hs : k.signed = false) (x : BitVec k.bits),k.wrap (((BitVec.ofInt k.bits k.max ^^^ BitVec.ofInt k.bits (x.toNat : Int)).toNat : Nat) : Int) = ((~~~x).toNat : Int) := by
  intro k hs x
  rw [kF,xV k hs]
  have : BitVec.ofInt k.bits k.max = BitVec.allOnes k.bits := by
   cases k <;> simp [IntKind.signed] at hs <;> rfl
  rw [this,BitVec.allOnes_xor]
 cases a <;> cases op <;> simp only [aun,Option.some.injEq,reduceCtorEq] at h <;> simp only [VRel] at hx <;> subst hx <;> subst h
 case u8.neg x => exact ⟨_,rfl,by simp only [Op.unary,Op.intArith,Sem.run_pure]; exact congrArg (fun n => Result.ok (Value.int .u8 n) w) (neg .u8 rfl x)⟩
 case u16.neg x => exact ⟨_,rfl,by simp only [Op.unary,Op.intArith,Sem.run_pure]; exact congrArg (fun n => Result.ok (Value.int .u16 n) w) (neg .u16 rfl x)⟩
 case u32.neg x => exact ⟨_,rfl,by simp only [Op.unary,Op.intArith,Sem.run_pure]; exact congrArg (fun n => Result.ok (Value.int .u32 n) w) (neg .u32 rfl x)⟩
 case u64.neg x => exact ⟨_,rfl,by simp only [Op.unary,Op.intArith,Sem.run_pure]; exact congrArg (fun n => Result.ok (Value.int .u64 n) w) (neg .u64 rfl x)⟩
 case u8.xor x => exact ⟨_,rfl,by simp only [Op.unary,Op.intBits,IntKind.signed,Bool.false_eq_true,if_false,Sem.run_pure]; exact congrArg (fun n => Result.ok (Value.int .u8 n) w) (xr .u8 rfl x)⟩
 case u16.xor x => exact ⟨_,rfl,by simp only [Op.unary,Op.intBits,IntKind.signed,Bool.false_eq_true,if_false,Sem.run_pure]; exact congrArg (fun n => Result.ok (Value.int .u16 n) w) (xr .u16 rfl x)⟩
 case u32.xor x => exact ⟨_,rfl,by simp only [Op.unary,Op.intBits,IntKind.signed,Bool.false_eq_true,if_false,Sem.run_pure]; exact congrArg (fun n => Result.ok (Value.int .u32 n) w) (xr .u32 rfl x)⟩
 case u64.xor x => exact ⟨_,rfl,by simp only [Op.unary,Op.intBits,IntKind.signed,Bool.false_eq_true,if_false,Sem.run_pure]; exact congrArg (fun n => Result.ok (Value.int .u64 n) w) (xr .u64 rfl x)⟩
 all_goals exact ⟨_,rfl,by simp [Op.unary,Op.intArith]⟩
theorem n8 {k : IntKind} {a v : AV} {x : Value} (h : w0v k a = some v) (hx : VRel κ a x) : ∃ j n,x = .int j n/\VRel κ v (.int k (k.wrap n)) := by
 have gen : ∀ {k : IntKind},(AV.num a).map (c0k k) = some v->∃ j n,x = .int j n/\VRel κ v (.int k (k.wrap n)) := by
  intro k h
  simp only [Option.map_eq_some_iff] at h
  obtain ⟨n,hn,rfl⟩ := h
  obtain ⟨j,rfl⟩ := v1x hx hn
  refine ⟨j,n,rfl,?_⟩
  have u : ∀ (k : IntKind) (hs : k.signed = false),k.wrap n = ((BitVec.ofInt k.bits n).toNat : Int) := by
   intro k hs
   have hpos : (0 : Int) < ((2 ^ k.bits : Nat) : Int) := by exact_mod_cast Nat.two_pow_pos k.bits
   rw [R1 k hs,BitVec.toNat_ofInt,Int.toNat_of_nonneg (Int.emod_nonneg _ (by omega))]
   norm_cast
  cases k <;> simp only [c0k,VRel]
  ·exact congrArg (Value.int .u8) (u .u8 rfl)
  ·exact congrArg (Value.int .u16) (u .u16 rfl)
  ·exact congrArg (Value.int .u32) (u .u32 rfl)
  ·exact congrArg (Value.int .u64) (u .u64 rfl)
 have wid : ∀ {w1 : Nat} (y : BitVec w1) (k : IntKind) (hs : k.signed = false),k.wrap (y.toNat : Int) = ((y.setWidth k.bits).toNat : Int) := by
  intro w1 y k hs
  rw [gQ k hs,BitVec.toNat_setWidth]
 have i64 : ∀ (n : Nat),n < 2 ^ 63->IntKind.i64.wrap (n : Int) = n := by
  intro n hn
  simp only [IntKind.wrap,IntKind.bits,IntKind.signed]
  have : (n : Int) % 2 ^ 64 = n := Int.emod_eq_of_lt (by omega) (by omega)
  simp only [this]
  split
  ·simp_all; omega
  ·rfl
 unfold w0v at h
 split at h
 case h_20 => exact gen h
 all_goals
  simp only [Option.some.injEq] at h
  subst h
  simp only [VRel] at hx
  subst hx
  refine ⟨_,_,rfl,?_⟩
  simp only [VRel]
  congr 1
 all_goals first
  | (exact wid _ .u8 rfl)
  | (exact wid _ .u16 rfl)
  | (exact wid _ .u32 rfl)
  | (exact wid _ .u64 rfl)
  | (exact xV .u8 rfl _)
  | (exact xV .u16 rfl _)
  | (exact xV .u32 rfl _)
  | (exact xV .u64 rfl _)
  | (exact i64 _ (by omega))
end
end Go.Sym
namespace Go.Sym
section
variable {P : Program} {κ : Ker} {w : World}
theorem G3 (off : Nat) : ∀ (vs : List Value) (k : Nat) (cells : Array Value),off + k + vs.length<=cells.size ->
  ((vs.zipIdx k).foldl (fun cs (c,j) => cs.setIfInBounds (off + j) c) cells).toList = cells.toList.take (off + k)++vs++cells.toList.drop (off + k + vs.length) := by
 intro vs
 induction vs with
 | nil => intro k cells h; simp
 | cons v vs ih =>
  intro k cells h
  simp only [List.length_cons] at h
  simp only [List.zipIdx_cons,List.foldl_cons]
  rw [ih (k + 1) _ (by simp; omega)]
  have hl : off + k < cells.toList.length := by simp; omega
  rw [Array.toList_setIfInBounds]
  have e1 : (cells.toList.set (off + k) v).take (off + (k + 1)) = cells.toList.take (off + k)++[v] := by
   rw [show off + (k + 1) = off + k + 1 by omega,List.take_succ_eq_append_getElem (by simpa using hl)]
   simp [List.take_set]
   rw [List.set_eq_of_length_le (by simp; omega)]
  have e2 : (cells.toList.set (off + k) v).drop (off + (k + 1) + vs.length) = cells.toList.drop (off + k + (vs.length + 1)) := by
   rw [List.drop_set_of_lt (by omega)]
   congr 1; omega
  rw [e1,e2]
  simp
theorem bL (place : Nat->Option (Nat × Nat)) : ∀ (parts : List (Nat × AV)) (rparts : List (Nat × Value)) (as : List AV) (cs : Array Value) (r : List AV),
  parts.map (·.1) = rparts.map (·.1)->VRels κ (parts.map (·.2)) (rparts.map (·.2))->VRels κ as cs.toList->nG place as parts = some r ->
  ∃ rs,Instr.fill place cs rparts = some rs/\VRels κ r rs.toList := by
 intro parts
 induction parts with
 | nil =>
  intro rparts as cs r h1 h2 h3 h4
  cases rparts with
  | nil => simp [nG] at h4; subst h4; exact ⟨cs,rfl,h3⟩
  | cons _ _ => simp at h1
 | cons p parts ih =>
  intro rparts as cs r h1 h2 h3 h4
  cases rparts with
  | nil => simp at h1
  | cons q rparts =>
   obtain ⟨i,a⟩ := p
   obtain ⟨i',v⟩ := q
   simp only [List.map_cons,List.cons.injEq] at h1
   obtain ⟨rfl,h1⟩ := h1
   obtain ⟨x,xs,hx,hax,hxs⟩ := h2
   simp only [List.map_cons,List.cons.injEq] at hx
   obtain ⟨rfl,rfl⟩ := hx
   simp only [nG] at h4
   split at h4
   ·rename_i off size vc hp hc
    split at h4
    ·simp at h4
    ·rename_i hcond
     have hcond : vc.length = size/\off + vc.length<=as.length := by omega
     obtain ⟨hv,h1c⟩ := hax.cells hc
     have hvl := hv.length
     have hal := h3.length
     simp only [Array.length_toList] at hvl hal
     simp only [Instr.fill,hp]
     rw [if_neg (by simp; omega)]
     refine ih rparts _ _ r h1 hxs ?_ h4
     have hz : (v.cells.zipIdx.foldl (fun cs (c,j) => cs.setIfInBounds (off + j) c) cs).toList = cs.toList.take off++v.cells.toList++cs.toList.drop (off + v.cells.toList.length) := by
      have := G3 off v.cells.toList 0 cs (by simp; omega)
      simp only [Nat.add_zero] at this
      rw [<- this,<- Array.foldl_toList,Array.toList_zipIdx]
     rw [hz]
     have e : off + v.cells.toList.length = off + vc.length := by simp; omega
     rw [e]
     exact ((h3.take off).append hv).append (h3.drop _)
   ·simp at h4
theorem bM (mx : Bool) : ∀ (rest : List AV) (rs : List Value) (a v : AV) (x : Value),VRel κ a x->VRels κ rest rs->rest.foldlM (v0v mx) a = some v ->
  ∃ z,VRel κ v z/\(rs.foldlM (bif mx then Builtin.max2 else Builtin.min2) x).run P w = .ok z w := by
 intro rest
 induction rest with
 | nil =>
  intro rs a v x hx hr h
  simp only [VRels] at hr
  subst hr
  simp at h
  subst h
  exact ⟨x,hx,rfl⟩
 | cons b rest ih =>
  intro rs a v x hx hr h
  obtain ⟨y,ys,rfl,hy,hys⟩ := hr
  simp only [List.foldlM_cons,Option.bind_eq_bind,Option.bind_eq_some_iff] at h
  obtain ⟨c,hc,h⟩ := h
  have step : ∃ z,VRel κ c z/\((bif mx then Builtin.max2 else Builtin.min2) x y).run P w = .ok z w := by
   cases a <;> cases b <;> simp only [v0v,Option.some.injEq,reduceCtorEq] at hc <;> simp only [VRel] at hx hy <;> subst hx <;> subst hy
   case int.int k m k' n =>
    split at hc
    ·rename_i hk
     subst hk
     simp at hc
     subst hc
     cases mx
     ·refine ⟨_,rfl,?_⟩
      simp only [cond_false,Builtin.min2,Sem.run_pure]
      congr 2
      split <;> omega
     ·refine ⟨_,rfl,?_⟩
      simp only [cond_true,Builtin.max2,Sem.run_pure]
      congr 2
      split <;> omega
    ·simp at hc
   all_goals
    subst hc
    refine ⟨_,rfl,?_⟩
    cases mx <;> simp only [cond_false,cond_true,Builtin.min2,Builtin.max2,Sem.run_pure,Int.ofNat_lt] <;> split <;> first | rfl | (split <;> first | rfl | omega)
  obtain ⟨z,hz,hrun⟩ := step
  obtain ⟨u,hu,hrun2⟩ := ih ys c v z hz hys h
  exact ⟨u,hu,by simp only [List.foldlM_cons,Sem.run_bind,hrun,Result.andThen_ok,hrun2]⟩
theorem xA {t : TypeId} {z : List AV} (h : yN P t = some z) : ∃ i v,P.info? t = some i/\i.zero = some v/\VRels κ z v.cells.toList := by
 simp only [yN,Option.bind_eq_some_iff,Option.map_eq_some_iff] at h
 obtain ⟨i,hi,v,hv,rfl⟩ := h
 exact ⟨i,v,hi,hv,VRels.absC0 κ _⟩
theorem n9 {t : TypeId} {parts : Array (Nat × Operand)} {args : List AV} {ob : List Prop} {v : AV} {ev : Operand->Value} {o : Oper} (ho : o.op = .build t parts)
  (hargs : VRels κ args ((parts.toList.map (·.2)).map ev)) (h : F6 P o args = some (ob,v)) : ∃ x,VRel κ v x/\(Instr.build t (parts.map fun (i,x) => (i,ev x))).run P w = .ok x w := by
 have hlen : args.length = parts.toList.length := by simpa using hargs.length
 have e1 : ((parts.toList.map (·.1)).zip args).map (·.1) = ((parts.map fun (i,x) => (i,ev x)).toList).map (·.1) := by
  rw [List.map_fst_zip (by simp [hlen])]
  simp [List.map_map,Function.comp_def]
 have e2 : VRels κ (((parts.toList.map (·.1)).zip args).map (·.2)) (((parts.map fun (i,x) => (i,ev x)).toList).map (·.2)) := by
  rw [List.map_snd_zip (by simp [hlen])]
  simpa [List.map_map,Function.comp_def] using hargs
 have go : ∀ {place : Nat->Option (Nat × Nat)} {z : List AV},yN P t = some z->((nG place z ((parts.toList.map (·.1)).zip args)).map fun l => (([],AV.agg l) : List Prop × AV)) = some (ob,v) ->
   ∃ i zv cells,P.info? t = some i/\i.zero = some zv/\Instr.fill place zv.cells ((parts.map fun (i,x) => (i,ev x)).toList) = some cells/\VRel κ v (.agg cells) := by
  intro place z hz hf
  obtain ⟨i,zv,hi,hzv,hr⟩ := xA (κ := κ) hz
  simp only [Option.map_eq_some_iff,Prod.mk.injEq] at hf
  obtain ⟨r,hr2,rfl,rfl⟩ := hf
  obtain ⟨rs,h1,h2⟩ := bL place _ _ _ _ _ e1 e2 hr hr2
  exact ⟨i,zv,rs,hi,hzv,h1,rs,rfl,h2⟩
 unfold F6 at h
 rw [ho] at h
 have h : (match yN P t,P.underlying t with
  | some z,some (.array _ e) => (P.info? e).bind fun ie => (nG (fun i => some (i * ie.size,ie.size)) z ((parts.toList.map (·.1)).zip args)).map fun l => (([],AV.agg l) : List Prop × AV)
  | some z,some (.struct fields) => (nU P fields).bind fun places => (nG (fun i => places.toArray[i]?) z ((parts.toList.map (·.1)).zip args)).map fun l => (([],AV.agg l) : List Prop × AV)
  | _,_ => none) = some (ob,v) := by
  rcases args with _ | ⟨a,_ | ⟨b,_ | ⟨c,rest⟩⟩⟩ <;> exact h
 split at h
 ·rename_i z n e hz hu
  simp only [Option.bind_eq_some_iff] at h
  obtain ⟨ie,hie,h⟩ := h
  obtain ⟨i,zv,cells,hi,hzv,hf,hr⟩ := go hz h
  refine ⟨_,hr,run_build w t _ cells ?_⟩
  simp only [Program.built,hi,hu,hzv,hie,hf]
 ·rename_i z fields hz hu
  simp only [Option.bind_eq_some_iff] at h
  obtain ⟨places,hp,h⟩ := h
  obtain ⟨i,zv,cells,hi,hzv,hf,hr⟩ := go hz h
  refine ⟨_,hr,run_build w t _ cells ?_⟩
  simp only [nU] at hp
  simp only [Program.built,hi,hu,hzv,hp,hf]
 ·simp at h
end
end Go.Sym
namespace Go.Sym
section
variable {P : Program} {κ : Ker} {w : World}
theorem wB {x : Value} {n y : Nat} {code : BoundsCode} {k : IntKind} (h : x = .int k (n : Int)) (hy : n<=y) : (Instr.sliceBound x y code).run P w = .ok n w := by
 subst h
 simp only [Instr.sliceBound,asIntOf,Sem.run_bind,Sem.run_pure,Result.andThen_ok]
 rw [if_pos (by omega)]
 simp
theorem Addr.add_at (B O n : Nat) : (⟨B,O,none⟩ : Addr).add n = ⟨B,O + n,none⟩ := Addr.add_lit B O n
theorem uE (x n : Nat) : vZ x n = x + n := by unfold vZ; split <;> omega
theorem kH (h l : Nat) : kE h l = h - l := by unfold kE; split <;> omega
theorem wZ (isSlice : Bool) {lo hi : Option Operand} {bs : List AV} {n cap l h : Nat} {ob : List Prop} {ev : Operand->Value} (hev : ∀ v,ev (.const v) = v)
  (hb : hP lo hi bs n = some (ob,(l,h))) (ho : zP ob) (hargs : VRels κ bs ((lo.toList++hi.toList).map ev)) (hc : n<=cap) :
  (Instr.sliceBounds isSlice n cap (lo.map ev) (hi.map ev) none).run P w = .ok (l,h,cap) w/\l<=h/\h<=n/\(lo = none->l = 0)/\(hi = none->h = n) := by
 unfold hP at hb
 split at hb
 ·simp only [Option.some.injEq,Prod.mk.injEq] at hb
  obtain ⟨rfl,rfl,rfl⟩ := hb
  exact ⟨by simp [Instr.sliceBounds],Nat.zero_le _,Nat.le_refl _,fun _ => rfl,fun _ => rfl⟩
 ·rename_i ol a
  simp only [Option.map_eq_some_iff,Prod.mk.injEq] at hb
  obtain ⟨⟨o1,p⟩,hp,rfl,rfl,rfl⟩ := hb
  obtain ⟨h1,h2⟩ := zE.1 ho
  have h2 := zA.1 h2
  obtain ⟨x,hx,hr⟩ := hargs.one
  simp at hx
  subst hx
  obtain ⟨k,hk⟩ := yT hr (fun v hv => by rw [hv,hev]) hp h1
  exact ⟨by simp [Instr.sliceBounds,wB (P := P) (w := w) hk h2],h2,Nat.le_refl _,nofun,fun _ => rfl⟩
 ·rename_i oh b
  simp only [Option.map_eq_some_iff,Prod.mk.injEq] at hb
  obtain ⟨⟨o1,q⟩,hq,rfl,rfl,rfl⟩ := hb
  obtain ⟨h1,h2⟩ := zE.1 ho
  have h2 := zA.1 h2
  obtain ⟨x,hx,hr⟩ := hargs.one
  simp at hx
  subst hx
  obtain ⟨k,hk⟩ := yT hr (fun v hv => by rw [hv,hev]) hq h1
  exact ⟨by simp [Instr.sliceBounds,wB (P := P) (w := w) hk (Nat.le_trans h2 hc)],Nat.zero_le _,h2,fun _ => rfl,nofun⟩
 ·rename_i ol oh a b
  simp only [Option.bind_eq_some_iff,Option.map_eq_some_iff,Prod.mk.injEq] at hb
  obtain ⟨⟨o1,p⟩,hp,⟨o2,q⟩,hq,rfl,rfl,rfl⟩ := hb
  obtain ⟨h12,h3⟩ := zE.1 ho
  obtain ⟨h1,h2⟩ := zE.1 h12
  obtain ⟨h3,h4⟩ := zJ.1 h3
  have h4 := zA.1 h4
  obtain ⟨x,y,hx,hr,hr2⟩ := hargs.two
  simp at hx
  obtain ⟨rfl,rfl⟩ := hx
  obtain ⟨k,hk⟩ := yT hr (fun v hv => by rw [hv,hev]) hp h1
  obtain ⟨k2,hk2⟩ := yT hr2 (fun v hv => by rw [hv,hev]) hq h2
  exact ⟨by simp [Instr.sliceBounds,wB (P := P) (w := w) hk2 (Nat.le_trans h4 hc),wB (P := P) (w := w) hk h3],h3,h4,nofun,nofun⟩
 ·cases hb
theorem wT {t e : TypeId} {inf : TypeInfo} {a : Option Addr} {n k l h : Nat} {lo hi : Option Value} (hu : P.underlying t = some (.slice e)) (hi4 : P.info? e = some inf)
  (hb : (Instr.sliceBounds true n k lo hi none).run P w = .ok (l,h,k) w) :
  (Instr.sliceAt t (.slice a n k) lo hi none).run P w = .ok (.slice (if k = l then a else a.map (·.add (l * inf.size))) (h - l) (k - l)) w := by
 simp only [Instr.sliceAt,Instr.slice,Sem.run_bind,run_underlying hu,Result.andThen_ok,hb,zO hi4,Sem.run_pure]
theorem o6 {α : Type} (hi : Option Operand) (h : Nat) (l : List α) (hh : hi = none->h = l.length) : Q8 hi h l = l.take h := by
 cases hi with
 | none => rw [hh rfl]; simp [Q8]
 | some _ => rfl
theorem o7 {α : Type} (lo : Option Operand) (k : Nat) (l : List α) (hl : lo = none->k = 0) : Q9 lo k l = l.drop k := by
 cases lo with
 | none => rw [hl rfl]; simp [Q9]
 | some _ => rfl
theorem u0v (x n : Nat) : vZ x n = x + n := by unfold vZ; split <;> simp
theorem G4 {o : Oper} {t : TypeId} {ex : Operand} {lo hi : Option Operand} {x : AV} {bs : List AV} {ob : List Prop} {v : AV} {ev : Operand->Value} (hev : ∀ v,ev (.const v) = v) (ho : o.op = .slice t ex lo hi none)
  (h : F6 P o (x::bs) = some (ob,v)) (hob : zP ob) (hargs : VRels κ (x::bs) ((Op.slice t ex lo hi none).operands.toList.map ev)) :
  ∃ z,VRel κ v z/\(Instr.sliceAt t (ev ex) (lo.map ev) (hi.map ev) none).run P w = .ok z w := by
 have hargs' : VRel κ x (ev ex)/\VRels κ bs ((lo.toList++hi.toList).map ev) := by
  obtain ⟨y,ys,hy,hxy,hbs⟩ := hargs
  cases lo <;> cases hi <;> simp [Op.operands] at hy <;> obtain ⟨rfl,rfl⟩ := hy <;> exact ⟨hxy,hbs⟩
 obtain ⟨hx,hbs⟩ := hargs'
 unfold F6 at h
 rw [ho] at h
 dsimp only at h
 split at h
 ·rename_i e i x0 sz n c nl hu
  simp only [Option.bind_eq_some_iff] at h
  obtain ⟨⟨ob',l,hh⟩,hb,inf,hi4,h⟩ := h
  split at h
  ·rename_i hsz
   subst hsz
   simp only [Option.some.injEq,Prod.mk.injEq] at h
   obtain ⟨rfl,rfl⟩ := h
   obtain ⟨a,k,hv,hnk,hnl,hcap,hloc⟩ := hx
   obtain ⟨hrun,h1,h2,h3,h4⟩ := wZ (P := P) (w := w) true hev hb hob hbs hnk
   rw [hv,wT hu hi4 hrun]
   refine ⟨_,?_,rfl⟩
   rw [kH,uE]
   refine ⟨_,_,rfl,by omega,?_,?_,?_⟩
   ·cases nl with
    | unk => trivial
    | is b =>
     simp only [bJ] at hnl ⊢
     rw [hnl]
     cases a <;> simp <;> split <;> simp
   ·cases lo with
    | none =>
     have := h3 rfl
     subst this
     simp only [Nat.sub_zero,Nat.add_zero]
     cases hi with
     | none => exact hcap
     | some _ =>
      simp only [Q7]
      cases c with
      | kn m => exact hcap
      | un => trivial
      | ow => exact hcap
      | os => exact hcap
      | ox => trivial
    | some _ =>
     cases hi with
     | none =>
      simp only [Q7]
      cases c with
      | kn m => simp only [CapR] at hcap ⊢; omega
      | un => trivial
      | ow => obtain ⟨e1,e2,e3⟩ := hcap; exact ⟨by omega,e3⟩
      | os => trivial
      | ox => obtain ⟨e2,e3⟩ := hcap; exact ⟨by omega,e3⟩
     | some _ =>
      simp only [Q7]
      cases c with
      | kn m => simp only [CapR] at hcap ⊢; omega
      | un => trivial
      | ow => trivial
      | os => trivial
      | ox => trivial
   ·rcases hloc with ⟨B,O,e1,rfl⟩ | ⟨h0,hk0⟩
    ·by_cases hkl : k = l
     ·exact .inr ⟨by omega,by omega⟩
     ·refine .inl ⟨B,O,e1,?_⟩
      rw [if_neg hkl]
      simp only [Option.map_some,Addr.add_at,Nat.add_mul,Nat.add_assoc]
    ·exact .inr ⟨by omega,by omega⟩
  ·cases h
 ·rename_i e hu
  simp only [Option.bind_eq_some_iff,Option.map_eq_some_iff,Prod.mk.injEq] at h
  obtain ⟨⟨ob',l,hh⟩,hb,inf,hi4,rfl,rfl⟩ := h
  simp only [VRel] at hx
  obtain ⟨hrun,h1,h2,h3,h4⟩ := wZ (P := P) (w := w) true hev hb hob hbs (Nat.le_refl 0)
  rw [hx,wT hu hi4 hrun]
  refine ⟨_,rfl,?_⟩
  have : l = 0 := by omega
  have h2' : hh = 0 := by omega
  subst this h2'
  rfl
 ·rename_i e p s nl hu
  simp only [Option.bind_eq_some_iff] at h
  obtain ⟨⟨ob',l,hh⟩,hb,inf,hi4,h⟩ := h
  split at h
  ·rename_i hsz
   simp only [Option.some.injEq,Prod.mk.injEq] at h
   obtain ⟨rfl,rfl⟩ := h
   obtain ⟨a,k,hv,hnk,hnl,hloc⟩ := hx
   obtain ⟨hrun,h1,h2,h3,h4⟩ := wZ (P := P) (w := w) true hev hb hob hbs hnk
   rw [hv,wT hu hi4 hrun]
   rw [o6 hi hh s h4,o7 lo l _ h3]
   refine ⟨_,⟨(if k = l then a else a.map (·.add (l * inf.size))),k - l,?_,?_,?_,?_⟩,rfl⟩
   ·congr 1
    simp
    omega
   ·simp; omega
   ·cases nl with
    | unk => trivial
    | is b =>
     simp only [bJ] at hnl ⊢
     rw [hnl]
     cases a <;> simp <;> split <;> simp
   ·rcases hloc with rfl | ⟨B,O,rfl,hm⟩
    ·left; simp
    ·by_cases hkl : k = l
     ·left
      apply List.eq_nil_of_length_eq_zero
      simp; omega
     ·right
      refine ⟨B,O + l * inf.size,?_,?_⟩
      ·rw [if_neg hkl]; simp only [Option.map_some,Addr.add_at]
      ·intro j b hj
       rw [hsz,Nat.mul_one,Nat.add_assoc]
       refine hm (l + j) b ?_
       rw [List.getElem?_drop,List.getElem?_take] at hj
       split at hj
       ·exact hj
       ·cases hj
  ·cases h
 ·rename_i e p sz n g nl hu
  simp only [Option.bind_eq_some_iff] at h
  obtain ⟨⟨ob',l,hh⟩,hb,inf,hi4,h⟩ := h
  split at h
  ·rename_i hsz
   subst hsz
   simp only [Option.some.injEq,Prod.mk.injEq] at h
   obtain ⟨rfl,rfl⟩ := h
   obtain ⟨a,k,hv,hnk,hnl,hloc⟩ := hx
   obtain ⟨hrun,h1,h2,h3,h4⟩ := wZ (P := P) (w := w) true hev hb hob hbs hnk
   rw [hv,wT hu hi4 hrun]
   rw [kH]
   refine ⟨_,⟨_,k - l,rfl,by omega,?_,?_⟩,rfl⟩
   ·cases nl with
    | unk => trivial
    | is b =>
     simp only [bJ] at hnl ⊢
     rw [hnl]
     cases a <;> simp <;> split <;> simp
   ·rcases hloc with rfl | ⟨B,O,rfl,hm⟩
    ·left; omega
    ·by_cases hkl : k = l
     ·left; omega
     ·right
      refine ⟨B,O + l * inf.size,?_,?_⟩
      ·rw [if_neg hkl]; simp only [Option.map_some,Addr.add_at]
      ·intro j hj
       obtain ⟨hd,xs,hxs,hc⟩ := hm (l + j) (by omega)
       refine ⟨?_,xs,?_,?_⟩
       ·cases lo with
        | none => have := h3 rfl; subst this; simpa using hd
        | some _ => exact hd
       ·cases lo with
        | none => have := h3 rfl; subst this; simpa using hxs
        | some _ => exact hxs
       ·intro c y hy
        rw [show O + l * inf.size + (j * inf.size + c) = O + ((l + j) * inf.size + c) by rw [Nat.add_mul]; omega]
        exact hc c y hy
  ·cases h
 ·rename_i n e i x0 sz c hu
  simp only [Option.bind_eq_some_iff] at h
  obtain ⟨⟨ob',l,hh⟩,hb,inf,hi4,h⟩ := h
  split at h
  ·rename_i hsz
   simp only [Option.some.injEq,Prod.mk.injEq] at h
   obtain ⟨rfl,rfl⟩ := h
   obtain ⟨B,O,e1,hv⟩ := hx
   obtain ⟨hrun,h1,h2,h3,h4⟩ := wZ (P := P) (w := w) false hev hb hob hbs (Nat.le_refl n)
   rw [hv]
   refine ⟨.slice (some (if n = l then (⟨B,O + (x0 * sz + c),none⟩ : Addr) else (⟨B,O + (x0 * sz + c),none⟩ : Addr).add (l * inf.size))) (hh - l) (n - l),?_,?_⟩
   ·rw [kH]
    refine ⟨_,_,rfl,by omega,rfl,rfl,?_⟩
    by_cases hkl : n = l
    ·exact .inr ⟨by omega,by omega⟩
    ·refine .inl ⟨B,O,e1,?_⟩
     rw [if_neg hkl,Addr.add_at,hsz,Nat.mul_one,Nat.mul_one,u0v]
     simp only [Option.some.injEq,Addr.mk.injEq,and_true,true_and]
     omega
   ·simp only [Instr.sliceAt,Instr.sureAddr,Sem.run_bind,run_underlying hu,Result.andThen_ok,Sem.run_pure,hrun,zO hi4]
  ·cases h
 ·rename_i s hu
  simp only [Option.map_eq_some_iff,Prod.mk.injEq] at h
  obtain ⟨⟨ob',l,hh⟩,hb,rfl,rfl⟩ := h
  simp only [VRel] at hx
  obtain ⟨hrun,h1,h2,h3,h4⟩ := wZ (P := P) (w := w) false hev hb hob hbs (Nat.le_refl s.length)
  refine ⟨_,rfl,?_⟩
  rw [hx]
  rw [o6 hi hh s h4,o7 lo l _ h3]
  have e : (zM s).extract l hh = zM ((s.take hh).drop l) := by
   apply ByteArray.ext
   simp [zM,ByteArray.data_extract,List.map_drop,List.map_take,List.extract_eq_take_drop]
   rw [<- List.drop_take]
  simp [Instr.sliceAt,Instr.slice,run_underlying hu,wN,hrun,e]
 ·cases h
end
end Go.Sym
namespace Go.Sym
section
variable {P : Program} {κ : Ker} {w : World}
theorem hU {B O : Nat} {f : Field} {inf : TypeInfo} (hi : P.info? f.type = some inf) (h0 : inf.size ≠ 0) :
  (fieldPlace ⟨B,O,none⟩ f).run P w = .ok ⟨B,O + f.offset,none⟩ w := by
 simp [fieldPlace,zO hi,h0,Addr.add_at]
theorem wC {B O : Nat} {vs : List Value} (hc : ∀ (j : Nat) x,vs[j]? = some x->w.cell? ((⟨B,O,none⟩ : Addr).add j) = some x) :
  (loadCells (⟨B,O,none⟩ : Addr) vs.length).run P w = .ok vs.toArray w := by
 exact run_loadCells_list w _ vs hc
theorem k1x {t : TypeId} {B O : Nat} {as : List AV} {off : Nat} {v : AV} (xs : List Value) (hx : VRels κ as xs) (hc : ∀ (c : Nat) x,xs[c]? = some x->w.cell? ⟨B,O + c,none⟩ = some x)
  (h : apart P t as off = some v) : ∃ z,VRel κ v z/\(loadVar t ⟨B,O + off,none⟩).run P w = .ok z w := by
 unfold apart at h
 split at h
 ·rename_i inf hb hi
  dsimp only at h
  split at h
  ·rename_i hl
   simp only [Option.some.injEq] at h
   subst h
   have hp := (hx.drop off).take inf.size
   have hlen := hp.length
   rw [hl] at hlen
   have hrun := wC (P := P) (w := w) (B := B) (O := O + off) (vs := (xs.drop off).take inf.size) (by
    intro j y hy
    rw [Addr.add_at]
    rw [List.getElem?_take] at hy
    split at hy
    ·rw [List.getElem?_drop] at hy
     rw [Nat.add_assoc]
     exact hc _ y hy
    ·cases hy)
   refine ⟨.agg ((xs.drop off).take inf.size).toArray,⟨_,rfl,by simpa using hp⟩,?_⟩
   rw [<- hlen] at hrun
   simp only [loadVar,Sem.run_bind,xK hb,Result.andThen_ok,if_true,zO hi,hrun,Sem.run_pure]
  ·cases h
 ·rename_i hb
  obtain ⟨y,hy,hr⟩ := hx.get h
  refine ⟨y,hr,?_⟩
  have := hc off y hy
  simp [loadVar,xK hb,this]
 ·cases h
theorem pP (κ : Ker) (l : List (BitVec 8)) : ∀ (k p : Nat),∃ xs : List Value,VRels κ (kR l p k) xs/\(∀ (c : Nat) z,xs[c]? = some z->c < k/\z = .int .u8 (l.getD (p + c) 0).toNat)/\∀ q,zT q (kR l p k) = true
 | 0,p => ⟨[],rfl,fun c z h => by simp at h,fun _ => rfl⟩
 | k + 1,p => by
  obtain ⟨xs,h1,h2,h3⟩ := pP κ l k (p + 1)
  refine ⟨_::xs,⟨_,_,rfl,rfl,h1⟩,fun c z hz => ?_,fun q => by simp only [kR,zT,h3 q]; rfl⟩
  cases c with
  | zero => simp at hz; exact ⟨by omega,hz.symm⟩
  | succ c =>
   obtain ⟨h4,h5⟩ := h2 c z (by simpa using hz)
   exact ⟨by omega,by rw [h5,Nat.add_assoc,Nat.add_comm 1 c]⟩
theorem G5 {o : Oper} {args : List AV} {ob : List Prop} {v : AV} {ev : Operand->Value} (hev : ∀ v,ev (.const v) = v) (h : F6 P o args = some (ob,v)) (hob : zP ob)
  (hargs : VRels κ args (o.op.operands.toList.map ev)) (hm : ∀ a x,κ.v a = some x->w.cell? a = some x) :
  ∃ x,VRel κ v x/\(execOp ev o).run P w = .ok (.value x) w := by
 have hmem : ∀ p a x,κ.mem p a = some x->w.cell? a = some x := by
  intro p a x hx
  cases p
  ·exact hm a x hx
  ·exact hm a x (κ.sub a x hx)
 have h0 := h
 unfold F6 at h
 split at h
 ·rename_i e x a hop
  rw [hop] at hargs
  obtain ⟨y,hy,hr⟩ := hargs.one
  simp [Op.operands] at hy
  subst hy
  simp at h
  obtain ⟨rfl,rfl⟩ := h
  exact ⟨_,hr,by simp [execOp,hop]⟩
 ·rename_i e x a hop
  rw [hop] at hargs
  obtain ⟨y,hy,hr⟩ := hargs.one
  simp [Op.operands] at hy
  subst hy
  simp at h
  obtain ⟨rfl,rfl⟩ := h
  exact ⟨_,hr,by simp [execOp,hop]⟩
 ·rename_i e x0 i x sz c hop
  rw [hop] at hargs
  obtain ⟨y,hy,hr⟩ := hargs.one
  simp [Op.operands] at hy
  subst hy
  simp at h
  obtain ⟨rfl,rfl⟩ := h
  obtain ⟨B,O,hρ,hv⟩ := hr
  exact ⟨_,⟨B,O,hρ,hv⟩,by simp [execOp,hop,hv]⟩
 ·rename_i e x0 p cs hop
  rw [hop] at hargs
  obtain ⟨y,hy,hr⟩ := hargs.one
  simp [Op.operands] at hy
  subst hy
  simp at h
  obtain ⟨rfl,rfl⟩ := h
  obtain ⟨hd,B,O,xs,hv,h2⟩ := hr
  exact ⟨_,⟨hd,B,O,xs,hv,h2⟩,by simp [execOp,hop,hv]⟩
 ·rename_i e x0 f fa fc hop
  rw [hop] at hargs
  obtain ⟨y,hy,hr⟩ := hargs.one
  simp [Op.operands] at hy
  subst hy
  simp at h
  obtain ⟨rfl,rfl⟩ := h
  obtain ⟨vs,us,hv,h2⟩ := hr
  exact ⟨_,⟨vs,us,hv,h2⟩,by simp [execOp,hop,hv]⟩
 ·rename_i e op t x0 y0 u a b hop
  rw [hop] at hargs
  obtain ⟨x,y,hy,h1,h2⟩ := hargs.two
  simp [Op.operands] at hy
  obtain ⟨rfl,rfl⟩ := hy
  obtain ⟨z,hz,hr⟩ := G2 (w := w) x0 y0 h hob h1 h2 (fun v hv => by rw [hv,hev])
  refine ⟨z,hz,?_⟩
  simp only [execOp,hop]
  rw [Sem.run_bind,hr]
  rfl
 ·rename_i e op t x0 a hop
  rw [hop] at hargs
  obtain ⟨y,hy,hr⟩ := hargs.one
  simp [Op.operands] at hy
  subst hy
  simp only [Option.map_eq_some_iff,Prod.mk.injEq] at h
  obtain ⟨v',h,rfl,rfl⟩ := h
  obtain ⟨z,hz,hr⟩ := Z5 (P := P) (w := w) h hr
  exact ⟨z,hz,by simp [execOp,hop,hr]⟩
 ·rename_i e src dst x0 a hop
  rw [hop] at hargs
  obtain ⟨y,hy,hr⟩ := hargs.one
  simp [Op.operands] at hy
  subst hy
  split at h
  ·rename_i d k hs hd
   simp only [Option.map_eq_some_iff,Prod.mk.injEq] at h
   obtain ⟨v',h,rfl,rfl⟩ := h
   obtain ⟨j,n,hv,hr⟩ := n8 h hr
   refine ⟨_,hr,?_⟩
   simp only [execOp,hop,hv]
   simp [convert,run_underlying hs,run_underlying hd,Conv.intToInt]
  ·rename_i hs hd
   split at h
   ·rename_i s
    simp at h
    obtain ⟨rfl,rfl⟩ := h
    simp only [VRel] at hr
    refine ⟨_,rfl,?_⟩
    simp [execOp,hop,hr,convert,run_underlying hs,run_underlying hd]
   ·simp at h
  ·simp at h
 ·rename_i args e1' e2' f first caps hop
  rw [hop] at hargs
  simp only [Option.some.injEq,Prod.mk.injEq] at h
  obtain ⟨rfl,rfl⟩ := h
  have ha : VRels κ args (first.toList.map ev++caps.toList.map ev) := by simpa [Op.operands] using hargs
  have h1 := ha.take first.size
  have h2 := ha.drop first.size
  have e1 : (first.toList.map ev++caps.toList.map ev).take first.size = first.toList.map ev := List.take_left' (by simp)
  have e2 : (first.toList.map ev++caps.toList.map ev).drop first.size = caps.toList.map ev := List.drop_left' (by simp)
  rw [e1] at h1
  rw [e2] at h2
  exact ⟨.func (.func f) (first.map ev) (caps.map ev),⟨_,_,rfl,by simpa using h1,by simpa using h2⟩,by simp [execOp,hop,Instr.makeFunc]⟩
 ·rename_i e t ix vs hop
  rw [hop] at hargs
  obtain ⟨y,hy,hr⟩ := hargs.one
  simp [Op.operands] at hy
  subst hy
  simp only [Option.map_eq_some_iff,Prod.mk.injEq] at h
  obtain ⟨v',h,rfl,rfl⟩ := h
  obtain ⟨us,hu,hus⟩ := hr
  obtain ⟨x,hx,hr⟩ := hus.get h
  refine ⟨x,hr,?_⟩
  have : us[ix]? = some x := by simpa using hx
  simp [execOp,hop,hu,Instr.extract,this]
 ·rename_i e t x0 i xr sz n c nl hop
  rw [hop] at hargs
  obtain ⟨y,hy,hr⟩ := hargs.one
  simp [Op.operands] at hy
  subst hy
  split at h
  ·rename_i k el ht
   split at h
   ·simp at h
   ·rename_i hk0
    simp only [Option.some.injEq,Prod.mk.injEq] at h
    obtain ⟨rfl,rfl⟩ := h
    have hle := zA.1 hob
    obtain ⟨a,kc,hv,hnk,_,_,hloc⟩ := hr
    rcases hloc with ⟨B,O,hρ,rfl⟩ | ⟨h0',_⟩
    ·refine ⟨.pointer (some ⟨B,O + xr * sz,none⟩),⟨B,O,hρ,rfl⟩,?_⟩
     have hb : ¬ n < k := by omega
     simp only [execOp,hop,hv,Instr.arrayAt,Sem.run_bind,Sem.run_pure,Result.andThen_ok,run_underlying ht,if_neg hb]
    ·omega
  ·simp at h
 ·rename_i e t x0 p l nl hop
  rw [hop] at hargs
  obtain ⟨y,hy,hr⟩ := hargs.one
  simp [Op.operands] at hy
  subst hy
  split at h
  ·rename_i k el ht
   split at h
   ·simp at h
   ·rename_i hk0
    simp only [Option.some.injEq,Prod.mk.injEq] at h
    obtain ⟨rfl,rfl⟩ := h
    have hle := zA.1 hob
    obtain ⟨a,kc,hv,hnk,_,hloc⟩ := hr
    rcases hloc with h0' | ⟨B,O,rfl,hb⟩
    ·rw [h0'] at hle; simp at hle; omega
    ·obtain ⟨xs,hx1,hx2,hx3⟩ := pP κ l k 0
     refine ⟨.pointer (some ⟨B,O,none⟩),⟨hx3 p,B,O,xs,rfl,hx1,?_⟩,?_⟩
     ·intro c z hz
      obtain ⟨hck,rfl⟩ := hx2 c z hz
      have hlt : c < l.length := by omega
      have := hb c (l.getD c 0) (by simp [List.getD,hlt])
      simpa using this
     ·have hb : ¬ l.length < k := by omega
      simp only [execOp,hop,hv,Instr.arrayAt,Sem.run_bind,Sem.run_pure,Result.andThen_ok,run_underlying ht,if_neg hb]
  ·simp at h
 ·rename_i e t x0 f cs hop
  rw [hop] at hargs
  obtain ⟨y,hy,hr⟩ := hargs.one
  simp [Op.operands] at hy
  subst hy
  obtain ⟨us,hu,hus⟩ := hr
  split at h
  ·rename_i fields ht
   simp only [Option.bind_eq_some_iff,Option.map_eq_some_iff,Prod.mk.injEq] at h
   obtain ⟨fd,hf,v',h,rfl,rfl⟩ := h
   obtain ⟨x,hx,hrun⟩ := vX (w := w) hus h
   refine ⟨x,hx,?_⟩
   simp [execOp,hop,hu,Instr.field,run_underlying ht,hf,asAgg,hrun]
  ·simp at h
 ·rename_i e t x0 ix0 cs ix hop
  rw [hop] at hargs
  obtain ⟨x,y,hy,h1,h2⟩ := hargs.two
  simp [Op.operands] at hy
  obtain ⟨rfl,rfl⟩ := hy
  obtain ⟨us,hu,hus⟩ := h1
  split at h
  ·rename_i n el ht
   simp only [Option.bind_eq_some_iff] at h
   obtain ⟨⟨ob',j⟩,hj,h⟩ := h
   split at h
   ·rename_i hlt
    simp only [Option.bind_eq_some_iff,Option.map_eq_some_iff,Prod.mk.injEq] at h
    obtain ⟨i,hi,v',h,rfl,rfl⟩ := h
    obtain ⟨x,hx,hrun⟩ := vX (w := w) hus h
    obtain ⟨k,hk⟩ := yT h2 (fun v hv => by rw [hv,hev]) hj hob
    refine ⟨x,hx,?_⟩
    have hb : (0 : Int)<=(j : Int)/\(j : Int) < (n : Int) := by dsimp only at hlt; omega
    simp only [execOp,hop,hu,hk,Instr.index,asIntOf,Sem.run_bind,Sem.run_pure,Result.andThen_ok,run_underlying ht,if_pos hb,zO hi,Int.toNat_natCast,hrun]
   ·simp at h
  ·simp at h
 ·rename_i e t x0 ix0 s ix hop
  rw [hop] at hargs
  obtain ⟨x,y,hy,h1,h2⟩ := hargs.two
  simp [Op.operands] at hy
  obtain ⟨rfl,rfl⟩ := hy
  split at h
  ·rename_i ht
   simp only [Option.map_eq_some_iff,Prod.mk.injEq] at h
   obtain ⟨⟨ob',j⟩,hj,rfl,rfl⟩ := h
   obtain ⟨hob1,hob2⟩ := zE.1 hob
   have hlt := zA.1 hob2
   obtain ⟨k,hk⟩ := yT h2 (fun v hv => by rw [hv,hev]) hj hob1
   simp only [VRel] at h1
   refine ⟨_,rfl,?_⟩
   have hp : (0 : Int)<=(j : Int) := by omega
   dsimp only at hlt
   have hb : (zM s)[j]? = some (UInt8.ofBitVec (s.getD j 0)) := by
    have hsz : j < (zM s).size := by rw [wN]; exact hlt
    rw [getElem?_pos (zM s) j hsz]
    congr 1
    show (zM s).data[j] = _
    simp [zM,List.getD,hlt]
   simp only [execOp,hop,h1,hk,Instr.index,asIntOf,Sem.run_bind,Sem.run_pure,Result.andThen_ok,run_underlying ht,if_pos hp,Int.toNat_natCast,hb]
   rfl
  ·simp at h
 ·rename_i e t x0 ix0 i xr sz c ix hop
  rw [hop] at hargs
  obtain ⟨x,y,hy,h1,h2⟩ := hargs.two
  simp [Op.operands] at hy
  obtain ⟨rfl,rfl⟩ := hy
  split at h
  ·rename_i n el ht
   simp only [Option.bind_eq_some_iff] at h
   obtain ⟨⟨ob',j⟩,hj,h⟩ := h
   split at h
   ·rename_i hlt
    simp only [Option.map_eq_some_iff,Prod.mk.injEq] at h
    obtain ⟨inf,hi,rfl,rfl⟩ := h
    obtain ⟨k,hk⟩ := yT h2 (fun v hv => by rw [hv,hev]) hj hob
    obtain ⟨B,O,hρ,hv⟩ := h1
    refine ⟨.pointer (some ⟨B,O + (xr * sz + (c + j * inf.size)),none⟩),⟨B,O,hρ,rfl⟩,?_⟩
    have hb : (0 : Int)<=(j : Int)/\(j : Int) < (n : Int) := by dsimp only at hlt; omega
    simp only [execOp,hop,hv,hk,Instr.indexAt,asIntOf,Instr.sureAddr,Sem.run_bind,Sem.run_pure,Result.andThen_ok,run_underlying ht,if_pos hb,zO hi,Int.toNat_natCast,Addr.add_at,Nat.add_assoc]
   ·simp at h
  ·simp at h
 ·rename_i e t x0 ix0 i xr sz n c nl ix hop
  rw [hop] at hargs
  obtain ⟨x,y,hy,h1,h2⟩ := hargs.two
  simp [Op.operands] at hy
  obtain ⟨rfl,rfl⟩ := hy
  split at h
  ·rename_i el ht
   simp only [Option.bind_eq_some_iff] at h
   obtain ⟨⟨ob',j⟩,hj,inf,hi,h⟩ := h
   split at h
   ·rename_i hsz
    subst hsz
    simp only [Option.some.injEq,Prod.mk.injEq] at h
    obtain ⟨rfl,rfl⟩ := h
    obtain ⟨hob1,hob2⟩ := zE.1 hob
    have hlt := zA.1 hob2
    obtain ⟨k,hk⟩ := yT h2 (fun v hv => by rw [hv,hev]) hj hob1
    obtain ⟨a,kc,hv,hnk,_,_,hloc⟩ := h1
    rcases hloc with ⟨B,O,hρ,rfl⟩ | ⟨h0',_⟩
    ·refine ⟨.pointer (some ⟨B,O + (xr * inf.size + j * inf.size),none⟩),⟨B,O,hρ,by rw [uE,Nat.add_mul,Nat.add_zero]⟩,?_⟩
     have hb : (0 : Int)<=(j : Int)/\(j : Int) < (n : Int) := by omega
     simp only [execOp,hop,hv,hk,Instr.indexAt,asIntOf,Instr.sureAddr,Sem.run_bind,Sem.run_pure,Result.andThen_ok,run_underlying ht,if_pos hb,zO hi,Int.toNat_natCast,Addr.add_at,Nat.add_assoc]
    ·omega
   ·simp at h
  ·simp at h
 ·rename_i e t x0 ix0 p l nl ix hop
  rw [hop] at hargs
  obtain ⟨x,y,hy,h1,h2⟩ := hargs.two
  simp [Op.operands] at hy
  obtain ⟨rfl,rfl⟩ := hy
  split at h
  ·rename_i el ht
   simp only [Option.bind_eq_some_iff] at h
   obtain ⟨⟨ob',j⟩,hj,inf,hi,h⟩ := h
   split at h
   ·rename_i hsz
    simp only [Option.some.injEq,Prod.mk.injEq] at h
    obtain ⟨rfl,rfl⟩ := h
    obtain ⟨hob1,hob2⟩ := zE.1 hob
    have hlt := zA.1 hob2
    obtain ⟨k,hk⟩ := yT h2 (fun v hv => by rw [hv,hev]) hj hob1
    obtain ⟨a,kc,hv,hnk,_,hloc⟩ := h1
    rcases hloc with h0' | ⟨B,O,rfl,hb⟩
    ·rw [h0'] at hlt; simp at hlt
    ·refine ⟨.pointer (some ⟨B,O + j,none⟩),⟨rfl,B,O + j,[.int .u8 (l.getD j 0).toNat],rfl,⟨_,_,rfl,rfl,rfl⟩,?_⟩,?_⟩
     ·intro c z hz
      cases c with
      | zero =>
       simp at hz
       subst hz
       have := hb j (l.getD j 0) (by simp [List.getD,hlt])
       simpa using this
      | succ c => simp at hz
     ·have hb : (0 : Int)<=(j : Int)/\(j : Int) < (l.length : Int) := by omega
      simp only [execOp,hop,hv,hk,Instr.indexAt,asIntOf,Instr.sureAddr,Sem.run_bind,Sem.run_pure,Result.andThen_ok,run_underlying ht,if_pos hb,zO hi,hsz,Nat.mul_one,Int.toNat_natCast,Addr.add_at]
   ·simp at h
  ·simp at h
 ·rename_i e t x0 ix0 p sz n g nl ix hop
  rw [hop] at hargs
  obtain ⟨x,y,hy,h1,h2⟩ := hargs.two
  simp [Op.operands] at hy
  obtain ⟨rfl,rfl⟩ := hy
  split at h
  ·rename_i el ht
   simp only [Option.bind_eq_some_iff] at h
   obtain ⟨⟨ob',j⟩,hj,inf,hi,h⟩ := h
   split at h
   ·rename_i hsz
    subst hsz
    simp only [Option.some.injEq,Prod.mk.injEq] at h
    obtain ⟨rfl,rfl⟩ := h
    obtain ⟨hob1,hob2⟩ := zE.1 hob
    have hlt := zA.1 hob2
    obtain ⟨k,hk⟩ := yT h2 (fun v hv => by rw [hv,hev]) hj hob1
    obtain ⟨a,kc,hv,hnk,_,hloc⟩ := h1
    rcases hloc with h0' | ⟨B,O,rfl,hb⟩
    ·omega
    ·obtain ⟨hd,xs,hxs,hcs⟩ := hb j hlt
     refine ⟨.pointer (some ⟨B,O + j * inf.size,none⟩),⟨hd,B,O + j * inf.size,xs,rfl,hxs,?_⟩,?_⟩
     ·intro c z hz
      rw [Nat.add_assoc]
      exact hcs c z hz
     ·have hb : (0 : Int)<=(j : Int)/\(j : Int) < (n : Int) := by omega
      simp only [execOp,hop,hv,hk,Instr.indexAt,asIntOf,Instr.sureAddr,Sem.run_bind,Sem.run_pure,Result.andThen_ok,run_underlying ht,if_pos hb,zO hi,Int.toNat_natCast,Addr.add_at]
   ·simp at h
  ·simp at h
 ·rename_i e t x0 f i xr sz c hop
  rw [hop] at hargs
  obtain ⟨y,hy,hr⟩ := hargs.one
  simp [Op.operands] at hy
  subst hy
  split at h
  ·rename_i fields ht
   simp only [Option.bind_eq_some_iff] at h
   obtain ⟨fd,hf,inf,hi,h⟩ := h
   split at h
   ·simp at h
   ·rename_i hne
    simp at h
    obtain ⟨rfl,rfl⟩ := h
    obtain ⟨B,O,hρ,hv⟩ := hr
    refine ⟨.pointer (some ⟨B,O + (xr * sz + (c + fd.offset)),none⟩),⟨B,O,hρ,rfl⟩,?_⟩
    simp [execOp,hop,hv,Instr.fieldAt,run_underlying ht,hf,Instr.sureAddr,hU hi hne,Nat.add_assoc]
  ·simp at h
 ·rename_i e t x0 f p cs hop
  rw [hop] at hargs
  obtain ⟨y,hy,hr⟩ := hargs.one
  simp [Op.operands] at hy
  subst hy
  split at h
  ·rename_i fields ht
   simp only [Option.bind_eq_some_iff] at h
   obtain ⟨fd,hf,inf,hi,h⟩ := h
   split at h
   ·simp at h
   ·rename_i hne
    simp at h
    obtain ⟨rfl,rfl⟩ := h
    obtain ⟨hd,B,O,xs,hv,hxs,hcs⟩ := hr
    refine ⟨.pointer (some ⟨B,O + fd.offset,none⟩),⟨fV _ hd,B,O + fd.offset,xs.drop fd.offset,rfl,hxs.drop _,?_⟩,?_⟩
    ·intro c z hz
     rw [List.getElem?_drop] at hz
     rw [Nat.add_assoc]
     exact hcs _ z hz
    ·simp [execOp,hop,hv,Instr.fieldAt,run_underlying ht,hf,Instr.sureAddr,hU hi hne]
  ·simp at h
 ·rename_i e t x0 p cs hop
  rw [hop] at hargs
  obtain ⟨y,hy,hr⟩ := hargs.one
  simp [Op.operands] at hy
  subst hy
  simp only [Option.map_eq_some_iff,Prod.mk.injEq] at h
  obtain ⟨v',h,rfl,rfl⟩ := h
  obtain ⟨_,B,O,xs,hv,hxs,hcs⟩ := hr
  obtain ⟨z,hz,hrun⟩ := k1x (P := P) (w := w) (B := B) (O := O) xs hxs (fun c x hx => hmem p _ _ (hcs c x hx)) h
  refine ⟨z,hz,?_⟩
  simp only [Nat.add_zero] at hrun
  simp [execOp,hop,Instr.loadAt,hv,Instr.sureAddr,hrun]
 ·rename_i e t x0 lo hi x bs hop
  rw [hop] at hargs
  obtain ⟨z,hz,hr⟩ := G4 (w := w) hev hop h0 hob hargs
  exact ⟨z,hz,by simp [execOp,hop,hr]⟩
 ·rename_i args e args2 t parts hop
  rw [hop] at hargs
  have ha : VRels κ args ((parts.toList.map (·.2)).map ev) := by simpa [Op.operands] using hargs
  obtain ⟨z,hz,hr⟩ := n9 (w := w) hop ha h0
  exact ⟨z,hz,by simp [execOp,hop,hr]⟩
 ·rename_i e args0 as0 tys a hop
  rw [hop] at hargs
  obtain ⟨y,hy,hr⟩ := hargs.one
  simp [Op.operands,Call.operands] at hy
  obtain ⟨x0,hx0,rfl⟩ := hy
  have has : as0 = #[x0] := by apply Array.toList_inj.1; simpa using hx0
  subst has
  have run : ∀ {z : Value},(Builtin.len_ tys o.type #[ev x0]).run P w = .ok z w->(execOp ev o).run P w = .ok (.value z) w := by
   intro z hz
   simp [execOp,hop,resolve,invoke,builtin,hz]
  split at h
  ·rename_i s ht
   simp only [Option.bind_eq_some_iff] at ht
   obtain ⟨t,ht0,ht⟩ := ht
   simp at h
   obtain ⟨rfl,rfl⟩ := h
   simp only [VRel] at hr
   exact ⟨_,rfl,run (by simp [Builtin.len_,ht0,run_underlying ht,hr,goInt,wN])⟩
  ·rename_i i x sz n c nl ht
   simp only [Option.bind_eq_some_iff] at ht
   obtain ⟨t,ht0,ht⟩ := ht
   simp at h
   obtain ⟨rfl,rfl⟩ := h
   obtain ⟨a,k,hv,_⟩ := hr
   exact ⟨_,rfl,run (by simp [Builtin.len_,ht0,run_underlying ht,hv,goInt])⟩
  ·rename_i ht
   simp only [Option.bind_eq_some_iff] at ht
   obtain ⟨t,ht0,ht⟩ := ht
   simp at h
   obtain ⟨rfl,rfl⟩ := h
   simp only [VRel] at hr
   exact ⟨_,rfl,run (by simp [Builtin.len_,ht0,run_underlying ht,hr,goInt])⟩
  ·rename_i p l nl ht
   simp only [Option.bind_eq_some_iff] at ht
   obtain ⟨t,ht0,ht⟩ := ht
   simp at h
   obtain ⟨rfl,rfl⟩ := h
   obtain ⟨a,k,hv,_⟩ := hr
   exact ⟨_,rfl,run (by simp [Builtin.len_,ht0,run_underlying ht,hv,goInt])⟩
  ·rename_i p sz n g nl ht
   simp only [Option.bind_eq_some_iff] at ht
   obtain ⟨t,ht0,ht⟩ := ht
   simp at h
   obtain ⟨rfl,rfl⟩ := h
   obtain ⟨a,k,hv,_⟩ := hr
   exact ⟨_,rfl,run (by simp [Builtin.len_,ht0,run_underlying ht,hv,goInt])⟩
  ·rename_i n el ht
   simp only [Option.bind_eq_some_iff] at ht
   obtain ⟨t,ht0,ht⟩ := ht
   simp at h
   obtain ⟨rfl,rfl⟩ := h
   exact ⟨_,rfl,run (by simp [Builtin.len_,ht0,run_underlying ht,goInt])⟩
  ·simp at h
 ·rename_i e args0 as0 tys a hop
  rw [hop] at hargs
  obtain ⟨y,hy,hr⟩ := hargs.one
  simp [Op.operands,Call.operands] at hy
  obtain ⟨x0,hx0,rfl⟩ := hy
  have has : as0 = #[x0] := by apply Array.toList_inj.1; simpa using hx0
  subst has
  have run : ∀ {z : Value},(Builtin.cap_ tys o.type #[ev x0]).run P w = .ok z w->(execOp ev o).run P w = .ok (.value z) w := by
   intro z hz
   simp [execOp,hop,resolve,invoke,builtin,hz]
  split at h
  ·rename_i i x sz n c nl ht
   simp only [Option.bind_eq_some_iff] at ht
   obtain ⟨t,ht0,ht⟩ := ht
   simp at h
   obtain ⟨rfl,rfl⟩ := h
   obtain ⟨a,k,hv,_,_,hc,_⟩ := hr
   simp only [CapR] at hc
   subst hc
   exact ⟨_,rfl,run (by simp [Builtin.cap_,ht0,run_underlying ht,hv,goInt])⟩
  ·rename_i ht
   simp only [Option.bind_eq_some_iff] at ht
   obtain ⟨t,ht0,ht⟩ := ht
   simp at h
   obtain ⟨rfl,rfl⟩ := h
   simp only [VRel] at hr
   exact ⟨_,rfl,run (by simp [Builtin.cap_,ht0,run_underlying ht,hr,goInt])⟩
  ·simp at h
 ·rename_i args e args1 as0 tys hop
  rw [hop] at hargs
  have ha : VRels κ args (as0.toList.map ev) := by simpa [Op.operands,Call.operands] using hargs
  simp only [Option.map_eq_some_iff,Prod.mk.injEq] at h
  obtain ⟨v',h,rfl,rfl⟩ := h
  cases args with
  | nil => simp [R0] at h
  | cons a rest =>
   obtain ⟨x,xs,hx,h1,h2⟩ := ha
   obtain ⟨z,hz,hr⟩ := bM (P := P) (w := w) false rest xs a v' x h1 h2 h
   refine ⟨z,hz,?_⟩
   simp only [cond_false] at hr
   simp [execOp,hop,resolve,invoke,builtin,Builtin.min_,hx,hr]
 ·rename_i args e args1 as0 tys hop
  rw [hop] at hargs
  have ha : VRels κ args (as0.toList.map ev) := by simpa [Op.operands,Call.operands] using hargs
  simp only [Option.map_eq_some_iff,Prod.mk.injEq] at h
  obtain ⟨v',h,rfl,rfl⟩ := h
  cases args with
  | nil => simp [R0] at h
  | cons a rest =>
   obtain ⟨x,xs,hx,h1,h2⟩ := ha
   obtain ⟨z,hz,hr⟩ := bM (P := P) (w := w) true rest xs a v' x h1 h2 h
   refine ⟨z,hz,?_⟩
   simp only [cond_true] at hr
   simp [execOp,hop,resolve,invoke,builtin,Builtin.max_,hx,hr]
 ·simp at h
end
end Go.Sym
namespace Go.Sym
structure R where
 ob : List Prop
 v : AV
 up : List (Nat × Option ABlk)
inductive T where
 | no
 | ok (r : R)
 | br (b : Bool) (x y : T)
def T.sel : T->Option R
 | .no => none
 | .ok r => some r
 | .br b x y => match b with | true => x.sel | false => y.sel
def T.of (o : PO AV) : T :=
 match o with
 | some (ob,v) => .ok ⟨ob,v,[]⟩
 | none => .no
def T.ofR (o : Option R) : T :=
 match o with
 | some r => .ok r
 | none => .no
def H.ups (h : H) : List (Nat × Option ABlk)->H
 | [] => h
 | (i,b)::l => H.ups (upd h i b) l
abbrev lZ := H->List AV->Nat->T
inductive Fz where
 | kp
 | by8
 | r (sz : Nat)
 | p
 | a (l : List Fz)
 /-- A test that comes out so: that it does is a condition. -/
 | is (c : Bool)
 deriving Inhabited
structure Ctx where
 fn : FuncId->Option lZ
 keep : List String
 /-- Slots whose operations meet numbers that aren't known. -/
 sym : List Nat := []
 /-- Slots whose values nobody will write any more. -/
 frz : List (Nat × List Fz) := []
 /-- Iterators: what they hand out. -/
 its : FuncId->Option (List AV->Option (List Prop × Nat × (Nat->List AV))) := fun _ => none
def qO : List AV->Option (List (BitVec 8))
 | [] => some []
 | .u8 x::rest => (qO rest).map (x::·)
 | _ => none
def cL (l : List AV) (p : Nat) (cs : List AV) : List AV :=
 match cs with
 | [a] => l.set p a
 | cs => l.take p++cs++l.drop (p + cs.length)
def hX (g : Nat->List AV) : Nat->Nat->Option (List AV)
 | _,0 => some []
 | p,k + 1 => match g p with | [a] => (hX g (p + 1) k).map (a::·) | _ => none
def Con.read (b : Con) (x sz c k : Nat) : PO (List AV) :=
 match b with
 | .cells l => let q := (l.drop (x * sz + c)).take k; if q.length = k then some ([],q) else none
 | .bytes l =>
  match sz,c,k with
  | 1,0,1 => some ([x < l.length],[.u8 (l.getD x 0)])
  | sz,c,k => some ([x * sz + c + k<=l.length],kR l (x * sz + c) k)
 | .rows sz' n g => if sz = sz'/\c + k<=sz then let q := ((g x).drop c).take k; if q.length = k then some ([x < n],q) else none
  else if sz' = 1 then (hX g (x * sz + c) k).map fun q => ([x * sz + c + k<=n],q) else none
 | .mp _ _ _ => none
def Con.write (b : Con) (x sz c : Nat) (cs : List AV) : PO Con :=
 match b with
 | .cells l => if x * sz + c + cs.length<=l.length then some ([],.cells (cL l (x * sz + c) cs)) else none
 | .bytes l =>
  match sz,c,cs with
  | 1,0,[.u8 v] => some ([x < l.length],.bytes (l.set x v))
  | sz,c,cs => (qO cs).map fun q => match x * sz + c with | 0 => ([q.length = l.length],.bytes q) | p => ([p + q.length<=l.length],.bytes (l.take p++(q++l.drop (p + q.length))))
 | .rows sz' n g => if sz = sz'/\c + cs.length<=sz/\c + cs.length<=(g x).length then some ([x < n],.rows sz n fun y => bif y == x then cL (g y) c cs else g y)
  else if sz' = 1/\x * sz + c = 0 then some ([cs.length = n,∀ y,y < n->(g y).length = 1],.rows 1 n fun y => [cs.getD y .any]) else none
 | .mp _ _ _ => none
def aH : List AV->Option (List (BitVec 32))
 | [] => some []
 | .u32 x::rest => (aH rest).map (x::·)
 | _ => none
def o8 : List AV->Option (List (BitVec 64))
 | [] => some []
 | .u64 x::rest => (o8 rest).map (x::·)
 | _ => none
def rdI (k : IntKind) : List AV->Option (List Int)
 | [] => some []
 | .int k' x::rest => if k = k' then (rdI k rest).map (x::·) else none
 | _ => none
def nH (l : List AV) : Option Con :=
 match l with
 | .u8 _::_ => (qO l).map .bytes
 | .u32 _::_ => (aH l).map fun L => .rows 1 L.length fun y => [.u32 (L.getD y 0)]
 | .u64 _::_ => (o8 l).map fun L => .rows 1 L.length fun y => [.u64 (L.getD y 0)]
 | .int k _::_ => (rdI k l).map fun L => .rows 1 L.length fun y => [.int k (L.getD y 0)]
 | _ => none
def Z6 (z : List AV) : Con :=
 match z with
 | .u8 _::_ => (match qO z with | some L => (match L.all (· == 0) with | true => .bytes (List.replicate L.length 0) | false => .cells z) | none => .cells z)
 | .u32 _::_ => (match aH z with | some L => (match L.all (· == 0) with | true => .rows 1 L.length (fun _ => [.u32 0]) | false => .cells z) | none => .cells z)
 | .u64 _::_ => (match o8 z with | some L => (match L.all (· == 0) with | true => .rows 1 L.length (fun _ => [.u64 0]) | false => .cells z) | none => .cells z)
 | .int k _::_ => (match rdI k z with | some L => (match L.all (· == 0) with | true => .rows 1 L.length (fun _ => [.int k 0]) | false => .cells z) | none => .cells z)
 | _ => .cells z
def qR (c : Con) : Con := match c with | .cells l => (match nH l with | some c => c | none => c) | c => c
def symB (b : ABlk) : ABlk := ⟨qR b.con,b.wr,b.own⟩
def symH (h : H) (i : Nat) : H := match h i with | some b => upd h i (some (symB b)) | none => h
def mN {α : Type} (x : Nat) (l : List α) : List α := match x with | 0 => l | x => l.drop x
theorem kI {α : Type} (x : Nat) (l : List α) : mN x l = l.drop x := by unfold mN; split <;> simp
def yX (h : H) : AV->PO (List (BitVec 8))
 | .rb _ l _ => some ([],l)
 | .str l => some ([],l)
 | .nils => some ([],[])
 | .slice i x sz n c _ =>
  match sz with
  | 0 => some ([n = 0],[])
  | 1 => (h i).bind fun b =>
   match b.con with
   | .bytes l => (match c with | .ow => some ([n = l.length],l) | _ => some ([x + n<=l.length],(mN x l).take n))
   | .cells l => let q := (l.drop x).take n; if q.length = n then (qO q).map fun q => ([],q) else none
   | _ => none
  | _ => none
 | _ => none
def lA (h : H) (sz : Nat) : AV->PO (Nat × (Nat->List AV))
 | .ros _ sz' n g _ => if sz' = sz then some ([],(n,g)) else none
 | .nils => some ([],(0,fun _ => []))
 | .slice i x sz' n _ _ =>
  match sz' with
  | 0 => some ([n = 0],(0,fun _ => []))
  | _ =>
  if sz' = sz then (h i).bind fun b =>
   match b.con with
   | .rows sz2 n' g => if sz2 = sz then some ([x + n<=n'],(n,fun y => g (vZ x y))) else none
   | _ => none
  else none
 | _ => none
def pQ (h : H) (sz : Nat) : AV->Option (Nat × List AV)
 | .slice i x sz' n _ _ =>
  if sz' = sz then (h i).bind fun b =>
   match b.con with
   | .cells l => let q := (l.drop (x * sz)).take (n * sz); if q.length = n * sz then some (n,q) else none
   | _ => none
  else none
 | _ => none
def lB (g : Nat->List AV) (n : Nat) (g2 : Nat->List AV) : Nat->List AV := fun y => if y < n then g y else g2 (y - n)
def cut (sz : Nat) (l : List AV) : Nat->List AV := fun y => (l.drop (y * sz)).take sz
def kJ (nl : NL) (m : Nat) : NL :=
 match nl with
 | .unk => .unk
 | .is b => .is (b && decide (m = 0))
def qT (P : Program) (e : TypeId) : Bool :=
 match P.underlying e with
 | some (.int .u8) => true
 | _ => false
def dF (P : Program) (e : TypeId) : Bool :=
 qT P e && match yN P e with | some [.u8 b] => b == 0#8 | _ => false
def xH (z : List AV) (n : Nat) : List AV := (List.range n).map fun i => z.getD (i % z.length) .any
def zD (n m bytes : Nat) : Prop := (n + m) * (2 * bytes)<=281474976710656
def pR (sz : Nat) (l : List AV) : Bool := l.length == sz && l.all AV.scal
inductive Src where
 | bytes (s : List (BitVec 8))
 | rows (m : Nat) (g : Nat->List AV)
 | cells (m : Nat) (l : List AV)
 | raw (m : Nat) (s : List (BitVec 8))
def Src.cnt : Src->Nat
 | .bytes s => s.length
 | .rows m _ => m
 | .cells m _ => m
 | .raw m _ => m
def G6 (h : H) (sz : Nat) : AV->PO (Nat × List (BitVec 8))
 | .slice i x sz' n _ _ =>
  if sz' = sz then (h i).bind fun b =>
   match b.con with
   | .bytes l => some ([x * sz + n * sz<=l.length],(n,(mN (x * sz) l).take (n * sz)))
   | _ => none
  else none
 | _ => none
def o9 (P : Program) (h : H) (e : TypeId) (sz : Nat) (isInt : Bool) (x : AV) : PO Src :=
 if isInt then
  match x with
  | .int .i64 k => if dF P e then some ([0<=k,k < 9223372036854775808],.bytes (List.replicate k.toNat 0)) else (yN P e).bind fun z => if pR sz z = true then some ([0<=k,k < 9223372036854775808],.rows k.toNat fun _ => z) else none
  | _ => none
 else if qT P e then (yX h x).map fun p => (p.1,.bytes p.2)
 else
  match pQ h sz x with
  | some (m,l) => some ([],.cells m l)
  | none => match G6 h sz x with
   | some p => some (p.1,.raw p.2.1 p.2.2)
   | none => (lA h sz x).map fun p => (p.1++[∀ y,y < p.2.1->pR sz (p.2.2 y) = true],.rows p.2.1 p.2.2)
def Con.app (b : Con) (sz n : Nat) (s : Src) : PO Con :=
 match b,s with
 | .bytes l,.bytes s => some ([n = l.length],.bytes (l++s))
 | .cells l,.cells _ q => if l.length = n * sz then some ([],.cells (l++q)) else none
 | .cells [],.raw _ s => some ([n = 0],.bytes s)
 | .cells [],.rows m g => some ([n = 0],.rows sz m g)
 | .rows sz' n' g,.cells _ q => if sz' = sz then some ([n = n'],.rows sz (n' + s.cnt) (lB g n' (cut sz q))) else none
 | .rows sz' n' g,.rows m g2 => if sz' = sz then some ([n = n'],.rows sz (n' + m) (lB g n' g2)) else none
 | _,_ => none
def Src.con (sz : Nat) : Src->Con
 | .bytes s => .bytes s
 | .rows m g => .rows sz m g
 | .cells _ l => .cells l
 | .raw _ s => .bytes s
def Src.ok (P : Program) (e : TypeId) (sz : Nat) : Src->Bool
 | .bytes _ => qT P e && sz == 1
 | .rows _ _ => true
 | .raw _ _ => true
 | .cells m l => l.length == m * sz && l.all AV.scal
def nV (P : Program) (keep : Bool) (e : TypeId) (isInt : Bool) (d x : AV) (fr : Nat) (h : H) : Option R :=
 (P.info? e).bind fun ie => (yN P e).bind fun z => (o9 P h e ie.size isInt x).bind fun s =>
 if 0 < ie.size/\0 < ie.bytes/\z.length = ie.size/\s.2.ok P e ie.size = true then
  match d with
  | .nils => some ⟨s.1++[zD 0 s.2.cnt ie.bytes],.slice fr 0 ie.size s.2.cnt .ow (kJ (.is true) s.2.cnt),[(fr,some ⟨s.2.con ie.size,true,ie.size⟩)]⟩
  | .slice i _ _ n (.kn 0) nl => some ⟨s.1++[n = 0,zD 0 s.2.cnt ie.bytes],.slice fr 0 ie.size s.2.cnt .ow (kJ nl s.2.cnt),[(fr,some ⟨s.2.con ie.size,true,ie.size⟩)]⟩
  | .slice i 0 sz n .ow nl => (h i).bind fun b => if b.own = ie.size/\sz = ie.size then
    (b.con.app sz n s.2).map fun c => ⟨s.1++c.1++[zD n s.2.cnt ie.bytes],.slice fr 0 ie.size (n + s.2.cnt) (if keep then .un else .ow) (kJ nl s.2.cnt),
     if keep then [(i,some ⟨b.con,false,0⟩),(fr,some ⟨c.2,false,0⟩)] else [(i,none),(fr,some ⟨c.2,true,ie.size⟩)]⟩
   else none
  | _ => none
 else none
def Con.cutN (b : Con) (sz n : Nat) : PO Con :=
 match b with
 | .bytes l => if sz = 1 then some ([n<=l.length],.bytes (l.take n)) else none
 | .rows sz' n' g => if sz = sz' then some ([n<=n'],.rows sz n g) else none
 | .cells l => if n * sz<=l.length then some ([],.cells (l.take (n * sz))) else none
 | .mp _ _ _ => none
def Con.dropC (b : Con) (sz x : Nat) : PO Con :=
 match b with
 | .bytes l => if sz = 1 then some ([x<=l.length],.bytes (l.drop x)) else none
 | .rows sz' n' g => if sz = sz' then some ([x<=n'],.rows sz (kE n' x) (fun y => g (vZ x y))) else none
 | .cells l => if x * sz<=l.length then some ([],.cells (l.drop (x * sz))) else none
 | .mp _ _ _ => none
def k0v (P : Program) (e : TypeId) (isInt : Bool) (i x0 sz n c : Nat) (nl : NL) (x : AV) (fr : Nat) (h : H) : Option R :=
  (P.info? e).bind fun ie => (yN P e).bind fun z => (o9 P h e ie.size isInt x).bind fun s =>
  if 0 < ie.size/\0 < ie.bytes/\z.length = ie.size/\s.2.ok P e ie.size = true then
    match x0 with
    | 0 => (h i).bind fun b => if b.own = ie.size/\sz = ie.size then
        (b.con.app sz n s.2).map fun q => ⟨s.1++q.1++[zD n s.2.cnt ie.bytes,c < n + s.2.cnt],.slice fr 0 ie.size (n + s.2.cnt) .ow (kJ nl s.2.cnt),[(fr,some ⟨q.2,true,ie.size⟩)]⟩
      else none
    | _ => none
  else none
def pS (P : Program) (keep : Bool) (e : TypeId) (isInt : Bool) (d x : AV) (fr : Nat) (h : H) : Option R :=
 match d with
 | .slice i x0 sz n (.kn c) nl => match keep with | true => k0v P e isInt i x0 sz n c nl x fr h | false => nV P keep e isInt (.slice i x0 sz n (.kn c) nl) x fr h
 | .slice i x0 sz n .os nl => (h i).bind fun b => (b.con.cutN sz n).bind fun c => (nV P keep e isInt (.slice i x0 sz n .ow nl) x fr (upd h i (some ⟨c.2,b.wr,b.own⟩))).map fun r => ⟨c.1++r.ob,r.v,r.up⟩
 | .slice i x0 sz n .ox nl => (h i).bind fun b => if b.own = sz/\0 < sz then (b.con.dropC sz x0).bind fun c =>
   (nV P keep e isInt (.slice (fr + 1) 0 sz n .ow nl) x fr (upd (upd h i none) (fr + 1) (some ⟨c.2,b.wr,b.own⟩))).map fun r => ⟨c.1++r.ob,r.v,(i,none)::(fr + 1,some ⟨c.2,b.wr,b.own⟩)::r.up⟩ else none
 | _ => nV P keep e isInt d x fr h
def j0v (P : Program) (e : TypeId) (isInt : Bool) (d x : AV) (h : H) : Option R :=
 (P.info? e).bind fun ie => (yN P e).bind fun z => (o9 P h e ie.size isInt x).bind fun s =>
 if 0 < ie.size/\0 < ie.bytes/\z.length = ie.size/\s.2.ok P e ie.size = true then
  match d with
  | .slice i 0 sz n .ow nl => (h i).bind fun b => if b.own = ie.size/\sz = ie.size then
    (b.con.app sz n s.2).map fun q => ⟨s.1++q.1++[zD n s.2.cnt ie.bytes],.ros true ie.size (n + s.2.cnt) (fun _ => []) (kJ nl s.2.cnt),[]⟩
   else none
  | _ => none
 else none
def hZ (P : Program) (keep : List String) (pos : String) (e : TypeId) (isInt : Bool) (d x : AV) (fr : Nat) (h : H) : Option R :=
 match keep.contains ("~" ++ pos) with
 | true => j0v P e isInt d x h
 | false => pS P (keep.contains pos) e isInt d x fr h
def R3 (P : Program) (e : TypeId) : Bool :=
 qT P e && match P.info? e with | some ie => ie.size == 1 | none => false
def jG (s : List (BitVec 8)) : Nat->List AV->Option (List AV)
 | _,[] => some []
 | j,.u8 b::l => (jG s (j + 1) l).map fun r => .u8 (if j < s.length then s.getD j 0 else b)::r
 | _,_ => none
def v1w (P : Program) (e : TypeId) (d x : AV) (h : H) : Option R :=
 if R3 P e then
  match d with
  | .slice i o 1 n _ _ => (h i).bind fun b => (yX h x).bind fun s =>
   if b.wr then
    match b.con with
    | .bytes l => some ⟨s.1++[o + n<=l.length],.int .i64 (min s.2.length n : Nat),[(i,some ⟨.bytes (l.take o++(s.2.take n++l.drop (o + min s.2.length n))),true,b.own⟩)]⟩
    | .cells l => if o + n<=l.length then (jG s.2 0 ((l.drop o).take n)).map fun q => ⟨s.1,.int .i64 (min s.2.length n : Nat),[(i,some ⟨.cells (l.take o++q++l.drop (o + n)),true,b.own⟩)]⟩ else none
    | _ => none
   else none
  | _ => none
 else none
def p4 : Operand->Option Nat
 | .const (.int _ (.ofNat n)) => some n
 | _ => none
def fX (P : Program) (e : TypeId) (cs : List AV) : Con :=
 if qT P e then (match qO cs with | some l => .bytes l | none => .cells cs) else .cells cs
def qD (P : Program) (e : TypeId) (lo : Operand) (l sz : Nat) (z : List AV) : Con :=
 if dF P e then .bytes (List.replicate l 0) else match p4 lo with | some k => .cells (xH z (k * sz)) | none => .rows sz l fun _ => z
def makeConK (P : Program) (raw : Bool) (e : TypeId) (lo : Operand) (l sz : Nat) (z : List AV) : Con :=
 match raw with
 | true => (match qO z with | some q => (match q.all (· == 0#8) with | true => .bytes (List.replicate (l * sz) 0) | false => qD P e lo l sz z) | none => qD P e lo l sz z)
 | false => qD P e lo l sz z
def sX : List AV->Bool
 | [] => true
 | .rb q _ _::l => q && sX l
 | .ros q _ _ _ _::l => q && sX l
 | .rp q _::l => q && sX l
 | _::l => sX l
def kA : AV->Option (Nat × List Int)
 | .int .i64 n => some (0,[n])
 | .agg cs => match cs with | [] => none | c::cs => (rdI .i64 (c::cs)).map fun l => (l.length,l)
 | _ => none
def kT (P : Program) (k : TypeId) : Option Nat :=
 match P.underlying k with
 | some (.int .i64) => some 0
 | some (.array n e) => match P.underlying e,P.info? e with | some (.int .i64),some i => if i.size = 1/\0 < n then some n else none | _,_ => none
 | _ => none
def pT (P : Program) (e : TypeId) : Option AV :=
 (yN P e).bind fun z => match P.info? e with
 | some i => (match i.zero with | some (.agg _) => some (.agg z) | some v => (match v.oneCell',z with | true,[a] => some a | _,_ => none) | none => none)
 | none => none
def cM (t : Bool) (a b : AV) : AV :=
 match a,b with
 | .bool x,.bool y => .bool (bif t then x else y)
 | .int k x,.int k' y => if k = k' then .int k (bif t then x else y) else .any
 | .agg [],.agg [] => .agg []
 | _,_ => .any
def q0v (P : Program) (o : Oper) (args : List AV) (fr : Nat) (h : H) : T :=
 match o.op,args with
 | .makeMap t none,_ => T.ofR (match P.underlying t with
  | some (.map k e) => (kT P k).bind fun ag => (pT P e).map fun z => ⟨[],.mp fr,[(fr,some ⟨.mp ag (fun _ => false) (fun _ => z),true,0⟩)]⟩
  | _ => none)
 | .lookup t _ _ ok,[.mp i,key] =>
  match P.underlying t with
  | some (.map k e) => (match h i with
   | some b => (match b.con with
    | .mp ag p g => (match kA key,pT P e with
     | some (ag',ks),some z => (match Nat.beq ag ag' && (kT P k == some ag) with
      | true => .br (p ks) (.ok ⟨[],match ok with | true => .tup [g ks,.bool true] | false => g ks,[]⟩) (.ok ⟨[],match ok with | true => .tup [z,.bool false] | false => z,[]⟩)
      | false => .no)
     | _,_ => .no)
    | _ => .no)
   | none => .no)
  | _ => .no
 | .mapUpdate t _ _ _,[.mp i,key,x] =>
  match P.underlying t with
  | some (.map k e) => (match h i with
   | some b => (match b.con with
    | .mp ag p g => (match kA key with
     | some (ag',ks) => (match Nat.beq ag ag' && (kT P k == some ag) with
      | true => .ok ⟨[],.any,[(i,some ⟨.mp ag (fun k => k == ks || p k) (fun k => cM (k == ks) x (g k)),b.wr,b.own⟩)]⟩
      | false => .no)
     | none => .no)
    | _ => .no)
   | none => .no)
  | _ => .no
 | _,_ => .no
def nI (P : Program) (Γ : Ctx) (o : Oper) (args : List AV) (fr : Nat) (h : H) : T :=
 match o.op,args with
 | .pick _ _ _,[.bool c,a,b] => .br c (.ok ⟨[],a,[]⟩) (.ok ⟨[],b,[]⟩)
 | .alloc e,_ => T.ofR ((yN P e).map fun z => ⟨[],.ptr fr 0 0 0,[(fr,some ⟨.cells z,true,0⟩)]⟩)
 | .box _ _,[a] => T.ofR (a.cells.map fun cs => ⟨[],.ptr fr 0 0 0,[(fr,some ⟨.cells cs,true,0⟩)]⟩)
 | .buildSlice t len parts,args =>
  T.ofR (match P.underlying t with
  | some (.slice e) =>
   (P.info? e).bind fun ie =>
   (yN P e).bind fun z =>
   if len * ie.size<=16777216/\0 < ie.size then
    (nG (fun i => some (i * ie.size,ie.size)) (xH z (len * ie.size)) ((parts.toList.map (·.1)).zip args)).map fun cs =>
     match sX cs with
     | true => ⟨[],.slice fr 0 ie.size len .ow (.is false),[(fr,some ⟨fX P e cs,true,ie.size⟩)]⟩
     | false => ⟨[],.slice fr 0 ie.size len (.kn len) (.is false),[(fr,some ⟨fX P e cs,false,0⟩)]⟩
   else none
  | _ => none)
 | .load t _,[.ptr i x sz c] =>
  T.ofR ((h i).bind fun b =>
   match vU P t,P.info? t with
   | some true,some inf => (b.con.read x sz c inf.size).map fun q => ⟨q.1,.agg q.2,[]⟩
   | some false,_ => (b.con.read x sz c 1).bind fun q => match q.2 with | [a] => some ⟨q.1,a,[]⟩ | _ => none
   | _,_ => none)
 | .store t _ _,[.ptr i x sz c,a] =>
  T.ofR (match a.cells,P.info? t with
  | some [],some inf => if inf.size = 0 then (h i).map fun b => ⟨[],.any,[(i,some b)]⟩ else none
  | some cs,some inf => if cs.length = inf.size/\cs ≠ []/\cs.all AV.scal = true then (h i).bind fun b => if b.wr then (b.con.write x sz c cs).map fun q => ⟨q.1,.any,[(i,some ⟨q.2,true,b.own⟩)]⟩ else none else none
  | _,_ => none)
 | .convert src dst _,[a] =>
  T.ofR (match P.underlying src,P.underlying dst with
  | some (.slice e),some .string =>
   if qT P e then (yX h a).bind fun s => match a with | .str _ => none | _ => some ⟨s.1,.str s.2,[]⟩ else none
  | some .string,some (.slice e) =>
   match a with
   | .str l => if qT P e then some ⟨[],.slice fr 0 1 l.length .ow (.is false),[(fr,some ⟨.bytes l,true,1⟩)]⟩ else none
   | _ => none
  | some (.slice e),some (.slice _) =>
   match a with
   | .slice i x sz n c nl => if qT P e/\src = dst then (h i).bind fun b => if b.wr then match nl,b.con with | .is false,.bytes l => some ⟨[0 < n,0 < l.length],.slice i x sz n c nl,[]⟩ | _,_ => none else none else none
   | _ => none
  | _,_ => none)
 | .makeSlice t lo co,[l,c] =>
  T.ofR (match P.underlying t,vJ lo l,vJ co c with
  | some (.slice e),some l,some c =>
   (P.info? e).bind fun ie =>
   (yN P e).bind fun z =>
   if 0 < ie.size/\z.length = ie.size then
    some ⟨l.1++c.1++[l.2<=c.2,ie.bytes * c.2<=281474976710656,c.2<=9223372036854775807],.slice fr 0 ie.size l.2 (match Γ.keep.contains o.pos with | true => .kn c.2 | false => .ow) (.is false),
     [(fr, some ⟨makeConK P (Γ.keep.contains ("#" ++ o.pos)) e lo l.2 ie.size z, true, ie.size⟩)]⟩
   else none
  | _,_,_ => none)
 | .call { callee := .builtin .append,argTypes,.. },[d,x] =>
  T.ofR (match (argTypes[0]?).bind P.underlying,(argTypes[1]?).bind P.underlying with
  | some (.slice e),some (.slice _) => hZ P Γ.keep o.pos e false d x fr h
  | some (.slice e),some .string => hZ P Γ.keep o.pos e false d x fr h
  | some (.slice e),some (.int _) => hZ P Γ.keep o.pos e true d x fr h
  | _,_ => none)
 | .call { callee := .builtin .copy,argTypes,.. },[d,x] =>
  T.ofR (match (argTypes[0]?).bind P.underlying with
  | some (.slice e) => v1w P e d x h
  | _ => none)
 | .call { callee := .value _,.. },.fn f first caps::as =>
  match Γ.fn f with
  | some F => F h (first++as++caps) fr
  | none => .no
 | .slice t _ none (some ho) (some mo),[.slice i x sz n c nl,hv,mv] =>
  T.ofR (match P.underlying t,vJ ho hv,vJ mo mv with
  | some (.slice e),some q,some m => (P.info? e).bind fun inf => if inf.size = sz then some ⟨q.1++m.1++[q.2<=m.2,m.2<=n],.slice i x sz q.2 (.kn m.2) nl,[]⟩ else none
  | _,_,_ => none)
 | .makeMap _ _,_ => q0v P o args fr h
 | .lookup _ _ _ _,_ => q0v P o args fr h
 | .mapUpdate _ _ _ _,_ => q0v P o args fr h
 | _,_ => .no
def of32 (l : List AV) : BitVec 32 := match l with | [.u32 v] => v | _ => 0
def is32 (l : List AV) : Prop := match l with | [.u32 _] => True | _ => False
def of64 (l : List AV) : BitVec 64 := match l with | [.u64 v] => v | _ => 0
def is64 (l : List AV) : Prop := match l with | [.u64 _] => True | _ => False
def ofI (k : IntKind) (l : List AV) : Int := match l with | [.int k' v] => if k = k' then v else 0 | _ => 0
def isI (k : IntKind) (l : List AV) : Prop := match l with | [.int k' _] => k = k' | _ => False
def n0v (P : Program) (t : TypeId) (l : List AV) : PO AV :=
 match P.underlying t with
 | some (.int k) => (match k with
  | .u32 => some ([is32 l],.u32 (of32 l))
  | .u64 => some ([is64 l],.u64 (of64 l))
  | .u8 | .u16 => none
  | k => some ([isI k l],.int k (ofI k l)))
 | _ => none
def p5 : List AV->Nat->Nat->T
 | [],_,_ => .no
 | a::l,x,k => .br (decide (x = k)) (.ok ⟨[],a,[]⟩) (p5 l x (k + 1))
def p6 (f : Nat->T) (x : Nat) : Nat->Nat->T
 | _,0 => .no
 | k,m + 1 => .br (decide (x = k)) (f k) (p6 f x (k + 1) m)
def aopS (P : Program) (Γ : Ctx) (o : Oper) (args : List AV) (fr : Nat) (h : H) : Option T :=
 match o.op,args with
 | .indexAddr t _ io,[.ptr i x sz c,ix] =>
  match P.underlying t with
  | some (.array n e) => (match sz,c with
   | 0,0 => (vJ io ix).bind fun j => (P.info? e).map fun inf => .ok ⟨j.1++[j.2 < n],.ptr i j.2 inf.size 0,[]⟩
   | _,_ => none)
  | _ => none
 | .index t _ io,[.agg cs,ix] =>
  match P.underlying t with
  | some (.array n e) => (vJ io ix).bind fun j => (P.info? e).bind fun inf => (nH cs).bind fun c => (match vU P e with | some false => if inf.size = 1/\cs.length = n then (c.read j.2 1 0 1).bind fun q => (match q.2 with | [a] => some (.ok ⟨j.1++q.1,a,[]⟩) | _ => none) else none | _ => none)
  | _ => none
 | .alloc e,_ => (yN P e).map fun z => .ok ⟨[],.ptr fr 0 0 0,[(fr,some ⟨Z6 z,true,0⟩)]⟩
 | .load t _,[.ptr i x sz c] =>
  match h i,sz,c with
  | some b,1,0 => (match qR b.con with
   | .rows 1 n g => (match n0v P t (g x) with | some q => some (.ok ⟨(x < n)::q.1,q.2,[]⟩) | none => some (nI P Γ o args fr (symH h i)))
   | .cells l => (match vU P t with | some false => some (p5 l x 0) | _ => some (nI P Γ o args fr (symH h i)))
   | _ => some (nI P Γ o args fr (symH h i)))
  | some b,s + 2,0 => (match b.con with
   | .cells l => some (p6 (fun k => nI P Γ o [.ptr i k (s + 2) 0] fr h) x 0 (l.length / (s + 2)))
   | _ => some (nI P Γ o args fr (symH h i)))
  | _,_,_ => some (nI P Γ o args fr (symH h i))
 | .store t _ _,[.ptr i x sz c,a] =>
  match h i,sz,c with
  | some b,1,0 => (match qR b.con with
   | .rows 1 n g => (match P.info? t with
    | some inf => if inf.size = 1/\a.cells.isSome = true/\a.scal = true/\b.wr = true then some (.ok ⟨[x < n,(g x).length = 1],.any,[(i,some ⟨.rows 1 n fun y => bif y == x then [a] else g y,true,b.own⟩)]⟩) else some (nI P Γ o args fr (symH h i))
    | none => some (nI P Γ o args fr (symH h i)))
   | _ => some (nI P Γ o args fr (symH h i)))
  | _,_,_ => some (nI P Γ o args fr (symH h i))
 | _,_ => none
def aopN (P : Program) (Γ : Ctx) (o : Oper) (args : List AV) (fr : Nat) (h : H) : T :=
 match F6 P o args with
 | some (ob,v) => .ok ⟨ob,v,[]⟩
 | none => nI P Γ o args fr h
def symOn (Γ : Ctx) (o : Oper) : Bool :=
 match Γ.sym with
 | [] => false
 | l => match o.dst with | some d => l.any fun n => Nat.beq n d | none => (match o.op with | .store _ (.tmp a) _ => l.any fun n => Nat.beq n a | _ => false)
def aop1 (P : Program) (Γ : Ctx) (o : Oper) (args : List AV) (fr : Nat) (h : H) : T :=
 match symOn Γ o with
 | true => (match aopS P Γ o args fr h with | some t => t | none => aopN P Γ o args fr h)
 | false => aopN P Γ o args fr h
def lC (h : H) : Fz->AV->Option (List Prop × AV × Nat)
 | .by8,.slice i x sz n c nl =>
  match h i with
  | some b => (match b.wr with | true => (yX h (.slice i x sz n c nl)).map fun q => (q.1,.rb true q.2 nl,i) | false => none)
  | none => none
 | .r s,.slice i x sz n c nl =>
  match h i with
  | some b =>
   (match b.wr with
   | true => if sz = s/\0 < s then
     (match b.con with
     | .rows sz2 n2 g => if sz2 = s then some ([x + n<=n2,∀ y,y < n->zT true (g (vZ x y)) = true/\(g (vZ x y)).length<=s],.ros true s n (fun y => g (vZ x y)) nl,i) else none
     | .cells l => if (x + n) * s<=l.length/\zT true l = true then some ([],.ros true s n (fun y => cut s l (vZ x y)) nl,i) else none
     | _ => none) else none
   | false => none)
  | none => none
 | .p,.ptr i x sz c =>
  match h i with
  | some b => (match b.wr,b.con with
   | true,.cells l => if x * sz + c = 0/\zT true l = true then some ([],.rp true l,i) else none
   | _,_ => none)
  | none => none
 | _,_ => none
mutual
def cN (h : H) : Fz->AV->List Prop × AV × List (Nat × Option ABlk)
 | .a ks,.agg cs => (match lD h ks cs with | (ob,l,up) => (ob,.agg l,up))
 | .is c,.bool b => ([b = c],.bool c,[])
 | k,a => (match lC h k a with | some (ob,a',i) => (ob,a',[(i,(h i).map fun b => ⟨b.con,false,0⟩)]) | none => ([],a,[]))
def lD (h : H) : List Fz->List AV->List Prop × List AV × List (Nat × Option ABlk)
 | k::ks,a::as => (match cN h k a with | (ob,a',up) => (match lD (h.ups up) ks as with | (ob2,l,up2) => (ob++ob2,a'::l,up++up2)))
 | _,as => ([],as,[])
end
def p8 (h : H) (ks : List Fz) (r : R) : R :=
 match r.v with
 | .tup vs => (match lD (h.ups r.up) ks vs with | (ob,l,up) => ⟨r.ob++ob,.tup l,r.up++up⟩)
 | v => (match ks with | [k] => (match cN (h.ups r.up) k v with | (ob,a,up) => ⟨r.ob++ob,a,r.up++up⟩) | _ => r)
def T.mapR (f : R->R) : T->T
 | .no => .no
 | .ok r => .ok (f r)
 | .br b x y => .br b (x.mapR f) (y.mapR f)
theorem T.mapR_sel {f : R->R} {r : R} : ∀ {t : T},(t.mapR f).sel = some r->∃ q,t.sel = some q/\r = f q
 | .no,h => by simp [T.mapR,T.sel] at h
 | .ok q,h => by simp only [T.mapR,T.sel,Option.some.injEq] at h; exact ⟨q,rfl,h.symm⟩
 | .br b x y,h => by
  cases b
  ·exact T.mapR_sel (t := y) h
  ·exact T.mapR_sel (t := x) h
def m0v (d : Nat) : List (Nat × List Fz)->Option (List Fz)
 | [] => none
 | (e,ks)::l => match Nat.beq d e with | true => some ks | false => m0v d l
def fzOn (Γ : Ctx) (o : Oper) : Option (List Fz) :=
 match Γ.frz with
 | [] => none
 | l => match o.dst with | some d => m0v d l | none => none
def aop (P : Program) (Γ : Ctx) (o : Oper) (args : List AV) (fr : Nat) (h : H) : T :=
 match fzOn Γ o with
 | some ks => (aop1 P Γ o args fr h).mapR (p8 h ks)
 | none => aop1 P Γ o args fr h
end Go.Sym
namespace Go.Sym
def OpPost (P : Program) (w : World) (Post : Value->World->Prop) : Result Next->Prop
 | .ok (.value x) w' => Post x w'
 | .ok .skip w' => Post undef w'
 | .ok (.enter f args) w' => w' = w/\Calls P f args w (fun e w'' => ∃ x,e = .returned x/\Post x w'')
 | _ => False
def Good (M : Nat->Prop) (w : World) (κ : Ker) (fr : Nat) (v : AV) (h' : H) (x : Value) (w' : World) : Prop :=
 ∃ κ' : Ker,κ.le κ'/\(∀ i,(i < fr \/ fr + xI<=i)->κ'.ρ i = κ.ρ i)/\VRel κ' v x/\HRel M w' κ' h'/\Only M w w'/\∀ a y,κ'.m a = some y->κ.m a = some y \/ M a.block
section
variable {P : Program} {κ : Ker} {w : World} {M : Nat->Prop} {h : H}
def Lies (w : World) (B p : Nat) (vs : List Value) : Prop := ∀ (j : Nat) y,vs[j]? = some y->w.cell? ⟨B,p + j,none⟩ = some y
theorem wD {B p : Nat} : ∀ (q : List AV) (k : Nat),(∀ (j : Nat) a,q[j]? = some a->∃ y,w.cell? ⟨B,p + (k + j),none⟩ = some y/\VRel κ a y)->∃ xs,VRels κ q xs/\Lies w B (p + k) xs
 | [],k,_ => ⟨[],rfl,fun j y h => by simp at h⟩
 | a::q,k,h => by
  obtain ⟨y,hy,hr⟩ := h 0 a rfl
  obtain ⟨xs,h1,h2⟩ := wD q (k + 1) (fun j b hb => by
   have := h (j + 1) b (by simpa using hb)
   rwa [show k + 1 + j = k + (j + 1) by omega])
  refine ⟨y::xs,⟨y,xs,rfl,hr,h1⟩,?_⟩
  intro j z hz
  cases j with
  | zero => simp at hz; subst hz; simpa using hy
  | succ j =>
   have := h2 j z (by simpa using hz)
   rwa [show p + k + (j + 1) = p + (k + 1) + j by omega]
theorem fY {sz n x c j : Nat} {g : Nat->List AV} {a : AV} (hx : x < n) (hc : c + j < sz) (ha : (g x)[c + j]? = some a) : (Con.rows sz n g).at (x * sz + c + j) = some a := by
 simp only [Con.at]
 have h1 : x * sz + c + j = sz * x + (c + j) := by rw [Nat.mul_comm]; omega
 have hpos : 0 < sz := by omega
 have hd : (x * sz + c + j) / sz = x := by rw [h1,Nat.mul_add_div hpos,Nat.div_eq_of_lt hc]; rfl
 have hm : (x * sz + c + j) % sz = c + j := by rw [h1,Nat.mul_add_mod,Nat.mod_eq_of_lt hc]
 have hlt : x * sz + c + j < n * sz := by
  have : (x + 1) * sz<=n * sz := Nat.mul_le_mul_right _ hx
  rw [Nat.add_mul] at this
  omega
 rw [if_pos hlt,hd,hm]
 exact ha
theorem Z7 (l : List (BitVec 8)) : ∀ (k p : Nat),p + k<=l.length->(kR l p k).length = k/\∀ (j : Nat) a,(kR l p k)[j]? = some a->(Con.bytes l).at (p + j) = some a := by
 intro k
 induction k with
 | zero => intro p _; exact ⟨rfl,fun j a h => by simp [kR] at h⟩
 | succ k ih =>
  intro p hp
  obtain ⟨h1,h2⟩ := ih (p + 1) (by omega)
  refine ⟨by simp [kR,h1],fun j a ha => ?_⟩
  cases j with
  | zero =>
   simp [kR] at ha
   subst ha
   have : p < l.length := by omega
   simp [Con.at,List.getD,this]
  | succ j =>
   simp [kR] at ha
   have := h2 j a ha
   rwa [show p + 1 + j = p + (j + 1) by omega] at this
theorem q8 (g : Nat->List AV) : ∀ (k p : Nat) (q : List AV),hX g p k = some q->q.length = k/\∀ (j : Nat) a,q[j]? = some a->g (p + j) = [a] := by
 intro k
 induction k with
 | zero =>
  intro p q h
  simp only [hX,Option.some.injEq] at h
  subst h
  exact ⟨rfl,fun j a h => by simp at h⟩
 | succ k ih =>
  intro p q h
  simp only [hX] at h
  split at h
  ·rename_i a hg
   simp only [Option.map_eq_some_iff] at h
   obtain ⟨q',hq,rfl⟩ := h
   obtain ⟨h1,h2⟩ := ih _ _ hq
   refine ⟨by simp [h1],fun j b hb => ?_⟩
   cases j with
   | zero => simp at hb; subst hb; exact hg
   | succ j =>
    simp at hb
    have := h2 j b hb
    rwa [show p + 1 + j = p + (j + 1) by omega] at this
  ·cases h
theorem aL {b : Con} {x sz c k : Nat} {ob : List Prop} {q : List AV} (hr : b.read x sz c k = some (ob,q)) (ho : zP ob) : q.length = k/\∀ (j : Nat) a,q[j]? = some a->b.at (x * sz + c + j) = some a := by
 unfold Con.read at hr
 split at hr
 ·rename_i l
  dsimp only at hr
  split at hr
  ·rename_i hl
   simp only [Option.some.injEq,Prod.mk.injEq] at hr
   obtain ⟨rfl,rfl⟩ := hr
   refine ⟨hl,fun j a ha => ?_⟩
   rw [List.getElem?_take] at ha
   split at ha
   ·rw [List.getElem?_drop] at ha; exact ha
   ·cases ha
  ·cases hr
 ·rename_i l
  split at hr
  ·simp only [Option.some.injEq,Prod.mk.injEq] at hr
   obtain ⟨rfl,rfl⟩ := hr
   have hlt := zA.1 ho
   refine ⟨rfl,fun j a ha => ?_⟩
   cases j with
   | zero => simp at ha; subst ha; simp [Con.at,List.getD,hlt]
   | succ j => simp at ha
  ·simp only [Option.some.injEq,Prod.mk.injEq] at hr
   obtain ⟨rfl,rfl⟩ := hr
   have hlt := zA.1 ho
   exact Z7 l _ _ hlt
 ·rename_i sz' n g
  split at hr
  ·rename_i hc
   obtain ⟨rfl,hck⟩ := hc
   dsimp only at hr
   split at hr
   ·rename_i hl
    simp only [Option.some.injEq,Prod.mk.injEq] at hr
    obtain ⟨rfl,rfl⟩ := hr
    have hlt := zA.1 ho
    refine ⟨hl,fun j a ha => ?_⟩
    have hj : j < k := by have := (List.getElem?_eq_some_iff.1 ha).1; omega
    rw [List.getElem?_take,if_pos hj,List.getElem?_drop] at ha
    exact fY hlt (by omega) ha
   ·cases hr
  ·split at hr
   ·rename_i h1
    subst h1
    simp only [Option.map_eq_some_iff,Prod.mk.injEq] at hr
    obtain ⟨q',hq,rfl,rfl⟩ := hr
    have hlt := zA.1 ho
    obtain ⟨h2,h3⟩ := q8 g _ _ _ hq
    refine ⟨h2,fun j a ha => ?_⟩
    have hj : j < k := by have := (List.getElem?_eq_some_iff.1 ha).1; omega
    simp only [Con.at,Nat.mul_one,Nat.div_one,Nat.mod_one]
    rw [if_pos (by omega),h3 j a ha]
    rfl
   ·cases hr
 ·cases hr
theorem HRel.cells (hr : HRel M w κ h) {i : Nat} {b : ABlk} {B O : Nat} (hi : h i = some b) (hρ : κ.ρ i = some (B,O)) {off : Nat} {a : AV} (ha : b.con.at off = some a) :
  (∃ x,w.cell? ⟨B,O + off,none⟩ = some x/\VRel κ a x)/\(b.wr = true->w.frozen? ⟨B,O + off,none⟩ = false) := by
 obtain ⟨B1,O1,h1,_,h3⟩ := hr.blk i b hi
 rw [hρ] at h1
 simp only [Option.some.injEq,Prod.mk.injEq] at h1
 obtain ⟨rfl,rfl⟩ := h1
 exact h3 off a ha
theorem nJ (hr : HRel M w κ h) {i : Nat} {b : ABlk} {B O : Nat} (hi : h i = some b) (hρ : κ.ρ i = some (B,O)) {x sz c k : Nat} {ob : List Prop} {q : List AV} (hq : b.con.read x sz c k = some (ob,q)) (ho : zP ob) :
  ∃ xs,VRels κ q xs/\xs.length = k/\Lies w B (O + (x * sz + c)) xs := by
 obtain ⟨hl,ha⟩ := aL hq ho
 obtain ⟨xs,h1,h2⟩ := wD (κ := κ) (w := w) (B := B) (p := O + (x * sz + c)) q 0 (fun j a hj => by
  have := (hr.cells hi hρ (ha j a hj)).1
  rwa [show O + (x * sz + c) + (0 + j) = O + (x * sz + c + j) by omega])
 exact ⟨xs,h1,by rw [<- h1.length,hl],h2⟩
def sets (w : World) (B : Nat) : Nat->List Value->World
 | _,[] => w
 | p,v::vs => sets (w.setCell ⟨B,p,none⟩ v) B (p + 1) vs
theorem sY (B : Nat) : ∀ (vs : List Value) (w : World) (p : Nat),(sets w B p vs).heap.size = w.heap.size
 | [],_,_ => rfl
 | v::vs,w,p => by simp only [sets]; rw [sY B vs]; simp
theorem pU (B : Nat) : ∀ (vs : List Value) (w : World) (p k : Nat),k ≠ B->(sets w B p vs).heap[k]? = w.heap[k]?
 | [],_,_,_,_ => rfl
 | v::vs,w,p,k,hk => by simp only [sets]; rw [pU B vs _ _ _ hk]; exact heap_setCell_other w _ k v hk
theorem bN (B : Nat) : ∀ (vs : List Value) (w : World) (p : Nat),Marked w B->Marked (sets w B p vs) B
 | [],_,_,h => h
 | v::vs,w,p,h => by simp only [sets]; exact bN B vs _ _ (h.setCell _ _)
theorem qE (B : Nat) (a : Addr) : ∀ (vs : List Value) (w : World) (p : Nat),(sets w B p vs).frozen? a = w.frozen? a
 | [],_,_ => rfl
 | v::vs,w,p => by simp only [sets]; rw [qE B a vs]; exact World.frozen?_setCell ..
theorem sZ (B : Nat) (hM : M B) : ∀ (vs : List Value) (w : World) (p : Nat),Only M w (sets w B p vs)
 | [],w,_ => Only.refl _ _
 | v::vs,w,p => by simp only [sets]; exact (Only.setCell w _ v hM).trans (sZ B hM vs _ _)
theorem uY (B : Nat) : ∀ (vs : List Value) (w : World) (p o : Nat),(o < p \/ p + vs.length<=o)->(sets w B p vs).cell? ⟨B,o,none⟩ = w.cell? ⟨B,o,none⟩
 | [],_,_,_,_ => rfl
 | v::vs,w,p,o,ho => by
  simp only [List.length_cons] at ho
  simp only [sets]
  rw [uY B vs _ _ _ (by omega),World.cell?_setCell_other]
  intro he
  simp at he
  omega
theorem sets_cell_in (B : Nat) : ∀ (vs : List Value) (w : World) (p j : Nat) (y : Value),(∀ j,j < vs.length->∃ x,w.cell? ⟨B,p + j,none⟩ = some x)->vs[j]? = some y->(sets w B p vs).cell? ⟨B,p + j,none⟩ = some y
 | [],_,_,_,_,_,h => by simp at h
 | v::vs,w,p,j,y,hex,h => by
  simp only [sets]
  cases j with
  | zero =>
   simp at h
   subst h
   rw [uY B vs _ _ _ (by omega)]
   obtain ⟨x,hx⟩ := hex 0 (by simp)
   exact World.cell?_setCell_same w _ v hx
  | succ j =>
   rw [show p + (j + 1) = p + 1 + j by omega]
   refine sets_cell_in B vs _ _ j y ?_ (by simpa using h)
   intro j' hj'
   obtain ⟨x,hx⟩ := hex (j' + 1) (by simp; omega)
   refine ⟨x,?_⟩
   rw [World.cell?_setCell_other]
   ·rwa [show p + 1 + j' = p + (j' + 1) by omega]
   ·intro he
    simp at he
    omega
theorem run_sets (B : Nat) : ∀ (vs : List Value) (w : World) (p k : Nat),(∀ j,j < vs.length->(∃ x,w.cell? ⟨B,p + k + j,none⟩ = some x)/\w.frozen? ⟨B,p + k + j,none⟩ = false)->(∀ v ∈ vs,v.oneCell' = true) ->
  (storeCells ⟨B,p,none⟩ vs k).run P w = .ok () (sets w B (p + k) vs)
 | [],_,_,_,_,_ => rfl
 | v::vs,w,p,k,hex,h1 => by
  obtain ⟨⟨x,hx⟩,hf⟩ := hex 0 (by simp)
  have hst : (store ((⟨B,p,none⟩ : Addr).add k) v).run P w = .ok () (w.setCell ⟨B,p + k,none⟩ v) := by
   rw [Addr.add_at,run_store P w _ v _ (h1 v (by simp))]
   simp only [Nat.add_zero] at hx hf
   rw [hx]
   simp [hf]
  simp only [storeCells,Sem.run_bind,hst,Result.andThen_ok,sets]
  rw [run_sets B vs _ p (k + 1) ?_ (fun z hz => h1 z (by simp [hz]))]
  ·congr 1
  ·intro j hj
   obtain ⟨⟨y,hy⟩,hf'⟩ := hex (j + 1) (by simp; omega)
   refine ⟨⟨y,?_⟩,?_⟩
   ·rw [World.cell?_setCell_other]
    ·rwa [show p + (k + 1) + j = p + k + (j + 1) by omega]
    ·intro he
     simp at he
     omega
   ·rw [World.frozen?_setCell,show p + (k + 1) + j = p + k + (j + 1) by omega]
    exact hf'
theorem HRel.sets {i : Nat} {b : ABlk} {B O p : Nat} {c : Con} {vs : List Value} (r : HRel M w κ h) (hi : h i = some b) (hw : b.wr = true) (hρ : κ.ρ i = some (B,O)) (hlive : LiveB κ i b)
  (hlen : 0 < b.own->c.len<=κ.cap i * b.own) (hex : ∀ j,j < vs.length->(∃ x,w.cell? ⟨B,O + p + j,none⟩ = some x)/\w.frozen? ⟨B,O + p + j,none⟩ = false)
  (hin : ∀ (j : Nat) a,j < vs.length->c.at (p + j) = some a->∃ y,vs[j]? = some y/\VRel κ a y)
  (hout : ∀ o a,(o < p \/ p + vs.length<=o)->c.at o = some a->b.con.at o = some a) (hnm : c.isMap = false) :
  HRel M (sets w B (O + p) vs) κ (upd h i (some ⟨c,true,b.own⟩))/\Only M w (Go.Sym.sets w B (O + p) vs) := by
 obtain ⟨B1,O1,e1,h2,h3⟩ := r.blk i b hi
 rw [hρ] at e1
 simp only [Option.some.injEq,Prod.mk.injEq] at e1
 obtain ⟨rfl,rfl⟩ := e1
 have hB := h2 hw hlive
 refine ⟨r.wrote hi hw hρ hlive hlen (sY ..) (fun k hk => pU B vs w _ k hk) (bN B vs w _ hB.2.2.1) ?_ ?_ hnm,sZ B hB.1 vs w _⟩
 ·intro off x hx
  refine ⟨?_,qE ..⟩
  by_cases ho : off < O + p \/ O + p + vs.length<=off
  ·exact ⟨x,by rw [uY B vs w _ _ ho]; exact hx⟩
  ·have hj : off - (O + p) < vs.length := by omega
   refine ⟨vs[off - (O + p)],?_⟩
   have := sets_cell_in B vs w (O + p) (off - (O + p)) _ (fun j hj => (hex j hj).1) (List.getElem?_eq_getElem hj)
   rwa [show O + p + (off - (O + p)) = off by omega] at this
 ·intro off a ha
  by_cases ho : off < p \/ p + vs.length<=off
  ·obtain ⟨⟨x,hx,hv⟩,hf⟩ := h3 off a (hout off a ho ha)
   refine ⟨⟨x,?_,hv⟩,?_⟩
   ·rw [uY B vs w _ _ (by omega)]; exact hx
   ·rw [qE]; exact hf hw
  ·have hj : off - p < vs.length := by omega
   obtain ⟨y,hy,hv⟩ := hin (off - p) a hj (by rwa [show p + (off - p) = off by omega])
   refine ⟨⟨y,?_,hv⟩,?_⟩
   ·have := sets_cell_in B vs w (O + p) (off - p) y (fun j hj => (hex j hj).1) hy
    rwa [show O + p + (off - p) = O + off by omega] at this
   ·rw [qE]
    have := (hex (off - p) hj).2
    rwa [show O + p + (off - p) = O + off by omega] at this
theorem VRels.oneCells {as : List AV} {vs : List Value} (hv : VRels κ as vs) (h : as.all AV.scal = true) : ∀ x ∈ vs,x.oneCell' = true := by
 intro x hx
 obtain ⟨i,hi⟩ := List.getElem?_of_mem hx
 have hlt : i < as.length := by rw [hv.length]; exact (List.getElem?_eq_some_iff.1 hi).1
 obtain ⟨y,hy,hr⟩ := hv.get (List.getElem?_eq_getElem hlt)
 rw [hi] at hy
 simp at hy
 subst hy
 exact hr.oneCell (List.all_eq_true.1 h _ (List.getElem_mem hlt))
theorem pV : ∀ {q : List AV} {l : List (BitVec 8)} {vs : List Value},qO q = some l->VRels κ q vs->vs = l.map fun b => Value.int .u8 (b.toNat : Int)
 | [],l,vs,h,hv => by
  simp [qO] at h
  subst h
  simpa [VRels] using hv
 | a::q,l,vs,h,hv => by
  cases a <;> simp only [qO,reduceCtorEq,Option.map_eq_some_iff] at h
  case u8 x =>
   obtain ⟨r,hr,rfl⟩ := h
   obtain ⟨y,ys,rfl,h1,h2⟩ := hv
   simp only [VRel] at h1
   subst h1
   rw [pV hr h2]
   rfl
theorem vR : ∀ {cs : List AV} {l : List (BitVec 8)},qO cs = some l->cs = l.map AV.u8
 | [],l,h => by simp [qO] at h; subst h; rfl
 | a::cs,l,h => by
  cases a <;> simp only [qO,reduceCtorEq,Option.map_eq_some_iff] at h
  case u8 x =>
   obtain ⟨r,hr,rfl⟩ := h
   rw [vR hr]
   rfl
def fK (l : List (BitVec 8)) : List Value := l.map fun b => Value.int .u8 (b.toNat : Int)
theorem aM {l : List (BitVec 8)} {j : Nat} {y : Value} : (fK l)[j]? = some y ↔ ∃ b,l[j]? = some b/\y = .int .u8 b.toNat := by
 simp only [fK,List.getElem?_map,Option.map_eq_some_iff]
 exact ⟨fun ⟨b,h1,h2⟩ => ⟨b,h1,h2.symm⟩,fun ⟨b,h1,h2⟩ => ⟨b,h1,h2.symm⟩⟩
theorem j1x (l : List (BitVec 8)) : VRels κ (l.map AV.u8) (fK l) := by
 induction l with
 | nil => rfl
 | cons b l ih => exact ⟨_,_,rfl,rfl,ih⟩
theorem R4 (l : List (BitVec 8)) : ∀ v ∈ fK l,v.oneCell' = true := by
 intro v hv
 simp only [fK,List.mem_map] at hv
 obtain ⟨b,_,rfl⟩ := hv
 rfl
def Reads (w : World) (v : Value) (sz n : Nat) (vs : List Value) : Prop :=
 vs.length = n * sz/\((∃ s,v = .string s/\sz = 1/\vs = fK (wA s)) \/ (∃ a k,v = .slice a n k/\(n = 0 \/ ∃ B O,a = some ⟨B,O,none⟩/\Lies w B O vs)))
theorem Reads.run_len {v : Value} {sz n : Nat} {vs : List Value} (hr : Reads w v sz n vs) : (Builtin.lenOf v).run P w = .ok n w := by
 obtain ⟨hl,⟨s,rfl,hsz,hvs⟩ | ⟨a,k,rfl,_⟩⟩ := hr
 ·have : s.size = n := by
   rw [hvs,hsz] at hl
   simp only [fK,wA,List.length_map,Array.length_toList,Nat.mul_one] at hl
   exact hl
  simp [Builtin.lenOf,this]
 ·rfl
theorem Z8 (s : ByteArray) : (s.data.map fun b => (Value.int .u8 b.toNat : Value)) = (fK (wA s)).toArray := by
 apply Array.toList_inj.1
 simp [fK,wA]
theorem Reads.run_first {v : Value} {sz n m : Nat} {vs : List Value} (hr : Reads w v sz n vs) (hm : m<=n) : (Builtin.firstCells sz m v).run P w = .ok (vs.take (m * sz)).toArray w := by
 obtain ⟨hl,⟨s,rfl,hsz,hvs⟩ | ⟨a,k,rfl,hloc⟩⟩ := hr
 ·subst hsz
  simp only [Builtin.firstCells,Sem.run_pure,Nat.mul_one]
  have e := Z8 (s.extract 0 m)
  have e2 : wA (s.extract 0 m) = (wA s).take m := by
   simp [wA,ByteArray.data_extract,List.extract_eq_take_drop,List.map_take]
  rw [e2] at e
  rw [hvs]
  congr 1
  rw [e]
  simp [fK,List.map_take]
 ·rcases hloc with h0 | ⟨B,O,rfl,hlie⟩
  ·subst h0
   obtain rfl : m = 0 := by omega
   cases a with
   | none => simp [Builtin.firstCells]
   | some a => simp [Builtin.firstCells,loadCells,loadCellsFrom]
  ·have hlen : (vs.take (m * sz)).length = m * sz := by
    rw [List.length_take,hl]
    exact Nat.min_eq_left (Nat.mul_le_mul_right _ hm)
   have := wC (P := P) (w := w) (B := B) (O := O) (vs := vs.take (m * sz)) (by
    intro j y hy
    rw [Addr.add_at]
    rw [List.getElem?_take] at hy
    split at hy
    ·exact hlie j y hy
    ·cases hy)
   rw [hlen] at this
   exact this
theorem Reads.drew {v : Value} {sz n : Nat} {vs : List Value} (hr : Reads w v sz n vs) : Reads w.drew v sz n vs := hr
theorem qF (hr : HRel M w κ h) {i x sz n : Nat} {c : Cap} {nl : NL} {v : Value} (hv : VRel κ (.slice i x sz n c nl) v) {b : ABlk} (hi : h i = some b) {q : List AV} (hq : q.length = n * sz)
  (ha : ∀ (j : Nat) a,q[j]? = some a->b.con.at (x * sz + j) = some a) : ∃ vs,VRels κ q vs/\Reads w v sz n vs := by
 obtain ⟨a,k,rfl,hnk,_,_,hloc⟩ := hv
 obtain ⟨⟨B,O⟩,hρ⟩ := hr.named hi
 obtain ⟨xs,h1,h2⟩ := wD (κ := κ) (w := w) (B := B) (p := O + x * sz) q 0 (fun j a hj => by
  have := (hr.cells hi hρ (ha j a hj)).1
  rwa [show O + x * sz + (0 + j) = O + (x * sz + j) by omega])
 refine ⟨xs,h1,by rw [<- h1.length,hq],.inr ⟨a,k,rfl,?_⟩⟩
 rcases hloc with ⟨B',O',e1,rfl⟩ | ⟨h0,_⟩
 ·rw [hρ] at e1
  simp only [Option.some.injEq,Prod.mk.injEq] at e1
  obtain ⟨rfl,rfl⟩ := e1
  exact .inr ⟨B,_,rfl,h2⟩
 ·exact .inl h0
theorem uF (hr : HRel M w κ h) {a : AV} {v : Value} {ob : List Prop} {l : List (BitVec 8)} (hs : yX h a = some (ob,l)) (ho : zP ob) (hv : VRel κ a v) : Reads w v 1 l.length (fK l) := by
 have hmem : ∀ p a x,κ.mem p a = some x->w.cell? a = some x := by
  intro p a x hx
  cases p
  ·exact hr.mem a x hx
  ·exact hr.mem a x (κ.sub a x hx)
 unfold yX at hs
 split at hs
 ·rename_i p l0 nl
  simp only [Option.some.injEq,Prod.mk.injEq] at hs
  obtain ⟨rfl,rfl⟩ := hs
  obtain ⟨ad,k,rfl,hk,_,hloc⟩ := hv
  refine ⟨by simp [fK],.inr ⟨ad,k,rfl,?_⟩⟩
  rcases hloc with rfl | ⟨B,O,rfl,hc⟩
  ·exact .inl rfl
  ·refine .inr ⟨B,O,rfl,fun j y hy => ?_⟩
   obtain ⟨b,hb,rfl⟩ := aM.1 hy
   exact hmem p _ _ (hc j b hb)
 ·simp only [Option.some.injEq,Prod.mk.injEq] at hs
  obtain ⟨rfl,rfl⟩ := hs
  simp only [VRel] at hv
  subst hv
  exact ⟨by simp [fK],.inl ⟨_,rfl,rfl,by rw [uD]⟩⟩
 ·simp only [Option.some.injEq,Prod.mk.injEq] at hs
  obtain ⟨rfl,rfl⟩ := hs
  simp only [VRel] at hv
  exact ⟨rfl,.inr ⟨none,0,hv,.inl rfl⟩⟩
 ·rename_i i x sz n c nl
  split at hs
  ·simp only [Option.some.injEq,Prod.mk.injEq] at hs
   obtain ⟨rfl,rfl⟩ := hs
   have h0 := zA.1 ho
   obtain ⟨ad,k,rfl,_⟩ := hv
   exact ⟨rfl,.inr ⟨ad,k,by rw [h0]; rfl,.inl rfl⟩⟩
  ·simp only [Option.bind_eq_some_iff] at hs
   obtain ⟨b,hi,hs⟩ := hs
   split at hs
   ·rename_i l0 hcon
    have gen : ∀ (t : List (BitVec 8)),t.length = n->(∀ (j : Nat) y,t[j]? = some y->l0[x + j]? = some y)->Reads w v 1 t.length (fK t) := by
     intro t hlen hget
     obtain ⟨vs,h1,h2⟩ := qF hr hv hi (q := t.map AV.u8) (by simp; omega) (by
      intro j a ha
      simp only [List.getElem?_map,Option.map_eq_some_iff] at ha
      obtain ⟨y,hy,rfl⟩ := ha
      rw [hcon,Nat.mul_one]
      simp only [Con.at,Option.map_eq_some_iff]
      exact ⟨y,hget j y hy,rfl⟩)
     have e2 : vs = fK t := by
      have h4 : qO (t.map AV.u8) = some t := by
       clear h1 h2 hlen hget
       induction t with
       | nil => rfl
       | cons b t ih => simp [qO,ih]
      exact pV h4 h1
     rw [hlen,<- e2]
     exact h2
    split at hs
    ·simp only [Option.some.injEq,Prod.mk.injEq] at hs
     obtain ⟨rfl,rfl⟩ := hs
     have hn := zA.1 ho
     have hx : x = 0 := by obtain ⟨ad,k,_,_,_,⟨hx,_⟩,_⟩ := hv; exact hx
     subst hx
     exact gen l0 hn.symm (fun j y hy => by rwa [Nat.zero_add])
    ·simp only [Option.some.injEq,Prod.mk.injEq] at hs
     obtain ⟨rfl,rfl⟩ := hs
     have hle := zA.1 ho
     rw [kI]
     refine gen _ (by simp; omega) (fun j y hy => ?_)
     rw [List.getElem?_take] at hy
     split at hy
     ·rwa [List.getElem?_drop] at hy
     ·cases hy
   ·rename_i l0 hcon
    split at hs
    ·rename_i hlen
     simp only [Option.map_eq_some_iff,Prod.mk.injEq] at hs
     obtain ⟨q,hq,rfl,rfl⟩ := hs
     obtain ⟨vs,h1,h2⟩ := qF hr hv hi (q := (l0.drop x).take n) (by rw [hlen]; omega) (by
      intro j a ha
      rw [List.getElem?_take] at ha
      split at ha
      ·rw [List.getElem?_drop] at ha
       rw [hcon,Nat.mul_one]
       exact ha
      ·cases ha)
     have e2 := pV hq h1
     have e3 : q.length = n := by rw [<- hlen,vR hq]; simp
     rw [e3]
     rw [show fK q = vs from e2.symm]
     exact h2
    ·cases hs
   ·cases hs
  ·cases hs
 ·cases hs
end
end Go.Sym
namespace Go.Sym
section
variable {P : Program} {κ : Ker} {w : World} {M : Nat->Prop} {h : H}
theorem cO {e : TypeId} (h : qT P e = true) : P.underlying e = some (.int .u8) := by
 unfold qT at h
 split at h
 ·assumption
 ·cases h
structure SrcR (κ : Ker) (sz : Nat) (s : Src) (vs : List Value) : Prop where
 rel : ∀ (off : Nat) a,(s.con sz).at off = some a->∃ y,vs[off]? = some y/\VRel κ a y
 one : ∀ y ∈ vs,y.oneCell' = true
 len : vs.length = s.cnt * sz
 clen : (s.con sz).len = s.cnt * sz
theorem pW {sz n : Nat} {g : Nat->List AV} {vs : List Value} (hok : ∀ y,y < n->pR sz (g y) = true) (hrow : ∀ y,y < n->∃ xs : List Value,VRels κ (g y) xs/\∀ (c : Nat) x,xs[c]? = some x->vs[y * sz + c]? = some x) (hl : vs.length = n * sz) :
  SrcR κ sz (.rows n g) vs := by
 have hlen : ∀ y,y < n->(g y).length = sz := fun y hy => by
  have := hok y hy
  simp only [pR,Bool.and_eq_true,beq_iff_eq] at this
  exact this.1
 refine ⟨?_,?_,hl,rfl⟩
 ·intro off a ha
  simp only [Src.con,Con.at] at ha
  split at ha
  ·rename_i hlt
   have hpos : 0 < sz := by rcases Nat.eq_zero_or_pos sz with h | h; (subst h; simp at hlt); exact h
   have hy : off / sz < n := (Nat.div_lt_iff_lt_mul hpos).2 hlt
   obtain ⟨xs,h1,h2⟩ := hrow _ hy
   obtain ⟨x,hx,hv⟩ := h1.get ha
   refine ⟨x,?_,hv⟩
   have := h2 _ x hx
   rwa [Nat.div_add_mod' off sz] at this
  ·cases ha
 ·intro y hy
  obtain ⟨i,hi⟩ := List.getElem?_of_mem hy
  have hlt : i < n * sz := by rw [<- hl]; exact (List.getElem?_eq_some_iff.1 hi).1
  have hpos : 0 < sz := by rcases Nat.eq_zero_or_pos sz with h | h; (subst h; simp at hlt); exact h
  have hr : i / sz < n := (Nat.div_lt_iff_lt_mul hpos).2 hlt
  obtain ⟨xs,h1,h2⟩ := hrow _ hr
  have hs := hok _ hr
  simp only [pR,Bool.and_eq_true,beq_iff_eq] at hs
  have hm : i % sz < xs.length := by rw [<- h1.length,hs.1]; exact Nat.mod_lt _ hpos
  have := h2 (i % sz) _ (List.getElem?_eq_getElem hm)
  rw [Nat.div_add_mod' i sz,hi] at this
  simp only [Option.some.injEq] at this
  rw [this]
  exact h1.oneCells hs.2 _ (List.getElem_mem hm)
theorem q9 (hr : HRel M w κ h) {sz : Nat} {a : AV} {v : Value} {ob : List Prop} {n : Nat} {g : Nat->List AV} (hs : lA h sz a = some (ob,(n,g))) (ho : zP ob) (hok : ∀ y,y < n->pR sz (g y) = true) (hv : VRel κ a v) :
  ∃ vs,Reads w v sz n vs/\SrcR κ sz (.rows n g) vs := by
 have hlen : ∀ y,y < n->(g y).length = sz := fun y hy => by
  have := hok y hy
  simp only [pR,Bool.and_eq_true,beq_iff_eq] at this
  exact this.1
 have empty : ∀ {ad : Option Addr} {k : Nat},n = 0->v = .slice ad n k->∃ vs,Reads w v sz n vs/\SrcR κ sz (.rows n g) vs := by
  intro ad k h0 he
  subst h0
  refine ⟨[],⟨by simp,.inr ⟨ad,k,he,.inl rfl⟩⟩,?_⟩
  exact pW hok (fun y hy => by omega) (by simp)
 -- rows in memory
 have mk : ∀ {B O k : Nat},v = .slice (some ⟨B,O,none⟩) n k->(∀ j,j < n->∃ xs : List Value,VRels κ (g j) xs/\∀ (c : Nat) x,xs[c]? = some x->w.cell? ⟨B,O + (j * sz + c),none⟩ = some x) ->
   ∃ vs,Reads w v sz n vs/\SrcR κ sz (.rows n g) vs := by
  intro B O k he hrow
  have hcell : ∀ i,i < n * sz->∃ x,w.cell? ⟨B,O + i,none⟩ = some x := by
   intro i hi
   have hpos : 0 < sz := by rcases Nat.eq_zero_or_pos sz with h | h; (subst h; simp at hi); exact h
   have hy : i / sz < n := (Nat.div_lt_iff_lt_mul hpos).2 hi
   obtain ⟨xs,h1,h2⟩ := hrow _ hy
   have hm : i % sz < xs.length := by rw [<- h1.length,hlen _ hy]; exact Nat.mod_lt _ hpos
   have := h2 (i % sz) _ (List.getElem?_eq_getElem hm)
   rw [Nat.div_add_mod' i sz] at this
   exact ⟨_,this⟩
  obtain ⟨vs,h1,h2⟩ := wD (κ := κ) (w := w) (B := B) (p := O) (List.replicate (n * sz) .any) 0 (fun j a hj => by
   have hlt : j < n * sz := by have := (List.getElem?_eq_some_iff.1 hj).1; simpa using this
   obtain ⟨x,hx⟩ := hcell j hlt
   rw [List.getElem?_replicate,if_pos hlt] at hj
   simp only [Option.some.injEq] at hj
   subst hj
   exact ⟨x,by rwa [Nat.zero_add],trivial⟩)
  have hl : vs.length = n * sz := by rw [<- h1.length]; simp
  refine ⟨vs,⟨hl,.inr ⟨_,k,he,.inr ⟨B,O,rfl,h2⟩⟩⟩,pW hok ?_ hl⟩
  intro y hy
  obtain ⟨xs,k1,k2⟩ := hrow y hy
  refine ⟨xs,k1,fun c x hc => ?_⟩
  have hcl : c < sz := by
   have := (List.getElem?_eq_some_iff.1 hc).1
   rw [<- k1.length,hlen y hy] at this
   exact this
  have hlt : y * sz + c < vs.length := by
   rw [hl]
   have : (y + 1) * sz<=n * sz := Nat.mul_le_mul_right _ hy
   rw [Nat.add_mul] at this
   omega
  have h3 := h2 _ _ (List.getElem?_eq_getElem hlt)
  rw [Nat.add_zero,k2 c x hc] at h3
  simp only [Option.some.injEq] at h3
  rw [List.getElem?_eq_getElem hlt,h3]
 have hmem : ∀ p a x,κ.mem p a = some x->w.cell? a = some x := by
  intro p a x hx
  cases p
  ·exact hr.mem a x hx
  ·exact hr.mem a x (κ.sub a x hx)
 unfold lA at hs
 split at hs
 ·rename_i p sz' n' g' nl
  split at hs
  ·rename_i hsz
   subst hsz
   simp only [Option.some.injEq,Prod.mk.injEq] at hs
   obtain ⟨rfl,rfl,rfl⟩ := hs
   obtain ⟨ad,k,hv,hk,_,hloc⟩ := hv
   rcases hloc with h0 | ⟨B,O,rfl,hc⟩
   ·exact empty h0 hv
   ·refine mk hv fun j hj => ?_
    obtain ⟨_,xs,h1,h2⟩ := hc j hj
    exact ⟨xs,h1,fun c x hx => hmem p _ _ (h2 c x hx)⟩
  ·cases hs
 ·simp only [Option.some.injEq,Prod.mk.injEq] at hs
  obtain ⟨rfl,rfl,rfl⟩ := hs
  simp only [VRel] at hv
  exact empty rfl hv
 ·rename_i i x sz' n' c nl
  split at hs
  ·simp only [Option.some.injEq,Prod.mk.injEq] at hs
   obtain ⟨rfl,rfl,rfl⟩ := hs
   have h0 := zA.1 ho
   obtain ⟨ad,k,hv,_⟩ := hv
   subst h0
   exact empty rfl hv
  ·split at hs
   ·rename_i hsz
    subst hsz
    simp only [Option.bind_eq_some_iff] at hs
    obtain ⟨b,hi,hs⟩ := hs
    split at hs
    ·rename_i sz2 n2 g2 hcon
     split at hs
     ·rename_i hsz2
      subst hsz2
      simp only [Option.some.injEq,Prod.mk.injEq] at hs
      obtain ⟨rfl,rfl,rfl⟩ := hs
      have hle := zA.1 ho
      obtain ⟨ad,k,hv,hnk,_,_,hloc⟩ := hv
      obtain ⟨⟨B,O⟩,hρ⟩ := hr.named hi
      rcases hloc with ⟨B',O',e1,rfl⟩ | ⟨h0,_⟩
      ·rw [hρ] at e1
       simp only [Option.some.injEq,Prod.mk.injEq] at e1
       obtain ⟨rfl,rfl⟩ := e1
       refine mk hv fun j hj => ?_
       have hlj := hlen j hj
       simp only [uE] at hlj ⊢
       obtain ⟨xs,h1,h2⟩ := wD (κ := κ) (w := w) (B := B) (p := O + ((x + j) * sz2)) (g2 (x + j)) 0 (fun c a hc => by
        have hcl : c < sz2 := by rw [<- hlj]; exact (List.getElem?_eq_some_iff.1 hc).1
        have := (hr.cells hi hρ (off := (x + j) * sz2 + 0 + c) (a := a) (by rw [hcon]; exact fY (by omega) (by omega) (by simpa using hc))).1
        rwa [show O + (x + j) * sz2 + (0 + c) = O + ((x + j) * sz2 + 0 + c) by omega])
       refine ⟨xs,h1,fun c y hy => ?_⟩
       have := h2 c y hy
       rw [Nat.add_mul] at this
       rwa [show O + (x * sz2 + j * sz2) + 0 + c = O + x * sz2 + (j * sz2 + c) by omega] at this
      ·exact empty h0 hv
     ·cases hs
    ·cases hs
   ·cases hs
 ·cases hs
theorem lF (hr : HRel M w κ h) {sz : Nat} {a : AV} {v : Value} {n : Nat} {l : List AV} (hs : pQ h sz a = some (n,l)) (hsc : l.all AV.scal = true) (hv : VRel κ a v) :
  ∃ vs,Reads w v sz n vs/\SrcR κ sz (.cells n l) vs := by
 unfold pQ at hs
 split at hs
 ·rename_i i x sz' n' c nl
  split at hs
  ·rename_i hsz
   subst hsz
   simp only [Option.bind_eq_some_iff] at hs
   obtain ⟨b,hi,hs⟩ := hs
   split at hs
   ·rename_i l0 hcon
    split at hs
    ·rename_i hlen
     simp only [Option.some.injEq,Prod.mk.injEq] at hs
     obtain ⟨rfl,rfl⟩ := hs
     obtain ⟨vs,h1,h2⟩ := qF hr hv hi (q := (l0.drop (x * sz')).take (n' * sz')) hlen (by
      intro j a ha
      rw [List.getElem?_take] at ha
      split at ha
      ·rw [List.getElem?_drop] at ha
       rw [hcon]
       exact ha
      ·cases ha)
     exact ⟨vs,h2,fun off a ha => h1.get ha,h1.oneCells hsc,by rw [h2.1]; rfl,hlen⟩
    ·cases hs
   ·cases hs
  ·cases hs
 ·cases hs
theorem G7 (hr : HRel M w κ h) {sz : Nat} {a : AV} {v : Value} {ob : List Prop} {n : Nat} {s : List (BitVec 8)} (hs : G6 h sz a = some (ob,(n,s))) (ho : zP ob) (hv : VRel κ a v) :
  ∃ vs,Reads w v sz n vs/\SrcR κ sz (.raw n s) vs := by
 unfold G6 at hs
 split at hs
 ·rename_i i x sz' n' c nl
  split at hs
  ·rename_i hsz
   subst hsz
   simp only [Option.bind_eq_some_iff] at hs
   obtain ⟨b,hi,hs⟩ := hs
   split at hs
   ·rename_i l0 hcon
    simp only [Option.some.injEq,Prod.mk.injEq] at hs
    obtain ⟨rfl,rfl,rfl⟩ := hs
    have hlen := zA.1 ho
    have hl : (((mN (x * sz') l0).take (n' * sz')).map AV.u8).length = n' * sz' := by
     rw [kI,List.length_map,List.length_take,List.length_drop]; omega
    obtain ⟨vs,h1,h2⟩ := qF hr hv hi (q := ((mN (x * sz') l0).take (n' * sz')).map AV.u8) hl (by
     intro j a ha
     rw [List.getElem?_map,kI,List.getElem?_take] at ha
     split at ha
     ·rw [List.getElem?_drop] at ha
      rw [hcon]
      exact ha
     ·cases ha)
    refine ⟨vs,h2,fun off a ha => ?_,h1.oneCells (List.all_eq_true.2 fun a ha => by obtain ⟨b,_,rfl⟩ := List.mem_map.1 ha; rfl),by rw [h2.1]; rfl,by
     simp only [Src.con,Con.len,Src.cnt]; rw [<- hl]; simp⟩
    simp only [Src.con,Con.at] at ha
    exact h1.get (by rw [List.getElem?_map]; exact ha)
   ·cases hs
  ·cases hs
 ·cases hs
theorem rD {l : List (BitVec 8)} : SrcR κ 1 (.bytes l) (fK l) := by
 refine ⟨?_,R4 l,by simp [fK,Src.cnt],by simp [Src.con,Con.len,Src.cnt]⟩
 intro off a ha
 simp only [Src.con,Con.at,Option.map_eq_some_iff] at ha
 obtain ⟨b,hb,rfl⟩ := ha
 exact ⟨_,aM.2 ⟨b,hb,rfl⟩,rfl⟩
theorem nW {z : List AV} {zv : Array Value} (hz : VRels κ z zv.toList) (n : Nat) : VRels κ (xH z n) ((Array.range n).map (zv[· % zv.size]!)).toList := by
 have hl : z.length = zv.size := by simpa using hz.length
 apply VRels.of_get
 ·simp [xH]
 ·intro i a x ha hx
  simp only [xH,List.getElem?_map] at ha
  have hlt : i < n := by
   rcases Nat.lt_or_ge i n with h | h
   ·exact h
   ·rw [List.getElem?_eq_none (by simpa using h)] at ha; simp at ha
  rw [List.getElem?_range hlt] at ha
  simp only [Option.map_some,Option.some.injEq] at ha
  have hx' : x = zv[i % zv.size]! := by
   simp [hlt] at hx
   exact hx.symm
  subst hx' ha
  rcases Nat.eq_zero_or_pos zv.size with h0 | hpos
  ·have : z = [] := List.eq_nil_of_length_eq_zero (by omega)
   subst this
   simp [VRel]
  ·have hi : i % zv.size < z.length := by rw [hl]; exact Nat.mod_lt _ hpos
   obtain ⟨y,hy,hr⟩ := hz.get (List.getElem?_eq_getElem hi)
   have e1 : z.getD (i % z.length) .any = z[i % zv.size] := by
    rw [List.getD_eq_getElem?_getD,hl,List.getElem?_eq_getElem hi]; rfl
   have e2 : zv[i % zv.size]! = y := by
    have : zv[i % zv.size]? = some y := by simpa using hy
    simp [getElem!_def,this]
   rw [e1,e2]
   exact hr
theorem uG {z : List AV} {zv : Array Value} (hz : VRels κ z zv.toList) (n : Nat) : VRels κ (xH z (n * z.length)) (Builtin.zeroCells zv n).toList := by
 have hl : z.length = zv.size := by simpa using hz.length
 rw [hl]
 exact nW hz (n * zv.size)
theorem bO {e : TypeId} {z : List AV} {zv : Value} (hb : dF P e = true) (hz : yN P e = some z) (hr : VRels κ z zv.cells.toList) (n : Nat) : (Builtin.zeroCells zv.cells n).toList = fK (List.replicate n 0) := by
 simp only [dF,Bool.and_eq_true,hz] at hb
 obtain ⟨_,hb⟩ := hb
 split at hb
 ·rename_i b hzb
  simp only [Option.some.injEq] at hzb
  subst hzb
  simp only [beq_iff_eq] at hb
  subst hb
  obtain ⟨x,hx,hv⟩ := hr.one
  simp only [VRel] at hv
  subst hv
  have hc : zv.cells = #[.int .u8 0] := by apply Array.toList_inj.1; simpa using hx
  rw [hc]
  apply List.ext_getElem?
  intro i
  simp only [Builtin.zeroCells,fK,List.size_toArray,List.length_cons,List.length_nil,Nat.mul_one,Array.toList_map,Array.toList_range,List.getElem?_map,List.getElem?_replicate]
  by_cases hi : i < n
  ·rw [List.getElem?_range (by simpa using hi),if_pos hi]
   simp [Nat.mod_one]
  ·rw [if_neg hi,List.getElem?_eq_none (by simp; omega)]
   rfl
 ·cases hb
def cP (P : Program) (w : World) (ie : TypeInfo) (zv : Value) (t2 : TypeId) (y : Value) (m : Nat) (vs : List Value) : Prop :=
 (∃ d,P.underlying t2 = some d/\((∃ e2,d = .slice e2) \/ d = .string)/\(Builtin.lenOf y).run P w = .ok m w/\(Builtin.firstCells ie.size m y).run P w = .ok vs.toArray w/\(Builtin.firstCells ie.size m y).run P w.drew = .ok vs.toArray w.drew) \/
 (∃ k0,P.underlying t2 = some (.int k0)/\y = .int .i64 (m : Int)/\m < 9223372036854775808/\vs = (Builtin.zeroCells zv.cells m).toList/\(m * ie.size = 0->vs = []))
theorem nK (hr : HRel M w κ h) {e : TypeId} {ie : TypeInfo} (hi : P.info? e = some ie) {isInt : Bool} {t2 : TypeId} {d : TypeDesc} (hd : P.underlying t2 = some d)
  (hdd : (isInt = false/\((∃ e2,d = .slice e2) \/ d = .string)) \/ (isInt = true/\∃ k0,d = .int k0)) {x : AV} {y : Value} (hxy : VRel κ x y) {z : List AV} {zv : Value} (hz : yN P e = some z) (hzv : ie.zero = some zv) (hzl : z.length = ie.size)
  {ob : List Prop} {s : Src} (hs : o9 P h e ie.size isInt x = some (ob,s)) (ho : zP ob) (hok : s.ok P e ie.size = true) :
  ∃ vs,cP P w ie zv t2 y s.cnt vs/\SrcR κ ie.size s vs := by
 unfold o9 at hs
 rcases hdd with ⟨rfl,hdd⟩ | ⟨rfl,k0,rfl⟩
 ·simp only [Bool.false_eq_true,if_false] at hs
  have fin : ∀ {n : Nat} {vs : List Value},Reads w y ie.size n vs->cP P w ie zv t2 y n vs := by
   intro n vs hrd
   refine .inl ⟨d,hd,hdd,hrd.run_len,?_,?_⟩
   ·have := hrd.run_first (P := P) (Nat.le_refl n)
    rwa [<- hrd.1,List.take_length] at this
   ·have := hrd.drew.run_first (P := P) (Nat.le_refl n)
    rwa [<- hrd.1,List.take_length] at this
  split at hs
  ·simp only [Option.map_eq_some_iff,Prod.mk.injEq] at hs
   obtain ⟨⟨ob',l⟩,hb,rfl,rfl⟩ := hs
   simp only [Src.ok,Bool.and_eq_true,beq_iff_eq] at hok
   have hrd := uF hr hb ho hxy
   rw [<- hok.2] at hrd
   exact ⟨_,fin hrd,by rw [hok.2]; exact rD⟩
  ·split at hs
   ·rename_i m l hc
    simp only [Option.some.injEq,Prod.mk.injEq] at hs
    obtain ⟨rfl,rfl⟩ := hs
    simp only [Src.ok,Bool.and_eq_true] at hok
    obtain ⟨vs,h1,h2⟩ := lF hr hc hok.2 hxy
    exact ⟨vs,fin h1,h2⟩
   split at hs
   ·rename_i p hp
    obtain ⟨ob',n,l⟩ := p
    simp only [Option.some.injEq,Prod.mk.injEq] at hs
    obtain ⟨rfl,rfl⟩ := hs
    obtain ⟨vs,h1,h2⟩ := G7 hr hp ho hxy
    exact ⟨vs,fin h1,h2⟩
   ·simp only [Option.map_eq_some_iff,Prod.mk.injEq] at hs
    obtain ⟨⟨ob',n,g⟩,hb,rfl,rfl⟩ := hs
    obtain ⟨ho1,ho2⟩ := zE.1 ho
    obtain ⟨vs,h1,h2⟩ := q9 hr hb ho1 (zA.1 ho2) hxy
    exact ⟨vs,fin h1,h2⟩
 ·simp only [if_true] at hs
  split at hs
  ·rename_i k
   simp only [VRel] at hxy
   obtain ⟨i',zv',hi',hzv',hzr⟩ := xA (κ := κ) hz
   rw [hi] at hi'
   simp only [Option.some.injEq] at hi'
   subst hi'
   rw [hzv] at hzv'
   simp only [Option.some.injEq] at hzv'
   subst hzv'
   have hsz : (Builtin.zeroCells zv.cells k.toNat).toList.length = k.toNat * ie.size := by
    have h5 := (uG (κ := κ) hzr k.toNat).length
    simp only [xH,List.length_map,List.length_range] at h5
    rw [<- h5,hzl]
   have arg : ∀ {ob' : List Prop},zP [0<=k,k < 9223372036854775808]->cP P w ie zv t2 y k.toNat (Builtin.zeroCells zv.cells k.toNat).toList := by
    intro _ hob
    obtain ⟨h1,h2⟩ := zJ.1 hob
    have h2 := zA.1 h2
    refine .inr ⟨k0,hd,by rw [hxy]; congr 1; omega,by omega,rfl,fun h0 => ?_⟩
    exact List.eq_nil_of_length_eq_zero (by rw [hsz,h0])
   split at hs
   ·rename_i hby
    simp only [Option.some.injEq,Prod.mk.injEq] at hs
    obtain ⟨rfl,rfl⟩ := hs
    simp only [Src.ok,Bool.and_eq_true,beq_iff_eq] at hok
    refine ⟨_,by simpa [Src.cnt] using arg (ob' := []) ho,?_⟩
    have := bO hby hz hzr k.toNat
    rw [this,hok.2]
    exact rD
   ·simp only [Option.bind_eq_some_iff] at hs
    obtain ⟨z',hz',hs⟩ := hs
    rw [hz] at hz'
    simp only [Option.some.injEq] at hz'
    subst hz'
    split at hs
    ·rename_i hrow
     simp only [Option.some.injEq,Prod.mk.injEq] at hs
     obtain ⟨rfl,rfl⟩ := hs
     refine ⟨_,arg (ob' := []) ho,pW (fun _ _ => hrow) ?_ hsz⟩
     intro y hy
     refine ⟨zv.cells.toList,hzr,fun c x hc => ?_⟩
     have hcl : c < ie.size := by
      have := (List.getElem?_eq_some_iff.1 hc).1
      rw [<- hzr.length,hzl] at this
      exact this
     have hzc : zv.cells.size = ie.size := by rw [<- hzl,hzr.length]; simp
     have hlt : y * ie.size + c < k.toNat * ie.size := by
      have : (y + 1) * ie.size<=k.toNat * ie.size := Nat.mul_le_mul_right _ hy
      rw [Nat.add_mul] at this
      omega
     have hx : zv.cells[c]? = some x := by simpa using hc
     simp only [Builtin.zeroCells,Array.toList_map,Array.toList_range,hzc,List.getElem?_map,List.getElem?_range hlt,Option.map_some,Option.some.injEq]
     rw [Nat.mul_comm y,Nat.mul_add_mod,Nat.mod_eq_of_lt hcl,getElem!_def,hx]
    ·cases hs
  ·cases hs
end
end Go.Sym
