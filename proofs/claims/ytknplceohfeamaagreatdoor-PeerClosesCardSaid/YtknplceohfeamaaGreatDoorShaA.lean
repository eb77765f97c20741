/- What SHA-256 is, as a function of lists of bytes, and that the program does it: blocks. -/
import Derived.Test.YtknplceohfeamaaGreatDoorSymC
import Derived.OpenShut
import Derived.Test.YtknplceohfeamaaGreatDoorProg
import Derived.KernelRfl
set_option linter.unusedVariables false
set_option linter.unusedSimpArgs false
namespace Go.Spec
def zY {α : Type} (F : Nat->α) : Nat->Nat->List α->List α
 | _,0,r => r
 | s,n + 1,r => F s::zY F (s + 1) n r
def rg {α : Type} (n : Nat) (F : Nat->α) : List α := zY F 0 n []
def zG (p : Nat->Prop) : Nat->Nat->Prop->Prop
 | _,0,r => r
 | s,n + 1,r => p s/\zG p (s + 1) n r
def xM (p : Nat->Bool) : Nat->Nat->Bool->Bool
 | _,0,r => r
 | s,n + 1,r => p s && xM p (s + 1) n r
theorem wQ {p : Nat->Prop} {r : Prop} : ∀ (n s : Nat),(∀ j,s<=j->j < s + n->p j)->r->zG p s n r
 | 0,_,_,hr => hr
 | n + 1,s,h,hr => ⟨h s (Nat.le_refl _) (by omega),wQ n (s + 1) (fun j h1 h2 => h j (by omega) (by omega)) hr⟩
theorem iR {s n : Nat} {r : Prop} : zG (fun _ => True) s n r = r := by
 induction n generalizing s with
 | zero => rfl
 | succ n ih => simp only [zG,ih,true_and]
theorem eV {p : Nat->Bool} {r : Bool} : ∀ (n s : Nat),xM p s n r = true ↔ (∀ j,s<=j->j < s + n->p j = true)/\r = true
 | 0,s => by simp only [xM]; exact ⟨fun h => ⟨fun j h1 h2 => by omega,h⟩,fun h => h.2⟩
 | n + 1,s => by
  simp only [xM,Bool.and_eq_true,eV n (s + 1)]
  constructor
  ·rintro ⟨h1,h2,h3⟩
   refine ⟨fun j hj hk => ?_,h3⟩
   rcases Nat.eq_or_lt_of_le hj with e | e
   ·exact e ▸ h1
   ·exact h2 j e (by omega)
  ·rintro ⟨h1,h2⟩
   exact ⟨h1 s (Nat.le_refl _) (by omega),fun j hj hk => h1 j (by omega) (by omega),h2⟩
theorem iS {α : Type} (F : Nat->α) : ∀ (n s : Nat) (r : List α),zY F s n r = ((List.range n).map fun i => F (s + i))++r
 | 0,_,_ => rfl
 | n + 1,s,r => by
  rw [zY,iS F n (s + 1) r,List.range_succ_eq_map,List.map_cons,List.map_map,List.cons_append]
  congr 2
  apply List.map_congr_left
  intro i _
  simp only [Function.comp_apply]
  congr 1
  omega
theorem g0x {α : Type} (n : Nat) (F : Nat->α) : rg n F = (List.range n).map F := by
 unfold rg
 rw [iS,List.append_nil]
 simp
theorem wM {α : Type} (n : Nat) (F : Nat->α) : (rg n F).length = n := by rw [g0x]; simp
theorem gP {α : Type} (n : Nat) (F : Nat->α) (i : Nat) (d : α) (h : i < n) : (rg n F).getD i d = F i := by
 rw [g0x]
 simp [List.getD,h]
theorem nR {α : Type} {n : Nat} {l : List α} (d : α) (h : l.length = n) : rg n (fun i => l.getD i d) = l := by
 rw [g0x]
 apply List.ext_getElem
 ·simp [h]
 ·intro i h1 h2
  simp [List.getD,h2]
end Go.Spec
namespace Go.Sym
open Go.ChangeShapes Go.WideShapes
inductive Sh where
 | i (k : IntKind)
 | b
 | s
 | y
def Sh.ok : Sh->AV->Prop
 | .i .u8,a => ∃ x,a = .u8 x
 | .i .u16,a => ∃ x,a = .u16 x
 | .i .u32,a => ∃ x,a = .u32 x
 | .i .u64,a => ∃ x,a = .u64 x
 | .i k,a => ∃ n,a = .int k n/\(Lit.int k n).wf = true
 | .b,a => ∃ c,a = .bool c
 | .s,a => ∃ l,a = .str l/\l.length<=maxLen
 | .y,a => ∃ l c,a = .rb true l (.is c)/\(c = true->l = [])/\l.length<=maxLen
def mK : List Sh->List AV->Prop
 | [],[] => True
 | k::ss,a::az => k.ok a/\mK ss az
 | _,_ => False
theorem eW : ∀ {l m : List Sh} {az bs : List AV},mK l az->mK m bs->mK (l++m) (az++bs)
 | [],_,[],_,_,k => k
 | _::_,_,_::_,_,h,k => ⟨h.1,eW h.2 k⟩
 | [],_,_::_,_,h,_ => h.elim
 | _::_,_,[],_,h,_ => h.elim
theorem eX {p : Bool} : ∀ {az bs : List AV},zT p az = true->zT p bs = true->zT p (az++bs) = true
 | [],_,_,k => k
 | a::az,_,h,k => by
  simp only [zT,Bool.and_eq_true,List.cons_append] at h ⊢
  exact ⟨h.1,eX h.2 k⟩
def pI (P : Program) (g : TypeId->Option (List Sh)) : List Field->Nat->Option (List Sh)
 | [],_ => some []
 | f::fs,o => if f.offset = o then (g f.type).bind fun l => if P.cellsOf f.type = l.length then (pI P g fs (o + l.length)).map (l++·) else none else none
def f0x (P : Program) : Nat->TypeId->Option (List Sh)
 | 0,_ => none
 | f + 1,t => match P.underlying t with
  | some (.int k) => some [.i k]
  | some .bool => some [.b]
  | some .string => some [.s]
  | some (.slice e) => (match P.underlying e with | some (.int .u8) => if P.cellsOf e = 1 then some [.y] else none | _ => none)
  | some (.array n e) => (f0x P f e).bind fun l => if P.cellsOf e = l.length/\P.cellsOf t = n * l.length then some (List.replicate n l).flatten else none
  | some (.struct fs) => (pI P (f0x P f) fs.toList 0).bind fun l => if P.cellsOf t = l.length then some l else none
  | _ => none
section
variable {H : Type} {enc : TypeId × Value->H} {P : Program} {W : World} {base : Nat} {spare : Nat->Bool} {held : Bool}
def Read (W : World) (l : List Sh) (cs : List Value) : Prop := ∃ avs,mK l avs/\zT true avs = true/\VRels (κW W) avs cs
theorem Read.append {l m : List Sh} {cs ds : List Value} (h : Read W l cs) (k : Read W m ds) : Read W (l++m) (cs++ds) := by
 obtain ⟨a,h1,h2,h3⟩ := h
 obtain ⟨b,k1,k2,k3⟩ := k
 exact ⟨a++b,eW h1 k1,eX h2 k2,VRels.append h3 k3⟩
theorem j7 {l : List Sh} {m : Nat} : ∀ (n : Nat) (cs : List Value),cs.length = n * m->(∀ i,i < n->Read W l ((cs.drop (i * m)).take m))->Read W (List.replicate n l).flatten cs
 | 0,cs,hl,_ => by
  have : cs = [] := List.eq_nil_of_length_eq_zero (by simpa using hl)
  subst this
  exact ⟨[],trivial,rfl,rfl⟩
 | n + 1,cs,hl,h => by
  have h0 := h 0 (by omega)
  simp only [Nat.zero_mul,List.drop_zero] at h0
  have hr := j7 (m := m) n (cs.drop m) (by rw [List.length_drop,hl,Nat.succ_mul]; omega) (fun i hi => by
   have := h (i + 1) (by omega)
   rw [List.drop_drop]
   rw [Nat.add_mul,Nat.one_mul,Nat.add_comm] at this
   exact this)
  have := h0.append hr
  rw [List.take_append_drop] at this
  simpa [List.replicate_succ] using this
theorem P8 {g : TypeId->Option (List Sh)} {cs : List Value} : ∀ (fs : List Field) (o : Nat) (l : List Sh),pI P g fs o = some l->cs.length = o + l.length ->
  (∀ f l',f ∈ fs->g f.type = some l'->Read W l' ((cs.drop f.offset).take (P.cellsOf f.type)))->Read W l (cs.drop o)
 | [],o,l,h,hl,_ => by
  simp only [pI,Option.some.injEq] at h
  subst h
  have : cs.drop o = [] := List.drop_eq_nil_of_le (by simp at hl; omega)
  rw [this]
  exact ⟨[],trivial,rfl,rfl⟩
 | f::fs,o,l,h,hl,hr => by
  simp only [pI] at h
  split at h
  ·rename_i ho
   simp only [Option.bind_eq_some_iff] at h
   obtain ⟨l1,h1,h2⟩ := h
   split at h2
   ·rename_i hc
    simp only [Option.map_eq_some_iff] at h2
    obtain ⟨l2,h3,rfl⟩ := h2
    have k1 := hr f l1 (by simp) h1
    rw [ho,hc] at k1
    have k2 := P8 fs (o + l1.length) l2 h3 (by simp at hl; omega) (fun f' l' hf hg => hr f' l' (by simp [hf]) hg)
    have := k1.append k2
    rw [<- List.drop_drop,List.take_append_drop] at this
    exact this
   ·cases h2
  ·cases h
theorem rd_flat : ∀ (f : Nat) (t : TypeId) (l : List Sh) (fuel : Nat) (cs : List Value) (x : DataW H × List MemPlace),f0x P f t = some l->DataW.trod enc P W base spare held fuel t cs = some x->Read W l cs
 | 0,_,_,_,_,_,h,_ => by cases h
 | f + 1,t,l,fuel,cs,x,h,hd => by
  unfold f0x at h
  split at h
  ·rename_i k ht
   simp only [Option.some.injEq] at h
   subst h
   obtain ⟨n,rfl,_,hw⟩ := DataW.trod_int ht hd
   have hn : absC0 (.int k n) = absC0 (.int k n) := rfl
   cases k
   case u8 =>
    simp [Lit.wf,IntKind.min,IntKind.max,IntKind.signed,IntKind.bits] at hw
    exact ⟨[.u8 (BitVec.ofNat 8 n.toNat)],⟨⟨_,rfl⟩,trivial⟩,rfl,_,[],rfl,by simp only [VRel,BitVec.toNat_ofNat]; congr 1; omega,rfl⟩
   case u16 =>
    simp [Lit.wf,IntKind.min,IntKind.max,IntKind.signed,IntKind.bits] at hw
    exact ⟨[.u16 (BitVec.ofNat 16 n.toNat)],⟨⟨_,rfl⟩,trivial⟩,rfl,_,[],rfl,by simp only [VRel,BitVec.toNat_ofNat]; congr 1; omega,rfl⟩
   case u32 =>
    simp [Lit.wf,IntKind.min,IntKind.max,IntKind.signed,IntKind.bits] at hw
    exact ⟨[.u32 (BitVec.ofNat 32 n.toNat)],⟨⟨_,rfl⟩,trivial⟩,rfl,_,[],rfl,by simp only [VRel,BitVec.toNat_ofNat]; congr 1; omega,rfl⟩
   case u64 =>
    simp [Lit.wf,IntKind.min,IntKind.max,IntKind.signed,IntKind.bits] at hw
    exact ⟨[.u64 (BitVec.ofNat 64 n.toNat)],⟨⟨_,rfl⟩,trivial⟩,rfl,_,[],rfl,by simp only [VRel,BitVec.toNat_ofNat]; congr 1; omega,rfl⟩
   all_goals exact ⟨[.int _ n],⟨⟨_,rfl,hw⟩,trivial⟩,rfl,_,[],rfl,rfl,rfl⟩
  ·rename_i ht
   simp only [Option.some.injEq] at h
   subst h
   obtain ⟨b,rfl,_⟩ := DataW.trod_bool ht hd
   exact ⟨[.bool b],⟨⟨_,rfl⟩,trivial⟩,rfl,_,[],rfl,rfl,rfl⟩
  ·rename_i ht
   simp only [Option.some.injEq] at h
   subst h
   obtain ⟨s,rfl,_,hs⟩ := DataW.trod_string ht hd
   have hb := qB s
   refine ⟨[.str (wA s)],⟨⟨_,rfl,?_⟩,trivial⟩,rfl,_,[],rfl,by simp only [VRel,hb],rfl⟩
   rw [<- wN,hb]
   exact hs
  ·rename_i e ht
   split at h
   ·rename_i he
    split at h
    ·rename_i hc
     simp only [Option.some.injEq] at h
     subst h
     obtain ⟨v,l,c,rfl,h1,h2,h3⟩ := b0w ht he hc hd
     exact ⟨[.rb true l (.is c)],⟨⟨l,c,rfl,h1,h2⟩,trivial⟩,rfl,_,[],rfl,h3,rfl⟩
    ·cases h
   ·cases h
  ·rename_i n e ht
   simp only [Option.bind_eq_some_iff] at h
   obtain ⟨l1,h1,h2⟩ := h
   split at h2
   ·rename_i hc
    simp only [Option.some.injEq] at h2
    subst h2
    obtain ⟨xs,m,_,_,hl,hn,hel⟩ := DataW.trod_array ht hd
    refine j7 (m := l1.length) n cs (by rw [hl,hc.2]) fun i hi => ?_
    have := hel i hi
    rw [List.getElem?_eq_getElem (by omega),hc.1] at this
    exact rd_flat f e l1 _ _ _ h1 this
   ·cases h2
  ·rename_i fs ht
   simp only [Option.bind_eq_some_iff] at h
   obtain ⟨l1,h1,h2⟩ := h
   split at h2
   ·rename_i hc
    simp only [Option.some.injEq] at h2
    subst h2
    obtain ⟨xs,m,_,_,hl,hn,hel⟩ := DataW.trod_struct ht hd
    have := P8 (W := W) (cs := cs) fs.toList 0 l1 h1 (by rw [hl,hc]; omega) fun f0 l' hf hg => by
     obtain ⟨i,hi⟩ := List.getElem?_of_mem hf
     have hlt := (List.getElem?_eq_some_iff.1 hi).1
     have := hel i f0 (by simpa using hi)
     rw [List.getElem?_eq_getElem (by simp at hlt; omega)] at this
     exact rd_flat f f0.type l' _ _ _ hg this
    simpa using this
   ·cases h2
  ·cases h
theorem agg_of_cells {v : Value} {avs : List AV} (h : VRels (κW W) avs v.cells.toList) (hl : 2<=avs.length) : VRel (κW W) (.agg avs) v := by
 have hn := h.length
 cases v
 case agg cs => exact ⟨cs,rfl,h⟩
 all_goals (exfalso; simp [Value.cells] at hn; omega)
end
theorem eY {k : Sh} {ks : List Sh} {avs : List AV} (h : mK (k::ks) avs) : ∃ a az,avs = a::az/\k.ok a/\mK ks az := by
 cases avs with
 | nil => exact h.elim
 | cons a az => exact ⟨a,az,rfl,h.1,h.2⟩
theorem e0x {avs : List AV} (h : mK [] avs) : avs = [] := by
 cases avs with
 | nil => rfl
 | cons a az => exact h.elim
end Go.Sym
namespace Go.Spec
abbrev vD := BitVec 32
abbrev By := List (BitVec 8)
def rl (x : vD) (k : Nat) : vD := x <<< k ||| x >>> (32 - k)
def d0x (e : vD) : vD := rl e 26 ^^^ rl e 21 ^^^ rl e 7
def j1v (a : vD) : vD := rl a 30 ^^^ rl a 19 ^^^ rl a 10
def smS0 (x : vD) : vD := rl x 25 ^^^ rl x 14 ^^^ x >>> 3
def smS1 (x : vD) : vD := rl x 15 ^^^ rl x 13 ^^^ x >>> 10
def shaK : List vD := [
 0x428a2f98#32,0x71374491#32,0xb5c0fbcf#32,0xe9b5dba5#32,0x3956c25b#32,0x59f111f1#32,0x923f82a4#32,0xab1c5ed5#32,
 0xd807aa98#32,0x12835b01#32,0x243185be#32,0x550c7dc3#32,0x72be5d74#32,0x80deb1fe#32,0x9bdc06a7#32,0xc19bf174#32,
 0xe49b69c1#32,0xefbe4786#32,0x0fc19dc6#32,0x240ca1cc#32,0x2de92c6f#32,0x4a7484aa#32,0x5cb0a9dc#32,0x76f988da#32,
 0x983e5152#32,0xa831c66d#32,0xb00327c8#32,0xbf597fc7#32,0xc6e00bf3#32,0xd5a79147#32,0x06ca6351#32,0x14292967#32,
 0x27b70a85#32,0x2e1b2138#32,0x4d2c6dfc#32,0x53380d13#32,0x650a7354#32,0x766a0abb#32,0x81c2c92e#32,0x92722c85#32,
 0xa2bfe8a1#32,0xa81a664b#32,0xc24b8b70#32,0xc76c51a3#32,0xd192e819#32,0xd6990624#32,0xf40e3585#32,0x106aa070#32,
 0x19a4c116#32,0x1e376c08#32,0x2748774c#32,0x34b0bcb5#32,0x391c0cb3#32,0x4ed8aa4a#32,0x5b9cca4f#32,0x682e6ff3#32,
 0x748f82ee#32,0x78a5636f#32,0x84c87814#32,0x8cc70208#32,0x90befffa#32,0xa4506ceb#32,0xbef9a3f7#32,0xc67178f2#32]
def shaBegin : List vD := [0x6a09e667#32,0xbb67ae85#32,0x3c6ef372#32,0xa54ff53a#32,0x510e527f#32,0x9b05688c#32,0x1f83d9ab#32,0x5be0cd19#32]
def nC (l : By) (i : Nat) : Nat->vD
 | 0 => 0
 | j + 1 => nC l i j <<< 8 ||| (l.getD (4 * i + j) 0).setWidth 32
def mP (l : By) (i : Nat) : vD := nC l i 4
def iT (L : List vD) (i : Nat) : vD := smS1 (L.getD (i - 2) 0) + L.getD (i - 7) 0 + smS0 (L.getD (i - 15) 0) + L.getD (i - 16) 0
def aC (l : By) : Nat->List vD
 | 0 => (List.range 16).map (mP l)
 | k + 1 => aC l k++[iT (aC l k) (16 + k)]
def zC (l : By) (i : Nat) : vD := (aC l 48).getD i 0
def rnd (k w : vD) (v : Nat->vD) : Nat->vD :=
 fun i =>
  match i with
  | 0 => (v 7 + d0x (v 4) + ((v 4 &&& v 5) ^^^ (~~~(v 4) &&& v 6)) + k + w) + (j1v (v 0) + ((v 0 &&& v 1) ^^^ (v 0 &&& v 2) ^^^ (v 1 &&& v 2)))
  | 1 => v 0
  | 2 => v 1
  | 3 => v 2
  | 4 => v 3 + (v 7 + d0x (v 4) + ((v 4 &&& v 5) ^^^ (~~~(v 4) &&& v 6)) + k + w)
  | 5 => v 4
  | 6 => v 5
  | 7 => v 6
  | _ => 0
def yG (W : Nat->vD) (v : Nat->vD) : Nat->Nat->vD
 | 0 => v
 | i + 1 => rnd (shaK.getD i 0) (W i) (yG W v i)
def zH (v : Nat->vD) (l : By) : Nat->vD := fun i => v i + yG (zC l) v 64 i
def zN (v : Nat->vD) (l : By) : Nat->Nat->vD
 | 0 => v
 | j + 1 => zH (zN v l j) ((l.drop (64 * j)).take 64)
def zB (v : Nat->vD) (j : Nat) : BitVec 8 := (v (j / 4) >>> (24 - 8 * (j % 4))).setWidth 8
end Go.Spec
namespace Go.Sym
open Go.Spec
def cI (v : Nat->vD) : AV := .agg ((List.range 8).map fun i => .u32 (v i))
def aggB (n : Nat) (f : Nat->BitVec 8) : AV := .agg ((List.range n).map fun i => .u8 (f i))
def P9 (f : Nat->vD) : AV := .agg ((List.range 64).map fun i => .u32 (f i))
end Go.Sym
namespace Go.Spec
theorem eZ (l : By) : ∀ k,(aC l k).length = 16 + k
 | 0 => by simp [aC]
 | k + 1 => by simp [aC,eZ l k]; omega
theorem nD (l : By) : ∀ k m i,k<=m->i < 16 + k->(aC l m).getD i 0 = (aC l k).getD i 0 := by
  intro k m i hkm hi
  induction m with
  | zero => obtain rfl : k = 0 := by omega
            rfl
  | succ m ih =>
    rcases Nat.lt_or_ge m k with h | h
    · obtain rfl : k = m + 1 := by omega
      rfl
    · rw [<- ih h]
      simp only [aC,List.getD]
      rw [List.getElem?_append_left (by rw [eZ]; omega)]
theorem c0x (l : By) (i : Nat) (h : i < 16) : zC l i = mP l i := by
 unfold zC
 rw [nD l 0 48 i (by omega) (by omega)]
 simp [aC,List.getD,h]
theorem b0x (l : By) (i : Nat) (h : 16<=i) (h2 : i < 64) : zC l i = smS1 (zC l (i - 2)) + zC l (i - 7) + smS0 (zC l (i - 15)) + zC l (i - 16) := by
 have e : zC l i = iT (aC l (i - 16)) i := by
  unfold zC
  rw [nD l (i - 16 + 1) 48 i (by omega) (by omega)]
  simp only [aC,List.getD]
  rw [List.getElem?_append_right (by rw [eZ]; omega),eZ]
  rw [show i - (16 + (i - 16)) = 0 by omega,show 16 + (i - 16) = i by omega]
  rfl
 rw [e]
 unfold iT zC
 rw [nD l (i - 16) 48 (i - 2) (by omega) (by omega),nD l (i - 16) 48 (i - 7) (by omega) (by omega),nD l (i - 16) 48 (i - 15) (by omega) (by omega),nD l (i - 16) 48 (i - 16) (by omega) (by omega)]
end Go.Spec
namespace Go.Spec
def Q0 (a b c d e f g h : vD) : Nat->vD := fun i => match i with | 0 => a | 1 => b | 2 => c | 3 => d | 4 => e | 5 => f | 6 => g | 7 => h | _ => 0
def a0x : Nat->vD := Q0 0x6a09e667#32 0xbb67ae85#32 0x3c6ef372#32 0xa54ff53a#32 0x510e527f#32 0x9b05688c#32 0x1f83d9ab#32 0x5be0cd19#32
theorem Q1 {v : Nat->vD} (hv : ∀ i,8<=i->v i = 0) : Q0 (v 0) (v 1) (v 2) (v 3) (v 4) (v 5) (v 6) (v 7) = v := by
 funext i
 match i with
 | 0 | 1 | 2 | 3 | 4 | 5 | 6 | 7 => rfl
 | i + 8 => rw [hv (i + 8) (by omega)]; rfl
theorem u1z (a b c d e f g h : vD) (i : Nat) (hi : 8<=i) : Q0 a b c d e f g h i = 0 := by
 obtain ⟨i,rfl⟩ : ∃ j,i = j + 8 := ⟨i - 8,by omega⟩
 rfl
theorem k1z (k w : vD) (v : Nat->vD) (i : Nat) (hi : 8<=i) : rnd k w v i = 0 := by
 obtain ⟨i,rfl⟩ : ∃ j,i = j + 8 := ⟨i - 8,by omega⟩
 rfl
theorem iU {v : Nat->vD} (hv : ∀ i,8<=i->v i = 0) (l : By) (i : Nat) (hi : 8<=i) : zH v l i = 0 := by
 unfold zH
 rw [hv i hi]
 show 0 + rnd _ _ _ i = 0
 rw [k1z _ _ _ _ hi]
 rfl
theorem nT {v : Nat->vD} (hv : ∀ i,8<=i->v i = 0) (l : By) : ∀ (j i : Nat),8<=i->zN v l j i = 0
 | 0,i,hi => hv i hi
 | j + 1,i,hi => iU (fun i hi => nT hv l j i hi) _ i hi
end Go.Spec
namespace Go.Spec
def q2z (c : BitVec 64) : By := (List.range 8).map fun i => (c >>> (8 * (7 - i))).setWidth 8
def zR (l : By) : By := l.drop (64 * (l.length / 64))
def zW (n : Nat) : Nat := if 64 < n + 9 then 128 else 64
def vP (ahead : BitVec 64) (l : By) : By :=
 zR l++(0x80#8::(List.replicate (zW (zR l).length - (zR l).length - 9) 0#8++q2z (8#64 * (ahead + BitVec.ofNat 64 l.length))))
def zV (v : Nat->vD) (ahead : BitVec 64) (l : By) : Nat->vD :=
 zN (zN v l (l.length / 64)) (vP ahead l) (zW (zR l).length / 64)
end Go.Spec
namespace Go.Spec
def zQ (v : Nat->vD) (b T : By) (k : Nat) : Nat->vD := zN (zN v b (b.length / 64)) T k
end Go.Spec
namespace Go.Spec
theorem z0k {α : Type} (a : α) : ∃ b,b = a := ⟨a,rfl⟩
noncomputable def mQ {α : Type} (a : α) : α := Classical.choose (z0k a)
theorem vQ {α : Type} (a : α) : mQ a = a := Classical.choose_spec (z0k a)
noncomputable def wV (a b : By) : Bool := mQ (decide (a = b))
theorem j8 (a b : By) : wV a b = decide (a = b) := vQ _
def y0k (l : By) : Nat->BitVec 8 := zB (zV a0x 0#64 l)
noncomputable def zL (l : By) : Nat->BitVec 8 := mQ (y0k l)
theorem Q2 (l : By) : zL l = y0k l := vQ _
noncomputable def sha (l : By) : By := (List.range 32).map (zL l)
noncomputable def wG (key : By) : By := if 64 < key.length then sha key else key
noncomputable def mZ (key : By) (pad : BitVec 8) : By := (List.range 64).map fun i => (wG key).getD i 0 ^^^ pad
noncomputable def vG (key : By) (pad : BitVec 8) : Nat->vD := zH a0x (mZ key pad)
def eta8 (v : Nat->vD) : Nat->vD := Q0 (v 0) (v 1) (v 2) (v 3) (v 4) (v 5) (v 6) (v 7)
noncomputable def x0k (key b : By) : By := (List.range 32).map (zB (zV (eta8 (vG key 0x36#8)) 64#64 b))
noncomputable def w0k (key b : By) : Nat->BitVec 8 := zB (zV (eta8 (vG key 0x5c#8)) 64#64 (x0k key b))
noncomputable def kD (key b : By) : Nat->BitVec 8 := mQ (w0k key b)
theorem j1z (key b : By) : kD key b = w0k key b := vQ _
end Go.Spec
namespace Go.Spec
def orD (a b : By) : Nat->BitVec 8
 | 0 => 0
 | i + 1 => orD a b i ||| (a.getD i 0 ^^^ b.getD i 0)
theorem q1z {x y : BitVec 8} : x ||| y = 0#8 ↔ x = 0#8/\y = 0#8 := by
 constructor
 ·intro h
  have hb : ∀ i,(x ||| y).getLsbD i = false := fun i => by rw [h]; simp
  constructor <;> (apply BitVec.eq_of_getLsbD_eq; intro i hi; have := hb i; simp at this; simp [this])
 ·rintro ⟨rfl,rfl⟩; rfl
theorem v0k {x y : BitVec 8} : x ^^^ y = 0#8 ↔ x = y := by
 constructor
 ·intro h
  apply BitVec.eq_of_getLsbD_eq
  intro i hi
  have : (x ^^^ y).getLsbD i = false := by rw [h]; simp
  simpa using this
 ·rintro rfl; simp
theorem j9 (a b : By) : ∀ n,orD a b n = 0#8 ↔ ∀ i,i < n->a.getD i 0 = b.getD i 0
 | 0 => by simp [orD]
 | n + 1 => by
  simp only [orD]
  rw [q1z,j9 a b n,v0k]
  constructor
  ·rintro ⟨h1,h2⟩ i hi
   rcases Nat.lt_succ_iff_lt_or_eq.1 hi with h | h
   ·exact h1 i h
   ·rw [h]; exact h2
  ·intro h
   exact ⟨fun i hi => h i (by omega),h n (by omega)⟩
theorem u0k (a b : By) (hl : a.length = b.length) : orD a b a.length = 0#8 ↔ a = b := by
 rw [j9]
 constructor
 ·intro h
  apply List.ext_getElem hl
  intro i h1 h2
  have := h i h1
  simpa [List.getD,h1,h2] using this
 ·rintro rfl i _; rfl
end Go.Spec
namespace Go.Sym
def dA {α : Type} (f : Nat->α) : Nat->Nat->Prop
 | _,0 => True
 | i,n + 1 => f i = f i/\dA f (i + 1) n
theorem kZ {α : Type} (f : Nat->α) : ∀ n i,dA f i n
 | 0,_ => trivial
 | n + 1,i => ⟨rfl,kZ f n (i + 1)⟩
end Go.Sym
namespace Go.Spec
end Go.Spec
namespace Go.Spec
end Go.Spec
namespace Go.Spec
end Go.Spec
namespace Go.Sym
open Go.Proofs Go.Spec
noncomputable def gl0 : Gl := fun g => match g with
 | 0 => shaBegin.map fun x => .int .u32 x.toNat
 | 1 => shaK.map fun x => .int .u32 x.toNat
 | _ => []
noncomputable abbrev bq (Γ : Ctx) (f : Func) (n : Nat) (a : List AV) (b : List ABlk) (r : RL) : Prop := xQ Tryz.prog Γ gl0 [] [] 3000 f n a b (vL Tryz.prog f n r)
noncomputable abbrev bg (Γ : Ctx) (g : List Nat) (l : List (Nat × LS)) (f : Func) (n : Nat) (a : List AV) (b : List ABlk) (r : RL) : Prop := xQ Tryz.prog Γ gl0 g l 3000 f n a b (vL Tryz.prog f n r)
noncomputable def C0 : Ctx := .none []
theorem ok0 : COKs Tryz.prog gl0 C0 := COKs.none
noncomputable def A1 : Ctx := C0.exe Tryz.prog gl0 [] 3000 Tryz.f299.params.size 299 Tryz.f299
theorem okA1 : COKs Tryz.prog gl0 A1 := ok0.exe [] 3000 _ (by kernel_rfl) (by kernel_rfl) (by kernel_rfl) (fun args w => by kernel_rfl)
noncomputable def A2 : Ctx := A1.exe Tryz.prog gl0 [] 3000 Tryz.f298.params.size 298 Tryz.f298
theorem okA2 : COKs Tryz.prog gl0 A2 := okA1.exe [] 3000 _ (by kernel_rfl) (by kernel_rfl) (by kernel_rfl) (fun args w => by kernel_rfl)
noncomputable def A3 : Ctx := A2.exe Tryz.prog gl0 [] 3000 Tryz.f270.params.size 270 Tryz.f270
theorem okA3 : COKs Tryz.prog gl0 A3 := okA2.exe [] 3000 _ (by kernel_rfl) (by kernel_rfl) (by kernel_rfl) (fun args w => by kernel_rfl)
noncomputable def A4 : Ctx := A3.exe Tryz.prog gl0 [] 3000 Tryz.f297.params.size 297 Tryz.f297
theorem okA4 : COKs Tryz.prog gl0 A4 := okA3.exe [] 3000 _ (by kernel_rfl) (by kernel_rfl) (by kernel_rfl) (fun args w => by kernel_rfl)
def lsSpI (l : By) (i : Nat) : LS := ⟨Nat,fun j => [(0,.rb false l .unk),(4,.int .i64 i),(8,.int .i64 i),(17,.rb false ((l.take (4 * i + 4)).drop (4 * i)) .unk),(18,.int .i64 4),(19,.int .i64 j),(2,.ptr 100 0 0 0),(3,.ptr 101 0 0 0)],
 fun j => [(100,⟨.rows 1 64 fun _ => [.u32 0],true,0⟩),(101,⟨.rows 1 64 fun y => [.u32 (if y < i then mP l y else if y = i then nC l i j else 0)],true,0⟩)],200,fun j => 4 - j,fun j => j<=4,fun _ => []⟩
def q1v (l : By) : LS := ⟨Nat,fun i => [(0,.rb false l .unk),(8,.int .i64 i),(2,.ptr 100 0 0 0),(3,.ptr 101 0 0 0)],
 fun i => [(100,⟨.rows 1 64 fun _ => [.u32 0],true,0⟩),(101,⟨.rows 1 64 fun y => [.u32 (if y < i then mP l y else 0)],true,0⟩)],200,fun i => 64 - i,fun i => i<=16,fun i => [(7,lsSpI l i)]⟩
def n1v (l : By) : LS := ⟨Nat,fun i => [(7,.int .i64 i),(2,.ptr 100 0 0 0),(3,.ptr 101 0 0 0)],
 fun i => [(100,⟨.rows 1 64 fun _ => [.u32 0],true,0⟩),(101,⟨.rows 1 64 fun y => [.u32 (if y < i then zC l y else 0)],true,0⟩)],200,fun i => 64 - i,fun i => 16<=i/\i<=64,fun _ => []⟩
def gSp (xs : List AV) (bs : List ABlk) : TL := match xs,bs with | [.rb false l .unk],[] => .ok ⟨[l.length = 64],P9 (zC l),[],[]⟩ | _,_ => .no
def spSp : Spec := ⟨[.by0],fun _ _ => [],fun _ _ => [],gSp⟩
def k0k : List Nat := [2,3,25,26,31,41,42,46,47,51,52,57,58,60]
set_option maxRecDepth 100000 in
theorem vc33 (l : By) : bg (A4.withSym k0k) [] [(4,q1v l),(13,n1v l)] Tryz.f269 0 [.rb false l .unk] [] ⟨[],P9 (zC l),[],[]⟩ = (
let x1 := zT Bool.false [AV.u32 (0 : BitVec 32)] = Bool.true/\[AV.u32 (0 : BitVec 32)] = [AV.u32 (0 : BitVec 32)]; (∃ (x : Nat),x.le 16/\l = l/\(↑x : Int) = (0 : Int)/\0 = 0/\0 = 0/\64 = 64/\(∀ (y : Nat),y < 64->x1)/\64 = 64/\(∀ (y : Nat),y < 64->zT Bool.false [AV.u32 (if y < x then mP l y else (0 : BitVec 32))] = Bool.true/\[AV.u32 (0 : BitVec 32)] = [AV.u32 (if y < x then mP l y else (0 : BitVec 32))])/\True)/\∀ (x : Nat),let x1_1 := List.drop (4 * x) (List.take (4 * x + 4) l); let x2 := IntKind.i64.wrap (IntKind.i64.wrap ((4 : Int) * (↑x : Int)) + (4 : Int)); x.le 16->@Bool.rec (fun _ => Prop) ((∃ (x_1 : Nat),(16<=x_1/\x_1<=64)/\(↑x_1 : Int) = (16 : Int)/\0 = 0/\0 = 0/\64 = 64/\(∀ (y : Nat),y < 64->x1)/\64 = 64/\(∀ (y : Nat),y < 64->zT Bool.false [AV.u32 (if y < x_1 then zC l y else (0 : BitVec 32))] = Bool.true/\[AV.u32 (if y < x then mP l y else (0 : BitVec 32))] = [AV.u32 (if y < x_1 then zC l y else (0 : BitVec 32))])/\True)/\∀ (x : Nat),let x1_2 := if (IntKind.i64.wrap ((↑x : Int) - (15 : Int))).toNat < x then zC l (IntKind.i64.wrap ((↑x : Int) - (15 : Int))).toNat else (0 : BitVec 32); let x2 := if (IntKind.i64.wrap ((↑x : Int) - (2 : Int))).toNat < x then zC l (IntKind.i64.wrap ((↑x : Int) - (2 : Int))).toNat else (0 : BitVec 32); 16<=x/\x<=64->@Bool.rec (fun _ => Prop) (64<=64/\(have y := have y := have y := have y := [AV.u32 (if 60 < x then zC l 60 else (0 : BitVec 32)),AV.u32 (if 61 < x then zC l 61 else (0 : BitVec 32)),AV.u32 (if 62 < x then zC l 62 else (0 : BitVec 32)),AV.u32 (if 63 < x then zC l 63 else (0 : BitVec 32))]; AV.u32 (if 56 < x then zC l 56 else (0 : BitVec 32))::AV.u32 (if 57 < x then zC l 57 else (0 : BitVec 32))::AV.u32 (if 58 < x then zC l 58 else (0 : BitVec 32))::AV.u32 (if 59 < x then zC l 59 else (0 : BitVec 32))::y; have y := AV.u32 (if 52 < x then zC l 52 else (0 : BitVec 32))::AV.u32 (if 53 < x then zC l 53 else (0 : BitVec 32))::AV.u32 (if 54 < x then zC l 54 else (0 : BitVec 32))::AV.u32 (if 55 < x then zC l 55 else (0 : BitVec 32))::y; AV.u32 (if 48 < x then zC l 48 else (0 : BitVec 32))::AV.u32 (if 49 < x then zC l 49 else (0 : BitVec 32))::AV.u32 (if 50 < x then zC l 50 else (0 : BitVec 32))::AV.u32 (if 51 < x then zC l 51 else (0 : BitVec 32))::y; have y := have y := AV.u32 (if 44 < x then zC l 44 else (0 : BitVec 32))::AV.u32 (if 45 < x then zC l 45 else (0 : BitVec 32))::AV.u32 (if 46 < x then zC l 46 else (0 : BitVec 32))::AV.u32 (if 47 < x then zC l 47 else (0 : BitVec 32))::y; AV.u32 (if 40 < x then zC l 40 else (0 : BitVec 32))::AV.u32 (if 41 < x then zC l 41 else (0 : BitVec 32))::AV.u32 (if 42 < x then zC l 42 else (0 : BitVec 32))::AV.u32 (if 43 < x then zC l 43 else (0 : BitVec 32))::y; have y := AV.u32 (if 36 < x then zC l 36 else (0 : BitVec 32))::AV.u32 (if 37 < x then zC l 37 else (0 : BitVec 32))::AV.u32 (if 38 < x then zC l 38 else (0 : BitVec 32))::AV.u32 (if 39 < x then zC l 39 else (0 : BitVec 32))::y; AV.u32 (if 32 < x then zC l 32 else (0 : BitVec 32))::AV.u32 (if 33 < x then zC l 33 else (0 : BitVec 32))::AV.u32 (if 34 < x then zC l 34 else (0 : BitVec 32))::AV.u32 (if 35 < x then zC l 35 else (0 : BitVec 32))::y; have y := have y := have y := AV.u32 (if 28 < x then zC l 28 else (0 : BitVec 32))::AV.u32 (if 29 < x then zC l 29 else (0 : BitVec 32))::AV.u32 (if 30 < x then zC l 30 else (0 : BitVec 32))::AV.u32 (if 31 < x then zC l 31 else (0 : BitVec 32))::y; AV.u32 (if 24 < x then zC l 24 else (0 : BitVec 32))::AV.u32 (if 25 < x then zC l 25 else (0 : BitVec 32))::AV.u32 (if 26 < x then zC l 26 else (0 : BitVec 32))::AV.u32 (if 27 < x then zC l 27 else (0 : BitVec 32))::y; have y := AV.u32 (if 20 < x then zC l 20 else (0 : BitVec 32))::AV.u32 (if 21 < x then zC l 21 else (0 : BitVec 32))::AV.u32 (if 22 < x then zC l 22 else (0 : BitVec 32))::AV.u32 (if 23 < x then zC l 23 else (0 : BitVec 32))::y; AV.u32 (if 16 < x then zC l 16 else (0 : BitVec 32))::AV.u32 (if 17 < x then zC l 17 else (0 : BitVec 32))::AV.u32 (if 18 < x then zC l 18 else (0 : BitVec 32))::AV.u32 (if 19 < x then zC l 19 else (0 : BitVec 32))::y; have y := have y := AV.u32 (if 12 < x then zC l 12 else (0 : BitVec 32))::AV.u32 (if 13 < x then zC l 13 else (0 : BitVec 32))::AV.u32 (if 14 < x then zC l 14 else (0 : BitVec 32))::AV.u32 (if 15 < x then zC l 15 else (0 : BitVec 32))::y; AV.u32 (if 8 < x then zC l 8 else (0 : BitVec 32))::AV.u32 (if 9 < x then zC l 9 else (0 : BitVec 32))::AV.u32 (if 10 < x then zC l 10 else (0 : BitVec 32))::AV.u32 (if 11 < x then zC l 11 else (0 : BitVec 32))::y; have y := AV.u32 (if 4 < x then zC l 4 else (0 : BitVec 32))::AV.u32 (if 5 < x then zC l 5 else (0 : BitVec 32))::AV.u32 (if 6 < x then zC l 6 else (0 : BitVec 32))::AV.u32 (if 7 < x then zC l 7 else (0 : BitVec 32))::y; AV.u32 (if 0 < x then zC l 0 else (0 : BitVec 32))::AV.u32 (if 1 < x then zC l 1 else (0 : BitVec 32))::AV.u32 (if 2 < x then zC l 2 else (0 : BitVec 32))::AV.u32 (if 3 < x then zC l 3 else (0 : BitVec 32))::y).length = 64/\(∀ (y : Nat),y < 64->[AV.u32 (0 : BitVec 32)].length = 1)/\64<=64/\(zC l 0 = if 0 < x then zC l 0 else (0 : BitVec 32))/\(zC l 1 = if 1 < x then zC l 1 else (0 : BitVec 32))/\(zC l 2 = if 2 < x then zC l 2 else (0 : BitVec 32))/\(zC l 3 = if 3 < x then zC l 3 else (0 : BitVec 32))/\(zC l 4 = if 4 < x then zC l 4 else (0 : BitVec 32))/\(zC l 5 = if 5 < x then zC l 5 else (0 : BitVec 32))/\(zC l 6 = if 6 < x then zC l 6 else (0 : BitVec 32))/\(zC l 7 = if 7 < x then zC l 7 else (0 : BitVec 32))/\(zC l 8 = if 8 < x then zC l 8 else (0 : BitVec 32))/\(zC l 9 = if 9 < x then zC l 9 else (0 : BitVec 32))/\(zC l 10 = if 10 < x then zC l 10 else (0 : BitVec 32))/\(zC l 11 = if 11 < x then zC l 11 else (0 : BitVec 32))/\(zC l 12 = if 12 < x then zC l 12 else (0 : BitVec 32))/\(zC l 13 = if 13 < x then zC l 13 else (0 : BitVec 32))/\(zC l 14 = if 14 < x then zC l 14 else (0 : BitVec 32))/\(zC l 15 = if 15 < x then zC l 15 else (0 : BitVec 32))/\(zC l 16 = if 16 < x then zC l 16 else (0 : BitVec 32))/\(zC l 17 = if 17 < x then zC l 17 else (0 : BitVec 32))/\(zC l 18 = if 18 < x then zC l 18 else (0 : BitVec 32))/\(zC l 19 = if 19 < x then zC l 19 else (0 : BitVec 32))/\(zC l 20 = if 20 < x then zC l 20 else (0 : BitVec 32))/\(zC l 21 = if 21 < x then zC l 21 else (0 : BitVec 32))/\(zC l 22 = if 22 < x then zC l 22 else (0 : BitVec 32))/\(zC l 23 = if 23 < x then zC l 23 else (0 : BitVec 32))/\(zC l 24 = if 24 < x then zC l 24 else (0 : BitVec 32))/\(zC l 25 = if 25 < x then zC l 25 else (0 : BitVec 32))/\(zC l 26 = if 26 < x then zC l 26 else (0 : BitVec 32))/\(zC l 27 = if 27 < x then zC l 27 else (0 : BitVec 32))/\(zC l 28 = if 28 < x then zC l 28 else (0 : BitVec 32))/\(zC l 29 = if 29 < x then zC l 29 else (0 : BitVec 32))/\(zC l 30 = if 30 < x then zC l 30 else (0 : BitVec 32))/\(zC l 31 = if 31 < x then zC l 31 else (0 : BitVec 32))/\(zC l 32 = if 32 < x then zC l 32 else (0 : BitVec 32))/\(zC l 33 = if 33 < x then zC l 33 else (0 : BitVec 32))/\(zC l 34 = if 34 < x then zC l 34 else (0 : BitVec 32))/\(zC l 35 = if 35 < x then zC l 35 else (0 : BitVec 32))/\(zC l 36 = if 36 < x then zC l 36 else (0 : BitVec 32))/\(zC l 37 = if 37 < x then zC l 37 else (0 : BitVec 32))/\(zC l 38 = if 38 < x then zC l 38 else (0 : BitVec 32))/\(zC l 39 = if 39 < x then zC l 39 else (0 : BitVec 32))/\(zC l 40 = if 40 < x then zC l 40 else (0 : BitVec 32))/\(zC l 41 = if 41 < x then zC l 41 else (0 : BitVec 32))/\(zC l 42 = if 42 < x then zC l 42 else (0 : BitVec 32))/\(zC l 43 = if 43 < x then zC l 43 else (0 : BitVec 32))/\(zC l 44 = if 44 < x then zC l 44 else (0 : BitVec 32))/\(zC l 45 = if 45 < x then zC l 45 else (0 : BitVec 32))/\(zC l 46 = if 46 < x then zC l 46 else (0 : BitVec 32))/\(zC l 47 = if 47 < x then zC l 47 else (0 : BitVec 32))/\(zC l 48 = if 48 < x then zC l 48 else (0 : BitVec 32))/\(zC l 49 = if 49 < x then zC l 49 else (0 : BitVec 32))/\(zC l 50 = if 50 < x then zC l 50 else (0 : BitVec 32))/\(zC l 51 = if 51 < x then zC l 51 else (0 : BitVec 32))/\(zC l 52 = if 52 < x then zC l 52 else (0 : BitVec 32))/\(zC l 53 = if 53 < x then zC l 53 else (0 : BitVec 32))/\(zC l 54 = if 54 < x then zC l 54 else (0 : BitVec 32))/\(zC l 55 = if 55 < x then zC l 55 else (0 : BitVec 32))/\(zC l 56 = if 56 < x then zC l 56 else (0 : BitVec 32))/\(zC l 57 = if 57 < x then zC l 57 else (0 : BitVec 32))/\(zC l 58 = if 58 < x then zC l 58 else (0 : BitVec 32))/\(zC l 59 = if 59 < x then zC l 59 else (0 : BitVec 32))/\(zC l 60 = if 60 < x then zC l 60 else (0 : BitVec 32))/\(zC l 61 = if 61 < x then zC l 61 else (0 : BitVec 32))/\(zC l 62 = if 62 < x then zC l 62 else (0 : BitVec 32))/\(zC l 63 = if 63 < x then zC l 63 else (0 : BitVec 32))/\True) ((0 : Int)<=IntKind.i64.wrap ((↑x : Int) - (2 : Int))/\(IntKind.i64.wrap ((↑x : Int) - (2 : Int))).toNat < 64/\(IntKind.i64.wrap ((↑x : Int) - (2 : Int))).toNat < 64/\True/\(0 : Int)<=(10 : Int)/\(0 : Int)<=IntKind.i64.wrap ((↑x : Int) - (7 : Int))/\(IntKind.i64.wrap ((↑x : Int) - (7 : Int))).toNat < 64/\(IntKind.i64.wrap ((↑x : Int) - (7 : Int))).toNat < 64/\True/\(0 : Int)<=IntKind.i64.wrap ((↑x : Int) - (15 : Int))/\(IntKind.i64.wrap ((↑x : Int) - (15 : Int))).toNat < 64/\(IntKind.i64.wrap ((↑x : Int) - (15 : Int))).toNat < 64/\True/\(0 : Int)<=(3 : Int)/\(0 : Int)<=IntKind.i64.wrap ((↑x : Int) - (16 : Int))/\(IntKind.i64.wrap ((↑x : Int) - (16 : Int))).toNat < 64/\(IntKind.i64.wrap ((↑x : Int) - (16 : Int))).toNat < 64/\True/\(0 : Int)<=(↑x : Int)/\(↑x : Int).toNat < 64/\(↑x : Int).toNat < 64/\[AV.u32 (if (↑x : Int).toNat < x then zC l (↑x : Int).toNat else (0 : BitVec 32))].length = 1/\∃ (y : Nat),64 - y < 64 - x/\(16<=y/\y<=64)/\(↑y : Int) = IntKind.i64.wrap ((↑x : Int) + (1 : Int))/\0 = 0/\0 = 0/\64 = 64/\(∀ (y : Nat),y < 64->x1)/\64 = 64/\(∀ (y_1 : Nat),y_1 < 64->zT Bool.false [AV.u32 (if y_1 < y then zC l y_1 else (0 : BitVec 32))] = Bool.true/\(bif y_1 == (↑x : Int).toNat then [AV.u32 ((((x2 <<< 15 ||| x2 >>> 17) ^^^ (x2 <<< 13 ||| x2 >>> 19) ^^^ x2 >>> 10) + if (IntKind.i64.wrap ((↑x : Int) - (7 : Int))).toNat < x then zC l (IntKind.i64.wrap ((↑x : Int) - (7 : Int))).toNat else (0 : BitVec 32)) + ((x1_2 <<< 25 ||| x1_2 >>> 7) ^^^ (x1_2 <<< 14 ||| x1_2 >>> 18) ^^^ x1_2 >>> 3) + if (IntKind.i64.wrap ((↑x : Int) - (16 : Int))).toNat < x then zC l (IntKind.i64.wrap ((↑x : Int) - (16 : Int))).toNat else (0 : BitVec 32))] else [AV.u32 (if y_1 < x then zC l y_1 else (0 : BitVec 32))]) = [AV.u32 (if y_1 < y then zC l y_1 else (0 : BitVec 32))])/\True) (decide ((↑x : Int) < (64 : Int)))) ((0 : Int)<=IntKind.i64.wrap ((4 : Int) * (↑x : Int))/\(0 : Int)<=x2/\(IntKind.i64.wrap ((4 : Int) * (↑x : Int))).toNat<=x2.toNat/\x2.toNat<=List.length l/\(∃ (x_1 : Nat),x_1.le 4/\l = l/\(↑x : Int) = (↑x : Int)/\(↑x : Int) = (↑x : Int)/\x1_1 = List.drop (IntKind.i64.wrap ((4 : Int) * (↑x : Int))).toNat (List.take x2.toNat l)/\(4 : Int) = (↑(List.drop (IntKind.i64.wrap ((4 : Int) * (↑x : Int))).toNat (List.take x2.toNat l)).length : Int)/\(↑x_1 : Int) = (0 : Int)/\0 = 0/\0 = 0/\64 = 64/\(∀ (y : Nat),y < 64->x1)/\64 = 64/\(∀ (y : Nat),y < 64->zT Bool.false [AV.u32 (if y < x then mP l y else if y = x then nC l x x_1 else (0 : BitVec 32))] = Bool.true/\[AV.u32 (if y < x then mP l y else (0 : BitVec 32))] = [AV.u32 (if y < x then mP l y else if y = x then nC l x x_1 else (0 : BitVec 32))])/\True)/\∀ (x_1 : Nat),x_1.le 4->@Bool.rec (fun _ => Prop) (∃ (y : Nat),64 - y < 64 - x/\y.le 16/\l = l/\(↑y : Int) = IntKind.i64.wrap ((↑x : Int) + (1 : Int))/\0 = 0/\0 = 0/\64 = 64/\(∀ (y : Nat),y < 64->x1)/\64 = 64/\(∀ (y_1 : Nat),y_1 < 64->zT Bool.false [AV.u32 (if y_1 < y then mP l y_1 else (0 : BitVec 32))] = Bool.true/\[AV.u32 (if y_1 < x then mP l y_1 else if y_1 = x then nC l x x_1 else (0 : BitVec 32))] = [AV.u32 (if y_1 < y then mP l y_1 else (0 : BitVec 32))])/\True) ((0 : Int)<=(↑x_1 : Int)/\(↑x_1 : Int).toNat < x1_1.length/\(0 : Int)<=(↑x : Int)/\(↑x : Int).toNat < 64/\(↑x : Int).toNat < 64/\True/\(0 : Int)<=(↑x : Int)/\(↑x : Int).toNat < 64/\(↑x : Int).toNat < 64/\[AV.u32 (if (↑x : Int).toNat < x then mP l (↑x : Int).toNat else if (↑x : Int).toNat = x then nC l x x_1 else (0 : BitVec 32))].length = 1/\∃ (y : Nat),4 - y < 4 - x_1/\y.le 4/\l = l/\(↑x : Int) = (↑x : Int)/\(↑x : Int) = (↑x : Int)/\x1_1 = x1_1/\(4 : Int) = (4 : Int)/\(↑y : Int) = IntKind.i64.wrap ((↑x_1 : Int) + (1 : Int))/\0 = 0/\0 = 0/\64 = 64/\(∀ (y : Nat),y < 64->x1)/\64 = 64/\(∀ (y_1 : Nat),y_1 < 64->zT Bool.false [AV.u32 (if y_1 < x then mP l y_1 else if y_1 = x then nC l x y else (0 : BitVec 32))] = Bool.true/\(bif y_1 == (↑x : Int).toNat then [AV.u32 ((if (↑x : Int).toNat < x then mP l (↑x : Int).toNat else if (↑x : Int).toNat = x then nC l x x_1 else (0 : BitVec 32)) <<< 8 ||| BitVec.setWidth 32 (x1_1.getD (↑x_1 : Int).toNat (0 : BitVec 8)))] else [AV.u32 (if y_1 < x then mP l y_1 else if y_1 = x then nC l x x_1 else (0 : BitVec 32))]) = [AV.u32 (if y_1 < x then mP l y_1 else if y_1 = x then nC l x y else (0 : BitVec 32))])/\True) (decide ((↑x_1 : Int) < (4 : Int)))) (decide ((↑x : Int) < (16 : Int))) : Prop) := by kernel_rfl
set_option maxRecDepth 100000 in
theorem b33 (l : By) (hl : l.length = 64) : Must (bg (A4.withSym k0k) [] [(4,q1v l),(13,n1v l)] Tryz.f269 0 [.rb false l .unk] [] ⟨[],P9 (zC l),[],[]⟩) := by
 constructor
 rw [vc33]
 set_option simprocs false in dsimp only
 refine ⟨⟨0,by simp [d32]⟩,fun x hx => ?_⟩
 replace hx : x<=16 := hx
 refine yE (fun h => ?_) (fun h => ?_)
 ·replace h : x < 16 := by have := aO.1 h; omega
  have e1 : IntKind.i64.wrap (4 * (x : Int)) = ((4 * x : Nat) : Int) := zU _ (by omega) (by omega)
  have e2 : IntKind.i64.wrap (((4 * x : Nat) : Int) + 4) = ((4 * x + 4 : Nat) : Int) := zU _ (by omega) (by omega)
  have e3 : IntKind.i64.wrap ((x : Int) + 1) = ((x + 1 : Nat) : Int) := zU _ (by omega) (by omega)
  have hd : (List.drop (4 * x) (List.take (4 * x + 4) l)).length = 4 := by simp; omega
  simp only [e1,e2,e3,Int.toNat_natCast,hd,d32,true_and,and_true,implies_true,Int.natCast_nonneg]
  refine ⟨by omega,by omega,⟨0,Nat.zero_le _,rfl,rfl,fun y hy => dV ?_⟩,fun j hj => ?_⟩
  ·simp [nC]
  replace hj : j<=4 := hj
  refine yE (fun h2 => ?_) (fun h2 => ?_)
  ·replace h2 : j < 4 := by have := aO.1 h2; omega
   have e4 : IntKind.i64.wrap ((j : Int) + 1) = ((j + 1 : Nat) : Int) := zU _ (by omega) (by omega)
   simp only [e4]
   refine ⟨h2,by omega,by omega,by omega,by omega,rfl,j + 1,by omega,h2,rfl,fun y hy => ?_⟩
   rw [n1w]
   refine dV ?_
   by_cases hyx : y = x
   ·subst hyx
    rw [oY _ _ _ _ _ h2]
    simp [nC]
   ·simp [hyx]
  ·replace h2 : j = 4 := by have := mR.1 h2; omega
   subst h2
   refine ⟨x + 1,by omega,h,rfl,fun y hy => dV ?_⟩
   by_cases h1 : y < x
   ·rw [if_pos h1,if_pos (by omega)]
   ·rw [if_neg h1]
    by_cases h2 : y = x
    ·rw [if_pos h2,if_pos (by omega),h2]; rfl
    ·rw [if_neg h2,if_neg (by omega)]
 ·replace h : x = 16 := by have := mR.1 h; omega
  subst h
  refine ⟨⟨16,by omega,rfl,rfl,rfl,rfl,fun y hy => ⟨rfl,rfl⟩,rfl,fun y hy => ⟨rfl,dV ?_⟩,trivial⟩,fun x hx => ?_⟩
  ·by_cases h : y < 16
   ·rw [if_pos h,if_pos h,c0x l y h]
   ·rw [if_neg h,if_neg h]
  refine yE (fun h => ?_) (fun h => ?_)
  ·replace h : x < 64 := by have := aO.1 h; omega
   have e2 : IntKind.i64.wrap ((x : Int) - 2) = ((x - 2 : Nat) : Int) := zU _ (by omega) (by omega)
   have e7 : IntKind.i64.wrap ((x : Int) - 7) = ((x - 7 : Nat) : Int) := zU _ (by omega) (by omega)
   have e15 : IntKind.i64.wrap ((x : Int) - 15) = ((x - 15 : Nat) : Int) := zU _ (by omega) (by omega)
   have e16 : IntKind.i64.wrap ((x : Int) - 16) = ((x - 16 : Nat) : Int) := zU _ (by omega) (by omega)
   have e1 : IntKind.i64.wrap ((x : Int) + 1) = ((x + 1 : Nat) : Int) := zU _ (by omega) (by omega)
   simp only [e1,e2,e7,e15,e16,Int.toNat_natCast,d32,true_and,and_true,implies_true,Int.natCast_nonneg]
   refine ⟨by omega,by omega,by omega,by omega,by omega,by omega,by omega,by omega,by omega,by omega,by omega,by omega,rfl,x + 1,by omega,by omega,rfl,fun y hy => ?_⟩
   rw [n1w]
   refine dV ?_
   by_cases hyx : y = x
   ·subst hyx
    rw [beq_self_eq_true,cond_true,if_pos (by omega),if_pos (by omega),if_pos (by omega),if_pos (by omega),if_pos (by omega),b0x l y hx.1 h]
    simp [smS0,smS1,rl]
   ·have : (y == x) = false := by simpa using hyx
    rw [this,cond_false]
    by_cases h2 : y < x
    ·rw [if_pos h2,if_pos (by omega)]
    ·rw [if_neg h2,if_neg (by omega)]
  ·replace h : x = 64 := by have := mR.1 h; omega
   subst h
   simp
theorem c33 : COK Tryz.prog gl0 269 (mkF spSp) := by
 refine yY (fn := Tryz.f269) [] 3000 (by kernel_rfl) (by kernel_rfl) (okA4.withSym k0k) (by kernel_rfl) (fun args w => by kernel_rfl) ?_
 intro xs bs r hs ho
 simp only [spSp,gSp] at hs
 split at hs
 ·rename_i l
  simp only [TL.sel,Option.some.injEq] at hs
  subst hs
  have := b33 l (zA.1 ho)
  exact ⟨_,this⟩
 ·simp [TL.sel] at hs
noncomputable def B1 : Ctx := A4.add 269 (mkF spSp)
theorem okB1 : COKs Tryz.prog gl0 B1 := okA4.add c33
def lsTk (v : Nat->vD) (l : By) : LS := ⟨Nat,fun i => [(2,.ptr 100 0 0 0),(4,.ptr 101 0 0 0),(6,.u32 (yG (zC l) v i 0)),(7,.u32 (yG (zC l) v i 1)),(8,.u32 (yG (zC l) v i 2)),(9,.u32 (yG (zC l) v i 3)),(10,.u32 (yG (zC l) v i 4)),(11,.u32 (yG (zC l) v i 5)),(12,.u32 (yG (zC l) v i 6)),(13,.u32 (yG (zC l) v i 7)),(36,P9 (zC l)),(37,.int .i64 i)],
 fun i => [(100,⟨.cells ((List.range 8).map fun i => .u32 (v i)),true,0⟩),(101,⟨.cells (List.replicate 8 (.u32 0)),true,0⟩),(8388609,⟨.rows 1 64 fun y => [.u32 (shaK.getD y 0)],false,0⟩)],1000,fun i => 64 - i,fun i => i<=64,fun _ => []⟩
def gTk (xs : List AV) (bs : List ABlk) : TL := match xs,bs with
 | [.agg cs,.rb false l .unk],[] => (match aH cs with | some [a,b,c,d,e,f,g,h] => .ok ⟨[l.length = 64],cI (zH (Q0 a b c d e f g h) l),[],[]⟩ | _ => .no)
 | _,_ => .no
def spTk : Spec := ⟨[.kp,.by0],fun _ _ => [],fun _ _ => [],gTk⟩
def j0k : List Nat := [40,55,56]
set_option maxRecDepth 100000 in
theorem vc30 (v : Nat->vD) (l : By) : bg (B1.withSym j0k) [1] [(5,lsTk v l)] Tryz.f225 0 [cI v,.rb false l .unk] [] ⟨[],cI (zH v l),[],[]⟩ = (
List.length l = (64 : Nat) /\
 (∃ (x : Nat),
 x.le (64 : Nat) /\
 (0 : Nat) = (0 : Nat) /\
 (0 : Nat) = (0 : Nat) /\
 yG (zC l) v x (0 : Nat) = v 0 /\
 yG (zC l) v x (1 : Nat) = v 1 /\
 yG (zC l) v x (2 : Nat) = v 2 /\
 yG (zC l) v x (3 : Nat) = v 3 /\
 yG (zC l) v x (4 : Nat) = v 4 /\
 yG (zC l) v x (5 : Nat) = v 5 /\
 yG (zC l) v x (6 : Nat) = v 6 /\
 yG (zC l) v x (7 : Nat) = v 7 /\
 zC l 0 = zC l 0 /\
 zC l 1 = zC l 1 /\
 zC l 2 = zC l 2 /\
 zC l 3 = zC l 3 /\
 zC l 4 = zC l 4 /\
 zC l 5 = zC l 5 /\
 zC l 6 = zC l 6 /\
 zC l 7 = zC l 7 /\
 zC l 8 = zC l 8 /\
 zC l 9 = zC l 9 /\
 zC l 10 = zC l 10 /\
 zC l 11 = zC l 11 /\
 zC l 12 = zC l 12 /\
 zC l 13 = zC l 13 /\
 zC l 14 = zC l 14 /\
 zC l 15 = zC l 15 /\
 zC l 16 = zC l 16 /\
 zC l 17 = zC l 17 /\
 zC l 18 = zC l 18 /\
 zC l 19 = zC l 19 /\
 zC l 20 = zC l 20 /\
 zC l 21 = zC l 21 /\
 zC l 22 = zC l 22 /\
 zC l 23 = zC l 23 /\
 zC l 24 = zC l 24 /\
 zC l 25 = zC l 25 /\
 zC l 26 = zC l 26 /\
 zC l 27 = zC l 27 /\
 zC l 28 = zC l 28 /\
 zC l 29 = zC l 29 /\
 zC l 30 = zC l 30 /\
 zC l 31 = zC l 31 /\
 zC l 32 = zC l 32 /\
 zC l 33 = zC l 33 /\
 zC l 34 = zC l 34 /\
 zC l 35 = zC l 35 /\
 zC l 36 = zC l 36 /\
 zC l 37 = zC l 37 /\
 zC l 38 = zC l 38 /\
 zC l 39 = zC l 39 /\
 zC l 40 = zC l 40 /\
 zC l 41 = zC l 41 /\
 zC l 42 = zC l 42 /\
 zC l 43 = zC l 43 /\
 zC l 44 = zC l 44 /\
 zC l 45 = zC l 45 /\
 zC l 46 = zC l 46 /\
 zC l 47 = zC l 47 /\
 zC l 48 = zC l 48 /\
 zC l 49 = zC l 49 /\
 zC l 50 = zC l 50 /\
 zC l 51 = zC l 51 /\
 zC l 52 = zC l 52 /\
 zC l 53 = zC l 53 /\
 zC l 54 = zC l 54 /\
 zC l 55 = zC l 55 /\
 zC l 56 = zC l 56 /\
 zC l 57 = zC l 57 /\
 zC l 58 = zC l 58 /\
 zC l 59 = zC l 59 /\
 zC l 60 = zC l 60 /\
 zC l 61 = zC l 61 /\
 zC l 62 = zC l 62 /\
 zC l 63 = zC l 63 /\
 (↑x : Int) = (0 : Int) /\
 v 0 = v 0 /\
 v 1 = v 1 /\
 v 2 = v 2 /\
 v 3 = v 3 /\
 v 4 = v 4 /\
 v 5 = v 5 /\
 v 6 = v 6 /\
 v 7 = v 7 /\
 (0 : BitVec (32 : Nat)) = BitVec.ofNat (32 : Nat) (0 : Nat) /\
 (0 : BitVec (32 : Nat)) = BitVec.ofNat (32 : Nat) (0 : Nat) /\
 (0 : BitVec (32 : Nat)) = BitVec.ofNat (32 : Nat) (0 : Nat) /\
 (0 : BitVec (32 : Nat)) = BitVec.ofNat (32 : Nat) (0 : Nat) /\
 (0 : BitVec (32 : Nat)) = BitVec.ofNat (32 : Nat) (0 : Nat) /\
 (0 : BitVec (32 : Nat)) = BitVec.ofNat (32 : Nat) (0 : Nat) /\
 (0 : BitVec (32 : Nat)) = BitVec.ofNat (32 : Nat) (0 : Nat) /\
 (0 : BitVec (32 : Nat)) = BitVec.ofNat (32 : Nat) (0 : Nat) /\
 (64 : Nat) = (64 : Nat) /\
 (∀ (y : Nat),
 y < (64 : Nat) ->
 zT Bool.false [AV.u32 (shaK.getD y (0 : vD))] = Bool.true /\
 cut (1 : Nat)
 [AV.u32 (BitVec.ofNat (32 : Nat) (1116352408 : Nat)),AV.u32 (BitVec.ofNat (32 : Nat) (1899447441 : Nat)),AV.u32 (BitVec.ofNat (32 : Nat) (3049323471 : Nat)),AV.u32 (BitVec.ofNat (32 : Nat) (3921009573 : Nat)),AV.u32 (BitVec.ofNat (32 : Nat) (961987163 : Nat)),AV.u32 (BitVec.ofNat (32 : Nat) (1508970993 : Nat)),AV.u32 (BitVec.ofNat (32 : Nat) (2453635748 : Nat)),AV.u32 (BitVec.ofNat (32 : Nat) (2870763221 : Nat)),AV.u32 (BitVec.ofNat (32 : Nat) (3624381080 : Nat)),AV.u32 (BitVec.ofNat (32 : Nat) (310598401 : Nat)),AV.u32 (BitVec.ofNat (32 : Nat) (607225278 : Nat)),AV.u32 (BitVec.ofNat (32 : Nat) (1426881987 : Nat)),AV.u32 (BitVec.ofNat (32 : Nat) (1925078388 : Nat)),AV.u32 (BitVec.ofNat (32 : Nat) (2162078206 : Nat)),AV.u32 (BitVec.ofNat (32 : Nat) (2614888103 : Nat)),AV.u32 (BitVec.ofNat (32 : Nat) (3248222580 : Nat)),AV.u32 (BitVec.ofNat (32 : Nat) (3835390401 : Nat)),AV.u32 (BitVec.ofNat (32 : Nat) (4022224774 : Nat)),AV.u32 (BitVec.ofNat (32 : Nat) (264347078 : Nat)),AV.u32 (BitVec.ofNat (32 : Nat) (604807628 : Nat)),AV.u32 (BitVec.ofNat (32 : Nat) (770255983 : Nat)),AV.u32 (BitVec.ofNat (32 : Nat) (1249150122 : Nat)),AV.u32 (BitVec.ofNat (32 : Nat) (1555081692 : Nat)),AV.u32 (BitVec.ofNat (32 : Nat) (1996064986 : Nat)),AV.u32 (BitVec.ofNat (32 : Nat) (2554220882 : Nat)),AV.u32 (BitVec.ofNat (32 : Nat) (2821834349 : Nat)),AV.u32 (BitVec.ofNat (32 : Nat) (2952996808 : Nat)),AV.u32 (BitVec.ofNat (32 : Nat) (3210313671 : Nat)),AV.u32 (BitVec.ofNat (32 : Nat) (3336571891 : Nat)),AV.u32 (BitVec.ofNat (32 : Nat) (3584528711 : Nat)),AV.u32 (BitVec.ofNat (32 : Nat) (113926993 : Nat)),AV.u32 (BitVec.ofNat (32 : Nat) (338241895 : Nat)),AV.u32 (BitVec.ofNat (32 : Nat) (666307205 : Nat)),AV.u32 (BitVec.ofNat (32 : Nat) (773529912 : Nat)),AV.u32 (BitVec.ofNat (32 : Nat) (1294757372 : Nat)),AV.u32 (BitVec.ofNat (32 : Nat) (1396182291 : Nat)),AV.u32 (BitVec.ofNat (32 : Nat) (1695183700 : Nat)),AV.u32 (BitVec.ofNat (32 : Nat) (1986661051 : Nat)),AV.u32 (BitVec.ofNat (32 : Nat) (2177026350 : Nat)),AV.u32 (BitVec.ofNat (32 : Nat) (2456956037 : Nat)),AV.u32 (BitVec.ofNat (32 : Nat) (2730485921 : Nat)),AV.u32 (BitVec.ofNat (32 : Nat) (2820302411 : Nat)),AV.u32 (BitVec.ofNat (32 : Nat) (3259730800 : Nat)),AV.u32 (BitVec.ofNat (32 : Nat) (3345764771 : Nat)),AV.u32 (BitVec.ofNat (32 : Nat) (3516065817 : Nat)),AV.u32 (BitVec.ofNat (32 : Nat) (3600352804 : Nat)),AV.u32 (BitVec.ofNat (32 : Nat) (4094571909 : Nat)),AV.u32 (BitVec.ofNat (32 : Nat) (275423344 : Nat)),AV.u32 (BitVec.ofNat (32 : Nat) (430227734 : Nat)),AV.u32 (BitVec.ofNat (32 : Nat) (506948616 : Nat)),AV.u32 (BitVec.ofNat (32 : Nat) (659060556 : Nat)),AV.u32 (BitVec.ofNat (32 : Nat) (883997877 : Nat)),AV.u32 (BitVec.ofNat (32 : Nat) (958139571 : Nat)),AV.u32 (BitVec.ofNat (32 : Nat) (1322822218 : Nat)),AV.u32 (BitVec.ofNat (32 : Nat) (1537002063 : Nat)),AV.u32 (BitVec.ofNat (32 : Nat) (1747873779 : Nat)),AV.u32 (BitVec.ofNat (32 : Nat) (1955562222 : Nat)),AV.u32 (BitVec.ofNat (32 : Nat) (2024104815 : Nat)),AV.u32 (BitVec.ofNat (32 : Nat) (2227730452 : Nat)),AV.u32 (BitVec.ofNat (32 : Nat) (2361852424 : Nat)),AV.u32 (BitVec.ofNat (32 : Nat) (2428436474 : Nat)),AV.u32 (BitVec.ofNat (32 : Nat) (2756734187 : Nat)),AV.u32 (BitVec.ofNat (32 : Nat) (3204031479 : Nat)),
 AV.u32 (BitVec.ofNat (32 : Nat) (3329325298 : Nat))]
 y =
 [AV.u32 (shaK.getD y (0 : vD))]) /\
 True) /\
 ∀ (x : Nat),
 x.le (64 : Nat) ->
 Bool.rec (zH v l 0 = v 0 + yG (zC l) v x (0 : Nat)/\zH v l 1 = v 1 + yG (zC l) v x (1 : Nat)/\zH v l 2 = v 2 + yG (zC l) v x (2 : Nat)/\zH v l 3 = v 3 + yG (zC l) v x (3 : Nat)/\zH v l 4 = v 4 + yG (zC l) v x (4 : Nat)/\zH v l 5 = v 5 + yG (zC l) v x (5 : Nat)/\zH v l 6 = v 6 + yG (zC l) v x (6 : Nat)/\zH v l 7 = v 7 + yG (zC l) v x (7 : Nat)/\True)
 ((0 : Int)<=(↑x : Int) /\
 (↑x : Int).toNat < [zC l 0,zC l 1,zC l 2,zC l 3,zC l 4,zC l 5,zC l 6,zC l 7,zC l 8,zC l 9,zC l 10,zC l 11,zC l 12,zC l 13,zC l 14,zC l 15,zC l 16,zC l 17,zC l 18,zC l 19,zC l 20,zC l 21,zC l 22,zC l 23,zC l 24,zC l 25,zC l 26,zC l 27,zC l 28,zC l 29,zC l 30,zC l 31,zC l 32,zC l 33,zC l 34,zC l 35,zC l 36,zC l 37,zC l 38,zC l 39,zC l 40,zC l 41,zC l 42,zC l 43,zC l 44,zC l 45,zC l 46,zC l 47,zC l 48,zC l 49,zC l 50,zC l 51,zC l 52,zC l 53,zC l 54,zC l 55,zC l 56,zC l 57,zC l 58,zC l 59,zC l 60,zC l 61,zC l 62,zC l 63].length /\
 (0 : Int)<=(↑x : Int) /\
 (↑x : Int).toNat < (64 : Nat) /\
 (↑x : Int).toNat < (64 : Nat) /\
 True /\
 ∃ (y : Nat),
 (64 : Nat) - y < (64 : Nat) - x /\
 y.le (64 : Nat) /\
 (0 : Nat) = (0 : Nat) /\
 (0 : Nat) = (0 : Nat) /\
 yG (zC l) v y (0 : Nat) = yG (zC l) v x (7 : Nat) + ((yG (zC l) v x (4 : Nat) <<< (26 : Nat) ||| yG (zC l) v x (4 : Nat) >>> (6 : Nat)) ^^^ (yG (zC l) v x (4 : Nat) <<< (21 : Nat) ||| yG (zC l) v x (4 : Nat) >>> (11 : Nat)) ^^^ (yG (zC l) v x (4 : Nat) <<< (7 : Nat) ||| yG (zC l) v x (4 : Nat) >>> (25 : Nat))) + (yG (zC l) v x (4 : Nat) &&& yG (zC l) v x (5 : Nat) ^^^ ~~~yG (zC l) v x (4 : Nat) &&& yG (zC l) v x (6 : Nat)) + shaK.getD (↑x : Int).toNat (0 : vD) + [zC l 0,zC l 1,zC l 2,zC l 3,zC l 4,zC l 5,zC l 6,zC l 7,zC l 8,zC l 9,zC l 10,zC l 11,zC l 12,zC l 13,zC l 14,zC l 15,zC l 16,zC l 17,zC l 18,zC l 19,zC l 20,zC l 21,zC l 22,zC l 23,zC l 24,zC l 25,zC l 26,zC l 27,zC l 28,zC l 29,zC l 30,zC l 31,zC l 32,zC l 33,zC l 34,zC l 35,zC l 36,zC l 37,zC l 38,zC l 39,zC l 40,zC l 41,zC l 42,zC l 43,zC l 44,zC l 45,zC l 46,zC l 47,zC l 48,zC l 49,zC l 50,zC l 51,zC l 52,zC l 53,zC l 54,zC l 55,zC l 56,zC l 57,zC l 58,zC l 59,zC l 60,zC l 61,zC l 62,zC l 63].getD (↑x : Int).toNat (0 : BitVec (32 : Nat)) + (((yG (zC l) v x (0 : Nat) <<< (30 : Nat) ||| yG (zC l) v x (0 : Nat) >>> (2 : Nat)) ^^^ (yG (zC l) v x (0 : Nat) <<< (19 : Nat) ||| yG (zC l) v x (0 : Nat) >>> (13 : Nat)) ^^^ (yG (zC l) v x (0 : Nat) <<< (10 : Nat) ||| yG (zC l) v x (0 : Nat) >>> (22 : Nat))) + (yG (zC l) v x (0 : Nat) &&& yG (zC l) v x (1 : Nat) ^^^ yG (zC l) v x (0 : Nat) &&& yG (zC l) v x (2 : Nat) ^^^ yG (zC l) v x (1 : Nat) &&& yG (zC l) v x (2 : Nat))) /\
 yG (zC l) v y (1 : Nat) = yG (zC l) v x (0 : Nat) /\
 yG (zC l) v y (2 : Nat) = yG (zC l) v x (1 : Nat) /\
 yG (zC l) v y (3 : Nat) = yG (zC l) v x (2 : Nat) /\
 yG (zC l) v y (4 : Nat) = yG (zC l) v x (3 : Nat) + (yG (zC l) v x (7 : Nat) + ((yG (zC l) v x (4 : Nat) <<< (26 : Nat) ||| yG (zC l) v x (4 : Nat) >>> (6 : Nat)) ^^^ (yG (zC l) v x (4 : Nat) <<< (21 : Nat) ||| yG (zC l) v x (4 : Nat) >>> (11 : Nat)) ^^^ (yG (zC l) v x (4 : Nat) <<< (7 : Nat) ||| yG (zC l) v x (4 : Nat) >>> (25 : Nat))) + (yG (zC l) v x (4 : Nat) &&& yG (zC l) v x (5 : Nat) ^^^ ~~~yG (zC l) v x (4 : Nat) &&& yG (zC l) v x (6 : Nat)) + shaK.getD (↑x : Int).toNat (0 : vD) + [zC l 0,zC l 1,zC l 2,zC l 3,zC l 4,zC l 5,zC l 6,zC l 7,zC l 8,zC l 9,zC l 10,zC l 11,zC l 12,zC l 13,zC l 14,zC l 15,zC l 16,zC l 17,zC l 18,zC l 19,zC l 20,zC l 21,zC l 22,zC l 23,zC l 24,zC l 25,zC l 26,zC l 27,zC l 28,zC l 29,zC l 30,zC l 31,zC l 32,zC l 33,zC l 34,zC l 35,zC l 36,zC l 37,zC l 38,zC l 39,zC l 40,zC l 41,zC l 42,zC l 43,zC l 44,zC l 45,zC l 46,zC l 47,zC l 48,zC l 49,zC l 50,zC l 51,zC l 52,zC l 53,zC l 54,zC l 55,zC l 56,zC l 57,zC l 58,zC l 59,zC l 60,zC l 61,zC l 62,zC l 63].getD (↑x : Int).toNat (0 : BitVec (32 : Nat))) /\
 yG (zC l) v y (5 : Nat) = yG (zC l) v x (4 : Nat) /\
 yG (zC l) v y (6 : Nat) = yG (zC l) v x (5 : Nat) /\
 yG (zC l) v y (7 : Nat) = yG (zC l) v x (6 : Nat) /\
 zC l 0 = zC l 0 /\
 zC l 1 = zC l 1 /\
 zC l 2 = zC l 2 /\
 zC l 3 = zC l 3 /\
 zC l 4 = zC l 4 /\
 zC l 5 = zC l 5 /\
 zC l 6 = zC l 6 /\
 zC l 7 = zC l 7 /\
 zC l 8 = zC l 8 /\
 zC l 9 = zC l 9 /\
 zC l 10 = zC l 10 /\
 zC l 11 = zC l 11 /\
 zC l 12 = zC l 12 /\
 zC l 13 = zC l 13 /\
 zC l 14 = zC l 14/\zC l 15 = zC l 15/\zC l 16 = zC l 16/\zC l 17 = zC l 17/\zC l 18 = zC l 18/\zC l 19 = zC l 19/\zC l 20 = zC l 20/\zC l 21 = zC l 21/\zC l 22 = zC l 22/\zC l 23 = zC l 23/\zC l 24 = zC l 24/\zC l 25 = zC l 25/\zC l 26 = zC l 26/\zC l 27 = zC l 27/\zC l 28 = zC l 28/\zC l 29 = zC l 29/\zC l 30 = zC l 30/\zC l 31 = zC l 31/\zC l 32 = zC l 32/\zC l 33 = zC l 33/\zC l 34 = zC l 34/\zC l 35 = zC l 35/\zC l 36 = zC l 36/\zC l 37 = zC l 37/\zC l 38 = zC l 38/\zC l 39 = zC l 39/\zC l 40 = zC l 40/\zC l 41 = zC l 41/\zC l 42 = zC l 42/\zC l 43 = zC l 43/\zC l 44 = zC l 44/\zC l 45 = zC l 45/\zC l 46 = zC l 46/\zC l 47 = zC l 47/\zC l 48 = zC l 48/\zC l 49 = zC l 49/\zC l 50 = zC l 50/\zC l 51 = zC l 51/\zC l 52 = zC l 52/\zC l 53 = zC l 53/\zC l 54 = zC l 54/\zC l 55 = zC l 55/\zC l 56 = zC l 56/\zC l 57 = zC l 57/\zC l 58 = zC l 58/\zC l 59 = zC l 59/\zC l 60 = zC l 60/\zC l 61 = zC l 61/\zC l 62 = zC l 62/\zC l 63 = zC l 63/\(↑y : Int) = IntKind.i64.wrap ((↑x : Int) + (1 : Int))/\v 0 = v 0/\v 1 = v 1/\v 2 = v 2/\v 3 = v 3/\v 4 = v 4/\v 5 = v 5/\v 6 = v 6/\v 7 = v 7/\(0 : BitVec (32 : Nat)) = (0 : BitVec (32 : Nat))/\(0 : BitVec (32 : Nat)) = (0 : BitVec (32 : Nat))/\(0 : BitVec (32 : Nat)) = (0 : BitVec (32 : Nat))/\(0 : BitVec (32 : Nat)) = (0 : BitVec (32 : Nat))/\(0 : BitVec (32 : Nat)) = (0 : BitVec (32 : Nat))/\(0 : BitVec (32 : Nat)) = (0 : BitVec (32 : Nat))/\(0 : BitVec (32 : Nat)) = (0 : BitVec (32 : Nat))/\(0 : BitVec (32 : Nat)) = (0 : BitVec (32 : Nat))/\(64 : Nat) = (64 : Nat)/\(∀ (y : Nat),y < (64 : Nat)->zT Bool.false [AV.u32 (shaK.getD y (0 : vD))] = Bool.true/\[AV.u32 (shaK.getD y (0 : vD))] = [AV.u32 (shaK.getD y (0 : vD))])/\True)
 (Decidable.decide ((↑x : Int) < (64 : Int)))) := by kernel_rfl
theorem n1z (l : By) (x : Nat) (h : x < 64) : [zC l 0,zC l 1,zC l 2,zC l 3,zC l 4,zC l 5,zC l 6,zC l 7,zC l 8,zC l 9,zC l 10,zC l 11,zC l 12,zC l 13,zC l 14,zC l 15,zC l 16,zC l 17,zC l 18,zC l 19,zC l 20,zC l 21,zC l 22,zC l 23,zC l 24,zC l 25,zC l 26,zC l 27,zC l 28,zC l 29,zC l 30,zC l 31,zC l 32,zC l 33,zC l 34,zC l 35,zC l 36,zC l 37,zC l 38,zC l 39,zC l 40,zC l 41,zC l 42,zC l 43,zC l 44,zC l 45,zC l 46,zC l 47,zC l 48,zC l 49,zC l 50,zC l 51,zC l 52,zC l 53,zC l 54,zC l 55,zC l 56,zC l 57,zC l 58,zC l 59,zC l 60,zC l 61,zC l 62,zC l 63].getD x 0 = zC l x := gI (zC l) 64 x 0 h
set_option maxRecDepth 100000 in
theorem b30 (v : Nat->vD) (l : By) (hl : l.length = 64) : Must (bg (B1.withSym j0k) [1] [(5,lsTk v l)] Tryz.f225 0 [cI v,.rb false l .unk] [] ⟨[],cI (zH v l),[],[]⟩) := by
 constructor
 rw [vc30]
 have hc : ∀ y,y < 64->cut 1 (shaK.map AV.u32) y = [AV.u32 (shaK.getD y 0)] := fun y hy => b1x _ _ _ _ hy
 refine ⟨hl,⟨0,Nat.zero_le _,?_⟩,fun x hx => ?_⟩
 ·simp only [true_and,and_true]
  refine ⟨rfl,rfl,rfl,rfl,rfl,rfl,rfl,rfl,rfl,rfl,rfl,rfl,rfl,rfl,rfl,rfl,rfl,fun y hy => ⟨rfl,hc y hy⟩⟩
 replace hx : x<=64 := hx
 refine yE (fun h => ?_) (fun h => ?_)
 ·replace h : x < 64 := by have := aO.1 h; omega
  have e1 : IntKind.i64.wrap ((x : Int) + 1) = ((x + 1 : Nat) : Int) := zU _ (by omega) (by omega)
  simp only [e1,Int.toNat_natCast,n1z l x h,d32,true_and,and_true,implies_true,Int.natCast_nonneg]
  refine ⟨by simpa using h,h,h,x + 1,by omega,h,?_⟩
  simp only [yG,rnd,d0x,j1v,rl,and_true]
 ·replace h : x = 64 := by have := mR.1 h; omega
  subst h
  simp only [zH,true_and]
theorem pJ {cs : List AV} {a b c d e f g h : vD} (hr : aH cs = some [a,b,c,d,e,f,g,h]) : AV.agg cs = cI (Q0 a b c d e f g h) := by
 rw [dW hr]; rfl
theorem c30 : COK Tryz.prog gl0 225 (mkF spTk) := by
 refine yY (fn := Tryz.f225) [1] 3000 (by kernel_rfl) (by kernel_rfl) (okB1.withSym j0k) (by kernel_rfl) (fun args w => by kernel_rfl) ?_
 intro xs bs r hs ho
 simp only [spTk,gTk] at hs
 split at hs
 ·rename_i cs l
  split at hs
  ·rename_i a b c d e f g h hr
   simp only [TL.sel,Option.some.injEq] at hs
   subst hs
   rw [pJ hr]
   exact ⟨_,b30 _ l (zA.1 ho)⟩
  ·simp [TL.sel] at hs
 ·simp [TL.sel] at hs
noncomputable def B2 : Ctx := B1.add 225 (mkF spTk)
theorem okB2 : COKs Tryz.prog gl0 B2 := okB1.add c30
def gOf (xs : List AV) (bs : List ABlk) : TL := match xs,bs with
 | [.agg cs],[] => (match aH cs with | some [a,b,c,d,e,f,g,h] => .ok ⟨[],aggB 32 (zB (Q0 a b c d e f g h)),[],[]⟩ | _ => .no)
 | _,_ => .no
def spOf : Spec := ⟨[.kp],fun _ _ => [],fun _ _ => [],gOf⟩
set_option maxRecDepth 100000 in
theorem vc31 (v : Nat->vD) : bq B2 Tryz.f226 0 [cI v] [] ⟨[],aggB 32 (zB v),[],[]⟩ = (
(0 : Int)<=(0 : Int) /\
 (0 : Int)<=Int.ofNat (24 : Nat) /\
 (0 : Int)<=Int.ofNat (0 : Nat) /\
 (0 : Int)<=Int.ofNat (16 : Nat) /\
 (0 : Int)<=Int.ofNat (1 : Nat) /\
 (0 : Int)<=Int.ofNat (8 : Nat) /\
 (0 : Int)<=Int.ofNat (2 : Nat) /\
 (0 : Int)<=Int.ofNat (0 : Nat) /\
 (0 : Int)<=Int.ofNat (3 : Nat) /\
 (0 : Int)<=Int.ofNat (1 : Nat) /\
 (0 : Int)<=Int.ofNat (24 : Nat) /\
 (0 : Int)<=Int.ofNat (4 : Nat) /\
 (0 : Int)<=Int.ofNat (16 : Nat) /\
 (0 : Int)<=Int.ofNat (5 : Nat) /\
 (0 : Int)<=Int.ofNat (8 : Nat) /\
 (0 : Int)<=Int.ofNat (6 : Nat) /\
 (0 : Int)<=Int.ofNat (0 : Nat) /\
 (0 : Int)<=Int.ofNat (7 : Nat) /\
 (0 : Int)<=Int.ofNat (2 : Nat) /\
 (0 : Int)<=Int.ofNat (24 : Nat) /\
 (0 : Int)<=Int.ofNat (8 : Nat) /\
 (0 : Int)<=Int.ofNat (16 : Nat) /\
 (0 : Int)<=Int.ofNat (9 : Nat) /\
 (0 : Int)<=Int.ofNat (8 : Nat) /\
 (0 : Int)<=Int.ofNat (10 : Nat) /\
 (0 : Int)<=Int.ofNat (0 : Nat) /\
 (0 : Int)<=Int.ofNat (11 : Nat) /\
 (0 : Int)<=Int.ofNat (3 : Nat) /\
 (0 : Int)<=Int.ofNat (24 : Nat) /\
 (0 : Int)<=Int.ofNat (12 : Nat) /\
 (0 : Int)<=Int.ofNat (16 : Nat) /\
 (0 : Int)<=Int.ofNat (13 : Nat) /\
 (0 : Int)<=Int.ofNat (8 : Nat) /\
 (0 : Int)<=Int.ofNat (14 : Nat) /\
 (0 : Int)<=Int.ofNat (0 : Nat) /\
 (0 : Int)<=Int.ofNat (15 : Nat) /\
 (0 : Int)<=Int.ofNat (4 : Nat) /\
 (0 : Int)<=Int.ofNat (24 : Nat) /\
 (0 : Int)<=Int.ofNat (16 : Nat) /\
 (0 : Int)<=Int.ofNat (16 : Nat) /\
 (0 : Int)<=Int.ofNat (17 : Nat) /\
 (0 : Int)<=Int.ofNat (8 : Nat) /\
 (0 : Int)<=Int.ofNat (18 : Nat) /\
 (0 : Int)<=Int.ofNat (0 : Nat) /\
 (0 : Int)<=Int.ofNat (19 : Nat)/\(0 : Int)<=Int.ofNat (5 : Nat)/\(0 : Int)<=Int.ofNat (24 : Nat)/\(0 : Int)<=Int.ofNat (20 : Nat)/\(0 : Int)<=Int.ofNat (16 : Nat)/\(0 : Int)<=Int.ofNat (21 : Nat)/\(0 : Int)<=Int.ofNat (8 : Nat)/\(0 : Int)<=Int.ofNat (22 : Nat)/\(0 : Int)<=Int.ofNat (0 : Nat)/\(0 : Int)<=Int.ofNat (23 : Nat)/\(0 : Int)<=Int.ofNat (6 : Nat)/\(0 : Int)<=Int.ofNat (24 : Nat)/\(0 : Int)<=Int.ofNat (24 : Nat)/\(0 : Int)<=Int.ofNat (16 : Nat)/\(0 : Int)<=Int.ofNat (25 : Nat)/\(0 : Int)<=Int.ofNat (8 : Nat)/\(0 : Int)<=Int.ofNat (26 : Nat)/\(0 : Int)<=Int.ofNat (0 : Nat)/\(0 : Int)<=Int.ofNat (27 : Nat)/\(0 : Int)<=Int.ofNat (7 : Nat)/\(0 : Int)<=Int.ofNat (24 : Nat)/\(0 : Int)<=Int.ofNat (28 : Nat)/\(0 : Int)<=Int.ofNat (16 : Nat)/\(0 : Int)<=Int.ofNat (29 : Nat)/\(0 : Int)<=Int.ofNat (8 : Nat)/\(0 : Int)<=Int.ofNat (30 : Nat)/\(0 : Int)<=Int.ofNat (0 : Nat)/\(0 : Int)<=Int.ofNat (31 : Nat)/\zB v 0 = BitVec.setWidth (8 : Nat) (v 0 >>> (24 : Nat))/\zB v 1 = BitVec.setWidth (8 : Nat) (v 0 >>> (16 : Nat))/\zB v 2 = BitVec.setWidth (8 : Nat) (v 0 >>> (8 : Nat))/\zB v 3 = BitVec.setWidth (8 : Nat) (v 0 >>> (0 : Nat))/\zB v 4 = BitVec.setWidth (8 : Nat) (v 1 >>> (24 : Nat))/\zB v 5 = BitVec.setWidth (8 : Nat) (v 1 >>> (16 : Nat))/\zB v 6 = BitVec.setWidth (8 : Nat) (v 1 >>> (8 : Nat))/\zB v 7 = BitVec.setWidth (8 : Nat) (v 1 >>> (0 : Nat))/\zB v 8 = BitVec.setWidth (8 : Nat) (v 2 >>> (24 : Nat))/\zB v 9 = BitVec.setWidth (8 : Nat) (v 2 >>> (16 : Nat))/\zB v 10 = BitVec.setWidth (8 : Nat) (v 2 >>> (8 : Nat))/\zB v 11 = BitVec.setWidth (8 : Nat) (v 2 >>> (0 : Nat))/\zB v 12 = BitVec.setWidth (8 : Nat) (v 3 >>> (24 : Nat))/\zB v 13 = BitVec.setWidth (8 : Nat) (v 3 >>> (16 : Nat))/\zB v 14 = BitVec.setWidth (8 : Nat) (v 3 >>> (8 : Nat))/\zB v 15 = BitVec.setWidth (8 : Nat) (v 3 >>> (0 : Nat))/\zB v 16 = BitVec.setWidth (8 : Nat) (v 4 >>> (24 : Nat))/\zB v 17 = BitVec.setWidth (8 : Nat) (v 4 >>> (16 : Nat))/\zB v 18 = BitVec.setWidth (8 : Nat) (v 4 >>> (8 : Nat))/\zB v 19 = BitVec.setWidth (8 : Nat) (v 4 >>> (0 : Nat))/\zB v 20 = BitVec.setWidth (8 : Nat) (v 5 >>> (24 : Nat))/\zB v 21 = BitVec.setWidth (8 : Nat) (v 5 >>> (16 : Nat))/\zB v 22 = BitVec.setWidth (8 : Nat) (v 5 >>> (8 : Nat))/\zB v 23 = BitVec.setWidth (8 : Nat) (v 5 >>> (0 : Nat))/\zB v 24 = BitVec.setWidth (8 : Nat) (v 6 >>> (24 : Nat))/\zB v 25 = BitVec.setWidth (8 : Nat) (v 6 >>> (16 : Nat))/\zB v 26 = BitVec.setWidth (8 : Nat) (v 6 >>> (8 : Nat))/\zB v 27 = BitVec.setWidth (8 : Nat) (v 6 >>> (0 : Nat))/\zB v 28 = BitVec.setWidth (8 : Nat) (v 7 >>> (24 : Nat))/\zB v 29 = BitVec.setWidth (8 : Nat) (v 7 >>> (16 : Nat))/\zB v 30 = BitVec.setWidth (8 : Nat) (v 7 >>> (8 : Nat))/\zB v 31 = BitVec.setWidth (8 : Nat) (v 7 >>> (0 : Nat))/\True) := by kernel_rfl
theorem b31 (v : Nat->vD) : Must (bq B2 Tryz.f226 0 [cI v] [] ⟨[],aggB 32 (zB v),[],[]⟩) := by
 constructor
 rw [vc31]
 simp [zB]
theorem c31 : COK Tryz.prog gl0 226 (mkF spOf) := by
 refine yY (fn := Tryz.f226) [] 3000 (by kernel_rfl) (by kernel_rfl) okB2 (by kernel_rfl) (fun args w => by kernel_rfl) ?_
 intro xs bs r hs ho
 simp only [spOf,gOf] at hs
 split at hs
 ·rename_i cs
  split at hs
  ·rename_i a b c d e f g h hr
   simp only [TL.sel,Option.some.injEq] at hs
   subst hs
   rw [pJ hr]
   exact ⟨_,b31 _⟩
  ·simp [TL.sel] at hs
 ·simp [TL.sel] at hs
noncomputable def B3 : Ctx := B2.add 226 (mkF spOf)
theorem okB3 : COKs Tryz.prog gl0 B3 := okB2.add c31
def lsFi (v : Nat->vD) (ah : BitVec 64) (b : By) : LS := ⟨Nat,fun j => [(1,.u64 ah),(2,.rb false b .unk),(3,.ptr 100 0 0 0),(6,.ptr 101 0 0 0),(7,.int .i64 (64 * j : Nat))],
 fun j => [(100,⟨.cells ((List.range 8).map fun i => .u32 (zN v b j i)),true,0⟩),(101,⟨.cells (List.replicate 32 (.u8 0)),true,0⟩)],1000,fun j => b.length - 64 * j,fun j => 64 * j<=b.length,fun _ => []⟩
def m1v (v : Nat->vD) (ah : BitVec 64) (b : By) : LS := ⟨Nat × By,fun x => [(3,.ptr 100 0 0 0),(6,.ptr 101 0 0 0),(8,.ptr 102 0 0 0),(10,.int .i64 (zW (zR b).length : Nat)),(13,.int .i64 (64 * x.1 : Nat))],
 fun x => [(100,⟨.cells ((List.range 8).map fun i => .u32 (zQ v b x.2 x.1 i)),true,0⟩),(101,⟨.cells (List.replicate 32 (.u8 0)),true,0⟩),(102,⟨.bytes x.2,true,0⟩)],5000,fun x => 4 - x.1,fun x => x.2.length = 128/\x.2.take (zW (zR b).length) = vP ah b/\64 * x.1<=zW (zR b).length,fun _ => []⟩
def gFi (xs : List AV) (bs : List ABlk) : TL := match xs,bs with
 | [.agg cs,.u64 ah,.rb false l .unk],[] => (match aH cs with | some [a,b,c,d,e,f,g,h] => .ok ⟨[l.length < 4611686018427387904],aggB 32 (zB (zV (Q0 a b c d e f g h) ah l)),[],[]⟩ | _ => .no)
 | _,_ => .no
def spFi : Spec := ⟨[.kp,.kp,.by0],fun _ _ => [],fun _ _ => [],gFi⟩
def q0k : List Nat := [8,34,57]
set_option maxRecDepth 100000 in
theorem vc24 (v : Nat->vD) (ah : BitVec 64) (b : By) : bg (B3.withSym q0k) [] [(3,lsFi v ah b),(19,m1v v ah b)] Tryz.f170 0 [cI v,.u64 ah,.rb false b .unk] [] ⟨[],aggB 32 (zB (zV v ah b)),[],[]⟩ = (
let x1 := BitVec.ofNat 64 8 * (ah + BitVec.ofInt 64 (↑(List.length b) : Int)); let x2 := (0 : BitVec 8) = BitVec.ofNat 8 0; let x3 := List.take 0 (List.replicate 128 (0 : BitVec 8)); (∃ (x : Nat),(64 * x).le (List.length b)/\ah = ah/\b = b/\0 = 0/\0 = 0/\(↑(64 * x) : Int) = (0 : Int)/\zN v b x 0 = v 0/\zN v b x 1 = v 1/\zN v b x 2 = v 2/\zN v b x 3 = v 3/\zN v b x 4 = v 4/\zN v b x 5 = v 5/\zN v b x 6 = v 6/\zN v b x 7 = v 7/\x2/\x2/\x2/\x2/\x2/\x2/\x2/\x2/\x2/\x2/\x2/\x2/\x2/\x2/\x2/\x2/\x2/\x2/\x2/\x2/\x2/\x2/\x2/\x2/\x2/\x2/\x2/\x2/\x2/\x2/\x2/\x2/\True)/\∀ (x : Nat),let x1_1 := (x3++(List.take 128 (List.drop (↑(64 * x) : Int).toNat b)++List.drop (0 + Min.min (List.drop (↑(64 * x) : Int).toNat b).length 128) (List.replicate 128 (0 : BitVec 8)))).set (↑(Min.min (List.drop (↑(64 * x) : Int).toNat b).length 128) : Int).toNat (BitVec.ofNat 8 128); let x2 := Q0 (zN v b x 0) (zN v b x 1) (zN v b x 2) (zN v b x 3) (zN v b x 4) (zN v b x 5) (zN v b x 6) (zN v b x 7); let x3_1 := (((x1_1.set 127 (BitVec.setWidth 8 (x1 >>> 0))).set 126 (BitVec.setWidth 8 (x1 >>> 8))).set 125 (BitVec.setWidth 8 (x1 >>> 16))).set 124 (BitVec.setWidth 8 (x1 >>> 24)); let x4 := (((x1_1.set 63 (BitVec.setWidth 8 (x1 >>> 0))).set 62 (BitVec.setWidth 8 (x1 >>> 8))).set 61 (BitVec.setWidth 8 (x1 >>> 16))).set 60 (BitVec.setWidth 8 (x1 >>> 24)); let x5 := List.drop (↑(64 * x) : Int).toNat (List.take (IntKind.i64.wrap ((↑(64 * x) : Int) + (64 : Int))).toNat b); let x6 := Min.min (List.drop (↑(64 * x) : Int).toNat b).length 128; let x7 := (x4.set 59 (BitVec.setWidth 8 (x1 >>> 32))).set 58 (BitVec.setWidth 8 (x1 >>> 40)); let x8 := (x3_1.set 123 (BitVec.setWidth 8 (x1 >>> 32))).set 122 (BitVec.setWidth 8 (x1 >>> 40)); (64 * x).le (List.length b)->@Bool.rec (fun _ => Prop) ((0 : Int)<=(↑(64 * x) : Int)/\(↑(64 * x) : Int).toNat<=List.length b/\128<=128/\(0 : Int)<=(↑x6 : Int)/\(↑x6 : Int).toNat < 128/\(↑x6 : Int).toNat < (x3++(List.take 128 (List.drop (↑(64 * x) : Int).toNat b)++List.drop (0 + x6) (List.replicate 128 (0 : BitVec 8)))).length/\@Bool.rec (fun _ => Prop) ((0 : Int)<=Int.ofNat 0/\(0 : Int)<=Int.ofNat 63/\63 < 128/\63 < x1_1.length/\(0 : Int)<=Int.ofNat 8/\(0 : Int)<=Int.ofNat 62/\62 < 128/\62 < (x1_1.set 63 (BitVec.setWidth 8 (x1 >>> 0))).length/\(0 : Int)<=Int.ofNat 16/\(0 : Int)<=Int.ofNat 61/\61 < 128/\61 < ((x1_1.set 63 (BitVec.setWidth 8 (x1 >>> 0))).set 62 (BitVec.setWidth 8 (x1 >>> 8))).length/\(0 : Int)<=Int.ofNat 24/\(0 : Int)<=Int.ofNat 60/\60 < 128/\60 < (((x1_1.set 63 (BitVec.setWidth 8 (x1 >>> 0))).set 62 (BitVec.setWidth 8 (x1 >>> 8))).set 61 (BitVec.setWidth 8 (x1 >>> 16))).length/\(0 : Int)<=Int.ofNat 32/\(0 : Int)<=Int.ofNat 59/\59 < 128/\59 < x4.length/\(0 : Int)<=Int.ofNat 40/\(0 : Int)<=Int.ofNat 58/\58 < 128/\58 < (x4.set 59 (BitVec.setWidth 8 (x1 >>> 32))).length/\(0 : Int)<=Int.ofNat 48/\(0 : Int)<=Int.ofNat 57/\57 < 128/\57 < x7.length/\(0 : Int)<=Int.ofNat 56/\(0 : Int)<=Int.ofNat 56/\56 < 128/\56 < (x7.set 57 (BitVec.setWidth 8 (x1 >>> 48))).length/\(∃ (x_1 : Nat × By),(List.length x_1.snd = 128/\List.take (zW (List.length (zR b))) x_1.snd = vP ah b/\64 * x_1.fst<=zW (List.length (zR b)))/\0 = 0/\0 = 0/\0 = 0/\(↑(zW (List.length (zR b))) : Int) = (64 : Int)/\(↑(64 * x_1.fst) : Int) = (0 : Int)/\zQ v b x_1.snd x_1.fst 0 = zN v b x 0/\zQ v b x_1.snd x_1.fst 1 = zN v b x 1/\zQ v b x_1.snd x_1.fst 2 = zN v b x 2/\zQ v b x_1.snd x_1.fst 3 = zN v b x 3/\zQ v b x_1.snd x_1.fst 4 = zN v b x 4/\zQ v b x_1.snd x_1.fst 5 = zN v b x 5/\zQ v b x_1.snd x_1.fst 6 = zN v b x 6/\zQ v b x_1.snd x_1.fst 7 = zN v b x 7/\(0 : BitVec 8) = (0 : BitVec 8)/\(0 : BitVec 8) = (0 : BitVec 8)/\(0 : BitVec 8) = (0 : BitVec 8)/\(0 : BitVec 8) = (0 : BitVec 8)/\(0 : BitVec 8) = (0 : BitVec 8)/\(0 : BitVec 8) = (0 : BitVec 8)/\(0 : BitVec 8) = (0 : BitVec 8)/\(0 : BitVec 8) = (0 : BitVec 8)/\(0 : BitVec 8) = (0 : BitVec 8)/\(0 : BitVec 8) = (0 : BitVec 8)/\(0 : BitVec 8) = (0 : BitVec 8)/\(0 : BitVec 8) = (0 : BitVec 8)/\(0 : BitVec 8) = (0 : BitVec 8)/\(0 : BitVec 8) = (0 : BitVec 8)/\(0 : BitVec 8) = (0 : BitVec 8)/\(0 : BitVec 8) = (0 : BitVec 8)/\(0 : BitVec 8) = (0 : BitVec 8)/\(0 : BitVec 8) = (0 : BitVec 8)/\(0 : BitVec 8) = (0 : BitVec 8)/\(0 : BitVec 8) = (0 : BitVec 8)/\(0 : BitVec 8) = (0 : BitVec 8)/\(0 : BitVec 8) = (0 : BitVec 8)/\(0 : BitVec 8) = (0 : BitVec 8)/\(0 : BitVec 8) = (0 : BitVec 8)/\(0 : BitVec 8) = (0 : BitVec 8)/\(0 : BitVec 8) = (0 : BitVec 8)/\(0 : BitVec 8) = (0 : BitVec 8)/\(0 : BitVec 8) = (0 : BitVec 8)/\(0 : BitVec 8) = (0 : BitVec 8)/\(0 : BitVec 8) = (0 : BitVec 8)/\(0 : BitVec 8) = (0 : BitVec 8)/\(0 : BitVec 8) = (0 : BitVec 8)/\x_1.snd = (x7.set 57 (BitVec.setWidth 8 (x1 >>> 48))).set 56 (BitVec.setWidth 8 (x1 >>> 56))/\True)/\∀ (x : Nat × By),let x1 := Q0 (zQ v b x.snd x.fst 0) (zQ v b x.snd x.fst 1) (zQ v b x.snd x.fst 2) (zQ v b x.snd x.fst 3) (zQ v b x.snd x.fst 4) (zQ v b x.snd x.fst 5) (zQ v b x.snd x.fst 6) (zQ v b x.snd x.fst 7); let x2 := List.take (kE (IntKind.i64.wrap ((↑(64 * x.fst) : Int) + (64 : Int))).toNat (↑(64 * x.fst) : Int).toNat) (mN (0 + (↑(64 * x.fst) : Int).toNat) x.snd); let x3 := IntKind.i64.wrap ((↑(64 * x.fst) : Int) + (64 : Int)); List.length x.snd = 128/\List.take (zW (List.length (zR b))) x.snd = vP ah b/\64 * x.fst<=zW (List.length (zR b))->@Bool.rec (fun _ => Prop) (zB (zV v ah b) 0 = zB x1 0/\zB (zV v ah b) 1 = zB x1 1/\zB (zV v ah b) 2 = zB x1 2/\zB (zV v ah b) 3 = zB x1 3/\zB (zV v ah b) 4 = zB x1 4/\zB (zV v ah b) 5 = zB x1 5/\zB (zV v ah b) 6 = zB x1 6/\zB (zV v ah b) 7 = zB x1 7/\zB (zV v ah b) 8 = zB x1 8/\zB (zV v ah b) 9 = zB x1 9/\zB (zV v ah b) 10 = zB x1 10/\zB (zV v ah b) 11 = zB x1 11/\zB (zV v ah b) 12 = zB x1 12/\zB (zV v ah b) 13 = zB x1 13/\zB (zV v ah b) 14 = zB x1 14/\zB (zV v ah b) 15 = zB x1 15/\zB (zV v ah b) 16 = zB x1 16/\zB (zV v ah b) 17 = zB x1 17/\zB (zV v ah b) 18 = zB x1 18/\zB (zV v ah b) 19 = zB x1 19/\zB (zV v ah b) 20 = zB x1 20/\zB (zV v ah b) 21 = zB x1 21/\zB (zV v ah b) 22 = zB x1 22/\zB (zV v ah b) 23 = zB x1 23/\zB (zV v ah b) 24 = zB x1 24/\zB (zV v ah b) 25 = zB x1 25/\zB (zV v ah b) 26 = zB x1 26/\zB (zV v ah b) 27 = zB x1 27/\zB (zV v ah b) 28 = zB x1 28/\zB (zV v ah b) 29 = zB x1 29/\zB (zV v ah b) 30 = zB x1 30/\zB (zV v ah b) 31 = zB x1 31/\True) ((0 : Int)<=(↑(64 * x.fst) : Int)/\(0 : Int)<=x3/\(↑(64 * x.fst) : Int).toNat<=x3.toNat/\x3.toNat<=128/\0 + (↑(64 * x.fst) : Int).toNat + kE x3.toNat (↑(64 * x.fst) : Int).toNat<=List.length x.snd/\x2.length = 64/\∃ (y : Nat × By),4 - y.fst < 4 - x.fst/\(List.length y.snd = 128/\List.take (zW (List.length (zR b))) y.snd = vP ah b/\64 * y.fst<=zW (List.length (zR b)))/\0 = 0/\0 = 0/\0 = 0/\(↑(zW (List.length (zR b))) : Int) = (↑(zW (List.length (zR b))) : Int)/\(↑(64 * y.fst) : Int) = x3/\zQ v b y.snd y.fst 0 = zH x1 x2 0/\zQ v b y.snd y.fst 1 = zH x1 x2 1/\zQ v b y.snd y.fst 2 = zH x1 x2 2/\zQ v b y.snd y.fst 3 = zH x1 x2 3/\zQ v b y.snd y.fst 4 = zH x1 x2 4/\zQ v b y.snd y.fst 5 = zH x1 x2 5/\zQ v b y.snd y.fst 6 = zH x1 x2 6/\zQ v b y.snd y.fst 7 = zH x1 x2 7/\(0 : BitVec 8) = (0 : BitVec 8)/\(0 : BitVec 8) = (0 : BitVec 8)/\(0 : BitVec 8) = (0 : BitVec 8)/\(0 : BitVec 8) = (0 : BitVec 8)/\(0 : BitVec 8) = (0 : BitVec 8)/\(0 : BitVec 8) = (0 : BitVec 8)/\(0 : BitVec 8) = (0 : BitVec 8)/\(0 : BitVec 8) = (0 : BitVec 8)/\(0 : BitVec 8) = (0 : BitVec 8)/\(0 : BitVec 8) = (0 : BitVec 8)/\(0 : BitVec 8) = (0 : BitVec 8)/\(0 : BitVec 8) = (0 : BitVec 8)/\(0 : BitVec 8) = (0 : BitVec 8)/\(0 : BitVec 8) = (0 : BitVec 8)/\(0 : BitVec 8) = (0 : BitVec 8)/\(0 : BitVec 8) = (0 : BitVec 8)/\(0 : BitVec 8) = (0 : BitVec 8)/\(0 : BitVec 8) = (0 : BitVec 8)/\(0 : BitVec 8) = (0 : BitVec 8)/\(0 : BitVec 8) = (0 : BitVec 8)/\(0 : BitVec 8) = (0 : BitVec 8)/\(0 : BitVec 8) = (0 : BitVec 8)/\(0 : BitVec 8) = (0 : BitVec 8)/\(0 : BitVec 8) = (0 : BitVec 8)/\(0 : BitVec 8) = (0 : BitVec 8)/\(0 : BitVec 8) = (0 : BitVec 8)/\(0 : BitVec 8) = (0 : BitVec 8)/\(0 : BitVec 8) = (0 : BitVec 8)/\(0 : BitVec 8) = (0 : BitVec 8)/\(0 : BitVec 8) = (0 : BitVec 8)/\(0 : BitVec 8) = (0 : BitVec 8)/\(0 : BitVec 8) = (0 : BitVec 8)/\y.snd = x.snd/\True) (decide ((↑(64 * x.fst) : Int) < (↑(zW (List.length (zR b))) : Int)))) ((0 : Int)<=Int.ofNat 0/\(0 : Int)<=Int.ofNat 127/\127 < 128/\127 < x1_1.length/\(0 : Int)<=Int.ofNat 8/\(0 : Int)<=Int.ofNat 126/\126 < 128/\126 < (x1_1.set 127 (BitVec.setWidth 8 (x1 >>> 0))).length/\(0 : Int)<=Int.ofNat 16/\(0 : Int)<=Int.ofNat 125/\125 < 128/\125 < ((x1_1.set 127 (BitVec.setWidth 8 (x1 >>> 0))).set 126 (BitVec.setWidth 8 (x1 >>> 8))).length/\(0 : Int)<=Int.ofNat 24/\(0 : Int)<=Int.ofNat 124/\124 < 128/\124 < (((x1_1.set 127 (BitVec.setWidth 8 (x1 >>> 0))).set 126 (BitVec.setWidth 8 (x1 >>> 8))).set 125 (BitVec.setWidth 8 (x1 >>> 16))).length/\(0 : Int)<=Int.ofNat 32/\(0 : Int)<=Int.ofNat 123/\123 < 128/\123 < x3_1.length/\(0 : Int)<=Int.ofNat 40/\(0 : Int)<=Int.ofNat 122/\122 < 128/\122 < (x3_1.set 123 (BitVec.setWidth 8 (x1 >>> 32))).length/\(0 : Int)<=Int.ofNat 48/\(0 : Int)<=Int.ofNat 121/\121 < 128/\121 < x8.length/\(0 : Int)<=Int.ofNat 56/\(0 : Int)<=Int.ofNat 120/\120 < 128/\120 < (x8.set 121 (BitVec.setWidth 8 (x1 >>> 48))).length/\(∃ (x_1 : Nat × By),(List.length x_1.snd = 128/\List.take (zW (List.length (zR b))) x_1.snd = vP ah b/\64 * x_1.fst<=zW (List.length (zR b)))/\0 = 0/\0 = 0/\0 = 0/\(↑(zW (List.length (zR b))) : Int) = (128 : Int)/\(↑(64 * x_1.fst) : Int) = (0 : Int)/\zQ v b x_1.snd x_1.fst 0 = zN v b x 0/\zQ v b x_1.snd x_1.fst 1 = zN v b x 1/\zQ v b x_1.snd x_1.fst 2 = zN v b x 2/\zQ v b x_1.snd x_1.fst 3 = zN v b x 3/\zQ v b x_1.snd x_1.fst 4 = zN v b x 4/\zQ v b x_1.snd x_1.fst 5 = zN v b x 5/\zQ v b x_1.snd x_1.fst 6 = zN v b x 6/\zQ v b x_1.snd x_1.fst 7 = zN v b x 7/\(0 : BitVec 8) = (0 : BitVec 8)/\(0 : BitVec 8) = (0 : BitVec 8)/\(0 : BitVec 8) = (0 : BitVec 8)/\(0 : BitVec 8) = (0 : BitVec 8)/\(0 : BitVec 8) = (0 : BitVec 8)/\(0 : BitVec 8) = (0 : BitVec 8)/\(0 : BitVec 8) = (0 : BitVec 8)/\(0 : BitVec 8) = (0 : BitVec 8)/\(0 : BitVec 8) = (0 : BitVec 8)/\(0 : BitVec 8) = (0 : BitVec 8)/\(0 : BitVec 8) = (0 : BitVec 8)/\(0 : BitVec 8) = (0 : BitVec 8)/\(0 : BitVec 8) = (0 : BitVec 8)/\(0 : BitVec 8) = (0 : BitVec 8)/\(0 : BitVec 8) = (0 : BitVec 8)/\(0 : BitVec 8) = (0 : BitVec 8)/\(0 : BitVec 8) = (0 : BitVec 8)/\(0 : BitVec 8) = (0 : BitVec 8)/\(0 : BitVec 8) = (0 : BitVec 8)/\(0 : BitVec 8) = (0 : BitVec 8)/\(0 : BitVec 8) = (0 : BitVec 8)/\(0 : BitVec 8) = (0 : BitVec 8)/\(0 : BitVec 8) = (0 : BitVec 8)/\(0 : BitVec 8) = (0 : BitVec 8)/\(0 : BitVec 8) = (0 : BitVec 8)/\(0 : BitVec 8) = (0 : BitVec 8)/\(0 : BitVec 8) = (0 : BitVec 8)/\(0 : BitVec 8) = (0 : BitVec 8)/\(0 : BitVec 8) = (0 : BitVec 8)/\(0 : BitVec 8) = (0 : BitVec 8)/\(0 : BitVec 8) = (0 : BitVec 8)/\(0 : BitVec 8) = (0 : BitVec 8)/\x_1.snd = (x8.set 121 (BitVec.setWidth 8 (x1 >>> 48))).set 120 (BitVec.setWidth 8 (x1 >>> 56))/\True)/\∀ (x : Nat × By),let x1 := Q0 (zQ v b x.snd x.fst 0) (zQ v b x.snd x.fst 1) (zQ v b x.snd x.fst 2) (zQ v b x.snd x.fst 3) (zQ v b x.snd x.fst 4) (zQ v b x.snd x.fst 5) (zQ v b x.snd x.fst 6) (zQ v b x.snd x.fst 7); let x2 := List.take (kE (IntKind.i64.wrap ((↑(64 * x.fst) : Int) + (64 : Int))).toNat (↑(64 * x.fst) : Int).toNat) (mN (0 + (↑(64 * x.fst) : Int).toNat) x.snd); let x3 := IntKind.i64.wrap ((↑(64 * x.fst) : Int) + (64 : Int)); List.length x.snd = 128/\List.take (zW (List.length (zR b))) x.snd = vP ah b/\64 * x.fst<=zW (List.length (zR b))->@Bool.rec (fun _ => Prop) (zB (zV v ah b) 0 = zB x1 0/\zB (zV v ah b) 1 = zB x1 1/\zB (zV v ah b) 2 = zB x1 2/\zB (zV v ah b) 3 = zB x1 3/\zB (zV v ah b) 4 = zB x1 4/\zB (zV v ah b) 5 = zB x1 5/\zB (zV v ah b) 6 = zB x1 6/\zB (zV v ah b) 7 = zB x1 7/\zB (zV v ah b) 8 = zB x1 8/\zB (zV v ah b) 9 = zB x1 9/\zB (zV v ah b) 10 = zB x1 10/\zB (zV v ah b) 11 = zB x1 11/\zB (zV v ah b) 12 = zB x1 12/\zB (zV v ah b) 13 = zB x1 13/\zB (zV v ah b) 14 = zB x1 14/\zB (zV v ah b) 15 = zB x1 15/\zB (zV v ah b) 16 = zB x1 16/\zB (zV v ah b) 17 = zB x1 17/\zB (zV v ah b) 18 = zB x1 18/\zB (zV v ah b) 19 = zB x1 19/\zB (zV v ah b) 20 = zB x1 20/\zB (zV v ah b) 21 = zB x1 21/\zB (zV v ah b) 22 = zB x1 22/\zB (zV v ah b) 23 = zB x1 23/\zB (zV v ah b) 24 = zB x1 24/\zB (zV v ah b) 25 = zB x1 25/\zB (zV v ah b) 26 = zB x1 26/\zB (zV v ah b) 27 = zB x1 27/\zB (zV v ah b) 28 = zB x1 28/\zB (zV v ah b) 29 = zB x1 29/\zB (zV v ah b) 30 = zB x1 30/\zB (zV v ah b) 31 = zB x1 31/\True) ((0 : Int)<=(↑(64 * x.fst) : Int)/\(0 : Int)<=x3/\(↑(64 * x.fst) : Int).toNat<=x3.toNat/\x3.toNat<=128/\0 + (↑(64 * x.fst) : Int).toNat + kE x3.toNat (↑(64 * x.fst) : Int).toNat<=List.length x.snd/\x2.length = 64/\∃ (y : Nat × By),4 - y.fst < 4 - x.fst/\(List.length y.snd = 128/\List.take (zW (List.length (zR b))) y.snd = vP ah b/\64 * y.fst<=zW (List.length (zR b)))/\0 = 0/\0 = 0/\0 = 0/\(↑(zW (List.length (zR b))) : Int) = (↑(zW (List.length (zR b))) : Int)/\(↑(64 * y.fst) : Int) = x3/\zQ v b y.snd y.fst 0 = zH x1 x2 0/\zQ v b y.snd y.fst 1 = zH x1 x2 1/\zQ v b y.snd y.fst 2 = zH x1 x2 2/\zQ v b y.snd y.fst 3 = zH x1 x2 3/\zQ v b y.snd y.fst 4 = zH x1 x2 4/\zQ v b y.snd y.fst 5 = zH x1 x2 5/\zQ v b y.snd y.fst 6 = zH x1 x2 6/\zQ v b y.snd y.fst 7 = zH x1 x2 7/\(0 : BitVec 8) = (0 : BitVec 8)/\(0 : BitVec 8) = (0 : BitVec 8)/\(0 : BitVec 8) = (0 : BitVec 8)/\(0 : BitVec 8) = (0 : BitVec 8)/\(0 : BitVec 8) = (0 : BitVec 8)/\(0 : BitVec 8) = (0 : BitVec 8)/\(0 : BitVec 8) = (0 : BitVec 8)/\(0 : BitVec 8) = (0 : BitVec 8)/\(0 : BitVec 8) = (0 : BitVec 8)/\(0 : BitVec 8) = (0 : BitVec 8)/\(0 : BitVec 8) = (0 : BitVec 8)/\(0 : BitVec 8) = (0 : BitVec 8)/\(0 : BitVec 8) = (0 : BitVec 8)/\(0 : BitVec 8) = (0 : BitVec 8)/\(0 : BitVec 8) = (0 : BitVec 8)/\(0 : BitVec 8) = (0 : BitVec 8)/\(0 : BitVec 8) = (0 : BitVec 8)/\(0 : BitVec 8) = (0 : BitVec 8)/\(0 : BitVec 8) = (0 : BitVec 8)/\(0 : BitVec 8) = (0 : BitVec 8)/\(0 : BitVec 8) = (0 : BitVec 8)/\(0 : BitVec 8) = (0 : BitVec 8)/\(0 : BitVec 8) = (0 : BitVec 8)/\(0 : BitVec 8) = (0 : BitVec 8)/\(0 : BitVec 8) = (0 : BitVec 8)/\(0 : BitVec 8) = (0 : BitVec 8)/\(0 : BitVec 8) = (0 : BitVec 8)/\(0 : BitVec 8) = (0 : BitVec 8)/\(0 : BitVec 8) = (0 : BitVec 8)/\(0 : BitVec 8) = (0 : BitVec 8)/\(0 : BitVec 8) = (0 : BitVec 8)/\(0 : BitVec 8) = (0 : BitVec 8)/\y.snd = x.snd/\True) (decide ((↑(64 * x.fst) : Int) < (↑(zW (List.length (zR b))) : Int)))) (decide ((64 : Int) < IntKind.i64.wrap (IntKind.i64.wrap ((↑x6 : Int) + (1 : Int)) + (8 : Int))))) ((0 : Int)<=(↑(64 * x) : Int)/\(0 : Int)<=IntKind.i64.wrap ((↑(64 * x) : Int) + (64 : Int))/\(↑(64 * x) : Int).toNat<=(IntKind.i64.wrap ((↑(64 * x) : Int) + (64 : Int))).toNat/\(IntKind.i64.wrap ((↑(64 * x) : Int) + (64 : Int))).toNat<=List.length b/\x5.length = 64/\∃ (y : Nat),List.length b - 64 * y < List.length b - 64 * x/\(64 * y).le (List.length b)/\ah = ah/\b = b/\0 = 0/\0 = 0/\(↑(64 * y) : Int) = IntKind.i64.wrap ((↑(64 * x) : Int) + (64 : Int))/\zN v b y 0 = zH x2 x5 0/\zN v b y 1 = zH x2 x5 1/\zN v b y 2 = zH x2 x5 2/\zN v b y 3 = zH x2 x5 3/\zN v b y 4 = zH x2 x5 4/\zN v b y 5 = zH x2 x5 5/\zN v b y 6 = zH x2 x5 6/\zN v b y 7 = zH x2 x5 7/\(0 : BitVec 8) = (0 : BitVec 8)/\(0 : BitVec 8) = (0 : BitVec 8)/\(0 : BitVec 8) = (0 : BitVec 8)/\(0 : BitVec 8) = (0 : BitVec 8)/\(0 : BitVec 8) = (0 : BitVec 8)/\(0 : BitVec 8) = (0 : BitVec 8)/\(0 : BitVec 8) = (0 : BitVec 8)/\(0 : BitVec 8) = (0 : BitVec 8)/\(0 : BitVec 8) = (0 : BitVec 8)/\(0 : BitVec 8) = (0 : BitVec 8)/\(0 : BitVec 8) = (0 : BitVec 8)/\(0 : BitVec 8) = (0 : BitVec 8)/\(0 : BitVec 8) = (0 : BitVec 8)/\(0 : BitVec 8) = (0 : BitVec 8)/\(0 : BitVec 8) = (0 : BitVec 8)/\(0 : BitVec 8) = (0 : BitVec 8)/\(0 : BitVec 8) = (0 : BitVec 8)/\(0 : BitVec 8) = (0 : BitVec 8)/\(0 : BitVec 8) = (0 : BitVec 8)/\(0 : BitVec 8) = (0 : BitVec 8)/\(0 : BitVec 8) = (0 : BitVec 8)/\(0 : BitVec 8) = (0 : BitVec 8)/\(0 : BitVec 8) = (0 : BitVec 8)/\(0 : BitVec 8) = (0 : BitVec 8)/\(0 : BitVec 8) = (0 : BitVec 8)/\(0 : BitVec 8) = (0 : BitVec 8)/\(0 : BitVec 8) = (0 : BitVec 8)/\(0 : BitVec 8) = (0 : BitVec 8)/\(0 : BitVec 8) = (0 : BitVec 8)/\(0 : BitVec 8) = (0 : BitVec 8)/\(0 : BitVec 8) = (0 : BitVec 8)/\(0 : BitVec 8) = (0 : BitVec 8)/\True) (decide ((64 : Int)<=IntKind.i64.wrap ((↑(List.length b) : Int) - (↑(64 * x) : Int)))) : Prop) := by kernel_rfl
end Go.Sym
