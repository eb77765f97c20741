/- What SHA-256 is, as a function of lists of bytes, and that the program does it: blocks. -/
import Derived.Test.YtknplceohfeamaaGreatDoorSymC
import Derived.OpenShut
import Derived.Test.YtknplceohfeamaaGreatDoorProg
import Derived.KernelRfl
set_option linter.unusedVariables false
set_option linter.unusedSimpArgs false
namespace Go.Spec
def rgA {α : Type} (F : Nat→α) : Nat→Nat→List α→List α
 | _,0,r => r
 | s,n + 1,r => F s::rgA F (s + 1) n r
def rg {α : Type} (n : Nat) (F : Nat→α) : List α := rgA F 0 n []
def allP (p : Nat→Prop) : Nat→Nat→Prop→Prop
 | _,0,r => r
 | s,n + 1,r => p s∧allP p (s + 1) n r
def andP (p : Nat→Bool) : Nat→Nat→Bool→Bool
 | _,0,r => r
 | s,n + 1,r => p s && andP p (s + 1) n r
theorem allP_of {p : Nat→Prop} {r : Prop} : ∀ (n s : Nat),(∀ j,s≤j→j < s + n→p j)→r→allP p s n r
 | 0,_,_,hr => hr
 | n + 1,s,h,hr => ⟨h s (Nat.le_refl _) (by omega),allP_of n (s + 1) (fun j h1 h2 => h j (by omega) (by omega)) hr⟩
theorem allP_rfl {α : Type} {f : Nat→α} {s n : Nat} {r : Prop} (hr : r) : allP (fun i => f i = f i) s n r := allP_of n s (fun _ _ _ => rfl) hr
theorem allP_tt {s n : Nat} {r : Prop} : allP (fun _ => True) s n r = r := by
 induction n generalizing s with
 | zero => rfl
 | succ n ih => simp only [allP,ih,true_and]
theorem andP_of {p : Nat→Bool} {r : Bool} : ∀ (n s : Nat),(∀ j,s≤j→j < s + n→p j = true)→r = true→andP p s n r = true
 | 0,_,_,hr => hr
 | n + 1,s,h,hr => by
  simp only [andP,h s (Nat.le_refl _) (by omega),Bool.true_and]
  exact andP_of n (s + 1) (fun j h1 h2 => h j (by omega) (by omega)) hr
theorem andP_tt {s n : Nat} {r : Bool} : andP (fun _ => true) s n r = r := by
 induction n generalizing s with
 | zero => rfl
 | succ n ih => simp only [andP,ih,Bool.true_and]
theorem andP_iff {p : Nat→Bool} {r : Bool} : ∀ (n s : Nat),andP p s n r = true ↔ (∀ j,s≤j→j < s + n→p j = true)∧r = true
 | 0,s => by simp only [andP]; exact ⟨fun h => ⟨fun j h1 h2 => by omega,h⟩,fun h => h.2⟩
 | n + 1,s => by
  simp only [andP,Bool.and_eq_true,andP_iff n (s + 1)]
  constructor
  ·rintro ⟨h1,h2,h3⟩
   refine ⟨fun j hj hk => ?_,h3⟩
   rcases Nat.eq_or_lt_of_le hj with e | e
   ·exact e ▸ h1
   ·exact h2 j e (by omega)
  ·rintro ⟨h1,h2⟩
   exact ⟨h1 s (Nat.le_refl _) (by omega),fun j hj hk => h1 j (by omega) (by omega),h2⟩
theorem rgA_eq {α : Type} (F : Nat→α) : ∀ (n s : Nat) (r : List α),rgA F s n r = ((List.range n).map fun i => F (s + i))++r
 | 0,_,_ => rfl
 | n + 1,s,r => by
  rw [rgA,rgA_eq F n (s + 1) r,List.range_succ_eq_map,List.map_cons,List.map_map,List.cons_append]
  congr 2
  apply List.map_congr_left
  intro i _
  simp only [Function.comp_apply]
  congr 1
  omega
theorem rg_eq {α : Type} (n : Nat) (F : Nat→α) : rg n F = (List.range n).map F := by
 unfold rg
 rw [rgA_eq,List.append_nil]
 simp
theorem rg_length {α : Type} (n : Nat) (F : Nat→α) : (rg n F).length = n := by rw [rg_eq]; simp
theorem rg_getD {α : Type} (n : Nat) (F : Nat→α) (i : Nat) (d : α) (h : i < n) : (rg n F).getD i d = F i := by
 rw [rg_eq]
 simp [List.getD,h]
theorem rg_congr {α : Type} {n : Nat} {F G : Nat→α} (h : ∀ i,i < n→F i = G i) : rg n F = rg n G := by
 rw [rg_eq,rg_eq]
 apply List.map_congr_left
 intro i hi
 exact h i (by simpa using hi)
theorem rg_self {α : Type} {n : Nat} {l : List α} (d : α) (h : l.length = n) : rg n (fun i => l.getD i d) = l := by
 rw [rg_eq]
 apply List.ext_getElem
 ·simp [h]
 ·intro i h1 h2
  simp [List.getD,h2]
end Go.Spec
namespace Go.Sym
open Go.ChangeShapes Go.WideShapes
inductive Sh where
 | i (k : IntKind)
 | b
 | s
 | y
def Sh.ok : Sh→AV→Prop
 | .i .u8,a => ∃ x,a = .u8 x
 | .i .u16,a => ∃ x,a = .u16 x
 | .i .u32,a => ∃ x,a = .u32 x
 | .i .u64,a => ∃ x,a = .u64 x
 | .i k,a => ∃ n,a = .int k n∧(Lit.int k n).wf = true
 | .b,a => ∃ c,a = .bool c
 | .s,a => ∃ l,a = .str l∧l.length≤maxLen
 | .y,a => ∃ l c,a = .rb true l (.is c)∧(c = true→l = [])∧l.length≤maxLen
def shAll : List Sh→List AV→Prop
 | [],[] => True
 | k::ss,a::az => k.ok a∧shAll ss az
 | _,_ => False
theorem shAll_append : ∀ {l m : List Sh} {az bs : List AV},shAll l az→shAll m bs→shAll (l++m) (az++bs)
 | [],_,[],_,_,k => k
 | _::_,_,_::_,_,h,k => ⟨h.1,shAll_append h.2 k⟩
 | [],_,_::_,_,h,_ => h.elim
 | _::_,_,[],_,h,_ => h.elim
theorem datas_append {p : Bool} : ∀ {az bs : List AV},datas p az = true→datas p bs = true→datas p (az++bs) = true
 | [],_,_,k => k
 | a::az,_,h,k => by
  simp only [datas,Bool.and_eq_true,List.cons_append] at h ⊢
  exact ⟨h.1,datas_append h.2 k⟩
def flatFs (P : Program) (g : TypeId→Option (List Sh)) : List Field→Nat→Option (List Sh)
 | [],_ => some []
 | f::fs,o => if f.offset = o then (g f.type).bind fun l => if P.cellsOf f.type = l.length then (flatFs P g fs (o + l.length)).map (l++·) else none else none
def flat (P : Program) : Nat→TypeId→Option (List Sh)
 | 0,_ => none
 | f + 1,t => match P.underlying t with
  | some (.int k) => some [.i k]
  | some .bool => some [.b]
  | some .string => some [.s]
  | some (.slice e) => (match P.underlying e with | some (.int .u8) => if P.cellsOf e = 1 then some [.y] else none | _ => none)
  | some (.array n e) => (flat P f e).bind fun l => if P.cellsOf e = l.length∧P.cellsOf t = n * l.length then some (List.replicate n l).flatten else none
  | some (.struct fs) => (flatFs P (flat P f) fs.toList 0).bind fun l => if P.cellsOf t = l.length then some l else none
  | _ => none
section
variable {H : Type} {enc : TypeId × Value→H} {P : Program} {W : World} {base : Nat} {spare : Nat→Bool} {held : Bool}
def Read (W : World) (l : List Sh) (cs : List Value) : Prop := ∃ avs,shAll l avs∧datas true avs = true∧VRels (κW W) avs cs
theorem Read.append {l m : List Sh} {cs ds : List Value} (h : Read W l cs) (k : Read W m ds) : Read W (l++m) (cs++ds) := by
 obtain ⟨a,h1,h2,h3⟩ := h
 obtain ⟨b,k1,k2,k3⟩ := k
 exact ⟨a++b,shAll_append h1 k1,datas_append h2 k2,VRels.append h3 k3⟩
theorem read_arr {l : List Sh} {m : Nat} : ∀ (n : Nat) (cs : List Value),cs.length = n * m→(∀ i,i < n→Read W l ((cs.drop (i * m)).take m))→Read W (List.replicate n l).flatten cs
 | 0,cs,hl,_ => by
  have : cs = [] := List.eq_nil_of_length_eq_zero (by simpa using hl)
  subst this
  exact ⟨[],trivial,rfl,rfl⟩
 | n + 1,cs,hl,h => by
  have h0 := h 0 (by omega)
  simp only [Nat.zero_mul,List.drop_zero] at h0
  have hr := read_arr (m := m) n (cs.drop m) (by rw [List.length_drop,hl,Nat.succ_mul]; omega) (fun i hi => by
   have := h (i + 1) (by omega)
   rw [List.drop_drop]
   rw [Nat.add_mul,Nat.one_mul,Nat.add_comm] at this
   exact this)
  have := h0.append hr
  rw [List.take_append_drop] at this
  simpa [List.replicate_succ] using this
theorem read_fs {g : TypeId→Option (List Sh)} {cs : List Value} : ∀ (fs : List Field) (o : Nat) (l : List Sh),flatFs P g fs o = some l→cs.length = o + l.length →
  (∀ f l',f ∈ fs→g f.type = some l'→Read W l' ((cs.drop f.offset).take (P.cellsOf f.type)))→Read W l (cs.drop o)
 | [],o,l,h,hl,_ => by
  simp only [flatFs,Option.some.injEq] at h
  subst h
  have : cs.drop o = [] := List.drop_eq_nil_of_le (by simp at hl; omega)
  rw [this]
  exact ⟨[],trivial,rfl,rfl⟩
 | f::fs,o,l,h,hl,hr => by
  simp only [flatFs] at h
  split at h
  ·rename_i ho
   simp only [Option.bind_eq_some_iff] at h
   obtain ⟨l1,h1,h2⟩ := h
   split at h2
   ·rename_i hc
    simp only [Option.map_eq_some_iff] at h2
    obtain ⟨l2,h3,rfl⟩ := h2
    have k1 := hr f l1 (by simp) h1
    rw [ho,hc] at k1
    have k2 := read_fs fs (o + l1.length) l2 h3 (by simp at hl; omega) (fun f' l' hf hg => hr f' l' (by simp [hf]) hg)
    have := k1.append k2
    rw [← List.drop_drop,List.take_append_drop] at this
    exact this
   ·cases h2
  ·cases h
theorem rd_flat : ∀ (f : Nat) (t : TypeId) (l : List Sh) (fuel : Nat) (cs : List Value) (x : DataW H × List MemPlace),flat P f t = some l→DataW.trod enc P W base spare held fuel t cs = some x→Read W l cs
 | 0,_,_,_,_,_,h,_ => by cases h
 | f + 1,t,l,fuel,cs,x,h,hd => by
  unfold flat at h
  split at h
  ·rename_i k ht
   simp only [Option.some.injEq] at h
   subst h
   obtain ⟨n,rfl,_,hw⟩ := DataW.trod_int ht hd
   have hn : absC0 (.int k n) = absC0 (.int k n) := rfl
   cases k
   case u8 =>
    simp [Lit.wf,IntKind.min,IntKind.max,IntKind.signed,IntKind.bits] at hw
    exact ⟨[.u8 (BitVec.ofNat 8 n.toNat)],⟨⟨_,rfl⟩,trivial⟩,rfl,_,[],rfl,by simp only [VRel,BitVec.toNat_ofNat]; congr 1; omega,rfl⟩
   case u16 =>
    simp [Lit.wf,IntKind.min,IntKind.max,IntKind.signed,IntKind.bits] at hw
    exact ⟨[.u16 (BitVec.ofNat 16 n.toNat)],⟨⟨_,rfl⟩,trivial⟩,rfl,_,[],rfl,by simp only [VRel,BitVec.toNat_ofNat]; congr 1; omega,rfl⟩
   case u32 =>
    simp [Lit.wf,IntKind.min,IntKind.max,IntKind.signed,IntKind.bits] at hw
    exact ⟨[.u32 (BitVec.ofNat 32 n.toNat)],⟨⟨_,rfl⟩,trivial⟩,rfl,_,[],rfl,by simp only [VRel,BitVec.toNat_ofNat]; congr 1; omega,rfl⟩
   case u64 =>
    simp [Lit.wf,IntKind.min,IntKind.max,IntKind.signed,IntKind.bits] at hw
    exact ⟨[.u64 (BitVec.ofNat 64 n.toNat)],⟨⟨_,rfl⟩,trivial⟩,rfl,_,[],rfl,by simp only [VRel,BitVec.toNat_ofNat]; congr 1; omega,rfl⟩
   all_goals exact ⟨[.int _ n],⟨⟨_,rfl,hw⟩,trivial⟩,rfl,_,[],rfl,rfl,rfl⟩
  ·rename_i ht
   simp only [Option.some.injEq] at h
   subst h
   obtain ⟨b,rfl,_⟩ := DataW.trod_bool ht hd
   exact ⟨[.bool b],⟨⟨_,rfl⟩,trivial⟩,rfl,_,[],rfl,rfl,rfl⟩
  ·rename_i ht
   simp only [Option.some.injEq] at h
   subst h
   obtain ⟨s,rfl,_,hs⟩ := DataW.trod_string ht hd
   have hb := bytesStr_strBytes s
   refine ⟨[.str (strBytes s)],⟨⟨_,rfl,?_⟩,trivial⟩,rfl,_,[],rfl,by simp only [VRel,hb],rfl⟩
   rw [← bytesStr_size,hb]
   exact hs
  ·rename_i e ht
   split at h
   ·rename_i he
    split at h
    ·rename_i hc
     simp only [Option.some.injEq] at h
     subst h
     obtain ⟨v,l,c,rfl,h1,h2,h3⟩ := rd_bytes ht he hc hd
     exact ⟨[.rb true l (.is c)],⟨⟨l,c,rfl,h1,h2⟩,trivial⟩,rfl,_,[],rfl,h3,rfl⟩
    ·cases h
   ·cases h
  ·rename_i n e ht
   simp only [Option.bind_eq_some_iff] at h
   obtain ⟨l1,h1,h2⟩ := h
   split at h2
   ·rename_i hc
    simp only [Option.some.injEq] at h2
    subst h2
    obtain ⟨xs,m,_,_,hl,hn,hel⟩ := DataW.trod_array ht hd
    refine read_arr (m := l1.length) n cs (by rw [hl,hc.2]) fun i hi => ?_
    have := hel i hi
    rw [List.getElem?_eq_getElem (by omega),hc.1] at this
    exact rd_flat f e l1 _ _ _ h1 this
   ·cases h2
  ·rename_i fs ht
   simp only [Option.bind_eq_some_iff] at h
   obtain ⟨l1,h1,h2⟩ := h
   split at h2
   ·rename_i hc
    simp only [Option.some.injEq] at h2
    subst h2
    obtain ⟨xs,m,_,_,hl,hn,hel⟩ := DataW.trod_struct ht hd
    have := read_fs (W := W) (cs := cs) fs.toList 0 l1 h1 (by rw [hl,hc]; omega) fun f0 l' hf hg => by
     obtain ⟨i,hi⟩ := List.getElem?_of_mem hf
     have hlt := (List.getElem?_eq_some_iff.1 hi).1
     have := hel i f0 (by simpa using hi)
     rw [List.getElem?_eq_getElem (by simp at hlt; omega)] at this
     exact rd_flat f f0.type l' _ _ _ hg this
    simpa using this
   ·cases h2
  ·cases h
theorem agg_of_cells {v : Value} {avs : List AV} (h : VRels (κW W) avs v.cells.toList) (hl : 2≤avs.length) : VRel (κW W) (.agg avs) v := by
 have hn := h.length
 cases v
 case agg cs => exact ⟨cs,rfl,h⟩
 all_goals (exfalso; simp [Value.cells] at hn; omega)
theorem sh_u8 : ∀ {n : Nat} {avs : List AV},shAll (List.replicate n (.i .u8)) avs→∃ l : List (BitVec 8),l.length = n∧avs = l.map .u8
 | 0,[],_ => ⟨[],rfl,rfl⟩
 | 0,_::_,h => h.elim
 | n + 1,[],h => h.elim
 | n + 1,a::az,h => by
  obtain ⟨⟨x,rfl⟩,h2⟩ := h
  obtain ⟨l,h3,rfl⟩ := sh_u8 h2
  exact ⟨x::l,by simp [h3],rfl⟩
end
theorem sh_cons {k : Sh} {ks : List Sh} {avs : List AV} (h : shAll (k::ks) avs) : ∃ a az,avs = a::az∧k.ok a∧shAll ks az := by
 cases avs with
 | nil => exact h.elim
 | cons a az => exact ⟨a,az,rfl,h.1,h.2⟩
theorem sh_nil {avs : List AV} (h : shAll [] avs) : avs = [] := by
 cases avs with
 | nil => rfl
 | cons a az => exact h.elim
theorem sh_i64 {a : AV} (h : (Sh.i .i64).ok a) : ∃ n,a = .int .i64 n := by
 obtain ⟨n,h,_⟩ := h
 exact ⟨n,h⟩
theorem rel_u32 {κ : Ker} {n : Int} (h : (Lit.int .u32 n).wf = true) : VRel κ (.u32 (BitVec.ofInt 32 n)) (.int .u32 n) := by
 simp [Lit.wf,IntKind.has,IntKind.min,IntKind.max,IntKind.signed,IntKind.bits] at h
 simp only [VRel,BitVec.toNat_ofInt]
 congr 1
 omega
theorem rel_u64 {κ : Ker} {n : Int} (h : (Lit.int .u64 n).wf = true) : VRel κ (.u64 (BitVec.ofInt 64 n)) (.int .u64 n) := by
 simp [Lit.wf,IntKind.has,IntKind.min,IntKind.max,IntKind.signed,IntKind.bits] at h
 simp only [VRel,BitVec.toNat_ofInt]
 congr 1
 omega
theorem rel_u8 {κ : Ker} {n : Int} (h : (Lit.int .u8 n).wf = true) : VRel κ (.u8 (BitVec.ofInt 8 n)) (.int .u8 n) := by
 simp [Lit.wf,IntKind.has,IntKind.min,IntKind.max,IntKind.signed,IntKind.bits] at h
 simp only [VRel,BitVec.toNat_ofInt]
 congr 1
 omega
end Go.Sym
namespace Go.Spec
abbrev W32 := BitVec 32
abbrev By := List (BitVec 8)
def rl (x : W32) (k : Nat) : W32 := x <<< k ||| x >>> (32 - k)
def bigS1 (e : W32) : W32 := rl e 26 ^^^ rl e 21 ^^^ rl e 7
def bigS0 (a : W32) : W32 := rl a 30 ^^^ rl a 19 ^^^ rl a 10
def smS0 (x : W32) : W32 := rl x 25 ^^^ rl x 14 ^^^ x >>> 3
def smS1 (x : W32) : W32 := rl x 15 ^^^ rl x 13 ^^^ x >>> 10
def shaK : List W32 := [
 0x428a2f98#32,0x71374491#32,0xb5c0fbcf#32,0xe9b5dba5#32,0x3956c25b#32,0x59f111f1#32,0x923f82a4#32,0xab1c5ed5#32,
 0xd807aa98#32,0x12835b01#32,0x243185be#32,0x550c7dc3#32,0x72be5d74#32,0x80deb1fe#32,0x9bdc06a7#32,0xc19bf174#32,
 0xe49b69c1#32,0xefbe4786#32,0x0fc19dc6#32,0x240ca1cc#32,0x2de92c6f#32,0x4a7484aa#32,0x5cb0a9dc#32,0x76f988da#32,
 0x983e5152#32,0xa831c66d#32,0xb00327c8#32,0xbf597fc7#32,0xc6e00bf3#32,0xd5a79147#32,0x06ca6351#32,0x14292967#32,
 0x27b70a85#32,0x2e1b2138#32,0x4d2c6dfc#32,0x53380d13#32,0x650a7354#32,0x766a0abb#32,0x81c2c92e#32,0x92722c85#32,
 0xa2bfe8a1#32,0xa81a664b#32,0xc24b8b70#32,0xc76c51a3#32,0xd192e819#32,0xd6990624#32,0xf40e3585#32,0x106aa070#32,
 0x19a4c116#32,0x1e376c08#32,0x2748774c#32,0x34b0bcb5#32,0x391c0cb3#32,0x4ed8aa4a#32,0x5b9cca4f#32,0x682e6ff3#32,
 0x748f82ee#32,0x78a5636f#32,0x84c87814#32,0x8cc70208#32,0x90befffa#32,0xa4506ceb#32,0xbef9a3f7#32,0xc67178f2#32]
def shaBegin : List W32 := [0x6a09e667#32,0xbb67ae85#32,0x3c6ef372#32,0xa54ff53a#32,0x510e527f#32,0x9b05688c#32,0x1f83d9ab#32,0x5be0cd19#32]
def partW (l : By) (i : Nat) : Nat→W32
 | 0 => 0
 | j + 1 => partW l i j <<< 8 ||| (l.getD (4 * i + j) 0).setWidth 32
def word (l : By) (i : Nat) : W32 := partW l i 4
def schStep (L : List W32) (i : Nat) : W32 := smS1 (L.getD (i - 2) 0) + L.getD (i - 7) 0 + smS0 (L.getD (i - 15) 0) + L.getD (i - 16) 0
def schL (l : By) : Nat→List W32
 | 0 => (List.range 16).map (word l)
 | k + 1 => schL l k++[schStep (schL l k) (16 + k)]
def sch (l : By) (i : Nat) : W32 := (schL l 48).getD i 0
def rnd (k w : W32) (v : Nat→W32) : Nat→W32 :=
 fun i =>
  match i with
  | 0 => (v 7 + bigS1 (v 4) + ((v 4 &&& v 5) ^^^ (~~~(v 4) &&& v 6)) + k + w) + (bigS0 (v 0) + ((v 0 &&& v 1) ^^^ (v 0 &&& v 2) ^^^ (v 1 &&& v 2)))
  | 1 => v 0
  | 2 => v 1
  | 3 => v 2
  | 4 => v 3 + (v 7 + bigS1 (v 4) + ((v 4 &&& v 5) ^^^ (~~~(v 4) &&& v 6)) + k + w)
  | 5 => v 4
  | 6 => v 5
  | 7 => v 6
  | _ => 0
def rnds (W : Nat→W32) (v : Nat→W32) : Nat→Nat→W32
 | 0 => v
 | i + 1 => rnd (shaK.getD i 0) (W i) (rnds W v i)
def compress (v : Nat→W32) (l : By) : Nat→W32 := fun i => v i + rnds (sch l) v 64 i
def blocks (v : Nat→W32) (l : By) : Nat→Nat→W32
 | 0 => v
 | j + 1 => compress (blocks v l j) ((l.drop (64 * j)).take 64)
def outByte (v : Nat→W32) (j : Nat) : BitVec 8 := (v (j / 4) >>> (24 - 8 * (j % 4))).setWidth 8
def outBytes (v : Nat→W32) : By := (List.range 32).map (outByte v)
end Go.Spec
namespace Go.Sym
open Go.Spec
def aggL32 (L : List W32) : AV := .agg (L.map .u32)
def agg8 (v : Nat→W32) : AV := .agg ((List.range 8).map fun i => .u32 (v i))
def aggB (n : Nat) (f : Nat→BitVec 8) : AV := .agg ((List.range n).map fun i => .u8 (f i))
def agg64 (f : Nat→W32) : AV := .agg ((List.range 64).map fun i => .u32 (f i))
end Go.Sym
namespace Go.Spec
theorem schL_len (l : By) : ∀ k,(schL l k).length = 16 + k
 | 0 => by simp [schL]
 | k + 1 => by simp [schL,schL_len l k]; omega
theorem schL_get (l : By) : ∀ k m i,k≤m→i < 16 + k→(schL l m).getD i 0 = (schL l k).getD i 0 := by
  intro k m i hkm hi
  induction m with
  | zero => obtain rfl : k = 0 := by omega
            rfl
  | succ m ih =>
    rcases Nat.lt_or_ge m k with h | h
    · obtain rfl : k = m + 1 := by omega
      rfl
    · rw [← ih h]
      simp only [schL,List.getD]
      rw [List.getElem?_append_left (by rw [schL_len]; omega)]
theorem sch_word (l : By) (i : Nat) (h : i < 16) : sch l i = word l i := by
 unfold sch
 rw [schL_get l 0 48 i (by omega) (by omega)]
 simp [schL,List.getD,h]
theorem sch_step (l : By) (i : Nat) (h : 16≤i) (h2 : i < 64) : sch l i = smS1 (sch l (i - 2)) + sch l (i - 7) + smS0 (sch l (i - 15)) + sch l (i - 16) := by
 have e : sch l i = schStep (schL l (i - 16)) i := by
  unfold sch
  rw [schL_get l (i - 16 + 1) 48 i (by omega) (by omega)]
  simp only [schL,List.getD]
  rw [List.getElem?_append_right (by rw [schL_len]; omega),schL_len]
  rw [show i - (16 + (i - 16)) = 0 by omega,show 16 + (i - 16) = i by omega]
  rfl
 rw [e]
 unfold schStep sch
 rw [schL_get l (i - 16) 48 (i - 2) (by omega) (by omega),schL_get l (i - 16) 48 (i - 7) (by omega) (by omega),schL_get l (i - 16) 48 (i - 15) (by omega) (by omega),schL_get l (i - 16) 48 (i - 16) (by omega) (by omega)]
end Go.Spec
namespace Go.Spec
def st8 (a b c d e f g h : W32) : Nat→W32 := fun i => match i with | 0 => a | 1 => b | 2 => c | 3 => d | 4 => e | 5 => f | 6 => g | 7 => h | _ => 0
def begin8 : Nat→W32 := st8 0x6a09e667#32 0xbb67ae85#32 0x3c6ef372#32 0xa54ff53a#32 0x510e527f#32 0x9b05688c#32 0x1f83d9ab#32 0x5be0cd19#32
theorem st8_eta {v : Nat→W32} (hv : ∀ i,8≤i→v i = 0) : st8 (v 0) (v 1) (v 2) (v 3) (v 4) (v 5) (v 6) (v 7) = v := by
 funext i
 match i with
 | 0 | 1 | 2 | 3 | 4 | 5 | 6 | 7 => rfl
 | i + 8 => rw [hv (i + 8) (by omega)]; rfl
theorem st8_end (a b c d e f g h : W32) (i : Nat) (hi : 8≤i) : st8 a b c d e f g h i = 0 := by
 obtain ⟨i,rfl⟩ : ∃ j,i = j + 8 := ⟨i - 8,by omega⟩
 rfl
theorem rnd_end (k w : W32) (v : Nat→W32) (i : Nat) (hi : 8≤i) : rnd k w v i = 0 := by
 obtain ⟨i,rfl⟩ : ∃ j,i = j + 8 := ⟨i - 8,by omega⟩
 rfl
theorem compress_end {v : Nat→W32} (hv : ∀ i,8≤i→v i = 0) (l : By) (i : Nat) (hi : 8≤i) : compress v l i = 0 := by
 unfold compress
 rw [hv i hi]
 show 0 + rnd _ _ _ i = 0
 rw [rnd_end _ _ _ _ hi]
 rfl
theorem blocks_end {v : Nat→W32} (hv : ∀ i,8≤i→v i = 0) (l : By) : ∀ (j i : Nat),8≤i→blocks v l j i = 0
 | 0,i,hi => hv i hi
 | j + 1,i,hi => compress_end (fun i hi => blocks_end hv l j i hi) _ i hi
theorem begin8_end (i : Nat) (hi : 8≤i) : begin8 i = 0 := st8_end _ _ _ _ _ _ _ _ i hi
end Go.Spec
namespace Go.Spec
def count8 (c : BitVec 64) : By := (List.range 8).map fun i => (c >>> (8 * (7 - i))).setWidth 8
def rest64 (l : By) : By := l.drop (64 * (l.length / 64))
def tailEnd (n : Nat) : Nat := if 64 < n + 9 then 128 else 64
def padTail (ahead : BitVec 64) (l : By) : By :=
 rest64 l++(0x80#8::(List.replicate (tailEnd (rest64 l).length - (rest64 l).length - 9) 0#8++count8 (8#64 * (ahead + BitVec.ofNat 64 l.length))))
def shaSt (v : Nat→W32) (ahead : BitVec 64) (l : By) : Nat→W32 :=
 blocks (blocks v l (l.length / 64)) (padTail ahead l) (tailEnd (rest64 l).length / 64)
end Go.Spec
namespace Go.Spec
def tailSt (v : Nat→W32) (b T : By) (k : Nat) : Nat→W32 := blocks (blocks v b (b.length / 64)) T k
end Go.Spec
namespace Go.Spec
theorem shutEx {α : Type} (a : α) : ∃ b,b = a := ⟨a,rfl⟩
noncomputable def shut {α : Type} (a : α) : α := Classical.choose (shutEx a)
theorem shut_eq {α : Type} (a : α) : shut a = a := Classical.choose_spec (shutEx a)
noncomputable def sameB (a b : By) : Bool := shut (decide (a = b))
theorem sameB_eq (a b : By) : sameB a b = decide (a = b) := shut_eq _
def shaU (l : By) : Nat→BitVec 8 := outByte (shaSt begin8 0#64 l)
noncomputable def shaB (l : By) : Nat→BitVec 8 := shut (shaU l)
theorem shaB_eq (l : By) : shaB l = shaU l := shut_eq _
noncomputable def sha (l : By) : By := (List.range 32).map (shaB l)
noncomputable def macKey (key : By) : By := if 64 < key.length then sha key else key
noncomputable def padBlock (key : By) (pad : BitVec 8) : By := (List.range 64).map fun i => (macKey key).getD i 0 ^^^ pad
noncomputable def padSt (key : By) (pad : BitVec 8) : Nat→W32 := compress begin8 (padBlock key pad)
def eta8 (v : Nat→W32) : Nat→W32 := st8 (v 0) (v 1) (v 2) (v 3) (v 4) (v 5) (v 6) (v 7)
noncomputable def macIn (key b : By) : By := (List.range 32).map (outByte (shaSt (eta8 (padSt key 0x36#8)) 64#64 b))
noncomputable def macU (key b : By) : Nat→BitVec 8 := outByte (shaSt (eta8 (padSt key 0x5c#8)) 64#64 (macIn key b))
noncomputable def macB (key b : By) : Nat→BitVec 8 := shut (macU key b)
theorem macB_un (key b : By) : macB key b = macU key b := shut_eq _
theorem eta8_padSt (key : By) (p : BitVec 8) : eta8 (padSt key p) = padSt key p := st8_eta (compress_end begin8_end _)
end Go.Spec
namespace Go.Spec
def orD (a b : By) : Nat→BitVec 8
 | 0 => 0
 | i + 1 => orD a b i ||| (a.getD i 0 ^^^ b.getD i 0)
theorem or_zero {x y : BitVec 8} : x ||| y = 0#8 ↔ x = 0#8∧y = 0#8 := by
 constructor
 ·intro h
  have hb : ∀ i,(x ||| y).getLsbD i = false := fun i => by rw [h]; simp
  constructor <;> (apply BitVec.eq_of_getLsbD_eq; intro i hi; have := hb i; simp at this; simp [this])
 ·rintro ⟨rfl,rfl⟩; rfl
theorem xor_zero {x y : BitVec 8} : x ^^^ y = 0#8 ↔ x = y := by
 constructor
 ·intro h
  apply BitVec.eq_of_getLsbD_eq
  intro i hi
  have : (x ^^^ y).getLsbD i = false := by rw [h]; simp
  simpa using this
 ·rintro rfl; simp
theorem orD_zero (a b : By) : ∀ n,orD a b n = 0#8 ↔ ∀ i,i < n→a.getD i 0 = b.getD i 0
 | 0 => by simp [orD]
 | n + 1 => by
  simp only [orD]
  rw [or_zero,orD_zero a b n,xor_zero]
  constructor
  ·rintro ⟨h1,h2⟩ i hi
   rcases Nat.lt_succ_iff_lt_or_eq.1 hi with h | h
   ·exact h1 i h
   ·rw [h]; exact h2
  ·intro h
   exact ⟨fun i hi => h i (by omega),h n (by omega)⟩
theorem orD_same (a b : By) (hl : a.length = b.length) : orD a b a.length = 0#8 ↔ a = b := by
 rw [orD_zero]
 constructor
 ·intro h
  apply List.ext_getElem hl
  intro i h1 h2
  have := h i h1
  simpa [List.getD,h1,h2] using this
 ·rintro rfl i _; rfl
end Go.Spec
namespace Go.Sym
def allRefl {α : Type} (f : Nat→α) : Nat→Nat→Prop
 | _,0 => True
 | i,n + 1 => f i = f i∧allRefl f (i + 1) n
theorem allRefl_true {α : Type} (f : Nat→α) : ∀ n i,allRefl f i n
 | 0,_ => trivial
 | n + 1,i => ⟨rfl,allRefl_true f n (i + 1)⟩
end Go.Sym
namespace Go.Spec
def lowR (x : W32) : Nat→W32
 | 0 => 0
 | i + 1 => lowR x i ||| (if x.getLsbD i then 1#32 else 0#32) <<< i
theorem lowR_get (x : W32) (j : Nat) (hj : j < 32) : ∀ i,i≤32→(lowR x i).getLsbD j = (decide (j < i) && x.getLsbD j)
 | 0,_ => by simp [lowR]
 | i + 1,hi => by
  simp only [lowR,BitVec.getLsbD_or,lowR_get x j hj i (by omega),BitVec.getLsbD_shiftLeft]
  rcases Nat.lt_trichotomy j i with h | h | h
  ·simp [h,show j < i + 1 by omega]
  ·subst h
   have hb : ∀ bb : Bool,(if bb = true then 1#32 else 0#32 : W32).getLsbD 0 = bb := by decide
   simp only [Nat.lt_irrefl,decide_false,Bool.false_and,Bool.false_or,Nat.sub_self,hj,decide_true,Bool.true_and,Bool.not_false,hb,Nat.lt_succ_self]
  ·have h1 : ¬ j < i := by omega
   have h2 : ¬ j < i + 1 := by omega
   have h3 : j - i ≠ 0 := by omega
   split <;> simp [h1,h2,h3]
theorem lowR_all (x : W32) : lowR x 32 = x := by
 apply BitVec.eq_of_getLsbD_eq
 intro j hj
 rw [lowR_get x j hj 32 (by omega)]
 simp [hj]
theorem bit_eq (x : W32) (i : Nat) : x >>> i &&& 1#32 = if x.getLsbD i then 1#32 else 0#32 := by
 apply BitVec.eq_of_getLsbD_eq
 intro j hj
 simp only [BitVec.getLsbD_and,BitVec.getLsbD_ushiftRight]
 cases j with
 | zero => by_cases h : x.getLsbD i <;> simp [h]
 | succ j => by_cases h : x.getLsbD i <;> simp [h]
def chS (a b c : W32) : W32 := a &&& b ^^^ ~~~a &&& c
def mjS (a b c : W32) : W32 := a &&& b ^^^ a &&& c ^^^ b &&& c
end Go.Spec
namespace Go.Spec
theorem mj_bit (a b c : W32) (i : Nat) (_hi : i < 32) : ((a >>> i &&& 1#32) + (b >>> i &&& 1#32) + (c >>> i &&& 1#32)) / 2#32 = if (mjS a b c).getLsbD i then 1#32 else 0#32 := by
 rw [bit_eq,bit_eq,bit_eq]
 have : (mjS a b c).getLsbD i = ((a.getLsbD i && b.getLsbD i) ^^ (a.getLsbD i && c.getLsbD i) ^^ (b.getLsbD i && c.getLsbD i)) := by
  simp only [mjS,BitVec.getLsbD_xor,BitVec.getLsbD_and]
 rw [this]
 generalize a.getLsbD i = x
 generalize b.getLsbD i = y
 generalize c.getLsbD i = z
 revert x y z
 decide
theorem ch_bit1 (a b c : W32) (i : Nat) (_hi : i < 32) (h : a >>> i &&& 1#32 = 1#32) : b >>> i &&& 1#32 = if (chS a b c).getLsbD i then 1#32 else 0#32 := by
 rw [bit_eq] at h ⊢
 have ha : a.getLsbD i = true := by
  cases hb : a.getLsbD i with
  | true => rfl
  | false => rw [hb] at h; simp at h
 have : (chS a b c).getLsbD i = b.getLsbD i := by
  simp only [chS,BitVec.getLsbD_xor,BitVec.getLsbD_and,BitVec.getLsbD_not,ha]
  simp
 rw [this]
theorem ch_bit0 (a b c : W32) (i : Nat) (hi : i < 32) (h : ¬ a >>> i &&& 1#32 = 1#32) : c >>> i &&& 1#32 = if (chS a b c).getLsbD i then 1#32 else 0#32 := by
 rw [bit_eq] at h ⊢
 have ha : a.getLsbD i = false := by
  cases hb : a.getLsbD i with
  | false => rfl
  | true => rw [hb] at h; simp at h
 have : (chS a b c).getLsbD i = c.getLsbD i := by
  simp only [chS,BitVec.getLsbD_xor,BitVec.getLsbD_and,BitVec.getLsbD_not,ha,hi]
  simp
 rw [this]
theorem mul256 (x : W32) (z : BitVec 8) : x * 256#32 + z.setWidth 32 = x <<< 8 ||| z.setWidth 32 := by
 have e : x * 256#32 = x <<< 8 := by
  apply BitVec.eq_of_toNat_eq
  simp [BitVec.toNat_mul,BitVec.toNat_shiftLeft,Nat.shiftLeft_eq]
 rw [e]
 apply BitVec.add_eq_or_of_and_eq_zero
 apply BitVec.eq_of_getLsbD_eq
 intro j hj
 simp only [BitVec.getLsbD_and,BitVec.getLsbD_shiftLeft,BitVec.getLsbD_zero]
 by_cases h8 : j < 8
 ·simp [h8]
 ·have : (z.setWidth 32).getLsbD j = false := by
   rw [BitVec.getLsbD_setWidth,BitVec.getLsbD_of_ge _ _ (by omega)]
   simp
  simp [this]
def zc (n : Nat) : Nat := (119 - n % 64) % 64
def shaPad (b : By) : By := b++(0x80#8::(List.replicate (zc b.length) 0#8++count8 (BitVec.ofNat 64 b.length * 8#64)))
def refSt (b : By) (j : Nat) : Nat→W32 := blocks begin8 (shaPad b) j
def refBlk (b : By) (j : Nat) : By := ((shaPad b).drop (64 * j)).take 64
end Go.Spec
namespace Go.Spec
theorem count8_len (c : BitVec 64) : (count8 c).length = 8 := by simp [count8]
theorem shaPad_len (b : By) : (shaPad b).length = b.length + 1 + zc b.length + 8 := by
 simp only [shaPad,List.length_append,List.length_cons,List.length_replicate,count8_len]; omega
theorem shaPad_mod (b : By) : (shaPad b).length % 64 = 0 := by
 rw [shaPad_len]; unfold zc; omega
theorem count8_step (c : BitVec 64) (i : Nat) (hi : i < 8) : (count8 c).take i++[(c >>> (8 * (7 - i))).setWidth 8] = (count8 c).take (i + 1) := by
 rw [List.take_add_one]
 congr 1
 simp [count8,hi]
theorem refBlk_get (b : By) (j k : Nat) (hk : k < 64) : (refBlk b j).getD k 0 = (shaPad b).getD (64 * j + k) 0 := by
 unfold refBlk
 simp only [List.getD]
 rw [List.getElem?_take,if_pos hk,List.getElem?_drop]
end Go.Spec
namespace Go.Sym
open Go.Proofs Go.Spec
noncomputable def gl0 : Gl := fun g => match g with
 | 0 => shaBegin.map fun x => .int .u32 x.toNat
 | 1 => shaK.map fun x => .int .u32 x.toNat
 | _ => []
noncomputable def C0 : Ctx := .none []
theorem ok0 : COKs Tryz.prog gl0 C0 := COKs.none
noncomputable def A1 : Ctx := C0.exe Tryz.prog gl0 [] 3000 Tryz.f299.params.size 299 Tryz.f299
theorem okA1 : COKs Tryz.prog gl0 A1 := ok0.exe [] 3000 _ (by kernel_rfl) (by kernel_rfl) (by kernel_rfl) (fun args w => by kernel_rfl)
noncomputable def A2 : Ctx := A1.exe Tryz.prog gl0 [] 3000 Tryz.f298.params.size 298 Tryz.f298
theorem okA2 : COKs Tryz.prog gl0 A2 := okA1.exe [] 3000 _ (by kernel_rfl) (by kernel_rfl) (by kernel_rfl) (fun args w => by kernel_rfl)
noncomputable def A3 : Ctx := A2.exe Tryz.prog gl0 [] 3000 Tryz.f270.params.size 270 Tryz.f270
theorem okA3 : COKs Tryz.prog gl0 A3 := okA2.exe [] 3000 _ (by kernel_rfl) (by kernel_rfl) (by kernel_rfl) (fun args w => by kernel_rfl)
noncomputable def A4 : Ctx := A3.exe Tryz.prog gl0 [] 3000 Tryz.f297.params.size 297 Tryz.f297
theorem okA4 : COKs Tryz.prog gl0 A4 := okA3.exe [] 3000 _ (by kernel_rfl) (by kernel_rfl) (by kernel_rfl) (fun args w => by kernel_rfl)
theorem getD_word (l : By) : True := trivial
def lsSpI (l : By) (i : Nat) : LS := ⟨Nat,fun j => [(0,.rb false l .unk),(4,.int .i64 i),(8,.int .i64 i),(17,.rb false ((l.take (4 * i + 4)).drop (4 * i)) .unk),(18,.int .i64 4),(19,.int .i64 j),(2,.ptr 100 0 0 0),(3,.ptr 101 0 0 0)],
 fun j => [(100,⟨.rows 1 64 fun _ => [.u32 0],true,0⟩),(101,⟨.rows 1 64 fun y => [.u32 (if y < i then word l y else if y = i then partW l i j else 0)],true,0⟩)],200,fun j => 4 - j,fun j => j≤4,fun _ => []⟩
def lsSp1 (l : By) : LS := ⟨Nat,fun i => [(0,.rb false l .unk),(8,.int .i64 i),(2,.ptr 100 0 0 0),(3,.ptr 101 0 0 0)],
 fun i => [(100,⟨.rows 1 64 fun _ => [.u32 0],true,0⟩),(101,⟨.rows 1 64 fun y => [.u32 (if y < i then word l y else 0)],true,0⟩)],200,fun i => 64 - i,fun i => i≤16,fun i => [(7,lsSpI l i)]⟩
def lsSp2 (l : By) : LS := ⟨Nat,fun i => [(7,.int .i64 i),(2,.ptr 100 0 0 0),(3,.ptr 101 0 0 0)],
 fun i => [(100,⟨.rows 1 64 fun _ => [.u32 0],true,0⟩),(101,⟨.rows 1 64 fun y => [.u32 (if y < i then sch l y else 0)],true,0⟩)],200,fun i => 64 - i,fun i => 16≤i∧i≤64,fun _ => []⟩
def gSp (xs : List AV) (bs : List ABlk) : TL := match xs,bs with | [.rb false l .unk],[] => .ok ⟨[l.length = 64],agg64 (sch l),[],[]⟩ | _,_ => .no
def spSp : Spec := ⟨[.by0],fun _ _ => [],fun _ _ => [],gSp⟩
def symSp : List Nat := [2,3,25,26,31,41,42,46,47,51,52,57,58,60]
set_option maxRecDepth 100000 in
theorem vc33 (l : By) : bodyP Tryz.prog (A4.withSym symSp) gl0 [] [(4,lsSp1 l),(13,lsSp2 l)] 3000 Tryz.f269 0 [.rb false l .unk] [] (retQ Tryz.prog Tryz.f269 0 ⟨[],agg64 (sch l),[],[]⟩) = (
let x1 := datas Bool.false [AV.u32 (0 : BitVec 32)] = Bool.true∧[AV.u32 (0 : BitVec 32)] = [AV.u32 (0 : BitVec 32)]; (∃ (x : Nat),x.le 16∧l = l∧(↑x : Int) = (0 : Int)∧0 = 0∧0 = 0∧64 = 64∧(∀ (y : Nat),y < 64→x1)∧64 = 64∧(∀ (y : Nat),y < 64→datas Bool.false [AV.u32 (if y < x then word l y else (0 : BitVec 32))] = Bool.true∧[AV.u32 (0 : BitVec 32)] = [AV.u32 (if y < x then word l y else (0 : BitVec 32))])∧True)∧∀ (x : Nat),let x1_1 := List.drop (4 * x) (List.take (4 * x + 4) l); let x2 := IntKind.i64.wrap (IntKind.i64.wrap ((4 : Int) * (↑x : Int)) + (4 : Int)); x.le 16→@Bool.rec (fun _ => Prop) ((∃ (x_1 : Nat),(16≤x_1∧x_1≤64)∧(↑x_1 : Int) = (16 : Int)∧0 = 0∧0 = 0∧64 = 64∧(∀ (y : Nat),y < 64→x1)∧64 = 64∧(∀ (y : Nat),y < 64→datas Bool.false [AV.u32 (if y < x_1 then sch l y else (0 : BitVec 32))] = Bool.true∧[AV.u32 (if y < x then word l y else (0 : BitVec 32))] = [AV.u32 (if y < x_1 then sch l y else (0 : BitVec 32))])∧True)∧∀ (x : Nat),let x1_2 := if (IntKind.i64.wrap ((↑x : Int) - (15 : Int))).toNat < x then sch l (IntKind.i64.wrap ((↑x : Int) - (15 : Int))).toNat else (0 : BitVec 32); let x2 := if (IntKind.i64.wrap ((↑x : Int) - (2 : Int))).toNat < x then sch l (IntKind.i64.wrap ((↑x : Int) - (2 : Int))).toNat else (0 : BitVec 32); 16≤x∧x≤64→@Bool.rec (fun _ => Prop) (64≤64∧(have y := have y := have y := have y := [AV.u32 (if 60 < x then sch l 60 else (0 : BitVec 32)),AV.u32 (if 61 < x then sch l 61 else (0 : BitVec 32)),AV.u32 (if 62 < x then sch l 62 else (0 : BitVec 32)),AV.u32 (if 63 < x then sch l 63 else (0 : BitVec 32))]; AV.u32 (if 56 < x then sch l 56 else (0 : BitVec 32))::AV.u32 (if 57 < x then sch l 57 else (0 : BitVec 32))::AV.u32 (if 58 < x then sch l 58 else (0 : BitVec 32))::AV.u32 (if 59 < x then sch l 59 else (0 : BitVec 32))::y; have y := AV.u32 (if 52 < x then sch l 52 else (0 : BitVec 32))::AV.u32 (if 53 < x then sch l 53 else (0 : BitVec 32))::AV.u32 (if 54 < x then sch l 54 else (0 : BitVec 32))::AV.u32 (if 55 < x then sch l 55 else (0 : BitVec 32))::y; AV.u32 (if 48 < x then sch l 48 else (0 : BitVec 32))::AV.u32 (if 49 < x then sch l 49 else (0 : BitVec 32))::AV.u32 (if 50 < x then sch l 50 else (0 : BitVec 32))::AV.u32 (if 51 < x then sch l 51 else (0 : BitVec 32))::y; have y := have y := AV.u32 (if 44 < x then sch l 44 else (0 : BitVec 32))::AV.u32 (if 45 < x then sch l 45 else (0 : BitVec 32))::AV.u32 (if 46 < x then sch l 46 else (0 : BitVec 32))::AV.u32 (if 47 < x then sch l 47 else (0 : BitVec 32))::y; AV.u32 (if 40 < x then sch l 40 else (0 : BitVec 32))::AV.u32 (if 41 < x then sch l 41 else (0 : BitVec 32))::AV.u32 (if 42 < x then sch l 42 else (0 : BitVec 32))::AV.u32 (if 43 < x then sch l 43 else (0 : BitVec 32))::y; have y := AV.u32 (if 36 < x then sch l 36 else (0 : BitVec 32))::AV.u32 (if 37 < x then sch l 37 else (0 : BitVec 32))::AV.u32 (if 38 < x then sch l 38 else (0 : BitVec 32))::AV.u32 (if 39 < x then sch l 39 else (0 : BitVec 32))::y; AV.u32 (if 32 < x then sch l 32 else (0 : BitVec 32))::AV.u32 (if 33 < x then sch l 33 else (0 : BitVec 32))::AV.u32 (if 34 < x then sch l 34 else (0 : BitVec 32))::AV.u32 (if 35 < x then sch l 35 else (0 : BitVec 32))::y; have y := have y := have y := AV.u32 (if 28 < x then sch l 28 else (0 : BitVec 32))::AV.u32 (if 29 < x then sch l 29 else (0 : BitVec 32))::AV.u32 (if 30 < x then sch l 30 else (0 : BitVec 32))::AV.u32 (if 31 < x then sch l 31 else (0 : BitVec 32))::y; AV.u32 (if 24 < x then sch l 24 else (0 : BitVec 32))::AV.u32 (if 25 < x then sch l 25 else (0 : BitVec 32))::AV.u32 (if 26 < x then sch l 26 else (0 : BitVec 32))::AV.u32 (if 27 < x then sch l 27 else (0 : BitVec 32))::y; have y := AV.u32 (if 20 < x then sch l 20 else (0 : BitVec 32))::AV.u32 (if 21 < x then sch l 21 else (0 : BitVec 32))::AV.u32 (if 22 < x then sch l 22 else (0 : BitVec 32))::AV.u32 (if 23 < x then sch l 23 else (0 : BitVec 32))::y; AV.u32 (if 16 < x then sch l 16 else (0 : BitVec 32))::AV.u32 (if 17 < x then sch l 17 else (0 : BitVec 32))::AV.u32 (if 18 < x then sch l 18 else (0 : BitVec 32))::AV.u32 (if 19 < x then sch l 19 else (0 : BitVec 32))::y; have y := have y := AV.u32 (if 12 < x then sch l 12 else (0 : BitVec 32))::AV.u32 (if 13 < x then sch l 13 else (0 : BitVec 32))::AV.u32 (if 14 < x then sch l 14 else (0 : BitVec 32))::AV.u32 (if 15 < x then sch l 15 else (0 : BitVec 32))::y; AV.u32 (if 8 < x then sch l 8 else (0 : BitVec 32))::AV.u32 (if 9 < x then sch l 9 else (0 : BitVec 32))::AV.u32 (if 10 < x then sch l 10 else (0 : BitVec 32))::AV.u32 (if 11 < x then sch l 11 else (0 : BitVec 32))::y; have y := AV.u32 (if 4 < x then sch l 4 else (0 : BitVec 32))::AV.u32 (if 5 < x then sch l 5 else (0 : BitVec 32))::AV.u32 (if 6 < x then sch l 6 else (0 : BitVec 32))::AV.u32 (if 7 < x then sch l 7 else (0 : BitVec 32))::y; AV.u32 (if 0 < x then sch l 0 else (0 : BitVec 32))::AV.u32 (if 1 < x then sch l 1 else (0 : BitVec 32))::AV.u32 (if 2 < x then sch l 2 else (0 : BitVec 32))::AV.u32 (if 3 < x then sch l 3 else (0 : BitVec 32))::y).length = 64∧(∀ (y : Nat),y < 64→[AV.u32 (0 : BitVec 32)].length = 1)∧64≤64∧(sch l 0 = if 0 < x then sch l 0 else (0 : BitVec 32))∧(sch l 1 = if 1 < x then sch l 1 else (0 : BitVec 32))∧(sch l 2 = if 2 < x then sch l 2 else (0 : BitVec 32))∧(sch l 3 = if 3 < x then sch l 3 else (0 : BitVec 32))∧(sch l 4 = if 4 < x then sch l 4 else (0 : BitVec 32))∧(sch l 5 = if 5 < x then sch l 5 else (0 : BitVec 32))∧(sch l 6 = if 6 < x then sch l 6 else (0 : BitVec 32))∧(sch l 7 = if 7 < x then sch l 7 else (0 : BitVec 32))∧(sch l 8 = if 8 < x then sch l 8 else (0 : BitVec 32))∧(sch l 9 = if 9 < x then sch l 9 else (0 : BitVec 32))∧(sch l 10 = if 10 < x then sch l 10 else (0 : BitVec 32))∧(sch l 11 = if 11 < x then sch l 11 else (0 : BitVec 32))∧(sch l 12 = if 12 < x then sch l 12 else (0 : BitVec 32))∧(sch l 13 = if 13 < x then sch l 13 else (0 : BitVec 32))∧(sch l 14 = if 14 < x then sch l 14 else (0 : BitVec 32))∧(sch l 15 = if 15 < x then sch l 15 else (0 : BitVec 32))∧(sch l 16 = if 16 < x then sch l 16 else (0 : BitVec 32))∧(sch l 17 = if 17 < x then sch l 17 else (0 : BitVec 32))∧(sch l 18 = if 18 < x then sch l 18 else (0 : BitVec 32))∧(sch l 19 = if 19 < x then sch l 19 else (0 : BitVec 32))∧(sch l 20 = if 20 < x then sch l 20 else (0 : BitVec 32))∧(sch l 21 = if 21 < x then sch l 21 else (0 : BitVec 32))∧(sch l 22 = if 22 < x then sch l 22 else (0 : BitVec 32))∧(sch l 23 = if 23 < x then sch l 23 else (0 : BitVec 32))∧(sch l 24 = if 24 < x then sch l 24 else (0 : BitVec 32))∧(sch l 25 = if 25 < x then sch l 25 else (0 : BitVec 32))∧(sch l 26 = if 26 < x then sch l 26 else (0 : BitVec 32))∧(sch l 27 = if 27 < x then sch l 27 else (0 : BitVec 32))∧(sch l 28 = if 28 < x then sch l 28 else (0 : BitVec 32))∧(sch l 29 = if 29 < x then sch l 29 else (0 : BitVec 32))∧(sch l 30 = if 30 < x then sch l 30 else (0 : BitVec 32))∧(sch l 31 = if 31 < x then sch l 31 else (0 : BitVec 32))∧(sch l 32 = if 32 < x then sch l 32 else (0 : BitVec 32))∧(sch l 33 = if 33 < x then sch l 33 else (0 : BitVec 32))∧(sch l 34 = if 34 < x then sch l 34 else (0 : BitVec 32))∧(sch l 35 = if 35 < x then sch l 35 else (0 : BitVec 32))∧(sch l 36 = if 36 < x then sch l 36 else (0 : BitVec 32))∧(sch l 37 = if 37 < x then sch l 37 else (0 : BitVec 32))∧(sch l 38 = if 38 < x then sch l 38 else (0 : BitVec 32))∧(sch l 39 = if 39 < x then sch l 39 else (0 : BitVec 32))∧(sch l 40 = if 40 < x then sch l 40 else (0 : BitVec 32))∧(sch l 41 = if 41 < x then sch l 41 else (0 : BitVec 32))∧(sch l 42 = if 42 < x then sch l 42 else (0 : BitVec 32))∧(sch l 43 = if 43 < x then sch l 43 else (0 : BitVec 32))∧(sch l 44 = if 44 < x then sch l 44 else (0 : BitVec 32))∧(sch l 45 = if 45 < x then sch l 45 else (0 : BitVec 32))∧(sch l 46 = if 46 < x then sch l 46 else (0 : BitVec 32))∧(sch l 47 = if 47 < x then sch l 47 else (0 : BitVec 32))∧(sch l 48 = if 48 < x then sch l 48 else (0 : BitVec 32))∧(sch l 49 = if 49 < x then sch l 49 else (0 : BitVec 32))∧(sch l 50 = if 50 < x then sch l 50 else (0 : BitVec 32))∧(sch l 51 = if 51 < x then sch l 51 else (0 : BitVec 32))∧(sch l 52 = if 52 < x then sch l 52 else (0 : BitVec 32))∧(sch l 53 = if 53 < x then sch l 53 else (0 : BitVec 32))∧(sch l 54 = if 54 < x then sch l 54 else (0 : BitVec 32))∧(sch l 55 = if 55 < x then sch l 55 else (0 : BitVec 32))∧(sch l 56 = if 56 < x then sch l 56 else (0 : BitVec 32))∧(sch l 57 = if 57 < x then sch l 57 else (0 : BitVec 32))∧(sch l 58 = if 58 < x then sch l 58 else (0 : BitVec 32))∧(sch l 59 = if 59 < x then sch l 59 else (0 : BitVec 32))∧(sch l 60 = if 60 < x then sch l 60 else (0 : BitVec 32))∧(sch l 61 = if 61 < x then sch l 61 else (0 : BitVec 32))∧(sch l 62 = if 62 < x then sch l 62 else (0 : BitVec 32))∧(sch l 63 = if 63 < x then sch l 63 else (0 : BitVec 32))∧True) ((0 : Int)≤IntKind.i64.wrap ((↑x : Int) - (2 : Int))∧(IntKind.i64.wrap ((↑x : Int) - (2 : Int))).toNat < 64∧(IntKind.i64.wrap ((↑x : Int) - (2 : Int))).toNat < 64∧True∧(0 : Int)≤(10 : Int)∧(0 : Int)≤IntKind.i64.wrap ((↑x : Int) - (7 : Int))∧(IntKind.i64.wrap ((↑x : Int) - (7 : Int))).toNat < 64∧(IntKind.i64.wrap ((↑x : Int) - (7 : Int))).toNat < 64∧True∧(0 : Int)≤IntKind.i64.wrap ((↑x : Int) - (15 : Int))∧(IntKind.i64.wrap ((↑x : Int) - (15 : Int))).toNat < 64∧(IntKind.i64.wrap ((↑x : Int) - (15 : Int))).toNat < 64∧True∧(0 : Int)≤(3 : Int)∧(0 : Int)≤IntKind.i64.wrap ((↑x : Int) - (16 : Int))∧(IntKind.i64.wrap ((↑x : Int) - (16 : Int))).toNat < 64∧(IntKind.i64.wrap ((↑x : Int) - (16 : Int))).toNat < 64∧True∧(0 : Int)≤(↑x : Int)∧(↑x : Int).toNat < 64∧(↑x : Int).toNat < 64∧[AV.u32 (if (↑x : Int).toNat < x then sch l (↑x : Int).toNat else (0 : BitVec 32))].length = 1∧∃ (y : Nat),64 - y < 64 - x∧(16≤y∧y≤64)∧(↑y : Int) = IntKind.i64.wrap ((↑x : Int) + (1 : Int))∧0 = 0∧0 = 0∧64 = 64∧(∀ (y : Nat),y < 64→x1)∧64 = 64∧(∀ (y_1 : Nat),y_1 < 64→datas Bool.false [AV.u32 (if y_1 < y then sch l y_1 else (0 : BitVec 32))] = Bool.true∧(bif y_1 == (↑x : Int).toNat then [AV.u32 ((((x2 <<< 15 ||| x2 >>> 17) ^^^ (x2 <<< 13 ||| x2 >>> 19) ^^^ x2 >>> 10) + if (IntKind.i64.wrap ((↑x : Int) - (7 : Int))).toNat < x then sch l (IntKind.i64.wrap ((↑x : Int) - (7 : Int))).toNat else (0 : BitVec 32)) + ((x1_2 <<< 25 ||| x1_2 >>> 7) ^^^ (x1_2 <<< 14 ||| x1_2 >>> 18) ^^^ x1_2 >>> 3) + if (IntKind.i64.wrap ((↑x : Int) - (16 : Int))).toNat < x then sch l (IntKind.i64.wrap ((↑x : Int) - (16 : Int))).toNat else (0 : BitVec 32))] else [AV.u32 (if y_1 < x then sch l y_1 else (0 : BitVec 32))]) = [AV.u32 (if y_1 < y then sch l y_1 else (0 : BitVec 32))])∧True) (decide ((↑x : Int) < (64 : Int)))) ((0 : Int)≤IntKind.i64.wrap ((4 : Int) * (↑x : Int))∧(0 : Int)≤x2∧(IntKind.i64.wrap ((4 : Int) * (↑x : Int))).toNat≤x2.toNat∧x2.toNat≤List.length l∧(∃ (x_1 : Nat),x_1.le 4∧l = l∧(↑x : Int) = (↑x : Int)∧(↑x : Int) = (↑x : Int)∧x1_1 = List.drop (IntKind.i64.wrap ((4 : Int) * (↑x : Int))).toNat (List.take x2.toNat l)∧(4 : Int) = (↑(List.drop (IntKind.i64.wrap ((4 : Int) * (↑x : Int))).toNat (List.take x2.toNat l)).length : Int)∧(↑x_1 : Int) = (0 : Int)∧0 = 0∧0 = 0∧64 = 64∧(∀ (y : Nat),y < 64→x1)∧64 = 64∧(∀ (y : Nat),y < 64→datas Bool.false [AV.u32 (if y < x then word l y else if y = x then partW l x x_1 else (0 : BitVec 32))] = Bool.true∧[AV.u32 (if y < x then word l y else (0 : BitVec 32))] = [AV.u32 (if y < x then word l y else if y = x then partW l x x_1 else (0 : BitVec 32))])∧True)∧∀ (x_1 : Nat),x_1.le 4→@Bool.rec (fun _ => Prop) (∃ (y : Nat),64 - y < 64 - x∧y.le 16∧l = l∧(↑y : Int) = IntKind.i64.wrap ((↑x : Int) + (1 : Int))∧0 = 0∧0 = 0∧64 = 64∧(∀ (y : Nat),y < 64→x1)∧64 = 64∧(∀ (y_1 : Nat),y_1 < 64→datas Bool.false [AV.u32 (if y_1 < y then word l y_1 else (0 : BitVec 32))] = Bool.true∧[AV.u32 (if y_1 < x then word l y_1 else if y_1 = x then partW l x x_1 else (0 : BitVec 32))] = [AV.u32 (if y_1 < y then word l y_1 else (0 : BitVec 32))])∧True) ((0 : Int)≤(↑x_1 : Int)∧(↑x_1 : Int).toNat < x1_1.length∧(0 : Int)≤(↑x : Int)∧(↑x : Int).toNat < 64∧(↑x : Int).toNat < 64∧True∧(0 : Int)≤(↑x : Int)∧(↑x : Int).toNat < 64∧(↑x : Int).toNat < 64∧[AV.u32 (if (↑x : Int).toNat < x then word l (↑x : Int).toNat else if (↑x : Int).toNat = x then partW l x x_1 else (0 : BitVec 32))].length = 1∧∃ (y : Nat),4 - y < 4 - x_1∧y.le 4∧l = l∧(↑x : Int) = (↑x : Int)∧(↑x : Int) = (↑x : Int)∧x1_1 = x1_1∧(4 : Int) = (4 : Int)∧(↑y : Int) = IntKind.i64.wrap ((↑x_1 : Int) + (1 : Int))∧0 = 0∧0 = 0∧64 = 64∧(∀ (y : Nat),y < 64→x1)∧64 = 64∧(∀ (y_1 : Nat),y_1 < 64→datas Bool.false [AV.u32 (if y_1 < x then word l y_1 else if y_1 = x then partW l x y else (0 : BitVec 32))] = Bool.true∧(bif y_1 == (↑x : Int).toNat then [AV.u32 ((if (↑x : Int).toNat < x then word l (↑x : Int).toNat else if (↑x : Int).toNat = x then partW l x x_1 else (0 : BitVec 32)) <<< 8 ||| BitVec.setWidth 32 (x1_1.getD (↑x_1 : Int).toNat (0 : BitVec 8)))] else [AV.u32 (if y_1 < x then word l y_1 else if y_1 = x then partW l x x_1 else (0 : BitVec 32))]) = [AV.u32 (if y_1 < x then word l y_1 else if y_1 = x then partW l x y else (0 : BitVec 32))])∧True) (decide ((↑x_1 : Int) < (4 : Int)))) (decide ((↑x : Int) < (16 : Int))) : Prop) := by kernel_rfl
set_option maxRecDepth 100000 in
theorem b33 (l : By) (hl : l.length = 64) : Must (bodyP Tryz.prog (A4.withSym symSp) gl0 [] [(4,lsSp1 l),(13,lsSp2 l)] 3000 Tryz.f269 0 [.rb false l .unk] [] (retQ Tryz.prog Tryz.f269 0 ⟨[],agg64 (sch l),[],[]⟩)) := by
 constructor
 rw [vc33]
 set_option simprocs false in dsimp only
 refine ⟨⟨0,by simp [d32]⟩,fun x hx => ?_⟩
 replace hx : x≤16 := hx
 refine brec (fun h => ?_) (fun h => ?_)
 ·replace h : x < 16 := by have := dlt.1 h; omega
  have e1 : IntKind.i64.wrap (4 * (x : Int)) = ((4 * x : Nat) : Int) := wrap_nat _ (by omega) (by omega)
  have e2 : IntKind.i64.wrap (((4 * x : Nat) : Int) + 4) = ((4 * x + 4 : Nat) : Int) := wrap_nat _ (by omega) (by omega)
  have e3 : IntKind.i64.wrap ((x : Int) + 1) = ((x + 1 : Nat) : Int) := wrap_nat _ (by omega) (by omega)
  have hd : (List.drop (4 * x) (List.take (4 * x + 4) l)).length = 4 := by simp; omega
  simp only [e1,e2,e3,Int.toNat_natCast,hd,d32,true_and,and_true,implies_true,Int.natCast_nonneg]
  refine ⟨by omega,by omega,⟨0,Nat.zero_le _,rfl,rfl,fun y hy => u32_one ?_⟩,fun j hj => ?_⟩
  ·simp [partW]
  replace hj : j≤4 := hj
  refine brec (fun h2 => ?_) (fun h2 => ?_)
  ·replace h2 : j < 4 := by have := dlt.1 h2; omega
   have e4 : IntKind.i64.wrap ((j : Int) + 1) = ((j + 1 : Nat) : Int) := wrap_nat _ (by omega) (by omega)
   simp only [e4]
   refine ⟨h2,by omega,by omega,by omega,by omega,rfl,j + 1,by omega,h2,rfl,fun y hy => ?_⟩
   rw [bif32]
   refine u32_one ?_
   by_cases hyx : y = x
   ·subst hyx
    rw [getD_drop_take _ _ _ _ _ h2]
    simp [partW]
   ·simp [hyx]
  ·replace h2 : j = 4 := by have := ndlt.1 h2; omega
   subst h2
   refine ⟨x + 1,by omega,h,rfl,fun y hy => u32_one ?_⟩
   by_cases h1 : y < x
   ·rw [if_pos h1,if_pos (by omega)]
   ·rw [if_neg h1]
    by_cases h2 : y = x
    ·rw [if_pos h2,if_pos (by omega),h2]; rfl
    ·rw [if_neg h2,if_neg (by omega)]
 ·replace h : x = 16 := by have := ndlt.1 h; omega
  subst h
  refine ⟨⟨16,by omega,rfl,rfl,rfl,rfl,fun y hy => ⟨rfl,rfl⟩,rfl,fun y hy => ⟨rfl,u32_one ?_⟩,trivial⟩,fun x hx => ?_⟩
  ·by_cases h : y < 16
   ·rw [if_pos h,if_pos h,sch_word l y h]
   ·rw [if_neg h,if_neg h]
  refine brec (fun h => ?_) (fun h => ?_)
  ·replace h : x < 64 := by have := dlt.1 h; omega
   have e2 : IntKind.i64.wrap ((x : Int) - 2) = ((x - 2 : Nat) : Int) := wrap_nat _ (by omega) (by omega)
   have e7 : IntKind.i64.wrap ((x : Int) - 7) = ((x - 7 : Nat) : Int) := wrap_nat _ (by omega) (by omega)
   have e15 : IntKind.i64.wrap ((x : Int) - 15) = ((x - 15 : Nat) : Int) := wrap_nat _ (by omega) (by omega)
   have e16 : IntKind.i64.wrap ((x : Int) - 16) = ((x - 16 : Nat) : Int) := wrap_nat _ (by omega) (by omega)
   have e1 : IntKind.i64.wrap ((x : Int) + 1) = ((x + 1 : Nat) : Int) := wrap_nat _ (by omega) (by omega)
   simp only [e1,e2,e7,e15,e16,Int.toNat_natCast,d32,true_and,and_true,implies_true,Int.natCast_nonneg]
   refine ⟨by omega,by omega,by omega,by omega,by omega,by omega,by omega,by omega,by omega,by omega,by omega,by omega,rfl,x + 1,by omega,by omega,rfl,fun y hy => ?_⟩
   rw [bif32]
   refine u32_one ?_
   by_cases hyx : y = x
   ·subst hyx
    rw [beq_self_eq_true,cond_true,if_pos (by omega),if_pos (by omega),if_pos (by omega),if_pos (by omega),if_pos (by omega),sch_step l y hx.1 h]
    simp [smS0,smS1,rl]
   ·have : (y == x) = false := by simpa using hyx
    rw [this,cond_false]
    by_cases h2 : y < x
    ·rw [if_pos h2,if_pos (by omega)]
    ·rw [if_neg h2,if_neg (by omega)]
  ·replace h : x = 64 := by have := ndlt.1 h; omega
   subst h
   simp
theorem c33 : COK Tryz.prog gl0 269 (mkF spSp) := by
 refine ctrE (fn := Tryz.f269) [] 3000 (by kernel_rfl) (by kernel_rfl) (okA4.withSym symSp) (by kernel_rfl) (fun args w => by kernel_rfl) ?_
 intro xs bs r hs ho
 simp only [spSp,gSp] at hs
 split at hs
 ·rename_i l
  simp only [TL.sel,Option.some.injEq] at hs
  subst hs
  have := b33 l (obsT_one.1 ho)
  exact ⟨_,this⟩
 ·simp [TL.sel] at hs
noncomputable def B1 : Ctx := A4.add 269 (mkF spSp)
theorem okB1 : COKs Tryz.prog gl0 B1 := okA4.add c33
def lsTk (v : Nat→W32) (l : By) : LS := ⟨Nat,fun i => [(2,.ptr 100 0 0 0),(4,.ptr 101 0 0 0),(6,.u32 (rnds (sch l) v i 0)),(7,.u32 (rnds (sch l) v i 1)),(8,.u32 (rnds (sch l) v i 2)),(9,.u32 (rnds (sch l) v i 3)),(10,.u32 (rnds (sch l) v i 4)),(11,.u32 (rnds (sch l) v i 5)),(12,.u32 (rnds (sch l) v i 6)),(13,.u32 (rnds (sch l) v i 7)),(36,agg64 (sch l)),(37,.int .i64 i)],
 fun i => [(100,⟨.cells ((List.range 8).map fun i => .u32 (v i)),true,0⟩),(101,⟨.cells (List.replicate 8 (.u32 0)),true,0⟩),(8388609,⟨.rows 1 64 fun y => [.u32 (shaK.getD y 0)],false,0⟩)],1000,fun i => 64 - i,fun i => i≤64,fun _ => []⟩
def gTk (xs : List AV) (bs : List ABlk) : TL := match xs,bs with
 | [.agg cs,.rb false l .unk],[] => (match rd32 cs with | some [a,b,c,d,e,f,g,h] => .ok ⟨[l.length = 64],agg8 (compress (st8 a b c d e f g h) l),[],[]⟩ | _ => .no)
 | _,_ => .no
def spTk : Spec := ⟨[.kp,.by0],fun _ _ => [],fun _ _ => [],gTk⟩
def symTk : List Nat := [40,55,56]
set_option maxRecDepth 100000 in
theorem vc30 (v : Nat→W32) (l : By) : bodyP Tryz.prog (B1.withSym symTk) gl0 [1] [(5,lsTk v l)] 3000 Tryz.f225 0 [agg8 v,.rb false l .unk] [] (retQ Tryz.prog Tryz.f225 0 ⟨[],agg8 (compress v l),[],[]⟩) = (
List.length l = (64 : Nat) ∧
 (∃ (x : Nat),
 x.le (64 : Nat) ∧
 (0 : Nat) = (0 : Nat) ∧
 (0 : Nat) = (0 : Nat) ∧
 rnds (sch l) v x (0 : Nat) = v 0 ∧
 rnds (sch l) v x (1 : Nat) = v 1 ∧
 rnds (sch l) v x (2 : Nat) = v 2 ∧
 rnds (sch l) v x (3 : Nat) = v 3 ∧
 rnds (sch l) v x (4 : Nat) = v 4 ∧
 rnds (sch l) v x (5 : Nat) = v 5 ∧
 rnds (sch l) v x (6 : Nat) = v 6 ∧
 rnds (sch l) v x (7 : Nat) = v 7 ∧
 sch l 0 = sch l 0 ∧
 sch l 1 = sch l 1 ∧
 sch l 2 = sch l 2 ∧
 sch l 3 = sch l 3 ∧
 sch l 4 = sch l 4 ∧
 sch l 5 = sch l 5 ∧
 sch l 6 = sch l 6 ∧
 sch l 7 = sch l 7 ∧
 sch l 8 = sch l 8 ∧
 sch l 9 = sch l 9 ∧
 sch l 10 = sch l 10 ∧
 sch l 11 = sch l 11 ∧
 sch l 12 = sch l 12 ∧
 sch l 13 = sch l 13 ∧
 sch l 14 = sch l 14 ∧
 sch l 15 = sch l 15 ∧
 sch l 16 = sch l 16 ∧
 sch l 17 = sch l 17 ∧
 sch l 18 = sch l 18 ∧
 sch l 19 = sch l 19 ∧
 sch l 20 = sch l 20 ∧
 sch l 21 = sch l 21 ∧
 sch l 22 = sch l 22 ∧
 sch l 23 = sch l 23 ∧
 sch l 24 = sch l 24 ∧
 sch l 25 = sch l 25 ∧
 sch l 26 = sch l 26 ∧
 sch l 27 = sch l 27 ∧
 sch l 28 = sch l 28 ∧
 sch l 29 = sch l 29 ∧
 sch l 30 = sch l 30 ∧
 sch l 31 = sch l 31 ∧
 sch l 32 = sch l 32 ∧
 sch l 33 = sch l 33 ∧
 sch l 34 = sch l 34 ∧
 sch l 35 = sch l 35 ∧
 sch l 36 = sch l 36 ∧
 sch l 37 = sch l 37 ∧
 sch l 38 = sch l 38 ∧
 sch l 39 = sch l 39 ∧
 sch l 40 = sch l 40 ∧
 sch l 41 = sch l 41 ∧
 sch l 42 = sch l 42 ∧
 sch l 43 = sch l 43 ∧
 sch l 44 = sch l 44 ∧
 sch l 45 = sch l 45 ∧
 sch l 46 = sch l 46 ∧
 sch l 47 = sch l 47 ∧
 sch l 48 = sch l 48 ∧
 sch l 49 = sch l 49 ∧
 sch l 50 = sch l 50 ∧
 sch l 51 = sch l 51 ∧
 sch l 52 = sch l 52 ∧
 sch l 53 = sch l 53 ∧
 sch l 54 = sch l 54 ∧
 sch l 55 = sch l 55 ∧
 sch l 56 = sch l 56 ∧
 sch l 57 = sch l 57 ∧
 sch l 58 = sch l 58 ∧
 sch l 59 = sch l 59 ∧
 sch l 60 = sch l 60 ∧
 sch l 61 = sch l 61 ∧
 sch l 62 = sch l 62 ∧
 sch l 63 = sch l 63 ∧
 (↑x : Int) = (0 : Int) ∧
 v 0 = v 0 ∧
 v 1 = v 1 ∧
 v 2 = v 2 ∧
 v 3 = v 3 ∧
 v 4 = v 4 ∧
 v 5 = v 5 ∧
 v 6 = v 6 ∧
 v 7 = v 7 ∧
 (0 : BitVec (32 : Nat)) = BitVec.ofNat (32 : Nat) (0 : Nat) ∧
 (0 : BitVec (32 : Nat)) = BitVec.ofNat (32 : Nat) (0 : Nat) ∧
 (0 : BitVec (32 : Nat)) = BitVec.ofNat (32 : Nat) (0 : Nat) ∧
 (0 : BitVec (32 : Nat)) = BitVec.ofNat (32 : Nat) (0 : Nat) ∧
 (0 : BitVec (32 : Nat)) = BitVec.ofNat (32 : Nat) (0 : Nat) ∧
 (0 : BitVec (32 : Nat)) = BitVec.ofNat (32 : Nat) (0 : Nat) ∧
 (0 : BitVec (32 : Nat)) = BitVec.ofNat (32 : Nat) (0 : Nat) ∧
 (0 : BitVec (32 : Nat)) = BitVec.ofNat (32 : Nat) (0 : Nat) ∧
 (64 : Nat) = (64 : Nat) ∧
 (∀ (y : Nat),
 y < (64 : Nat) →
 datas Bool.false [AV.u32 (shaK.getD y (0 : W32))] = Bool.true ∧
 cut (1 : Nat)
 [AV.u32 (BitVec.ofNat (32 : Nat) (1116352408 : Nat)),AV.u32 (BitVec.ofNat (32 : Nat) (1899447441 : Nat)),AV.u32 (BitVec.ofNat (32 : Nat) (3049323471 : Nat)),AV.u32 (BitVec.ofNat (32 : Nat) (3921009573 : Nat)),AV.u32 (BitVec.ofNat (32 : Nat) (961987163 : Nat)),AV.u32 (BitVec.ofNat (32 : Nat) (1508970993 : Nat)),AV.u32 (BitVec.ofNat (32 : Nat) (2453635748 : Nat)),AV.u32 (BitVec.ofNat (32 : Nat) (2870763221 : Nat)),AV.u32 (BitVec.ofNat (32 : Nat) (3624381080 : Nat)),AV.u32 (BitVec.ofNat (32 : Nat) (310598401 : Nat)),AV.u32 (BitVec.ofNat (32 : Nat) (607225278 : Nat)),AV.u32 (BitVec.ofNat (32 : Nat) (1426881987 : Nat)),AV.u32 (BitVec.ofNat (32 : Nat) (1925078388 : Nat)),AV.u32 (BitVec.ofNat (32 : Nat) (2162078206 : Nat)),AV.u32 (BitVec.ofNat (32 : Nat) (2614888103 : Nat)),AV.u32 (BitVec.ofNat (32 : Nat) (3248222580 : Nat)),AV.u32 (BitVec.ofNat (32 : Nat) (3835390401 : Nat)),AV.u32 (BitVec.ofNat (32 : Nat) (4022224774 : Nat)),AV.u32 (BitVec.ofNat (32 : Nat) (264347078 : Nat)),AV.u32 (BitVec.ofNat (32 : Nat) (604807628 : Nat)),AV.u32 (BitVec.ofNat (32 : Nat) (770255983 : Nat)),AV.u32 (BitVec.ofNat (32 : Nat) (1249150122 : Nat)),AV.u32 (BitVec.ofNat (32 : Nat) (1555081692 : Nat)),AV.u32 (BitVec.ofNat (32 : Nat) (1996064986 : Nat)),AV.u32 (BitVec.ofNat (32 : Nat) (2554220882 : Nat)),AV.u32 (BitVec.ofNat (32 : Nat) (2821834349 : Nat)),AV.u32 (BitVec.ofNat (32 : Nat) (2952996808 : Nat)),AV.u32 (BitVec.ofNat (32 : Nat) (3210313671 : Nat)),AV.u32 (BitVec.ofNat (32 : Nat) (3336571891 : Nat)),AV.u32 (BitVec.ofNat (32 : Nat) (3584528711 : Nat)),AV.u32 (BitVec.ofNat (32 : Nat) (113926993 : Nat)),AV.u32 (BitVec.ofNat (32 : Nat) (338241895 : Nat)),AV.u32 (BitVec.ofNat (32 : Nat) (666307205 : Nat)),AV.u32 (BitVec.ofNat (32 : Nat) (773529912 : Nat)),AV.u32 (BitVec.ofNat (32 : Nat) (1294757372 : Nat)),AV.u32 (BitVec.ofNat (32 : Nat) (1396182291 : Nat)),AV.u32 (BitVec.ofNat (32 : Nat) (1695183700 : Nat)),AV.u32 (BitVec.ofNat (32 : Nat) (1986661051 : Nat)),AV.u32 (BitVec.ofNat (32 : Nat) (2177026350 : Nat)),AV.u32 (BitVec.ofNat (32 : Nat) (2456956037 : Nat)),AV.u32 (BitVec.ofNat (32 : Nat) (2730485921 : Nat)),AV.u32 (BitVec.ofNat (32 : Nat) (2820302411 : Nat)),AV.u32 (BitVec.ofNat (32 : Nat) (3259730800 : Nat)),AV.u32 (BitVec.ofNat (32 : Nat) (3345764771 : Nat)),AV.u32 (BitVec.ofNat (32 : Nat) (3516065817 : Nat)),AV.u32 (BitVec.ofNat (32 : Nat) (3600352804 : Nat)),AV.u32 (BitVec.ofNat (32 : Nat) (4094571909 : Nat)),AV.u32 (BitVec.ofNat (32 : Nat) (275423344 : Nat)),AV.u32 (BitVec.ofNat (32 : Nat) (430227734 : Nat)),AV.u32 (BitVec.ofNat (32 : Nat) (506948616 : Nat)),AV.u32 (BitVec.ofNat (32 : Nat) (659060556 : Nat)),AV.u32 (BitVec.ofNat (32 : Nat) (883997877 : Nat)),AV.u32 (BitVec.ofNat (32 : Nat) (958139571 : Nat)),AV.u32 (BitVec.ofNat (32 : Nat) (1322822218 : Nat)),AV.u32 (BitVec.ofNat (32 : Nat) (1537002063 : Nat)),AV.u32 (BitVec.ofNat (32 : Nat) (1747873779 : Nat)),AV.u32 (BitVec.ofNat (32 : Nat) (1955562222 : Nat)),AV.u32 (BitVec.ofNat (32 : Nat) (2024104815 : Nat)),AV.u32 (BitVec.ofNat (32 : Nat) (2227730452 : Nat)),AV.u32 (BitVec.ofNat (32 : Nat) (2361852424 : Nat)),AV.u32 (BitVec.ofNat (32 : Nat) (2428436474 : Nat)),AV.u32 (BitVec.ofNat (32 : Nat) (2756734187 : Nat)),AV.u32 (BitVec.ofNat (32 : Nat) (3204031479 : Nat)),
 AV.u32 (BitVec.ofNat (32 : Nat) (3329325298 : Nat))]
 y =
 [AV.u32 (shaK.getD y (0 : W32))]) ∧
 True) ∧
 ∀ (x : Nat),
 x.le (64 : Nat) →
 Bool.rec (compress v l 0 = v 0 + rnds (sch l) v x (0 : Nat)∧compress v l 1 = v 1 + rnds (sch l) v x (1 : Nat)∧compress v l 2 = v 2 + rnds (sch l) v x (2 : Nat)∧compress v l 3 = v 3 + rnds (sch l) v x (3 : Nat)∧compress v l 4 = v 4 + rnds (sch l) v x (4 : Nat)∧compress v l 5 = v 5 + rnds (sch l) v x (5 : Nat)∧compress v l 6 = v 6 + rnds (sch l) v x (6 : Nat)∧compress v l 7 = v 7 + rnds (sch l) v x (7 : Nat)∧True)
 ((0 : Int)≤(↑x : Int) ∧
 (↑x : Int).toNat < [sch l 0,sch l 1,sch l 2,sch l 3,sch l 4,sch l 5,sch l 6,sch l 7,sch l 8,sch l 9,sch l 10,sch l 11,sch l 12,sch l 13,sch l 14,sch l 15,sch l 16,sch l 17,sch l 18,sch l 19,sch l 20,sch l 21,sch l 22,sch l 23,sch l 24,sch l 25,sch l 26,sch l 27,sch l 28,sch l 29,sch l 30,sch l 31,sch l 32,sch l 33,sch l 34,sch l 35,sch l 36,sch l 37,sch l 38,sch l 39,sch l 40,sch l 41,sch l 42,sch l 43,sch l 44,sch l 45,sch l 46,sch l 47,sch l 48,sch l 49,sch l 50,sch l 51,sch l 52,sch l 53,sch l 54,sch l 55,sch l 56,sch l 57,sch l 58,sch l 59,sch l 60,sch l 61,sch l 62,sch l 63].length ∧
 (0 : Int)≤(↑x : Int) ∧
 (↑x : Int).toNat < (64 : Nat) ∧
 (↑x : Int).toNat < (64 : Nat) ∧
 True ∧
 ∃ (y : Nat),
 (64 : Nat) - y < (64 : Nat) - x ∧
 y.le (64 : Nat) ∧
 (0 : Nat) = (0 : Nat) ∧
 (0 : Nat) = (0 : Nat) ∧
 rnds (sch l) v y (0 : Nat) = rnds (sch l) v x (7 : Nat) + ((rnds (sch l) v x (4 : Nat) <<< (26 : Nat) ||| rnds (sch l) v x (4 : Nat) >>> (6 : Nat)) ^^^ (rnds (sch l) v x (4 : Nat) <<< (21 : Nat) ||| rnds (sch l) v x (4 : Nat) >>> (11 : Nat)) ^^^ (rnds (sch l) v x (4 : Nat) <<< (7 : Nat) ||| rnds (sch l) v x (4 : Nat) >>> (25 : Nat))) + (rnds (sch l) v x (4 : Nat) &&& rnds (sch l) v x (5 : Nat) ^^^ ~~~rnds (sch l) v x (4 : Nat) &&& rnds (sch l) v x (6 : Nat)) + shaK.getD (↑x : Int).toNat (0 : W32) + [sch l 0,sch l 1,sch l 2,sch l 3,sch l 4,sch l 5,sch l 6,sch l 7,sch l 8,sch l 9,sch l 10,sch l 11,sch l 12,sch l 13,sch l 14,sch l 15,sch l 16,sch l 17,sch l 18,sch l 19,sch l 20,sch l 21,sch l 22,sch l 23,sch l 24,sch l 25,sch l 26,sch l 27,sch l 28,sch l 29,sch l 30,sch l 31,sch l 32,sch l 33,sch l 34,sch l 35,sch l 36,sch l 37,sch l 38,sch l 39,sch l 40,sch l 41,sch l 42,sch l 43,sch l 44,sch l 45,sch l 46,sch l 47,sch l 48,sch l 49,sch l 50,sch l 51,sch l 52,sch l 53,sch l 54,sch l 55,sch l 56,sch l 57,sch l 58,sch l 59,sch l 60,sch l 61,sch l 62,sch l 63].getD (↑x : Int).toNat (0 : BitVec (32 : Nat)) + (((rnds (sch l) v x (0 : Nat) <<< (30 : Nat) ||| rnds (sch l) v x (0 : Nat) >>> (2 : Nat)) ^^^ (rnds (sch l) v x (0 : Nat) <<< (19 : Nat) ||| rnds (sch l) v x (0 : Nat) >>> (13 : Nat)) ^^^ (rnds (sch l) v x (0 : Nat) <<< (10 : Nat) ||| rnds (sch l) v x (0 : Nat) >>> (22 : Nat))) + (rnds (sch l) v x (0 : Nat) &&& rnds (sch l) v x (1 : Nat) ^^^ rnds (sch l) v x (0 : Nat) &&& rnds (sch l) v x (2 : Nat) ^^^ rnds (sch l) v x (1 : Nat) &&& rnds (sch l) v x (2 : Nat))) ∧
 rnds (sch l) v y (1 : Nat) = rnds (sch l) v x (0 : Nat) ∧
 rnds (sch l) v y (2 : Nat) = rnds (sch l) v x (1 : Nat) ∧
 rnds (sch l) v y (3 : Nat) = rnds (sch l) v x (2 : Nat) ∧
 rnds (sch l) v y (4 : Nat) = rnds (sch l) v x (3 : Nat) + (rnds (sch l) v x (7 : Nat) + ((rnds (sch l) v x (4 : Nat) <<< (26 : Nat) ||| rnds (sch l) v x (4 : Nat) >>> (6 : Nat)) ^^^ (rnds (sch l) v x (4 : Nat) <<< (21 : Nat) ||| rnds (sch l) v x (4 : Nat) >>> (11 : Nat)) ^^^ (rnds (sch l) v x (4 : Nat) <<< (7 : Nat) ||| rnds (sch l) v x (4 : Nat) >>> (25 : Nat))) + (rnds (sch l) v x (4 : Nat) &&& rnds (sch l) v x (5 : Nat) ^^^ ~~~rnds (sch l) v x (4 : Nat) &&& rnds (sch l) v x (6 : Nat)) + shaK.getD (↑x : Int).toNat (0 : W32) + [sch l 0,sch l 1,sch l 2,sch l 3,sch l 4,sch l 5,sch l 6,sch l 7,sch l 8,sch l 9,sch l 10,sch l 11,sch l 12,sch l 13,sch l 14,sch l 15,sch l 16,sch l 17,sch l 18,sch l 19,sch l 20,sch l 21,sch l 22,sch l 23,sch l 24,sch l 25,sch l 26,sch l 27,sch l 28,sch l 29,sch l 30,sch l 31,sch l 32,sch l 33,sch l 34,sch l 35,sch l 36,sch l 37,sch l 38,sch l 39,sch l 40,sch l 41,sch l 42,sch l 43,sch l 44,sch l 45,sch l 46,sch l 47,sch l 48,sch l 49,sch l 50,sch l 51,sch l 52,sch l 53,sch l 54,sch l 55,sch l 56,sch l 57,sch l 58,sch l 59,sch l 60,sch l 61,sch l 62,sch l 63].getD (↑x : Int).toNat (0 : BitVec (32 : Nat))) ∧
 rnds (sch l) v y (5 : Nat) = rnds (sch l) v x (4 : Nat) ∧
 rnds (sch l) v y (6 : Nat) = rnds (sch l) v x (5 : Nat) ∧
 rnds (sch l) v y (7 : Nat) = rnds (sch l) v x (6 : Nat) ∧
 sch l 0 = sch l 0 ∧
 sch l 1 = sch l 1 ∧
 sch l 2 = sch l 2 ∧
 sch l 3 = sch l 3 ∧
 sch l 4 = sch l 4 ∧
 sch l 5 = sch l 5 ∧
 sch l 6 = sch l 6 ∧
 sch l 7 = sch l 7 ∧
 sch l 8 = sch l 8 ∧
 sch l 9 = sch l 9 ∧
 sch l 10 = sch l 10 ∧
 sch l 11 = sch l 11 ∧
 sch l 12 = sch l 12 ∧
 sch l 13 = sch l 13 ∧
 sch l 14 = sch l 14∧sch l 15 = sch l 15∧sch l 16 = sch l 16∧sch l 17 = sch l 17∧sch l 18 = sch l 18∧sch l 19 = sch l 19∧sch l 20 = sch l 20∧sch l 21 = sch l 21∧sch l 22 = sch l 22∧sch l 23 = sch l 23∧sch l 24 = sch l 24∧sch l 25 = sch l 25∧sch l 26 = sch l 26∧sch l 27 = sch l 27∧sch l 28 = sch l 28∧sch l 29 = sch l 29∧sch l 30 = sch l 30∧sch l 31 = sch l 31∧sch l 32 = sch l 32∧sch l 33 = sch l 33∧sch l 34 = sch l 34∧sch l 35 = sch l 35∧sch l 36 = sch l 36∧sch l 37 = sch l 37∧sch l 38 = sch l 38∧sch l 39 = sch l 39∧sch l 40 = sch l 40∧sch l 41 = sch l 41∧sch l 42 = sch l 42∧sch l 43 = sch l 43∧sch l 44 = sch l 44∧sch l 45 = sch l 45∧sch l 46 = sch l 46∧sch l 47 = sch l 47∧sch l 48 = sch l 48∧sch l 49 = sch l 49∧sch l 50 = sch l 50∧sch l 51 = sch l 51∧sch l 52 = sch l 52∧sch l 53 = sch l 53∧sch l 54 = sch l 54∧sch l 55 = sch l 55∧sch l 56 = sch l 56∧sch l 57 = sch l 57∧sch l 58 = sch l 58∧sch l 59 = sch l 59∧sch l 60 = sch l 60∧sch l 61 = sch l 61∧sch l 62 = sch l 62∧sch l 63 = sch l 63∧(↑y : Int) = IntKind.i64.wrap ((↑x : Int) + (1 : Int))∧v 0 = v 0∧v 1 = v 1∧v 2 = v 2∧v 3 = v 3∧v 4 = v 4∧v 5 = v 5∧v 6 = v 6∧v 7 = v 7∧(0 : BitVec (32 : Nat)) = (0 : BitVec (32 : Nat))∧(0 : BitVec (32 : Nat)) = (0 : BitVec (32 : Nat))∧(0 : BitVec (32 : Nat)) = (0 : BitVec (32 : Nat))∧(0 : BitVec (32 : Nat)) = (0 : BitVec (32 : Nat))∧(0 : BitVec (32 : Nat)) = (0 : BitVec (32 : Nat))∧(0 : BitVec (32 : Nat)) = (0 : BitVec (32 : Nat))∧(0 : BitVec (32 : Nat)) = (0 : BitVec (32 : Nat))∧(0 : BitVec (32 : Nat)) = (0 : BitVec (32 : Nat))∧(64 : Nat) = (64 : Nat)∧(∀ (y : Nat),y < (64 : Nat)→datas Bool.false [AV.u32 (shaK.getD y (0 : W32))] = Bool.true∧[AV.u32 (shaK.getD y (0 : W32))] = [AV.u32 (shaK.getD y (0 : W32))])∧True)
 (Decidable.decide ((↑x : Int) < (64 : Int)))) := by kernel_rfl
theorem schList (l : By) (x : Nat) (h : x < 64) : [sch l 0,sch l 1,sch l 2,sch l 3,sch l 4,sch l 5,sch l 6,sch l 7,sch l 8,sch l 9,sch l 10,sch l 11,sch l 12,sch l 13,sch l 14,sch l 15,sch l 16,sch l 17,sch l 18,sch l 19,sch l 20,sch l 21,sch l 22,sch l 23,sch l 24,sch l 25,sch l 26,sch l 27,sch l 28,sch l 29,sch l 30,sch l 31,sch l 32,sch l 33,sch l 34,sch l 35,sch l 36,sch l 37,sch l 38,sch l 39,sch l 40,sch l 41,sch l 42,sch l 43,sch l 44,sch l 45,sch l 46,sch l 47,sch l 48,sch l 49,sch l 50,sch l 51,sch l 52,sch l 53,sch l 54,sch l 55,sch l 56,sch l 57,sch l 58,sch l 59,sch l 60,sch l 61,sch l 62,sch l 63].getD x 0 = sch l x := getD_map_range (sch l) 64 x 0 h
set_option maxRecDepth 100000 in
theorem b30 (v : Nat→W32) (l : By) (hl : l.length = 64) : Must (bodyP Tryz.prog (B1.withSym symTk) gl0 [1] [(5,lsTk v l)] 3000 Tryz.f225 0 [agg8 v,.rb false l .unk] [] (retQ Tryz.prog Tryz.f225 0 ⟨[],agg8 (compress v l),[],[]⟩)) := by
 constructor
 rw [vc30]
 have hc : ∀ y,y < 64→cut 1 (shaK.map AV.u32) y = [AV.u32 (shaK.getD y 0)] := fun y hy => cut_map _ _ _ _ hy
 refine ⟨hl,⟨0,Nat.zero_le _,?_⟩,fun x hx => ?_⟩
 ·simp only [true_and,and_true]
  refine ⟨rfl,rfl,rfl,rfl,rfl,rfl,rfl,rfl,rfl,rfl,rfl,rfl,rfl,rfl,rfl,rfl,rfl,fun y hy => ⟨rfl,hc y hy⟩⟩
 replace hx : x≤64 := hx
 refine brec (fun h => ?_) (fun h => ?_)
 ·replace h : x < 64 := by have := dlt.1 h; omega
  have e1 : IntKind.i64.wrap ((x : Int) + 1) = ((x + 1 : Nat) : Int) := wrap_nat _ (by omega) (by omega)
  simp only [e1,Int.toNat_natCast,schList l x h,d32,true_and,and_true,implies_true,Int.natCast_nonneg]
  refine ⟨by simpa using h,h,h,x + 1,by omega,h,?_⟩
  simp only [rnds,rnd,bigS1,bigS0,rl,and_true]
 ·replace h : x = 64 := by have := ndlt.1 h; omega
  subst h
  simp only [compress,true_and]
theorem rd32_len {cs : List AV} {a b c d e f g h : W32} (hr : rd32 cs = some [a,b,c,d,e,f,g,h]) : AV.agg cs = agg8 (st8 a b c d e f g h) := by
 rw [rd32_eq hr]; rfl
theorem c30 : COK Tryz.prog gl0 225 (mkF spTk) := by
 refine ctrE (fn := Tryz.f225) [1] 3000 (by kernel_rfl) (by kernel_rfl) (okB1.withSym symTk) (by kernel_rfl) (fun args w => by kernel_rfl) ?_
 intro xs bs r hs ho
 simp only [spTk,gTk] at hs
 split at hs
 ·rename_i cs l
  split at hs
  ·rename_i a b c d e f g h hr
   simp only [TL.sel,Option.some.injEq] at hs
   subst hs
   rw [rd32_len hr]
   exact ⟨_,b30 _ l (obsT_one.1 ho)⟩
  ·simp [TL.sel] at hs
 ·simp [TL.sel] at hs
noncomputable def B2 : Ctx := B1.add 225 (mkF spTk)
theorem okB2 : COKs Tryz.prog gl0 B2 := okB1.add c30
def gOf (xs : List AV) (bs : List ABlk) : TL := match xs,bs with
 | [.agg cs],[] => (match rd32 cs with | some [a,b,c,d,e,f,g,h] => .ok ⟨[],aggB 32 (outByte (st8 a b c d e f g h)),[],[]⟩ | _ => .no)
 | _,_ => .no
def spOf : Spec := ⟨[.kp],fun _ _ => [],fun _ _ => [],gOf⟩
set_option maxRecDepth 100000 in
theorem vc31 (v : Nat→W32) : bodyP Tryz.prog B2 gl0 [] [] 3000 Tryz.f226 0 [agg8 v] [] (retQ Tryz.prog Tryz.f226 0 ⟨[],aggB 32 (outByte v),[],[]⟩) = (
(0 : Int)≤(0 : Int) ∧
 (0 : Int)≤Int.ofNat (24 : Nat) ∧
 (0 : Int)≤Int.ofNat (0 : Nat) ∧
 (0 : Int)≤Int.ofNat (16 : Nat) ∧
 (0 : Int)≤Int.ofNat (1 : Nat) ∧
 (0 : Int)≤Int.ofNat (8 : Nat) ∧
 (0 : Int)≤Int.ofNat (2 : Nat) ∧
 (0 : Int)≤Int.ofNat (0 : Nat) ∧
 (0 : Int)≤Int.ofNat (3 : Nat) ∧
 (0 : Int)≤Int.ofNat (1 : Nat) ∧
 (0 : Int)≤Int.ofNat (24 : Nat) ∧
 (0 : Int)≤Int.ofNat (4 : Nat) ∧
 (0 : Int)≤Int.ofNat (16 : Nat) ∧
 (0 : Int)≤Int.ofNat (5 : Nat) ∧
 (0 : Int)≤Int.ofNat (8 : Nat) ∧
 (0 : Int)≤Int.ofNat (6 : Nat) ∧
 (0 : Int)≤Int.ofNat (0 : Nat) ∧
 (0 : Int)≤Int.ofNat (7 : Nat) ∧
 (0 : Int)≤Int.ofNat (2 : Nat) ∧
 (0 : Int)≤Int.ofNat (24 : Nat) ∧
 (0 : Int)≤Int.ofNat (8 : Nat) ∧
 (0 : Int)≤Int.ofNat (16 : Nat) ∧
 (0 : Int)≤Int.ofNat (9 : Nat) ∧
 (0 : Int)≤Int.ofNat (8 : Nat) ∧
 (0 : Int)≤Int.ofNat (10 : Nat) ∧
 (0 : Int)≤Int.ofNat (0 : Nat) ∧
 (0 : Int)≤Int.ofNat (11 : Nat) ∧
 (0 : Int)≤Int.ofNat (3 : Nat) ∧
 (0 : Int)≤Int.ofNat (24 : Nat) ∧
 (0 : Int)≤Int.ofNat (12 : Nat) ∧
 (0 : Int)≤Int.ofNat (16 : Nat) ∧
 (0 : Int)≤Int.ofNat (13 : Nat) ∧
 (0 : Int)≤Int.ofNat (8 : Nat) ∧
 (0 : Int)≤Int.ofNat (14 : Nat) ∧
 (0 : Int)≤Int.ofNat (0 : Nat) ∧
 (0 : Int)≤Int.ofNat (15 : Nat) ∧
 (0 : Int)≤Int.ofNat (4 : Nat) ∧
 (0 : Int)≤Int.ofNat (24 : Nat) ∧
 (0 : Int)≤Int.ofNat (16 : Nat) ∧
 (0 : Int)≤Int.ofNat (16 : Nat) ∧
 (0 : Int)≤Int.ofNat (17 : Nat) ∧
 (0 : Int)≤Int.ofNat (8 : Nat) ∧
 (0 : Int)≤Int.ofNat (18 : Nat) ∧
 (0 : Int)≤Int.ofNat (0 : Nat) ∧
 (0 : Int)≤Int.ofNat (19 : Nat)∧(0 : Int)≤Int.ofNat (5 : Nat)∧(0 : Int)≤Int.ofNat (24 : Nat)∧(0 : Int)≤Int.ofNat (20 : Nat)∧(0 : Int)≤Int.ofNat (16 : Nat)∧(0 : Int)≤Int.ofNat (21 : Nat)∧(0 : Int)≤Int.ofNat (8 : Nat)∧(0 : Int)≤Int.ofNat (22 : Nat)∧(0 : Int)≤Int.ofNat (0 : Nat)∧(0 : Int)≤Int.ofNat (23 : Nat)∧(0 : Int)≤Int.ofNat (6 : Nat)∧(0 : Int)≤Int.ofNat (24 : Nat)∧(0 : Int)≤Int.ofNat (24 : Nat)∧(0 : Int)≤Int.ofNat (16 : Nat)∧(0 : Int)≤Int.ofNat (25 : Nat)∧(0 : Int)≤Int.ofNat (8 : Nat)∧(0 : Int)≤Int.ofNat (26 : Nat)∧(0 : Int)≤Int.ofNat (0 : Nat)∧(0 : Int)≤Int.ofNat (27 : Nat)∧(0 : Int)≤Int.ofNat (7 : Nat)∧(0 : Int)≤Int.ofNat (24 : Nat)∧(0 : Int)≤Int.ofNat (28 : Nat)∧(0 : Int)≤Int.ofNat (16 : Nat)∧(0 : Int)≤Int.ofNat (29 : Nat)∧(0 : Int)≤Int.ofNat (8 : Nat)∧(0 : Int)≤Int.ofNat (30 : Nat)∧(0 : Int)≤Int.ofNat (0 : Nat)∧(0 : Int)≤Int.ofNat (31 : Nat)∧outByte v 0 = BitVec.setWidth (8 : Nat) (v 0 >>> (24 : Nat))∧outByte v 1 = BitVec.setWidth (8 : Nat) (v 0 >>> (16 : Nat))∧outByte v 2 = BitVec.setWidth (8 : Nat) (v 0 >>> (8 : Nat))∧outByte v 3 = BitVec.setWidth (8 : Nat) (v 0 >>> (0 : Nat))∧outByte v 4 = BitVec.setWidth (8 : Nat) (v 1 >>> (24 : Nat))∧outByte v 5 = BitVec.setWidth (8 : Nat) (v 1 >>> (16 : Nat))∧outByte v 6 = BitVec.setWidth (8 : Nat) (v 1 >>> (8 : Nat))∧outByte v 7 = BitVec.setWidth (8 : Nat) (v 1 >>> (0 : Nat))∧outByte v 8 = BitVec.setWidth (8 : Nat) (v 2 >>> (24 : Nat))∧outByte v 9 = BitVec.setWidth (8 : Nat) (v 2 >>> (16 : Nat))∧outByte v 10 = BitVec.setWidth (8 : Nat) (v 2 >>> (8 : Nat))∧outByte v 11 = BitVec.setWidth (8 : Nat) (v 2 >>> (0 : Nat))∧outByte v 12 = BitVec.setWidth (8 : Nat) (v 3 >>> (24 : Nat))∧outByte v 13 = BitVec.setWidth (8 : Nat) (v 3 >>> (16 : Nat))∧outByte v 14 = BitVec.setWidth (8 : Nat) (v 3 >>> (8 : Nat))∧outByte v 15 = BitVec.setWidth (8 : Nat) (v 3 >>> (0 : Nat))∧outByte v 16 = BitVec.setWidth (8 : Nat) (v 4 >>> (24 : Nat))∧outByte v 17 = BitVec.setWidth (8 : Nat) (v 4 >>> (16 : Nat))∧outByte v 18 = BitVec.setWidth (8 : Nat) (v 4 >>> (8 : Nat))∧outByte v 19 = BitVec.setWidth (8 : Nat) (v 4 >>> (0 : Nat))∧outByte v 20 = BitVec.setWidth (8 : Nat) (v 5 >>> (24 : Nat))∧outByte v 21 = BitVec.setWidth (8 : Nat) (v 5 >>> (16 : Nat))∧outByte v 22 = BitVec.setWidth (8 : Nat) (v 5 >>> (8 : Nat))∧outByte v 23 = BitVec.setWidth (8 : Nat) (v 5 >>> (0 : Nat))∧outByte v 24 = BitVec.setWidth (8 : Nat) (v 6 >>> (24 : Nat))∧outByte v 25 = BitVec.setWidth (8 : Nat) (v 6 >>> (16 : Nat))∧outByte v 26 = BitVec.setWidth (8 : Nat) (v 6 >>> (8 : Nat))∧outByte v 27 = BitVec.setWidth (8 : Nat) (v 6 >>> (0 : Nat))∧outByte v 28 = BitVec.setWidth (8 : Nat) (v 7 >>> (24 : Nat))∧outByte v 29 = BitVec.setWidth (8 : Nat) (v 7 >>> (16 : Nat))∧outByte v 30 = BitVec.setWidth (8 : Nat) (v 7 >>> (8 : Nat))∧outByte v 31 = BitVec.setWidth (8 : Nat) (v 7 >>> (0 : Nat))∧True) := by kernel_rfl
theorem b31 (v : Nat→W32) : Must (bodyP Tryz.prog B2 gl0 [] [] 3000 Tryz.f226 0 [agg8 v] [] (retQ Tryz.prog Tryz.f226 0 ⟨[],aggB 32 (outByte v),[],[]⟩)) := by
 constructor
 rw [vc31]
 simp [outByte]
theorem c31 : COK Tryz.prog gl0 226 (mkF spOf) := by
 refine ctrE (fn := Tryz.f226) [] 3000 (by kernel_rfl) (by kernel_rfl) okB2 (by kernel_rfl) (fun args w => by kernel_rfl) ?_
 intro xs bs r hs ho
 simp only [spOf,gOf] at hs
 split at hs
 ·rename_i cs
  split at hs
  ·rename_i a b c d e f g h hr
   simp only [TL.sel,Option.some.injEq] at hs
   subst hs
   rw [rd32_len hr]
   exact ⟨_,b31 _⟩
  ·simp [TL.sel] at hs
 ·simp [TL.sel] at hs
noncomputable def B3 : Ctx := B2.add 226 (mkF spOf)
theorem okB3 : COKs Tryz.prog gl0 B3 := okB2.add c31
def lsFi (v : Nat→W32) (ah : BitVec 64) (b : By) : LS := ⟨Nat,fun j => [(1,.u64 ah),(2,.rb false b .unk),(3,.ptr 100 0 0 0),(6,.ptr 101 0 0 0),(7,.int .i64 (64 * j : Nat))],
 fun j => [(100,⟨.cells ((List.range 8).map fun i => .u32 (blocks v b j i)),true,0⟩),(101,⟨.cells (List.replicate 32 (.u8 0)),true,0⟩)],1000,fun j => b.length - 64 * j,fun j => 64 * j≤b.length,fun _ => []⟩
def lsFi2 (v : Nat→W32) (ah : BitVec 64) (b : By) : LS := ⟨Nat × By,fun x => [(3,.ptr 100 0 0 0),(6,.ptr 101 0 0 0),(8,.ptr 102 0 0 0),(10,.int .i64 (tailEnd (rest64 b).length : Nat)),(13,.int .i64 (64 * x.1 : Nat))],
 fun x => [(100,⟨.cells ((List.range 8).map fun i => .u32 (tailSt v b x.2 x.1 i)),true,0⟩),(101,⟨.cells (List.replicate 32 (.u8 0)),true,0⟩),(102,⟨.bytes x.2,true,0⟩)],5000,fun x => 4 - x.1,fun x => x.2.length = 128∧x.2.take (tailEnd (rest64 b).length) = padTail ah b∧64 * x.1≤tailEnd (rest64 b).length,fun _ => []⟩
def gFi (xs : List AV) (bs : List ABlk) : TL := match xs,bs with
 | [.agg cs,.u64 ah,.rb false l .unk],[] => (match rd32 cs with | some [a,b,c,d,e,f,g,h] => .ok ⟨[l.length < 4611686018427387904],aggB 32 (outByte (shaSt (st8 a b c d e f g h) ah l)),[],[]⟩ | _ => .no)
 | _,_ => .no
def spFi : Spec := ⟨[.kp,.kp,.by0],fun _ _ => [],fun _ _ => [],gFi⟩
def symFi : List Nat := [8,34,57]
set_option maxRecDepth 100000 in
theorem vc24 (v : Nat→W32) (ah : BitVec 64) (b : By) : bodyP Tryz.prog (B3.withSym symFi) gl0 [] [(3,lsFi v ah b),(19,lsFi2 v ah b)] 3000 Tryz.f170 0 [agg8 v,.u64 ah,.rb false b .unk] [] (retQ Tryz.prog Tryz.f170 0 ⟨[],aggB 32 (outByte (shaSt v ah b)),[],[]⟩) = (
let x1 := BitVec.ofNat 64 8 * (ah + BitVec.ofInt 64 (↑(List.length b) : Int)); let x2 := (0 : BitVec 8) = BitVec.ofNat 8 0; let x3 := List.take 0 (List.replicate 128 (0 : BitVec 8)); (∃ (x : Nat),(64 * x).le (List.length b)∧ah = ah∧b = b∧0 = 0∧0 = 0∧(↑(64 * x) : Int) = (0 : Int)∧blocks v b x 0 = v 0∧blocks v b x 1 = v 1∧blocks v b x 2 = v 2∧blocks v b x 3 = v 3∧blocks v b x 4 = v 4∧blocks v b x 5 = v 5∧blocks v b x 6 = v 6∧blocks v b x 7 = v 7∧x2∧x2∧x2∧x2∧x2∧x2∧x2∧x2∧x2∧x2∧x2∧x2∧x2∧x2∧x2∧x2∧x2∧x2∧x2∧x2∧x2∧x2∧x2∧x2∧x2∧x2∧x2∧x2∧x2∧x2∧x2∧x2∧True)∧∀ (x : Nat),let x1_1 := (x3++(List.take 128 (List.drop (↑(64 * x) : Int).toNat b)++List.drop (0 + Min.min (List.drop (↑(64 * x) : Int).toNat b).length 128) (List.replicate 128 (0 : BitVec 8)))).set (↑(Min.min (List.drop (↑(64 * x) : Int).toNat b).length 128) : Int).toNat (BitVec.ofNat 8 128); let x2 := st8 (blocks v b x 0) (blocks v b x 1) (blocks v b x 2) (blocks v b x 3) (blocks v b x 4) (blocks v b x 5) (blocks v b x 6) (blocks v b x 7); let x3_1 := (((x1_1.set 127 (BitVec.setWidth 8 (x1 >>> 0))).set 126 (BitVec.setWidth 8 (x1 >>> 8))).set 125 (BitVec.setWidth 8 (x1 >>> 16))).set 124 (BitVec.setWidth 8 (x1 >>> 24)); let x4 := (((x1_1.set 63 (BitVec.setWidth 8 (x1 >>> 0))).set 62 (BitVec.setWidth 8 (x1 >>> 8))).set 61 (BitVec.setWidth 8 (x1 >>> 16))).set 60 (BitVec.setWidth 8 (x1 >>> 24)); let x5 := List.drop (↑(64 * x) : Int).toNat (List.take (IntKind.i64.wrap ((↑(64 * x) : Int) + (64 : Int))).toNat b); let x6 := Min.min (List.drop (↑(64 * x) : Int).toNat b).length 128; let x7 := (x4.set 59 (BitVec.setWidth 8 (x1 >>> 32))).set 58 (BitVec.setWidth 8 (x1 >>> 40)); let x8 := (x3_1.set 123 (BitVec.setWidth 8 (x1 >>> 32))).set 122 (BitVec.setWidth 8 (x1 >>> 40)); (64 * x).le (List.length b)→@Bool.rec (fun _ => Prop) ((0 : Int)≤(↑(64 * x) : Int)∧(↑(64 * x) : Int).toNat≤List.length b∧128≤128∧(0 : Int)≤(↑x6 : Int)∧(↑x6 : Int).toNat < 128∧(↑x6 : Int).toNat < (x3++(List.take 128 (List.drop (↑(64 * x) : Int).toNat b)++List.drop (0 + x6) (List.replicate 128 (0 : BitVec 8)))).length∧@Bool.rec (fun _ => Prop) ((0 : Int)≤Int.ofNat 0∧(0 : Int)≤Int.ofNat 63∧63 < 128∧63 < x1_1.length∧(0 : Int)≤Int.ofNat 8∧(0 : Int)≤Int.ofNat 62∧62 < 128∧62 < (x1_1.set 63 (BitVec.setWidth 8 (x1 >>> 0))).length∧(0 : Int)≤Int.ofNat 16∧(0 : Int)≤Int.ofNat 61∧61 < 128∧61 < ((x1_1.set 63 (BitVec.setWidth 8 (x1 >>> 0))).set 62 (BitVec.setWidth 8 (x1 >>> 8))).length∧(0 : Int)≤Int.ofNat 24∧(0 : Int)≤Int.ofNat 60∧60 < 128∧60 < (((x1_1.set 63 (BitVec.setWidth 8 (x1 >>> 0))).set 62 (BitVec.setWidth 8 (x1 >>> 8))).set 61 (BitVec.setWidth 8 (x1 >>> 16))).length∧(0 : Int)≤Int.ofNat 32∧(0 : Int)≤Int.ofNat 59∧59 < 128∧59 < x4.length∧(0 : Int)≤Int.ofNat 40∧(0 : Int)≤Int.ofNat 58∧58 < 128∧58 < (x4.set 59 (BitVec.setWidth 8 (x1 >>> 32))).length∧(0 : Int)≤Int.ofNat 48∧(0 : Int)≤Int.ofNat 57∧57 < 128∧57 < x7.length∧(0 : Int)≤Int.ofNat 56∧(0 : Int)≤Int.ofNat 56∧56 < 128∧56 < (x7.set 57 (BitVec.setWidth 8 (x1 >>> 48))).length∧(∃ (x_1 : Nat × By),(List.length x_1.snd = 128∧List.take (tailEnd (List.length (rest64 b))) x_1.snd = padTail ah b∧64 * x_1.fst≤tailEnd (List.length (rest64 b)))∧0 = 0∧0 = 0∧0 = 0∧(↑(tailEnd (List.length (rest64 b))) : Int) = (64 : Int)∧(↑(64 * x_1.fst) : Int) = (0 : Int)∧tailSt v b x_1.snd x_1.fst 0 = blocks v b x 0∧tailSt v b x_1.snd x_1.fst 1 = blocks v b x 1∧tailSt v b x_1.snd x_1.fst 2 = blocks v b x 2∧tailSt v b x_1.snd x_1.fst 3 = blocks v b x 3∧tailSt v b x_1.snd x_1.fst 4 = blocks v b x 4∧tailSt v b x_1.snd x_1.fst 5 = blocks v b x 5∧tailSt v b x_1.snd x_1.fst 6 = blocks v b x 6∧tailSt v b x_1.snd x_1.fst 7 = blocks v b x 7∧(0 : BitVec 8) = (0 : BitVec 8)∧(0 : BitVec 8) = (0 : BitVec 8)∧(0 : BitVec 8) = (0 : BitVec 8)∧(0 : BitVec 8) = (0 : BitVec 8)∧(0 : BitVec 8) = (0 : BitVec 8)∧(0 : BitVec 8) = (0 : BitVec 8)∧(0 : BitVec 8) = (0 : BitVec 8)∧(0 : BitVec 8) = (0 : BitVec 8)∧(0 : BitVec 8) = (0 : BitVec 8)∧(0 : BitVec 8) = (0 : BitVec 8)∧(0 : BitVec 8) = (0 : BitVec 8)∧(0 : BitVec 8) = (0 : BitVec 8)∧(0 : BitVec 8) = (0 : BitVec 8)∧(0 : BitVec 8) = (0 : BitVec 8)∧(0 : BitVec 8) = (0 : BitVec 8)∧(0 : BitVec 8) = (0 : BitVec 8)∧(0 : BitVec 8) = (0 : BitVec 8)∧(0 : BitVec 8) = (0 : BitVec 8)∧(0 : BitVec 8) = (0 : BitVec 8)∧(0 : BitVec 8) = (0 : BitVec 8)∧(0 : BitVec 8) = (0 : BitVec 8)∧(0 : BitVec 8) = (0 : BitVec 8)∧(0 : BitVec 8) = (0 : BitVec 8)∧(0 : BitVec 8) = (0 : BitVec 8)∧(0 : BitVec 8) = (0 : BitVec 8)∧(0 : BitVec 8) = (0 : BitVec 8)∧(0 : BitVec 8) = (0 : BitVec 8)∧(0 : BitVec 8) = (0 : BitVec 8)∧(0 : BitVec 8) = (0 : BitVec 8)∧(0 : BitVec 8) = (0 : BitVec 8)∧(0 : BitVec 8) = (0 : BitVec 8)∧(0 : BitVec 8) = (0 : BitVec 8)∧x_1.snd = (x7.set 57 (BitVec.setWidth 8 (x1 >>> 48))).set 56 (BitVec.setWidth 8 (x1 >>> 56))∧True)∧∀ (x : Nat × By),let x1 := st8 (tailSt v b x.snd x.fst 0) (tailSt v b x.snd x.fst 1) (tailSt v b x.snd x.fst 2) (tailSt v b x.snd x.fst 3) (tailSt v b x.snd x.fst 4) (tailSt v b x.snd x.fst 5) (tailSt v b x.snd x.fst 6) (tailSt v b x.snd x.fst 7); let x2 := List.take (minus (IntKind.i64.wrap ((↑(64 * x.fst) : Int) + (64 : Int))).toNat (↑(64 * x.fst) : Int).toNat) (dropN (0 + (↑(64 * x.fst) : Int).toNat) x.snd); let x3 := IntKind.i64.wrap ((↑(64 * x.fst) : Int) + (64 : Int)); List.length x.snd = 128∧List.take (tailEnd (List.length (rest64 b))) x.snd = padTail ah b∧64 * x.fst≤tailEnd (List.length (rest64 b))→@Bool.rec (fun _ => Prop) (outByte (shaSt v ah b) 0 = outByte x1 0∧outByte (shaSt v ah b) 1 = outByte x1 1∧outByte (shaSt v ah b) 2 = outByte x1 2∧outByte (shaSt v ah b) 3 = outByte x1 3∧outByte (shaSt v ah b) 4 = outByte x1 4∧outByte (shaSt v ah b) 5 = outByte x1 5∧outByte (shaSt v ah b) 6 = outByte x1 6∧outByte (shaSt v ah b) 7 = outByte x1 7∧outByte (shaSt v ah b) 8 = outByte x1 8∧outByte (shaSt v ah b) 9 = outByte x1 9∧outByte (shaSt v ah b) 10 = outByte x1 10∧outByte (shaSt v ah b) 11 = outByte x1 11∧outByte (shaSt v ah b) 12 = outByte x1 12∧outByte (shaSt v ah b) 13 = outByte x1 13∧outByte (shaSt v ah b) 14 = outByte x1 14∧outByte (shaSt v ah b) 15 = outByte x1 15∧outByte (shaSt v ah b) 16 = outByte x1 16∧outByte (shaSt v ah b) 17 = outByte x1 17∧outByte (shaSt v ah b) 18 = outByte x1 18∧outByte (shaSt v ah b) 19 = outByte x1 19∧outByte (shaSt v ah b) 20 = outByte x1 20∧outByte (shaSt v ah b) 21 = outByte x1 21∧outByte (shaSt v ah b) 22 = outByte x1 22∧outByte (shaSt v ah b) 23 = outByte x1 23∧outByte (shaSt v ah b) 24 = outByte x1 24∧outByte (shaSt v ah b) 25 = outByte x1 25∧outByte (shaSt v ah b) 26 = outByte x1 26∧outByte (shaSt v ah b) 27 = outByte x1 27∧outByte (shaSt v ah b) 28 = outByte x1 28∧outByte (shaSt v ah b) 29 = outByte x1 29∧outByte (shaSt v ah b) 30 = outByte x1 30∧outByte (shaSt v ah b) 31 = outByte x1 31∧True) ((0 : Int)≤(↑(64 * x.fst) : Int)∧(0 : Int)≤x3∧(↑(64 * x.fst) : Int).toNat≤x3.toNat∧x3.toNat≤128∧0 + (↑(64 * x.fst) : Int).toNat + minus x3.toNat (↑(64 * x.fst) : Int).toNat≤List.length x.snd∧x2.length = 64∧∃ (y : Nat × By),4 - y.fst < 4 - x.fst∧(List.length y.snd = 128∧List.take (tailEnd (List.length (rest64 b))) y.snd = padTail ah b∧64 * y.fst≤tailEnd (List.length (rest64 b)))∧0 = 0∧0 = 0∧0 = 0∧(↑(tailEnd (List.length (rest64 b))) : Int) = (↑(tailEnd (List.length (rest64 b))) : Int)∧(↑(64 * y.fst) : Int) = x3∧tailSt v b y.snd y.fst 0 = compress x1 x2 0∧tailSt v b y.snd y.fst 1 = compress x1 x2 1∧tailSt v b y.snd y.fst 2 = compress x1 x2 2∧tailSt v b y.snd y.fst 3 = compress x1 x2 3∧tailSt v b y.snd y.fst 4 = compress x1 x2 4∧tailSt v b y.snd y.fst 5 = compress x1 x2 5∧tailSt v b y.snd y.fst 6 = compress x1 x2 6∧tailSt v b y.snd y.fst 7 = compress x1 x2 7∧(0 : BitVec 8) = (0 : BitVec 8)∧(0 : BitVec 8) = (0 : BitVec 8)∧(0 : BitVec 8) = (0 : BitVec 8)∧(0 : BitVec 8) = (0 : BitVec 8)∧(0 : BitVec 8) = (0 : BitVec 8)∧(0 : BitVec 8) = (0 : BitVec 8)∧(0 : BitVec 8) = (0 : BitVec 8)∧(0 : BitVec 8) = (0 : BitVec 8)∧(0 : BitVec 8) = (0 : BitVec 8)∧(0 : BitVec 8) = (0 : BitVec 8)∧(0 : BitVec 8) = (0 : BitVec 8)∧(0 : BitVec 8) = (0 : BitVec 8)∧(0 : BitVec 8) = (0 : BitVec 8)∧(0 : BitVec 8) = (0 : BitVec 8)∧(0 : BitVec 8) = (0 : BitVec 8)∧(0 : BitVec 8) = (0 : BitVec 8)∧(0 : BitVec 8) = (0 : BitVec 8)∧(0 : BitVec 8) = (0 : BitVec 8)∧(0 : BitVec 8) = (0 : BitVec 8)∧(0 : BitVec 8) = (0 : BitVec 8)∧(0 : BitVec 8) = (0 : BitVec 8)∧(0 : BitVec 8) = (0 : BitVec 8)∧(0 : BitVec 8) = (0 : BitVec 8)∧(0 : BitVec 8) = (0 : BitVec 8)∧(0 : BitVec 8) = (0 : BitVec 8)∧(0 : BitVec 8) = (0 : BitVec 8)∧(0 : BitVec 8) = (0 : BitVec 8)∧(0 : BitVec 8) = (0 : BitVec 8)∧(0 : BitVec 8) = (0 : BitVec 8)∧(0 : BitVec 8) = (0 : BitVec 8)∧(0 : BitVec 8) = (0 : BitVec 8)∧(0 : BitVec 8) = (0 : BitVec 8)∧y.snd = x.snd∧True) (decide ((↑(64 * x.fst) : Int) < (↑(tailEnd (List.length (rest64 b))) : Int)))) ((0 : Int)≤Int.ofNat 0∧(0 : Int)≤Int.ofNat 127∧127 < 128∧127 < x1_1.length∧(0 : Int)≤Int.ofNat 8∧(0 : Int)≤Int.ofNat 126∧126 < 128∧126 < (x1_1.set 127 (BitVec.setWidth 8 (x1 >>> 0))).length∧(0 : Int)≤Int.ofNat 16∧(0 : Int)≤Int.ofNat 125∧125 < 128∧125 < ((x1_1.set 127 (BitVec.setWidth 8 (x1 >>> 0))).set 126 (BitVec.setWidth 8 (x1 >>> 8))).length∧(0 : Int)≤Int.ofNat 24∧(0 : Int)≤Int.ofNat 124∧124 < 128∧124 < (((x1_1.set 127 (BitVec.setWidth 8 (x1 >>> 0))).set 126 (BitVec.setWidth 8 (x1 >>> 8))).set 125 (BitVec.setWidth 8 (x1 >>> 16))).length∧(0 : Int)≤Int.ofNat 32∧(0 : Int)≤Int.ofNat 123∧123 < 128∧123 < x3_1.length∧(0 : Int)≤Int.ofNat 40∧(0 : Int)≤Int.ofNat 122∧122 < 128∧122 < (x3_1.set 123 (BitVec.setWidth 8 (x1 >>> 32))).length∧(0 : Int)≤Int.ofNat 48∧(0 : Int)≤Int.ofNat 121∧121 < 128∧121 < x8.length∧(0 : Int)≤Int.ofNat 56∧(0 : Int)≤Int.ofNat 120∧120 < 128∧120 < (x8.set 121 (BitVec.setWidth 8 (x1 >>> 48))).length∧(∃ (x_1 : Nat × By),(List.length x_1.snd = 128∧List.take (tailEnd (List.length (rest64 b))) x_1.snd = padTail ah b∧64 * x_1.fst≤tailEnd (List.length (rest64 b)))∧0 = 0∧0 = 0∧0 = 0∧(↑(tailEnd (List.length (rest64 b))) : Int) = (128 : Int)∧(↑(64 * x_1.fst) : Int) = (0 : Int)∧tailSt v b x_1.snd x_1.fst 0 = blocks v b x 0∧tailSt v b x_1.snd x_1.fst 1 = blocks v b x 1∧tailSt v b x_1.snd x_1.fst 2 = blocks v b x 2∧tailSt v b x_1.snd x_1.fst 3 = blocks v b x 3∧tailSt v b x_1.snd x_1.fst 4 = blocks v b x 4∧tailSt v b x_1.snd x_1.fst 5 = blocks v b x 5∧tailSt v b x_1.snd x_1.fst 6 = blocks v b x 6∧tailSt v b x_1.snd x_1.fst 7 = blocks v b x 7∧(0 : BitVec 8) = (0 : BitVec 8)∧(0 : BitVec 8) = (0 : BitVec 8)∧(0 : BitVec 8) = (0 : BitVec 8)∧(0 : BitVec 8) = (0 : BitVec 8)∧(0 : BitVec 8) = (0 : BitVec 8)∧(0 : BitVec 8) = (0 : BitVec 8)∧(0 : BitVec 8) = (0 : BitVec 8)∧(0 : BitVec 8) = (0 : BitVec 8)∧(0 : BitVec 8) = (0 : BitVec 8)∧(0 : BitVec 8) = (0 : BitVec 8)∧(0 : BitVec 8) = (0 : BitVec 8)∧(0 : BitVec 8) = (0 : BitVec 8)∧(0 : BitVec 8) = (0 : BitVec 8)∧(0 : BitVec 8) = (0 : BitVec 8)∧(0 : BitVec 8) = (0 : BitVec 8)∧(0 : BitVec 8) = (0 : BitVec 8)∧(0 : BitVec 8) = (0 : BitVec 8)∧(0 : BitVec 8) = (0 : BitVec 8)∧(0 : BitVec 8) = (0 : BitVec 8)∧(0 : BitVec 8) = (0 : BitVec 8)∧(0 : BitVec 8) = (0 : BitVec 8)∧(0 : BitVec 8) = (0 : BitVec 8)∧(0 : BitVec 8) = (0 : BitVec 8)∧(0 : BitVec 8) = (0 : BitVec 8)∧(0 : BitVec 8) = (0 : BitVec 8)∧(0 : BitVec 8) = (0 : BitVec 8)∧(0 : BitVec 8) = (0 : BitVec 8)∧(0 : BitVec 8) = (0 : BitVec 8)∧(0 : BitVec 8) = (0 : BitVec 8)∧(0 : BitVec 8) = (0 : BitVec 8)∧(0 : BitVec 8) = (0 : BitVec 8)∧(0 : BitVec 8) = (0 : BitVec 8)∧x_1.snd = (x8.set 121 (BitVec.setWidth 8 (x1 >>> 48))).set 120 (BitVec.setWidth 8 (x1 >>> 56))∧True)∧∀ (x : Nat × By),let x1 := st8 (tailSt v b x.snd x.fst 0) (tailSt v b x.snd x.fst 1) (tailSt v b x.snd x.fst 2) (tailSt v b x.snd x.fst 3) (tailSt v b x.snd x.fst 4) (tailSt v b x.snd x.fst 5) (tailSt v b x.snd x.fst 6) (tailSt v b x.snd x.fst 7); let x2 := List.take (minus (IntKind.i64.wrap ((↑(64 * x.fst) : Int) + (64 : Int))).toNat (↑(64 * x.fst) : Int).toNat) (dropN (0 + (↑(64 * x.fst) : Int).toNat) x.snd); let x3 := IntKind.i64.wrap ((↑(64 * x.fst) : Int) + (64 : Int)); List.length x.snd = 128∧List.take (tailEnd (List.length (rest64 b))) x.snd = padTail ah b∧64 * x.fst≤tailEnd (List.length (rest64 b))→@Bool.rec (fun _ => Prop) (outByte (shaSt v ah b) 0 = outByte x1 0∧outByte (shaSt v ah b) 1 = outByte x1 1∧outByte (shaSt v ah b) 2 = outByte x1 2∧outByte (shaSt v ah b) 3 = outByte x1 3∧outByte (shaSt v ah b) 4 = outByte x1 4∧outByte (shaSt v ah b) 5 = outByte x1 5∧outByte (shaSt v ah b) 6 = outByte x1 6∧outByte (shaSt v ah b) 7 = outByte x1 7∧outByte (shaSt v ah b) 8 = outByte x1 8∧outByte (shaSt v ah b) 9 = outByte x1 9∧outByte (shaSt v ah b) 10 = outByte x1 10∧outByte (shaSt v ah b) 11 = outByte x1 11∧outByte (shaSt v ah b) 12 = outByte x1 12∧outByte (shaSt v ah b) 13 = outByte x1 13∧outByte (shaSt v ah b) 14 = outByte x1 14∧outByte (shaSt v ah b) 15 = outByte x1 15∧outByte (shaSt v ah b) 16 = outByte x1 16∧outByte (shaSt v ah b) 17 = outByte x1 17∧outByte (shaSt v ah b) 18 = outByte x1 18∧outByte (shaSt v ah b) 19 = outByte x1 19∧outByte (shaSt v ah b) 20 = outByte x1 20∧outByte (shaSt v ah b) 21 = outByte x1 21∧outByte (shaSt v ah b) 22 = outByte x1 22∧outByte (shaSt v ah b) 23 = outByte x1 23∧outByte (shaSt v ah b) 24 = outByte x1 24∧outByte (shaSt v ah b) 25 = outByte x1 25∧outByte (shaSt v ah b) 26 = outByte x1 26∧outByte (shaSt v ah b) 27 = outByte x1 27∧outByte (shaSt v ah b) 28 = outByte x1 28∧outByte (shaSt v ah b) 29 = outByte x1 29∧outByte (shaSt v ah b) 30 = outByte x1 30∧outByte (shaSt v ah b) 31 = outByte x1 31∧True) ((0 : Int)≤(↑(64 * x.fst) : Int)∧(0 : Int)≤x3∧(↑(64 * x.fst) : Int).toNat≤x3.toNat∧x3.toNat≤128∧0 + (↑(64 * x.fst) : Int).toNat + minus x3.toNat (↑(64 * x.fst) : Int).toNat≤List.length x.snd∧x2.length = 64∧∃ (y : Nat × By),4 - y.fst < 4 - x.fst∧(List.length y.snd = 128∧List.take (tailEnd (List.length (rest64 b))) y.snd = padTail ah b∧64 * y.fst≤tailEnd (List.length (rest64 b)))∧0 = 0∧0 = 0∧0 = 0∧(↑(tailEnd (List.length (rest64 b))) : Int) = (↑(tailEnd (List.length (rest64 b))) : Int)∧(↑(64 * y.fst) : Int) = x3∧tailSt v b y.snd y.fst 0 = compress x1 x2 0∧tailSt v b y.snd y.fst 1 = compress x1 x2 1∧tailSt v b y.snd y.fst 2 = compress x1 x2 2∧tailSt v b y.snd y.fst 3 = compress x1 x2 3∧tailSt v b y.snd y.fst 4 = compress x1 x2 4∧tailSt v b y.snd y.fst 5 = compress x1 x2 5∧tailSt v b y.snd y.fst 6 = compress x1 x2 6∧tailSt v b y.snd y.fst 7 = compress x1 x2 7∧(0 : BitVec 8) = (0 : BitVec 8)∧(0 : BitVec 8) = (0 : BitVec 8)∧(0 : BitVec 8) = (0 : BitVec 8)∧(0 : BitVec 8) = (0 : BitVec 8)∧(0 : BitVec 8) = (0 : BitVec 8)∧(0 : BitVec 8) = (0 : BitVec 8)∧(0 : BitVec 8) = (0 : BitVec 8)∧(0 : BitVec 8) = (0 : BitVec 8)∧(0 : BitVec 8) = (0 : BitVec 8)∧(0 : BitVec 8) = (0 : BitVec 8)∧(0 : BitVec 8) = (0 : BitVec 8)∧(0 : BitVec 8) = (0 : BitVec 8)∧(0 : BitVec 8) = (0 : BitVec 8)∧(0 : BitVec 8) = (0 : BitVec 8)∧(0 : BitVec 8) = (0 : BitVec 8)∧(0 : BitVec 8) = (0 : BitVec 8)∧(0 : BitVec 8) = (0 : BitVec 8)∧(0 : BitVec 8) = (0 : BitVec 8)∧(0 : BitVec 8) = (0 : BitVec 8)∧(0 : BitVec 8) = (0 : BitVec 8)∧(0 : BitVec 8) = (0 : BitVec 8)∧(0 : BitVec 8) = (0 : BitVec 8)∧(0 : BitVec 8) = (0 : BitVec 8)∧(0 : BitVec 8) = (0 : BitVec 8)∧(0 : BitVec 8) = (0 : BitVec 8)∧(0 : BitVec 8) = (0 : BitVec 8)∧(0 : BitVec 8) = (0 : BitVec 8)∧(0 : BitVec 8) = (0 : BitVec 8)∧(0 : BitVec 8) = (0 : BitVec 8)∧(0 : BitVec 8) = (0 : BitVec 8)∧(0 : BitVec 8) = (0 : BitVec 8)∧(0 : BitVec 8) = (0 : BitVec 8)∧y.snd = x.snd∧True) (decide ((↑(64 * x.fst) : Int) < (↑(tailEnd (List.length (rest64 b))) : Int)))) (decide ((64 : Int) < IntKind.i64.wrap (IntKind.i64.wrap ((↑x6 : Int) + (1 : Int)) + (8 : Int))))) ((0 : Int)≤(↑(64 * x) : Int)∧(0 : Int)≤IntKind.i64.wrap ((↑(64 * x) : Int) + (64 : Int))∧(↑(64 * x) : Int).toNat≤(IntKind.i64.wrap ((↑(64 * x) : Int) + (64 : Int))).toNat∧(IntKind.i64.wrap ((↑(64 * x) : Int) + (64 : Int))).toNat≤List.length b∧x5.length = 64∧∃ (y : Nat),List.length b - 64 * y < List.length b - 64 * x∧(64 * y).le (List.length b)∧ah = ah∧b = b∧0 = 0∧0 = 0∧(↑(64 * y) : Int) = IntKind.i64.wrap ((↑(64 * x) : Int) + (64 : Int))∧blocks v b y 0 = compress x2 x5 0∧blocks v b y 1 = compress x2 x5 1∧blocks v b y 2 = compress x2 x5 2∧blocks v b y 3 = compress x2 x5 3∧blocks v b y 4 = compress x2 x5 4∧blocks v b y 5 = compress x2 x5 5∧blocks v b y 6 = compress x2 x5 6∧blocks v b y 7 = compress x2 x5 7∧(0 : BitVec 8) = (0 : BitVec 8)∧(0 : BitVec 8) = (0 : BitVec 8)∧(0 : BitVec 8) = (0 : BitVec 8)∧(0 : BitVec 8) = (0 : BitVec 8)∧(0 : BitVec 8) = (0 : BitVec 8)∧(0 : BitVec 8) = (0 : BitVec 8)∧(0 : BitVec 8) = (0 : BitVec 8)∧(0 : BitVec 8) = (0 : BitVec 8)∧(0 : BitVec 8) = (0 : BitVec 8)∧(0 : BitVec 8) = (0 : BitVec 8)∧(0 : BitVec 8) = (0 : BitVec 8)∧(0 : BitVec 8) = (0 : BitVec 8)∧(0 : BitVec 8) = (0 : BitVec 8)∧(0 : BitVec 8) = (0 : BitVec 8)∧(0 : BitVec 8) = (0 : BitVec 8)∧(0 : BitVec 8) = (0 : BitVec 8)∧(0 : BitVec 8) = (0 : BitVec 8)∧(0 : BitVec 8) = (0 : BitVec 8)∧(0 : BitVec 8) = (0 : BitVec 8)∧(0 : BitVec 8) = (0 : BitVec 8)∧(0 : BitVec 8) = (0 : BitVec 8)∧(0 : BitVec 8) = (0 : BitVec 8)∧(0 : BitVec 8) = (0 : BitVec 8)∧(0 : BitVec 8) = (0 : BitVec 8)∧(0 : BitVec 8) = (0 : BitVec 8)∧(0 : BitVec 8) = (0 : BitVec 8)∧(0 : BitVec 8) = (0 : BitVec 8)∧(0 : BitVec 8) = (0 : BitVec 8)∧(0 : BitVec 8) = (0 : BitVec 8)∧(0 : BitVec 8) = (0 : BitVec 8)∧(0 : BitVec 8) = (0 : BitVec 8)∧(0 : BitVec 8) = (0 : BitVec 8)∧True) (decide ((64 : Int)≤IntKind.i64.wrap ((↑(List.length b) : Int) - (↑(64 * x) : Int)))) : Prop) := by kernel_rfl
end Go.Sym
