/- The same: sums, sums under a key. -/
import Derived.Test.YtknplceohfeamaaGreatDoorShaA
set_option linter.unusedVariables false
set_option linter.unusedSimpArgs false
namespace Go.Spec
theorem F0 {v : Nat->vD} (hv : ∀ i,8<=i->v i = 0) (l : By) (j : Nat) : Q0 (zN v l j 0) (zN v l j 1) (zN v l j 2) (zN v l j 3) (zN v l j 4) (zN v l j 5) (zN v l j 6) (zN v l j 7) = zN v l j := Q1 (nT hv l j)
theorem bH (v : Nat->vD) (l : By) (m : Nat) : ∀ k,64 * k<=m->zN v (l.take m) k = zN v l k
 | 0,_ => rfl
 | k + 1,h => by
  simp only [zN]
  rw [bH v l m k (by omega),List.drop_take,List.take_take,Nat.min_eq_left (by omega)]
theorem X7 (r : By) (e : Nat) (a : BitVec 8) (c : Nat->BitVec 8) (he : r.length + 9<=e) (he2 : e<=128) :
  ((((((((((r++List.replicate (128 - r.length) 0#8).set r.length a).set (e - 1) (c 0)).set (e - 2) (c 1)).set (e - 3) (c 2)).set (e - 4) (c 3)).set (e - 5) (c 4)).set (e - 6) (c 5)).set (e - 7) (c 6)).set (e - 8) (c 7)).take e =
   r++(a::(List.replicate (e - r.length - 9) 0#8++[c 7,c 6,c 5,c 4,c 3,c 2,c 1,c 0])) := by
 apply List.ext_getElem?
 intro k
 simp only [List.getElem?_take,List.getElem?_set,List.length_set,List.length_append,List.length_replicate]
 by_cases hk : k < e
 ·rw [if_pos hk]
  by_cases h1 : k < r.length
  ·rw [List.getElem?_append_left h1,List.getElem?_append_left h1]
   simp (disch := omega) only [if_neg]
  ·conv => rhs; rw [List.getElem?_append_right (Nat.le_of_not_lt h1)]
   by_cases h2 : k = r.length
   ·subst h2
    simp (disch := omega) only [if_neg,if_pos,Nat.sub_self,List.getElem?_cons_zero,if_true]
   ·obtain ⟨q,rfl⟩ : ∃ q,k = r.length + 1 + q := ⟨k - r.length - 1,by omega⟩
    rw [show r.length + 1 + q - r.length = q + 1 by omega,List.getElem?_cons_succ]
    by_cases h3 : q < e - r.length - 9
    ·conv => rhs; rw [List.getElem?_append_left (by simp; omega)]
     conv => lhs; simp (disch := omega) only [if_neg]
     rw [List.getElem?_append_right (by omega)]
     simp (disch := omega) only [List.getElem?_replicate,if_pos]
    ·conv => rhs; rw [List.getElem?_append_right (by simp; omega)]
     simp only [List.length_replicate]
     obtain ⟨p,hp⟩ : ∃ p,q = e - r.length - 9 + p := ⟨q - (e - r.length - 9),by omega⟩
     have hp8 : p < 8 := by omega
     rw [show q - (e - r.length - 9) = p by omega]
     have : r.length + 1 + q = e - 8 + p := by omega
     rw [this]
     match p,hp8 with
     | 0,_ => (rw [if_pos (by omega),if_pos (by omega)]; rfl)
     | 1,_ => (rw [if_neg (by omega),if_pos (by omega),if_pos (by omega)]; rfl)
     | 2,_ => (rw [if_neg (by omega),if_neg (by omega),if_pos (by omega),if_pos (by omega)]; rfl)
     | 3,_ => (rw [if_neg (by omega),if_neg (by omega),if_neg (by omega),if_pos (by omega),if_pos (by omega)]; rfl)
     | 4,_ => (rw [if_neg (by omega),if_neg (by omega),if_neg (by omega),if_neg (by omega),if_pos (by omega),if_pos (by omega)]; rfl)
     | 5,_ => (rw [if_neg (by omega),if_neg (by omega),if_neg (by omega),if_neg (by omega),if_neg (by omega),if_pos (by omega),if_pos (by omega)]; rfl)
     | 6,_ => (rw [if_neg (by omega),if_neg (by omega),if_neg (by omega),if_neg (by omega),if_neg (by omega),if_neg (by omega),if_pos (by omega),if_pos (by omega)]; rfl)
     | 7,_ => (rw [if_neg (by omega),if_neg (by omega),if_neg (by omega),if_neg (by omega),if_neg (by omega),if_neg (by omega),if_neg (by omega),if_pos (by omega),if_pos (by omega)]; rfl)
 ·rw [if_neg hk,List.getElem?_eq_none]
  simp
  omega
theorem X8 (r : By) (h : r.length < 64) : List.take 0 (List.replicate 128 (0 : BitVec 8))++(List.take 128 r++List.drop (0 + r.length) (List.replicate 128 (0 : BitVec 8))) = r++List.replicate (128 - r.length) 0#8 := by
 rw [List.take_zero,List.nil_append,List.take_of_length_le (by omega),Nat.zero_add,List.drop_replicate]
 rfl
end Go.Spec
namespace Go.Sym
open Go.Proofs Go.Spec
set_option maxRecDepth 100000 in
set_option maxHeartbeats 2000000 in
theorem b24 (v : Nat->vD) (hv : ∀ i,8<=i->v i = 0) (ah : BitVec 64) (b : By) (hb : b.length < 4611686018427387904) : Must (bg (B3.withSym q0k) [] [(3,lsFi v ah b),(19,m1v v ah b)] Tryz.f170 0 [cI v,.u64 ah,.rb false b .unk] [] ⟨[],aggB 32 (zB (zV v ah b)),[],[]⟩) := by
 constructor
 rw [vc24]
 set_option simprocs false in dsimp only
 refine ⟨⟨0,Nat.zero_le _,by simp [zN]⟩,fun x hx => ?_⟩
 replace hx : 64 * x<=b.length := hx
 have ew : IntKind.i64.wrap ((b.length : Int) - ((64 * x : Nat) : Int)) = ((b.length - 64 * x : Nat) : Int) := zU _ (by omega) (by omega)
 refine yE (fun h => ?_) (fun h => ?_)
 ·rw [ew] at h
  replace h : 64 * x + 64<=b.length := by have := dle.1 h; omega
  have e1 : IntKind.i64.wrap (((64 * x : Nat) : Int) + 64) = ((64 * x + 64 : Nat) : Int) := zU _ (by omega) (by omega)
  have hd : List.drop (64 * x) (List.take (64 * x + 64) b) = List.take 64 (List.drop (64 * x) b) := by rw [List.drop_take]; congr 1; omega
  have hl : (List.take 64 (List.drop (64 * x) b)).length = 64 := by simp; omega
  simp only [e1,Int.toNat_natCast,F0 hv,hd,hl,true_and,and_true,Int.natCast_nonneg]
  refine ⟨by omega,h,x + 1,by omega,h,?_⟩
  simp only [zN,true_and,and_true]
  omega
 ·rw [ew] at h
  replace h : b.length < 64 * x + 64 := by have := ndle.1 h; omega
  obtain rfl : x = b.length / 64 := by omega
  clear ew
  have hr : List.drop (64 * (b.length / 64)) b = zR b := rfl
  have hrl : (zR b).length < 64 := by simp [zR]; omega
  simp only [Int.toNat_natCast,hr,Nat.min_eq_left (show (zR b).length<=128 by omega),X8 (zR b) hrl]
  have e1 : IntKind.i64.wrap (((zR b).length : Int) + 1) = (((zR b).length + 1 : Nat) : Int) := zU _ (by omega) (by omega)
  have e2 : IntKind.i64.wrap ((((zR b).length + 1 : Nat) : Int) + 8) = (((zR b).length + 9 : Nat) : Int) := zU _ (by omega) (by omega)
  simp only [e1,e2]
  refine ⟨by omega,hx,by omega,by omega,by omega,?_,?_⟩
  ·simp; omega
  have hL : (zR b).length + (128 - (zR b).length) = 128 := by omega
  have hof : BitVec.ofInt 64 (b.length : Int) = BitVec.ofNat 64 b.length := by simp
  have last : ∀ x : Nat × By,x.2.length = 128/\x.2.take (zW (zR b).length) = vP ah b/\64 * x.1<=zW (zR b).length->((zW (zR b).length : Nat) : Int)<=((64 * x.1 : Nat) : Int)->zV v ah b = zQ v b x.2 x.1 := by
   intro x h1 h2
   have : 64 * x.1 = zW (zR b).length := by omega
   unfold zV zQ
   rw [<- h1.2.1,bH _ _ _ _ (by omega)]
   congr 1
   omega
  have he64 : zW (zR b).length = 64 \/ zW (zR b).length = 128 := by unfold zW; split <;> simp
  have hts : ∀ x : Nat × By,Q0 (zQ v b x.2 x.1 0) (zQ v b x.2 x.1 1) (zQ v b x.2 x.1 2) (zQ v b x.2 x.1 3) (zQ v b x.2 x.1 4) (zQ v b x.2 x.1 5) (zQ v b x.2 x.1 6) (zQ v b x.2 x.1 7) = zQ v b x.2 x.1 := fun x => Q1 (nT (nT hv _ _) _ _)
  have take : ∀ e,zW (zR b).length = e->(zR b).length + 9<=e->e<=128->List.take e ((((((((((zR b++List.replicate (128 - (zR b).length) 0#8).set (zR b).length 128#8).set (e - 1) (BitVec.setWidth 8 ((8#64 * (ah + BitVec.ofInt 64 (b.length : Int))) >>> 0))).set (e - 2) (BitVec.setWidth 8 ((8#64 * (ah + BitVec.ofInt 64 (b.length : Int))) >>> 8))).set (e - 3) (BitVec.setWidth 8 ((8#64 * (ah + BitVec.ofInt 64 (b.length : Int))) >>> 16))).set (e - 4) (BitVec.setWidth 8 ((8#64 * (ah + BitVec.ofInt 64 (b.length : Int))) >>> 24))).set (e - 5) (BitVec.setWidth 8 ((8#64 * (ah + BitVec.ofInt 64 (b.length : Int))) >>> 32))).set (e - 6) (BitVec.setWidth 8 ((8#64 * (ah + BitVec.ofInt 64 (b.length : Int))) >>> 40))).set (e - 7) (BitVec.setWidth 8 ((8#64 * (ah + BitVec.ofInt 64 (b.length : Int))) >>> 48))).set (e - 8) (BitVec.setWidth 8 ((8#64 * (ah + BitVec.ofInt 64 (b.length : Int))) >>> 56))) = vP ah b := by
   intro e he h1 h2
   rw [hof]
   refine (X7 (zR b) e 128#8 (fun i => BitVec.setWidth 8 ((8#64 * (ah + BitVec.ofNat 64 b.length)) >>> (8 * i))) h1 h2).trans ?_
   unfold vP
   rw [he]
   rfl
  have fin : ∀ x : Nat × By,(x.2.length = 128/\x.2.take (zW (zR b).length) = vP ah b/\64 * x.1<=zW (zR b).length)->((64 * x.1 : Nat) : Int) < (zW (zR b).length : Nat)->IntKind.i64.wrap (((64 * x.1 : Nat) : Int) + 64) = ((64 * x.1 + 64 : Nat) : Int)/\64 * x.1 + 64<=zW (zR b).length := by
   intro x h1 h2
   have : 64 * x.1 < zW (zR b).length := by omega
   exact ⟨zU _ (by omega) (by omega),by omega⟩
  have stepE : ∀ (x : Nat × By),kE (64 * x.1 + 64) (64 * x.1) = 64 := fun x => by rw [kH]; omega
  have stepD : ∀ (x : Nat × By),mN (0 + 64 * x.1) x.2 = x.2.drop (64 * x.1) := fun x => by rw [kI,Nat.zero_add]
  refine yE (fun h => ?_) (fun h => ?_)
  ·replace h : 64 < (zR b).length + 9 := by have := aO.1 h; omega
   have he : zW (zR b).length = 128 := by unfold zW; rw [if_pos h]
   simp (decide := true) only [List.length_set,List.length_append,List.length_replicate,hL,true_and,and_true,hts]
   refine ⟨⟨(0,_),⟨?_,?_,by omega⟩,by omega,by omega,rfl,rfl,rfl,rfl,rfl,rfl,rfl,rfl,rfl⟩,fun x hx => ?_⟩
   ·simp only [List.length_set,List.length_append,List.length_replicate,hL]
   ·rw [he]
    exact take 128 he (by omega) (by omega)
   refine yE (fun h2 => ?_) (fun h2 => ?_)
   ·obtain ⟨w1,w2⟩ := fin x hx (aO.1 h2)
    simp only [w1,Int.toNat_natCast,stepE,stepD,true_and,and_true,Int.natCast_nonneg]
    have hl : (List.take 64 (List.drop (64 * x.1) x.2)).length = 64 := by simp; omega
    refine ⟨by omega,by omega,by omega,hl,(x.1 + 1,x.2),by show 4 - (x.1 + 1) < _; omega,⟨hx.1,hx.2.1,w2⟩,?_⟩
    simp only [zQ,zN,true_and,and_true]
    omega
   ·rw [last x hx (mR.1 h2)]
    simp only [true_and]
  ·replace h : ¬ 64 < (zR b).length + 9 := by have := mR.1 h; omega
   have he : zW (zR b).length = 64 := by unfold zW; rw [if_neg h]
   simp (decide := true) only [List.length_set,List.length_append,List.length_replicate,hL,true_and,and_true,hts]
   refine ⟨⟨(0,_),⟨?_,?_,by omega⟩,by omega,by omega,rfl,rfl,rfl,rfl,rfl,rfl,rfl,rfl,rfl⟩,fun x hx => ?_⟩
   ·simp only [List.length_set,List.length_append,List.length_replicate,hL]
   ·rw [he]
    exact take 64 he (by omega) (by omega)
   refine yE (fun h2 => ?_) (fun h2 => ?_)
   ·obtain ⟨w1,w2⟩ := fin x hx (aO.1 h2)
    simp only [w1,Int.toNat_natCast,stepE,stepD,true_and,and_true,Int.natCast_nonneg]
    have hl : (List.take 64 (List.drop (64 * x.1) x.2)).length = 64 := by simp; omega
    refine ⟨by omega,by omega,by omega,hl,(x.1 + 1,x.2),by show 4 - (x.1 + 1) < _; omega,⟨hx.1,hx.2.1,w2⟩,?_⟩
    simp only [zQ,zN,true_and,and_true]
    omega
   ·rw [last x hx (mR.1 h2)]
    simp only [true_and]
theorem c24 : COK Tryz.prog gl0 170 (mkF spFi) := by
 refine yY (fn := Tryz.f170) [] 3000 (by kernel_rfl) (by kernel_rfl) (okB3.withSym q0k) (by kernel_rfl) (fun args w => by kernel_rfl) ?_
 intro xs bs r hs ho
 simp only [spFi,gFi] at hs
 split at hs
 ·rename_i cs ah l
  split at hs
  ·rename_i a b c d e f g h hr
   simp only [TL.sel,Option.some.injEq] at hs
   subst hs
   rw [pJ hr]
   exact ⟨_,b24 _ (u1z a b c d e f g h) ah l (zA.1 ho)⟩
  ·simp [TL.sel] at hs
 ·simp [TL.sel] at hs
noncomputable def B4 : Ctx := B3.add 170 (mkF spFi)
theorem okB4 : COKs Tryz.prog gl0 B4 := okB3.add c24
noncomputable def gSu (xs : List AV) (bs : List ABlk) : TL := match xs,bs with
 | [.rb false l .unk],[] => .ok ⟨[l.length < 4611686018427387904],aggB 32 (zL l),[],[]⟩
 | _,_ => .no
noncomputable def X9 : Spec := ⟨[.by0],fun _ _ => [],fun _ _ => [],gSu⟩
theorem vc13 (b : By) : bg B4 [0] [] Tryz.f138 0 [.rb false b .unk] [] ⟨[],aggB 32 (y0k b),[],[]⟩ = (b.length < 4611686018427387904/\dA (y0k b) 0 32) := by kernel_rfl
theorem b13 (b : By) (h : b.length < 4611686018427387904) : Must (bg B4 [0] [] Tryz.f138 0 [.rb false b .unk] [] ⟨[],aggB 32 (y0k b),[],[]⟩) := by
 constructor
 rw [vc13]
 exact ⟨h,kZ _ _ _⟩
theorem c13 : COK Tryz.prog gl0 138 (mkF X9) := by
 refine yY (fn := Tryz.f138) [0] 3000 (by kernel_rfl) (by kernel_rfl) okB4 (by kernel_rfl) (fun args w => by kernel_rfl) ?_
 intro xs bs r hs ho
 simp only [X9,gSu] at hs
 split at hs
 ·simp only [TL.sel,Option.some.injEq] at hs
  subst hs
  rw [Q2]
  exact ⟨_,b13 _ (zA.1 ho)⟩
 ·simp [TL.sel] at hs
noncomputable def B5 : Ctx := B4.add 138 (mkF X9)
theorem okB5 : COKs Tryz.prog gl0 B5 := okB4.add c13
def lsSm (a b : By) : LS := ⟨Nat,fun i => [(1,.rb false b .unk),(5,.u8 (orD a b i)),(13,.rb false a .unk),(14,.int .i64 a.length),(15,.int .i64 i)],fun _ => [],100,fun i => a.length - i,fun i => i<=a.length,fun _ => []⟩
noncomputable def gSm (xs : List AV) (bs : List ABlk) : TL := match xs,bs with
 | [.rb false a .unk,.rb false b .unk],[] => .ok ⟨[a.length < 4611686018427387904],.bool (wV a b),[],[]⟩
 | _,_ => .no
noncomputable def spSm : Spec := ⟨[.by0,.by0],fun _ _ => [],fun _ _ => [],gSm⟩
noncomputable def lsPd (key : By) (pad : BitVec 8) : LS := ⟨Nat,fun i => [(1,.u8 pad),(4,.ptr 100 0 0 0),(5,.ptr 101 0 0 0),(19,.int .i64 i)],
 fun i => [(100,⟨.cells (List.replicate 8 (.u32 0)),true,0⟩),(101,⟨.bytes ((List.range 64).map fun k => if k < i then (wG key).getD k 0 ^^^ pad else (wG key).getD k 0),true,0⟩),fH gl0 0],1000,fun i => 64 - i,fun i => i<=64,fun _ => []⟩
noncomputable def gPd (xs : List AV) (bs : List ABlk) : TL := match xs,bs with
 | [.rb false key .unk,.u8 pad],[] => .ok ⟨[key.length < 4611686018427387904],cI (vG key pad),[],[]⟩
 | _,_ => .no
noncomputable def spPd : Spec := ⟨[.by0,.kp],fun _ _ => [],fun _ _ => [],gPd⟩
def n0k : List Nat := [5,23,27]
set_option maxRecDepth 100000 in
theorem vc17 (a b : By) : bg B5 [] [(6,lsSm a b)] Tryz.f143 0 [.rb false a .unk,.rb false b .unk] [] ⟨[],.bool (decide (a = b)),[],[]⟩ = (
Bool.rec ((∃ (x : Nat),x.le (List.length a)/\b = b/\orD a b x = BitVec.ofNat (8 : Nat) (0 : Nat)/\a = a/\(↑(List.length a) : Int) = (↑(List.length a) : Int)/\(↑x : Int) = (0 : Int)/\True)/\∀ (x : Nat),x.le (List.length a)->Bool.rec (Decidable.decide (a = b) = Decidable.decide (orD a b x = BitVec.ofNat (8 : Nat) (0 : Nat))/\True) ((0 : Int)<=(↑x : Int)/\(↑x : Int).toNat < List.length a/\(0 : Int)<=(↑x : Int)/\(↑x : Int).toNat < List.length b/\∃ (y : Nat),List.length a - y < List.length a - x/\y.le (List.length a)/\b = b/\orD a b y = orD a b x ||| List.getD a (↑x : Int).toNat (0 : BitVec (8 : Nat)) ^^^ List.getD b (↑x : Int).toNat (0 : BitVec (8 : Nat))/\a = a/\(↑(List.length a) : Int) = (↑(List.length a) : Int)/\(↑y : Int) = IntKind.i64.wrap ((↑x : Int) + (1 : Int))/\True) (Decidable.decide ((↑x : Int) < (↑(List.length a) : Int)))) (Decidable.decide (a = b) = Bool.false/\True) !Decidable.decide ((↑(List.length a) : Int) = (↑(List.length b) : Int))) := by kernel_rfl
set_option maxRecDepth 100000 in
theorem vc28 (key : By) (pad : BitVec 8) : bg (B5.withSym n0k) [0] [(8,lsPd key pad)] Tryz.f175 0 [.rb false key .unk,.u8 pad] [] ⟨[],cI (vG key pad),[],[]⟩ = (
let x1 := Q0 (BitVec.ofNat 32 1779033703) (BitVec.ofNat 32 3144134277) (BitVec.ofNat 32 1013904242) (BitVec.ofNat 32 2773480762) (BitVec.ofNat 32 1359893119) (BitVec.ofNat 32 2600822924) (BitVec.ofNat 32 528734635) (BitVec.ofNat 32 1541459225); let x2 := BitVec.ofNat 32 1779033703 = BitVec.ofNat 32 1779033703/\BitVec.ofNat 32 3144134277 = BitVec.ofNat 32 3144134277/\BitVec.ofNat 32 1013904242 = BitVec.ofNat 32 1013904242/\BitVec.ofNat 32 2773480762 = BitVec.ofNat 32 2773480762/\BitVec.ofNat 32 1359893119 = BitVec.ofNat 32 1359893119/\BitVec.ofNat 32 2600822924 = BitVec.ofNat 32 2600822924/\BitVec.ofNat 32 528734635 = BitVec.ofNat 32 528734635/\BitVec.ofNat 32 1541459225 = BitVec.ofNat 32 1541459225/\True; let x3 := [zL key 0,zL key 1,zL key 2,zL key 3,zL key 4,zL key 5,zL key 6,zL key 7,zL key 8,zL key 9,zL key 10,zL key 11,zL key 12,zL key 13,zL key 14,zL key 15,zL key 16,zL key 17,zL key 18,zL key 19,zL key 20,zL key 21,zL key 22,zL key 23,zL key 24,zL key 25,zL key 26,zL key 27,zL key 28,zL key 29,zL key 30,zL key 31]; let x4 := (0 : BitVec 32) = BitVec.ofNat 32 0; @Bool.rec (fun _ => Prop) (64<=64/\(∃ (x : Nat),x.le 64/\pad = pad/\0 = 0/\0 = 0/\(↑x : Int) = (0 : Int)/\x4/\x4/\x4/\x4/\x4/\x4/\x4/\x4/\List.map (fun (k : Nat) => if k < x then List.getD (wG key) k (0 : BitVec 8) ^^^ pad else List.getD (wG key) k (0 : BitVec 8)) (List.range 64) = List.take 0 (List.replicate 64 (0 : BitVec 8))++(List.take 64 key++List.drop (0 + Min.min (List.length key) 64) (List.replicate 64 (0 : BitVec 8)))/\x2)/\∀ (x : Nat),let x1_1 := List.map (fun (k : Nat) => if k < x then List.getD (wG key) k (0 : BitVec 8) ^^^ pad else List.getD (wG key) k (0 : BitVec 8)) (List.range 64); x.le 64->@Bool.rec (fun _ => Prop) (64<=x1_1.length/\(List.take 64 x1_1).length = 64/\vG key pad 0 = zH x1 (List.take 64 x1_1) 0/\vG key pad 1 = zH x1 (List.take 64 x1_1) 1/\vG key pad 2 = zH x1 (List.take 64 x1_1) 2/\vG key pad 3 = zH x1 (List.take 64 x1_1) 3/\vG key pad 4 = zH x1 (List.take 64 x1_1) 4/\vG key pad 5 = zH x1 (List.take 64 x1_1) 5/\vG key pad 6 = zH x1 (List.take 64 x1_1) 6/\vG key pad 7 = zH x1 (List.take 64 x1_1) 7/\True) ((0 : Int)<=(↑x : Int)/\(↑x : Int).toNat < 64/\(↑x : Int).toNat < x1_1.length/\(0 : Int)<=(↑x : Int)/\(↑x : Int).toNat < 64/\(↑x : Int).toNat < x1_1.length/\∃ (y : Nat),64 - y < 64 - x/\y.le 64/\pad = pad/\0 = 0/\0 = 0/\(↑y : Int) = IntKind.i64.wrap ((↑x : Int) + (1 : Int))/\(0 : BitVec 32) = (0 : BitVec 32)/\(0 : BitVec 32) = (0 : BitVec 32)/\(0 : BitVec 32) = (0 : BitVec 32)/\(0 : BitVec 32) = (0 : BitVec 32)/\(0 : BitVec 32) = (0 : BitVec 32)/\(0 : BitVec 32) = (0 : BitVec 32)/\(0 : BitVec 32) = (0 : BitVec 32)/\(0 : BitVec 32) = (0 : BitVec 32)/\List.map (fun (k : Nat) => if k < y then List.getD (wG key) k (0 : BitVec 8) ^^^ pad else List.getD (wG key) k (0 : BitVec 8)) (List.range 64) = x1_1.set (↑x : Int).toNat (x1_1.getD (↑x : Int).toNat (0 : BitVec 8) ^^^ pad)/\x2) (decide ((↑x : Int) < (64 : Int)))) (List.length key < 4611686018427387904/\64<=64/\(∃ (x : Nat),x.le 64/\pad = pad/\0 = 0/\0 = 0/\(↑x : Int) = (0 : Int)/\x4/\x4/\x4/\x4/\x4/\x4/\x4/\x4/\List.map (fun (k : Nat) => if k < x then List.getD (wG key) k (0 : BitVec 8) ^^^ pad else List.getD (wG key) k (0 : BitVec 8)) (List.range 64) = List.take 0 (List.replicate 64 (0 : BitVec 8))++(List.take 64 x3++List.drop (0 + Min.min x3.length 64) (List.replicate 64 (0 : BitVec 8)))/\x2)/\∀ (x : Nat),let x1_1 := List.map (fun (k : Nat) => if k < x then List.getD (wG key) k (0 : BitVec 8) ^^^ pad else List.getD (wG key) k (0 : BitVec 8)) (List.range 64); x.le 64->@Bool.rec (fun _ => Prop) (64<=x1_1.length/\(List.take 64 x1_1).length = 64/\vG key pad 0 = zH x1 (List.take 64 x1_1) 0/\vG key pad 1 = zH x1 (List.take 64 x1_1) 1/\vG key pad 2 = zH x1 (List.take 64 x1_1) 2/\vG key pad 3 = zH x1 (List.take 64 x1_1) 3/\vG key pad 4 = zH x1 (List.take 64 x1_1) 4/\vG key pad 5 = zH x1 (List.take 64 x1_1) 5/\vG key pad 6 = zH x1 (List.take 64 x1_1) 6/\vG key pad 7 = zH x1 (List.take 64 x1_1) 7/\True) ((0 : Int)<=(↑x : Int)/\(↑x : Int).toNat < 64/\(↑x : Int).toNat < x1_1.length/\(0 : Int)<=(↑x : Int)/\(↑x : Int).toNat < 64/\(↑x : Int).toNat < x1_1.length/\∃ (y : Nat),64 - y < 64 - x/\y.le 64/\pad = pad/\0 = 0/\0 = 0/\(↑y : Int) = IntKind.i64.wrap ((↑x : Int) + (1 : Int))/\(0 : BitVec 32) = (0 : BitVec 32)/\(0 : BitVec 32) = (0 : BitVec 32)/\(0 : BitVec 32) = (0 : BitVec 32)/\(0 : BitVec 32) = (0 : BitVec 32)/\(0 : BitVec 32) = (0 : BitVec 32)/\(0 : BitVec 32) = (0 : BitVec 32)/\(0 : BitVec 32) = (0 : BitVec 32)/\(0 : BitVec 32) = (0 : BitVec 32)/\List.map (fun (k : Nat) => if k < y then List.getD (wG key) k (0 : BitVec 8) ^^^ pad else List.getD (wG key) k (0 : BitVec 8)) (List.range 64) = x1_1.set (↑x : Int).toNat (x1_1.getD (↑x : Int).toNat (0 : BitVec 8) ^^^ pad)/\x2) (decide ((↑x : Int) < (64 : Int)))) (decide ((64 : Int) < (↑(List.length key) : Int))) : Prop) := by kernel_rfl
theorem b17 (a b : By) (ha : a.length < 4611686018427387904) : Must (bg B5 [] [(6,lsSm a b)] Tryz.f143 0 [.rb false a .unk,.rb false b .unk] [] ⟨[],.bool (decide (a = b)),[],[]⟩) := by
 constructor
 rw [vc17]
 refine yE (fun h => ?_) (fun h => ?_)
 ·have hl : a.length ≠ b.length := by
   simp at h; omega
  have : a ≠ b := fun e => hl (by rw [e])
  simp [this]
 ·have hl : a.length = b.length := by
   simp at h; omega
  refine ⟨⟨0,Nat.zero_le _,by simp [orD]⟩,fun x hx => ?_⟩
  replace hx : x<=a.length := hx
  refine yE (fun h => ?_) (fun h => ?_)
  ·replace h : x < a.length := by have := aO.1 h; omega
   have e1 : IntKind.i64.wrap ((x : Int) + 1) = ((x + 1 : Nat) : Int) := zU _ (by omega) (by omega)
   simp only [e1,Int.toNat_natCast,true_and,and_true,Int.natCast_nonneg]
   refine ⟨h,by omega,x + 1,by omega,h,?_⟩
   simp [orD]
  ·replace h : x = a.length := by have := mR.1 h; omega
   subst h
   refine ⟨?_,trivial⟩
   rw [decide_eq_decide]
   exact (u0k a b hl).symm
theorem c17 : COK Tryz.prog gl0 143 (mkF spSm) := by
 refine yY (fn := Tryz.f143) [] 3000 (by kernel_rfl) (by kernel_rfl) okB5 (by kernel_rfl) (fun args w => by kernel_rfl) ?_
 intro xs bs r hs ho
 simp only [spSm,gSm] at hs
 split at hs
 ·simp only [TL.sel,Option.some.injEq] at hs
  subst hs
  rw [j8]
  exact ⟨_,b17 _ _ (zA.1 ho)⟩
 ·simp [TL.sel] at hs
noncomputable def B6 : Ctx := B5.add 143 (mkF spSm)
theorem okB6 : COKs Tryz.prog gl0 B6 := okB5.add c17
theorem Q3 (K : By) (pad : BitVec 8) (x : Nat) (hx : x < 64) : (List.map (fun k => if k < x then K.getD k 0 ^^^ pad else K.getD k 0) (List.range 64)).set x ((List.map (fun k => if k < x then K.getD k 0 ^^^ pad else K.getD k 0) (List.range 64)).getD x 0 ^^^ pad) = List.map (fun k => if k < x + 1 then K.getD k 0 ^^^ pad else K.getD k 0) (List.range 64) := by
 rw [gI _ _ _ _ hx,if_neg (by omega)]
 apply List.ext_getElem?
 intro k
 rw [List.getElem?_set]
 by_cases hk : k < 64
 ·by_cases h : x = k
  ·subst h
   simp [hx]
  ·rw [if_neg h]
   simp only [List.getElem?_map,List.getElem?_range hk,Option.map_some]
   by_cases h2 : k < x
   ·rw [if_pos h2,if_pos (by omega)]
   ·rw [if_neg h2,if_neg (by omega)]
 ·rw [if_neg (by omega),List.getElem?_eq_none (by simp; omega),List.getElem?_eq_none (by simp; omega)]
theorem k8 (S : By) (h : S.length<=64) : List.take 0 (List.replicate 64 (0 : BitVec 8))++(List.take 64 S++List.drop (0 + min S.length 64) (List.replicate 64 (0 : BitVec 8))) = List.map (fun k => S.getD k 0) (List.range 64) := by
 rw [List.take_zero,List.nil_append,List.take_of_length_le h,Nat.zero_add,Nat.min_eq_left h,List.drop_replicate]
 apply List.ext_getElem?
 intro k
 by_cases hk : k < S.length
 ·rw [List.getElem?_append_left hk]
  simp [List.getD,hk,show k < 64 by omega]
 ·rw [List.getElem?_append_right (by omega),List.getElem?_replicate]
  by_cases h2 : k < 64
  ·rw [if_pos (by omega)]
   simp [List.getD,h2,List.getElem?_eq_none (Nat.le_of_not_lt hk)]
  ·rw [if_neg (by omega),List.getElem?_eq_none (by simp; omega)]
theorem m0k (key : By) (pad : BitVec 8) : List.take 64 (List.map (fun k => if k < 64 then (wG key).getD k 0 ^^^ pad else (wG key).getD k 0) (List.range 64)) = mZ key pad := by
 rw [List.take_of_length_le (by simp)]
 unfold mZ
 apply List.map_congr_left
 intro i hi
 rw [if_pos (by simpa using hi)]
set_option maxRecDepth 100000 in
theorem b28 (key : By) (pad : BitVec 8) (hk : key.length < 4611686018427387904) : Must (bg (B5.withSym n0k) [0] [(8,lsPd key pad)] Tryz.f175 0 [.rb false key .unk,.u8 pad] [] ⟨[],cI (vG key pad),[],[]⟩) := by
 constructor
 rw [vc28]
 set_option simprocs false in dsimp only
 have loop : ∀ x : Nat,x<=64->x < 64->IntKind.i64.wrap ((x : Int) + 1) = ((x + 1 : Nat) : Int) := fun x _ h => zU _ (by omega) (by omega)
 refine yE (fun h => ?_) (fun h => ?_)
 ·have hlen : 64 < key.length := by have := aO.1 h; omega
  have hm : wG key = sha key := if_pos hlen
  refine ⟨hk,by omega,⟨0,Nat.zero_le _,?_⟩,fun x hx => ?_⟩
  ·simp only [true_and,and_true]
   refine ⟨rfl,rfl,rfl,rfl,rfl,rfl,rfl,rfl,rfl,?_⟩
   refine Eq.trans ?_ (k8 (sha key) (by simp [sha])).symm
   rw [hm]
   simp
  ·replace hx : x<=64 := hx
   refine yE (fun h => ?_) (fun h => ?_)
   ·replace h : x < 64 := by have := aO.1 h; omega
    simp only [loop x hx h,Int.toNat_natCast,Q3 _ _ x h,true_and,and_true,Int.natCast_nonneg,List.length_map,List.length_range]
    exact ⟨h,h,h,h,x + 1,by omega,h,rfl,rfl⟩
   ·replace h : x = 64 := by have := mR.1 h; omega
    subst h
    simp only [m0k,List.length_map,List.length_range]
    refine ⟨by omega,by simp [mZ],?_⟩
    exact ⟨rfl,rfl,rfl,rfl,rfl,rfl,rfl,rfl,trivial⟩
 ·have hlen : ¬ 64 < key.length := by have := mR.1 h; omega
  have hm : wG key = key := if_neg hlen
  refine ⟨by omega,⟨0,Nat.zero_le _,?_⟩,fun x hx => ?_⟩
  ·simp only [true_and,and_true]
   refine ⟨rfl,rfl,rfl,rfl,rfl,rfl,rfl,rfl,rfl,?_⟩
   refine Eq.trans ?_ (k8 key (by omega)).symm
   rw [hm]
   simp
  ·replace hx : x<=64 := hx
   refine yE (fun h => ?_) (fun h => ?_)
   ·replace h : x < 64 := by have := aO.1 h; omega
    simp only [loop x hx h,Int.toNat_natCast,Q3 _ _ x h,true_and,and_true,Int.natCast_nonneg,List.length_map,List.length_range]
    exact ⟨h,h,h,h,x + 1,by omega,h,rfl,rfl⟩
   ·replace h : x = 64 := by have := mR.1 h; omega
    subst h
    simp only [m0k,List.length_map,List.length_range]
    refine ⟨by omega,by simp [mZ],?_⟩
    exact ⟨rfl,rfl,rfl,rfl,rfl,rfl,rfl,rfl,trivial⟩
theorem c28 : COK Tryz.prog gl0 175 (mkF spPd) := by
 refine yY (fn := Tryz.f175) [0] 3000 (by kernel_rfl) (by kernel_rfl) (okB5.withSym n0k) (by kernel_rfl) (fun args w => by kernel_rfl) ?_
 intro xs bs r hs ho
 simp only [spPd,gPd] at hs
 split at hs
 ·simp only [TL.sel,Option.some.injEq] at hs
  subst hs
  exact ⟨_,b28 _ _ (zA.1 ho)⟩
 ·simp [TL.sel] at hs
noncomputable def B7 : Ctx := B6.add 175 (mkF spPd)
theorem okB7 : COKs Tryz.prog gl0 B7 := okB6.add c28
noncomputable def gMa (xs : List AV) (bs : List ABlk) : TL := match xs,bs with
 | [.rb false key .unk,.rb false b .unk],[] => .ok ⟨[key.length < 4611686018427387904/\b.length < 4611686018427387904],aggB 32 (kD key b),[],[]⟩
 | _,_ => .no
noncomputable def g0k : Spec := ⟨[.by0,.by0],fun _ _ => [],fun _ _ => [],gMa⟩
theorem vc15 (key b : By) : bq B7 Tryz.f142 0 [.rb false key .unk,.rb false b .unk] [] ⟨[],aggB 32 (w0k key b),[],[]⟩ = (key.length < 4611686018427387904/\b.length < 4611686018427387904/\key.length < 4611686018427387904/\(x0k key b).length < 4611686018427387904/\dA (w0k key b) 0 32) := by kernel_rfl
theorem b15 (key b : By) (h : key.length < 4611686018427387904/\b.length < 4611686018427387904) : Must (bq B7 Tryz.f142 0 [.rb false key .unk,.rb false b .unk] [] ⟨[],aggB 32 (w0k key b),[],[]⟩) := by
 constructor
 rw [vc15]
 exact ⟨h.1,h.2,h.1,by simp [x0k],kZ _ _ _⟩
theorem c15 : COK Tryz.prog gl0 142 (mkF g0k) := by
 refine yY (fn := Tryz.f142) [] 3000 (by kernel_rfl) (by kernel_rfl) okB7 (by kernel_rfl) (fun args w => by kernel_rfl) ?_
 intro xs bs r hs ho
 simp only [g0k,gMa] at hs
 split at hs
 ·simp only [TL.sel,Option.some.injEq] at hs
  subst hs
  rw [j1z]
  exact ⟨_,b15 _ _ (zA.1 ho)⟩
 ·simp [TL.sel] at hs
noncomputable def B8 : Ctx := B7.add 142 (mkF g0k)
theorem okB8 : COKs Tryz.prog gl0 B8 := okB7.add c15
end Go.Sym
