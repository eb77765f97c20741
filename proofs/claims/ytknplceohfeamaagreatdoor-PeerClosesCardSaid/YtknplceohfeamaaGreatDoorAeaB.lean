/- What is sealed and opened; records. -/
import Derived.Test.YtknplceohfeamaaGreatDoorAeaA
set_option linter.unusedVariables false
set_option linter.unusedSimpArgs false
namespace Go.Spec
def vW (n : Nat) : Nat := (16 - n % 16) % 16
def yA (l : By) : By := l++List.replicate (vW l.length) 0
def cz (m d : Nat) : BitVec 8 := BitVec.ofInt 8 ((m : Int).fdiv (Int.ofNat d))
def cnt (l : By) (m : Nat) : By := l++[cz m 1]++[cz m 256]++[cz m 65536]++[cz m 16777216]++[cz m 4294967296]++[cz m 1099511627776]++[cz m 281474976710656]++[cz m 72057594037927936]
def fQ (b more : By) : By := cnt (cnt (yA (yA more++b)) more.length) b.length
theorem eO (n : Nat) : vW n < 16 := by unfold vW; omega
theorem J8 {n x : Nat} (hx : x<=vW n) (h : (n + x) % 16 ≠ 0) : x < vW n := by unfold vW at *; omega
theorem d7 {n x : Nat} (hx : x<=vW n) (h : (n + x) % 16 = 0) : x = vW n := by unfold vW at *; omega
theorem uV (l : By) : (yA l).length = l.length + vW l.length := by simp [yA]
theorem fR (l : By) (m : Nat) : (cnt l m).length = l.length + 8 := by simp [cnt]
theorem d8 (l : By) (x : Nat) : l++List.replicate (x + 1) (0 : BitVec 8) = l++List.replicate x 0++[0] := by
 rw [List.replicate_succ',List.append_assoc]
theorem v1k {n : Nat} (h : (!decide ((n : Int).tmod 16 = 0)) = true) : n % 16 ≠ 0 := by
 have e : (n : Int).tmod 16 = ((n % 16 : Nat) : Int) := Go.Sym.tmod_nat n 16
 rw [e] at h
 intro h2
 rw [h2] at h
 exact absurd h (by decide)
theorem u1k {n : Nat} (h : (!decide ((n : Int).tmod 16 = 0)) = false) : n % 16 = 0 := by
 have e : (n : Int).tmod 16 = ((n % 16 : Nat) : Int) := Go.Sym.tmod_nat n 16
 rw [e] at h
 simp only [Bool.not_eq_false',decide_eq_true_eq] at h
 omega
end Go.Spec
namespace Go.Sym
open Go.Proofs Go.Spec
def rA (np : Nat) (io : List (Option (Option ABlk))) (ob : List Prop) (m : By) : RL := ⟨ob,.slice np 0 1 m.length .ow .unk,io,[⟨.bytes m,true,1⟩]⟩
noncomputable def lsPf (m : By) : LS := ⟨Nat,fun x => [(0,.slice 100 0 1 (m.length + x) .ow .unk)],fun x => [(100,⟨.bytes (m++List.replicate x 0),true,1⟩)],1000,fun x => 17 - x,fun x => x<=vW m.length,fun _ => []⟩
def J9 (xs : List AV) (h : H) : List Nat := match xs with | .slice i 0 1 _ .ow _::_ => [i] | _ => []
noncomputable def gPf (xs : List AV) (bs : List ABlk) : TL := match xs,bs with
 | [.nils,.rb false b .unk],[] => .ok (rA 0 [] [b.length < 1099511627776] (yA b))
 | [.slice 0 0 1 L .ow .unk,.rb false b .unk],[⟨.bytes l,true,1⟩] => .ok (rA 1 [some none] [L = l.length/\l.length + b.length < 1099511627776] (yA (l++b)))
 | _,_ => .no
noncomputable def spPf : Spec := ⟨[.kp,.by0],J9,fun _ l => l.map fun _ => [],gPf⟩
noncomputable def gPc (xs : List AV) (bs : List ABlk) : TL := match xs,bs with
 | [.slice 0 0 1 L .ow .unk,.int .i64 (.ofNat m)],[⟨.bytes l,true,1⟩] => .ok (rA 1 [some none] [L = l.length/\l.length < 1099511627776] (cnt l m))
 | _,_ => .no
noncomputable def spPc : Spec := ⟨[.kp,.kp],J9,fun _ l => l.map fun _ => [],gPc⟩
noncomputable def L16 : Ctx := L15.add 172 (mkF spPf)
noncomputable def L17 : Ctx := L16.add 173 (mkF spPc)
set_option maxRecDepth 100000 in
theorem vPn (b : By) : bg L15 [] [(3,lsPf b)] Tryz.f172 0 [.nils,.rb false b .unk] [] (rA 0 [] [] (yA b)) = (
zD 0 (List.length b) 1/\(∃ (x : Nat),x.le (vW (List.length b))/\0 = 0/\0 = 0/\0 = 0/\List.length b + x = List.length b/\b++List.replicate x (0 : BitVec 8) = b/\True)/\∀ (x : Nat),x.le (vW (List.length b))->@Bool.rec (fun _ => Prop) (0 = 0/\0 = 0/\0 = 0/\List.length (yA b) = List.length b + x/\yA b = b++List.replicate x (0 : BitVec 8)/\True) (1 = 1/\List.length b + x = (b++List.replicate x (0 : BitVec 8)).length/\zD (List.length b + x) 1 1/\∃ (y : Nat),17 - y < 17 - x/\y.le (vW (List.length b))/\0 = 0/\0 = 0/\0 = 0/\List.length b + y = List.length b + x + 1/\b++List.replicate y (0 : BitVec 8) = b++List.replicate x (0 : BitVec 8)++[BitVec.ofNat 8 0]/\True) !decide ((↑(List.length b + x) : Int).tmod (16 : Int) = (0 : Int)) : Prop) := by kernel_rfl
set_option maxRecDepth 100000 in
theorem vPf (l b : By) (L : Nat) : bg L15 [] [(3,lsPf (l++b))] Tryz.f172 1 [.slice 0 0 1 L .ow .unk,.rb false b .unk] [⟨.bytes l,true,1⟩] (rA 1 [some none] [] (yA (l++b))) = (
L = List.length l/\zD L (List.length b) 1/\(∃ (x : Nat),x.le (vW (List.length (l++b)))/\0 = 0/\0 = 0/\0 = 0/\List.length (l++b) + x = L + List.length b/\l++b++List.replicate x (0 : BitVec 8) = l++b/\True)/\∀ (x : Nat),x.le (vW (List.length (l++b)))->@Bool.rec (fun _ => Prop) (0 = 0/\0 = 0/\0 = 0/\List.length (yA (l++b)) = List.length (l++b) + x/\yA (l++b) = l++b++List.replicate x (0 : BitVec 8)/\True) (1 = 1/\List.length (l++b) + x = (l++b++List.replicate x (0 : BitVec 8)).length/\zD (List.length (l++b) + x) 1 1/\∃ (y : Nat),17 - y < 17 - x/\y.le (vW (List.length (l++b)))/\0 = 0/\0 = 0/\0 = 0/\List.length (l++b) + y = List.length (l++b) + x + 1/\l++b++List.replicate y (0 : BitVec 8) = l++b++List.replicate x (0 : BitVec 8)++[BitVec.ofNat 8 0]/\True) !decide ((↑(List.length (l++b) + x) : Int).tmod (16 : Int) = (0 : Int)) : Prop) := by kernel_rfl
set_option maxRecDepth 100000 in
theorem vPc (l M : By) (L m : Nat) : bq L15 Tryz.f173 1 [.slice 0 0 1 L .ow .unk,.int .i64 (m : Int)] [⟨.bytes l,true,1⟩] (rA 1 [some none] [] M) = (
let x1 := L + [BitVec.ofInt 8 ((↑m : Int).fdiv (Int.ofNat 1))].length + [BitVec.ofInt 8 ((↑m : Int).fdiv (Int.ofNat 256))].length + [BitVec.ofInt 8 ((↑m : Int).fdiv (Int.ofNat 65536))].length + [BitVec.ofInt 8 ((↑m : Int).fdiv (Int.ofNat 16777216))].length; let x2 := l++[BitVec.ofInt 8 ((↑m : Int).fdiv (Int.ofNat 1))]++[BitVec.ofInt 8 ((↑m : Int).fdiv (Int.ofNat 256))]++[BitVec.ofInt 8 ((↑m : Int).fdiv (Int.ofNat 65536))]++[BitVec.ofInt 8 ((↑m : Int).fdiv (Int.ofNat 16777216))]; let x3 := [BitVec.ofInt 8 ((↑m : Int).fdiv (Int.ofNat 4294967296))]; let x4 := [BitVec.ofInt 8 ((↑m : Int).fdiv (Int.ofNat 1))]; let x5 := [BitVec.ofInt 8 ((↑m : Int).fdiv (Int.ofNat 1099511627776))]; let x6 := [BitVec.ofInt 8 ((↑m : Int).fdiv (Int.ofNat 256))]; let x7 := [BitVec.ofInt 8 ((↑m : Int).fdiv (Int.ofNat 281474976710656))]; let x8 := [BitVec.ofInt 8 ((↑m : Int).fdiv (Int.ofNat 65536))]; (0 : Int)<=Int.ofNat 0/\1 = x4.length/\L = List.length l/\zD L x4.length 1/\(0 : Int)<=Int.ofNat 8/\1 = x6.length/\L + x4.length = (l++x4).length/\zD (L + x4.length) x6.length 1/\(0 : Int)<=Int.ofNat 16/\1 = x8.length/\L + x4.length + x6.length = (l++x4++x6).length/\zD (L + x4.length + x6.length) x8.length 1/\(0 : Int)<=Int.ofNat 24/\1 = [BitVec.ofInt 8 ((↑m : Int).fdiv (Int.ofNat 16777216))].length/\L + x4.length + x6.length + x8.length = (l++x4++x6++x8).length/\zD (L + x4.length + x6.length + x8.length) [BitVec.ofInt 8 ((↑m : Int).fdiv (Int.ofNat 16777216))].length 1/\(0 : Int)<=Int.ofNat 32/\1 = x3.length/\x1 = x2.length/\zD x1 x3.length 1/\(0 : Int)<=Int.ofNat 40/\1 = x5.length/\x1 + x3.length = (x2++x3).length/\zD (x1 + x3.length) x5.length 1/\(0 : Int)<=Int.ofNat 48/\1 = x7.length/\x1 + x3.length + x5.length = (x2++x3++x5).length/\zD (x1 + x3.length + x5.length) x7.length 1/\(0 : Int)<=Int.ofNat 56/\1 = [BitVec.ofInt 8 ((↑m : Int).fdiv (Int.ofNat 72057594037927936))].length/\x1 + x3.length + x5.length + x7.length = (x2++x3++x5++x7).length/\zD (x1 + x3.length + x5.length + x7.length) [BitVec.ofInt 8 ((↑m : Int).fdiv (Int.ofNat 72057594037927936))].length 1/\0 = 0/\0 = 0/\0 = 0/\List.length M = x1 + x3.length + x5.length + x7.length + [BitVec.ofInt 8 ((↑m : Int).fdiv (Int.ofNat 72057594037927936))].length/\M = x2++x3++x5++x7++[BitVec.ofInt 8 ((↑m : Int).fdiv (Int.ofNat 72057594037927936))]/\True : Prop) := by kernel_rfl
theorem bPn (b : By) (hb : b.length < 1099511627776) : Must (bg L15 [] [(3,lsPf b)] Tryz.f172 0 [.nils,.rb false b .unk] [] (rA 0 [] [] (yA b))) := by
 constructor
 rw [vPn]
 have hf := eO b.length
 refine ⟨by unfold zD; omega,⟨0,Nat.zero_le _,rfl,rfl,rfl,rfl,by simp,trivial⟩,fun x hx => ?_⟩
 replace hx : x<=vW b.length := hx
 refine yE (fun h => ?_) (fun h => ?_)
 ·have h1 := J8 hx (v1k h)
  exact ⟨rfl,by simp,by unfold zD; omega,x + 1,by omega,h1,rfl,rfl,rfl,rfl,d8 _ _,trivial⟩
 ·obtain rfl := d7 hx (u1k h)
  exact ⟨rfl,rfl,rfl,uV _,rfl,trivial⟩
theorem bPf (l b : By) (L : Nat) (hL : L = l.length) (hb : l.length + b.length < 1099511627776) : Must (bg L15 [] [(3,lsPf (l++b))] Tryz.f172 1 [.slice 0 0 1 L .ow .unk,.rb false b .unk] [⟨.bytes l,true,1⟩] (rA 1 [some none] [] (yA (l++b)))) := by
 constructor
 rw [vPf]
 have hf := eO (l++b).length
 have hl : (l++b).length = l.length + b.length := List.length_append
 refine ⟨hL,by unfold zD; omega,⟨0,Nat.zero_le _,rfl,rfl,rfl,by omega,by simp,trivial⟩,fun x hx => ?_⟩
 replace hx : x<=vW (l++b).length := hx
 refine yE (fun h => ?_) (fun h => ?_)
 ·have h1 := J8 hx (v1k h)
  exact ⟨rfl,by simp <;> omega,by unfold zD; omega,x + 1,by omega,h1,rfl,rfl,rfl,rfl,d8 _ _,trivial⟩
 ·obtain rfl := d7 hx (u1k h)
  exact ⟨rfl,rfl,rfl,uV _,rfl,trivial⟩
theorem bPc (l : By) (L m : Nat) (hL : L = l.length) (hb : l.length < 1099511627776) : Must (bq L15 Tryz.f173 1 [.slice 0 0 1 L .ow .unk,.int .i64 (m : Int)] [⟨.bytes l,true,1⟩] (rA 1 [some none] [] (cnt l m))) := by
 constructor
 rw [vPc]
 subst hL
 dsimp only
 repeat refine And.intro (by first | exact Int.natCast_nonneg _ | exact Int.le_refl _ | exact fR _ _ | (simp only [zD,List.length_append,List.length_cons,List.length_nil] <;> omega) | exact rfl) ?_
 trivial
theorem okL16 : COKs Tryz.prog gl0 L16 := okL15.add <| by
 refine yY (fn := Tryz.f172) [] 3000 (by kernel_rfl) (by kernel_rfl) okL15 (by kernel_rfl) (fun args w => by kernel_rfl) fun xs bs r hs ho => ?_
 replace hs : (gPf xs bs).sel = some r := hs
 unfold gPf at hs
 split at hs
 ·cases hs
  exact ⟨_,bPn _ (zA.1 ho)⟩
 ·cases hs
  have o := zA.1 ho
  exact ⟨_,bPf _ _ _ o.1 o.2⟩
 ·cases hs
theorem okL17 : COKs Tryz.prog gl0 L17 := okL16.add <| by
 refine yY (fn := Tryz.f173) [] 3000 (by kernel_rfl) (by kernel_rfl) okL15 (by kernel_rfl) (fun args w => by kernel_rfl) fun xs bs r hs ho => ?_
 replace hs : (gPc xs bs).sel = some r := hs
 unfold gPc at hs
 split at hs
 ·cases hs
  have o := zA.1 ho
  exact ⟨_,bPc _ _ _ o.1 o.2⟩
 ·cases hs
end Go.Sym
namespace Go.Spec
def bV (k n : F8) : F8 := fun i => (rg 32 (chaB k 0#32 n)).getD i 0
noncomputable def U4 (k n : F8) (b more : By) : By := rg 16 (cE (bV k n) (fQ b more))
noncomputable def jX (k n : F8) (t more : By) : By := kY k 1#32 n t++U4 k n (kY k 1#32 n t) more
def mV (k n : F8) (b more : By) : Prop := U4 k n (b.take (b.length - 16)) more = b.drop (b.length - 16)
end Go.Spec
namespace Go.Sym
open Go.Proofs Go.Spec
noncomputable def gTo (xs : List AV) (bs : List ABlk) : TL := match xs,bs with
 | [.agg ks,.agg ns,.rb false b .unk,.rb false more .unk],[] => bE 32 ks fun k => bE 12 ns fun n => .ok ⟨[b.length + more.length + 128 < 1099511627776],aggB 16 (cE (bV k n) (fQ b more)),[],[]⟩
 | _,_ => .no
noncomputable def spTo : Spec := ⟨[.kp,.kp,.by0,.by0],fun _ _ => [],fun _ _ => [],gTo⟩
noncomputable def L18 : Ctx := L17.add 141 (mkF spTo)
def rB (L : Nat) (M : By) : RL := ⟨[],.slice 0 0 1 L .ow .unk,[],[⟨.bytes M,true,1⟩]⟩
def rO (v : AV) (L : Nat) (M : By) : RL := ⟨[],.tup [.slice 0 0 1 L .ow .unk,v],[],[⟨.bytes M,true,1⟩]⟩
set_option maxRecDepth 100000 in
theorem vTo (k n f : F8) (b more : By) : bq L17 Tryz.f141 0 [aggB 32 k,aggB 12 n,.rb false b .unk,.rb false more .unk] [] (rt (aggB 16 f)) = (
List.length more < 1099511627776/\(List.length (yA more) = List.length (yA more)/\List.length (yA more) + List.length b < 1099511627776)/\(List.length (yA (yA more++b)) = List.length (yA (yA more++b))/\List.length (yA (yA more++b)) < 1099511627776)/\(List.length (cnt (yA (yA more++b)) (List.length more)) = List.length (cnt (yA (yA more++b)) (List.length more))/\List.length (cnt (yA (yA more++b)) (List.length more)) < 1099511627776)/\32<=64/\32<=32/\List.length (cnt (cnt (yA (yA more++b)) (List.length more)) (List.length b)) = List.length (cnt (cnt (yA (yA more++b)) (List.length more)) (List.length b))/\List.length (cnt (cnt (yA (yA more++b)) (List.length more)) (List.length b)) < 1099511627776/\zG (fun (i : Nat) => f i = cE (fun (i : Nat) => (rg 32 (chaB (fun (i : Nat) => (rg 32 k).getD i (0 : BitVec 8)) (BitVec.ofNat 32 0) fun (i : Nat) => (rg 12 n).getD i (0 : BitVec 8))).getD i (0 : BitVec 8)) (cnt (cnt (yA (yA more++b)) (List.length more)) (List.length b)) i) 0 16 True : Prop) := by kernel_rfl
set_option maxRecDepth 100000 in
theorem vSe (k n : F8) (b more M : By) (L : Nat) : bq L18 Tryz.f116 0 [aggB 32 k,aggB 12 n,.rb false b .unk,.rb false more .unk] [] (rB L M) = (
let x1 := kY (fun (i : Nat) => (rg 32 k).getD i (0 : BitVec 8)) (BitVec.ofNat 32 1) (fun (i : Nat) => (rg 12 n).getD i (0 : BitVec 8)) b; let x2 := rg 16 (cE (bV (fun (i : Nat) => (rg 32 k).getD i (0 : BitVec 8)) fun (i : Nat) => (rg 12 n).getD i (0 : BitVec 8)) (fQ x1 more)); List.length b < 1099511627776/\List.length b = List.length x1/\List.length x1 + List.length more + 128 < 1099511627776/\List.length b = List.length x1/\zD (List.length b) x2.length 1/\0 = 0/\0 = 0/\0 = 0/\L = List.length b + x2.length/\M = x1++x2/\True : Prop) := by kernel_rfl
set_option maxRecDepth 100000 in
theorem vOp (k n : F8) (b more : By) (M : By) (L : Nat) (e : Int) : bq L18 Tryz.f120 0 [aggB 32 k,aggB 12 n,.rb false b .unk,.rb false more .unk] [] (rO (.int .i64 e) L M) = (
let x1 := IntKind.i64.wrap ((↑(List.length b) : Int) - (16 : Int)); @Bool.rec (fun _ => Prop) ((0 : Int)<=x1/\x1.toNat<=List.length b/\(List.take x1.toNat b).length + List.length more + 128 < 1099511627776/\(0 : Int)<=x1/\x1.toNat<=List.length b/\(rg 16 (cE (bV (fun (i : Nat) => (rg 32 k).getD i (0 : BitVec 8)) fun (i : Nat) => (rg 12 n).getD i (0 : BitVec 8)) (fQ (List.take x1.toNat b) more))).length < 4611686018427387904/\@Bool.rec (fun _ => Prop) ((0 : Int)<=x1/\x1.toNat<=List.length b/\(List.take x1.toNat b).length < 1099511627776/\0 = 0/\0 = 0/\0 = 0/\L = (List.take x1.toNat b).length/\e = (0 : Int)/\M = kY (fun (i : Nat) => (rg 32 k).getD i (0 : BitVec 8)) (BitVec.ofNat 32 1) (fun (i : Nat) => (rg 12 n).getD i (0 : BitVec 8)) (List.take x1.toNat b)/\True) (L = 0/\e = (4 : Int)/\M = []/\True) !wV (rg 16 (cE (bV (fun (i : Nat) => (rg 32 k).getD i (0 : BitVec 8)) fun (i : Nat) => (rg 12 n).getD i (0 : BitVec 8)) (fQ (List.take x1.toNat b) more))) (List.drop x1.toNat b)) (L = 0/\e = (2 : Int)/\M = []/\True) (decide (x1 < (0 : Int))) : Prop) := by kernel_rfl
end Go.Sym
namespace Go.Spec
theorem K3 (k : F8) (c : jW) (n : F8) (b : By) : kY (fun i => (rg 32 k).getD i 0) c (fun i => (rg 12 n).getD i 0) b = kY k c n b := by
 unfold kY C8
 simp only [Go.Sym.chaB_rg]
theorem K4 (k n : F8) : (bV (fun i => (rg 32 k).getD i 0) fun i => (rg 12 n).getD i 0) = bV k n := by
 unfold bV
 simp only [Go.Sym.chaB_rg]
theorem bG (k n : F8) (t m : By) : (U4 k n t m).length = 16 := wM _ _
theorem wF (k n : F8) (t more : By) : (jX k n t more).length = t.length + 16 := by
 unfold jX
 rw [List.length_append,xP,bG]
open Classical in
noncomputable def nB (k n : F8) (b more : By) : Int := if b.length < 16 then 2 else if mV k n b more then 0 else 4
open Classical in
noncomputable def kV (k n : F8) (b more : By) : By := if b.length < 16 then [] else if mV k n b more then kY k 1#32 n (b.take (b.length - 16)) else []
theorem aR (k n : F8) (t m : By) : mV k n (jX k n t m) m := by
 unfold mV
 rw [wF,Nat.add_sub_cancel]
 unfold jX
 rw [List.take_append_of_le_length (by rw [xP]; omega),List.take_of_length_le (by rw [xP]; omega),List.drop_append_of_le_length (by rw [xP]; omega),List.drop_eq_nil_of_le (by rw [xP]; omega),List.nil_append]
theorem D0 (k n : F8) (t m : By) : nB k n (jX k n t m) m = 0 := by
 unfold nB
 rw [if_neg (by rw [wF]; omega),if_pos (aR k n t m)]
theorem aT (k n : F8) (t m : By) : kV k n (jX k n t m) m = t := by
 unfold kV
 rw [if_neg (by rw [wF]; omega),if_pos (aR k n t m),wF,Nat.add_sub_cancel]
 unfold jX
 rw [List.take_append_of_le_length (by rw [xP]; omega),List.take_of_length_le (by rw [xP]; omega),C9]
end Go.Spec
namespace Go.Sym
open Go.Proofs Go.Spec
theorem bTo (k n : F8) (b more : By) (hb : b.length + more.length + 128 < 1099511627776) : Must (bq L17 Tryz.f141 0 [aggB 32 k,aggB 12 n,.rb false b .unk,.rb false more .unk] [] (rt (aggB 16 (cE (bV k n) (fQ b more))))) := by
 constructor
 rw [vTo]
 simp only [chaB_rg]
 have hf := eO more.length
 have hf2 := eO (yA more++b).length
 have h1 := uV more
 have h2 := uV (yA more++b)
 have h3 : (yA more++b).length = more.length + vW more.length + b.length := by rw [List.length_append,h1]
 have h4 := fR (yA (yA more++b)) more.length
 have h5 := fR (cnt (yA (yA more++b)) more.length) b.length
 exact ⟨by omega,⟨trivial,by omega⟩,⟨trivial,by omega⟩,⟨trivial,by omega⟩,by omega,by omega,trivial,by omega,zS (fun _ _ _ => rfl) trivial⟩
theorem okL18 : COKs Tryz.prog gl0 L18 := okL17.add <| by
 refine yY (fn := Tryz.f141) [] 3000 (by kernel_rfl) (by kernel_rfl) okL17 (by kernel_rfl) (fun args w => by kernel_rfl) fun xs bs r hs ho => ?_
 simp only [spTo,gTo] at hs
 split at hs
 ·obtain ⟨k,e,hs⟩ := yZ hs
  obtain ⟨n,e2,hs⟩ := yZ hs
  cases hs
  rw [e,e2]
  exact ⟨_,bTo k n _ _ (zA.1 ho)⟩
 ·cases hs
theorem bSe (k n : F8) (b more : By) (hb : b.length + more.length + 256 < 1099511627776) : Must (bq L18 Tryz.f116 0 [aggB 32 k,aggB 12 n,.rb false b .unk,.rb false more .unk] [] (rB (b.length + 16) (jX k n b more))) := by
 constructor
 rw [vSe]
 have hl := xP k (BitVec.ofNat 32 1) n b
 dsimp only
 rw [K3,K4,wM]
 exact ⟨by omega,hl.symm,by omega,hl.symm,by unfold zD; omega,rfl,rfl,rfl,rfl,rfl,trivial⟩
theorem wr16 {n : Nat} (h : 16<=n) (h2 : n < 1099511627776) : IntKind.i64.wrap ((n : Int) - 16) = ((n - 16 : Nat) : Int) := zU _ (by omega) (by omega)
theorem wr16' {n : Nat} (h : n < 16) : IntKind.i64.wrap ((n : Int) - 16) = (n : Int) - 16 := wK (by omega) (by omega)
theorem bOp (k n : F8) (b more : By) (hb : b.length + more.length + 256 < 1099511627776) : Must (bq L18 Tryz.f120 0 [aggB 32 k,aggB 12 n,.rb false b .unk,.rb false more .unk] [] (rO (.int .i64 (nB k n b more)) (kV k n b more).length (kV k n b more))) := by
 constructor
 rw [vOp]
 dsimp only
 simp only [K3,K4]
 refine yE (fun h => ?_) (fun h => ?_)
 ·have hl : b.length < 16 := by
   rcases Nat.lt_or_ge b.length 16 with g | g
   ·exact g
   ·rw [wr16 g (by omega)] at h
    have := aO.1 h
    omega
  unfold nB kV
  simp only [if_pos hl,List.length_nil,and_self]
 ·have hl : 16<=b.length := by
   rcases Nat.lt_or_ge b.length 16 with g | g
   ·rw [wr16' g] at h
    have := mR.1 h
    omega
   ·exact g
  have hn : ¬ b.length < 16 := by omega
  have ht : (List.take (b.length - 16) b).length = b.length - 16 := by simp
  have hs := xP k (BitVec.ofNat 32 1) n (List.take (b.length - 16) b)
  have hd : rg 16 (cE (bV k n) (fQ (b.take (b.length - 16)) more)) = U4 k n (b.take (b.length - 16)) more := rfl
  have htl := bG k n (List.take (b.length - 16) b) more
  rw [wr16 hl (by omega),Int.toNat_natCast,hd,j8,htl,ht]
  refine ⟨by omega,by omega,by omega,by omega,by omega,by omega,?_⟩
  refine yE (fun g => ?_) (fun g => ?_)
  ·have hg : ¬ mV k n b more := by simpa [mV] using g
   unfold nB kV
   simp only [if_neg hn,if_neg hg,List.length_nil,and_self]
  ·have hg : mV k n b more := by simpa [mV] using g
   unfold nB kV
   simp only [if_neg hn,if_pos hg,and_true,true_and]
   exact ⟨by omega,by omega,by omega,by rw [hs,ht]⟩
noncomputable def gSe (xs : List AV) (bs : List ABlk) : TL := match xs,bs with
 | [.agg ks,.agg ns,.rb false b .unk,.rb false more .unk],[] => bE 32 ks fun k => bE 12 ns fun n => .ok ⟨[b.length + more.length + 256 < 1099511627776],.slice 0 0 1 (b.length + 16) .ow .unk,[],[⟨.bytes (jX k n b more),true,1⟩]⟩
 | _,_ => .no
noncomputable def gOp (xs : List AV) (bs : List ABlk) : TL := match xs,bs with
 | [.agg ks,.agg ns,.rb false b .unk,.rb false more .unk],[] => bE 32 ks fun k => bE 12 ns fun n => .ok ⟨[b.length + more.length + 256 < 1099511627776],.tup [.slice 0 0 1 (kV k n b more).length .ow .unk,.int .i64 (nB k n b more)],[],[⟨.bytes (kV k n b more),true,1⟩]⟩
 | _,_ => .no
noncomputable def L19 : Ctx := L18.add 116 (mkF ⟨[.kp,.kp,.by0,.by0],fun _ _ => [],fun _ _ => [],gSe⟩)
noncomputable def L20 : Ctx := L19.add 120 (mkF ⟨[.kp,.kp,.by0,.by0],fun _ _ => [],fun _ _ => [],gOp⟩)
theorem okL19 : COKs Tryz.prog gl0 L19 := okL18.add <| by
 refine yY (fn := Tryz.f116) [] 3000 (by kernel_rfl) (by kernel_rfl) okL18 (by kernel_rfl) (fun args w => by kernel_rfl) fun xs bs r hs ho => ?_
 simp only [gSe] at hs
 split at hs
 ·obtain ⟨k,e,hs⟩ := yZ hs
  obtain ⟨n,e2,hs⟩ := yZ hs
  cases hs
  rw [e,e2]
  exact ⟨_,bSe k n _ _ (zA.1 ho)⟩
 ·cases hs
theorem okL20 : COKs Tryz.prog gl0 L20 := okL19.add <| by
 refine yY (fn := Tryz.f120) [] 3000 (by kernel_rfl) (by kernel_rfl) okL18 (by kernel_rfl) (fun args w => by kernel_rfl) fun xs bs r hs ho => ?_
 simp only [gOp] at hs
 split at hs
 ·obtain ⟨k,e,hs⟩ := yZ hs
  obtain ⟨n,e2,hs⟩ := yZ hs
  cases hs
  rw [e,e2]
  exact ⟨_,bOp k n _ _ (zA.1 ho)⟩
 ·cases hs
set_option maxRecDepth 100000 in
theorem vGr (n : Int) (M : By) : bq L20 Tryz.f139 0 [.nils,.int .i64 n] [] ⟨[],.slice 0 0 1 0 .os .unk,[],[⟨.bytes M,true,1⟩]⟩ = (
@Bool.rec (fun _ => Prop) (@Bool.rec (fun _ => Prop) False ((0 : Int)<=(0 : Int)/\0<=0/\(0 : Int)<=IntKind.i64.wrap (n - Int.ofNat 0)/\IntKind.i64.wrap (n - Int.ofNat 0) < (9223372036854775808 : Int)/\zD 0 (List.replicate (IntKind.i64.wrap (n - Int.ofNat 0)).toNat (0 : BitVec 8)).length 1/\(0 : Int)<=(0 : Int)/\0<=(List.replicate (IntKind.i64.wrap (n - Int.ofNat 0)).toNat (0 : BitVec 8)).length/\0 = 0/\0 = 0/\0 = 0/\0 = 0/\M = List.replicate (IntKind.i64.wrap (n - Int.ofNat 0)).toNat (0 : BitVec 8)/\True) (decide ((0 : Int) < IntKind.i64.wrap (n - Int.ofNat 0)))) False (decide (n < (0 : Int))) : Prop) := by kernel_rfl
theorem bGr (n : Int) (h : 0 < n) (h2 : n < 1099511627776) : Must (bq L20 Tryz.f139 0 [.nils,.int .i64 n] [] ⟨[],.slice 0 0 1 0 .os .unk,[],[⟨.bytes (List.replicate n.toNat 0),true,1⟩]⟩) := by
 constructor
 rw [vGr]
 have w : IntKind.i64.wrap (n - Int.ofNat 0) = n := by
  show IntKind.i64.wrap (n - 0) = n
  rw [Int.sub_zero]
  exact wK (by omega) (by omega)
 rw [w]
 refine yE (fun g => absurd (aO.1 g) (by omega)) (fun _ => ?_)
 refine yE (fun _ => ?_) (fun g => absurd (mR.1 g) (by omega))
 simp only [zD,List.length_replicate]
 refine ⟨by omega,by omega,by omega,by omega,by omega,by omega,by omega,trivial,trivial,trivial,trivial,trivial,trivial⟩
noncomputable def gGr (xs : List AV) (bs : List ABlk) : TL := match xs,bs with
 | [.nils,.int .i64 n],[] => .ok ⟨[0 < n/\n < 1099511627776],.slice 0 0 1 0 .os .unk,[],[⟨.bytes (List.replicate n.toNat 0),true,1⟩]⟩
 | _,_ => .no
noncomputable def L21 : Ctx := L20.add 139 (mkF ⟨[.kp,.kp],fun _ _ => [],fun _ _ => [],gGr⟩)
theorem okL21 : COKs Tryz.prog gl0 L21 := okL20.add <| by
 refine yY (fn := Tryz.f139) [] 3000 (by kernel_rfl) (by kernel_rfl) okL20 (by kernel_rfl) (fun args w => by kernel_rfl) fun xs bs r hs ho => ?_
 simp only [gGr] at hs
 split at hs
 ·cases hs
  have o := zA.1 ho
  exact ⟨_,bGr _ o.1 o.2⟩
 ·cases hs
noncomputable def L22 : Ctx := L21.exe Tryz.prog gl0 [] 3000 Tryz.f114.params.size 114 Tryz.f114
theorem okL22 : COKs Tryz.prog gl0 L22 := okL21.exe [] 3000 _ (by kernel_rfl) (by kernel_rfl) (by kernel_rfl) (fun args w => by kernel_rfl)
noncomputable def L23 : Ctx := L22.exe Tryz.prog gl0 [] 3000 Tryz.f119.params.size 119 Tryz.f119
theorem okL23 : COKs Tryz.prog gl0 L23 := okL22.exe [] 3000 _ (by kernel_rfl) (by kernel_rfl) (by kernel_rfl) (fun args w => by kernel_rfl)
noncomputable def L24 : Ctx := L23.exe Tryz.prog gl0 [] 3000 Tryz.f96.params.size 96 Tryz.f96
theorem okL24 : COKs Tryz.prog gl0 L24 := okL23.exe [] 3000 _ (by kernel_rfl) (by kernel_rfl) (by kernel_rfl) (fun args w => by kernel_rfl)
noncomputable def L25 : Ctx := L24.exe Tryz.prog gl0 [] 3000 Tryz.f92.params.size 92 Tryz.f92
theorem okL25 : COKs Tryz.prog gl0 L25 := okL24.exe [] 3000 _ (by kernel_rfl) (by kernel_rfl) (by kernel_rfl) (fun args w => by kernel_rfl)
noncomputable def L26 : Ctx := L25.exe Tryz.prog gl0 [] 3000 Tryz.f115.params.size 115 Tryz.f115
theorem okL26 : COKs Tryz.prog gl0 L26 := okL25.exe [] 3000 _ (by kernel_rfl) (by kernel_rfl) (by kernel_rfl) (fun args w => by kernel_rfl)
noncomputable def L27 : Ctx := L26.exe Tryz.prog gl0 [] 3000 Tryz.f113.params.size 113 Tryz.f113
theorem okL27 : COKs Tryz.prog gl0 L27 := okL26.exe [] 3000 _ (by kernel_rfl) (by kernel_rfl) (by kernel_rfl) (fun args w => by kernel_rfl)
noncomputable def L28 : Ctx := L27.exe Tryz.prog gl0 [] 3000 Tryz.f117.params.size 117 Tryz.f117
theorem okL28 : COKs Tryz.prog gl0 L28 := okL27.exe [] 3000 _ (by kernel_rfl) (by kernel_rfl) (by kernel_rfl) (fun args w => by kernel_rfl)
def yD (n : Nat) (f : F8) : List AV := (List.range n).map fun i => .u8 (f i)
set_option maxRecDepth 100000 in
theorem vDe (s f g : F8) : bq L28 Tryz.f90 0 [aggB 32 s] [] (rt (.agg (yD 32 f++yD 12 g))) = (
let x1 := rg 32 (kD (rg 32 s) (List.take 0 (List.replicate 14 (0 : BitVec 8))++[]++([BitVec.ofNat 8 0,BitVec.ofNat 8 32,BitVec.ofNat 8 9]++[BitVec.ofNat 8 116,BitVec.ofNat 8 108,BitVec.ofNat 8 115,BitVec.ofNat 8 49,BitVec.ofNat 8 51,BitVec.ofNat 8 32]++[BitVec.ofNat 8 107,BitVec.ofNat 8 101,BitVec.ofNat 8 121]++[BitVec.ofNat 8 0]++[])++[BitVec.ofNat 8 1])); let x2 := rg 32 (kD (rg 32 s) (List.take 0 (List.replicate 13 (0 : BitVec 8))++[]++([BitVec.ofNat 8 0,BitVec.ofNat 8 12,BitVec.ofNat 8 8]++[BitVec.ofNat 8 116,BitVec.ofNat 8 108,BitVec.ofNat 8 115,BitVec.ofNat 8 49,BitVec.ofNat 8 51,BitVec.ofNat 8 32]++[BitVec.ofNat 8 105,BitVec.ofNat 8 118]++[BitVec.ofNat 8 0]++[])++[BitVec.ofNat 8 1])); 3 = 3/\zD 3 6 1/\9 = 9/\zD 9 3 1/\1 = 1/\12 = 12/\zD 12 1 1/\13 = 13/\zD 13 0 1/\(0 : Int)<=(0 : Int)/\0 < 3/\(0 : Int)<=Int.ofNat 1/\1 < 3/\(0 : Int)<=Int.ofNat 2/\2 < 3/\((0 : Int) < Int.ofNat 14/\Int.ofNat 14 < (1099511627776 : Int))/\(0 : Int)<=(0 : Int)/\0 < 3/\0<=14/\0 = 0/\zD 0 0 1/\(0 : Int)<=Int.ofNat 1/\1 < 3/\13 = 13/\0 = 0/\zD 0 13 1/\(0 : Int)<=Int.ofNat 2/\2 < 3/\1 = 1/\13 = 13/\zD 13 1 1/\14 = 14/\((rg 32 s).length < 4611686018427387904/\14 < 4611686018427387904)/\zD 0 x1.length 1/\(0 : Int)<=(32 : Int)/\(0 : Int)<=(32 : Int)/\32<=32/\32<=x1.length/\32<=x1.length/\3 = 3/\zD 3 6 1/\9 = 9/\zD 9 2 1/\1 = 1/\11 = 11/\zD 11 1 1/\12 = 12/\zD 12 0 1/\(0 : Int)<=(0 : Int)/\0 < 3/\(0 : Int)<=Int.ofNat 1/\1 < 3/\(0 : Int)<=Int.ofNat 2/\2 < 3/\((0 : Int) < Int.ofNat 13/\Int.ofNat 13 < (1099511627776 : Int))/\(0 : Int)<=(0 : Int)/\0 < 3/\0<=13/\0 = 0/\zD 0 0 1/\(0 : Int)<=Int.ofNat 1/\1 < 3/\12 = 12/\0 = 0/\zD 0 12 1/\(0 : Int)<=Int.ofNat 2/\2 < 3/\1 = 1/\12 = 12/\zD 12 1 1/\13 = 13/\((rg 32 s).length < 4611686018427387904/\13 < 4611686018427387904)/\zD 0 x2.length 1/\(0 : Int)<=(12 : Int)/\(0 : Int)<=(12 : Int)/\12<=12/\12<=x2.length/\12<=x2.length/\zG (fun (i : Nat) => f i = if i < (List.take 32 x1).length then (List.take 32 x1).getD i (0 : BitVec 8) else BitVec.ofNat 8 0) 0 32 (zG (fun (i : Nat) => g i = if i < (List.take 12 x2).length then (List.take 12 x2).getD i (0 : BitVec 8) else BitVec.ofNat 8 0) 0 12 True) : Prop) := by kernel_rfl
end Go.Sym
namespace Go.Spec
noncomputable def drK (s : F8) : F8 := kD (rg 32 s) [0,32,9,116,108,115,49,51,32,107,101,121,0,1]
noncomputable def drI (s : F8) : F8 := kD (rg 32 s) [0,12,8,116,108,115,49,51,32,105,118,0,1]
end Go.Spec
namespace Go.Sym
open Go.Proofs Go.Spec
theorem bDe (s : F8) : Must (bq L28 Tryz.f90 0 [aggB 32 s] [] (rt (.agg (yD 32 (drK s)++yD 12 (drI s))))) := by
 constructor
 rw [vDe]
 dsimp only
 simp only [wM,zD]
 repeat refine And.intro (by first | rfl | omega | decide) ?_
 first | trivial | exact zS (fun _ _ _ => rfl) trivial | exact zS (fun _ _ _ => rfl) (zS (fun _ _ _ => rfl) trivial)
end Go.Sym
namespace Go.Spec
def nonB (iv : F8) (s : BitVec 64) : F8 := fun i => [iv 0,iv 1,iv 2,iv 3,iv 4 ^^^ (s >>> 56).setWidth 8,iv 5 ^^^ (s >>> 48).setWidth 8,iv 6 ^^^ (s >>> 40).setWidth 8,iv 7 ^^^ (s >>> 32).setWidth 8,iv 8 ^^^ (s >>> 24).setWidth 8,iv 9 ^^^ (s >>> 16).setWidth 8,iv 10 ^^^ (s >>> 8).setWidth 8,iv 11 ^^^ (s >>> 0).setWidth 8].getD i 0
def hdL (n : Nat) : By := [23,3,3,BitVec.ofInt 8 ((n : Int).fdiv 256),BitVec.ofInt 8 (n : Int)]
noncomputable def bW (k iv : F8) (q : BitVec 64) (t : Int) (b : By) : By := jX k (nonB iv q) (b++[BitVec.ofInt 8 t]) (hdL (b.length + 17))
noncomputable def recL (k iv : F8) (q : BitVec 64) (t : Int) (b : By) : By := hdL (b.length + 17)++bW k iv q t b
theorem D3 (k : F8) (c : jW) (n : F8) : chaB (fun i => (rg 32 k).getD i 0) c n = chaB k c n := by kernel_rfl
theorem K5 (k n : F8) (b m : By) : jX (fun i => (rg 32 k).getD i 0) n b m = jX k n b m := by
 unfold jX U4 bV kY C8
 simp only [D3]
end Go.Spec
namespace Go.Sym
open Go.Proofs Go.Spec
def asK (cs : List AV) (g : F8->F8->TL) : TL := match qO cs with | some l => (match l.length == 44 with | true => g (fun i => l.getD i 0) (fun i => l.getD (32 + i) 0) | false => .no) | none => .no
theorem iD {cs : List AV} {g : F8->F8->TL} {r : RL} (h : (asK cs g).sel = some r) : ∃ k iv : F8,AV.agg cs = .agg (yD 32 k++yD 12 iv)/\(g k iv).sel = some r := by
 unfold asK at h
 split at h
 ·rename_i l hl
  split at h
  ·rename_i hn
   have hn : l.length = 44 := by simpa using hn
   refine ⟨_,_,?_,h⟩
   rw [vR hl]
   congr 1
   apply List.ext_getElem
   ·simp [hn,yD]
   ·intro i h1 h2
    have hi : i < l.length := by simpa using h1
    by_cases h3 : i < 32
    ·rw [List.getElem_append_left (by simpa [yD] using h3)]
     simp [yD,List.getD,hi]
    ·rw [List.getElem_append_right (by simp [yD]; omega)]
     simp only [yD,List.getElem_map,List.getElem_range,List.length_map,List.length_range]
     have : 32 + (i - 32) = i := by omega
     simp [this,List.getD,hi]
  ·simp [TL.sel] at h
 ·simp [TL.sel] at h
noncomputable def gDe (xs : List AV) : TL := match xs with | [.agg cs] => bE 32 cs fun s => .ok (rt (.agg (yD 32 (drK s)++yD 12 (drI s)))) | _ => .no
noncomputable def L29 : Ctx := L28.add 90 (mkF (qL 1 gDe))
theorem okL29 : COKs Tryz.prog gl0 L29 := okL28.add <| by
 refine yY (fn := Tryz.f90) [] 3000 (by kernel_rfl) (by kernel_rfl) okL28 (by kernel_rfl) (fun args w => by kernel_rfl) fun xs bs r hs ho => ?_
 obtain ⟨rfl,h⟩ := yS hs
 unfold gDe at h
 split at h
 ·obtain ⟨s,e,h⟩ := yZ h
  cases h
  rw [e]
  exact ⟨_,bDe s⟩
 ·cases h
set_option maxRecDepth 100000 in
theorem vSl (k iv : F8) (q : BitVec 64) (t : Int) (b M : By) (L : Nat) : bq L29 Tryz.f89 0 [.agg (yD 32 k++yD 12 iv),.u64 q,.int .i64 t,.rb false b .unk,.int .i64 0] [] ⟨[],.tup [.slice 0 0 1 L .ow .unk,.int .i64 0],[],[⟨.bytes M,true,1⟩]⟩ = (
let x1 := [BitVec.ofNat 8 23,BitVec.ofNat 8 3,BitVec.ofNat 8 3,BitVec.ofInt 8 ((IntKind.i64.wrap ((↑(0 + List.length b + [BitVec.ofInt 8 t].length + 0) : Int) + (16 : Int))).fdiv (Int.ofNat 256)),BitVec.ofInt 8 (IntKind.i64.wrap ((↑(0 + List.length b + [BitVec.ofInt 8 t].length + 0) : Int) + (16 : Int)))]; let x2 := List.take 0 (List.replicate (IntKind.i64.wrap (IntKind.i64.wrap (IntKind.i64.wrap ((0 : Int) + (↑(List.length b) : Int)) + Int.ofNat 1) + Int.ofNat 0)).toNat (0 : BitVec 8))++b++[BitVec.ofInt 8 t]++List.replicate 0 (0 : BitVec 8); let x3 := jX (fun (i : Nat) => (rg 32 k).getD i (0 : BitVec 8)) (fun (i : Nat) => [iv 0,iv 1,iv 2,iv 3,iv 4 ^^^ BitVec.setWidth 8 (q >>> 56),iv 5 ^^^ BitVec.setWidth 8 (q >>> 48),iv 6 ^^^ BitVec.setWidth 8 (q >>> 40),iv 7 ^^^ BitVec.setWidth 8 (q >>> 32),iv 8 ^^^ BitVec.setWidth 8 (q >>> 24),iv 9 ^^^ BitVec.setWidth 8 (q >>> 16),iv 10 ^^^ BitVec.setWidth 8 (q >>> 8),iv 11 ^^^ BitVec.setWidth 8 (q >>> 0)].getD i (0 : BitVec 8)) x2 x1; let x4 := IntKind.i64.wrap (IntKind.i64.wrap (IntKind.i64.wrap ((0 : Int) + (↑(List.length b) : Int)) + Int.ofNat 1) + Int.ofNat 0); let x5 := IntKind.i64.wrap (Int.ofNat 5 + (↑(x2.length + 16) : Int)); @Bool.rec (fun _ => Prop) (L = 0/\(0 : Int) = (1 : Int)/\M = []/\True) (@Bool.rec (fun _ => Prop) (L = 0/\(0 : Int) = (1 : Int)/\M = []/\True) (@Bool.rec (fun _ => Prop) ((0 : Int)<=(0 : Int)/\(0 : Int)<=(0 : Int)/\0<=0/\0<=281474976710656/\0<=9223372036854775807/\@Bool.rec (fun _ => Prop) (@Bool.rec (fun _ => Prop) (@Bool.rec (fun _ => Prop) ((0 : Int)<=(0 : Int)/\0 < 3/\(0 : Int)<=Int.ofNat 1/\1 < 3/\(0 : Int)<=Int.ofNat 2/\2 < 3/\((0 : Int) < x4/\x4 < (1099511627776 : Int))/\(0 : Int)<=(0 : Int)/\0 < 3/\0<=(List.replicate x4.toNat (0 : BitVec 8)).length/\0 = (List.take 0 (List.replicate x4.toNat (0 : BitVec 8))).length/\zD 0 (List.length b) 1/\(0 : Int)<=Int.ofNat 1/\1 < 3/\1 = [BitVec.ofInt 8 t].length/\0 + List.length b = (List.take 0 (List.replicate x4.toNat (0 : BitVec 8))++b).length/\zD (0 + List.length b) [BitVec.ofInt 8 t].length 1/\(0 : Int)<=Int.ofNat 2/\2 < 3/\0 = 0/\0 + List.length b + [BitVec.ofInt 8 t].length = (List.take 0 (List.replicate x4.toNat (0 : BitVec 8))++b++[BitVec.ofInt 8 t]).length/\zD (0 + List.length b + [BitVec.ofInt 8 t].length) 0 1/\(0 : Int)<=Int.ofNat 11/\(0 : Int)<=Int.ofNat 0/\(0 : Int)<=Int.ofNat 11/\(0 : Int)<=Int.ofNat 10/\(0 : Int)<=Int.ofNat 8/\(0 : Int)<=Int.ofNat 10/\(0 : Int)<=Int.ofNat 9/\(0 : Int)<=Int.ofNat 16/\(0 : Int)<=Int.ofNat 9/\(0 : Int)<=Int.ofNat 8/\(0 : Int)<=Int.ofNat 24/\(0 : Int)<=Int.ofNat 8/\(0 : Int)<=Int.ofNat 7/\(0 : Int)<=Int.ofNat 32/\(0 : Int)<=Int.ofNat 7/\(0 : Int)<=Int.ofNat 6/\(0 : Int)<=Int.ofNat 40/\(0 : Int)<=Int.ofNat 6/\(0 : Int)<=Int.ofNat 5/\(0 : Int)<=Int.ofNat 48/\(0 : Int)<=Int.ofNat 5/\(0 : Int)<=Int.ofNat 4/\(0 : Int)<=Int.ofNat 56/\(0 : Int)<=Int.ofNat 4/\0 + List.length b + [BitVec.ofInt 8 t].length + 0 = x2.length/\5 = x1.length/\x2.length + x1.length + 256 < 1099511627776/\@Bool.rec (fun _ => Prop) ((0 : Int)<=(0 : Int)/\0 < 2/\(0 : Int)<=Int.ofNat 1/\1 < 2/\((0 : Int) < x5/\x5 < (1099511627776 : Int))/\(0 : Int)<=(0 : Int)/\0 < 2/\0<=(List.replicate x5.toNat (0 : BitVec 8)).length/\5 = x1.length/\0 = (List.take 0 (List.replicate x5.toNat (0 : BitVec 8))).length/\zD 0 x1.length 1/\(0 : Int)<=Int.ofNat 1/\1 < 2/\x2.length + 16 = List.length x3/\0 + x1.length = (List.take 0 (List.replicate x5.toNat (0 : BitVec 8))++x1).length/\zD (0 + x1.length) (List.length x3) 1/\0 = 0/\0 = 0/\0 = 0/\L = 0 + x1.length + List.length x3/\(0 : Int) = (0 : Int)/\M = List.take 0 (List.replicate x5.toNat (0 : BitVec 8))++x1++x3/\True) False (decide (x5 < (0 : Int)))) False (decide (x4 < (0 : Int)))) False (decide (IntKind.i64.wrap (IntKind.i64.wrap ((0 : Int) + (↑(List.length b) : Int)) + Int.ofNat 1) < (0 : Int)))) False (decide (IntKind.i64.wrap ((0 : Int) + (↑(List.length b) : Int)) < (0 : Int)))) (L = 0/\(0 : Int) = (1 : Int)/\M = []/\True) (decide (IntKind.i64.wrap ((256 : Int) - (↑(List.length b) : Int)) < (0 : Int)))) !!decide (t<=(23 : Int))) (decide ((20 : Int)<=t)) : Prop) := by kernel_rfl
theorem bSl (k iv : F8) (q : BitVec 64) (t : Int) (b : By) (h1 : 20<=t) (h2 : t<=23) (hb : b.length<=256) : Must (bq L29 Tryz.f89 0 [.agg (yD 32 k++yD 12 iv),.u64 q,.int .i64 t,.rb false b .unk,.int .i64 0] [] ⟨[],.tup [.slice 0 0 1 (b.length + 22) .ow .unk,.int .i64 0],[],[⟨.bytes (recL k iv q t b),true,1⟩]⟩) := by
 constructor
 rw [vSl]
 have w0 : IntKind.i64.wrap ((0 : Int) + (b.length : Int)) = (b.length : Int) := by rw [Int.zero_add]; exact wK (by omega) (by omega)
 have w1 : IntKind.i64.wrap ((b.length : Int) + Int.ofNat 1) = ((b.length + 1 : Nat) : Int) := zU _ (by simp) (by omega)
 have w2 : IntKind.i64.wrap (((b.length + 1 : Nat) : Int) + Int.ofNat 0) = ((b.length + 1 : Nat) : Int) := zU _ (by simp) (by omega)
 have w3 : IntKind.i64.wrap ((256 : Int) - (b.length : Int)) = (256 : Int) - (b.length : Int) := wK (by omega) (by omega)
 have w4 : IntKind.i64.wrap (((0 + b.length + [BitVec.ofInt 8 t].length + 0 : Nat) : Int) + (16 : Int)) = ((b.length + 17 : Nat) : Int) := zU _ (by simp <;> omega) (by omega)
 have e2 : List.take 0 (List.replicate ((b.length + 1 : Nat) : Int).toNat (0 : BitVec 8))++b++[BitVec.ofInt 8 t]++List.replicate 0 (0 : BitVec 8) = b++[BitVec.ofInt 8 t] := by simp
 have l2 : (b++[BitVec.ofInt 8 t]).length = b.length + 1 := by simp
 have w5 : IntKind.i64.wrap (Int.ofNat 5 + ((b.length + 1 + 16 : Nat) : Int)) = ((b.length + 22 : Nat) : Int) := zU _ (by simp <;> omega) (by omega)
 dsimp only
 rw [w0,w1,w2,w3,w4,e2,l2,w5,K5]
 refine yE (fun _ => ?_) (fun g => absurd (of_decide_eq_false g) (by omega))
 refine yE (fun _ => ?_) (fun g => absurd (show t<=23 from h2) (by simpa using g))
 refine yE (fun g => by exfalso; have := aO.1 g; omega) (fun _ => ?_)
 refine ⟨by omega,by omega,by omega,by omega,by omega,?_⟩
 have d0 : decide (((b.length : Nat) : Int) < 0) = false := decide_eq_false (by omega)
 have d1 : decide (((b.length + 1 : Nat) : Int) < 0) = false := decide_eq_false (by omega)
 have d2 : decide (((b.length + 22 : Nat) : Int) < 0) = false := decide_eq_false (by omega)
 simp only [d0,d1,d2,wF,List.length_take,List.length_replicate,List.length_append,List.length_cons,List.length_nil,zD,Int.toNat_natCast,List.take_zero,List.nil_append,Nat.zero_add,Nat.zero_min,Nat.min_eq_left (Nat.zero_le _),true_and,and_true]
 repeat refine And.intro (by first | omega | exact Int.natCast_nonneg _ | exact ⟨by omega,by omega⟩ | rfl) ?_
 first | trivial | rfl
noncomputable def gSl (xs : List AV) (bs : List ABlk) : TL := match xs,bs with
 | [.agg cs,.u64 q,.int .i64 t,.rb false b .unk,.int .i64 (.ofNat 0)],[] => asK cs fun k iv => .ok ⟨[20<=t/\t<=23/\b.length<=256],.tup [.slice 0 0 1 (b.length + 22) .ow .unk,.int .i64 0],[],[⟨.bytes (recL k iv q t b),true,1⟩]⟩
 | _,_ => .no
noncomputable def L30 : Ctx := L29.add 89 (mkF ⟨[.kp,.kp,.kp,.by0,.kp],fun _ _ => [],fun _ _ => [],gSl⟩)
theorem okL30 : COKs Tryz.prog gl0 L30 := okL29.add <| by
 refine yY (fn := Tryz.f89) [] 3000 (by kernel_rfl) (by kernel_rfl) okL29 (by kernel_rfl) (fun args w => by kernel_rfl) fun xs bs r hs ho => ?_
 simp only [gSl] at hs
 split at hs
 ·obtain ⟨k,iv,e,hs⟩ := iD hs
  cases hs
  rw [e]
  have o := zA.1 ho
  exact ⟨_,bSl _ _ _ _ _ o.1 o.2.1 o.2.2⟩
 ·cases hs
end Go.Sym
namespace Go.Spec
def kQ (x : BitVec 8) (l : By) : Nat->Nat
 | 0 => 0
 | n + 1 => if l.getD n 0 = x then kQ x l n else n + 1
def jJ (x : BitVec 8) (l : By) : Nat := kQ x l l.length
theorem D4 (l : By) (c : BitVec 8) (h : c ≠ 0) : jJ 0#8 (l++[c]) = l.length + 1 := by
 unfold jJ
 rw [List.length_append]
 show kQ 0#8 (l++[c]) (l.length + 1) = _
 unfold kQ
 rw [if_neg]
 simpa [List.getD] using h
end Go.Spec
namespace Go.Sym
open Go.Proofs Go.Spec
def ls78 (x : BitVec 8) (l : By) : LS := ⟨Nat,fun n => [(0,.slice 0 0 1 n .os .unk),(1,.u8 x)],fun n => [(0,⟨.bytes l,true,1⟩)],1000,fun n => n,fun n => n<=l.length/\kQ x l n = jJ x l,fun _ => []⟩
def r78 (l : By) (m : Nat) : RL := ⟨[],.slice 0 0 1 m .os .unk,[some (some ⟨.bytes l,true,1⟩)],[]⟩
set_option maxRecDepth 100000 in
theorem vr78 (x : BitVec 8) (l : By) (L m : Nat) : bg L30 [] [(2,ls78 x l)] Tryz.f144 1 [.slice 0 0 1 L .ow .unk,.u8 x] [⟨.bytes l,true,1⟩] (r78 l m) = (
(∃ (x_1 : Nat),(x_1<=List.length l/\kQ x l x_1 = jJ x l)/\0 = 0/\0 = 0/\0 = 0/\x_1 = L/\x = x/\l = l/\True)/\∀ (x_1 : Nat),x_1<=List.length l/\kQ x l x_1 = jJ x l->@Bool.rec (fun _ => Prop) (0 = 0/\0 = 0/\0 = 0/\m = x_1/\l = l/\True) ((0 : Int)<=IntKind.i64.wrap ((↑x_1 : Int) - (1 : Int))/\(IntKind.i64.wrap ((↑x_1 : Int) - (1 : Int))).toNat < x_1/\(IntKind.i64.wrap ((↑x_1 : Int) - (1 : Int))).toNat < List.length l/\@Bool.rec (fun _ => Prop) (0 = 0/\0 = 0/\0 = 0/\m = x_1/\l = l/\True) ((0 : Int)<=IntKind.i64.wrap ((↑x_1 : Int) - (1 : Int))/\(IntKind.i64.wrap ((↑x_1 : Int) - (1 : Int))).toNat<=x_1/\∃ (y : Nat),y < x_1/\(y<=List.length l/\kQ x l y = jJ x l)/\0 = 0/\0 = 0/\0 = 0/\y = (IntKind.i64.wrap ((↑x_1 : Int) - (1 : Int))).toNat/\x = x/\l = l/\True) (decide (List.getD l (IntKind.i64.wrap ((↑x_1 : Int) - (1 : Int))).toNat (0 : BitVec 8) = x))) (decide ((0 : Int) < (↑x_1 : Int))) : Prop) := by kernel_rfl
theorem br78 (x : BitVec 8) (l : By) (L : Nat) (hL : L = l.length) (hl : l.length < 1099511627776) : Must (bg L30 [] [(2,ls78 x l)] Tryz.f144 1 [.slice 0 0 1 L .ow .unk,.u8 x] [⟨.bytes l,true,1⟩] (r78 l (jJ x l))) := by
 constructor
 rw [vr78]
 refine ⟨⟨l.length,⟨Nat.le_refl _,rfl⟩,rfl,rfl,rfl,hL.symm,rfl,rfl,trivial⟩,fun n hn => ?_⟩
 obtain ⟨h1,h2⟩ := hn
 refine yE (fun h => ?_) (fun h => ?_)
 ·have hp : 0 < n := by have := aO.1 h; omega
  have w : IntKind.i64.wrap ((n : Int) - 1) = ((n - 1 : Nat) : Int) := zU _ (by omega) (by omega)
  obtain ⟨q,rfl⟩ : ∃ q,n = q + 1 := ⟨n - 1,by omega⟩
  rw [w,Int.toNat_natCast,Nat.add_sub_cancel]
  refine ⟨Int.natCast_nonneg _,by omega,by omega,yE (fun g => ?_) (fun g => ?_)⟩
  ·have g : l.getD q 0 = x := of_decide_eq_true g
   have h3 : kQ x l q = jJ x l := by rw [<- h2]; simp only [kQ,if_pos g]
   exact ⟨Int.natCast_nonneg _,by omega,q,by omega,⟨by omega,h3⟩,rfl,rfl,rfl,rfl,rfl,rfl,trivial⟩
  ·have g : ¬ l.getD q 0 = x := of_decide_eq_false g
   have h3 : kQ x l (q + 1) = q + 1 := by simp only [kQ,if_neg g]
   exact ⟨rfl,rfl,rfl,by rw [<- h2,h3],rfl,trivial⟩
 ·have hp : n = 0 := by have := mR.1 h; omega
  subst hp
  exact ⟨rfl,rfl,rfl,by rw [<- h2]; rfl,rfl,trivial⟩
noncomputable def gr78 (xs : List AV) (bs : List ABlk) : TL := match xs,bs with
 | [.slice 0 0 1 L .ow .unk,.u8 x],[⟨.bytes l,true,1⟩] => .ok ⟨[L = l.length/\l.length < 1099511627776],.slice 0 0 1 (jJ x l) .os .unk,[some (some ⟨.bytes l,true,1⟩)],[]⟩
 | _,_ => .no
noncomputable def q0q : Spec := ⟨[.kp,.kp],J9,fun _ l => l.map fun _ => [],gr78⟩
theorem cr78 : COK Tryz.prog gl0 144 (mkF q0q) := by
 refine yY (fn := Tryz.f144) [] 3000 (by kernel_rfl) (by kernel_rfl) okL30 (by kernel_rfl) (fun args w => by kernel_rfl) fun xs bs r hs ho => ?_
 simp only [q0q,gr78] at hs
 split at hs
 ·simp only [TL.sel,Option.some.injEq] at hs
  subst hs
  have o := zA.1 ho
  exact ⟨_,br78 _ _ _ o.1 o.2⟩
 ·simp [TL.sel] at hs
noncomputable def L31 : Ctx := L30.add 144 (mkF q0q)
theorem okL31 : COKs Tryz.prog gl0 L31 := okL30.add cr78
set_option maxRecDepth 100000 in
theorem vr54 (l : By) (L m : Nat) : bq L31 Tryz.f121 1 [.slice 0 0 1 L .ow .unk,.str [0#8]] [⟨.bytes l,true,1⟩] (r78 l m) = (
@Bool.rec (fun _ => Prop) (0 = 0/\0 = 0/\0 = 0/\m = L/\l = l/\True) (0 < 1/\0 < 1/\(L = List.length l/\List.length l < 1099511627776)/\0 = 0/\0 = 0/\0 = 0/\m = jJ (BitVec.ofNat 8 0) l/\l = l/\True) !decide ((↑L : Int) = (0 : Int)) : Prop) := by kernel_rfl
theorem br54 (l : By) (L : Nat) (hL : L = l.length) (hl : l.length < 1099511627776) : Must (bq L31 Tryz.f121 1 [.slice 0 0 1 L .ow .unk,.str [0#8]] [⟨.bytes l,true,1⟩] (r78 l (jJ 0#8 l))) := by
 constructor
 rw [vr54]
 refine yE (fun h => ?_) (fun h => ?_)
 ·exact ⟨by omega,by omega,⟨hL,hl⟩,rfl,rfl,rfl,rfl,rfl,trivial⟩
 ·have h0 : L = 0 := by simpa using h
  have hz : l.length = 0 := by omega
  refine ⟨rfl,rfl,rfl,?_,rfl,trivial⟩
  unfold jJ
  rw [hz,h0]
  rfl
noncomputable def gr54 (xs : List AV) (bs : List ABlk) : TL := match xs,bs with
 | [.slice 0 0 1 L .ow .unk,.str [0#8]],[⟨.bytes l,true,1⟩] => .ok ⟨[L = l.length/\l.length < 1099511627776],.slice 0 0 1 (jJ 0#8 l) .os .unk,[some (some ⟨.bytes l,true,1⟩)],[]⟩
 | _,_ => .no
noncomputable def n0q : Spec := ⟨[.kp,.kp],J9,fun _ l => l.map fun _ => [],gr54⟩
theorem cr54 : COK Tryz.prog gl0 121 (mkF n0q) := by
 refine yY (fn := Tryz.f121) [] 3000 (by kernel_rfl) (by kernel_rfl) okL31 (by kernel_rfl) (fun args w => by kernel_rfl) fun xs bs r hs ho => ?_
 simp only [n0q,gr54] at hs
 split at hs
 ·simp only [TL.sel,Option.some.injEq] at hs
  subst hs
  have o := zA.1 ho
  exact ⟨_,br54 _ _ o.1 o.2⟩
 ·simp [TL.sel] at hs
noncomputable def L32 : Ctx := L31.add 121 (mkF n0q)
theorem okL32 : COKs Tryz.prog gl0 L32 := okL31.add cr54
set_option maxRecDepth 100000 in
theorem vRo (k iv : F8) (q : BitVec 64) (b M : By) (t : Int) (L : Nat) : bq (L32.withSym [40,48]) Tryz.f100 0 [.agg (yD 32 k++yD 12 iv),.u64 q,.rb false b .unk] [] ⟨[],.tup [.int .i64 t,.slice 0 0 1 L (.kn L) .unk,.int .i64 0],[],[⟨.bytes M,true,1⟩]⟩ = (
let x1 := kV (fun (i : Nat) => (rg 32 k).getD i (0 : BitVec 8)) (fun (i : Nat) => [iv 0,iv 1,iv 2,iv 3,iv 4 ^^^ BitVec.setWidth 8 (q >>> 56),iv 5 ^^^ BitVec.setWidth 8 (q >>> 48),iv 6 ^^^ BitVec.setWidth 8 (q >>> 40),iv 7 ^^^ BitVec.setWidth 8 (q >>> 32),iv 8 ^^^ BitVec.setWidth 8 (q >>> 24),iv 9 ^^^ BitVec.setWidth 8 (q >>> 16),iv 10 ^^^ BitVec.setWidth 8 (q >>> 8),iv 11 ^^^ BitVec.setWidth 8 (q >>> 0)].getD i (0 : BitVec 8)) b [BitVec.ofNat 8 23,BitVec.ofNat 8 3,BitVec.ofNat 8 3,BitVec.ofInt 8 ((↑(List.length b) : Int).fdiv (Int.ofNat 256)),BitVec.ofInt 8 (↑(List.length b) : Int)]; let x2 := IntKind.i64.wrap ((↑(jJ (BitVec.ofNat 8 0) x1) : Int) - (1 : Int)); let x3 := [BitVec.ofNat 8 23,BitVec.ofNat 8 3,BitVec.ofNat 8 3,BitVec.ofInt 8 ((↑(List.length b) : Int).fdiv (Int.ofNat 256)),BitVec.ofInt 8 (↑(List.length b) : Int)]; @Bool.rec (fun _ => Prop) ((0 : Int)<=Int.ofNat 11/\(0 : Int)<=Int.ofNat 0/\(0 : Int)<=Int.ofNat 11/\(0 : Int)<=Int.ofNat 10/\(0 : Int)<=Int.ofNat 8/\(0 : Int)<=Int.ofNat 10/\(0 : Int)<=Int.ofNat 9/\(0 : Int)<=Int.ofNat 16/\(0 : Int)<=Int.ofNat 9/\(0 : Int)<=Int.ofNat 8/\(0 : Int)<=Int.ofNat 24/\(0 : Int)<=Int.ofNat 8/\(0 : Int)<=Int.ofNat 7/\(0 : Int)<=Int.ofNat 32/\(0 : Int)<=Int.ofNat 7/\(0 : Int)<=Int.ofNat 6/\(0 : Int)<=Int.ofNat 40/\(0 : Int)<=Int.ofNat 6/\(0 : Int)<=Int.ofNat 5/\(0 : Int)<=Int.ofNat 48/\(0 : Int)<=Int.ofNat 5/\(0 : Int)<=Int.ofNat 4/\(0 : Int)<=Int.ofNat 56/\(0 : Int)<=Int.ofNat 4/\5 = x3.length/\List.length b + x3.length + 256 < 1099511627776/\@Bool.rec (fun _ => Prop) ((List.length x1 = List.length x1/\List.length x1 < 1099511627776)/\@Bool.rec (fun _ => Prop) False ((0 : Int)<=x2/\x2.toNat < List.length x1/\x2.toNat < List.length x1/\@Bool.rec (fun _ => Prop) False (@Bool.rec (fun _ => Prop) ((0 : Int)<=x2/\x2.toNat < List.length x1/\x2.toNat < List.length x1/\(0 : Int)<=x2/\(0 : Int)<=x2/\x2.toNat<=x2.toNat/\x2.toNat<=List.length x1/\t = (↑(List.getD x1 x2.toNat (0 : BitVec 8)).toNat : Int)/\L = x2.toNat/\0 = 0/\0 = 0/\L = x2.toNat/\(0 : Int) = (0 : Int)/\M = x1/\True) False !decide ((↑(List.getD x1 x2.toNat (0 : BitVec 8)).toNat : Int)<=(23 : Int))) (decide ((20 : Int)<=(↑(List.getD x1 x2.toNat (0 : BitVec 8)).toNat : Int)))) !decide (x2 < (0 : Int))) False !decide (nB (fun (i : Nat) => (rg 32 k).getD i (0 : BitVec 8)) (fun (i : Nat) => [iv 0,iv 1,iv 2,iv 3,iv 4 ^^^ BitVec.setWidth 8 (q >>> 56),iv 5 ^^^ BitVec.setWidth 8 (q >>> 48),iv 6 ^^^ BitVec.setWidth 8 (q >>> 40),iv 7 ^^^ BitVec.setWidth 8 (q >>> 32),iv 8 ^^^ BitVec.setWidth 8 (q >>> 24),iv 9 ^^^ BitVec.setWidth 8 (q >>> 16),iv 10 ^^^ BitVec.setWidth 8 (q >>> 8),iv 11 ^^^ BitVec.setWidth 8 (q >>> 0)].getD i (0 : BitVec 8)) b x3 = (0 : Int))) False (decide ((273 : Int) < (↑(List.length b) : Int))) : Prop) := by kernel_rfl
end Go.Sym
namespace Go.Spec
theorem K6 (k n : F8) (b m : By) : mV (fun i => (rg 32 k).getD i 0) n b m = mV k n b m := by
 unfold mV U4 bV
 simp only [D3]
theorem c1w (k : F8) (c : jW) (n : F8) (b : By) : kY (fun i => (rg 32 k).getD i 0) c n b = kY k c n b := by
 unfold kY C8
 simp only [D3]
theorem n1j (k n : F8) (b m : By) : kV (fun i => (rg 32 k).getD i 0) n b m = kV k n b m := by
 unfold kV
 rw [K6,c1w]
theorem m1j (k n : F8) (b m : By) : nB (fun i => (rg 32 k).getD i 0) n b m = nB k n b m := by
 unfold nB
 rw [K6]
end Go.Spec
namespace Go.Sym
open Go.Proofs Go.Spec
theorem bRo (k iv : F8) (q : BitVec 64) (b x : By) (t : Int) (h1 : 20<=t) (h2 : t<=23) (hx : x.length<=256) (hb : b = bW k iv q t x) : Must (bq (L32.withSym [40,48]) Tryz.f100 0 [.agg (yD 32 k++yD 12 iv),.u64 q,.rb false b .unk] [] ⟨[],.tup [.int .i64 t,.slice 0 0 1 x.length (.kn x.length) .unk,.int .i64 0],[],[⟨.bytes (x++[BitVec.ofInt 8 t]),true,1⟩]⟩) := by
 constructor
 rw [vRo]
 have l2 : (x++[BitVec.ofInt 8 t]).length = x.length + 1 := by simp
 have lb : b.length = x.length + 17 := by rw [hb]; unfold bW; rw [wF,l2]
 have hM : kV k (nonB iv q) b (hdL b.length) = x++[BitVec.ofInt 8 t] := by rw [lb,hb]; exact aT _ _ _ _
 have hE : nB k (nonB iv q) b (hdL b.length) = 0 := by rw [lb,hb]; exact D0 _ _ _ _
 have ht : (BitVec.ofInt 8 t).toNat = t.toNat := by
  rw [BitVec.toNat_ofInt]
  omega
 have hc : BitVec.ofInt 8 t ≠ 0 := by
  intro h
  have := congrArg BitVec.toNat h
  rw [ht] at this
  simp at this
  omega
 have hT : jJ (BitVec.ofNat 8 0) (x++[BitVec.ofInt 8 t]) = x.length + 1 := D4 x _ hc
 have w : IntKind.i64.wrap (((x.length + 1 : Nat) : Int) - 1) = (x.length : Int) := zU _ (by omega) (by omega)
 have hg : List.getD (x++[BitVec.ofInt 8 t]) x.length 0 = BitVec.ofInt 8 t := by simp [List.getD]
 have tt : ((t.toNat : Nat) : Int) = t := by omega
 dsimp only
 rw [n1j,m1j]
 have hM' : kV k (fun i => [iv 0,iv 1,iv 2,iv 3,iv 4 ^^^ BitVec.setWidth 8 (q >>> 56),iv 5 ^^^ BitVec.setWidth 8 (q >>> 48),iv 6 ^^^ BitVec.setWidth 8 (q >>> 40),iv 7 ^^^ BitVec.setWidth 8 (q >>> 32),iv 8 ^^^ BitVec.setWidth 8 (q >>> 24),iv 9 ^^^ BitVec.setWidth 8 (q >>> 16),iv 10 ^^^ BitVec.setWidth 8 (q >>> 8),iv 11 ^^^ BitVec.setWidth 8 (q >>> 0)].getD i 0) b [BitVec.ofNat 8 23,BitVec.ofNat 8 3,BitVec.ofNat 8 3,BitVec.ofInt 8 ((b.length : Int).fdiv (Int.ofNat 256)),BitVec.ofInt 8 (b.length : Int)] = x++[BitVec.ofInt 8 t] := hM
 have hE' : nB k (fun i => [iv 0,iv 1,iv 2,iv 3,iv 4 ^^^ BitVec.setWidth 8 (q >>> 56),iv 5 ^^^ BitVec.setWidth 8 (q >>> 48),iv 6 ^^^ BitVec.setWidth 8 (q >>> 40),iv 7 ^^^ BitVec.setWidth 8 (q >>> 32),iv 8 ^^^ BitVec.setWidth 8 (q >>> 24),iv 9 ^^^ BitVec.setWidth 8 (q >>> 16),iv 10 ^^^ BitVec.setWidth 8 (q >>> 8),iv 11 ^^^ BitVec.setWidth 8 (q >>> 0)].getD i 0) b [BitVec.ofNat 8 23,BitVec.ofNat 8 3,BitVec.ofNat 8 3,BitVec.ofInt 8 ((b.length : Int).fdiv (Int.ofNat 256)),BitVec.ofInt 8 (b.length : Int)] = 0 := hE
 have d1 : decide ((273 : Int) < (b.length : Int)) = false := decide_eq_false (by omega)
 have d2 : decide ((x.length : Int) < 0) = false := decide_eq_false (by omega)
 have d3 : decide ((20 : Int)<=t) = true := decide_eq_true h1
 have d4 : decide (t<=(23 : Int)) = true := decide_eq_true h2
 have d5 : decide ((0 : Int) = 0) = true := decide_eq_true rfl
 rw [hM',hE',hT,w]
 simp only [Int.toNat_natCast,hg,ht,tt,d1,d2,d3,d4,d5,Bool.not_true,Bool.not_false,l2,List.length_cons,List.length_nil,true_and,and_true]
 repeat refine And.intro (by first | omega | exact Int.natCast_nonneg _ | exact ⟨by omega,by omega⟩ | rfl) ?_
 first | trivial | omega | rfl
end Go.Sym
