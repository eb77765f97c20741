/- Numbers modulo p in five limbs: the calls of the program. -/
import Derived.Test.YtknplceohfeamaaGreatDoorAeaB
import Derived.Test.YtknplceohfeamaaGreatDoorSymC
import Derived.Test.YtknplceohfeamaaGreatDoorShaA
import Derived.KernelRfl
import Derived.Test.YtknplceohfeamaaGreatDoorProg
import Derived.Laws.Externs
set_option linter.unusedVariables false
set_option linter.unusedSimpArgs false
namespace Go.Spec
def PZ : Nat := 57896044618658097711785492504343953926634992332820282019728792003956564819949
def vS (x0 x1 x2 x3 x4 : Nat) : Nat := x0 + 2251799813685248 * x1 + 5070602400912917605986812821504 * x2 + 11417981541647679048466287755595961091061972992 * x3 + 25711008708143844408671393477458601640355247900524685364822016 * x4
theorem iE (x0 x1 x2 x3 x4 c0 c1 c2 c3 c4 : Nat) (h0 : c0 = x0 / 2251799813685248) (h1 : c1 = (x1 + c0) / 2251799813685248) (h2 : c2 = (x2 + c1) / 2251799813685248) (h3 : c3 = (x3 + c2) / 2251799813685248) (h4 : c4 = (x4 + c3) / 2251799813685248) :
  vS (x0 % 2251799813685248 + 19 * c4) ((x1 + c0) % 2251799813685248) ((x2 + c1) % 2251799813685248) ((x3 + c2) % 2251799813685248) ((x4 + c3) % 2251799813685248) + PZ * c4 = vS x0 x1 x2 x3 x4 := by
 unfold vS PZ
 omega
end Go.Spec
namespace Go.Spec
theorem e0q (a0 a1 a2 a3 a4 b0 b1 b2 b3 b4 : Nat) :
  vS a0 a1 a2 a3 a4 * vS b0 b1 b2 b3 b4 = vS (a0 * b0 + 19 * (a1 * b4 + a2 * b3 + a3 * b2 + a4 * b1)) (a0 * b1 + a1 * b0 + 19 * (a2 * b4 + a3 * b3 + a4 * b2)) (a0 * b2 + a1 * b1 + a2 * b0 + 19 * (a3 * b4 + a4 * b3)) (a0 * b3 + a1 * b2 + a2 * b1 + a3 * b0 + 19 * (a4 * b4)) (a0 * b4 + a1 * b3 + a2 * b2 + a3 * b1 + a4 * b0)
   + PZ * ((a1 * b4 + a2 * b3 + a3 * b2 + a4 * b1) + 2251799813685248 * (a2 * b4 + a3 * b3 + a4 * b2) + 5070602400912917605986812821504 * (a3 * b4 + a4 * b3) + 11417981541647679048466287755595961091061972992 * (a4 * b4)) := by
 unfold vS PZ
 grind
end Go.Spec
namespace Go.Spec
abbrev N5 := Nat->BitVec 64
def sK (x y : yP) : yP := BitVec.ofNat 64 (x.toNat * y.toNat / 18446744073709551616)
def aV (x y : yP) : yP := BitVec.ofNat 64 (x.toNat * y.toNat)
def U5 (x y c : yP) : yP := BitVec.ofNat 64 ((x.toNat + y.toNat + c.toNat) / 18446744073709551616)
def U6 (x y c : yP) : yP := BitVec.ofNat 64 (x.toNat + y.toNat + c.toNat)
def iF (s : yP × yP) (x y : yP) : yP × yP := (s.1 + (sK x y + U5 s.2 (aV x y) 0),U6 s.2 (aV x y) 0)
theorem h1j (s : yP × yP) (x y : yP) (h : s.1.toNat * 18446744073709551616 + s.2.toNat + x.toNat * y.toNat < 340282366920938463463374607431768211456) :
  (iF s x y).1.toNat * 18446744073709551616 + (iF s x y).2.toNat = s.1.toNat * 18446744073709551616 + s.2.toNat + x.toNat * y.toNat := by
 have h1 := s.1.isLt
 have h2 := s.2.isLt
 generalize hp : x.toNat * y.toNat = p at *
 simp only [iF,sK,aV,U5,U6,BitVec.toNat_add,BitVec.toNat_ofNat,hp]
 have z : (0 : yP).toNat = 0 := rfl
 rw [z]
 omega
def tN (a : N5) (i : Nat) : Nat := (a i).toNat
structure okN (a : N5) : Prop where
 h0 : tN a 0 < 2251799813685312
 h1 : tN a 1 < 2251799813685248
 h2 : tN a 2 < 2251799813685248
 h3 : tN a 3 < 2251799813685248
 h4 : tN a 4 < 2251799813685248
def vN (a : N5) : Nat := vS (tN a 0) (tN a 1) (tN a 2) (tN a 3) (tN a 4)
def eM : yP := 2251799813685247#64
def yB (x : N5) : Nat->yP
 | 0 => 0#64
 | i + 1 => (x i + yB x i) >>> 51
def carL (x : N5) : N5 := fun i => if i = 0 then ((x 0 + yB x 0) &&& eM) + 19#64 * yB x 5 else (x i + yB x i) &&& eM
theorem xY (x : yP) : (x &&& eM).toNat = x.toNat % 2251799813685248 := by
 show (x &&& 2251799813685247#64).toNat = _
 rw [BitVec.toNat_and]
 exact Nat.and_two_pow_sub_one_eq_mod x.toNat 51
theorem kW (x : yP) : (x >>> 51).toNat = x.toNat / 2251799813685248 := by
 rw [BitVec.toNat_ushiftRight,Nat.shiftRight_eq_div_pow]
theorem d0q (x : N5) (m : Nat) (hm : m<=9223372036854775808) (h0 : tN x 0 < m) (h1 : tN x 1 < m) (h2 : tN x 2 < m) (h3 : tN x 3 < m) (h4 : tN x 4 < m) :
  ∃ c,c<=(m + m / 2251799813685248 + 1) / 2251799813685248/\vN (carL x) + PZ * c = vN x/\tN (carL x) 0 < 2251799813685248 + 19 * c/\tN (carL x) 0 = tN x 0 % 2251799813685248 + 19 * c/\tN (carL x) 1 < 2251799813685248/\tN (carL x) 2 < 2251799813685248/\tN (carL x) 3 < 2251799813685248/\tN (carL x) 4 < 2251799813685248 := by
 unfold tN at *
 have o0 : (yB x 0).toNat = 0 := rfl
 have s0 : (x 0 + yB x 0).toNat = (x 0).toNat := by rw [BitVec.toNat_add,o0]; omega
 have o1 : (yB x 1).toNat = (x 0).toNat / 2251799813685248 := by show ((x 0 + yB x 0) >>> 51).toNat = _; rw [kW,s0]
 have s1 : (x 1 + yB x 1).toNat = (x 1).toNat + (yB x 1).toNat := by rw [BitVec.toNat_add,o1]; omega
 have o2 : (yB x 2).toNat = ((x 1).toNat + (yB x 1).toNat) / 2251799813685248 := by show ((x 1 + yB x 1) >>> 51).toNat = _; rw [kW,s1]
 have s2 : (x 2 + yB x 2).toNat = (x 2).toNat + (yB x 2).toNat := by rw [BitVec.toNat_add,o2,o1]; omega
 have o3 : (yB x 3).toNat = ((x 2).toNat + (yB x 2).toNat) / 2251799813685248 := by show ((x 2 + yB x 2) >>> 51).toNat = _; rw [kW,s2]
 have s3 : (x 3 + yB x 3).toNat = (x 3).toNat + (yB x 3).toNat := by rw [BitVec.toNat_add,o3,o2,o1]; omega
 have o4 : (yB x 4).toNat = ((x 3).toNat + (yB x 3).toNat) / 2251799813685248 := by show ((x 3 + yB x 3) >>> 51).toNat = _; rw [kW,s3]
 have s4 : (x 4 + yB x 4).toNat = (x 4).toNat + (yB x 4).toNat := by rw [BitVec.toNat_add,o4,o3,o2,o1]; omega
 have o5 : (yB x 5).toNat = ((x 4).toNat + (yB x 4).toNat) / 2251799813685248 := by show ((x 4 + yB x 4) >>> 51).toNat = _; rw [kW,s4]
 have b1 : (yB x 1).toNat<=m / 2251799813685248 := by rw [o1]; omega
 have b2 : (yB x 2).toNat<=m / 2251799813685248 + 1 := by rw [o2]; omega
 have b3 : (yB x 3).toNat<=m / 2251799813685248 + 1 := by rw [o3]; omega
 have b4 : (yB x 4).toNat<=m / 2251799813685248 + 1 := by rw [o4]; omega
 have b5 : (yB x 5).toNat<=(m + m / 2251799813685248 + 1) / 2251799813685248 := by rw [o5]; omega
 have e0 : (carL x 0).toNat = (x 0).toNat % 2251799813685248 + 19 * (yB x 5).toNat := by
  show (((x 0 + yB x 0) &&& eM) + 19#64 * yB x 5).toNat = _
  rw [BitVec.toNat_add,BitVec.toNat_mul,xY,s0]
  have : (19#64).toNat = 19 := rfl
  rw [this]
  omega
 have e1 : (carL x 1).toNat = ((x 1).toNat + (yB x 1).toNat) % 2251799813685248 := by show ((x 1 + yB x 1) &&& eM).toNat = _; rw [xY,s1]
 have e2 : (carL x 2).toNat = ((x 2).toNat + (yB x 2).toNat) % 2251799813685248 := by show ((x 2 + yB x 2) &&& eM).toNat = _; rw [xY,s2]
 have e3 : (carL x 3).toNat = ((x 3).toNat + (yB x 3).toNat) % 2251799813685248 := by show ((x 3 + yB x 3) &&& eM).toNat = _; rw [xY,s3]
 have e4 : (carL x 4).toNat = ((x 4).toNat + (yB x 4).toNat) % 2251799813685248 := by show ((x 4 + yB x 4) &&& eM).toNat = _; rw [xY,s4]
 refine ⟨(yB x 5).toNat,b5,?_,by omega,e0,by omega,by omega,by omega,by omega⟩
 unfold vN tN
 rw [e0,e1,e2,e3,e4]
 exact iE _ _ _ _ _ _ _ _ _ _ o1 o2 o3 o4 o5
end Go.Spec
namespace Go.Spec
end Go.Spec
namespace Go.Sym
open Go.Proofs Go.Spec
def aW (a b c d e : yP) : N5 := fun i => [a,b,c,d,e].getD i 0
def ag5 (f : N5) : AV := .agg [.u64 (f 0),.u64 (f 1),.u64 (f 2),.u64 (f 3),.u64 (f 4)]
def eP (cs : List AV) (k : N5->TL) : TL := match cs with | [.u64 a,.u64 b,.u64 c,.u64 d,.u64 e] => k (aW a b c d e) | _ => .no
theorem wI {cs : List AV} {k : N5->TL} {r : RL} (h : (eP cs k).sel = some r) : ∃ f,AV.agg cs = agD 5 f/\(k f).sel = some r := by
 unfold eP at h
 split at h
 ·exact ⟨_,rfl,h⟩
 ·simp [TL.sel] at h
noncomputable def V0 : Ctx := L32
theorem okV0 : COKs Tryz.prog gl0 V0 := okL32
def cAdd : lZ := fun h xs fr => match xs with
 | [.u64 x,.u64 y,.u64 c] => .ok ⟨[c.toNat<=1],.tup [.u64 (U6 x y c),.u64 (U5 x y c)],[]⟩
 | _ => .no
theorem eadd : EOK Tryz.prog 256 cAdd := by
 intro M w κ hs h xs vals fr r hr hle hvs hsel hob
 unfold cAdd at hsel
 split at hsel
 ·rename_i x y c
  simp only [T.sel,Option.some.injEq] at hsel
  subst hsel
  have hc := zA.1 hob
  obtain ⟨v1,r1,e1,hv1,v2,r2,e2,hv2,v3,r3,e3,hv3,e4⟩ := hvs
  simp only [VRels] at e4
  subst e4 e3 e2
  obtain rfl : vals = #[v1,v2,v3] := by cases vals; simp_all
  have hv1 : v1 = .int .u64 x.toNat := hv1
  have hv2 : v2 = .int .u64 y.toNat := hv2
  have hv3 : v3 = .int .u64 c.toNat := hv3
  subst hv1 hv2 hv3
  refine ⟨rfl,.tuple #[.int .u64 (U6 x y c).toNat,.int .u64 (U5 x y c).toNat],?_,?_⟩
  ·rw [run_callFunc_extern (e := add64Entry) (fn := Tryz.f256) (by kernel_rfl) (by kernel_rfl) (by kernel_rfl) (by kernel_rfl) (by kernel_rfl)]
   rw [run_add64 _ _ _ (Int.natCast_nonneg _) (Int.natCast_nonneg _) (Int.natCast_nonneg _) (by omega)]
   have h1 := x.isLt
   have h2 := y.isLt
   have a1 : (((U6 x y c).toNat : Nat) : Int) = ((x.toNat : Int) + y.toNat + c.toNat) % 18446744073709551616 := by
    unfold U6; rw [BitVec.toNat_ofNat]; omega
   have a2 : (((U5 x y c).toNat : Nat) : Int) = ((x.toNat : Int) + y.toNat + c.toNat) / 18446744073709551616 := by
    unfold U5; rw [BitVec.toNat_ofNat]; omega
   rw [a1,a2]
   rfl
  ·exact ⟨_,rfl,_,_,rfl,rfl,_,_,rfl,rfl,rfl⟩
 ·simp [T.sel] at hsel
set_option maxRecDepth 100000 in
theorem vmul (x y h l : yP) : bq V0 Tryz.f255 0 [.u64 x,.u64 y] [] ⟨[],.tup [.u64 h,.u64 l],[],[]⟩ = (
h = x >>> 32 * y >>> 32 + (x >>> 32 * (y &&& BitVec.ofNat 64 4294967295) + ((x &&& BitVec.ofNat 64 4294967295) * (y &&& BitVec.ofNat 64 4294967295)) >>> 32) >>> 32 + ((x >>> 32 * (y &&& BitVec.ofNat 64 4294967295) + ((x &&& BitVec.ofNat 64 4294967295) * (y &&& BitVec.ofNat 64 4294967295)) >>> 32 &&& BitVec.ofNat 64 4294967295) + (x &&& BitVec.ofNat 64 4294967295) * y >>> 32) >>> 32/\l = x * y/\True : Prop) := by kernel_rfl
set_option maxRecDepth 100000 in
theorem vcar (x y : N5) : bq V0 Tryz.f257 0 [agD 5 x] [] ⟨[],agD 5 y,[],[]⟩ = (
let x1 := x 2 + (x 1 + (x 0 + BitVec.ofNat 64 0) >>> 51) >>> 51; (0 : Int)<=(0 : Int)/\(0 : Int)<=(0 : Int)/\(0 : Int)<=Int.ofNat 1/\(0 : Int)<=Int.ofNat 1/\(0 : Int)<=Int.ofNat 2/\(0 : Int)<=Int.ofNat 2/\(0 : Int)<=Int.ofNat 3/\(0 : Int)<=Int.ofNat 3/\(0 : Int)<=Int.ofNat 4/\(0 : Int)<=Int.ofNat 4/\y 0 = (x 0 + BitVec.ofNat 64 0 &&& BitVec.ofNat 64 2251799813685247) + BitVec.ofNat 64 19 * (x 4 + (x 3 + x1 >>> 51) >>> 51) >>> 51/\y 1 = x 1 + (x 0 + BitVec.ofNat 64 0) >>> 51 &&& BitVec.ofNat 64 2251799813685247/\y 2 = x1 &&& BitVec.ofNat 64 2251799813685247/\y 3 = x 3 + x1 >>> 51 &&& BitVec.ofNat 64 2251799813685247/\y 4 = x 4 + (x 3 + x1 >>> 51) >>> 51 &&& BitVec.ofNat 64 2251799813685247/\True : Prop) := by kernel_rfl
set_option maxRecDepth 100000 in
theorem vcho (x y z : N5) (b : yP) : bq V0 Tryz.f250 0 [agD 5 x,agD 5 y,.u64 b] [] ⟨[],agD 5 z,[],[]⟩ = (
(0 : Int)<=(0 : Int)/\(0 : Int)<=(0 : Int)/\(0 : Int)<=(0 : Int)/\(0 : Int)<=(0 : Int)/\(0 : Int)<=Int.ofNat 1/\(0 : Int)<=Int.ofNat 1/\(0 : Int)<=Int.ofNat 1/\(0 : Int)<=Int.ofNat 1/\(0 : Int)<=Int.ofNat 2/\(0 : Int)<=Int.ofNat 2/\(0 : Int)<=Int.ofNat 2/\(0 : Int)<=Int.ofNat 2/\(0 : Int)<=Int.ofNat 3/\(0 : Int)<=Int.ofNat 3/\(0 : Int)<=Int.ofNat 3/\(0 : Int)<=Int.ofNat 3/\(0 : Int)<=Int.ofNat 4/\(0 : Int)<=Int.ofNat 4/\(0 : Int)<=Int.ofNat 4/\(0 : Int)<=Int.ofNat 4/\z 0 = x 0 ^^^ (0 : BitVec 64) - b &&& (x 0 ^^^ y 0)/\z 1 = x 1 ^^^ (0 : BitVec 64) - b &&& (x 1 ^^^ y 1)/\z 2 = x 2 ^^^ (0 : BitVec 64) - b &&& (x 2 ^^^ y 2)/\z 3 = x 3 ^^^ (0 : BitVec 64) - b &&& (x 3 ^^^ y 3)/\z 4 = x 4 ^^^ (0 : BitVec 64) - b &&& (x 4 ^^^ y 4)/\True : Prop) := by kernel_rfl
end Go.Sym
namespace Go.Spec
theorem lo32 (x : yP) : (x &&& BitVec.ofNat 64 4294967295).toNat = x.toNat % 4294967296 := by
 rw [BitVec.toNat_and]
 exact Nat.and_two_pow_sub_one_eq_mod x.toNat 32
theorem hi32 (x : yP) : (x >>> 32).toNat = x.toNat / 4294967296 := by
 rw [BitVec.toNat_ushiftRight,Nat.shiftRight_eq_div_pow]
theorem b1w (x y : yP) : x >>> 32 * y >>> 32 + (x >>> 32 * (y &&& BitVec.ofNat 64 4294967295) + ((x &&& BitVec.ofNat 64 4294967295) * (y &&& BitVec.ofNat 64 4294967295)) >>> 32) >>> 32 + ((x >>> 32 * (y &&& BitVec.ofNat 64 4294967295) + ((x &&& BitVec.ofNat 64 4294967295) * (y &&& BitVec.ofNat 64 4294967295)) >>> 32 &&& BitVec.ofNat 64 4294967295) + (x &&& BitVec.ofNat 64 4294967295) * y >>> 32) >>> 32 = sK x y := by
 apply BitVec.eq_of_toNat_eq
 have hx := x.isLt
 have hy := y.isLt
 have b1 : (x &&& BitVec.ofNat 64 4294967295).toNat = x.toNat % 4294967296 := lo32 x
 have b2 : (y &&& BitVec.ofNat 64 4294967295).toNat = y.toNat % 4294967296 := lo32 y
 generalize ha : x.toNat / 4294967296 = a at *
 generalize hb : x.toNat % 4294967296 = b at *
 generalize hc : y.toNat / 4294967296 = c at *
 generalize hd : y.toNat % 4294967296 = d at *
 have ex : x.toNat = a * 4294967296 + b := by omega
 have ey : y.toNat = c * 4294967296 + d := by omega
 have la : a<=4294967295 := by omega
 have lb : b<=4294967295 := by omega
 have lc : c<=4294967295 := by omega
 have ld : d<=4294967295 := by omega
 have pac := Nat.mul_le_mul la lc
 have pad := Nat.mul_le_mul la ld
 have pbc := Nat.mul_le_mul lb lc
 have pbd := Nat.mul_le_mul lb ld
 have xy : x.toNat * y.toNat = a * c * 18446744073709551616 + (a * d + b * c) * 4294967296 + b * d := by
  rw [ex,ey]
  grind
 unfold sK
 rw [xy]
 simp only [BitVec.toNat_add,BitVec.toNat_mul,hi32,lo32,BitVec.toNat_ofNat,b1,b2,ha,hc]
 generalize a * c = p at *
 generalize a * d = q at *
 generalize b * c = r at *
 generalize b * d = s at *
 omega
theorem a1w (x y : yP) : x * y = aV x y := by
 apply BitVec.eq_of_toNat_eq
 unfold aV
 rw [BitVec.toNat_mul,BitVec.toNat_ofNat]
def jK (x y : N5) (b : yP) : N5 := fun i => x i ^^^ (0 - b &&& (x i ^^^ y i))
end Go.Spec
namespace Go.Sym
open Go.Proofs Go.Spec
def gMul (xs : List AV) : TL := match xs with | [.u64 x,.u64 y] => .ok (rt (.tup [.u64 (sK x y),.u64 (aV x y)])) | _ => .no
def gCar (xs : List AV) : TL := match xs with | [.agg cs] => eP cs fun x => .ok (rt (ag5 (carL x))) | _ => .no
def gCho (xs : List AV) : TL := match xs with | [.agg cs,.agg ds,.u64 b] => eP cs fun x => eP ds fun y => .ok (rt (ag5 (jK x y b))) | _ => .no
theorem cmul : COK Tryz.prog gl0 255 (mkF (qL 2 gMul)) := by
 refine yY (fn := Tryz.f255) [] 3000 (by kernel_rfl) (by kernel_rfl) okV0 (by kernel_rfl) (fun args w => by kernel_rfl) fun xs bs r hs ho => ?_
 obtain ⟨rfl,hs0⟩ := yS hs
 clear hs
 rename (TL.sel _ = _) => hs
 unfold gMul at hs
 split at hs
 ·rename_i x y
  simp only [TL.sel,Option.some.injEq] at hs
  subst hs
  refine ⟨[],⟨?_⟩⟩
  show bq V0 Tryz.f255 0 [.u64 x,.u64 y] [] ⟨[],.tup [.u64 (sK x y),.u64 (aV x y)],[],[]⟩
  rw [vmul]
  exact ⟨(b1w x y).symm,(a1w x y).symm,trivial⟩
 ·simp [TL.sel] at hs
theorem ccar : COK Tryz.prog gl0 257 (mkF (qL 1 gCar)) := by
 refine yY (fn := Tryz.f257) [] 3000 (by kernel_rfl) (by kernel_rfl) okV0 (by kernel_rfl) (fun args w => by kernel_rfl) fun xs bs r hs ho => ?_
 obtain ⟨rfl,hs0⟩ := yS hs
 clear hs
 rename (TL.sel _ = _) => hs
 unfold gCar at hs
 split at hs
 ·obtain ⟨x,e,hs⟩ := wI hs
  simp only [TL.sel,Option.some.injEq] at hs
  subst hs
  rw [e]
  refine ⟨[],⟨?_⟩⟩
  show bq V0 Tryz.f257 0 [agD 5 x] [] ⟨[],agD 5 (carL x),[],[]⟩
  rw [vcar]
  intro x1
  and_intros <;> first | decide | rfl | trivial
 ·simp [TL.sel] at hs
theorem ccho : COK Tryz.prog gl0 250 (mkF (qL 3 gCho)) := by
 refine yY (fn := Tryz.f250) [] 3000 (by kernel_rfl) (by kernel_rfl) okV0 (by kernel_rfl) (fun args w => by kernel_rfl) fun xs bs r hs ho => ?_
 obtain ⟨rfl,hs0⟩ := yS hs
 clear hs
 rename (TL.sel _ = _) => hs
 unfold gCho at hs
 split at hs
 ·obtain ⟨x,e,hs⟩ := wI hs
  obtain ⟨y,e2,hs⟩ := wI hs
  rename_i b
  simp only [TL.sel,Option.some.injEq] at hs
  subst hs
  rw [e,e2]
  refine ⟨[],⟨?_⟩⟩
  show bq V0 Tryz.f250 0 [agD 5 x,agD 5 y,.u64 _] [] ⟨[],agD 5 (jK x y _),[],[]⟩
  rw [vcho]
  and_intros <;> first | decide | rfl | trivial
 ·simp [TL.sel] at hs
noncomputable def V1 : Ctx := (((V0.add 256 cAdd).add 255 (mkF (qL 2 gMul))).add 257 (mkF (qL 1 gCar))).add 250 (mkF (qL 3 gCho))
theorem okV1 : COKs Tryz.prog gl0 V1 := (((okV0.add (.inr eadd)).add cmul).add ccar).add ccho
end Go.Sym
namespace Go.Spec
open Go.Sym
def zK (y : N5) (i : Nat) : yP := if i < 5 then 19#64 * y i else y (i - 5)
def rowT (x y : N5) (k : Nat) (s : yP × yP) : yP × yP := iF (iF (iF (iF (iF s (x 0) (zK y (5 + k))) (x 1) (zK y (4 + k))) (x 2) (zK y (3 + k))) (x 3) (zK y (2 + k))) (x 4) (zK y (1 + k))
def vB (s : yP × yP) : yP := s.1 <<< 13 ||| s.2 >>> 51
def yU (x y : N5) : Nat->yP × yP
 | 0 => rowT x y 0 (0,0)
 | k + 1 => rowT x y (k + 1) (0,vB (yU x y k))
def uB (x y : N5) : N5 := fun i => if i = 0 then ((yU x y 0).2 &&& eM) + 19#64 * vB (yU x y 4) else (yU x y i).2 &&& eM
def yK (f : N5) : N5 := aW (f 0) (f 1) (f 2) (f 3) (f 4)
def zF (x y : N5) : N5 := carL (yK (uB x y))
end Go.Spec
namespace Go.Sym
open Go.Proofs Go.Spec
set_option maxRecDepth 100000 in
theorem vtim (x y : N5) : bq V1 Tryz.f200 0 [agD 5 x,agD 5 y] [] ⟨[],agD 5 (zF x y),[],[]⟩ = ((0 : Int)<=(0 : Int)/\(0 : Int)<=(0 : Int)/\(0 : Int)<=Int.ofNat (5 : Nat)/\(0 : Int)<=Int.ofNat (1 : Nat)/\(0 : Int)<=Int.ofNat (1 : Nat)/\(0 : Int)<=Int.ofNat (6 : Nat)/\(0 : Int)<=Int.ofNat (2 : Nat)/\(0 : Int)<=Int.ofNat (2 : Nat)/\(0 : Int)<=Int.ofNat (7 : Nat)/\(0 : Int)<=Int.ofNat (3 : Nat)/\(0 : Int)<=Int.ofNat (3 : Nat)/\(0 : Int)<=Int.ofNat (8 : Nat)/\(0 : Int)<=Int.ofNat (4 : Nat)/\(0 : Int)<=Int.ofNat (4 : Nat)/\(0 : Int)<=Int.ofNat (9 : Nat)/\(0 : Int)<=(0 : Int)/\(0 : Int)<=Int.ofNat (5 : Nat)/\(0 : Nat)<=(1 : Nat)/\(0 : Int)<=Int.ofNat (1 : Nat)/\(0 : Int)<=Int.ofNat (4 : Nat)/\(0 : Nat)<=(1 : Nat)/\(0 : Int)<=Int.ofNat (2 : Nat)/\(0 : Int)<=Int.ofNat (3 : Nat)/\(0 : Nat)<=(1 : Nat)/\(0 : Int)<=Int.ofNat (3 : Nat)/\(0 : Int)<=Int.ofNat (2 : Nat)/\(0 : Nat)<=(1 : Nat)/\(0 : Int)<=Int.ofNat (4 : Nat)/\(0 : Int)<=Int.ofNat (1 : Nat)/\(0 : Nat)<=(1 : Nat)/\(0 : Int)<=(0 : Int)/\(0 : Int)<=(0 : Int)/\(0 : Int)<=Int.ofNat (6 : Nat)/\(0 : Nat)<=(1 : Nat)/\(0 : Int)<=Int.ofNat (1 : Nat)/\(0 : Int)<=Int.ofNat (5 : Nat)/\(0 : Nat)<=(1 : Nat)/\(0 : Int)<=Int.ofNat (2 : Nat)/\(0 : Int)<=Int.ofNat (4 : Nat)/\(0 : Nat)<=(1 : Nat)/\(0 : Int)<=Int.ofNat (3 : Nat)/\(0 : Int)<=Int.ofNat (3 : Nat)/\(0 : Nat)<=(1 : Nat)/\(0 : Int)<=Int.ofNat (4 : Nat)/\(0 : Int)<=Int.ofNat (2 : Nat)/\(0 : Nat)<=(1 : Nat)/\(0 : Int)<=Int.ofNat (1 : Nat)/\(0 : Int)<=(0 : Int)/\(0 : Int)<=Int.ofNat (7 : Nat)/\(0 : Nat)<=(1 : Nat)/\(0 : Int)<=Int.ofNat (1 : Nat)/\(0 : Int)<=Int.ofNat (6 : Nat)/\(0 : Nat)<=(1 : Nat)/\(0 : Int)<=Int.ofNat (2 : Nat)/\(0 : Int)<=Int.ofNat (5 : Nat)/\(0 : Nat)<=(1 : Nat)/\(0 : Int)<=Int.ofNat (3 : Nat)/\(0 : Int)<=Int.ofNat (4 : Nat)/\(0 : Nat)<=(1 : Nat)/\(0 : Int)<=Int.ofNat (4 : Nat)/\(0 : Int)<=Int.ofNat (3 : Nat)/\(0 : Nat)<=(1 : Nat)/\(0 : Int)<=Int.ofNat (2 : Nat)/\(0 : Int)<=(0 : Int)/\(0 : Int)<=Int.ofNat (8 : Nat)/\(0 : Nat)<=(1 : Nat)/\(0 : Int)<=Int.ofNat (1 : Nat)/\(0 : Int)<=Int.ofNat (7 : Nat)/\(0 : Nat)<=(1 : Nat)/\(0 : Int)<=Int.ofNat (2 : Nat)/\(0 : Int)<=Int.ofNat (6 : Nat)/\(0 : Nat)<=(1 : Nat)/\(0 : Int)<=Int.ofNat (3 : Nat)/\(0 : Int)<=Int.ofNat (5 : Nat)/\(0 : Nat)<=(1 : Nat)/\(0 : Int)<=Int.ofNat (4 : Nat)/\(0 : Int)<=Int.ofNat (4 : Nat)/\(0 : Nat)<=(1 : Nat)/\(0 : Int)<=Int.ofNat (3 : Nat)/\(0 : Int)<=(0 : Int)/\(0 : Int)<=Int.ofNat (9 : Nat)/\(0 : Nat)<=(1 : Nat)/\(0 : Int)<=Int.ofNat (1 : Nat)/\(0 : Int)<=Int.ofNat (8 : Nat)/\(0 : Nat)<=(1 : Nat)/\(0 : Int)<=Int.ofNat (2 : Nat)/\(0 : Int)<=Int.ofNat (7 : Nat)/\(0 : Nat)<=(1 : Nat)/\(0 : Int)<=Int.ofNat (3 : Nat)/\(0 : Int)<=Int.ofNat (6 : Nat)/\(0 : Nat)<=(1 : Nat)/\(0 : Int)<=Int.ofNat (4 : Nat)/\(0 : Int)<=Int.ofNat (5 : Nat)/\(0 : Nat)<=(1 : Nat)/\(0 : Int)<=Int.ofNat (4 : Nat)/\zF x y 0 = zF x y 0/\zF x y 1 = zF x y 1/\zF x y 2 = zF x y 2/\zF x y 3 = zF x y 3/\zF x y 4 = zF x y 4/\True : Prop) := by kernel_rfl
set_option maxRecDepth 100000 in
theorem vplus (x y z : N5) : bq V1 Tryz.f251 0 [agD 5 x,agD 5 y] [] ⟨[],agD 5 z,[],[]⟩ = (
let x1 := fun (i : Nat) => [x 0 + y 0,x 1 + y 1,x 2 + y 2,x 3 + y 3,x 4 + y 4].getD i (0 : yP); (0 : Int)<=(0 : Int)/\(0 : Int)<=(0 : Int)/\(0 : Int)<=(0 : Int)/\(0 : Int)<=Int.ofNat 1/\(0 : Int)<=Int.ofNat 1/\(0 : Int)<=Int.ofNat 1/\(0 : Int)<=Int.ofNat 2/\(0 : Int)<=Int.ofNat 2/\(0 : Int)<=Int.ofNat 2/\(0 : Int)<=Int.ofNat 3/\(0 : Int)<=Int.ofNat 3/\(0 : Int)<=Int.ofNat 3/\(0 : Int)<=Int.ofNat 4/\(0 : Int)<=Int.ofNat 4/\(0 : Int)<=Int.ofNat 4/\z 0 = carL x1 0/\z 1 = carL x1 1/\z 2 = carL x1 2/\z 3 = carL x1 3/\z 4 = carL x1 4/\True : Prop) := by kernel_rfl
set_option maxRecDepth 100000 in
theorem vmin (x y z : N5) : bq V1 Tryz.f252 0 [agD 5 x,agD 5 y] [] ⟨[],agD 5 z,[],[]⟩ = (
let x1 := fun (i : Nat) => [x 0 + (BitVec.ofNat 64 4503599627370458 - y 0),x 1 + (BitVec.ofNat 64 4503599627370494 - y 1),x 2 + (BitVec.ofNat 64 4503599627370494 - y 2),x 3 + (BitVec.ofNat 64 4503599627370494 - y 3),x 4 + (BitVec.ofNat 64 4503599627370494 - y 4)].getD i (0 : yP); (0 : Int)<=(0 : Int)/\(0 : Int)<=(0 : Int)/\(0 : Int)<=(0 : Int)/\(0 : Int)<=Int.ofNat 1/\(0 : Int)<=Int.ofNat 1/\(0 : Int)<=Int.ofNat 1/\(0 : Int)<=Int.ofNat 2/\(0 : Int)<=Int.ofNat 2/\(0 : Int)<=Int.ofNat 2/\(0 : Int)<=Int.ofNat 3/\(0 : Int)<=Int.ofNat 3/\(0 : Int)<=Int.ofNat 3/\(0 : Int)<=Int.ofNat 4/\(0 : Int)<=Int.ofNat 4/\(0 : Int)<=Int.ofNat 4/\z 0 = carL x1 0/\z 1 = carL x1 1/\z 2 = carL x1 2/\z 3 = carL x1 3/\z 4 = carL x1 4/\True : Prop) := by kernel_rfl
set_option maxRecDepth 100000 in
theorem vlea (x z : N5) : bq V1 Tryz.f254 0 [agD 5 x] [] ⟨[],agD 5 z,[],[]⟩ = (
let x1 := fun (i : Nat) => [x 0,x 1,x 2,x 3,x 4].getD i (0 : yP); let x2 := fun (i : Nat) => [carL x1 0 + BitVec.ofNat 64 19 &&& BitVec.ofNat 64 2251799813685247,carL x1 1 + (carL x1 0 + BitVec.ofNat 64 19) >>> 51 &&& BitVec.ofNat 64 2251799813685247,carL x1 2 + (carL x1 1 + (carL x1 0 + BitVec.ofNat 64 19) >>> 51) >>> 51 &&& BitVec.ofNat 64 2251799813685247,carL x1 3 + (carL x1 2 + (carL x1 1 + (carL x1 0 + BitVec.ofNat 64 19) >>> 51) >>> 51) >>> 51 &&& BitVec.ofNat 64 2251799813685247,carL x1 4 + (carL x1 3 + (carL x1 2 + (carL x1 1 + (carL x1 0 + BitVec.ofNat 64 19) >>> 51) >>> 51) >>> 51) >>> 51 &&& BitVec.ofNat 64 2251799813685247].getD i (0 : yP); let x3 := (carL x1 4 + (carL x1 3 + (carL x1 2 + (carL x1 1 + (carL x1 0 + BitVec.ofNat 64 19) >>> 51) >>> 51) >>> 51) >>> 51) >>> 51; let x4 := fun (i : Nat) => [carL x1 0,carL x1 1,carL x1 2,carL x1 3,carL x1 4].getD i (0 : yP); (0 : Int)<=Int.ofNat 1/\(0 : Int)<=(0 : Int)/\(0 : Int)<=Int.ofNat 1/\(0 : Int)<=(0 : Int)/\(0 : Int)<=(0 : Int)/\(0 : Int)<=Int.ofNat 2/\(0 : Int)<=Int.ofNat 1/\(0 : Int)<=Int.ofNat 2/\(0 : Int)<=Int.ofNat 1/\(0 : Int)<=Int.ofNat 1/\(0 : Int)<=Int.ofNat 3/\(0 : Int)<=Int.ofNat 2/\(0 : Int)<=Int.ofNat 3/\(0 : Int)<=Int.ofNat 2/\(0 : Int)<=Int.ofNat 2/\(0 : Int)<=Int.ofNat 4/\(0 : Int)<=Int.ofNat 3/\(0 : Int)<=Int.ofNat 4/\(0 : Int)<=Int.ofNat 3/\(0 : Int)<=Int.ofNat 3/\z 0 = jK x4 x2 x3 0/\z 1 = jK x4 x2 x3 1/\z 2 = jK x4 x2 x3 2/\z 3 = jK x4 x2 x3 3/\z 4 = jK x4 x2 x3 4/\True : Prop) := by kernel_rfl
set_option maxRecDepth 100000 in
theorem vcla (x z : F8) : bq V1 Tryz.f195 0 [aggB 32 x] [] ⟨[],aggB 32 z,[],[]⟩ = (
z 0 = x 0 &&& BitVec.ofNat 8 248/\zG (fun (i : Nat) => z i = x i) 1 30 (z 31 = x 31 &&& BitVec.ofNat 8 127 ||| BitVec.ofNat 8 64/\True) : Prop) := by kernel_rfl
end Go.Sym
namespace Go.Spec
def mnO (x y : N5) : N5 := fun i => x i + ((if i = 0 then 4503599627370458#64 else 4503599627370494#64) - y i)
def jE (x : N5) : Nat->yP
 | 0 => x 0 + 19#64
 | i + 1 => x (i + 1) + jE x i >>> 51
def yW (x : N5) : N5 := jK (yK (carL (yK x))) (yK fun i => jE (carL (yK x)) i &&& eM) (jE (carL (yK x)) 4 >>> 51)
def xS (x y : N5) : N5 := carL (yK fun i => x i + y i)
def xU (x y : N5) : N5 := carL (yK (mnO x y))
def claL (s : F8) : F8 := fun i => if i = 0 then s 0 &&& BitVec.ofNat 8 248 else if i = 31 then s 31 &&& BitVec.ofNat 8 127 ||| BitVec.ofNat 8 64 else s i
end Go.Spec
namespace Go.Sym
open Go.Proofs Go.Spec
def gPls (xs : List AV) : TL := match xs with | [.agg cs,.agg ds] => eP cs fun x => eP ds fun y => .ok (rt (ag5 (xS x y))) | _ => .no
def gMns (xs : List AV) : TL := match xs with | [.agg cs,.agg ds] => eP cs fun x => eP ds fun y => .ok (rt (ag5 (xU x y))) | _ => .no
def gTim (xs : List AV) : TL := match xs with | [.agg cs,.agg ds] => eP cs fun x => eP ds fun y => .ok (rt (ag5 (zF x y))) | _ => .no
def gLea (xs : List AV) : TL := match xs with | [.agg cs] => eP cs fun x => .ok (rt (ag5 (yW x))) | _ => .no
def gCla (xs : List AV) : TL := match xs with | [.agg cs] => bE 32 cs fun x => .ok (rt (aggB 32 (claL x))) | _ => .no
theorem bpls (x y : N5) : Must (bq V1 Tryz.f251 0 [agD 5 x,agD 5 y] [] ⟨[],agD 5 (xS x y),[],[]⟩) := by
 constructor
 rw [vplus]
 intro x1
 and_intros <;> first | decide | rfl | trivial
theorem bmns (x y : N5) : Must (bq V1 Tryz.f252 0 [agD 5 x,agD 5 y] [] ⟨[],agD 5 (xU x y),[],[]⟩) := by
 constructor
 rw [vmin]
 intro x1
 and_intros <;> first | decide | rfl | trivial
theorem btim (x y : N5) : Must (bq V1 Tryz.f200 0 [agD 5 x,agD 5 y] [] ⟨[],agD 5 (zF x y),[],[]⟩) := by
 constructor
 rw [vtim]
 and_intros <;> first | exact rfl | decide | trivial
theorem blea (x : N5) : Must (bq V1 Tryz.f254 0 [agD 5 x] [] ⟨[],agD 5 (yW x),[],[]⟩) := by
 constructor
 rw [vlea]
 intro x1 x2 x3 x4
 and_intros <;> first | exact trivial | decide | rfl
theorem bcla (x : F8) : Must (bq V1 Tryz.f195 0 [aggB 32 x] [] ⟨[],aggB 32 (claL x),[],[]⟩) := by
 constructor
 rw [vcla]
 refine ⟨rfl,wQ _ _ (fun j h1 h2 => ?_) ⟨rfl,trivial⟩⟩
 unfold claL
 rw [if_neg (by omega),if_neg (by omega)]
theorem cpls : COK Tryz.prog gl0 251 (mkF (qL 2 gPls)) := by
 refine yY (fn := Tryz.f251) [] 3000 (by kernel_rfl) (by kernel_rfl) okV1 (by kernel_rfl) (fun args w => by kernel_rfl) fun xs bs r hs ho => ?_
 obtain ⟨rfl,hs0⟩ := yS hs
 clear hs
 rename (TL.sel _ = _) => hs
 unfold gPls at hs
 split at hs
 ·obtain ⟨x,e,hs⟩ := wI hs
  obtain ⟨y,e2,hs⟩ := wI hs
  simp only [TL.sel,Option.some.injEq] at hs
  subst hs
  rw [e,e2]
  exact ⟨[],bpls x y⟩
 ·simp [TL.sel] at hs
theorem cmns : COK Tryz.prog gl0 252 (mkF (qL 2 gMns)) := by
 refine yY (fn := Tryz.f252) [] 3000 (by kernel_rfl) (by kernel_rfl) okV1 (by kernel_rfl) (fun args w => by kernel_rfl) fun xs bs r hs ho => ?_
 obtain ⟨rfl,hs0⟩ := yS hs
 clear hs
 rename (TL.sel _ = _) => hs
 unfold gMns at hs
 split at hs
 ·obtain ⟨x,e,hs⟩ := wI hs
  obtain ⟨y,e2,hs⟩ := wI hs
  simp only [TL.sel,Option.some.injEq] at hs
  subst hs
  rw [e,e2]
  exact ⟨[],bmns x y⟩
 ·simp [TL.sel] at hs
theorem ctim : COK Tryz.prog gl0 200 (mkF (qL 2 gTim)) := by
 refine yY (fn := Tryz.f200) [] 3000 (by kernel_rfl) (by kernel_rfl) okV1 (by kernel_rfl) (fun args w => by kernel_rfl) fun xs bs r hs ho => ?_
 obtain ⟨rfl,hs0⟩ := yS hs
 clear hs
 rename (TL.sel _ = _) => hs
 unfold gTim at hs
 split at hs
 ·obtain ⟨x,e,hs⟩ := wI hs
  obtain ⟨y,e2,hs⟩ := wI hs
  simp only [TL.sel,Option.some.injEq] at hs
  subst hs
  rw [e,e2]
  exact ⟨[],btim x y⟩
 ·simp [TL.sel] at hs
theorem clea : COK Tryz.prog gl0 254 (mkF (qL 1 gLea)) := by
 refine yY (fn := Tryz.f254) [] 3000 (by kernel_rfl) (by kernel_rfl) okV1 (by kernel_rfl) (fun args w => by kernel_rfl) fun xs bs r hs ho => ?_
 obtain ⟨rfl,hs0⟩ := yS hs
 clear hs
 rename (TL.sel _ = _) => hs
 unfold gLea at hs
 split at hs
 ·obtain ⟨x,e,hs⟩ := wI hs
  simp only [TL.sel,Option.some.injEq] at hs
  subst hs
  rw [e]
  exact ⟨[],blea x⟩
 ·simp [TL.sel] at hs
theorem ccla : COK Tryz.prog gl0 195 (mkF (qL 1 gCla)) := by
 refine yY (fn := Tryz.f195) [] 3000 (by kernel_rfl) (by kernel_rfl) okV1 (by kernel_rfl) (fun args w => by kernel_rfl) fun xs bs r hs ho => ?_
 obtain ⟨rfl,hs0⟩ := yS hs
 clear hs
 rename (TL.sel _ = _) => hs
 unfold gCla at hs
 split at hs
 ·obtain ⟨x,e,hs⟩ := yZ hs
  simp only [TL.sel,Option.some.injEq] at hs
  subst hs
  rw [e]
  exact ⟨[],bcla x⟩
 ·simp [TL.sel] at hs
noncomputable def V2 : Ctx := ((((V1.add 251 (mkF (qL 2 gPls))).add 252 (mkF (qL 2 gMns))).add 200 (mkF (qL 2 gTim))).add 254 (mkF (qL 1 gLea))).add 195 (mkF (qL 1 gCla))
theorem okV2 : COKs Tryz.prog gl0 V2 := ((((okV1.add cpls).add cmns).add ctim).add clea).add ccla
noncomputable def V3 : Ctx := V2.exe Tryz.prog gl0 [] 3000 Tryz.f253.params.size 253 Tryz.f253
theorem okV3 : COKs Tryz.prog gl0 V3 := okV2.exe [] 3000 _ (by kernel_rfl) (by kernel_rfl) (by kernel_rfl) (fun args w => by kernel_rfl)
end Go.Sym
