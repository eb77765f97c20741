/- What a server and a peer do, and what comes of it, by names. -/
import Derived.Test.YtknplceohfeamaaGreatDoorGrC
import Derived.Test.YtknplceohfeamaaGreatDoorKeyB
import Derived.Test.YtknplceohfeamaaGreatDoorKeyA
set_option linter.unusedVariables false
set_option linter.unusedSimpArgs false
namespace Go.Sym
open Go.Proofs Go.Spec
noncomputable def Y4_1 : Ctx := (exeS Tryz.prog gl0 3000 [(97,Tryz.f97),(68,Tryz.f68),(39,Tryz.f39)] (Y3s.add 70 (mkF (uN clA)))).add 70 (mkF { uN clA with G := sQ })
theorem okY4_1 : COKs Tryz.prog gl0 Y4_1 := ((okY3s.add cClo).exeS 3000 (by kernel_rfl) _ (by kernel_rfl) (by kernel_rfl)).add k1v
noncomputable def Y4_2 : Ctx := Y4_1.exeR Tryz.prog gl0 3000 46 Tryz.f46
theorem okY4_2 : COKs Tryz.prog gl0 Y4_2 := okY4_1.exeRn 3000 (by kernel_rfl) (by kernel_rfl) (by kernel_rfl) (by kernel_rfl)
noncomputable def Y4_3 : Ctx := Y4_2.exeR Tryz.prog gl0 3000 107 Tryz.f107
theorem okY4_3 : COKs Tryz.prog gl0 Y4_3 := okY4_2.exeRn 3000 (by kernel_rfl) (by kernel_rfl) (by kernel_rfl) (by kernel_rfl)
noncomputable def Y4_4 : Ctx := exeS Tryz.prog gl0 3000 [(108,Tryz.f108),(212,Tryz.f212),(261,Tryz.f261),(293,Tryz.f293),(260,Tryz.f260),(211,Tryz.f211),(264,Tryz.f264),(214,Tryz.f214),(263,Tryz.f263),(294,Tryz.f294),(262,Tryz.f262),(213,Tryz.f213),(216,Tryz.f216),(266,Tryz.f266),(295,Tryz.f295),(265,Tryz.f265),(215,Tryz.f215),(218,Tryz.f218),(268,Tryz.f268),(296,Tryz.f296),(267,Tryz.f267),(217,Tryz.f217),(166,Tryz.f166),(219,Tryz.f219),(220,Tryz.f220),(223,Tryz.f223),(221,Tryz.f221),(222,Tryz.f222),(224,Tryz.f224),(167,Tryz.f167),(133,Tryz.f133),(109,Tryz.f109)] Y4_3
theorem n2z : COKs Tryz.prog gl0 Y4_4 := okY4_3.exeS 3000 (by kernel_rfl) _ (by kernel_rfl) (by kernel_rfl)
noncomputable def Y4_5 : Ctx := Y4_4
theorem okY4_5 : COKs Tryz.prog gl0 Y4_5 := n2z
noncomputable def Y4_6 : Ctx := Y4_5.exeK Tryz.prog gl0 3000 [.by0] 137 Tryz.f137
theorem okY4_6 : COKs Tryz.prog gl0 Y4_6 := okY4_5.exeK 3000 _ (by kernel_rfl) (by kernel_rfl) (by kernel_rfl) (by kernel_rfl)
noncomputable def Y4_7 : Ctx := Y4_6.exeK Tryz.prog gl0 3000 [.by0,.by0] 111 Tryz.f111
theorem okY4_7 : COKs Tryz.prog gl0 Y4_7 := okY4_6.exeK 3000 _ (by kernel_rfl) (by kernel_rfl) (by kernel_rfl) (by kernel_rfl)
noncomputable def Y4_8 : Ctx := exeS Tryz.prog gl0 3000 [(85,Tryz.f85)] Y4_7
theorem okY4_8 : COKs Tryz.prog gl0 Y4_8 := okY4_7.exeS 3000 (by kernel_rfl) _ (by kernel_rfl) (by kernel_rfl)
noncomputable def Y4_9 : Ctx := (exeS Tryz.prog gl0 3000 [(55,Tryz.f55)] (Y4_8.withFrz [(22,[.by8])])).withFrz []
theorem m2z : COKs Tryz.prog gl0 Y4_9 := ((okY4_8.withFrz _).exeS 3000 (by kernel_rfl) _ (by kernel_rfl) (by kernel_rfl)).withFrz []
noncomputable def Y4 : Ctx := Y4_9
theorem okY4 : COKs Tryz.prog gl0 Y4 := m2z
set_option maxRecDepth 100000 in
theorem vRn (n : BitVec 8) (f : F8) : bq N8 Tryz.f28 0 [.u8 n] [] ⟨[],aggB 64 f,[],[]⟩ = (
(0 : Int)<=(0 : Int)/\zG (fun (i : Nat) => (0 : Int)<=Int.ofNat i) 1 63 (f 0 = n + BitVec.ofNat 8 0/\f 1 = n + BitVec.ofNat 8 3/\f 2 = n + BitVec.ofNat 8 6/\f 3 = n + BitVec.ofNat 8 9/\f 4 = n + BitVec.ofNat 8 12/\f 5 = n + BitVec.ofNat 8 15/\f 6 = n + BitVec.ofNat 8 18/\f 7 = n + BitVec.ofNat 8 21/\f 8 = n + BitVec.ofNat 8 24/\f 9 = n + BitVec.ofNat 8 27/\f 10 = n + BitVec.ofNat 8 30/\f 11 = n + BitVec.ofNat 8 33/\f 12 = n + BitVec.ofNat 8 36/\f 13 = n + BitVec.ofNat 8 39/\f 14 = n + BitVec.ofNat 8 42/\f 15 = n + BitVec.ofNat 8 45/\f 16 = n + BitVec.ofNat 8 48/\f 17 = n + BitVec.ofNat 8 51/\f 18 = n + BitVec.ofNat 8 54/\f 19 = n + BitVec.ofNat 8 57/\f 20 = n + BitVec.ofNat 8 60/\f 21 = n + BitVec.ofNat 8 63/\f 22 = n + BitVec.ofNat 8 66/\f 23 = n + BitVec.ofNat 8 69/\f 24 = n + BitVec.ofNat 8 72/\f 25 = n + BitVec.ofNat 8 75/\f 26 = n + BitVec.ofNat 8 78/\f 27 = n + BitVec.ofNat 8 81/\f 28 = n + BitVec.ofNat 8 84/\f 29 = n + BitVec.ofNat 8 87/\f 30 = n + BitVec.ofNat 8 90/\f 31 = n + BitVec.ofNat 8 93/\f 32 = n + BitVec.ofNat 8 96/\f 33 = n + BitVec.ofNat 8 99/\f 34 = n + BitVec.ofNat 8 102/\f 35 = n + BitVec.ofNat 8 105/\f 36 = n + BitVec.ofNat 8 108/\f 37 = n + BitVec.ofNat 8 111/\f 38 = n + BitVec.ofNat 8 114/\f 39 = n + BitVec.ofNat 8 117/\f 40 = n + BitVec.ofNat 8 120/\f 41 = n + BitVec.ofNat 8 123/\f 42 = n + BitVec.ofNat 8 126/\f 43 = n + BitVec.ofNat 8 129/\f 44 = n + BitVec.ofNat 8 132/\f 45 = n + BitVec.ofNat 8 135/\f 46 = n + BitVec.ofNat 8 138/\f 47 = n + BitVec.ofNat 8 141/\f 48 = n + BitVec.ofNat 8 144/\f 49 = n + BitVec.ofNat 8 147/\f 50 = n + BitVec.ofNat 8 150/\f 51 = n + BitVec.ofNat 8 153/\f 52 = n + BitVec.ofNat 8 156/\f 53 = n + BitVec.ofNat 8 159/\f 54 = n + BitVec.ofNat 8 162/\f 55 = n + BitVec.ofNat 8 165/\f 56 = n + BitVec.ofNat 8 168/\f 57 = n + BitVec.ofNat 8 171/\f 58 = n + BitVec.ofNat 8 174/\f 59 = n + BitVec.ofNat 8 177/\f 60 = n + BitVec.ofNat 8 180/\f 61 = n + BitVec.ofNat 8 183/\f 62 = n + BitVec.ofNat 8 186/\f 63 = n + BitVec.ofNat 8 189/\True) : Prop) := by kernel_rfl
set_option maxRecDepth 100000 in
theorem vAll  : bq N8 Tryz.f12 0 [] [] ⟨[],.slice 0 0 1 60 .ow (.is false),[],[⟨.cells (List.replicate 60 (.int .i64 64)),true,1⟩]⟩ = (
zG (fun (i : Nat) => zD i 1 8) 0 60 (Bool.false = Bool.false/\0 = 0/\0 = 0/\0 = 0/\60 = 60/\zG (fun (i : Nat) => (64 : Int) = (64 : Int)) 0 60 True) : Prop) := by kernel_rfl
end Go.Sym
namespace Go.Spec
def rnd0 (n : BitVec 8) : F8 := fun i => n + BitVec.ofNat 8 (3 * i)
noncomputable def zX (n : BitVec 8) : F8 := mQ (rnd0 n)
theorem Q5 (n : BitVec 8) : zX n = rnd0 n := vQ _
theorem m1z (n : BitVec 8) (h0 : zX n 0 = 207#8) : zX n 1 ≠ 33#8 := by
 rw [Q5] at h0 ⊢
 intro h1
 have h0 : n + 0#8 = 207#8 := h0
 have h1 : n + 3#8 = 33#8 := h1
 have e : n = 207#8 := by rw [<- h0]; exact (BitVec.add_zero n).symm
 rw [e] at h1
 exact absurd h1 (by decide)
end Go.Spec
namespace Go.Sym
open Go.Proofs Go.Spec
theorem sT {p : Nat->Prop} {n s : Nat} {r : Prop} (h : ∀ i,p i) (hr : r) : zG p s n r := zS (fun i _ _ => h i) hr
set_option maxRecDepth 100000 in
theorem bRn (n : BitVec 8) : Must (bq N8 Tryz.f28 0 [.u8 n] [] ⟨[],aggB 64 (zX n),[],[]⟩) := by
 constructor
 rw [vRn,Q5]
 refine ⟨by omega,sT (fun i => Int.natCast_nonneg _) ?_⟩
 repeat refine And.intro rfl ?_
 first | rfl | trivial
theorem bAll : Must (bq N8 Tryz.f12 0 [] [] ⟨[],.slice 0 0 1 60 .ow (.is false),[],[⟨.cells (List.replicate 60 (.int .i64 64)),true,1⟩]⟩) := by
 constructor
 rw [vAll]
 exact zS (fun i _ h => by unfold zD; omega) ⟨rfl,rfl,rfl,rfl,rfl,sT (fun _ => rfl) trivial⟩
noncomputable def gRn (xs : List AV) (bs : List ABlk) : TL := match xs,bs with
 | [.u8 n],[] => .ok ⟨[],aggB 64 (zX n),[],[]⟩
 | _,_ => .no
theorem cRn : COK Tryz.prog gl0 28 (mkF ⟨[.kp],fun _ _ => [],fun _ _ => [],gRn⟩) := by
 refine yY (fn := Tryz.f28) [] 3000 (by kernel_rfl) (by kernel_rfl) okN8 (by kernel_rfl) (fun args w => by kernel_rfl) fun xs bs r hs ho => ?_
 simp only [gRn] at hs
 split at hs
 ·cases hs; exact ⟨_,bRn _⟩
 ·cases hs
def gAl (xs : List AV) (bs : List ABlk) : TL := match xs,bs with
 | [],[] => .ok ⟨[],.slice 0 0 1 60 .ow (.is false),[],[⟨.cells (List.replicate 60 (.int .i64 64)),true,1⟩]⟩
 | _,_ => .no
theorem cAl : COK Tryz.prog gl0 12 (mkF ⟨[],fun _ _ => [],fun _ _ => [],gAl⟩) := by
 refine yY (fn := Tryz.f12) [] 3000 (by kernel_rfl) (by kernel_rfl) okN8 (by kernel_rfl) (fun args w => by kernel_rfl) fun xs bs r hs ho => ?_
 simp only [gAl] at hs
 split at hs
 ·cases hs; exact ⟨_,bAll⟩
 ·cases hs
noncomputable def Y5 (S : F8) (x : By) (t : Int) : Ctx := (((Y4.add 28 (mkF ⟨[.kp],fun _ _ => [],fun _ _ => [],gRn⟩)).add 12 (mkF ⟨[],fun _ _ => [],fun _ _ => [],gAl⟩)).add 161 (mkF (qL 2 (gShd S)))).add 100 (mkF ⟨[.kp,.kp,.by0],fun _ _ => [],fun _ _ => [],skOp x t⟩)
theorem okY5 (S : F8) (x : By) (t : Int) : COKs Tryz.prog gl0 (Y5 S x t) := (((okY4.add cRn).add cAl).add (cShd S)).add (u1v x t)
noncomputable def Y5_1 (S : F8) (x : By) (t : Int) : Ctx := exeS Tryz.prog gl0 3000 [] (Y5 S x t)
theorem h2z (S : F8) (x : By) (t : Int) : COKs Tryz.prog gl0 (Y5_1 S x t) := (okY5 S x t).exeS 3000 (by kernel_rfl) _ (by kernel_rfl) (by kernel_rfl)
noncomputable def Y5_2 (S : F8) (x : By) (t : Int) : Ctx := (exeS Tryz.prog gl0 3000 [(51,Tryz.f51)] ((Y5_1 S x t).withFrz [(21,[.by8])])).withFrz []
theorem g2z (S : F8) (x : By) (t : Int) : COKs Tryz.prog gl0 (Y5_2 S x t) := (((h2z S x t).withFrz _).exeS 3000 (by kernel_rfl) _ (by kernel_rfl) (by kernel_rfl)).withFrz []
noncomputable def Y5_3 (S : F8) (x : By) (t : Int) : Ctx := exeS Tryz.prog gl0 3000 [(80,Tryz.f80),(78,Tryz.f78),(79,Tryz.f79),(81,Tryz.f81),(82,Tryz.f82)] (Y5_2 S x t)
theorem f2z (S : F8) (x : By) (t : Int) : COKs Tryz.prog gl0 (Y5_3 S x t) := (g2z S x t).exeS 3000 (by kernel_rfl) _ (by kernel_rfl) (by kernel_rfl)
noncomputable def Y5_4 (S : F8) (x : By) (t : Int) : Ctx := (Y5_3 S x t).exeK Tryz.prog gl0 3000 [.by0] 101 Tryz.f101
theorem e2z (S : F8) (x : By) (t : Int) : COKs Tryz.prog gl0 (Y5_4 S x t) := (f2z S x t).exeK 3000 _ (by kernel_rfl) (by kernel_rfl) (by kernel_rfl) (by kernel_rfl)
noncomputable def Y5_5 (S : F8) (x : By) (t : Int) : Ctx := exeS Tryz.prog gl0 3000 [(156,Tryz.f156),(247,Tryz.f247),(192,Tryz.f192),(158,Tryz.f158),(159,Tryz.f159)] (Y5_4 S x t)
theorem d2z (S : F8) (x : By) (t : Int) : COKs Tryz.prog gl0 (Y5_5 S x t) := (e2z S x t).exeS 3000 (by kernel_rfl) _ (by kernel_rfl) (by kernel_rfl)
noncomputable def Y5_7 (S : F8) (x : By) (t : Int) : Ctx := exeS Tryz.prog gl0 3000 [(194,Tryz.f194)] (Y5_5 S x t)
theorem c2z (S : F8) (x : By) (t : Int) : COKs Tryz.prog gl0 (Y5_7 S x t) := (d2z S x t).exeS 3000 (by kernel_rfl) _ (by kernel_rfl) (by kernel_rfl)
noncomputable def Y5_8 (S : F8) (x : By) (t : Int) : Ctx := (exeS Tryz.prog gl0 3000 [(160,Tryz.f160)] ((Y5_7 S x t).withFrz [(22,[.by8])])).withFrz []
theorem b2z (S : F8) (x : By) (t : Int) : COKs Tryz.prog gl0 (Y5_8 S x t) := (((c2z S x t).withFrz _).exeS 3000 (by kernel_rfl) _ (by kernel_rfl) (by kernel_rfl)).withFrz []
noncomputable def Y5_9 (S : F8) (x : By) (t : Int) : Ctx := exeS Tryz.prog gl0 3000 [(258,Tryz.f258),(202,Tryz.f202),(203,Tryz.f203),(204,Tryz.f204),(162,Tryz.f162),(164,Tryz.f164),(205,Tryz.f205),(207,Tryz.f207)] (Y5_8 S x t)
theorem a2z (S : F8) (x : By) (t : Int) : COKs Tryz.prog gl0 (Y5_9 S x t) := (b2z S x t).exeS 3000 (by kernel_rfl) _ (by kernel_rfl) (by kernel_rfl)
noncomputable def h1v (S : F8) (x : By) (t : Int) : Ctx := (Y5_9 S x t).exeK Tryz.prog gl0 3000 [.kp,.by0] 259 Tryz.f259
theorem h1z (S : F8) (x : By) (t : Int) : COKs Tryz.prog gl0 (h1v S x t) := (a2z S x t).exeK 3000 _ (by kernel_rfl) (by kernel_rfl) (by kernel_rfl) (by kernel_rfl)
noncomputable def g1v (S : F8) (x : By) (t : Int) : Ctx := exeS Tryz.prog gl0 3000 [(208,Tryz.f208)] (h1v S x t)
theorem g1z (S : F8) (x : By) (t : Int) : COKs Tryz.prog gl0 (g1v S x t) := (h1z S x t).exeS 3000 (by kernel_rfl) _ (by kernel_rfl) (by kernel_rfl)
noncomputable def f1v (S : F8) (x : By) (t : Int) : Ctx := (exeS Tryz.prog gl0 3000 [(163,Tryz.f163)] ((g1v S x t).withFrz [(54,[.by8]),(132,[.by8])])).withFrz []
theorem f1z (S : F8) (x : By) (t : Int) : COKs Tryz.prog gl0 (f1v S x t) := (((g1z S x t).withFrz _).exeS 3000 (by kernel_rfl) _ (by kernel_rfl) (by kernel_rfl)).withFrz []
noncomputable def Y5_6 (S : F8) (x : By) (t : Int) : Ctx := (exeS Tryz.prog gl0 3000 [(59,Tryz.f59)] ((f1v S x t).add 70 (mkF (uN clA)))).add 70 (mkF { uN clA with G := sQ })
theorem z2x (S : F8) (x : By) (t : Int) : COKs Tryz.prog gl0 (Y5_6 S x t) := (((f1z S x t).add cClo).exeS 3000 (by kernel_rfl) _ (by kernel_rfl) (by kernel_rfl)).add k1v
noncomputable def e1v (S : F8) (x : By) (t : Int) : Ctx := exeS Tryz.prog gl0 3000 [(56,Tryz.f56),(60,Tryz.f60),(129,Tryz.f129),(130,Tryz.f130),(165,Tryz.f165),(131,Tryz.f131),(106,Tryz.f106),(83,Tryz.f83),(53,Tryz.f53),(52,Tryz.f52)] (Y5_6 S x t)
theorem e1z (S : F8) (x : By) (t : Int) : COKs Tryz.prog gl0 (e1v S x t) := (z2x S x t).exeS 3000 (by kernel_rfl) _ (by kernel_rfl) (by kernel_rfl)
noncomputable def d1v (S : F8) (x : By) (t : Int) : Ctx := (e1v S x t).exeR Tryz.prog gl0 3000 57 Tryz.f57
theorem d1z (S : F8) (x : By) (t : Int) : COKs Tryz.prog gl0 (d1v S x t) := (e1z S x t).exeRn 3000 (by kernel_rfl) (by kernel_rfl) (by kernel_rfl) (by kernel_rfl)
noncomputable def c1v (S : F8) (x : By) (t : Int) : Ctx := (d1v S x t).exeR Tryz.prog gl0 3000 58 Tryz.f58
theorem c1z (S : F8) (x : By) (t : Int) : COKs Tryz.prog gl0 (c1v S x t) := (d1z S x t).exeRn 3000 (by kernel_rfl) (by kernel_rfl) (by kernel_rfl) (by kernel_rfl)
noncomputable def b1v (S : F8) (x : By) (t : Int) : Ctx := exeS Tryz.prog gl0 3000 [(31,Tryz.f31),(23,Tryz.f23),(24,Tryz.f24),(40,Tryz.f40)] (c1v S x t)
theorem b1z (S : F8) (x : By) (t : Int) : COKs Tryz.prog gl0 (b1v S x t) := (c1z S x t).exeS 3000 (by kernel_rfl) _ (by kernel_rfl) (by kernel_rfl)
noncomputable def a1v (S : F8) (x : By) (t : Int) : Ctx := (b1v S x t).exeK Tryz.prog gl0 3000 [.by0] 72 Tryz.f72
theorem a1z (S : F8) (x : By) (t : Int) : COKs Tryz.prog gl0 (a1v S x t) := (b1z S x t).exeK 3000 _ (by kernel_rfl) (by kernel_rfl) (by kernel_rfl) (by kernel_rfl)
noncomputable def z1w (S : F8) (x : By) (t : Int) : Ctx := exeS Tryz.prog gl0 3000 [(98,Tryz.f98),(99,Tryz.f99)] (a1v S x t)
theorem z1x (S : F8) (x : By) (t : Int) : COKs Tryz.prog gl0 (z1w S x t) := (a1z S x t).exeS 3000 (by kernel_rfl) _ (by kernel_rfl) (by kernel_rfl)
noncomputable def y1w (S : F8) (x : By) (t : Int) : Ctx := (z1w S x t).exeK Tryz.prog gl0 3000 [.by0] 71 Tryz.f71
theorem y1x (S : F8) (x : By) (t : Int) : COKs Tryz.prog gl0 (y1w S x t) := (z1x S x t).exeK 3000 _ (by kernel_rfl) (by kernel_rfl) (by kernel_rfl) (by kernel_rfl)
noncomputable def x1w (S : F8) (x : By) (t : Int) : Ctx := exeS Tryz.prog gl0 3000 [(42,Tryz.f42),(44,Tryz.f44),(30,Tryz.f30)] (y1w S x t)
theorem x1x (S : F8) (x : By) (t : Int) : COKs Tryz.prog gl0 (x1w S x t) := (y1x S x t).exeS 3000 (by kernel_rfl) _ (by kernel_rfl) (by kernel_rfl)
noncomputable def Y6 (S : F8) (x : By) (t : Int) : Ctx := (x1w S x t)
theorem okY6 (S : F8) (x : By) (t : Int) : COKs Tryz.prog gl0 (Y6 S x t) := x1x S x t
def orF (c : List AV->Bool) (F1 F2 : lZ) : lZ := fun h xs fr => match c xs with | true => F1 h xs fr | false => F2 h xs fr
theorem f0k {P : Program} {gl : Gl} {f : FuncId} {c : List AV->Bool} {F1 F2 : lZ} (h1 : COKv P gl f F1) (h2 : COKv P gl f F2) : COKv P gl f (orF c F1 F2) := by
 refine ⟨h1.1,fun M w κ hs h xs vals fr r a1 a2 a3 a4 a5 a6 a7 a8 a9 a10 a11 => ?_⟩
 unfold orF at a10
 split at a10
 ·exact h1.2 M w κ hs h xs vals fr r a1 a2 a3 a4 a5 a6 a7 a8 a9 a10 a11
 ·exact h2.2 M w κ hs h xs vals fr r a1 a2 a3 a4 a5 a6 a7 a8 a9 a10 a11
theorem k9 {P : Program} {gl : Gl} {Γ : Ctx} {f : FuncId} {fn : Func} {sp : Spec} (fuel : Nat) (hG : sp.G = jR P Γ gl [] fuel fn) (hf : P.funcs[f]? = some fn) (hok : (match fn.body with | some c => fI fn sp [] c | none => false) = true) (hΓ : COKs P gl Γ) (hmix : P.follows .mixedOrders = true)
  (hn : (fn.name == "runtime.NumGoroutine") = false) : COKv P gl f (mkF sp) := by
 cases hb : fn.body with
 | none => rw [hb] at hok; cases hok
 | some c =>
  rw [hb] at hok
  refine lK [] fuel hf hb hok hΓ hmix (fun args w => gM hf hn hb args w) fun xs bs r hsel hob => ?_
  rw [hG] at hsel
  unfold jR at hsel
  rw [hb] at hsel
  simp only [kC] at hsel
  have h1 := TX.toTL_sel _ _ _ (fun m hm => hm) hsel hob
  exact ⟨_,dU,dS (np := bs.length) _ _ _ _ _ h1⟩
def noBy (xs : List AV) : Bool := match xs with
 | .nils::_ => true
 | .slice _ _ _ n _ _::_ => Nat.beq n 0
 | .rb _ l _::_ => (match l with | [] => true | _ => false)
 | _ => false
noncomputable def Nx : Ctx := exeS Tryz.prog gl0 3000 [(124,Tryz.f124),(123,Tryz.f123)] N2
theorem okNx : COKs Tryz.prog gl0 Nx := okN2.exeS 3000 (by kernel_rfl) _ (by kernel_rfl) (by kernel_rfl)
noncomputable def tkF : lZ := orF noBy (mkF ⟨[.by0],fun _ _ => [],fun _ _ => [],jR Tryz.prog Nx gl0 [] 3000 Tryz.f101⟩) (mkF ⟨[.by0],fun _ _ => [],fun _ _ => [],jR Tryz.prog Y4 gl0 [] 3000 Tryz.f101⟩)
theorem y2x : COK Tryz.prog gl0 101 tkF := (f0k (k9 (Γ := Nx) (fn := Tryz.f101) 3000 rfl (by kernel_rfl) (by kernel_rfl) okNx (by kernel_rfl) (by kernel_rfl)) (k9 (Γ := Y4) (fn := Tryz.f101) 3000 rfl (by kernel_rfl) (by kernel_rfl) okY4 (by kernel_rfl) (by kernel_rfl))).cok
noncomputable def Y7 (S : F8) (x : By) (t : Int) : Ctx := (Y6 S x t).add 101 tkF
theorem okY7 (S : F8) (x : By) (t : Int) : COKs Tryz.prog gl0 (Y7 S x t) := (okY6 S x t).add y2x
noncomputable def Y7_1 (S : F8) (x : By) (t : Int) : Ctx := exeS Tryz.prog gl0 3000 [(41,Tryz.f41),(43,Tryz.f43),(73,Tryz.f73),(74,Tryz.f74),(75,Tryz.f75)] (Y7 S x t)
theorem x2x (S : F8) (x : By) (t : Int) : COKs Tryz.prog gl0 (Y7_1 S x t) := (okY7 S x t).exeS 3000 (by kernel_rfl) _ (by kernel_rfl) (by kernel_rfl)
noncomputable def Y7_2 (S : F8) (x : By) (t : Int) : Ctx := (Y7_1 S x t).exeR Tryz.prog gl0 3000 102 Tryz.f102
theorem w2x (S : F8) (x : By) (t : Int) : COKs Tryz.prog gl0 (Y7_2 S x t) := (x2x S x t).exeRn 3000 (by kernel_rfl) (by kernel_rfl) (by kernel_rfl) (by kernel_rfl)
noncomputable def Y7_3 (S : F8) (x : By) (t : Int) : Ctx := exeS Tryz.prog gl0 3000 [(38,Tryz.f38),(179,Tryz.f179),(149,Tryz.f149),(180,Tryz.f180),(150,Tryz.f150),(127,Tryz.f127)] (Y7_2 S x t)
theorem v2x (S : F8) (x : By) (t : Int) : COKs Tryz.prog gl0 (Y7_3 S x t) := (w2x S x t).exeS 3000 (by kernel_rfl) _ (by kernel_rfl) (by kernel_rfl)
noncomputable def Y7_5 (S : F8) (x : By) (t : Int) : Ctx := exeS Tryz.prog gl0 3000 [(182,Tryz.f182),(183,Tryz.f183),(185,Tryz.f185),(190,Tryz.f190),(184,Tryz.f184),(151,Tryz.f151),(152,Tryz.f152),(186,Tryz.f186),(153,Tryz.f153),(187,Tryz.f187),(154,Tryz.f154)] (Y7_3 S x t)
theorem u2x (S : F8) (x : By) (t : Int) : COKs Tryz.prog gl0 (Y7_5 S x t) := (v2x S x t).exeS 3000 (by kernel_rfl) _ (by kernel_rfl) (by kernel_rfl)
noncomputable def Y7_6 (S : F8) (x : By) (t : Int) : Ctx := (exeS Tryz.prog gl0 3000 [(155,Tryz.f155)] ((Y7_5 S x t).withFrz [(44,[.by8])])).withFrz []
theorem k2x (S : F8) (x : By) (t : Int) : COKs Tryz.prog gl0 (Y7_6 S x t) := (((u2x S x t).withFrz _).exeS 3000 (by kernel_rfl) _ (by kernel_rfl) (by kernel_rfl)).withFrz []
noncomputable def Y7_7 (S : F8) (x : By) (t : Int) : Ctx := exeS Tryz.prog gl0 3000 [(128,Tryz.f128),(103,Tryz.f103),(76,Tryz.f76),(45,Tryz.f45),(17,Tryz.f17)] (Y7_6 S x t)
theorem j2x (S : F8) (x : By) (t : Int) : COKs Tryz.prog gl0 (Y7_7 S x t) := (k2x S x t).exeS 3000 (by kernel_rfl) _ (by kernel_rfl) (by kernel_rfl)
noncomputable def Y8 (S : F8) (x : By) (t : Int) : Ctx := (Y7_7 S x t)
theorem e0k (S : F8) (x : By) (t : Int) : COKs Tryz.prog gl0 (Y8 S x t) := j2x S x t
end Go.Sym
namespace Go.Spec
open Go.Sym
def grK (g2 : Bool) (tk : By) : Nat := (match g2 with | true => 2 | false => 0) + (match tk with | [] => 0 | _::_ => 50)
def grB (g2 own : Bool) (tk : By) (cr ck bi : F8) : By :=
 [3#8,3#8]++rg 32 cr++[0#8,0#8,2#8,19#8,3#8,1#8,0#8,0#8,BitVec.ofNat 8 (71 + grK g2 tk),0#8,43#8,0#8,3#8,2#8,3#8,4#8]
 ++ (match g2 with | true => [0#8,10#8,0#8,6#8,0#8,4#8,0#8,29#8,0#8,23#8] | false => [0#8,10#8,0#8,4#8,0#8,2#8,0#8,29#8])
 ++ [0#8,13#8,0#8,4#8,0#8,2#8,254#8,1#8,0#8,51#8,0#8,38#8,0#8,36#8,0#8,(match own with | true => 29#8 | false => 23#8),0#8,32#8]++rg 32 ck++[0#8,45#8,0#8,2#8,1#8,1#8]
 ++ (match tk with | [] => [] | _::_ => [0#8,41#8,0#8,46#8,0#8,9#8,0#8,3#8]++tk++[0#8,0#8,0#8,0#8,0#8,33#8,32#8]++rg 32 bi)
def grM (g2 own : Bool) (tk : By) (cr ck bi : F8) : By := [1#8,0#8,0#8,BitVec.ofNat 8 (114 + grK g2 tk)]++grB g2 own tk cr ck bi
def grR (g2 own : Bool) (tk : By) (cr ck bi : F8) : By := [22#8,3#8,3#8,0#8,BitVec.ofNat 8 (118 + grK g2 tk)]++grM g2 own tk cr ck bi
def shM (psk : Bool) (sr sk : F8) : By := [2#8,0#8,0#8,(match psk with | true => 92#8 | false => 86#8),3#8,3#8]++rg 32 sr++[0#8,19#8,3#8,0#8,0#8,(match psk with | true => 52#8 | false => 46#8),0#8,43#8,0#8,2#8,3#8,4#8,0#8,51#8,0#8,36#8,0#8,29#8,0#8,32#8]++rg 32 sk++(match psk with | true => [0#8,41#8,0#8,2#8,0#8,0#8] | false => [])
def flA : By := [8#8,0#8,0#8,2#8,0#8,0#8]
def flB : By := [11#8,0#8,0#8,12#8,0#8,0#8,0#8,8#8,0#8,0#8,3#8,1#8,2#8,3#8,0#8,0#8]
def flS (sg : F8) : By := [15#8,0#8,0#8,36#8,254#8,1#8,0#8,32#8]++rg 32 sg
def fiM (fi : F8) : By := [20#8,0#8,0#8,32#8]++rg 32 fi
def flT (psk : Bool) (sg fi : F8) : By := flA++(match psk with | true => [] | false => flB++flS sg)++fiM fi
def flN (psk : Bool) : Nat := match psk with | true => 59 | false => 115
def soR (psk : Bool) (sr sk bd : F8) : By := [22#8,3#8,3#8,0#8,(match psk with | true => 96#8 | false => 90#8)]++shM psk sr sk++[23#8,3#8,3#8,0#8,BitVec.ofNat 8 (flN psk)]++rg (flN psk) bd
def reM : By := [2#8,0#8,0#8,52#8]++reB
def reR : By := [22#8,3#8,3#8,0#8,56#8]++reM
def fiR (bd : F8) : By := [23#8,3#8,3#8,0#8,53#8]++rg 53 bd
def cJ (h : F8) : By := [254#8,0#8,0#8,32#8]++rg 32 h++reM
def xJ : By := [111#8,108#8,100#8]
def xN : By := [110#8,101#8,119#8]
end Go.Spec
namespace Go.Sym
open Go.Proofs Go.Spec
def svS (ph : Int) (lg : By) (c : List AV) (i o ie oe : Int) (sl : Bool) (us : By) : AV := .agg ([.int .i64 ph,.rb false lg .unk]++c++[.int .i64 i,.int .i64 o,.int .i64 ie,.int .i64 oe,.bool sl,.nils,.rb false us .unk,.int .i64 (-1)])
def C2 (ph : Int) (n : Nat) (c : List AV) (i o ie oe : Int) (sl : Bool) (u : Nat) : AV := .agg ([.int .i64 ph,.slice 0 0 1 n .ow .unk]++c++[.int .i64 i,.int .i64 o,.int .i64 ie,.int .i64 oe,.bool sl,.nils,.slice 1 0 1 u .ow .unk,.int .i64 (-1)])
def iV (su : List AV) (ea ha ma ci so la : F8) : List AV := su++yD 32 ea++yD 32 ha++yD 32 ma++yD 32 ci++yD 32 so++yD 32 la
def plA (sh : Bool) (tk : AV) (ps : F8) : List AV := yD 32 (uM (7#8::List.replicate 31 0#8))++[.bool sh,tk]++yD 32 ps
def l5 (sh : Bool) (tk : By) (ps : F8) (ph : Int) (r : F8) (lg : By) (c : List AV) (i o ie oe ex : Int) (rt rs : Bool) : AV := .agg (plA sh (.rb false tk .unk) ps++[.int .i64 ph]++yD 64 r++[.rb false lg .unk]++c++[.int .i64 i,.int .i64 o,.int .i64 ie,.int .i64 oe,.int .i64 ex,.bool rt,.bool rs,.rb false [] .unk,.rb false [] .unk,.rb false [] .unk,.nils,.int .i64 (-1)])
def tP (sh : Bool) (nt : Nat) (ps : F8) (ph : Int) (r : F8) (n : Nat) (c : List AV) (i o ie oe ex : Int) (rt rs : Bool) : AV := .agg (plA sh (.slice 0 0 1 nt .ow .unk) ps++[.int .i64 ph]++yD 64 r++[.slice 1 0 1 n .ow .unk]++c++[.int .i64 i,.int .i64 o,.int .i64 ie,.int .i64 oe,.int .i64 ex,.bool rt,.bool rs,.slice 2 0 1 0 .ow .unk,.slice 3 0 1 0 .ow .unk,.slice 4 0 1 0 .ow .unk,.nils,.int .i64 (-1)])
def aD (su ea ha ma ci co : F8) : List AV := yD 32 su++yD 32 ea++yD 32 ha++yD 32 ma++yD 32 ci++yD 32 co
def bk (b : By) : ABlk := ⟨.bytes b,true,1⟩
end Go.Sym
namespace Go.Spec
open Go.Sym
def chsL : By := [99#8,32#8,104#8,115#8,32#8,116#8,114#8,97#8,102#8,102#8,105#8,99#8]
def shsL : By := [115#8,32#8,104#8,115#8,32#8,116#8,114#8,97#8,102#8,102#8,105#8,99#8]
def capL : By := [99#8,32#8,97#8,112#8,32#8,116#8,114#8,97#8,102#8,102#8,105#8,99#8]
def sapL : By := [115#8,32#8,97#8,112#8,32#8,116#8,114#8,97#8,102#8,102#8,105#8,99#8]
def p7 : By := 7#8::List.replicate 31 0#8
def p9 : By := 9#8::List.replicate 31 0#8
noncomputable def aF (s : BitVec 8) : F8 := fun i => zX s (32 + i)
noncomputable def jA (s : BitVec 8) : F8 := b0z (rg 32 (aF s))
noncomputable def mL (s : BitVec 8) : F8 := eR (uM (rg 32 (aF (s + 1#8)))) (uM (rg 32 (jA s)))
theorem sU (s : BitVec 8) : P2 (rg 32 (aF (s + 1#8))) (rg 32 (jA s)) = rg 32 (mL s) := rfl
theorem w1w (s : BitVec 8) : P2 (rg 32 (aF s)) (rg 32 (jA (s + 1#8))) = rg 32 (mL s) := y2z _ _
def tV (tk : By) : F8 := match tk with | [] => fun _ => 0#8 | _::_ => uM p9
noncomputable def ckF (own : Bool) (s : BitVec 8) : F8 := match own with | true => jA s | false => fun _ => 0#8
noncomputable def biN (lg : By) (g2 own : Bool) (tk : By) (s : BitVec 8) : F8 := biF p9 (rg 32 (zL (lg++(grM g2 own tk (zX s) (ckF own s) fun _ => 0#8).take (83 + grK g2 tk))))
noncomputable def dB (lg : By) (g2 own : Bool) (tk : By) (s : BitVec 8) : By := grM g2 own tk (zX s) (ckF own s) (biN lg g2 own tk s)
noncomputable def yC (sh : Bool) (tk : By) (s : BitVec 8) : By := match sh with
 | true => dB [] false true tk s
 | false => cJ (zL (dB [] true false tk s))++dB (cJ (zL (dB [] true false tk s))) true true tk s
section
variable (A : By) (psk : Bool) (s : BitVec 8)
noncomputable def l1N : By := A++shM psk (zX (s + 1#8)) (jA (s + 1#8))
noncomputable def qZ : F8 := kX (match psk with | true => p9 | false => [])
noncomputable def qA : F8 := uK (rg 32 (qZ psk)) (rg 32 (mL s))
noncomputable def ciN : F8 := xG (rg 32 (qA psk s)) chsL (rg 32 (zL (l1N A psk s)))
noncomputable def siN : F8 := xG (rg 32 (qA psk s)) shsL (rg 32 (zL (l1N A psk s)))
noncomputable def sgN : F8 := C1 p7 (rg 32 (zL (l1N A psk s++flA++flB)))
noncomputable def l2N : By := match psk with | true => l1N A psk s++flA | false => l1N A psk s++flA++flB++flS (sgN A psk s)
noncomputable def fiN : F8 := j0 (rg 32 (siN A psk s)) (rg 32 (zL (l2N A psk s)))
noncomputable def bI : By := l2N A psk s++fiM (fiN A psk s)
noncomputable def qN : F8 := uK (rg 32 (qA psk s)) tU
noncomputable def jF : F8 := xG (rg 32 (qN psk s)) capL (rg 32 (zL (bI A psk s)))
noncomputable def nE : F8 := xG (rg 32 (qN psk s)) sapL (rg 32 (zL (bI A psk s)))
noncomputable def fxN : By := flT psk (sgN A psk s) (fiN A psk s)
noncomputable def bdN : F8 := wY (rg 32 (aA (rg 32 (siN A psk s)))) (rg 12 (aB (rg 32 (siN A psk s)))) 0#64 22 (fxN A psk s)
noncomputable def Q6 : By := soR psk (zX (s + 1#8)) (jA (s + 1#8)) (bdN A psk s)
noncomputable def fpN : F8 := j0 (rg 32 (ciN A psk s)) (rg 32 (zL (bI A psk s)))
noncomputable def bpN : F8 := wY (rg 32 (aA (rg 32 (ciN A psk s)))) (rg 12 (aB (rg 32 (ciN A psk s)))) 0#64 22 (fiM (fpN A psk s))
noncomputable def mM : By := bI A psk s++fiM (fpN A psk s)
noncomputable def hH : F8 := zL (mM A psk s)
end
end Go.Spec
namespace Go.Spec
def vF (tk : By) : Bool := match tk with | [] => false | x::_ => Nat.beq x.toNat 111
noncomputable def F3 (tk : By) (s : BitVec 8) : F8 := zL (dB [] true false tk s)
noncomputable def tW (sh : Bool) (tk : By) (s : BitVec 8) : By := grR (!sh) sh tk (zX s) (ckF sh s) (biN [] (!sh) sh tk s)
noncomputable def g2R (tk : By) (s : BitVec 8) : By := grR true true tk (zX s) (jA s) (biN (cJ (F3 tk s)) true true tk s)
def F4 (tk : By) : By := match vF tk with | true => tk | false => []
end Go.Spec
namespace Go.Sym
open Go.Proofs Go.Spec
theorem dN {p : Prop} [Decidable p] (h : decide p = true) : p := of_decide_eq_true h
theorem rm {n m b : Nat} (h : Nat.ble ((n + m) * (2 * b)) 281474976710656 = true) : zD n m b := Nat.le_of_ble_eq_true h
theorem kx {a b : Prop} (h : a) (e : a = b) : b := e ▸ h
theorem a0 {α : Type} {a : α} {q : Prop} (h : q) : a = a/\q := ⟨rfl,h⟩
theorem ad {p q : Prop} [Decidable p] (h : decide p = true) (k : q) : p/\q := ⟨of_decide_eq_true h,k⟩
theorem ar {n m b : Nat} {q : Prop} (h : Nat.ble ((n + m) * (2 * b)) 281474976710656 = true) (k : q) : zD n m b/\q := ⟨rm h,k⟩
theorem al {α : Type} {f : Nat->α} {s n : Nat} {q : Prop} (h : q) : zG (fun i => f i = f i) s n q := zS (fun _ _ _ => rfl) h
theorem l6 (s : BitVec 8) : nhr (zX s 0) (zX s 1) := m1z s
noncomputable def svF (A : By) (psk : Bool) (s : BitVec 8) (u : Nat) : AV := C2 2 (bI A psk s).length (iV (z8 32) (qZ psk) (qA psk s) (qN psk s) (ciN A psk s) (nE A psk s) (jF A psk s)) 0 0 1 2 true u
noncomputable def svG (A : By) (psk : Bool) (s : BitVec 8) (u : Nat) : AV := C2 3 (mM A psk s).length (iV (yD 32 (hH A psk s)) (qZ psk) (qA psk s) (qN psk s) (jF A psk s) (nE A psk s) (jF A psk s)) 0 0 2 2 true u
noncomputable def peF (sh : Bool) (A : By) (tk : By) (psk : Bool) (s : BitVec 8) : AV := tP sh tk.length (tV tk) 3 (zX s) (mM A psk s).length (aD (hH A psk s) (qZ psk) (qA psk s) (qN psk s) (nE A psk s) (jF A psk s)) 0 0 2 2 0 (!sh) psk
end Go.Sym
namespace Go.Sym
open Go.Proofs Go.Spec
def kPl : List Kd := List.replicate 33 .kp++[.by0]++List.replicate 32 .kp
def kPe : List Kd := kPl++List.replicate 65 .kp++[.by0]++List.replicate 199 .kp++[.by0,.by0,.by0,.kp,.kp]
def kSv : List Kd := [.kp,.by0]++List.replicate 230 .kp++[.by0,.kp]
section
variable (mk : List AV->List AV->Nat->Prop) (sh : Bool) (tk : By) (s : BitVec 8)
noncomputable def aHe : List AV := [.agg (plA sh (.rb false tk .unk) (tV tk)),aggB 64 (zX s)]
noncomputable def Y0 : List AV := [svS 0 [] (z8 224) 0 0 0 0 false [],.rb false (tW sh tk s) .unk,.u8 s]
noncomputable def aF1 : List AV := [svS 1 (cJ (F3 tk s)) (z8 224) 0 0 0 0 false [],.rb false (g2R tk s) .unk,.u8 s]
noncomputable def aF2 : List AV := [svS 2 (bI (yC sh tk s) (vF tk) s) (iV (z8 32) (qZ (vF tk)) (qA (vF tk) s) (qN (vF tk) s) (ciN (yC sh tk s) (vF tk) s) (nE (yC sh tk s) (vF tk) s) (jF (yC sh tk s) (vF tk) s)) 0 0 1 2 true (F4 tk),.rb false (fiR (bpN (yC sh tk s) (vF tk) s)) .unk,.u8 s]
noncomputable def aP0 : List AV := [l5 false tk (tV tk) 1 (zX s) (dB [] true false tk s) (z8 192) 0 0 0 0 2 false false,.rb false reR .unk]
noncomputable def aP1 : List AV := [l5 sh tk (tV tk) 1 (zX s) (yC sh tk s) (z8 192) 0 0 0 0 2 (!sh) false,.rb false (Q6 (yC sh tk s) (vF tk) s) .unk]
noncomputable def aP2 : List AV := [l5 sh tk (tV tk) 3 (zX s) (mM (yC sh tk s) (vF tk) s) (aD (hH (yC sh tk s) (vF tk) s) (qZ (vF tk)) (qA (vF tk) s) (qN (vF tk) s) (nE (yC sh tk s) (vF tk) s) (jF (yC sh tk s) (vF tk) s)) 0 0 2 2 0 (!sh) (vF tk),.rb false [] .unk]
noncomputable def rHe : RL := ⟨[],.tup [tP sh tk.length (tV tk) 1 (zX s) (dB [] (!sh) sh tk s).length (z8 192) 0 0 0 0 2 false false,.slice 5 0 1 (tW sh tk s).length .ow (.is false)],[],[bk tk,bk (dB [] (!sh) sh tk s),bk [],bk [],bk [],bk (tW sh tk s)]⟩
noncomputable def rFa : RL := ⟨[],.tup [svF (yC sh tk s) (vF tk) s (F4 tk).length,.slice 2 0 1 (match vF tk with | true => 165 | false => 215) .ow (.is false),.bool true],[],[bk (bI (yC sh tk s) (vF tk) s),bk (F4 tk),bk (Q6 (yC sh tk s) (vF tk) s)]⟩
noncomputable def rFr : RL := ⟨[],.tup [C2 1 92 (z8 224) 0 0 0 0 false 0,.slice 2 0 1 61 .ow (.is false),.bool true],[],[bk (cJ (F3 tk s)),bk [],bk reR]⟩
noncomputable def rF2 : RL := ⟨[],.tup [svG (yC sh tk s) (vF tk) s (F4 tk).length,.nils,.bool true],[],[bk (mM (yC sh tk s) (vF tk) s),bk (F4 tk)]⟩
noncomputable def rP0 : RL := ⟨[],.tup [tP false tk.length (tV tk) 1 (zX s) (yC false tk s).length (z8 192) 0 0 0 0 2 true false,.slice 5 0 1 (g2R tk s).length .ow (.is false),.int .i64 0],[],[bk tk,bk (yC false tk s),bk [],bk [],bk [],bk (g2R tk s)]⟩
noncomputable def rP1 : RL := ⟨[],.tup [peF sh (yC sh tk s) tk (vF tk) s,.slice 5 0 1 58 .ow (.is false),.int .i64 0],[],[bk tk,bk (mM (yC sh tk s) (vF tk) s),bk [],bk [],bk [],bk (fiR (bpN (yC sh tk s) (vF tk) s))]⟩
noncomputable def rP2 : RL := ⟨[],.tup [peF sh (yC sh tk s) tk (vF tk) s,.nils,.int .i64 0],[],[bk tk,bk (mM (yC sh tk s) (vF tk) s),bk [],bk [],bk []]⟩
def onA (k : Nat) (A xs : List AV) (r : RL) : TL := .ok ⟨[mk xs A k],r.v,r.io,r.nw⟩
def phOf (xs : List AV) : Nat := match xs with | .agg (.int _ (.ofNat n)::_)::_ => n | _ => 9
def lnOf (xs : List AV) : Nat := match xs with | [_,.rb _ b _] => wO b | _ => 1
noncomputable def gHe (xs : List AV) (bs : List ABlk) : TL := match bs with | [] => onA mk 0 (aHe sh tk s) xs (rHe sh tk s) | _ => .no
noncomputable def gFd (xs : List AV) (bs : List ABlk) : TL := match bs with
 | [] => (match phOf xs with
  | 0 => onA mk 1 (Y0 sh tk s) xs (match sh with | true => rFa sh tk s | false => rFr tk s)
  | 1 => (match sh with | true => .no | false => onA mk 2 (aF1 tk s) xs (rFa sh tk s))
  | 2 => onA mk 3 (aF2 sh tk s) xs (rF2 sh tk s)
  | _ => .no)
 | _ => .no
noncomputable def gPe (xs : List AV) (bs : List ABlk) : TL := match bs with
 | [] => (match lnOf xs with
  | 0 => onA mk 6 (aP2 sh tk s) xs (rP2 sh tk s)
  | 61 => (match sh with | true => .no | false => onA mk 4 (aP0 tk s) xs (rP0 tk s))
  | _ => onA mk 5 (aP1 sh tk s) xs (rP1 sh tk s))
 | _ => .no
noncomputable def spHe : Spec := ⟨[.a kPl,.kp],fun _ _ => [],fun _ _ => [],gHe mk sh tk s⟩
noncomputable def spFd : Spec := ⟨[.a kSv,.by0,.kp],fun _ _ => [],fun _ _ => [],gFd mk sh tk s⟩
noncomputable def spPe : Spec := ⟨[.a kPe,.by0],fun _ _ => [],fun _ _ => [],gPe mk sh tk s⟩
noncomputable def X0 : Ctx := (exeS Tryz.prog gl0 3000 [(29,Tryz.f29),(27,Tryz.f27)] N8).add 28 (mkF ⟨[.kp],fun _ _ => [],fun _ _ => [],gRn⟩)
noncomputable def X1 : Ctx := ((X0.add 26 (mkF (spHe mk sh tk s))).add 30 (mkF (spFd mk sh tk s))).add 17 (mkF (spPe mk sh tk s))
end
def cellsOf : AV->List AV | .agg l => l | _ => []
def Y9 (k : Nat) : AV->AV | .slice i a b n c l => .slice (i + k) a b n c l | v => v
def prA (a b : AV) : AV := .agg (cellsOf a++(cellsOf b).map (Y9 2))
abbrev lY : List AV->List AV->Nat->Prop := fun xs A _ => xs = A
noncomputable def rCo (sh : Bool) (tk : By) (s : BitVec 8) : RL := ⟨[],.tup [prA (svG (yC sh tk s) (vF tk) s (F4 tk).length) (peF sh (yC sh tk s) tk (vF tk) s),.bool true],[],[bk (mM (yC sh tk s) (vF tk) s),bk (F4 tk),bk tk,bk (mM (yC sh tk s) (vF tk) s),bk [],bk [],bk []]⟩
def C3 (b c : Bool) : By := match b with | false => [] | true => (match c with | true => xJ | false => xN)
noncomputable def gCo (xs : List AV) (bs : List ABlk) : TL := match xs,bs with
 | [.agg [.bool a,.bool b,.bool c,.u8 s],.int .i64 (.ofNat 3)],[] => (match a with
  | true => (match b with | false => .ok (rCo true [] s) | true => (match c with | true => .ok (rCo true xJ s) | false => .ok (rCo true xN s)))
  | false => (match b with | false => .ok (rCo false [] s) | true => (match c with | true => .ok (rCo false xJ s) | false => .ok (rCo false xN s))))
 | _,_ => .no
def pK (tk : By) : Prop := tk = [] \/ tk = xN \/ tk = xJ
theorem okX0 : COKs Tryz.prog gl0 X0 := (okN8.exeS 3000 (by kernel_rfl) _ (by kernel_rfl) (by kernel_rfl)).add cRn
end Go.Sym
