/- Greetings are read; a server is put and read. -/
import Derived.Test.YtknplceohfeamaaGreatDoorGrA
import Derived.Test.YtknplceohfeamaaGreatDoorGrB
import Derived.Test.YtknplceohfeamaaGreatDoorKeyB
set_option linter.unusedVariables false
set_option linter.unusedSimpArgs false
namespace Go.Sym
open Go.Proofs Go.Spec
theorem m2q (f : F8) (s n i : Nat) (h : i < n) : (zY f s n []).getD i 0 = f (s + i) := by
 rw [iS,List.append_nil]
 simp [List.getD,h]
theorem mY (f : F8) (i : Nat) (h : i < 32) : f (2 + i) = if i < (zY f 2 32 []).length then (zY f 2 32 []).getD i (0 : BitVec 8) else BitVec.ofNat 8 0 := by
 rw [m2q f 2 32 i h,if_pos (by rw [iS]; simpa using h)]
theorem h2q (f : F8) : Must (bq Y3 Tryz.f157 0 [.rb false (fill f (B9 false true false) 0) .unk] [] ⟨[],O9 false true false f,[],P0 false true false f⟩) := by
 constructor; rw [v2q]; repeat first | exact True.intro | refine ck (by kernel_rfl) ?_ | refine And.intro (by rfl) ?_ | refine zS (fun i _ h => mY f i (by omega)) ?_
theorem g2q (f : F8) : Must (bq Y3 Tryz.f157 0 [.rb false (fill f (B9 true true false) 0) .unk] [] ⟨[],O9 true true false f,[],P0 true true false f⟩) := by
 constructor; rw [u2q]; repeat first | exact True.intro | refine ck (by kernel_rfl) ?_ | refine And.intro (by rfl) ?_ | refine zS (fun i _ h => mY f i (by omega)) ?_
theorem f2q (f : F8) : Must (bq Y3 Tryz.f157 0 [.rb false (fill f (B9 true false false) 0) .unk] [] ⟨[],O9 true false false f,[],P0 true false false f⟩) := by
 constructor; rw [k2q]; repeat first | exact True.intro | refine ck (by kernel_rfl) ?_ | refine And.intro (by rfl) ?_ | refine zS (fun i _ h => mY f i (by omega)) ?_
theorem e2q (f : F8) : Must (bq Y3 Tryz.f157 0 [.rb false (fill f (B9 false true true) 0) .unk] [] ⟨[],O9 false true true f,[],P0 false true true f⟩) := by
 constructor; rw [j2q]; repeat first | exact True.intro | refine ck (by kernel_rfl) ?_ | refine And.intro (by rfl) ?_ | refine zS (fun i _ h => mY f i (by omega)) ?_
theorem d2q (f : F8) : Must (bq Y3 Tryz.f157 0 [.rb false (fill f (B9 true true true) 0) .unk] [] ⟨[],O9 true true true f,[],P0 true true true f⟩) := by
 constructor; rw [q2q]; repeat first | exact True.intro | refine ck (by kernel_rfl) ?_ | refine And.intro (by rfl) ?_ | refine zS (fun i _ h => mY f i (by omega)) ?_
theorem c2q (f : F8) : Must (bq Y3 Tryz.f157 0 [.rb false (fill f (B9 true false true) 0) .unk] [] ⟨[],O9 true false true f,[],P0 true false true f⟩) := by
 constructor; rw [n2q]; repeat first | exact True.intro | refine ck (by kernel_rfl) ?_ | refine And.intro (by rfl) ?_ | refine zS (fun i _ h => mY f i (by omega)) ?_
theorem bGc (g2 own tk : Bool) (f : F8) (h : g2 = true \/ own = true) : Must (bq Y3 Tryz.f157 0 [.rb false (fill f (B9 g2 own tk) 0) .unk] [] ⟨[],O9 g2 own tk f,[],P0 g2 own tk f⟩) := by
 cases g2 <;> cases own <;> cases tk
 ·rcases h with h | h <;> cases h
 ·rcases h with h | h <;> cases h
 ·exact h2q f
 ·exact e2q f
 ·exact f2q f
 ·exact c2q f
 ·exact g2q f
 ·exact d2q f
def fitG (b : By) : List (Bool × Bool × Bool)->Option (Bool × Bool × Bool)
 | [] => none
 | s::l => match tS (B9 s.1 s.2.1 s.2.2) b with | true => some s | false => fitG b l
theorem sO {b : By} {s : Bool × Bool × Bool} : ∀ l,fitG b l = some s->tS (B9 s.1 s.2.1 s.2.2) b = true/\s ∈ l
 | [],h => by cases h
 | t::l,h => by
  unfold fitG at h
  split at h
  ·rename_i e; cases h; exact ⟨e,List.mem_cons_self ..⟩
  ·obtain ⟨h1,h2⟩ := sO l h; exact ⟨h1,List.mem_cons_of_mem _ h2⟩
def e0z : List (Bool × Bool × Bool) := [(false,true,false),(true,true,false),(true,false,false),(false,true,true),(true,true,true),(true,false,true)]
def gGC (xs : List AV) (bs : List ABlk) : TL := match xs,bs with
 | [.rb false b .unk],[] => (match fitG b e0z with
  | some s => yF b fun b' => .ok ⟨[],O9 s.1 s.2.1 s.2.2 (uM b'),[],P0 s.1 s.2.1 s.2.2 (uM b')⟩
  | none => .no)
 | _,_ => .no
theorem cGC : COK Tryz.prog gl0 157 (mkF ⟨[.by0],fun _ _ => [],fun _ _ => [],gGC⟩) := by
 refine yY (fn := Tryz.f157) [] 3000 (by kernel_rfl) (by kernel_rfl) okY3 (by kernel_rfl) (fun args w => by kernel_rfl) fun xs bs r hs ho => ?_
 simp only [gGC,yI] at hs
 split at hs
 ·rename_i b
  split at hs
  ·rename_i s e
   cases hs
   obtain ⟨h1,h2⟩ := sO _ e
   have h3 : s.1 = true \/ s.2.1 = true := by
    simp only [e0z,List.mem_cons,List.not_mem_nil,or_false] at h2
    rcases h2 with rfl | rfl | rfl | rfl | rfl | rfl <;> simp
   have e2 := O8 h1
   refine ⟨[],?_⟩
   have := bGc s.1 s.2.1 s.2.2 (uM b) h3
   rw [show fill (uM b) (B9 s.1 s.2.1 s.2.2) 0 = b from e2.symm] at this
   exact this
  ·cases hs
 ·cases hs
end Go.Sym
namespace Go.Spec
open Go.Sym
def svP (psk : Bool) : Pat := lt [3,3]++fr 32++lt [0,19,3,0,0,(match psk with | true => 52 | false => 46),0,43,0,2,3,4,0,51,0,36,0,29,0,32]++fr 32++(match psk with | true => lt [0,41,0,2,0,0] | false => [])
def reB : By := [3#8,3#8]++hrrL++[0#8,19#8,3#8,0#8,0#8,12#8,0#8,43#8,0#8,2#8,3#8,4#8,0#8,51#8,0#8,2#8,0#8,29#8]
def nhr (a b : BitVec 8) : Prop := a = 207#8->b ≠ 33#8
end Go.Spec
namespace Go.Sym
open Go.Proofs Go.Spec
def gsV (psk : Bool) (f : F8) : AV := .tup [.agg (yD 32 (fun i => f (2 + i))++[.slice 0 0 1 0 .ow .unk,.int .i64 4867,.int .i64 772,.int .i64 29,.slice 1 0 1 32 .ow .unk,.bool false,.nils,.int .i64 (match psk with | true => 0 | false => -1)]),.int .i64 0]
def gsN (f : F8) : List ABlk := [⟨.bytes [],true,1⟩,⟨.bytes (rg 32 fun i => f (54 + i)),true,1⟩]
def gsR : AV := .tup [.agg (z8 32++[.slice 0 0 1 0 .ow .unk,.int .i64 4867,.int .i64 772,.int .i64 29,.nils,.bool true,.nils,.int .i64 (-1)]),.int .i64 0]
noncomputable def Y3g : Ctx := Y3.add 157 (mkF ⟨[.by0],fun _ _ => [],fun _ _ => [],gGC⟩)
theorem okY3g : COKs Tryz.prog gl0 Y3g := okY3.add cGC
noncomputable def Gs1 : Ctx := (exeS Tryz.prog gl0 3000 [(291,Tryz.f291)] ((exeS Tryz.prog gl0 3000 [(212,Tryz.f212),(290,Tryz.f290),(264,Tryz.f264)] Y3g).withFrz [(11,[.is true])])).withFrz []
theorem okGs1 : COKs Tryz.prog gl0 Gs1 := (((okY3g.exeS 3000 (by kernel_rfl) _ (by kernel_rfl) (by kernel_rfl)).withFrz _).exeS 3000 (by kernel_rfl) _ (by kernel_rfl) (by kernel_rfl)).withFrz []
noncomputable def Gs2 : Ctx := exeS Tryz.prog gl0 3000 [(248,Tryz.f248),(277,Tryz.f277),(276,Tryz.f276),(244,Tryz.f244)] Gs1
theorem okGs2 : COKs Tryz.prog gl0 Gs2 := okGs1.exeS 3000 (by kernel_rfl) _ (by kernel_rfl) (by kernel_rfl)
noncomputable def Gs3 (rt : Bool) : Ctx := (exeS Tryz.prog gl0 3000 [(238,Tryz.f238)] (Gs2.withFrz [(19,[.is rt])])).withFrz []
theorem d0z (rt : Bool) : COKs Tryz.prog gl0 (Gs3 rt) := ((okGs2.withFrz _).exeS 3000 (by kernel_rfl) _ (by kernel_rfl) (by kernel_rfl)).withFrz []
set_option maxRecDepth 100000 in
theorem vGs0 (f : F8) : bq (Gs3 false) Tryz.f181 0 [.rb false (fill f (svP false) 0) .unk] [] ⟨[],gsV false f,[],gsN f⟩ = (
let x1 := hrD (fun (i : Nat) => if i < (zY f 2 32 []).length then (zY f 2 32 []).getD i (0 : BitVec 8) else BitVec.ofNat 8 0) hrrL 0; 32 = (zY f 2 32 []).length/\x1 = Bool.false/\46 = (BitVec.ofNat 8 0::BitVec.ofNat 8 43::BitVec.ofNat 8 0::BitVec.ofNat 8 2::BitVec.ofNat 8 3::BitVec.ofNat 8 4::BitVec.ofNat 8 0::BitVec.ofNat 8 51::BitVec.ofNat 8 0::BitVec.ofNat 8 36::BitVec.ofNat 8 0::BitVec.ofNat 8 29::BitVec.ofNat 8 0::BitVec.ofNat 8 32::zY f 54 32 []).length/\2 = 2/\36 = (BitVec.ofNat 8 0::BitVec.ofNat 8 29::BitVec.ofNat 8 0::BitVec.ofNat 8 32::zY f 54 32 []).length/\(!x1) = Bool.true/\zG (fun (i : Nat) => f (2 + i) = if i < (zY f 2 32 []).length then (zY f 2 32 []).getD i (0 : BitVec 8) else BitVec.ofNat 8 0) 0 32 ( 0 = 0/\0 = 0/\0 = 0/\0 = 0/\(4867 : Int) = Int.ofNat 4867/\(772 : Int) = Int.ofNat 772/\(29 : Int) = Int.ofNat 29/\0 = 0/\0 = 0/\0 = 0/\32 = 32/\Bool.false = Bool.false/\Int.negSucc 0 = Int.negSucc 0/\(0 : Int) = (0 : Int)/\([] : By) = []/\(rg 32 fun (i : Nat) => f (54 + i)) = zY f 54 32 []/\True) : Prop) := by kernel_rfl
set_option maxRecDepth 100000 in
theorem vGs1 (f : F8) : bq (Gs3 false) Tryz.f181 0 [.rb false (fill f (svP true) 0) .unk] [] ⟨[],gsV true f,[],gsN f⟩ = (
let x1 := hrD (fun (i : Nat) => if i < (zY f 2 32 []).length then (zY f 2 32 []).getD i (0 : BitVec 8) else BitVec.ofNat 8 0) hrrL 0; 32 = (zY f 2 32 []).length/\x1 = Bool.false/\52 = (BitVec.ofNat 8 0::BitVec.ofNat 8 43::BitVec.ofNat 8 0::BitVec.ofNat 8 2::BitVec.ofNat 8 3::BitVec.ofNat 8 4::BitVec.ofNat 8 0::BitVec.ofNat 8 51::BitVec.ofNat 8 0::BitVec.ofNat 8 36::BitVec.ofNat 8 0::BitVec.ofNat 8 29::BitVec.ofNat 8 0::BitVec.ofNat 8 32::zY f 54 32 [BitVec.ofNat 8 0,BitVec.ofNat 8 41,BitVec.ofNat 8 0,BitVec.ofNat 8 2,BitVec.ofNat 8 0,BitVec.ofNat 8 0]).length/\2 = 2/\36 = (BitVec.ofNat 8 0::BitVec.ofNat 8 29::BitVec.ofNat 8 0::BitVec.ofNat 8 32::zY f 54 32 []).length/\2 = 2/\(!x1) = Bool.true/\zG (fun (i : Nat) => f (2 + i) = if i < (zY f 2 32 []).length then (zY f 2 32 []).getD i (0 : BitVec 8) else BitVec.ofNat 8 0) 0 32 ( 0 = 0/\0 = 0/\0 = 0/\0 = 0/\(4867 : Int) = Int.ofNat 4867/\(772 : Int) = Int.ofNat 772/\(29 : Int) = Int.ofNat 29/\0 = 0/\0 = 0/\0 = 0/\32 = 32/\Bool.false = Bool.false/\Int.ofNat 0 = Int.ofNat 0/\(0 : Int) = (0 : Int)/\([] : By) = []/\(rg 32 fun (i : Nat) => f (54 + i)) = zY f 54 32 []/\True) : Prop) := by kernel_rfl
set_option maxRecDepth 100000 in
theorem vGs2  : bq (Gs3 true) Tryz.f181 0 [.rb false reB .unk] [] ⟨[],gsR,[],[⟨.bytes [],true,1⟩]⟩ = (
32 = 32/\Bool.true = Bool.true/\12 = 12/\2 = 2/\2 = 2/\zG (fun (i : Nat) => (0 : BitVec 8) = BitVec.ofNat 8 0) 0 32 (0 = 0/\0 = 0/\0 = 0/\0 = 0/\(4867 : Int) = Int.ofNat 4867/\(772 : Int) = Int.ofNat 772/\(29 : Int) = Int.ofNat 29/\Bool.true = Bool.true/\Int.negSucc 0 = Int.negSucc 0/\(0 : Int) = (0 : Int)/\([] : By) = []/\True) : Prop) := by kernel_rfl
noncomputable def Gs4 : Ctx := exeS Tryz.prog gl0 3000 [(219,Tryz.f219),(223,Tryz.f223),(221,Tryz.f221),(292,Tryz.f292),(249,Tryz.f249)] Gs2
theorem okGs4 : COKs Tryz.prog gl0 Gs4 := okGs2.exeS 3000 (by kernel_rfl) _ (by kernel_rfl) (by kernel_rfl)
def psA (sr : F8) (key : By) (rt : Bool) (psk : Int) : AV := .agg (yD 32 sr++[.rb false [] .unk,.int .i64 4867,.int .i64 772,.int .i64 29,.rb false key .unk,.bool rt,.rb false [] .unk,.int .i64 psk])
set_option maxRecDepth 100000 in
theorem vPs0 (sr k : F8) (L : Nat) (M : By) : bq Gs4 Tryz.f193 0 [psA sr (rg 32 k) false (-1)] [] ⟨[],.tup [.slice 0 0 1 L .ow (.is false),.int .i64 0],[],[⟨.bytes M,true,1⟩]⟩ = (
let x1 := BitVec.ofNat 8 0::BitVec.ofNat 8 43::BitVec.ofNat 8 0::BitVec.ofNat 8 2::BitVec.ofNat 8 3::BitVec.ofNat 8 4::BitVec.ofNat 8 0::BitVec.ofNat 8 51::BitVec.ofNat 8 0::BitVec.ofNat 8 36::BitVec.ofNat 8 0::BitVec.ofNat 8 29::BitVec.ofNat 8 0::BitVec.ofNat 8 32::rg 32 k; (!(hrD sr hrrL 0)) = Bool.true/\2 = 2/\zD 2 (rg 32 sr).length 1/\2 + (rg 32 sr).length = ([BitVec.ofNat 8 3,BitVec.ofNat 8 3]++rg 32 sr).length/\35 = (BitVec.ofNat 8 3::BitVec.ofNat 8 3::zY sr 0 32 [BitVec.ofNat 8 0]).length/\37 = (BitVec.ofNat 8 3::BitVec.ofNat 8 3::zY sr 0 32 [BitVec.ofNat 8 0,BitVec.ofNat 8 19,BitVec.ofNat 8 3]).length/\2 = 2/\2 = 2/\2 = 2/\6 = 6/\8 = 8/\36 = (BitVec.ofNat 8 0::BitVec.ofNat 8 29::BitVec.ofNat 8 0::BitVec.ofNat 8 32::rg 32 k).length/\38 = (BitVec.ofNat 8 3::BitVec.ofNat 8 3::zY sr 0 32 [BitVec.ofNat 8 0,BitVec.ofNat 8 19,BitVec.ofNat 8 3,BitVec.ofNat 8 0]).length/\46 = x1.length/\Bool.false = Bool.false/\0 = 0/\0 = 0/\0 = 0/\L = 86/\(0 : Int) = (0 : Int)/\M = BitVec.ofNat 8 3::BitVec.ofNat 8 3::zY sr 0 32 (BitVec.ofNat 8 0::BitVec.ofNat 8 19::BitVec.ofNat 8 3::BitVec.ofNat 8 0::BitVec.ofNat 8 0::BitVec.ofNat 8 46::x1)/\True : Prop) := by kernel_rfl
set_option maxRecDepth 100000 in
theorem vPs1 (sr k : F8) (L : Nat) (M : By) : bq Gs4 Tryz.f193 0 [psA sr (rg 32 k) false 0] [] ⟨[],.tup [.slice 0 0 1 L .ow (.is false),.int .i64 0],[],[⟨.bytes M,true,1⟩]⟩ = (
let x1 := BitVec.ofNat 8 0::BitVec.ofNat 8 43::BitVec.ofNat 8 0::BitVec.ofNat 8 2::BitVec.ofNat 8 3::BitVec.ofNat 8 4::BitVec.ofNat 8 0::BitVec.ofNat 8 51::BitVec.ofNat 8 0::BitVec.ofNat 8 36::BitVec.ofNat 8 0::BitVec.ofNat 8 29::BitVec.ofNat 8 0::BitVec.ofNat 8 32::zY k 0 32 [BitVec.ofNat 8 0,BitVec.ofNat 8 41,BitVec.ofNat 8 0,BitVec.ofNat 8 2,BitVec.ofNat 8 0,BitVec.ofNat 8 0]; (!(hrD sr hrrL 0)) = Bool.true/\2 = 2/\zD 2 (rg 32 sr).length 1/\2 + (rg 32 sr).length = ([BitVec.ofNat 8 3,BitVec.ofNat 8 3]++rg 32 sr).length/\35 = (BitVec.ofNat 8 3::BitVec.ofNat 8 3::zY sr 0 32 [BitVec.ofNat 8 0]).length/\37 = (BitVec.ofNat 8 3::BitVec.ofNat 8 3::zY sr 0 32 [BitVec.ofNat 8 0,BitVec.ofNat 8 19,BitVec.ofNat 8 3]).length/\2 = 2/\2 = 2/\2 = 2/\6 = 6/\8 = 8/\36 = (BitVec.ofNat 8 0::BitVec.ofNat 8 29::BitVec.ofNat 8 0::BitVec.ofNat 8 32::rg 32 k).length/\46 = (BitVec.ofNat 8 0::BitVec.ofNat 8 43::BitVec.ofNat 8 0::BitVec.ofNat 8 2::BitVec.ofNat 8 3::BitVec.ofNat 8 4::BitVec.ofNat 8 0::BitVec.ofNat 8 51::BitVec.ofNat 8 0::BitVec.ofNat 8 36::BitVec.ofNat 8 0::BitVec.ofNat 8 29::BitVec.ofNat 8 0::BitVec.ofNat 8 32::rg 32 k).length/\48 = (BitVec.ofNat 8 0::BitVec.ofNat 8 43::BitVec.ofNat 8 0::BitVec.ofNat 8 2::BitVec.ofNat 8 3::BitVec.ofNat 8 4::BitVec.ofNat 8 0::BitVec.ofNat 8 51::BitVec.ofNat 8 0::BitVec.ofNat 8 36::BitVec.ofNat 8 0::BitVec.ofNat 8 29::BitVec.ofNat 8 0::BitVec.ofNat 8 32::zY k 0 32 [BitVec.ofNat 8 0,BitVec.ofNat 8 41]).length/\2 = 2/\38 = (BitVec.ofNat 8 3::BitVec.ofNat 8 3::zY sr 0 32 [BitVec.ofNat 8 0,BitVec.ofNat 8 19,BitVec.ofNat 8 3,BitVec.ofNat 8 0]).length/\52 = x1.length/\Bool.false = Bool.false/\0 = 0/\0 = 0/\0 = 0/\L = 92/\(0 : Int) = (0 : Int)/\M = BitVec.ofNat 8 3::BitVec.ofNat 8 3::zY sr 0 32 (BitVec.ofNat 8 0::BitVec.ofNat 8 19::BitVec.ofNat 8 3::BitVec.ofNat 8 0::BitVec.ofNat 8 0::BitVec.ofNat 8 52::x1)/\True : Prop) := by kernel_rfl
set_option maxRecDepth 100000 in
theorem vPs2 (L : Nat) (M : By) : bq Gs4 Tryz.f193 0 [psA (fun _ => 0) [] true (-1)] [] ⟨[],.tup [.slice 0 0 1 L .ow (.is false),.int .i64 0],[],[⟨.bytes M,true,1⟩]⟩ = (
2 = 2/\zD 2 32 1/\34 = 34/\35 = 35/\37 = 37/\2 = 2/\2 = 2/\6 = 6/\8 = 8/\2 = 2/\38 = 38/\12 = 12/\Bool.false = Bool.false/\0 = 0/\0 = 0/\0 = 0/\L = 52/\(0 : Int) = (0 : Int)/\M = [BitVec.ofNat 8 3,BitVec.ofNat 8 3,BitVec.ofNat 8 207,BitVec.ofNat 8 33,BitVec.ofNat 8 173,BitVec.ofNat 8 116,BitVec.ofNat 8 229,BitVec.ofNat 8 154,BitVec.ofNat 8 97,BitVec.ofNat 8 17,BitVec.ofNat 8 190,BitVec.ofNat 8 29,BitVec.ofNat 8 140,BitVec.ofNat 8 2,BitVec.ofNat 8 30,BitVec.ofNat 8 101,BitVec.ofNat 8 184,BitVec.ofNat 8 145,BitVec.ofNat 8 194,BitVec.ofNat 8 162,BitVec.ofNat 8 17,BitVec.ofNat 8 22,BitVec.ofNat 8 122,BitVec.ofNat 8 187,BitVec.ofNat 8 140,BitVec.ofNat 8 94,BitVec.ofNat 8 7,BitVec.ofNat 8 158,BitVec.ofNat 8 9,BitVec.ofNat 8 226,BitVec.ofNat 8 200,BitVec.ofNat 8 168,BitVec.ofNat 8 51,BitVec.ofNat 8 156,BitVec.ofNat 8 0,BitVec.ofNat 8 19,BitVec.ofNat 8 3,BitVec.ofNat 8 0,BitVec.ofNat 8 0,BitVec.ofNat 8 12,BitVec.ofNat 8 0,BitVec.ofNat 8 43,BitVec.ofNat 8 0,BitVec.ofNat 8 2,BitVec.ofNat 8 3,BitVec.ofNat 8 4,BitVec.ofNat 8 0,BitVec.ofNat 8 51,BitVec.ofNat 8 0,BitVec.ofNat 8 2,BitVec.ofNat 8 0,BitVec.ofNat 8 29]/\True : Prop) := by kernel_rfl
set_option maxRecDepth 100000
theorem P1 {f : F8} (h : nhr (f 0) (f 1)) : hrD f hrrL 0 = false := by
 show (decide (f 0 = 207#8) && (decide (f 1 = 33#8) && _)) = false
 by_cases e : f 0 = 207#8
 ·rw [decide_eq_false (h e),Bool.false_and,Bool.and_false]
 ·rw [decide_eq_false e]; rfl
theorem bGs (psk : Bool) (f : F8) (h : nhr (f 2) (f 3)) : Must (bq (Gs3 false) Tryz.f181 0 [.rb false (fill f (svP psk) 0) .unk] [] ⟨[],gsV psk f,[],gsN f⟩) := by
 constructor
 have e : hrD (fun (i : Nat) => if i < (zY f 2 32 []).length then (zY f 2 32 []).getD i (0 : BitVec 8) else BitVec.ofNat 8 0) hrrL 0 = false := P1 h
 cases psk
 ·rw [vGs0,e]
  set_option simprocs false in dsimp only
  repeat first | exact True.intro | refine And.intro (by first | omega | rfl | (unfold zD; exact of_decide_eq_true (by kernel_rfl)) | exact ⟨of_decide_eq_true (by kernel_rfl),of_decide_eq_true (by kernel_rfl)⟩ | exact of_decide_eq_true (by kernel_rfl)) ?_ | refine zS (fun i _ h => by first | rfl | exact Int.natCast_nonneg _ | exact mY f i (by omega)) ?_
 ·rw [vGs1,e]
  set_option simprocs false in dsimp only
  repeat first | exact True.intro | refine And.intro (by first | omega | rfl | (unfold zD; exact of_decide_eq_true (by kernel_rfl)) | exact ⟨of_decide_eq_true (by kernel_rfl),of_decide_eq_true (by kernel_rfl)⟩ | exact of_decide_eq_true (by kernel_rfl)) ?_ | refine zS (fun i _ h => by first | rfl | exact Int.natCast_nonneg _ | exact mY f i (by omega)) ?_
theorem bGsr : Must (bq (Gs3 true) Tryz.f181 0 [.rb false reB .unk] [] ⟨[],gsR,[],[⟨.bytes [],true,1⟩]⟩) := by
 constructor
 rw [vGs2]
 repeat first | exact True.intro | refine And.intro (by first | omega | rfl) ?_ | refine zS (fun i _ h => by first | rfl | exact Int.natCast_nonneg _) ?_
def gGS (xs : List AV) (bs : List ABlk) : TL := match xs,bs with
 | [.rb false b .unk],[] => (match tS (svP false) b with
  | true => yF b fun b' => .ok ⟨[nhr (b'.getD 2 0) (b'.getD 3 0)],gsV false (uM b'),[],gsN (uM b')⟩
  | false => (match tS (svP true) b with
   | true => yF b fun b' => .ok ⟨[nhr (b'.getD 2 0) (b'.getD 3 0)],gsV true (uM b'),[],gsN (uM b')⟩
   | false => tT (decide (b = reB)) (.ok ⟨[],gsR,[],[⟨.bytes [],true,1⟩]⟩)))
 | _,_ => .no
theorem b1k {psk : Bool} {b : By} (hf : tS (svP psk) b = true) (h : nhr (b.getD 2 0) (b.getD 3 0)) : Must (bq (Gs3 false) Tryz.f181 0 [.rb false b .unk] [] ⟨[],gsV psk (uM b),[],gsN (uM b)⟩) := by
 have := bGs psk (uM b) h
 rw [show fill (uM b) (svP psk) 0 = b from (O8 hf).symm] at this
 exact this
theorem cGS : COK Tryz.prog gl0 181 (mkF ⟨[.by0],fun _ _ => [],fun _ _ => [],gGS⟩) := by
 refine pH (fn := Tryz.f181) [] 3000 (by kernel_rfl) (by kernel_rfl) (by kernel_rfl) (fun args w => by kernel_rfl) fun xs bs r hs ho => ?_
 simp only [gGS,yI] at hs
 split at hs
 ·split at hs
  ·rename_i e
   cases hs
   exact ⟨_,d0z false,_,b1k e (zA.1 ho)⟩
  ·split at hs
   ·rename_i e
    cases hs
    exact ⟨_,d0z false,_,b1k e (zA.1 ho)⟩
   ·obtain ⟨q,hs⟩ := jZ hs
    cases hs
    rw [of_decide_eq_true q]
    exact ⟨_,d0z true,_,bGsr⟩
 ·cases hs
def psB (psk : Bool) (sr key : By) : By := [3#8,3#8]++sr++[0#8,19#8,3#8,0#8,0#8,(match psk with | true => 52#8 | false => 46#8),0#8,43#8,0#8,2#8,3#8,4#8,0#8,51#8,0#8,36#8,0#8,29#8,0#8,32#8]++key++(match psk with | true => [0#8,41#8,0#8,2#8,0#8,0#8] | false => [])
theorem bPs (psk : Bool) (sr k : F8) (h : nhr (sr 0) (sr 1)) : Must (bq Gs4 Tryz.f193 0 [psA sr (rg 32 k) false (match psk with | true => 0 | false => -1)] [] ⟨[],.tup [.slice 0 0 1 (match psk with | true => 92 | false => 86) .ow (.is false),.int .i64 0],[],[⟨.bytes (psB psk (rg 32 sr) (rg 32 k)),true,1⟩]⟩) := by
 constructor
 have e : hrD sr hrrL 0 = false := P1 h
 cases psk
 ·rw [vPs0,e]
  set_option simprocs false in dsimp only
  repeat first | exact True.intro | refine And.intro (by first | omega | rfl | (unfold zD; exact of_decide_eq_true (by kernel_rfl)) | exact ⟨of_decide_eq_true (by kernel_rfl),of_decide_eq_true (by kernel_rfl)⟩ | exact of_decide_eq_true (by kernel_rfl)) ?_
 ·rw [vPs1,e]
  set_option simprocs false in dsimp only
  repeat first | exact True.intro | refine And.intro (by first | omega | rfl | (unfold zD; exact of_decide_eq_true (by kernel_rfl)) | exact ⟨of_decide_eq_true (by kernel_rfl),of_decide_eq_true (by kernel_rfl)⟩ | exact of_decide_eq_true (by kernel_rfl)) ?_
theorem bPr : Must (bq Gs4 Tryz.f193 0 [psA (fun _ => 0) [] true (-1)] [] ⟨[],.tup [.slice 0 0 1 52 .ow (.is false),.int .i64 0],[],[⟨.bytes reB,true,1⟩]⟩) := by
 constructor
 rw [vPs2]
 repeat first | exact True.intro | refine And.intro (by first | omega | rfl | (unfold zD; exact of_decide_eq_true (by kernel_rfl)) | exact ⟨of_decide_eq_true (by kernel_rfl),of_decide_eq_true (by kernel_rfl)⟩ | exact of_decide_eq_true (by kernel_rfl)) ?_
def gPS (xs : List AV) (bs : List ABlk) : TL := match xs,bs with
 | [.agg cs],[] => asL 32 (cs.take 32) fun sr => (match cs.drop 32 with
  | [.rb false [] .unk,.int .i64 a,.int .i64 b,.int .i64 c,.rb false key .unk,.bool false,.rb false [] .unk,.int .i64 (.negSucc 0)] => tT (decide (a = 4867) && decide (b = 772) && decide (c = 29) && Nat.beq key.length 32) (yF (psB false sr key) fun m => .ok ⟨[nhr (sr.getD 0 0) (sr.getD 1 0)],.tup [.slice 0 0 1 86 .ow (.is false),.int .i64 0],[],[⟨.bytes m,true,1⟩]⟩)
  | [.rb false [] .unk,.int .i64 a,.int .i64 b,.int .i64 c,.rb false key .unk,.bool false,.rb false [] .unk,.int .i64 (.ofNat 0)] => tT (decide (a = 4867) && decide (b = 772) && decide (c = 29) && Nat.beq key.length 32) (yF (psB true sr key) fun m => .ok ⟨[nhr (sr.getD 0 0) (sr.getD 1 0)],.tup [.slice 0 0 1 92 .ow (.is false),.int .i64 0],[],[⟨.bytes m,true,1⟩]⟩)
  | [.rb false [] .unk,.int .i64 a,.int .i64 b,.int .i64 c,.rb false [] .unk,.bool true,.rb false [] .unk,.int .i64 (.negSucc 0)] => tT (decide (a = 4867) && decide (b = 772) && decide (c = 29) && decide (sr = rg 32 fun _ => 0)) (.ok ⟨[],.tup [.slice 0 0 1 52 .ow (.is false),.int .i64 0],[],[⟨.bytes reB,true,1⟩]⟩)
  | _ => .no)
 | _,_ => .no
theorem qM {cs l : List AV} {f : F8} (e : AV.agg (cs.take 32) = aggB 32 f) (h : cs.drop 32 = l) : cs = yD 32 f++l := by
 rw [<- List.take_append_drop 32 cs,h]
 congr 1
 exact AV.agg.inj e
theorem cPS : COK Tryz.prog gl0 193 (mkF ⟨[.a (List.replicate 32 .kp++[.by0,.kp,.kp,.kp,.by0,.kp,.by0,.kp])],fun _ _ => [],fun _ _ => [],gPS⟩) := by
 refine yY (fn := Tryz.f193) [] 3000 (by kernel_rfl) (by kernel_rfl) okGs4 (by kernel_rfl) (fun args w => by kernel_rfl) fun xs bs r hs ho => ?_
 simp only [gPS] at hs
 split at hs
 ·obtain ⟨f,e,hs⟩ := vO hs
  split at hs
  ·rename_i a b c key hd
   obtain ⟨q,hs⟩ := jZ hs
   rw [yI] at hs
   cases hs
   simp only [Bool.and_eq_true,decide_eq_true_eq,Nat.beq_eq] at q
   obtain ⟨⟨⟨rfl,rfl⟩,rfl⟩,q⟩ := q
   have := bPs false f (uM key) (zA.1 ho)
   rw [show rg 32 (uM key) = key from nR 0 q] at this
   rw [qM e hd]
   exact ⟨_,this⟩
  ·rename_i a b c key hd
   obtain ⟨q,hs⟩ := jZ hs
   rw [yI] at hs
   cases hs
   simp only [Bool.and_eq_true,decide_eq_true_eq,Nat.beq_eq] at q
   obtain ⟨⟨⟨rfl,rfl⟩,rfl⟩,q⟩ := q
   have := bPs true f (uM key) (zA.1 ho)
   rw [show rg 32 (uM key) = key from nR 0 q] at this
   rw [qM e hd]
   exact ⟨_,this⟩
  ·rename_i a b c hd
   obtain ⟨q,hs⟩ := jZ hs
   cases hs
   simp only [Bool.and_eq_true,decide_eq_true_eq] at q
   obtain ⟨⟨⟨rfl,rfl⟩,rfl⟩,q⟩ := q
   rw [qM e hd]
   have e2 : yD 32 f = yD 32 fun _ => 0 := by
    unfold yD
    refine List.map_congr_left fun i hi => ?_
    have hi : i < 32 := by simpa using hi
    have := congrArg (fun l => l.getD i 0) q
    simp only [gP _ _ _ _ hi] at this
    rw [this]
   rw [e2]
   exact ⟨_,bPr⟩
  ·cases hs
 ·cases hs
noncomputable def Y3s : Ctx := (((((((Y3g.add 193 (mkF ⟨[.a (List.replicate 32 .kp++[.by0,.kp,.kp,.kp,.by0,.kp,.by0,.kp])],fun _ _ => [],fun _ _ => [],gPS⟩)).add 181 (mkF ⟨[.by0],fun _ _ => [],fun _ _ => [],gGS⟩)).add 135 (mkF ⟨[.by0],fun _ _ => [],fun _ _ => [],skSt⟩)).add 206 (mkF ⟨[.kp,.kp],fun _ _ => [],fun _ _ => [],skMx⟩)).add 189 (mkF ⟨[.kp],fun _ _ => [],fun _ _ => [],skFi⟩)).add 134 (mkF ⟨[.kp,.kp],fun _ _ => [],fun _ _ => [],skVf⟩)).add 188 (mkF ⟨[.kp,.kp],fun _ _ => [],fun _ _ => [],skSg⟩)).add 110 (mkF ⟨[.by0,.kp],fun _ _ => [],fun _ _ => [],skBi⟩)
theorem okY3s : COKs Tryz.prog gl0 Y3s := (((((((okY3g.add cPS).add cGS).add x1v).add skcMx).add skcFi).add w1v).add skcSg).add skcBi
end Go.Sym
