/- SnapOlder: of all states an older version has what it has, and no byte more; a newer version's bytes aren't an older one's, nor the other way round. No conditions. -/
import Derived.Test.YtgniepaehjdjaaaSnaE
import Derived.Test.YtgniepaehjdjaaaSnaA
import Derived.Test.YtgniepaehjdjaaaRows
import Derived.WalkKit
import Derived.ProofKit
import Derived.OpenShut
import Derived.ChangeOld
import Derived.Below
import Derived.Carry
namespace Go.Sym
open Go.Proofs Go.Spec
set_option linter.unusedVariables false
set_option maxRecDepth 100000 in
theorem vs11 (p i o ie oe al : Int) (lg pt us : By) (c1 c2 c3 : Bool) (S : G8) (sl : Bool) : bodyP Try.prog Z19 gl0 [] [] 3000 Try.f11 0 [snS p (.rb true lg (.is c1)) S i o ie oe sl (.rb true pt (.is c2)) (.rb true us (.is c3)) al] [] (retQ Try.prog Try.f11 0 ⟨[], .bool true, [], []⟩) = (
let x1 := snPM (3 : Int) p lg (fun (j : Nat) => (rg 224 S).getD j (0 : BitVec 8)) i o ie oe sl pt us al; let x2 := snPM (1 : Int) p lg (fun (j : Nat) => (rg 224 S).getD j (0 : BitVec 8)) i o ie oe sl pt us al; let x3 := snPM (2 : Int) p lg (fun (j : Nat) => (rg 224 S).getD j (0 : BitVec 8)) i o ie oe sl pt us al; let x4 := List.take (List.length x1 - 1) (List.drop 1 x1); let x5 := [BitVec.ofNat 8 3] ++ List.take (List.length x2 - 1) (List.drop 1 x2); let x6 := [BitVec.ofNat 8 1] ++ x4; let x7 := [BitVec.ofNat 8 4] ++ x4; @Bool.rec (fun _ => Prop) (@Bool.rec (fun _ => Prop) (Bool.true = Bool.false ∧ True) (@Bool.rec (fun _ => Prop) (Bool.true = Bool.false ∧ True) (@Bool.rec (fun _ => Prop) (Bool.true = Bool.false ∧ True) (@Bool.rec (fun _ => Prop) (Bool.true = Bool.false ∧ True) (@Bool.rec (fun _ => Prop) (Bool.true = Bool.false ∧ True) (1 ≤ List.length x2 ∧ 1 + (List.length x2 - 1) ≤ List.length x2 ∧ (0 : Int) ≤ (↑(List.length x2) : Int) ∧ 1 ≤ (↑(List.length x2) : Int).toNat ∧ (↑(List.length x2) : Int).toNat ≤ List.length x3 ∧ 1 + ((↑(List.length x2) : Int).toNat - 1) ≤ List.length x3 ∧ @Bool.rec (fun _ => Prop) (Bool.true = Bool.false ∧ True) (1 ≤ List.length x3 ∧ 1 + (List.length x3 - 1) ≤ List.length x3 ∧ (0 : Int) ≤ (↑(List.length x3) : Int) ∧ 1 ≤ (↑(List.length x3) : Int).toNat ∧ (↑(List.length x3) : Int).toNat ≤ List.length x1 ∧ 1 + ((↑(List.length x3) : Int).toNat - 1) ≤ List.length x1 ∧ @Bool.rec (fun _ => Prop) (1 ≤ List.length x1 ∧ 1 + (List.length x1 - 1) ≤ List.length x1 ∧ 1 = 1 ∧ roomFor 1 x4.length 1 ∧ 1 + x4.length = x6.length ∧ x6.length < 1099511627776 ∧ (x6 = [] ∨ 1 ≤ (x6.getD 0 (0 : BitVec 8)).toNat ∧ (x6.getD 0 (0 : BitVec 8)).toNat ≤ 4) ∧ gEr (x6.getD 0 (0 : BitVec 8)).toNat x6 ≠ (0 : Int) ∧ 1 ≤ List.length x2 ∧ 1 + (List.length x2 - 1) ≤ List.length x2 ∧ 1 = 1 ∧ roomFor 1 (List.take (List.length x2 - 1) (List.drop 1 x2)).length 1 ∧ 1 + (List.take (List.length x2 - 1) (List.drop 1 x2)).length = x5.length ∧ x5.length < 1099511627776 ∧ (x5 = [] ∨ 1 ≤ (x5.getD 0 (0 : BitVec 8)).toNat ∧ (x5.getD 0 (0 : BitVec 8)).toNat ≤ 4) ∧ gEr (x5.getD 0 (0 : BitVec 8)).toNat x5 ≠ (0 : Int) ∧ 1 ≤ List.length x1 ∧ 1 + (List.length x1 - 1) ≤ List.length x1 ∧ 1 = 1 ∧ roomFor 1 x4.length 1 ∧ 1 + x4.length = x7.length ∧ x7.length < 1099511627776 ∧ (x7 = [] ∨ 1 ≤ (x7.getD 0 (0 : BitVec 8)).toNat ∧ (x7.getD 0 (0 : BitVec 8)).toNat ≤ 4) ∧ gEr (x7.getD 0 (0 : BitVec 8)).toNat x7 ≠ (0 : Int) ∧ @Bool.rec (fun _ => Prop) (Bool.true = Bool.false ∧ True) (@Bool.rec (fun _ => Prop) (Bool.true = Bool.false ∧ True) (Bool.true = decide (gEr (x7.getD 0 (0 : BitVec 8)).toNat x7 = (3 : Int)) ∧ True) (decide (gEr (x5.getD 0 (0 : BitVec 8)).toNat x5 = (2 : Int)))) (decide (gEr (x6.getD 0 (0 : BitVec 8)).toNat x6 = (3 : Int)))) (Bool.true = Bool.false ∧ True) !decide (List.take (List.length x3 - 1) (List.drop 1 x3) = List.take ((↑(List.length x3) : Int).toNat - 1) (List.drop 1 x1))) !!decide (List.take (List.length x2 - 1) (List.drop 1 x2) = List.take ((↑(List.length x2) : Int).toNat - 1) (List.drop 1 x3))) !!decide ((↑(List.length x1) : Int) = IntKind.i64.wrap ((↑(List.length x3) : Int) + (2 : Int)))) !!decide ((↑(List.length x3) : Int) = IntKind.i64.wrap (IntKind.i64.wrap ((↑(List.length x2) : Int) + (1 : Int)) + (↑(List.length us) : Int)))) !!decide (snPE (3 : Int) p (List.length lg) i o ie oe (List.length pt) (List.length us) al = (0 : Int))) !!decide (snPE (2 : Int) p (List.length lg) i o ie oe (List.length pt) (List.length us) al = (0 : Int))) !!decide (snPE (1 : Int) p (List.length lg) i o ie oe (List.length pt) (List.length us) al = (0 : Int))) (Bool.true = Bool.true ∧ True) !snOk p (List.length lg) i o ie oe (List.length pt) (List.length us) al : Prop) := by kernel_rfl
end Go.Sym

set_option linter.unusedSimpArgs false
namespace Go.Spec
open Go.Sym
/-- Bytes of another version's number. -/
theorem tail_of {w : BitVec 8} {R L : By} (h : L = w :: R) : (L.drop 1).take (L.length - 1) = R := by
  subst h; simp
end Go.Spec
namespace Go.Sym
open Go.Proofs Go.Spec
set_option linter.unusedVariables false
/-- What stands behind the number of the version. -/
def snT (p : Int) (lg : By) (S : G8) (i o ie oe : Int) (sl : Bool) (pt : By) (T : By) : By :=
  BitVec.ofInt 8 p :: (puL lg.length 2 ++ (lg ++ ((List.range 224).map S ++ ([BitVec.ofInt 8 i, BitVec.ofInt 8 o] ++ (puL ie.toNat 2 ++ (puL oe.toNat 2 ++ ([snFl sl] ++ (puL pt.length 2 ++ (pt ++ T)))))))))
theorem snT_len (p i o ie oe : Int) (lg pt T : By) (S : G8) (sl : Bool) : (snT p lg S i o ie oe sl pt T).length = 236 + lg.length + pt.length + T.length := by
  unfold snT
  simp only [List.length_append, List.length_cons, List.length_nil, puL_len, List.length_map, List.length_range]
  omega
theorem snT_app (p i o ie oe : Int) (lg pt T : By) (S : G8) (sl : Bool) : snT p lg S i o ie oe sl pt T = snT p lg S i o ie oe sl pt [] ++ T := by
  unfold snT
  simp only [List.append_assoc, List.cons_append, List.nil_append, List.append_nil]
theorem bs11 (p i o ie oe al : Int) (lg pt us : By) (c1 c2 c3 : Bool) (S : G8) (sl : Bool) : Must (bodyP Try.prog Z19 gl0 [] [] 3000 Try.f11 0 [snS p (.rb true lg (.is c1)) S i o ie oe sl (.rb true pt (.is c2)) (.rb true us (.is c3)) al] [] (retQ Try.prog Try.f11 0 ⟨[], .bool true, [], []⟩)) := by
  constructor
  rw [vs11]
  cases h : snOk p lg.length i o ie oe pt.length us.length al
  · exact ⟨rfl, trivial⟩
  have k : ∀ v : Int, 1 ≤ v → v ≤ 3 → snKK v p lg.length i o ie oe pt.length us.length al = true := fun v h1 h2 => by
    unfold snKK; rw [h, decide_eq_true h1, decide_eq_true h2]; rfl
  have kE : ∀ v : Int, 1 ≤ v → v ≤ 3 → snPE v p lg.length i o ie oe pt.length us.length al = 0 := fun v h1 h2 => by unfold snPE; rw [if_pos (k v h1 h2)]
  have kM : ∀ v : Int, 1 ≤ v → v ≤ 3 → snPM v p lg (fun (j : Nat) => (rg 224 S).getD j (0 : BitVec 8)) i o ie oe sl pt us al = snB v p lg S i o ie oe sl pt us al := fun v h1 h2 => by
    unfold snPM
    rw [if_pos (k v h1 h2)]
    exact snB_cg (fun j hj => rg_getD _ _ _ _ hj)
  rw [kE 1 (by omega) (by omega), kE 2 (by omega) (by omega), kE 3 (by omega) (by omega), kM 1 (by omega) (by omega), kM 2 (by omega) (by omega), kM 3 (by omega) (by omega)]
  obtain ⟨⟨a1, a2⟩, ⟨a3, a4⟩, ⟨a5, a6⟩, ⟨a7, a8⟩, ⟨a9, b1⟩, ⟨b2, b3⟩, b4, b5, b6⟩ := snOk_iff.1 h
  have l1 := snB_l1 p i o ie oe al lg pt us S sl
  have l2 := snB_l2 p i o ie oe al lg pt us S sl
  have l3 := snB_l3 p i o ie oe al lg pt us S sl
  have e1 : snB 1 p lg S i o ie oe sl pt us al = 1#8 :: snT p lg S i o ie oe sl pt [] := by rw [snB_1]; unfold snT; rw [List.append_nil]; rfl
  have e2 : snB 2 p lg S i o ie oe sl pt us al = 2#8 :: snT p lg S i o ie oe sl pt (puL us.length 1 ++ us) := by rw [snB_2]; rfl
  have e3 : snB 3 p lg S i o ie oe sl pt us al = 3#8 :: snT p lg S i o ie oe sl pt (puL us.length 1 ++ (us ++ puL (al + 1).toNat 2)) := by rw [snB_3]; rfl
  have m1 := tail_of e1
  have m2 := tail_of e2
  have m3 := tail_of e3
  have dec : ∀ (w : BitVec 8) (T : By), Dec (w :: snT p lg S i o ie oe sl pt T) w p lg S i o ie oe sl pt := fun w T => dec_ok (T := T) rfl a1 a2 a3 a4 a5 a6 a7 a8 a9 b1 b4 b5
  -- the three that are read
  have r1 : gEr 1 (1#8 :: snT p lg S i o ie oe sl pt (puL us.length 1 ++ (us ++ puL (al + 1).toNat 2))) = 3 := by
    have d := dec 1#8 (puL us.length 1 ++ (us ++ puL (al + 1).toNat 2))
    have hz : gE 1 (1#8 :: snT p lg S i o ie oe sl pt (puL us.length 1 ++ (us ++ puL (al + 1).toNat 2))) = 237 + lg.length + pt.length := d.hz
    rw [over_err (.inl rfl) (by rw [d.hn1]; exact b4) (by rw [d.hn2]; exact b5) (Nat.zero_le _), hz, if_pos]
    rw [List.length_cons, snT_len]
    simp only [List.length_append, puL_len]
    omega
  have r3 : gEr 3 (3#8 :: snT p lg S i o ie oe sl pt []) = 2 := by
    have d := dec 3#8 []
    have hlen : (3#8 :: snT p lg S i o ie oe sl pt []).length = 237 + lg.length + pt.length := by rw [List.length_cons, snT_len, List.length_nil]; omega
    have hn3 : gN3 3 (3#8 :: snT p lg S i o ie oe sl pt []) = 0 := by
      show beN (cutB _ (gZ _) 1) = 0
      rw [d.hz]
      have e : cutB (3#8 :: snT p lg S i o ie oe sl pt []) (237 + lg.length + pt.length) 1 = [(3#8 :: snT p lg S i o ie oe sl pt []).getD (237 + lg.length + pt.length + 0) 0] := rfl
      rw [e]
      have e2 : (3#8 :: snT p lg S i o ie oe sl pt []).getD (237 + lg.length + pt.length + 0) 0 = 0#8 := by
        rw [List.getD, List.getElem?_eq_none (by rw [hlen]; omega)]; rfl
      rw [e2]; rfl
    have hE : gE 3 (3#8 :: snT p lg S i o ie oe sl pt []) = 237 + lg.length + pt.length + 1 + 0 + 2 := by
      show gZ _ + 1 + gN3 3 _ + 2 = _
      rw [hn3, d.hz]
    rw [over_err (.inr (.inr rfl)) (by rw [d.hn1]; exact b4) (by rw [d.hn2]; exact b5) (by rw [hn3]; omega), hE, hlen, if_neg (by omega), if_neg (by omega)]
  have r4 : gEr 4 (4#8 :: snT p lg S i o ie oe sl pt (puL us.length 1 ++ (us ++ puL (al + 1).toNat 2))) = 3 := err_four (by rw [List.length_cons]; omega)
  have t1 := snT_len p i o ie oe lg pt [] S sl
  have t3 := snT_len p i o ie oe lg pt (puL us.length 1 ++ (us ++ puL (al + 1).toNat 2)) S sl
  have q1 : List.take (List.length (snB 1 p lg S i o ie oe sl pt us al) - 1) (List.drop 1 (snB 1 p lg S i o ie oe sl pt us al)) = List.take ((↑(List.length (snB 1 p lg S i o ie oe sl pt us al)) : Int).toNat - 1) (List.drop 1 (snB 2 p lg S i o ie oe sl pt us al)) := by
    have d2 : List.drop 1 (snB 2 p lg S i o ie oe sl pt us al) = snT p lg S i o ie oe sl pt (puL us.length 1 ++ us) := by rw [e2]; rfl
    rw [m1, d2, snT_app _ _ _ _ _ _ _ (puL us.length 1 ++ us), Int.toNat_natCast, l1, List.take_append_of_le_length (by rw [t1, List.length_nil]; omega), List.take_of_length_le (by rw [t1, List.length_nil]; omega)]
  have q2 : List.take (List.length (snB 2 p lg S i o ie oe sl pt us al) - 1) (List.drop 1 (snB 2 p lg S i o ie oe sl pt us al)) = List.take ((↑(List.length (snB 2 p lg S i o ie oe sl pt us al)) : Int).toNat - 1) (List.drop 1 (snB 3 p lg S i o ie oe sl pt us al)) := by
    have d3 : List.drop 1 (snB 3 p lg S i o ie oe sl pt us al) = snT p lg S i o ie oe sl pt (puL us.length 1 ++ (us ++ puL (al + 1).toNat 2)) := by rw [e3]; rfl
    have t2 := snT_len p i o ie oe lg pt (puL us.length 1 ++ us) S sl
    have hu : (puL us.length 1 ++ us).length = 1 + us.length := by rw [List.length_append, puL_len]
    have ap : snT p lg S i o ie oe sl pt (puL us.length 1 ++ (us ++ puL (al + 1).toNat 2)) = snT p lg S i o ie oe sl pt (puL us.length 1 ++ us) ++ puL (al + 1).toNat 2 := by
      rw [snT_app _ _ _ _ _ _ _ (puL us.length 1 ++ (us ++ puL (al + 1).toNat 2)), snT_app _ _ _ _ _ _ _ (puL us.length 1 ++ us)]
      simp only [List.append_assoc]
    rw [m2, d3, ap, Int.toNat_natCast, l2, List.take_append_of_le_length (by rw [t2, hu]; omega), List.take_of_length_le (by rw [t2, hu]; omega)]
  have w1 : IntKind.i64.wrap (IntKind.i64.wrap ((↑(List.length (snB 1 p lg S i o ie oe sl pt us al)) : Int) + (1 : Int)) + (↑(List.length us) : Int)) = (↑(List.length (snB 2 p lg S i o ie oe sl pt us al)) : Int) := by
    rw [l1, l2, wrap_i64 (x := ((237 + lg.length + pt.length : Nat) : Int) + 1) (by omega) (by omega), wrap_i64 (by omega) (by omega)]
    omega
  have w2 : IntKind.i64.wrap ((↑(List.length (snB 2 p lg S i o ie oe sl pt us al)) : Int) + (2 : Int)) = (↑(List.length (snB 3 p lg S i o ie oe sl pt us al)) : Int) := by
    rw [l2, l3, wrap_i64 (by omega) (by omega)]
    omega
  have t3' : (puL us.length 1 ++ (us ++ puL (al + 1).toNat 2)).length = 3 + us.length := by simp only [List.length_append, puL_len]; omega
  dsimp only
  rw [w1, w2, decide_eq_true q1, decide_eq_true q2, m1, m3]
  rw [List.length_nil] at t1
  generalize snT p lg S i o ie oe sl pt (puL us.length 1 ++ (us ++ puL (al + 1).toNat 2)) = C at *
  generalize snT p lg S i o ie oe sl pt [] = A at *
  have r1' : gEr (([BitVec.ofNat 8 1] ++ C).getD 0 (0 : BitVec 8)).toNat ([BitVec.ofNat 8 1] ++ C) = 3 := r1
  have r3' : gEr (([BitVec.ofNat 8 3] ++ A).getD 0 (0 : BitVec 8)).toNat ([BitVec.ofNat 8 3] ++ A) = 2 := r3
  have r4' : gEr (([BitVec.ofNat 8 4] ++ C).getD 0 (0 : BitVec 8)).toNat ([BitVec.ofNat 8 4] ++ C) = 3 := r4
  have y1 : ([BitVec.ofNat 8 1] ++ C).length = 1 + C.length := by rw [List.length_append]; rfl
  have y3 : ([BitVec.ofNat 8 3] ++ A).length = 1 + A.length := by rw [List.length_append]; rfl
  have y4 : ([BitVec.ofNat 8 4] ++ C).length = 1 + C.length := by rw [List.length_append]; rfl
  rw [r1', r3', r4', y1, y3, y4, decide_eq_true (rfl : (List.length (snB 2 p lg S i o ie oe sl pt us al) : Int) = _), decide_eq_true (rfl : (List.length (snB 3 p lg S i o ie oe sl pt us al) : Int) = _)]
  refine ⟨by omega, by omega, by omega, by omega, by omega, by omega, ?_⟩
  refine ⟨by omega, by omega, by omega, by omega, by omega, by omega, ?_⟩
  refine ⟨by omega, by omega, rfl, by unfold roomFor; omega, rfl, by omega, .inr ⟨by show 1 ≤ 1; omega, by show 1 ≤ 4; omega⟩, by omega, by omega, by omega, rfl, by unfold roomFor; omega, rfl, by omega, .inr ⟨by show 1 ≤ 3; omega, by show 3 ≤ 4; omega⟩, by omega, by omega, by omega, rfl, by unfold roomFor; omega, rfl, by omega, .inr ⟨by show 1 ≤ 4; omega, by show 4 ≤ 4; omega⟩, by omega, ?_⟩
  exact ⟨rfl, trivial⟩
end Go.Sym

/- SnapOlder: of all states an older version has what it has, and no byte more; a newer version's bytes aren't an older one's, nor the other way round. No conditions. -/
namespace Go.Sym
open Go.Proofs Go.Spec
theorem w11 (W : World) (v0 : Value) (p : Int) (lg : List (BitVec 8)) (c1 : Bool) (S : Nat → BitVec 8) (i o ie oe : Int) (sl : Bool) (pt : List (BitVec 8)) (c2 : Bool) (us : List (BitVec 8)) (c3 : Bool) (al : Int) (h0 : VRel (κW W) (.agg (snC p (.rb true lg (.is c1)) S i o ie oe sl (.rb true pt (.is c2)) (.rb true us (.is c3)) al)) v0) :
    Calls Try.prog 11 #[v0] W fun e w' => e = .returned (.bool true) ∧ RowKit.Below W.heap.size W w' := by
  have hv : VRels (κW W) [.agg (snC p (.rb true lg (.is c1)) S i o ie oe sl (.rb true pt (.is c2)) (.rb true us (.is c3)) al)] [v0] := by
    simp only [VRels]
    exact ⟨_, _, rfl, h0, rfl⟩
  refine law_walk (gl := gl0) (Γ := Z19) (fn := Try.f11) (av := [.agg (snC p (.rb true lg (.is c1)) S i o ie oe sl (.rb true pt (.is c2)) (.rb true us (.is c3)) al)]) (ls := []) [] 3000 (by kernel_rfl) (by kernel_rfl) okZ19 (by kernel_rfl) (GW.nil W) (by kernel_rfl) hv ?_
  exact bs11 p i o ie oe al lg pt us c1 c2 c3 S sl
end Go.Sym
namespace Go.Proofs.Ytgniepaehjdjaaa.snapOlder
open Go.ChangeShapes Go.WideShapes Go.ChangeAt Go.RowKit
set_option linter.unusedVariables false

theorem own : ownKnob Try.prog.godebug = none := by kernel_rfl
theorem laid : laidOutB Try.prog = true := by kernel_rfl

set_option maxRecDepth 100000 in
theorem lifted (os : Os) (started : os.Started) (H : Type) (enc : TypeId × Value → H) :
    ReturnsInHanded {} Try.checked os 11 .any (Rows.snapOlderSpec.pre6 enc Try.prog Try.f11 Rows.snapOlderRow.domain false) (Rows.snapOlderSpec.post enc Try.prog Try.f11 false true false false) := by
  refine returnsInHanded_of_change (C := Try.checked) own started (by kernel_rfl) Try.func11
    (ChangeSpec.witness6 (enc := enc) (C := Try.checked) false ⟨#[], #[.agg (#[.int .i64 0, .slice none 0 0] ++ Array.replicate 224 (.int .u8 0) ++ #[.int .i64 0, .int .i64 0, .int .i64 0, .int .i64 0, .bool false, .slice none 0 0, .slice none 0 0, .int .i64 0])], []⟩ 8 (by kernel_rfl) (by kernel_rfl) (by kernel_rfl) (by kernel_rfl)) ?_
  intro W base args ds gs before hval0 hW hcnd _
  have hval : ∀ (j : Nat) t v, Try.f11.params[j]? = some t → args[j]? = some v → Value.okWide Try.prog W .any base t v := hval0
  have hW' := hW
  obtain ⟨p, q, hA0, hV, rfl, hfz, hnd⟩ := hW
  have hA : DataW.TrodAll enc Try.prog W 0 (fun _ => true) true Try.f11.params.toList args.toList ds p := hA0
  rw [Try.params11] at hA hval
  obtain ⟨v0, vs0, d0, ds0, p0, q0, hargs, rfl, rfl, h0, r0⟩ := trodAll_cons hA
  obtain ⟨rfl, rfl, rfl⟩ := trodAll_nil r0
  obtain rfl : args = #[v0] := by cases args; simp_all
  obtain ⟨rfl, rfl⟩ := trodVars_none hV
  clear hA0 hval0
  have hlt0 : ∀ x ∈ p0, x.block < W.heap.size := fun x hx => hW'.lt x (by simp [hx])
  obtain ⟨fuel0, hf0⟩ := h0
  obtain ⟨avs0, hs0, hd0, hr0⟩ := Go.Sym.rd_flat 9 93 ([.i .i64, .y] ++ (List.replicate 224 (.i .u8) ++ [.i .i64, .i .i64, .i .i64, .i .i64, .b, .y, .y, .i .i64])) _ _ _ (by kernel_rfl) hf0
  obtain ⟨p, lg, c1, S, i, o, ie, oe, sl, pt, c2, us, c3, al, rfl⟩ := Go.Sym.sh_state hs0
  have hu0 := Go.Sym.agg_of_cells hr0 (by simp [Go.Sym.snC_len])
  refine (Go.Sym.w11 W v0 p lg c1 S i o ie oe sl pt c2 us c3 al hu0).mono fun e W' ⟨he, bel⟩ => ?_
  subst he
  exact ⟨_, rfl, _, _, _, [], _, [], hW', trodAll_mk1 (shut_bool Try.underlying4 _), (trodAll_cons_mk (Below.trod laid (by kernel_rfl) (of_decide_eq_true (by kernel_rfl)) ⟨fuel0, hf0⟩ bel hlt0) trodAll_mk0), rfl, bel.frame _, fun h => by cases h⟩

theorem over : Rows.snapOlderRow.holds Try.pinned (OpenSpec.ofChange Rows.snapOlderSpec) :=
  OpenClaim.holds_of_wide 11 Try.f11 rfl rfl rfl rfl rfl rfl rfl ⟨rfl, rfl, rfl, rfl, rfl⟩ rfl rfl rfl rfl rfl (by kernel_rfl) Try.func11 (by kernel_rfl)
    (of_decide_eq_true (by kernel_rfl)) (by unfold Func.isWrapper; first | (rw [if_pos (by decide +kernel)]; kernel_rfl) | (rw [if_neg (by decide +kernel)]; exact ⟨rfl, rfl⟩))
    (fun os started H enc _ => lifted os started H enc)

theorem proved : Rows.SnapOlderSaid :=
  over
#print axioms proved
end Go.Proofs.Ytgniepaehjdjaaa.snapOlder
