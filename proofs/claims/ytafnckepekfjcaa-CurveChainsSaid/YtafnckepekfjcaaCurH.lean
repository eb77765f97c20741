/- The same: into bytes, what is shared. -/
import Derived.Test.YtafnckepekfjcaaCurG
namespace Go.Spec
open Go.Sym
def brw (m : Int) : Int := w64 (((BitVec.ofInt 64 (m.fdiv (Int.ofNat 65536)) &&& BitVec.ofNat 64 1).toNat : Nat) : Int)
def low16 (m : Int) : Int := w64 (((BitVec.ofInt 64 m &&& BitVec.ofNat 64 65535).toNat : Nat) : Int)
/-- Less p: each place, with what was borrowed. -/
def mvR (t : I16) : Nat → Int
  | 0 => w64 (t 0 - 65517)
  | i + 1 => w64 (w64 (t (i + 1) - (if i = 14 then 32767 else 65535)) - brw (mvR t i))
def nxR (t : I16) : I16 := fun i => if i = 15 then mvR t 15 else low16 (mvR t i)
def belR (t : I16) : Bool := decide (brw (mvR t 15) = 1)
def pkT (x : I16) : Nat → I16
  | 0 => carR (re16 (carR (re16 (carR (re16 x)))))
  | r + 1 => if belR (pkT x r) then pkT x r else nxR (pkT x r)
def pkB (t : I16) : F8 := fun j => if j % 2 = 0 then BitVec.ofInt 8 (t (j / 2)) else BitVec.ofInt 8 ((t (j / 2)).fdiv (Int.ofNat 256))
end Go.Spec
namespace Go.Sym
open Go.Proofs Go.Spec
set_option linter.unusedVariables false
def lsPk (x : I16) : LS := ⟨Nat, fun r => [(2, .ptr 100 0 0 0), (3, .ptr 101 0 0 0), (4, .int .i64 r)],
  fun r => [(100, ⟨.cells ((List.range 32).map fun j => .u8 0), true, 0⟩), (101, cI (pkT x r))], 1000, fun r => 2 - r, fun r => r ≤ 2, fun _ => []⟩
end Go.Sym

namespace Go.Sym
open Go.Proofs Go.Spec
set_option linter.unusedVariables false
/-- Many a number isn't below nought. -/
def pkE (x : I16) (r : Nat) : Prop := (0 : Int) ≤ (0 : Int) ∧ (0 : Int) ≤ (0 : Int) ∧ (0 : Int) ≤ Int.ofNat (0 : Nat) ∧ (0 : Int) ≤ Int.ofNat (1 : Nat) ∧ (0 : Int) ≤ Int.ofNat (1 : Nat) ∧ (0 : Int) ≤ Int.ofNat (1 : Nat) ∧ (0 : Int) ≤ Int.ofNat (2 : Nat) ∧ (0 : Int) ≤ Int.ofNat (3 : Nat) ∧ (0 : Int) ≤ Int.ofNat (2 : Nat) ∧ (0 : Int) ≤ Int.ofNat (2 : Nat) ∧ (0 : Int) ≤ Int.ofNat (4 : Nat) ∧ (0 : Int) ≤ Int.ofNat (5 : Nat) ∧ (0 : Int) ≤ Int.ofNat (3 : Nat) ∧ (0 : Int) ≤ Int.ofNat (3 : Nat) ∧ (0 : Int) ≤ Int.ofNat (6 : Nat) ∧ (0 : Int) ≤ Int.ofNat (7 : Nat) ∧ (0 : Int) ≤ Int.ofNat (4 : Nat) ∧ (0 : Int) ≤ Int.ofNat (4 : Nat) ∧ (0 : Int) ≤ Int.ofNat (8 : Nat) ∧ (0 : Int) ≤ Int.ofNat (9 : Nat) ∧ (0 : Int) ≤ Int.ofNat (5 : Nat) ∧ (0 : Int) ≤ Int.ofNat (5 : Nat) ∧ (0 : Int) ≤ Int.ofNat (10 : Nat) ∧ (0 : Int) ≤ Int.ofNat (11 : Nat) ∧ (0 : Int) ≤ Int.ofNat (6 : Nat) ∧ (0 : Int) ≤ Int.ofNat (6 : Nat) ∧ (0 : Int) ≤ Int.ofNat (12 : Nat) ∧ (0 : Int) ≤ Int.ofNat (13 : Nat) ∧ (0 : Int) ≤ Int.ofNat (7 : Nat) ∧ (0 : Int) ≤ Int.ofNat (7 : Nat) ∧ (0 : Int) ≤ Int.ofNat (14 : Nat) ∧ (0 : Int) ≤ Int.ofNat (15 : Nat) ∧ (0 : Int) ≤ Int.ofNat (8 : Nat) ∧ (0 : Int) ≤ Int.ofNat (8 : Nat) ∧ (0 : Int) ≤ Int.ofNat (16 : Nat) ∧ (0 : Int) ≤ Int.ofNat (17 : Nat) ∧ (0 : Int) ≤ Int.ofNat (9 : Nat) ∧ (0 : Int) ≤ Int.ofNat (9 : Nat) ∧ (0 : Int) ≤ Int.ofNat (18 : Nat) ∧ (0 : Int) ≤ Int.ofNat (19 : Nat) ∧ (0 : Int) ≤ Int.ofNat (10 : Nat) ∧ (0 : Int) ≤ Int.ofNat (10 : Nat) ∧ (0 : Int) ≤ Int.ofNat (20 : Nat) ∧ (0 : Int) ≤ Int.ofNat (21 : Nat) ∧ (0 : Int) ≤ Int.ofNat (11 : Nat) ∧ (0 : Int) ≤ Int.ofNat (11 : Nat) ∧ (0 : Int) ≤ Int.ofNat (22 : Nat) ∧ (0 : Int) ≤ Int.ofNat (23 : Nat) ∧ (0 : Int) ≤ Int.ofNat (12 : Nat) ∧ (0 : Int) ≤ Int.ofNat (12 : Nat) ∧ (0 : Int) ≤ Int.ofNat (24 : Nat) ∧ (0 : Int) ≤ Int.ofNat (25 : Nat) ∧ (0 : Int) ≤ Int.ofNat (13 : Nat) ∧ (0 : Int) ≤ Int.ofNat (13 : Nat) ∧ (0 : Int) ≤ Int.ofNat (26 : Nat) ∧ (0 : Int) ≤ Int.ofNat (27 : Nat) ∧ (0 : Int) ≤ Int.ofNat (14 : Nat) ∧ (0 : Int) ≤ Int.ofNat (14 : Nat) ∧ (0 : Int) ≤ Int.ofNat (28 : Nat) ∧ (0 : Int) ≤ Int.ofNat (29 : Nat) ∧ (0 : Int) ≤ Int.ofNat (15 : Nat) ∧ (0 : Int) ≤ Int.ofNat (15 : Nat) ∧ (0 : Int) ≤ Int.ofNat (30 : Nat) ∧ (0 : Int) ≤ Int.ofNat (31 : Nat) ∧ allP (fun j => pkB (pkT x 2) j = pkB (pkT x r) j) 0 32 True
def pkM (P : Prop) : Prop := (0 : Int) ≤ (1 : Int) ∧ (0 : Int) ≤ Int.ofNat (0 : Nat) ∧ (0 : Int) ≤ (1 : Int) ∧ (0 : Int) ≤ Int.ofNat (0 : Nat) ∧ (0 : Int) ≤ Int.ofNat (0 : Nat) ∧ (0 : Int) ≤ Int.ofNat (2 : Nat) ∧ (0 : Int) ≤ Int.ofNat (1 : Nat) ∧ (0 : Int) ≤ Int.ofNat (2 : Nat) ∧ (0 : Int) ≤ Int.ofNat (1 : Nat) ∧ (0 : Int) ≤ Int.ofNat (1 : Nat) ∧ (0 : Int) ≤ Int.ofNat (3 : Nat) ∧ (0 : Int) ≤ Int.ofNat (2 : Nat) ∧ (0 : Int) ≤ Int.ofNat (3 : Nat) ∧ (0 : Int) ≤ Int.ofNat (2 : Nat) ∧ (0 : Int) ≤ Int.ofNat (2 : Nat) ∧ (0 : Int) ≤ Int.ofNat (4 : Nat) ∧ (0 : Int) ≤ Int.ofNat (3 : Nat) ∧ (0 : Int) ≤ Int.ofNat (4 : Nat) ∧ (0 : Int) ≤ Int.ofNat (3 : Nat) ∧ (0 : Int) ≤ Int.ofNat (3 : Nat) ∧ (0 : Int) ≤ Int.ofNat (5 : Nat) ∧ (0 : Int) ≤ Int.ofNat (4 : Nat) ∧ (0 : Int) ≤ Int.ofNat (5 : Nat) ∧ (0 : Int) ≤ Int.ofNat (4 : Nat) ∧ (0 : Int) ≤ Int.ofNat (4 : Nat) ∧ (0 : Int) ≤ Int.ofNat (6 : Nat) ∧ (0 : Int) ≤ Int.ofNat (5 : Nat) ∧ (0 : Int) ≤ Int.ofNat (6 : Nat) ∧ (0 : Int) ≤ Int.ofNat (5 : Nat) ∧ (0 : Int) ≤ Int.ofNat (5 : Nat) ∧ (0 : Int) ≤ Int.ofNat (7 : Nat) ∧ (0 : Int) ≤ Int.ofNat (6 : Nat) ∧ (0 : Int) ≤ Int.ofNat (7 : Nat) ∧ (0 : Int) ≤ Int.ofNat (6 : Nat) ∧ (0 : Int) ≤ Int.ofNat (6 : Nat) ∧ (0 : Int) ≤ Int.ofNat (8 : Nat) ∧ (0 : Int) ≤ Int.ofNat (7 : Nat) ∧ (0 : Int) ≤ Int.ofNat (8 : Nat) ∧ (0 : Int) ≤ Int.ofNat (7 : Nat) ∧ (0 : Int) ≤ Int.ofNat (7 : Nat) ∧ (0 : Int) ≤ Int.ofNat (9 : Nat) ∧ (0 : Int) ≤ Int.ofNat (8 : Nat) ∧ (0 : Int) ≤ Int.ofNat (9 : Nat) ∧ (0 : Int) ≤ Int.ofNat (8 : Nat) ∧ (0 : Int) ≤ Int.ofNat (8 : Nat) ∧ (0 : Int) ≤ Int.ofNat (10 : Nat) ∧ (0 : Int) ≤ Int.ofNat (9 : Nat) ∧ (0 : Int) ≤ Int.ofNat (10 : Nat) ∧ (0 : Int) ≤ Int.ofNat (9 : Nat) ∧ (0 : Int) ≤ Int.ofNat (9 : Nat) ∧ (0 : Int) ≤ Int.ofNat (11 : Nat) ∧ (0 : Int) ≤ Int.ofNat (10 : Nat) ∧ (0 : Int) ≤ Int.ofNat (11 : Nat) ∧ (0 : Int) ≤ Int.ofNat (10 : Nat) ∧ (0 : Int) ≤ Int.ofNat (10 : Nat) ∧ (0 : Int) ≤ Int.ofNat (12 : Nat) ∧ (0 : Int) ≤ Int.ofNat (11 : Nat) ∧ (0 : Int) ≤ Int.ofNat (12 : Nat) ∧ (0 : Int) ≤ Int.ofNat (11 : Nat) ∧ (0 : Int) ≤ Int.ofNat (11 : Nat) ∧ (0 : Int) ≤ Int.ofNat (13 : Nat) ∧ (0 : Int) ≤ Int.ofNat (12 : Nat) ∧ (0 : Int) ≤ Int.ofNat (13 : Nat) ∧ (0 : Int) ≤ Int.ofNat (12 : Nat) ∧ (0 : Int) ≤ Int.ofNat (12 : Nat) ∧ (0 : Int) ≤ Int.ofNat (14 : Nat) ∧ (0 : Int) ≤ Int.ofNat (13 : Nat) ∧ (0 : Int) ≤ Int.ofNat (14 : Nat) ∧ (0 : Int) ≤ Int.ofNat (13 : Nat) ∧ (0 : Int) ≤ Int.ofNat (13 : Nat) ∧ P
set_option maxRecDepth 100000 in
set_option maxHeartbeats 0 in
theorem vrp (x : I16) : bodyP Try.prog W1 gl0 [] [(4, lsPk x)] 10000 Try.f20 0 [agI 16 x] [] (retQ Try.prog Try.f20 0 ⟨[], aggB 32 (pkB (pkT x 2)), [], []⟩) = (
(∃ (r : Nat), r.le 2 ∧ 0 = 0 ∧ 0 = 0 ∧ (r : Int) = (0 : Int) ∧ allP (fun (i : Nat) => (0 : BitVec 8) = BitVec.ofNat 8 0) 0 32 (allP (fun (i : Nat) => pkT x r i = carR (re16 (carR (re16 (carR (re16 x))))) i) 0 16 True)) ∧
∀ (r : Nat), r.le 2 → @Bool.rec (fun _ => Prop) (pkE x r) (pkM (@Bool.rec (fun _ => Prop)
  (∃ (y : Nat), 2 - y < 2 - r ∧ y.le 2 ∧ 0 = 0 ∧ 0 = 0 ∧ (y : Int) = IntKind.i64.wrap ((r : Int) + (1 : Int)) ∧ allP (fun (i : Nat) => (0 : BitVec 8) = (0 : BitVec 8)) 0 32 (allP (fun (i : Nat) => pkT x y i = pkT x r i) 0 16 True))
  (∃ (y : Nat), 2 - y < 2 - r ∧ y.le 2 ∧ 0 = 0 ∧ 0 = 0 ∧ (y : Int) = IntKind.i64.wrap ((r : Int) + (1 : Int)) ∧ allP (fun (i : Nat) => (0 : BitVec 8) = (0 : BitVec 8)) 0 32 (allP (fun (i : Nat) => pkT x y i = nxR (pkT x r) i) 0 16 True))
  (!decide (brw (mvR (pkT x r) 15) = 1)))) (decide ((r : Int) < (2 : Int))) : Prop) := by kernel_rfl
end Go.Sym

namespace Go.Sym
open Go.Proofs Go.Spec
set_option linter.unusedVariables false
theorem pkT_a (x : I16) (r : Nat) (h : belR (pkT x r) = true) : pkT x (r + 1) = pkT x r := by rw [pkT, if_pos h]
theorem pkT_b (x : I16) (r : Nat) (h : belR (pkT x r) = false) : pkT x (r + 1) = nxR (pkT x r) := by rw [pkT, if_neg (by rw [h]; decide)]
set_option maxRecDepth 100000 in
set_option maxHeartbeats 4000000 in
theorem brp (x : I16) : Must (bodyP Try.prog W1 gl0 [] [(4, lsPk x)] 10000 Try.f20 0 [agI 16 x] [] (retQ Try.prog Try.f20 0 ⟨[], aggB 32 (pkB (pkT x 2)), [], []⟩)) := by
  constructor
  rw [vrp]
  refine ⟨⟨0, Nat.zero_le _, rfl, rfl, rfl, allP_of _ _ (fun _ _ _ => rfl) (allP_of _ _ (fun _ _ _ => rfl) trivial)⟩, ?_⟩
  intro r hr
  have hr : r ≤ 2 := hr
  have ha := pkT_a x r
  have hb := pkT_b x r
  have h2 : r = 2 → pkT x 2 = pkT x r := fun h => by rw [h]
  unfold pkE pkM
  generalize pkT x r = t at *
  refine brec (fun d => ?_) (fun d => ?_)
  · have d : (r : Int) < 2 := of_decide_eq_true d
    have w : ((r + 1 : Nat) : Int) = IntKind.i64.wrap ((r : Int) + 1) := (wrap_nat (r + 1) (by omega) (by omega)).symm
    repeat refine And.intro (by first | decide | exact Int.natCast_nonneg _) ?_
    refine brec (fun d1 => ?_) (fun d1 => ?_)
    · have e : pkT x (r + 1) = nxR t := hb (by
        have : (!belR t) = true := d1
        simpa using this)
      refine ⟨r + 1, by omega, (by show r + 1 ≤ 2; omega), rfl, rfl, w, allP_of _ _ (fun _ _ _ => rfl) ?_⟩
      rw [e]
      exact allP_of _ _ (fun _ _ _ => rfl) trivial
    · have e : pkT x (r + 1) = t := ha (by
        have : (!belR t) = false := d1
        simpa using this)
      refine ⟨r + 1, by omega, (by show r + 1 ≤ 2; omega), rfl, rfl, w, allP_of _ _ (fun _ _ _ => rfl) ?_⟩
      rw [e]
      exact allP_of _ _ (fun _ _ _ => rfl) trivial
  · have d : ¬ (r : Int) < 2 := of_decide_eq_false d
    have e := h2 (by omega)
    rw [e]
    repeat refine And.intro (by first | decide | exact Int.natCast_nonneg _) ?_
    exact allP_of _ _ (fun _ _ _ => rfl) trivial
end Go.Sym

namespace Go.Sym
open Go.Proofs Go.Spec
set_option linter.unusedVariables false
def gPr (xs : List AV) : TL := match xs with | [.agg cs] => asI16 cs fun x => .ok (rt (aggB 32 (pkB (pkT x 2)))) | _ => .no
theorem cpr : COK Try.prog gl0 20 (mkF (spK 1 gPr)) := by
  refine ctrE (fn := Try.f20) [] 10000 (by kernel_rfl) (by kernel_rfl) okW1 (by kernel_rfl) (fun args w => by kernel_rfl) fun xs bs r hs ho => ?_
  obtain ⟨rfl, hs0⟩ := spK_sel hs
  clear hs
  rename (TL.sel _ = _) => hs
  unfold gPr at hs
  split at hs
  · obtain ⟨x, e, hs⟩ := asI16_sel hs
    simp only [TL.sel, Option.some.injEq] at hs
    subst hs
    exact ⟨_, by rw [e]; exact brp x⟩
  · simp [TL.sel] at hs
noncomputable def W4 : Ctx := (W3.add 20 (mkF (spK 1 gPr))).withSym [47, 48]
theorem okW4 : COKs Try.prog gl0 W4 := (okW3.add cpr).withSym [47, 48]
end Go.Sym

namespace Go.Sym
open Go.Proofs Go.Spec
set_option linter.unusedVariables false
def bitX (s : F8) (x : Nat) : Bool := decide ((rg 32 s).getD (IntKind.i64.wrap ((254 - (x : Int)).tdiv 8)).toNat (0 : BitVec 8) >>> ((254 - (x : Int)).tmod 8).toNat &&& BitVec.ofNat 8 1 = BitVec.ofNat 8 1)
def srY (s p : F8) (x : Nat) (M : R4) : Prop := ∃ (y : Nat), 255 - y < 255 - x ∧ y.le 255 ∧ 0 = 0 ∧ 0 = 0 ∧ Bool.false = Bool.false ∧ 0 = 0 ∧ 0 = 0 ∧ 0 = 0 ∧ 0 = 0 ∧ 0 = 0 ∧ (254 : Int) - (y : Int) = IntKind.i64.wrap (254 - (x : Int) - 1) ∧ allP (fun (i : Nat) => (0 : BitVec 8) = (0 : BitVec 8)) 0 32 (allP (fun (i : Nat) => claR s i = claR s i) 0 32 (allP (fun (i : Nat) => unpR p i = unpR p i) 0 16 (allP (fun (i : Nat) => (ladR (claR s) (unpR p) y).x2 i = M.x2 i) 0 16 (allP (fun (i : Nat) => (ladR (claR s) (unpR p) y).z2 i = M.z2 i) 0 16 (allP (fun (i : Nat) => (ladR (claR s) (unpR p) y).x3 i = M.x3 i) 0 16 (allP (fun (i : Nat) => (ladR (claR s) (unpR p) y).z3 i = M.z3 i) 0 16 True))))))
/-- What Shared answers. -/
def shR (s p : F8) : F8 := pkB (pkT (mulR (re16 (ladR (claR s) (unpR p) 255).x2) (re16 (ivR (re16 (ladR (claR s) (unpR p) 255).z2) 254))) 2)
def shXr (s p : F8) (x : Nat) : F8 := pkB (pkT (re16 (mulR (re16 (ladR (claR s) (unpR p) x).x2) (re16 (ivR (re16 (ladR (claR s) (unpR p) x).z2) 254)))) 2)
def nzR (z : F8) : Bool := !andP (fun (i : Nat) => decide (z i = BitVec.ofNat 8 0)) 0 32 true
def srI (s p : F8) : Prop := ∃ (x : Nat), x.le 255 ∧ 0 = 0 ∧ 0 = 0 ∧ Bool.false = Bool.false ∧ 0 = 0 ∧ 0 = 0 ∧ 0 = 0 ∧ 0 = 0 ∧ 0 = 0 ∧ (254 : Int) - (x : Int) = (254 : Int) ∧ allP (fun (i : Nat) => (0 : BitVec 8) = BitVec.ofNat 8 0) 0 32 (claR s 0 = s 0 / BitVec.ofNat 8 8 * BitVec.ofNat 8 8 ∧ allP (fun (i : Nat) => claR s i = s i) 1 30 (claR s 31 = s 31 % BitVec.ofNat 8 64 + BitVec.ofNat 8 64 ∧ allP (fun (i : Nat) => unpR p i = unpR (fun (i : Nat) => (rg 32 p).getD i (0 : BitVec 8)) i) 0 16 ((ladR (claR s) (unpR p) x).x2 0 = (1 : Int) ∧ allP (fun (i : Nat) => (ladR (claR s) (unpR p) x).x2 i = (0 : Int)) 1 15 (allP (fun (i : Nat) => (ladR (claR s) (unpR p) x).z2 i = (0 : Int)) 0 16 (allP (fun (i : Nat) => (ladR (claR s) (unpR p) x).x3 i = unpR (fun (i : Nat) => (rg 32 p).getD i (0 : BitVec 8)) i) 0 16 ((ladR (claR s) (unpR p) x).z3 0 = (1 : Int) ∧ allP (fun (i : Nat) => (ladR (claR s) (unpR p) x).z3 i = (0 : Int)) 1 15 True))))))
set_option maxRecDepth 100000 in
set_option maxHeartbeats 0 in
theorem vsr (s p z : F8) (q : Bool) : bodyP Try.prog W4 gl0 [] [(7, lsSr s p)] 3000 Try.f7 0 [aggB 32 s, aggB 32 p] [] (retQ Try.prog Try.f7 0 ⟨[], .tup [aggB 32 z, .bool q], [], []⟩) = (
  srI s p ∧ ∀ (x : Nat), x.le 255 →
      @Bool.rec (fun _ => Prop) (allP (fun (i : Nat) => z i = shXr s p x i) 0 32 (q = nzR (shXr s p x) ∧ True))
        ((0 : Int) ≤ IntKind.i64.wrap ((254 - (x : Int)).tdiv 8) ∧
          (IntKind.i64.wrap ((254 - (x : Int)).tdiv 8)).toNat < 32 ∧
            (IntKind.i64.wrap ((254 - (x : Int)).tdiv 8)).toNat < (rg 32 (claR s)).length ∧
              (0 : Int) ≤ (254 - (x : Int)).tmod 8 ∧
                @Bool.rec (fun _ => Prop) (@Bool.rec (fun _ => Prop) (srY s p x (stepR (unpR p) (ladR (claR s) (unpR p) x))) (srY s p x (swapR true (stepR (unpR p) (ladR (claR s) (unpR p) x)))) (bitX (claR s) x))
                  (@Bool.rec (fun _ => Prop) (srY s p x (stepR (unpR p) (swapR true (ladR (claR s) (unpR p) x)))) (srY s p x (swapR true (stepR (unpR p) (swapR true (ladR (claR s) (unpR p) x))))) (bitX (claR s) x)) (bitX (claR s) x))
        (decide ((0 : Int) ≤ 254 - (x : Int)))) := by kernel_rfl
end Go.Sym

namespace Go.Sym
open Go.Proofs Go.Spec
set_option linter.unusedVariables false
theorem bitX_eq (s : F8) (x : Nat) (h : x ≤ 254) : bitX s x = bitR s (254 - x) := by
  unfold bitX bitR
  have e : (254 : Int) - (x : Int) = ((254 - x : Nat) : Int) := by omega
  rw [e]
  generalize 254 - x = k at *
  have e1 : IntKind.i64.wrap (((k : Nat) : Int).tdiv 8) = ((k / 8 : Nat) : Int) := by
    rw [show ((k : Nat) : Int).tdiv 8 = ((k / 8 : Nat) : Int) from rfl]
    exact wrap_nat (k / 8) (by omega) (by omega)
  have e2 : ((k : Nat) : Int).tmod 8 = ((k % 8 : Nat) : Int) := rfl
  rw [e1, e2, Int.toNat_natCast, Int.toNat_natCast, rg_getD 32 s (k / 8) _ (by omega)]
theorem srY_of (s p : F8) (x : Nat) (M : R4) (h : x ≤ 254) (e : ladR (claR s) (unpR p) (x + 1) = M) : srY s p x M := by
  subst e
  exact ⟨x + 1, by omega, (by show x + 1 ≤ 255; omega), rfl, rfl, rfl, rfl, rfl, rfl, rfl, rfl, (by rw [wrap_i64 (by omega) (by omega)]; omega), allP_of _ _ (fun _ _ _ => rfl) (allP_of _ _ (fun _ _ _ => rfl) (allP_of _ _ (fun _ _ _ => rfl) (allP_of _ _ (fun _ _ _ => rfl) (allP_of _ _ (fun _ _ _ => rfl) (allP_of _ _ (fun _ _ _ => rfl) (allP_of _ _ (fun _ _ _ => rfl) trivial))))))⟩
theorem frU (p : F8) (i : Nat) (hi : i < 16) : unpR (fun (i : Nat) => (rg 32 p).getD i (0 : BitVec 8)) i = unpR p i := by
  unfold unpR
  split
  · rfl
  · show w64 ((((rg 32 p).getD (2 * i) (0 : BitVec 8)).toNat : Int) + w64 ((((rg 32 p).getD (2 * i + 1) (0 : BitVec 8)).toNat : Int) * 256)) = _
    rw [rg_getD 32 p (2 * i) _ (by omega), rg_getD 32 p (2 * i + 1) _ (by omega)]
theorem re16_2 (f : I16) : re16 (re16 f) = re16 f := rfl
theorem pkT_re (x : I16) : ∀ r, pkT (re16 x) r = pkT x r
  | 0 => by rw [pkT, pkT, re16_2]
  | r + 1 => by rw [pkT, pkT, pkT_re x r]
theorem shXr_R (s p : F8) : shXr s p 255 = shR s p := by
  unfold shXr shR
  rw [pkT_re]
theorem brShr (s p : F8) : Must (bodyP Try.prog W4 gl0 [] [(7, lsSr s p)] 3000 Try.f7 0 [aggB 32 s, aggB 32 p] [] (retQ Try.prog Try.f7 0 ⟨[], .tup [aggB 32 (shR s p), .bool (nzR (shR s p))], [], []⟩)) := by
  constructor
  rw [vsr]
  refine ⟨⟨0, Nat.zero_le _, rfl, rfl, rfl, rfl, rfl, rfl, rfl, rfl, rfl, allP_of _ _ (fun _ _ _ => rfl) ⟨rfl, allP_of _ _ (fun i h1 h2 => ?_) ⟨rfl, allP_of _ _ (fun i _ h => (frU p i (by omega)).symm) ⟨rfl, allP_of _ _ (fun i h1 h2 => ?_) (allP_of _ _ (fun _ _ _ => rfl) (allP_of _ _ (fun i _ h => (frU p i (by omega)).symm) ⟨rfl, allP_of _ _ (fun i h1 h2 => ?_) trivial⟩))⟩⟩⟩⟩, ?_⟩
  · exact (if_neg (by omega)).trans (if_neg (by omega))
  · exact if_neg (by omega)
  · exact if_neg (by omega)
  intro x hx
  have hx : x ≤ 255 := hx
  refine brec (fun d => ?_) (fun d => ?_)
  · have d : (0 : Int) ≤ 254 - (x : Int) := of_decide_eq_true d
    have hl : x ≤ 254 := by omega
    have e : (254 : Int) - (x : Int) = ((254 - x : Nat) : Int) := by omega
    have e1 : IntKind.i64.wrap ((254 - (x : Int)).tdiv 8) = (((254 - x) / 8 : Nat) : Int) := by
      rw [e]
      exact wrap_nat ((254 - x) / 8) rfl (by omega)
    have e2 : (254 - (x : Int)).tmod 8 = (((254 - x) % 8 : Nat) : Int) := by rw [e]; rfl
    have hb := bitX_eq (claR s) x hl
    refine ⟨by rw [e1]; omega, by rw [e1]; omega, by rw [e1, rg_length]; omega, by rw [e2]; omega, ?_⟩
    refine brec (fun d1 => brec (fun d2 => srY_of s p x _ hl ?_) (fun d2 => absurd (d1.symm.trans d2) (by decide))) (fun d1 => brec (fun d2 => absurd (d1.symm.trans d2) (by decide)) (fun d2 => srY_of s p x _ hl ?_))
    · rw [ladR, ← hb, d1]
    · rw [ladR, ← hb, d1]
      rfl
  · have d : ¬ (0 : Int) ≤ 254 - (x : Int) := of_decide_eq_false d
    obtain rfl : x = 255 := by omega
    rw [shXr_R]
    exact allP_of _ _ (fun _ _ _ => rfl) ⟨rfl, trivial⟩
end Go.Sym
