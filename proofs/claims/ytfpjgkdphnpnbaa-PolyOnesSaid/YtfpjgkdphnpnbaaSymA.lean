/- A machine of known values: what each operation does to them, and that this is what the model does. -/
import Derived.Calls
import Derived.Orders
import Derived.Laws.Cells
import Derived.Laws.AppendOwn
import Derived.Laws.StructEq
/- The symbolic machine: abstract values, heaps, and how they stand to the model's. -/
namespace Go.Sym
set_option linter.unusedVariables false

/-- What is known of a value. An address is a number of an abstract block, and a place in it. -/
inductive AV where
  | any
  | bool (b : Bool)
  | u8 (x : BitVec 8)
  | u16 (x : BitVec 16)
  | u32 (x : BitVec 32)
  | u64 (x : BitVec 64)
  | int (k : IntKind) (n : Int)
  | str (s : ByteArray)
  | nilp
  | ptr (i o : Nat)
  | slice (i o n c : Nat)
  | agg (cs : List AV)
  | tup (vs : List AV)
  | raw (v : Value)
  deriving Inhabited

abbrev Rho := Nat → Option (Nat × Nat)

mutual
def VRel (ρ : Rho) : AV → Value → Prop
  | .any, _ => True
  | .bool b, v => v = .bool b
  | .u8 x, v => v = .int .u8 x.toNat
  | .u16 x, v => v = .int .u16 x.toNat
  | .u32 x, v => v = .int .u32 x.toNat
  | .u64 x, v => v = .int .u64 x.toNat
  | .int k n, v => v = .int k n
  | .str s, v => v = .string s
  | .nilp, v => v = .pointer none
  | .ptr i o, v => ∃ B O, ρ i = some (B, O) ∧ v = .pointer (some ⟨B, O + o, none⟩)
  | .slice i o n c, v => (∃ B O, ρ i = some (B, O) ∧ v = .slice (some ⟨B, O + o, none⟩) n c) ∨ (n = 0 ∧ c = 0 ∧ ∃ a, v = .slice a 0 0)
  | .agg cs, v => ∃ vs : Array Value, v = .agg vs ∧ VRels ρ cs vs.toList
  | .tup cs, v => ∃ vs : Array Value, v = .tuple vs ∧ VRels ρ cs vs.toList
  | .raw u, v => v = u
def VRels (ρ : Rho) : List AV → List Value → Prop
  | [], vs => vs = []
  | a :: as, vs => ∃ x xs, vs = x :: xs ∧ VRel ρ a x ∧ VRels ρ as xs
end

def Rho.le (ρ ρ' : Rho) : Prop := ∀ i p, ρ i = some p → ρ' i = some p
theorem Rho.le_refl (ρ : Rho) : ρ.le ρ := fun _ _ h => h
theorem Rho.le_trans {a b c : Rho} (h : a.le b) (k : b.le c) : a.le c := fun i p hp => k i p (h i p hp)

mutual
theorem VRel.mono {ρ ρ' : Rho} (h : ρ.le ρ') : ∀ (a : AV) (v : Value), VRel ρ a v → VRel ρ' a v
  | .any, _, _ => trivial
  | .bool _, _, hv => hv
  | .u8 _, _, hv => hv
  | .u16 _, _, hv => hv
  | .u32 _, _, hv => hv
  | .u64 _, _, hv => hv
  | .int _ _, _, hv => hv
  | .str _, _, hv => hv
  | .nilp, _, hv => hv
  | .ptr i o, v, hv => by
    obtain ⟨B, O, h1, h2⟩ := hv
    exact ⟨B, O, h _ _ h1, h2⟩
  | .slice i o n c, v, hv => by
    rcases hv with ⟨B, O, h1, h2⟩ | h0
    · exact .inl ⟨B, O, h _ _ h1, h2⟩
    · exact .inr h0
  | .agg cs, v, hv => by
    obtain ⟨vs, h1, h2⟩ := hv
    exact ⟨vs, h1, VRels.mono h cs _ h2⟩
  | .tup cs, v, hv => by
    obtain ⟨vs, h1, h2⟩ := hv
    exact ⟨vs, h1, VRels.mono h cs _ h2⟩
  | .raw _, _, hv => hv
theorem VRels.mono {ρ ρ' : Rho} (h : ρ.le ρ') : ∀ (as : List AV) (vs : List Value), VRels ρ as vs → VRels ρ' as vs
  | [], _, hv => hv
  | a :: as, vs, hv => by
    obtain ⟨x, xs, h1, h2, h3⟩ := hv
    exact ⟨x, xs, h1, VRel.mono h a x h2, VRels.mono h as xs h3⟩
end

theorem VRels.length {ρ : Rho} : ∀ {as : List AV} {vs : List Value}, VRels ρ as vs → as.length = vs.length
  | [], _, h => by simp only [VRels] at h; subst h; rfl
  | a :: as, _, h => by
    obtain ⟨x, xs, rfl, _, h3⟩ := h
    simp [VRels.length h3]

theorem VRels.get {ρ : Rho} : ∀ {as : List AV} {vs : List Value}, VRels ρ as vs → ∀ {i : Nat} {a : AV}, as[i]? = some a → ∃ x, vs[i]? = some x ∧ VRel ρ a x
  | [], _, _, i, a, hi => by simp at hi
  | b :: as, _, h, i, a, hi => by
    obtain ⟨x, xs, rfl, h2, h3⟩ := h
    cases i with
    | zero => simp at hi; subst hi; exact ⟨x, by simp, h2⟩
    | succ i => simp at hi; simpa using VRels.get h3 hi

theorem VRels.of_get {ρ : Rho} : ∀ {as : List AV} {vs : List Value}, as.length = vs.length → (∀ (i : Nat) a x, as[i]? = some a → vs[i]? = some x → VRel ρ a x) → VRels ρ as vs
  | [], vs, hl, _ => by simp at hl; simp only [VRels]; exact (List.eq_nil_of_length_eq_zero hl.symm)
  | a :: as, [], hl, _ => by simp at hl
  | a :: as, x :: xs, hl, h => ⟨x, xs, rfl, h 0 a x rfl rfl, VRels.of_get (by simpa using hl) (fun i b y hb hy => h (i + 1) b y (by simpa using hb) (by simpa using hy))⟩

theorem VRels.append {ρ : Rho} : ∀ {as bs : List AV} {vs us : List Value}, VRels ρ as vs → VRels ρ bs us → VRels ρ (as ++ bs) (vs ++ us)
  | [], _, _, _, h, k => by simp only [VRels] at h; subst h; simpa using k
  | a :: as, _, _, _, h, k => by
    obtain ⟨x, xs, rfl, h2, h3⟩ := h
    exact ⟨x, xs ++ _, rfl, h2, VRels.append h3 k⟩

theorem VRels.take {ρ : Rho} (n : Nat) : ∀ {as : List AV} {vs : List Value}, VRels ρ as vs → VRels ρ (as.take n) (vs.take n) := by
  induction n with
  | zero => intro as vs _; simp [VRels]
  | succ n ih =>
    intro as vs h
    cases as with
    | nil => simp only [VRels] at h; subst h; simp [VRels]
    | cons a as =>
      obtain ⟨x, xs, rfl, h2, h3⟩ := h
      exact ⟨x, xs.take n, rfl, h2, ih h3⟩

theorem VRels.drop {ρ : Rho} (n : Nat) : ∀ {as : List AV} {vs : List Value}, VRels ρ as vs → VRels ρ (as.drop n) (vs.drop n) := by
  induction n with
  | zero => intro as vs h; simpa using h
  | succ n ih =>
    intro as vs h
    cases as with
    | nil => simp only [VRels] at h; subst h; simp [VRels]
    | cons a as =>
      obtain ⟨x, xs, rfl, h2, h3⟩ := h
      simpa using ih h3

/-- A value of one cell, whatever it stands for. -/
def AV.scal : AV → Bool
  | .any | .agg _ | .tup _ => false
  | .raw v => v.oneCell'
  | _ => true

theorem VRel.oneCell {ρ : Rho} {a : AV} {v : Value} (h : VRel ρ a v) (hs : a.scal = true) : v.oneCell' = true := by
  cases a <;> simp only [AV.scal, Bool.false_eq_true] at hs <;> simp only [VRel] at h
  case ptr => obtain ⟨B, O, _, rfl⟩ := h; rfl
  case slice => rcases h with ⟨B, O, _, rfl⟩ | ⟨_, _, _, rfl⟩ <;> rfl
  case raw => subst h; exact hs
  all_goals (subst h; rfl)

/-- The cells of a value that can lie in memory. -/
def AV.cells : AV → Option (List AV)
  | .agg cs => if cs.all AV.scal then some cs else none
  | a => if a.scal then some [a] else none

theorem VRel.cells {ρ : Rho} {a : AV} {v : Value} {cs : List AV} (h : VRel ρ a v) (hc : a.cells = some cs) :
    VRels ρ cs v.cells.toList ∧ (∀ x ∈ v.cells.toList, x.oneCell' = true) := by
  have one : ∀ (b : AV), b.scal = true → VRel ρ b v → VRels ρ [b] v.cells.toList ∧ (∀ x ∈ v.cells.toList, x.oneCell' = true) := by
    intro b hb hv
    have h1 := hv.oneCell hb
    have hcells : v.cells = #[v] := by cases v <;> simp_all [Value.cells, Value.oneCell']
    rw [hcells]
    exact ⟨⟨v, [], rfl, hv, rfl⟩, by simpa using h1⟩
  cases a
  case agg as =>
    simp only [AV.cells] at hc
    split at hc
    · rename_i hall
      simp at hc
      subst hc
      obtain ⟨vs, rfl, h2⟩ := h
      refine ⟨h2, ?_⟩
      intro x hx
      simp only [Value.cells] at hx
      obtain ⟨i, hi⟩ := List.getElem?_of_mem hx
      have hlt : i < as.length := by
        rw [h2.length]; exact (List.getElem?_eq_some_iff.1 hi).1
      obtain ⟨y, hy, hr⟩ := h2.get (List.getElem?_eq_getElem hlt)
      rw [hi] at hy
      simp at hy
      subst hy
      exact hr.oneCell (List.all_eq_true.1 hall _ (List.getElem_mem hlt))
    · simp at hc
  all_goals
    simp only [AV.cells] at hc
    split at hc
    · rename_i hs
      simp at hc
      subst hc
      exact one _ hs h
    · simp at hc

structure ABlk where
  cells : List AV
  wr : Bool
  deriving Inhabited

abbrev H := Nat → Option ABlk
def upd (h : H) (i : Nat) (b : ABlk) : H := fun j => if j = i then some b else h j
def H.le (h k : H) : Prop := ∀ i b, h i = some b → k i = some b
def H.empty : H := fun _ => none

/-- The run-time's mark on a block lies behind its cells. -/
def Marked (w : World) (B : Nat) : Prop := ∃ c t lo hi, w.heap[B]? = some (.cells c t (lo, hi)) ∧ (lo = hi ∨ c.size ≤ lo)
theorem Marked.same {w w' : World} {B : Nat} (h : Marked w B) (hs : w'.heap[B]? = w.heap[B]?) : Marked w' B := by
  obtain ⟨c, t, lo, hi, hc, h2⟩ := h
  exact ⟨c, t, lo, hi, by rw [hs]; exact hc, h2⟩
theorem Marked.setCell {w : World} {B : Nat} (h : Marked w B) (a : Addr) (v : Value) : Marked (w.setCell a v) B := by
  obtain ⟨c, t, lo, hi, hc, h2⟩ := h
  by_cases he : a.block = B
  · refine ⟨if a.spot.isSome then c else c.setIfInBounds a.off v, t, lo, hi, ?_, ?_⟩
    · simp only [World.setCell, Array.getElem?_modify, he, if_true, hc, Option.map_some]
    · split
      · exact h2
      · simpa using h2
  · exact ⟨c, t, lo, hi, by simp only [World.setCell, Array.getElem?_modify, he, if_false]; exact hc, h2⟩

structure HRel (M : Nat → Prop) (w : World) (ρ : Rho) (h : H) : Prop where
  blk : ∀ i b, h i = some b → ∃ B O, ρ i = some (B, O) ∧ (b.wr = true → M B ∧ B < w.heap.size ∧ Marked w B) ∧
    ∀ off a, b.cells[off]? = some a → (∃ x, w.cell? ⟨B, O + off, none⟩ = some x ∧ VRel ρ a x) ∧ (b.wr = true → w.frozen? ⟨B, O + off, none⟩ = false)
  sep : ∀ i j b b' B O B' O', h i = some b → h j = some b' → i ≠ j → b.wr = true → b'.cells ≠ [] → ρ i = some (B, O) → ρ j = some (B', O') → B ≠ B'

/-- Nothing is changed but blocks of M. -/
structure Only (M : Nat → Prop) (w w' : World) : Prop where
  os : w'.os = w.os
  tape : w'.tape = w.tape
  output : w'.output = w.output
  size : w.heap.size ≤ w'.heap.size
  block : ∀ k, k < w.heap.size → ¬ M k → w'.heap[k]? = w.heap[k]?

theorem Only.refl (M : Nat → Prop) (w : World) : Only M w w := ⟨rfl, rfl, rfl, Nat.le_refl _, fun _ _ _ => rfl⟩
theorem Only.trans {M : Nat → Prop} {a b c : World} (h : Only M a b) (k : Only M b c) : Only M a c :=
  ⟨k.os.trans h.os, k.tape.trans h.tape, k.output.trans h.output, Nat.le_trans h.size k.size, fun i hi hm => (k.block i (Nat.lt_of_lt_of_le hi h.size) hm).trans (h.block i hi hm)⟩
theorem Only.mono {M N : Nat → Prop} {w w' : World} (h : Only M w w') (hs : ∀ k, k < w.heap.size → M k → N k) : Only N w w' :=
  ⟨h.os, h.tape, h.output, h.size, fun i hi hm => h.block i hi (fun hM => hm (hs i hi hM))⟩
theorem Only.alloc (M : Nat → Prop) (w : World) (o : Obj) : Only M w (w.alloc o) :=
  ⟨rfl, rfl, rfl, by simp, fun k hk _ => heap_alloc_old w o k hk⟩
theorem Only.drew (M : Nat → Prop) (w : World) : Only M w w.drew := ⟨rfl, rfl, rfl, Nat.le_refl _, fun _ _ _ => rfl⟩
theorem Only.setCell {M : Nat → Prop} (w : World) (a : Addr) (v : Value) (hM : M a.block) : Only M w (w.setCell a v) :=
  ⟨rfl, rfl, rfl, by simp, fun k hk hm => heap_setCell_other w a k v (fun e => hm (e ▸ hM))⟩

theorem cell_block_lt {w : World} {a : Addr} {v : Value} (h : w.cell? a = some v) : a.block < w.heap.size := World.block_lt_of_cell? w a h

/-- A world in which only other blocks have turned. -/
theorem HRel.world {M : Nat → Prop} {w w' : World} {ρ : Rho} {h : H} (r : HRel M w ρ h) (hs : w.heap.size ≤ w'.heap.size)
    (hb : ∀ i b B O, h i = some b → ρ i = some (B, O) → B < w.heap.size → w'.heap[B]? = w.heap[B]?) : HRel M w' ρ h := by
  refine ⟨?_, r.sep⟩
  intro i b hi
  obtain ⟨B, O, h1, h2, h3⟩ := r.blk i b hi
  refine ⟨B, O, h1, fun hw => ⟨(h2 hw).1, Nat.lt_of_lt_of_le (h2 hw).2.1 hs, (h2 hw).2.2.same (hb i b B O hi h1 (h2 hw).2.1)⟩, ?_⟩
  intro off a ha
  obtain ⟨⟨x, hx, hv⟩, hf⟩ := h3 off a ha
  have hlt := cell_block_lt hx
  have hsame := hb i b B O hi h1 hlt
  exact ⟨⟨x, by rw [World.cell?_of_block (w := w) hsame]; exact hx, hv⟩, fun hw => by rw [World.frozen?_of_block (w := w) hsame]; exact hf hw⟩

theorem HRel.only {M : Nat → Prop} {w w' : World} {ρ : Rho} {h : H} (r : HRel M w ρ h) (k : Only (fun B => w.heap.size ≤ B) w w') : HRel M w' ρ h :=
  r.world k.size fun _ _ B _ _ _ hlt => k.block B hlt (by omega)

theorem HRel.le {M : Nat → Prop} {w : World} {ρ : Rho} {h k : H} (r : HRel M w ρ k) (hle : h.le k) : HRel M w ρ h :=
  ⟨fun i b hi => r.blk i b (hle i b hi), fun i j b b' B O B' O' hi hj => r.sep i j b b' B O B' O' (hle i b hi) (hle j b' hj)⟩

theorem HRel.rho {M : Nat → Prop} {w : World} {ρ ρ' : Rho} {h : H} (r : HRel M w ρ h) (hle : ρ.le ρ') : HRel M w ρ' h := by
  refine ⟨?_, ?_⟩
  · intro i b hi
    obtain ⟨B, O, h1, h2, h3⟩ := r.blk i b hi
    exact ⟨B, O, hle _ _ h1, h2, fun off a ha => let ⟨⟨x, hx, hv⟩, hf⟩ := h3 off a ha; ⟨⟨x, hx, hv.mono hle⟩, hf⟩⟩
  · intro i j b b' B O B' O' hi hj hne hw hc h1 h2
    obtain ⟨B1, O1, e1, _⟩ := r.blk i b hi
    obtain ⟨B2, O2, e2, _⟩ := r.blk j b' hj
    have f1 := hle _ _ e1
    have f2 := hle _ _ e2
    rw [h1] at f1
    rw [h2] at f2
    simp at f1 f2
    have := r.sep i j b b' B1 O1 B2 O2 hi hj hne hw hc e1 e2
    omega

def Rho.put (ρ : Rho) (i : Nat) (p : Nat × Nat) : Rho := fun j => if j = i then some p else ρ j
theorem Rho.le_put {ρ : Rho} {i : Nat} {p : Nat × Nat} (h : ρ i = none) : ρ.le (ρ.put i p) := by
  intro j q hq
  unfold Rho.put
  split
  · subst_vars; rw [h] at hq; cases hq
  · exact hq

/-- A new block. -/
theorem HRel.alloc {M : Nat → Prop} {w : World} {ρ : Rho} {h : H} (r : HRel M w ρ h) {f : Nat} (hf : ρ f = none) (hM : M w.heap.size)
    (e : TypeId) (cs : Array Value) (as : List AV) (hv : VRels ρ as cs.toList) (fz : Nat × Nat := (0, 0)) (hz : fz.1 = fz.2 ∨ cs.size ≤ fz.1 := by simp) :
    HRel M (w.alloc (.cells cs e fz)) (ρ.put f (w.heap.size, 0)) (upd h f ⟨as, true⟩) := by
  have hle : ρ.le (ρ.put f (w.heap.size, 0)) := Rho.le_put hf
  have r1 : HRel M (w.alloc (.cells cs e fz)) (ρ.put f (w.heap.size, 0)) h :=
    (r.rho hle).world (by simp) fun i b B O _ _ hlt => heap_alloc_old w _ B hlt
  have hfn : h f = none := by
    cases hh : h f with
    | none => rfl
    | some b => obtain ⟨B, O, e1, _⟩ := r.blk f b hh; rw [hf] at e1; cases e1
  refine ⟨?_, ?_⟩
  · intro i b hi
    unfold upd at hi
    split at hi
    · rename_i he
      subst he
      simp at hi
      subst hi
      refine ⟨w.heap.size, 0, by simp [Rho.put], fun _ => ⟨hM, by simp, ?_⟩, ?_⟩
      · exact ⟨cs, e, fz.1, fz.2, heap_alloc_new _ _, hz⟩
      intro off a ha
      obtain ⟨x, hx, hr⟩ := hv.get ha
      have hn := heap_alloc_new w (.cells cs e fz)
      have hx' : cs[off]? = some x := by simpa using hx
      refine ⟨⟨x, ?_, hr.mono hle⟩, fun _ => ?_⟩
      · rw [Nat.zero_add]; simp only [World.cell?, hn]; simpa using hx
      · rw [Nat.zero_add]
        have h1 := (Array.getElem?_eq_some_iff.1 hx').1
        obtain ⟨lo, hi2⟩ := fz
        simp only [World.frozen?, hn]
        simp only at hz
        simp only [Bool.and_eq_false_imp, decide_eq_true_eq, decide_eq_false_iff_not]
        intro h2 h3
        omega
    · exact r1.blk i b hi
  · intro i j b b' B O B' O' hi hj hne hw hc h1 h2
    unfold upd at hi hj
    have old : ∀ k c C D, k ≠ f → h k = some c → (ρ.put f (w.heap.size, 0)) k = some (C, D) → c.cells ≠ [] → C < w.heap.size := by
      intro k c C D hk hkc hC hcc
      obtain ⟨B1, O1, e1, _, h3⟩ := r.blk k c hkc
      have : (ρ.put f (w.heap.size, 0)) k = ρ k := by simp [Rho.put, hk]
      rw [this, e1] at hC
      simp at hC
      obtain ⟨rfl, rfl⟩ := hC
      cases hcl : c.cells with
      | nil => exact absurd hcl hcc
      | cons a0 rest =>
        obtain ⟨⟨x, hx, _⟩, _⟩ := h3 0 a0 (by simp [hcl])
        exact cell_block_lt hx
    split at hi
    · rename_i he
      subst he
      split at hj
      · rename_i he2; exact absurd he2.symm hne
      · have hlt := old j b' B' O' (Ne.symm hne) hj h2 hc
        simp [Rho.put] at h1
        omega
    · rename_i hni
      split at hj
      · rename_i he
        subst he
        have hB : B < w.heap.size := by
          obtain ⟨B1, O1, e1, h2', _⟩ := r.blk i b hi
          have : (ρ.put j (w.heap.size, 0)) i = ρ i := by simp [Rho.put, hni]
          rw [this, e1] at h1
          simp at h1
          exact h1.1 ▸ (h2' hw).2.1
        simp [Rho.put] at h2
        omega
      · exact r1.sep i j b b' B O B' O' hi hj hne hw hc h1 h2

/-- A store of one cell. -/
theorem HRel.store {M : Nat → Prop} {w : World} {ρ : Rho} {h : H} (r : HRel M w ρ h) {i : Nat} {b : ABlk} {B O off : Nat} {a : AV} {x : Value}
    (hi : h i = some b) (hw : b.wr = true) (hρ : ρ i = some (B, O)) (hoff : off < b.cells.length) (hv : VRel ρ a x) :
    HRel M (w.setCell ⟨B, O + off, none⟩ x) ρ (upd h i ⟨b.cells.set off a, true⟩) := by
  obtain ⟨B1, O1, e1, h2, h3⟩ := r.blk i b hi
  rw [hρ] at e1
  simp at e1
  obtain ⟨rfl, rfl⟩ := e1
  refine ⟨?_, ?_⟩
  · intro j c hj
    unfold upd at hj
    split at hj
    · rename_i he
      subst he
      simp at hj
      subst hj
      refine ⟨B, O, hρ, fun _ => ⟨(h2 hw).1, by simpa using (h2 hw).2.1, (h2 hw).2.2.setCell _ _⟩, ?_⟩
      intro o2 a2 ha2
      simp only [List.getElem?_set] at ha2
      split at ha2
      · rename_i he
        subst he
        have : a2 = a := by simp_all
        subst this
        obtain ⟨⟨y, hy, _⟩, hf⟩ := h3 off _ (List.getElem?_eq_getElem hoff)
        exact ⟨⟨x, World.cell?_setCell_same w _ x hy, hv⟩, fun _ => by rw [World.frozen?_setCell]; exact hf hw⟩
      · rename_i hne
        obtain ⟨⟨y, hy, hvy⟩, hf⟩ := h3 o2 a2 ha2
        refine ⟨⟨y, ?_, hvy⟩, fun _ => by rw [World.frozen?_setCell]; exact hf hw⟩
        rw [World.cell?_setCell_other]
        · exact hy
        · intro he
          simp at he
          omega
    · rename_i hne
      obtain ⟨B2, O2, e2, k2, k3⟩ := r.blk j c hj
      refine ⟨B2, O2, e2, fun hc => ⟨(k2 hc).1, by simpa using (k2 hc).2.1, (k2 hc).2.2.setCell _ _⟩, ?_⟩
      intro o2 a2 ha2
      obtain ⟨⟨y, hy, hvy⟩, hf⟩ := k3 o2 a2 ha2
      refine ⟨⟨y, ?_, hvy⟩, fun hc => by rw [World.frozen?_setCell]; exact hf hc⟩
      rw [World.cell?_setCell_other]
      · exact hy
      · intro he
        simp at he
        have := r.sep i j b c B O B2 O2 hi hj (Ne.symm hne) hw (by intro hn; rw [hn] at ha2; simp at ha2) hρ e2
        exact this he.1
  · intro j k c c' C D C' D' hj hk hne hcw hcc e1 e2
    unfold upd at hj hk
    have ne1 : b.cells ≠ [] := by intro hn; rw [hn] at hoff; simp at hoff
    split at hj
    · rename_i he
      subst he
      split at hk
      · rename_i he2; exact absurd he2.symm hne
      · exact r.sep j k b c' C D C' D' hi hk hne hw hcc e1 e2
    · split at hk
      · rename_i he
        subst he
        exact r.sep j k c b C D C' D' hj hi hne hcw ne1 e1 e2
      · exact r.sep j k c c' C D C' D' hj hk hne hcw hcc e1 e2

end Go.Sym

/- What an operation does to what is known. -/
namespace Go.Sym
set_option linter.unusedVariables false

def GB : Nat := 1000000000000
def STR : Nat := 4096

def absC : Value → AV
  | .bool b => .bool b
  | .int k n =>
    match k with
    | .u8 => if 0 ≤ n ∧ n < 256 then .u8 (BitVec.ofNat 8 n.toNat) else .raw (.int k n)
    | .u16 => if 0 ≤ n ∧ n < 65536 then .u16 (BitVec.ofNat 16 n.toNat) else .raw (.int k n)
    | .u32 => if 0 ≤ n ∧ n < 4294967296 then .u32 (BitVec.ofNat 32 n.toNat) else .raw (.int k n)
    | .u64 => if 0 ≤ n ∧ n < 18446744073709551616 then .u64 (BitVec.ofNat 64 n.toNat) else .raw (.int k n)
    | k => .int k n
  | .string s => .str s
  | .pointer none => .nilp
  | .slice none 0 0 => .slice 0 0 0 0
  | v => .raw v

theorem absC_rel (ρ : Rho) (v : Value) : VRel ρ (absC v) v := by
  unfold absC
  split
  · rfl
  · split
    · split
      · simp only [VRel, BitVec.toNat_ofNat]; congr 1; omega
      · rfl
    · split
      · simp only [VRel, BitVec.toNat_ofNat]; congr 1; omega
      · rfl
    · split
      · simp only [VRel, BitVec.toNat_ofNat]; congr 1; omega
      · rfl
    · split
      · simp only [VRel, BitVec.toNat_ofNat]; congr 1; omega
      · rfl
    · rfl
  · rfl
  · rfl
  · exact .inr ⟨rfl, rfl, none, rfl⟩
  · rfl

abbrev Env := Nat → AV
def Env.put (e : Env) (t : Nat) (a : AV) : Env := fun s => if s = t then a else e s

def aeval (e : Env) : Operand → AV
  | .tmp t => e t
  | .const v => absC v
  | .global g => .ptr (GB + g) 0
  | .func f => .raw (.func (.func f) #[] #[])

/-- A number as it stands in a value. -/
def AV.num : AV → Option Int
  | .u8 x => some x.toNat
  | .u16 x => some x.toNat
  | .u32 x => some x.toNat
  | .u64 x => some x.toNat
  | .int _ n => some n
  | _ => none
def AV.idx : AV → Option Nat
  | .u8 x => some x.toNat
  | .u16 x => some x.toNat
  | .u32 x => some x.toNat
  | .u64 x => some x.toNat
  | .int _ (.ofNat n) => some n
  | _ => none

def ofNum (k : IntKind) (n : Int) : AV :=
  match k with
  | .u8 => .u8 (BitVec.ofInt 8 n)
  | .u16 => .u16 (BitVec.ofInt 16 n)
  | .u32 => .u32 (BitVec.ofInt 32 n)
  | .u64 => .u64 (BitVec.ofInt 64 n)
  | k => .int k (k.wrap n)

def abinU {w : Nat} (mk : BitVec w → AV) (op : BinOp) (x y : BitVec w) : Option AV :=
  match op with
  | .add => some (mk (x + y))
  | .sub => some (mk (x - y))
  | .mul => some (mk (x * y))
  | .quo => if y.toNat = 0 then none else some (mk (x / y))
  | .rem => if y.toNat = 0 then none else some (mk (x % y))
  | .and => some (mk (x &&& y))
  | .or => some (mk (x ||| y))
  | .xor => some (mk (x ^^^ y))
  | .andNot => some (mk (x &&& ~~~y))
  | .eql => some (.bool (decide (x = y)))
  | .neq => some (.bool (!decide (x = y)))
  | .lss => some (.bool (decide (x.toNat < y.toNat)))
  | .leq => some (.bool (decide (x.toNat ≤ y.toNat)))
  | .gtr => some (.bool (decide (y.toNat < x.toNat)))
  | .geq => some (.bool (decide (y.toNat ≤ x.toNat)))
  | _ => none

def abinI (k : IntKind) (op : BinOp) (x y : Int) : Option AV :=
  match op with
  | .add => some (.int k (k.wrap (x + y)))
  | .sub => some (.int k (k.wrap (x - y)))
  | .mul => some (.int k (k.wrap (x * y)))
  | .quo => if y = 0 then none else some (.int k (k.wrap (x.tdiv y)))
  | .rem => if y = 0 then none else some (.int k (x.tmod y))
  | .and => some (.int k (k.wrap (BitVec.ofInt k.bits x &&& BitVec.ofInt k.bits y).toNat))
  | .or => some (.int k (k.wrap (BitVec.ofInt k.bits x ||| BitVec.ofInt k.bits y).toNat))
  | .xor => some (.int k (k.wrap (BitVec.ofInt k.bits x ^^^ BitVec.ofInt k.bits y).toNat))
  | .andNot => some (.int k (k.wrap (BitVec.ofInt k.bits x &&& ~~~(BitVec.ofInt k.bits y)).toNat))
  | .eql => some (.bool (decide (x = y)))
  | .neq => some (.bool (!decide (x = y)))
  | .lss => some (.bool (decide (x < y)))
  | .leq => some (.bool (decide (x ≤ y)))
  | .gtr => some (.bool (decide (y < x)))
  | .geq => some (.bool (decide (y ≤ x)))
  | _ => none

def ashl (a : AV) (m : Nat) : Option AV :=
  match a with
  | .u8 x => some (.u8 (x <<< m))
  | .u16 x => some (.u16 (x <<< m))
  | .u32 x => some (.u32 (x <<< m))
  | .u64 x => some (.u64 (x <<< m))
  | .int k x => some (.int k (k.wrap (x * 2 ^ (min m k.bits))))
  | _ => none
def ashr (a : AV) (m : Nat) : Option AV :=
  match a with
  | .u8 x => some (.u8 (x >>> m))
  | .u16 x => some (.u16 (x >>> m))
  | .u32 x => some (.u32 (x >>> m))
  | .u64 x => some (.u64 (x >>> m))
  | .int k x => some (.int k (x.fdiv (2 ^ (min m k.bits))))
  | _ => none

/-- Are two plain numbers one? -/
def eqHead : AV → AV → Option Bool
  | .u8 x, .u8 y => some (decide (x = y))
  | .u16 x, .u16 y => some (decide (x = y))
  | .u32 x, .u32 y => some (decide (x = y))
  | .u64 x, .u64 y => some (decide (x = y))
  | .int k x, .int k' y => if k = k' then some (decide (x = y)) else none
  | _, _ => none
/-- Are two rows of plain numbers one? -/
def eqCells : List AV → List AV → Option Bool
  | [], [] => some true
  | a :: as, b :: bs =>
    match eqHead a b, eqCells as bs with
    | some p, some q => some (p && q)
    | _, _ => none
  | _, _ => none

def abin0 (P : Program) (op : BinOp) (t : TypeId) (a b : AV) : Option AV :=
  match a, b with
  | .u8 x, .u8 y => abinU .u8 op x y
  | .u16 x, .u16 y => abinU .u16 op x y
  | .u32 x, .u32 y => abinU .u32 op x y
  | .u64 x, .u64 y => abinU .u64 op x y
  | .int k x, .int k' y => if k = k' then abinI k op x y else none
  | .str x, .str y =>
    match op with
    | .eql => some (.bool (x == y))
    | .neq => some (.bool (!(x == y)))
    | .add => if x.size + y.size ≤ 9223372036854775807 then some (.str (x ++ y)) else none
    | _ => none
  | .bool x, .bool y =>
    match P.underlying t, op with
    | some .bool, .eql => some (.bool (x == y))
    | some .bool, .neq => some (.bool (!(x == y)))
    | _, _ => none
  | .agg xs, .agg ys =>
    match P.underlying t with
    | some (.array n e) =>
      match P.underlying e, P.info? e with
      | some (.int _), some i =>
        if i.size = 1 ∧ xs.length = n ∧ P.eqGuardType P.depth t = false then
          match op with
          | .eql => (eqCells xs ys).map .bool
          | .neq => (eqCells xs ys).map (fun b => .bool (!b))
          | _ => none
        else none
      | _, _ => none
    | _ => none
  | _, _ => none

def abin (P : Program) (op : BinOp) (t : TypeId) (a b : AV) : Option AV :=
  match op with
  | .shl => (AV.idx b).bind (ashl a)
  | .shr => (AV.idx b).bind (ashr a)
  | _ => abin0 P op t a b

def aun (op : UnOp) (a : AV) : Option AV :=
  match op, a with
  | .neg, .u8 x => some (.u8 (0 - x))
  | .neg, .u16 x => some (.u16 (0 - x))
  | .neg, .u32 x => some (.u32 (0 - x))
  | .neg, .u64 x => some (.u64 (0 - x))
  | .neg, .int k n => some (.int k (k.wrap (0 - n)))
  | .xor, .u8 x => some (.u8 (~~~x))
  | .xor, .u16 x => some (.u16 (~~~x))
  | .xor, .u32 x => some (.u32 (~~~x))
  | .xor, .u64 x => some (.u64 (~~~x))
  | .not, .bool b => some (.bool (!b))
  | _, _ => none

/-- A number as another kind of number. -/
def acast (k : IntKind) (a : AV) : Option AV :=
  match a, k with
  | .u8 x, .i64 => some (.int .i64 x.toNat)
  | .u16 x, .i64 => some (.int .i64 x.toNat)
  | .u32 x, .i64 => some (.int .i64 x.toNat)
  | .u8 x, .u8 => some (.u8 x)
  | .u8 x, .u16 => some (.u16 (x.setWidth 16))
  | .u8 x, .u32 => some (.u32 (x.setWidth 32))
  | .u8 x, .u64 => some (.u64 (x.setWidth 64))
  | .u16 x, .u8 => some (.u8 (x.setWidth 8))
  | .u16 x, .u16 => some (.u16 x)
  | .u16 x, .u32 => some (.u32 (x.setWidth 32))
  | .u16 x, .u64 => some (.u64 (x.setWidth 64))
  | .u32 x, .u8 => some (.u8 (x.setWidth 8))
  | .u32 x, .u16 => some (.u16 (x.setWidth 16))
  | .u32 x, .u32 => some (.u32 x)
  | .u32 x, .u64 => some (.u64 (x.setWidth 64))
  | .u64 x, .u8 => some (.u8 (x.setWidth 8))
  | .u64 x, .u16 => some (.u16 (x.setWidth 16))
  | .u64 x, .u32 => some (.u32 (x.setWidth 32))
  | .u64 x, .u64 => some (.u64 x)
  | a, k => (AV.num a).map (ofNum k)

/-- Parts laid into a row of cells. -/
def afill (place : Nat → Option (Nat × Nat)) (cells : List AV) : List (Nat × AV) → Option (List AV)
  | [] => some cells
  | (i, v) :: rest =>
    match place i, v.cells with
    | some (off, size), some vc =>
      if vc.length ≠ size ∨ off + vc.length > cells.length then none
      else afill place (cells.take off ++ vc ++ cells.drop (off + vc.length)) rest
    | _, _ => none

def isAggB (P : Program) (t : TypeId) : Option Bool :=
  match P.underlying t with
  | some (.struct _) | some (.array _ _) => some true
  | some _ => some false
  | none => none

def apart (P : Program) (t : TypeId) (cs : List AV) (off : Nat) : Option AV :=
  match isAggB P t, P.info? t with
  | some true, some i => let p := (cs.drop off).take i.size; if p.length = i.size then some (.agg p) else none
  | some false, _ => cs[off]?
  | _, _ => none

def zeroCells? (P : Program) (t : TypeId) : Option (List AV) :=
  (P.info? t).bind fun i => i.zero.map fun z => z.cells.toList.map absC

def structPlaces (P : Program) (fields : Array Field) : Option (List (Nat × Nat)) :=
  fields.toList.mapM (fun f => (P.info? f.type).map fun i => (f.offset, i.size))

/-- Operations that ask nothing of memory. -/
def aopP (P : Program) (o : Oper) (args : List AV) : Option AV :=
  match o.op, args with
  | .move _, [a] => some a
  | .assign _, [a] => some a
  | .pick _ _ _, [.bool c, a, b] => some (if c then a else b)
  | .nilCheck _, [.ptr i p] => some (.ptr i p)
  | .binOp op t _ _ _, [a, b] => abin P op t a b
  | .unOp op _ _, [a] => aun op a
  | .convert src dst _, [a] =>
    match P.underlying src, P.underlying dst with
    | some _, some (.int k) => acast k a
    | some .string, some .string => match a with | .str s => some (.str s) | _ => none
    | _, _ => none
  | .extract _ ix, [.tup vs] => vs[ix]?
  | .field t _ f, [.agg cs] =>
    match P.underlying t with
    | some (.struct fields) => (fields[f]?).bind fun fd => apart P fd.type cs fd.offset
    | _ => none
  | .index t _ _, [.agg cs, ix] =>
    match P.underlying t with
    | some (.array n e) => (AV.idx ix).bind fun j => if j < n then (P.info? e).bind fun i => apart P e cs (j * i.size) else none
    | _ => none
  | .index t _ _, [.str s, ix] =>
    match P.underlying t with
    | some .string => (AV.idx ix).bind fun j => (s[j]?).map fun b => .u8 b.toBitVec
    | _ => none
  | .indexAddr t _ _, [.ptr i p, ix] =>
    match P.underlying t with
    | some (.array n e) => (AV.idx ix).bind fun j => if j < n then (P.info? e).map fun inf => .ptr i (p + j * inf.size) else none
    | _ => none
  | .indexAddr t _ _, [.slice i p n _, ix] =>
    match P.underlying t with
    | some (.slice e) => (AV.idx ix).bind fun j => if j < n then (P.info? e).map fun inf => .ptr i (p + j * inf.size) else none
    | _ => none
  | .fieldAddr t _ f, [.ptr i p] =>
    match P.underlying t with
    | some (.struct fields) => (fields[f]?).bind fun fd => (P.info? fd.type).bind fun inf => if inf.size = 0 then none else some (.ptr i (p + fd.offset))
    | _ => none
  | .slice t _ lo hi mx, x :: bs =>
    let lo' := if lo.isSome then bs.head?.bind AV.idx else some 0
    let bs1 := if lo.isSome then bs.tail else bs
    let bs2 := if hi.isSome then bs1.tail else bs1
    match P.underlying t, x with
    | some (.slice e), .slice i p n c =>
      let hi' := if hi.isSome then bs1.head?.bind AV.idx else some n
      let mx' := if mx.isSome then bs2.head?.bind AV.idx else some c
      match lo', hi', mx', P.info? e with
      | some l, some h, some m, some inf =>
        if l ≤ h ∧ h ≤ m ∧ m ≤ c ∧ (hi.isSome ∨ mx.isNone) then some (.slice i (p + l * inf.size) (h - l) (m - l)) else none
      | _, _, _, _ => none
    | some (.array n e), .ptr i p =>
      let hi' := if hi.isSome then bs1.head?.bind AV.idx else some n
      let mx' := if mx.isSome then bs2.head?.bind AV.idx else some n
      match lo', hi', mx', P.info? e with
      | some l, some h, some m, some inf =>
        if l ≤ h ∧ h ≤ m ∧ m ≤ n ∧ (hi.isSome ∨ mx.isNone) then some (.slice i (p + l * inf.size) (h - l) (m - l)) else none
      | _, _, _, _ => none
    | some .string, .str s =>
      let hi' := if hi.isSome then bs1.head?.bind AV.idx else some s.size
      match lo', hi' with
      | some l, some h => if l ≤ h ∧ h ≤ s.size ∧ mx.isNone then some (.str (s.extract l h)) else none
      | _, _ => none
    | _, _ => none
  | .sliceToArrayPointer t _, [.slice i p n _] =>
    match P.underlying t with
    | some (.array k _) => if k ≤ n ∧ 0 < k then some (.ptr i p) else none
    | _ => none
  | .build t parts, args =>
    match zeroCells? P t, P.underlying t with
    | some z, some (.array _ e) => (P.info? e).bind fun ie => (afill (fun i => some (i * ie.size, ie.size)) z ((parts.toList.map (·.1)).zip args)).map .agg
    | some z, some (.struct fields) => (structPlaces P fields).bind fun places => (afill (fun i => places.toArray[i]?) z ((parts.toList.map (·.1)).zip args)).map .agg
    | _, _ => none
  | .call { callee := .builtin .len, argTypes, .. }, [a] =>
    match (argTypes[0]?).bind P.underlying, a with
    | some .string, .str s => some (.int .i64 s.size)
    | some (.slice _), .slice _ _ n _ => some (.int .i64 n)
    | some (.array n _), _ => some (.int .i64 n)
    | _, _ => none
  | .call { callee := .builtin .cap, argTypes, .. }, [a] =>
    match (argTypes[0]?).bind P.underlying, a with
    | some (.slice _), .slice _ _ _ c => some (.int .i64 c)
    | _, _ => none
  | .call { callee := .builtin .min, .. }, args => amins args
  | _, _ => none
where
  amin2 : AV → AV → Option AV
    | .u8 x, .u8 y => some (.u8 (if y.toNat < x.toNat then y else x))
    | .u16 x, .u16 y => some (.u16 (if y.toNat < x.toNat then y else x))
    | .u32 x, .u32 y => some (.u32 (if y.toNat < x.toNat then y else x))
    | .u64 x, .u64 y => some (.u64 (if y.toNat < x.toNat then y else x))
    | .int k x, .int k' y => if k = k' then some (.int k (if y < x then y else x)) else none
    | _, _ => none
  amins : List AV → Option AV
    | [] => none
    | x :: rest => rest.foldlM amin2 x

end Go.Sym

namespace Go.Sym
set_option linter.unusedVariables false
set_option linter.unusedSimpArgs false

theorem wrapU (k : IntKind) (hs : k.signed = false) (n : Int) : k.wrap n = n % (2 ^ k.bits : Int) := by
  simp [IntKind.wrap, hs]

theorem wrapNat (k : IntKind) (hs : k.signed = false) (n : Nat) : k.wrap (n : Int) = ((n % 2 ^ k.bits : Nat) : Int) := by
  rw [wrapU k hs]; norm_cast

theorem wrap_toNat (k : IntKind) (hs : k.signed = false) (x : BitVec k.bits) : k.wrap (x.toNat : Int) = x.toNat := by
  rw [wrapNat k hs, Nat.mod_eq_of_lt x.isLt]

theorem wadd (k : IntKind) (hs : k.signed = false) (x y : BitVec k.bits) : k.wrap ((x.toNat : Int) + y.toNat) = (x + y).toNat := by
  have h := wrapNat k hs (x.toNat + y.toNat)
  rw [BitVec.toNat_add, ← h]; norm_cast
theorem wmul (k : IntKind) (hs : k.signed = false) (x y : BitVec k.bits) : k.wrap ((x.toNat : Int) * y.toNat) = (x * y).toNat := by
  have h := wrapNat k hs (x.toNat * y.toNat)
  rw [BitVec.toNat_mul, ← h]; norm_cast
theorem wsub (k : IntKind) (hs : k.signed = false) (x y : BitVec k.bits) : k.wrap ((x.toNat : Int) - y.toNat) = (x - y).toNat := by
  have h := wrapNat k hs (2 ^ k.bits - y.toNat + x.toNat)
  have hy := y.isLt
  rw [BitVec.toNat_sub, ← h, wrapU k hs, wrapU k hs]
  have e : ((2 ^ k.bits - y.toNat + x.toNat : Nat) : Int) = ((x.toNat : Int) - y.toNat) + (2 ^ k.bits : Int) := by
    have e1 : ((2 ^ k.bits : Nat) : Int) = (2 ^ k.bits : Int) := by norm_cast
    omega
  rw [e, Int.add_emod_right]

theorem ofInt_toNat {w : Nat} (x : BitVec w) : BitVec.ofInt w (x.toNat : Int) = x := by
  apply BitVec.eq_of_toNat_eq
  rw [BitVec.toNat_ofInt]
  have h : ((x.toNat : Int) % ((2 ^ w : Nat) : Int)) = ((x.toNat % 2 ^ w : Nat) : Int) := by norm_cast
  rw [h, Int.toNat_natCast, Nat.mod_eq_of_lt x.isLt]

section
variable {P : Program} {ρ : Rho} {w : World}

theorem abinU_sound (k : IntKind) (hs : k.signed = false) (mk : BitVec k.bits → AV) (hmk : ∀ b, VRel ρ (mk b) (.int k b.toNat)) {op : BinOp} (hop : op ≠ .shl ∧ op ≠ .shr) {t : TypeId} {x y : BitVec k.bits} {v : AV}
    (h : abinU mk op x y = some v) : ∃ z, VRel ρ v z ∧ (binOp op t (.int k x.toNat) (.int k y.toNat)).run P w = .ok z w := by
  have hlt := x.isLt
  have hlt2 := y.isLt
  cases op <;> simp only [abinU, Option.some.injEq, reduceCtorEq] at h
  case add => subst h; exact ⟨_, hmk _, by simp [binOp, Op.intArith, wadd k hs]⟩
  case sub => subst h; exact ⟨_, hmk _, by simp [binOp, Op.intArith, wsub k hs]⟩
  case mul => subst h; exact ⟨_, hmk _, by simp [binOp, Op.intArith, wmul k hs]⟩
  case quo =>
    split at h
    · simp at h
    · rename_i hy
      simp at h
      subst h
      refine ⟨_, hmk _, ?_⟩
      have e : (x.toNat : Int).tdiv y.toNat = ((x / y).toNat : Int) := by
        rw [BitVec.toNat_udiv, Int.tdiv_eq_ediv_of_nonneg (by omega)]; norm_cast
      simp [binOp, Op.intDiv, hy, e, wrap_toNat k hs, -BitVec.toNat_udiv]
  case rem =>
    split at h
    · simp at h
    · rename_i hy
      simp at h
      subst h
      refine ⟨_, hmk _, ?_⟩
      have e : (x.toNat : Int).tmod y.toNat = ((x % y).toNat : Int) := by
        rw [BitVec.toNat_umod, Int.tmod_eq_emod_of_nonneg (by omega)]; norm_cast
      simp [binOp, Op.intDiv, hy, e, -BitVec.toNat_umod]
  case and => subst h; exact ⟨_, hmk _, by simp [binOp, Op.intBits, ofInt_toNat, wrap_toNat k hs, -BitVec.toNat_and]⟩
  case or => subst h; exact ⟨_, hmk _, by simp [binOp, Op.intBits, ofInt_toNat, wrap_toNat k hs, -BitVec.toNat_or]⟩
  case xor => subst h; exact ⟨_, hmk _, by simp [binOp, Op.intBits, ofInt_toNat, wrap_toNat k hs, -BitVec.toNat_xor]⟩
  case andNot => subst h; exact ⟨_, hmk _, by simp [binOp, Op.intBits, ofInt_toNat, wrap_toNat k hs, -BitVec.toNat_and, -BitVec.toNat_not]⟩
  case eql =>
    subst h
    refine ⟨_, rfl, ?_⟩
    have e : ((x.toNat : Int) == y.toNat) = decide (x = y) := by
      rw [Bool.eq_iff_iff]; simp only [beq_iff_eq, decide_eq_true_eq]; exact ⟨fun h => BitVec.eq_of_toNat_eq (by omega), fun h => by rw [h]⟩
    simp [binOp, Op.intCmp, e]
  case neq =>
    subst h
    refine ⟨_, rfl, ?_⟩
    have e : ((x.toNat : Int) != y.toNat) = !decide (x = y) := by
      rw [Bool.eq_iff_iff]; simp only [bne_iff_ne, ne_eq, Bool.not_eq_true', decide_eq_false_iff_not]; exact not_congr ⟨fun h => BitVec.eq_of_toNat_eq (by omega), fun h => by rw [h]⟩
    simp [binOp, Op.intCmp, e]
  case lss => subst h; exact ⟨_, rfl, by simp [binOp, Op.intCmp]⟩
  case leq => subst h; exact ⟨_, rfl, by simp [binOp, Op.intCmp]⟩
  case gtr => subst h; exact ⟨_, rfl, by simp [binOp, Op.intCmp]⟩
  case geq => subst h; exact ⟨_, rfl, by simp [binOp, Op.intCmp]⟩

theorem abinI_sound (k : IntKind) {op : BinOp} {t : TypeId} {x y : Int} {v : AV}
    (h : abinI k op x y = some v) : ∃ z, VRel ρ v z ∧ (binOp op t (.int k x) (.int k y)).run P w = .ok z w := by
  cases op <;> simp only [abinI, Option.some.injEq, reduceCtorEq] at h
  case quo =>
    split at h
    · simp at h
    · simp at h; subst h; exact ⟨_, rfl, by simp [binOp, Op.intDiv, *]⟩
  case rem =>
    split at h
    · simp at h
    · simp at h; subst h; exact ⟨_, rfl, by simp [binOp, Op.intDiv, *]⟩
  case eql => subst h; exact ⟨_, rfl, by simp [binOp, Op.intCmp]; rw [Bool.eq_iff_iff]; simp⟩
  case neq => subst h; exact ⟨_, rfl, by simp [binOp, Op.intCmp]; rw [Bool.eq_iff_iff]; simp⟩
  all_goals (subst h; exact ⟨_, rfl, by simp [binOp, Op.intArith, Op.intBits, Op.intCmp]⟩)

theorem idx_rel {a : AV} {x : Value} {n : Nat} (h : VRel ρ a x) (hi : AV.idx a = some n) : ∃ k, x = .int k (n : Int) := by
  cases a <;> simp only [AV.idx, reduceCtorEq, Option.some.injEq] at hi <;> simp only [VRel] at h
  case int k m =>
    cases m with
    | ofNat m => simp at hi; subst hi; exact ⟨k, h⟩
    | negSucc m => simp at hi
  all_goals (subst hi; exact ⟨_, h⟩)

theorem num_rel {a : AV} {x : Value} {n : Int} (h : VRel ρ a x) (hi : AV.num a = some n) : ∃ k, x = .int k n := by
  cases a <;> simp only [AV.num, reduceCtorEq, Option.some.injEq] at hi <;> simp only [VRel] at h
  all_goals (subst hi; exact ⟨_, h⟩)

theorem shlU (k : IntKind) (hs : k.signed = false) (x : BitVec k.bits) (m : Nat) : k.wrap ((x.toNat : Int) * 2 ^ (min m k.bits)) = (x <<< m).toNat := by
  have h := wrapNat k hs (x.toNat * 2 ^ (min m k.bits))
  have e : ((x.toNat * 2 ^ (min m k.bits) : Nat) : Int) = (x.toNat : Int) * 2 ^ (min m k.bits) := by norm_cast
  rw [← e, h, BitVec.toNat_shiftLeft, Nat.shiftLeft_eq]
  rcases Nat.le_total m k.bits with hm | hm
  · rw [Nat.min_eq_left hm]
  · rw [Nat.min_eq_right hm]
    obtain ⟨d, rfl⟩ := Nat.exists_eq_add_of_le hm
    rw [Nat.pow_add, ← Nat.mul_assoc, Nat.mul_mod_left, Nat.mul_right_comm, Nat.mul_mod_left]

theorem shrU (k : IntKind) (x : BitVec k.bits) (m : Nat) : (x.toNat : Int).fdiv (2 ^ (min m k.bits)) = (x >>> m).toNat := by
  have e : (2 ^ (min m k.bits) : Int) = ((2 ^ (min m k.bits) : Nat) : Int) := by norm_cast
  rw [Int.fdiv_eq_ediv_of_nonneg _ (by rw [e]; exact Int.natCast_nonneg _), e, BitVec.toNat_ushiftRight, Nat.shiftRight_eq_div_pow]
  rcases Nat.le_total m k.bits with hm | hm
  · rw [Nat.min_eq_left hm]; norm_cast
  · rw [Nat.min_eq_right hm]
    have h1 : x.toNat / 2 ^ k.bits = 0 := Nat.div_eq_of_lt x.isLt
    have h2 : x.toNat / 2 ^ m = 0 := Nat.div_eq_of_lt (Nat.lt_of_lt_of_le x.isLt (Nat.pow_le_pow_right (by omega) hm))
    rw [h2]
    norm_cast

theorem run_shl (t : TypeId) (k yk : IntKind) (x : Int) (m : Nat) : (binOp .shl t (.int k x) (.int yk (m : Int))).run P w = .ok (.int k (k.wrap (x * 2 ^ (min m k.bits)))) w := by
  have hneg : ¬ ((m : Int) < 0) := by omega
  simp only [binOp, Op.shift, if_neg hneg, Int.toNat_natCast, Sem.run_pure]
theorem run_shr (t : TypeId) (k yk : IntKind) (x : Int) (m : Nat) : (binOp .shr t (.int k x) (.int yk (m : Int))).run P w = .ok (.int k (x.fdiv (2 ^ (min m k.bits)))) w := by
  have hneg : ¬ ((m : Int) < 0) := by omega
  simp only [binOp, Op.shift, if_neg hneg, Int.toNat_natCast, Sem.run_pure]

theorem ashl_sound {a : AV} {x : Value} {m : Nat} {v : AV} (ha : VRel ρ a x) (h : ashl a m = some v) (t : TypeId) (yk : IntKind) :
    ∃ z, VRel ρ v z ∧ (binOp .shl t x (.int yk (m : Int))).run P w = .ok z w := by
  cases a <;> simp only [ashl, reduceCtorEq, Option.some.injEq] at h <;> simp only [VRel] at ha <;> subst ha <;> subst h
  case u8 x => exact ⟨_, rfl, by rw [run_shl]; exact congrArg (fun n => Result.ok (Value.int .u8 n) w) (shlU .u8 rfl x m)⟩
  case u16 x => exact ⟨_, rfl, by rw [run_shl]; exact congrArg (fun n => Result.ok (Value.int .u16 n) w) (shlU .u16 rfl x m)⟩
  case u32 x => exact ⟨_, rfl, by rw [run_shl]; exact congrArg (fun n => Result.ok (Value.int .u32 n) w) (shlU .u32 rfl x m)⟩
  case u64 x => exact ⟨_, rfl, by rw [run_shl]; exact congrArg (fun n => Result.ok (Value.int .u64 n) w) (shlU .u64 rfl x m)⟩
  case int k x => exact ⟨_, rfl, run_shl ..⟩

theorem ashr_sound {a : AV} {x : Value} {m : Nat} {v : AV} (ha : VRel ρ a x) (h : ashr a m = some v) (t : TypeId) (yk : IntKind) :
    ∃ z, VRel ρ v z ∧ (binOp .shr t x (.int yk (m : Int))).run P w = .ok z w := by
  cases a <;> simp only [ashr, reduceCtorEq, Option.some.injEq] at h <;> simp only [VRel] at ha <;> subst ha <;> subst h
  case u8 x => exact ⟨_, rfl, by rw [run_shr]; exact congrArg (fun n => Result.ok (Value.int .u8 n) w) (shrU .u8 x m)⟩
  case u16 x => exact ⟨_, rfl, by rw [run_shr]; exact congrArg (fun n => Result.ok (Value.int .u16 n) w) (shrU .u16 x m)⟩
  case u32 x => exact ⟨_, rfl, by rw [run_shr]; exact congrArg (fun n => Result.ok (Value.int .u32 n) w) (shrU .u32 x m)⟩
  case u64 x => exact ⟨_, rfl, by rw [run_shr]; exact congrArg (fun n => Result.ok (Value.int .u64 n) w) (shrU .u64 x m)⟩
  case int k x => exact ⟨_, rfl, run_shr ..⟩

end
end Go.Sym

namespace Go.Sym
set_option linter.unusedVariables false
set_option linter.unusedSimpArgs false
section
variable {P : Program} {ρ : Rho} {w : World}

theorem VRels.one {a : AV} {vs : List Value} (h : VRels ρ [a] vs) : ∃ x, vs = [x] ∧ VRel ρ a x := by
  obtain ⟨x, xs, rfl, h1, h2⟩ := h
  simp only [VRels] at h2
  subst h2
  exact ⟨x, rfl, h1⟩
theorem VRels.two {a b : AV} {vs : List Value} (h : VRels ρ [a, b] vs) : ∃ x y, vs = [x, y] ∧ VRel ρ a x ∧ VRel ρ b y := by
  obtain ⟨x, xs, rfl, h1, h2⟩ := h
  obtain ⟨y, rfl, h3⟩ := h2.one
  exact ⟨x, y, rfl, h1, h3⟩
theorem VRels.three {a b c : AV} {vs : List Value} (h : VRels ρ [a, b, c] vs) : ∃ x y z, vs = [x, y, z] ∧ VRel ρ a x ∧ VRel ρ b y ∧ VRel ρ c z := by
  obtain ⟨x, xs, rfl, h1, h2⟩ := h
  obtain ⟨y, z, rfl, h3, h4⟩ := h2.two
  exact ⟨x, y, z, rfl, h1, h3, h4⟩

theorem run_isAgg {t : TypeId} {b : Bool} (h : isAggB P t = some b) : (isAgg t).run P w = .ok b w := by
  unfold isAggB at h
  cases hu : P.underlying t with
  | none => simp [hu] at h
  | some d =>
    cases d <;> simp [hu] at h <;> subst h <;> simp [isAgg, run_underlying hu]

theorem run_sizeOf {t : TypeId} {i : TypeInfo} (h : P.info? t = some i) : (sizeOf t).run P w = .ok i.size w := by
  simp [sizeOf, typeInfo, h]

theorem apart_sound {t : TypeId} {as : List AV} {cs : Array Value} {off : Nat} {v : AV} (hv : VRels ρ as cs.toList) (h : apart P t as off = some v) :
    ∃ x, VRel ρ v x ∧ (part t cs off).run P w = .ok x w := by
  unfold apart at h
  split at h
  · rename_i i hb hi
    dsimp only at h
    split at h
    · rename_i hl
      simp at h
      subst h
      refine ⟨.agg (cs.extract off (off + i.size)), ⟨_, rfl, ?_⟩, ?_⟩
      · have e : (cs.extract off (off + i.size)).toList = (cs.toList.drop off).take i.size := by
          simp [List.extract_eq_take_drop]
        rw [e]
        exact (hv.drop off).take i.size
      · simp [part, run_isAgg hb, run_sizeOf hi]
    · simp at h
  · rename_i hb
    obtain ⟨x, hx, hr⟩ := hv.get h
    refine ⟨x, hr, ?_⟩
    simp only [part, Sem.run_bind, run_isAgg hb, Result.andThen_ok]
    have : cs[off]? = some x := by simpa using hx
    simp [this]
  · simp at h

/-- Two rows of plain numbers, by the model's way. -/
theorem eqHead_rel {a c : AV} {p : Bool} (h : eqHead a c = some p) {x y : Value} (hx : VRel ρ a x) (hy : VRel ρ c y) :
    ∃ k m n, x = .int k m ∧ y = .int k n ∧ p = (m == n) := by
  have nat : ∀ {w : Nat} (p q : BitVec w), decide (p = q) = ((p.toNat : Int) == (q.toNat : Int)) := by
    intro w p q
    rw [Bool.eq_iff_iff]; simp only [beq_iff_eq, decide_eq_true_eq]; exact ⟨fun h => by rw [h], fun h => BitVec.eq_of_toNat_eq (by omega)⟩
  cases a <;> cases c <;> simp only [eqHead, Option.some.injEq, reduceCtorEq] at h <;> simp only [VRel] at hx hy <;> subst hx <;> subst hy
  case int.int k m k' n =>
    split at h
    · rename_i hk
      subst hk
      simp at h
      subst h
      exact ⟨k, m, n, rfl, rfl, rfl⟩
    · simp at h
  all_goals
    subst h
    exact ⟨_, _, _, rfl, rfl, nat _ _⟩

theorem eqCells_cons {a c : AV} {as bs : List AV} {b : Bool} (h : eqCells (a :: as) (c :: bs) = some b) {x y : Value} (hx : VRel ρ a x) (hy : VRel ρ c y) :
    ∃ b1 k m n, eqCells as bs = some b1 ∧ x = .int k m ∧ y = .int k n ∧ b = ((m == n) && b1) := by
  simp only [eqCells] at h
  split at h
  · rename_i p q hp hq
    simp at h
    subst h
    obtain ⟨k, m, n, h1, h2, h3⟩ := eqHead_rel hp hx hy
    exact ⟨q, k, m, n, hq, h1, h2, by rw [h3]⟩
  · simp at h

theorem run_eqLoop (d : Nat) (e : TypeId) (i : TypeInfo) {k0 : IntKind} (hu : P.underlying e = some (.int k0)) (hi : P.info? e = some i) (hsz : i.size = 1) (xs ys : Array Value) :
    ∀ (as bs : List AV) (s : Nat) (b : Bool), VRels ρ as (xs.toList.drop s) → VRels ρ bs (ys.toList.drop s) → eqCells as bs = some b →
    (forIn (List.range' s as.length) ((none, ()) : Option Bool × Unit) (fun i _ => do
      let a ← part e xs (i * 1)
      let b ← part e ys (i * 1)
      let r ← Op.equalIn (d + 1) e a b
      if (!r) = true then pure (ForInStep.done (some false, ())) else pure (ForInStep.yield (none, ())))).run P w
      = .ok ((if b then none else some false, ()) : Option Bool × Unit) w := by
  intro as
  induction as with
  | nil =>
    intro bs s b _ _ h
    cases bs with
    | nil => simp [eqCells] at h; subst h; simp
    | cons c bs => simp [eqCells] at h
  | cons a as ih =>
    intro bs s b h1 h2 h
    cases bs with
    | nil => simp [eqCells] at h
    | cons c bs =>
      obtain ⟨x, xr, hx0, hxa, hxr⟩ := h1
      obtain ⟨y, yr, hy0, hyc, hyr⟩ := h2
      obtain ⟨b1, k, m, n, hb1, rfl, rfl, rfl⟩ := eqCells_cons h hxa hyc
      have hb : isAggB P e = some false := by simp [isAggB, hu]
      have gx : xs[s]? = some (.int k m) := by
        have := congrArg (·[0]?) hx0
        simpa using this
      have gy : ys[s]? = some (.int k n) := by
        have := congrArg (·[0]?) hy0
        simpa using this
      have dx : xs.toList.drop (s + 1) = xr := by
        have := congrArg (List.drop 1) hx0
        simpa [List.drop_drop, Nat.add_comm] using this
      have dy : ys.toList.drop (s + 1) = yr := by
        have := congrArg (List.drop 1) hy0
        simpa [List.drop_drop, Nat.add_comm] using this
      have px : (part e xs (s * 1)).run P w = .ok (.int k m) w := by
        simp only [Nat.mul_one, part, Sem.run_bind, run_isAgg hb, Result.andThen_ok]
        simp [gx]
      have py : (part e ys (s * 1)).run P w = .ok (.int k n) w := by
        simp only [Nat.mul_one, part, Sem.run_bind, run_isAgg hb, Result.andThen_ok]
        simp [gy]
      simp only [List.length_cons, List.range'_succ, List.forIn_cons, Sem.run_bind, px, py, Result.andThen_ok, run_equalIn_int w d e k k0 m n hu]
      cases hmn : (m == n)
      · simp
      · simp only [Bool.not_true, Bool.false_eq_true, if_false, Sem.run_pure, Result.andThen_ok, Bool.true_and]
        exact ih bs (s + 1) b1 (dx ▸ hxr) (dy ▸ hyr) hb1

theorem run_equalIn_array (d : Nat) (t e : TypeId) (n : Nat) (i : TypeInfo) {k0 : IntKind} (ht : P.underlying t = some (.array n e)) (hu : P.underlying e = some (.int k0)) (hi : P.info? e = some i) (hsz : i.size = 1)
    (xs ys : Array Value) (as bs : List AV) (b : Bool) (h1 : VRels ρ as xs.toList) (h2 : VRels ρ bs ys.toList) (hn : as.length = n) (h : eqCells as bs = some b) :
    (Op.equalIn (d + 2) t (.agg xs) (.agg ys)).run P w = .ok b w := by
  have hl := run_eqLoop (w := w) d e i hu hi hsz xs ys as bs 0 b (by simpa using h1) (by simpa using h2) h
  rw [hn] at hl
  unfold Op.equalIn
  simp only [Sem.run_bind, run_underlying ht, Result.andThen_ok, run_sizeOf hi, hsz, Std.Legacy.Range.forIn_eq_forIn_range', Std.Legacy.Range.size]
  simp only [Nat.sub_zero, Nat.add_one_sub_one, Nat.div_one, Nat.add_sub_cancel] at hl ⊢
  rw [hl]
  cases b <;> simp

theorem abin_sound {op : BinOp} {t : TypeId} {a b v : AV} {x y : Value} (ox oy : Operand) (h : abin P op t a b = some v) (hx : VRel ρ a x) (hy : VRel ρ b y) :
    ∃ z, VRel ρ v z ∧ (do eqGuard op t ox oy x y; binOp op t x y : Sem Value).run P w = .ok z w := by
  have guard : ∀ {k n} (u : Value), eqGuard op t ox oy (.int k n) u = pure () := fun u => eqGuard_at_int ..
  have fin : ∀ {k n} {u : Value}, x = .int k n → (∃ z, VRel ρ v z ∧ (binOp op t x u).run P w = .ok z w) → ∃ z, VRel ρ v z ∧ (do eqGuard op t ox oy x u; binOp op t x u : Sem Value).run P w = .ok z w := by
    intro k n u hxk ⟨z, h1, h2⟩
    subst hxk
    refine ⟨z, h1, ?_⟩
    rw [eqGuard_at_int]
    exact h2
  by_cases hop : op = .shl
  · subst hop
    simp only [abin, Option.bind_eq_some_iff] at h
    obtain ⟨m, hm, h⟩ := h
    obtain ⟨k, rfl⟩ := idx_rel hy hm
    obtain ⟨z, h1, h2⟩ := ashl_sound (P := P) (w := w) hx h t k
    exact ⟨z, h1, by rw [eqGuard_shl]; exact h2⟩
  by_cases hop2 : op = .shr
  · subst hop2
    simp only [abin, Option.bind_eq_some_iff] at h
    obtain ⟨m, hm, h⟩ := h
    obtain ⟨k, rfl⟩ := idx_rel hy hm
    obtain ⟨z, h1, h2⟩ := ashr_sound (P := P) (w := w) hx h t k
    exact ⟨z, h1, by rw [eqGuard_shr]; exact h2⟩
  have h' : abin0 P op t a b = some v := by
    unfold abin at h
    split at h
    · exact absurd rfl hop
    · exact absurd rfl hop2
    · exact h
  clear h
  unfold abin0 at h'
  split at h'
  · simp only [VRel] at hx hy; subst hx; subst hy; exact fin rfl (abinU_sound .u8 rfl AV.u8 (fun _ => by simp only [VRel]; rfl) ⟨hop, hop2⟩ h')
  · simp only [VRel] at hx hy; subst hx; subst hy; exact fin rfl (abinU_sound .u16 rfl AV.u16 (fun _ => by simp only [VRel]; rfl) ⟨hop, hop2⟩ h')
  · simp only [VRel] at hx hy; subst hx; subst hy; exact fin rfl (abinU_sound .u32 rfl AV.u32 (fun _ => by simp only [VRel]; rfl) ⟨hop, hop2⟩ h')
  · simp only [VRel] at hx hy; subst hx; subst hy; exact fin rfl (abinU_sound .u64 rfl AV.u64 (fun _ => by simp only [VRel]; rfl) ⟨hop, hop2⟩ h')
  · split at h'
    · rename_i hk
      subst hk
      simp only [VRel] at hx hy; subst hx; subst hy; exact fin rfl (abinI_sound _ h')
    · simp at h'
  · simp only [VRel] at hx hy
    subst hx
    subst hy
    rw [eqGuard_at_string]
    split at h'
    · simp at h'; subst h'; exact ⟨_, rfl, by simp [binOp, Op.stringOp, beq_toListBytes]⟩
    · simp at h'; subst h'; exact ⟨_, rfl, by simp [binOp, Op.stringOp, beq_toListBytes]⟩
    · split at h'
      · rename_i hsz
        simp at h'; subst h'
        refine ⟨_, rfl, ?_⟩
        simp only [binOp, Op.stringOp]
        rw [if_neg (by simp only [IntKind.max_i64]; omega)]
        rfl
      · simp at h'
    · simp at h'
  · simp only [VRel] at hx hy
    subst hx
    subst hy
    rw [eqGuard_at_bool]
    split at h'
    · rename_i hu; simp at h'; subst h'; exact ⟨_, rfl, by simp [binOp, Op.equal, Op.maxDepth, run_equalIn_bool' w _ _ _ _ hu]⟩
    · rename_i hu; simp at h'; subst h'; exact ⟨_, rfl, by simp [binOp, Op.equal, Op.maxDepth, run_equalIn_bool' w _ _ _ _ hu]⟩
    · simp at h'
  · split at h'
    · rename_i n e hu
      split at h'
      · rename_i k0 i hue hi
        split at h'
        · rename_i hc
          obtain ⟨hsz, hl, hg⟩ := hc
          obtain ⟨vs, rfl, hvs⟩ := hx
          obtain ⟨us, rfl, hus⟩ := hy
          split at h'
          · simp only [Option.map_eq_some_iff] at h'
            obtain ⟨b, hb, rfl⟩ := h'
            refine ⟨_, rfl, ?_⟩
            simp only [Sem.run_bind, run_eqGuard_agg w _ t ox oy vs us hg, Result.andThen_ok, run_eql_struct, run_equalIn_array (w := w) 9998 t e n i hu hue hi hsz vs us _ _ b hvs hus hl hb]
          · simp only [Option.map_eq_some_iff] at h'
            obtain ⟨b, hb, rfl⟩ := h'
            refine ⟨_, rfl, ?_⟩
            simp only [Sem.run_bind, run_eqGuard_agg w _ t ox oy vs us hg, Result.andThen_ok, run_neq_struct, run_equalIn_array (w := w) 9998 t e n i hu hue hi hsz vs us _ _ b hvs hus hl hb]
          · simp at h'
        · simp at h'
      · simp at h'
    · simp at h'
  · simp at h'

theorem aun_sound {op : UnOp} {a v : AV} {x : Value} (h : aun op a = some v) (hx : VRel ρ a x) : ∃ z, VRel ρ v z ∧ (Op.unary op x).run P w = .ok z w := by
  have neg : ∀ (k : IntKind) (hs : k.signed = false) (x : BitVec k.bits), k.wrap (0 - (x.toNat : Int)) = ((0#k.bits - x).toNat : Int) := by
    intro k hs x
    have := wsub k hs 0 x
    simpa using this
  have xr : ∀ (k : IntKind) (hs : k.signed = false) (x : BitVec k.bits), k.wrap (((BitVec.ofInt k.bits k.max ^^^ BitVec.ofInt k.bits (x.toNat : Int)).toNat : Nat) : Int) = ((~~~x).toNat : Int) := by
    intro k hs x
    rw [ofInt_toNat, wrap_toNat k hs]
    have : BitVec.ofInt k.bits k.max = BitVec.allOnes k.bits := by
      cases k <;> simp [IntKind.signed] at hs <;> rfl
    rw [this, BitVec.allOnes_xor]
  cases a <;> cases op <;> simp only [aun, Option.some.injEq, reduceCtorEq] at h <;> simp only [VRel] at hx <;> subst hx <;> subst h
  case u8.neg x => exact ⟨_, rfl, by simp only [Op.unary, Op.intArith, Sem.run_pure]; exact congrArg (fun n => Result.ok (Value.int .u8 n) w) (neg .u8 rfl x)⟩
  case u16.neg x => exact ⟨_, rfl, by simp only [Op.unary, Op.intArith, Sem.run_pure]; exact congrArg (fun n => Result.ok (Value.int .u16 n) w) (neg .u16 rfl x)⟩
  case u32.neg x => exact ⟨_, rfl, by simp only [Op.unary, Op.intArith, Sem.run_pure]; exact congrArg (fun n => Result.ok (Value.int .u32 n) w) (neg .u32 rfl x)⟩
  case u64.neg x => exact ⟨_, rfl, by simp only [Op.unary, Op.intArith, Sem.run_pure]; exact congrArg (fun n => Result.ok (Value.int .u64 n) w) (neg .u64 rfl x)⟩
  case u8.xor x => exact ⟨_, rfl, by simp only [Op.unary, Op.intBits, IntKind.signed, Bool.false_eq_true, if_false, Sem.run_pure]; exact congrArg (fun n => Result.ok (Value.int .u8 n) w) (xr .u8 rfl x)⟩
  case u16.xor x => exact ⟨_, rfl, by simp only [Op.unary, Op.intBits, IntKind.signed, Bool.false_eq_true, if_false, Sem.run_pure]; exact congrArg (fun n => Result.ok (Value.int .u16 n) w) (xr .u16 rfl x)⟩
  case u32.xor x => exact ⟨_, rfl, by simp only [Op.unary, Op.intBits, IntKind.signed, Bool.false_eq_true, if_false, Sem.run_pure]; exact congrArg (fun n => Result.ok (Value.int .u32 n) w) (xr .u32 rfl x)⟩
  case u64.xor x => exact ⟨_, rfl, by simp only [Op.unary, Op.intBits, IntKind.signed, Bool.false_eq_true, if_false, Sem.run_pure]; exact congrArg (fun n => Result.ok (Value.int .u64 n) w) (xr .u64 rfl x)⟩
  all_goals exact ⟨_, rfl, by simp [Op.unary, Op.intArith]⟩

theorem acast_sound {k : IntKind} {a v : AV} {x : Value} (h : acast k a = some v) (hx : VRel ρ a x) : ∃ j n, x = .int j n ∧ VRel ρ v (.int k (k.wrap n)) := by
  have gen : ∀ {k : IntKind}, (AV.num a).map (ofNum k) = some v → ∃ j n, x = .int j n ∧ VRel ρ v (.int k (k.wrap n)) := by
    intro k h
    simp only [Option.map_eq_some_iff] at h
    obtain ⟨n, hn, rfl⟩ := h
    obtain ⟨j, rfl⟩ := num_rel hx hn
    refine ⟨j, n, rfl, ?_⟩
    have u : ∀ (k : IntKind) (hs : k.signed = false), k.wrap n = ((BitVec.ofInt k.bits n).toNat : Int) := by
      intro k hs
      have hpos : (0 : Int) < ((2 ^ k.bits : Nat) : Int) := by exact_mod_cast Nat.two_pow_pos k.bits
      rw [wrapU k hs, BitVec.toNat_ofInt, Int.toNat_of_nonneg (Int.emod_nonneg _ (by omega))]
      norm_cast
    cases k <;> simp only [ofNum, VRel]
    · exact congrArg (Value.int .u8) (u .u8 rfl)
    · exact congrArg (Value.int .u16) (u .u16 rfl)
    · exact congrArg (Value.int .u32) (u .u32 rfl)
    · exact congrArg (Value.int .u64) (u .u64 rfl)
  have wid : ∀ {w1 : Nat} (y : BitVec w1) (k : IntKind) (hs : k.signed = false), k.wrap (y.toNat : Int) = ((y.setWidth k.bits).toNat : Int) := by
    intro w1 y k hs
    rw [wrapNat k hs, BitVec.toNat_setWidth]
  have i64 : ∀ (n : Nat), n < 2 ^ 63 → IntKind.i64.wrap (n : Int) = n := by
    intro n hn
    simp only [IntKind.wrap, IntKind.bits, IntKind.signed]
    have : (n : Int) % 2 ^ 64 = n := Int.emod_eq_of_lt (by omega) (by omega)
    simp only [this]
    split
    · simp_all; omega
    · rfl
  unfold acast at h
  split at h
  case h_20 => exact gen h
  all_goals
    simp only [Option.some.injEq] at h
    subst h
    simp only [VRel] at hx
    subst hx
    refine ⟨_, _, rfl, ?_⟩
    simp only [VRel]
    congr 1
  all_goals first
    | (exact wid _ .u8 rfl)
    | (exact wid _ .u16 rfl)
    | (exact wid _ .u32 rfl)
    | (exact wid _ .u64 rfl)
    | (exact wrap_toNat .u8 rfl _)
    | (exact wrap_toNat .u16 rfl _)
    | (exact wrap_toNat .u32 rfl _)
    | (exact wrap_toNat .u64 rfl _)
    | (exact i64 _ (by omega))

end
end Go.Sym

namespace Go.Sym
set_option linter.unusedVariables false
set_option linter.unusedSimpArgs false
section
variable {P : Program} {ρ : Rho} {w : World}

theorem foldl_sets (off : Nat) : ∀ (vs : List Value) (k : Nat) (cells : Array Value), off + k + vs.length ≤ cells.size →
    ((vs.zipIdx k).foldl (fun cs (c, j) => cs.setIfInBounds (off + j) c) cells).toList = cells.toList.take (off + k) ++ vs ++ cells.toList.drop (off + k + vs.length) := by
  intro vs
  induction vs with
  | nil => intro k cells h; simp
  | cons v vs ih =>
    intro k cells h
    simp only [List.length_cons] at h
    simp only [List.zipIdx_cons, List.foldl_cons]
    rw [ih (k + 1) _ (by simp; omega)]
    have hl : off + k < cells.toList.length := by simp; omega
    rw [Array.toList_setIfInBounds]
    have e1 : (cells.toList.set (off + k) v).take (off + (k + 1)) = cells.toList.take (off + k) ++ [v] := by
      rw [show off + (k + 1) = off + k + 1 by omega, List.take_succ_eq_append_getElem (by simpa using hl)]
      simp [List.take_set]
      rw [List.set_eq_of_length_le (by simp; omega)]
    have e2 : (cells.toList.set (off + k) v).drop (off + (k + 1) + vs.length) = cells.toList.drop (off + k + (vs.length + 1)) := by
      rw [List.drop_set_of_lt (by omega)]
      congr 1; omega
    rw [e1, e2]
    simp

theorem afill_sound (place : Nat → Option (Nat × Nat)) : ∀ (parts : List (Nat × AV)) (rparts : List (Nat × Value)) (as : List AV) (cs : Array Value) (r : List AV),
    parts.map (·.1) = rparts.map (·.1) → VRels ρ (parts.map (·.2)) (rparts.map (·.2)) → VRels ρ as cs.toList → afill place as parts = some r →
    ∃ rs, Instr.fill place cs rparts = some rs ∧ VRels ρ r rs.toList := by
  intro parts
  induction parts with
  | nil =>
    intro rparts as cs r h1 h2 h3 h4
    cases rparts with
    | nil => simp [afill] at h4; subst h4; exact ⟨cs, rfl, h3⟩
    | cons _ _ => simp at h1
  | cons p parts ih =>
    intro rparts as cs r h1 h2 h3 h4
    cases rparts with
    | nil => simp at h1
    | cons q rparts =>
      obtain ⟨i, a⟩ := p
      obtain ⟨i', v⟩ := q
      simp only [List.map_cons, List.cons.injEq] at h1
      obtain ⟨rfl, h1⟩ := h1
      obtain ⟨x, xs, hx, hax, hxs⟩ := h2
      simp only [List.map_cons, List.cons.injEq] at hx
      obtain ⟨rfl, rfl⟩ := hx
      simp only [afill] at h4
      split at h4
      · rename_i off size vc hp hc
        split at h4
        · simp at h4
        · rename_i hcond
          have hcond : vc.length = size ∧ off + vc.length ≤ as.length := by omega
          obtain ⟨hv, h1c⟩ := hax.cells hc
          have hvl := hv.length
          have hal := h3.length
          simp only [Array.length_toList] at hvl hal
          simp only [Instr.fill, hp]
          rw [if_neg (by simp; omega)]
          refine ih rparts _ _ r h1 hxs ?_ h4
          have hz : (v.cells.zipIdx.foldl (fun cs (c, j) => cs.setIfInBounds (off + j) c) cs).toList = cs.toList.take off ++ v.cells.toList ++ cs.toList.drop (off + v.cells.toList.length) := by
            have := foldl_sets off v.cells.toList 0 cs (by simp; omega)
            simp only [Nat.add_zero] at this
            rw [← this, ← Array.foldl_toList, Array.toList_zipIdx]
          rw [hz]
          have e : off + v.cells.toList.length = off + vc.length := by simp; omega
          rw [e]
          exact ((h3.take off).append hv).append (h3.drop _)
      · simp at h4

theorem VRels.absC (ρ : Rho) : ∀ (vs : List Value), VRels ρ (vs.map absC) vs
  | [] => rfl
  | v :: vs => ⟨v, vs, rfl, absC_rel ρ v, VRels.absC ρ vs⟩

theorem VRels.map_ev {ev : Operand → Value} : ∀ {xs : List Operand} {args : List AV}, VRels ρ args (xs.map ev) → args.length = xs.length := by
  intro xs args h
  simpa using h.length

theorem amins_sound : ∀ (rest : List AV) (rs : List Value) (a v : AV) (x : Value), VRel ρ a x → VRels ρ rest rs → rest.foldlM aopP.amin2 a = some v →
    ∃ z, VRel ρ v z ∧ (rs.foldlM Builtin.min2 x).run P w = .ok z w := by
  intro rest
  induction rest with
  | nil =>
    intro rs a v x hx hr h
    simp only [VRels] at hr
    subst hr
    simp at h
    subst h
    exact ⟨x, hx, rfl⟩
  | cons b rest ih =>
    intro rs a v x hx hr h
    obtain ⟨y, ys, rfl, hy, hys⟩ := hr
    simp only [List.foldlM_cons, Option.bind_eq_bind, Option.bind_eq_some_iff] at h
    obtain ⟨c, hc, h⟩ := h
    have step : ∃ z, VRel ρ c z ∧ (Builtin.min2 x y).run P w = .ok z w := by
      cases a <;> cases b <;> simp only [aopP.amin2, Option.some.injEq, reduceCtorEq] at hc <;> simp only [VRel] at hx hy <;> subst hx <;> subst hy
      case int.int k m k' n =>
        split at hc
        · rename_i hk
          subst hk
          simp at hc
          subst hc
          exact ⟨_, rfl, by simp [Builtin.min2]⟩
        · simp at hc
      all_goals
        subst hc
        refine ⟨_, rfl, ?_⟩
        simp only [Builtin.min2, Sem.run_pure, Int.ofNat_lt]
        split <;> rfl
    obtain ⟨z, hz, hrun⟩ := step
    obtain ⟨u, hu, hrun2⟩ := ih ys c v z hz hys h
    exact ⟨u, hu, by simp only [List.foldlM_cons, Sem.run_bind, hrun, Result.andThen_ok, hrun2]⟩

theorem idx_int {a : AV} {x : Value} {n : Nat} (h : VRel ρ a x) (hi : AV.idx a = some n) : (asIntOf x).run P w = .ok ((match x with | .int k _ => k | _ => .i64), (n : Int)) w := by
  obtain ⟨k, rfl⟩ := idx_rel h hi
  rfl

theorem zeroCells_rel {t : TypeId} {z : List AV} (h : zeroCells? P t = some z) : ∃ i v, P.info? t = some i ∧ i.zero = some v ∧ VRels ρ z v.cells.toList := by
  simp only [zeroCells?, Option.bind_eq_some_iff, Option.map_eq_some_iff] at h
  obtain ⟨i, hi, v, hv, rfl⟩ := h
  exact ⟨i, v, hi, hv, VRels.absC ρ _⟩

theorem build_sound {t : TypeId} {parts : Array (Nat × Operand)} {args : List AV} {v : AV} {ev : Operand → Value} {o : Oper} (ho : o.op = .build t parts)
    (hargs : VRels ρ args ((parts.toList.map (·.2)).map ev)) (h : aopP P o args = some v) : ∃ x, VRel ρ v x ∧ (Instr.build t (parts.map fun (i, x) => (i, ev x))).run P w = .ok x w := by
  have hlen : args.length = parts.toList.length := by simpa using hargs.length
  have e1 : ((parts.toList.map (·.1)).zip args).map (·.1) = ((parts.map fun (i, x) => (i, ev x)).toList).map (·.1) := by
    rw [List.map_fst_zip (by simp [hlen])]
    simp [List.map_map, Function.comp_def]
  have e2 : VRels ρ (((parts.toList.map (·.1)).zip args).map (·.2)) (((parts.map fun (i, x) => (i, ev x)).toList).map (·.2)) := by
    rw [List.map_snd_zip (by simp [hlen])]
    simpa [List.map_map, Function.comp_def] using hargs
  have go : ∀ {place : Nat → Option (Nat × Nat)} {z : List AV}, zeroCells? P t = some z → ((afill place z ((parts.toList.map (·.1)).zip args)).map AV.agg) = some v →
      ∃ i zv cells, P.info? t = some i ∧ i.zero = some zv ∧ Instr.fill place zv.cells ((parts.map fun (i, x) => (i, ev x)).toList) = some cells ∧ VRel ρ v (.agg cells) := by
    intro place z hz hf
    obtain ⟨i, zv, hi, hzv, hr⟩ := zeroCells_rel (ρ := ρ) hz
    simp only [Option.map_eq_some_iff] at hf
    obtain ⟨r, hr2, rfl⟩ := hf
    obtain ⟨rs, h1, h2⟩ := afill_sound place _ _ _ _ _ e1 e2 hr hr2
    exact ⟨i, zv, rs, hi, hzv, h1, rs, rfl, h2⟩
  unfold aopP at h
  rw [ho] at h
  have h : (match zeroCells? P t, P.underlying t with
    | some z, some (.array _ e) => (P.info? e).bind fun ie => (afill (fun i => some (i * ie.size, ie.size)) z ((parts.toList.map (·.1)).zip args)).map AV.agg
    | some z, some (.struct fields) => (structPlaces P fields).bind fun places => (afill (fun i => places.toArray[i]?) z ((parts.toList.map (·.1)).zip args)).map AV.agg
    | _, _ => none) = some v := by
    rcases args with _ | ⟨a, _ | ⟨b, _ | ⟨c, rest⟩⟩⟩ <;> exact h
  split at h
  · rename_i z n e hz hu
    simp only [Option.bind_eq_some_iff] at h
    obtain ⟨ie, hie, h⟩ := h
    obtain ⟨i, zv, cells, hi, hzv, hf, hr⟩ := go hz h
    refine ⟨_, hr, run_build w t _ cells ?_⟩
    simp only [Program.built, hi, hu, hzv, hie, hf]
  · rename_i z fields hz hu
    simp only [Option.bind_eq_some_iff] at h
    obtain ⟨places, hp, h⟩ := h
    obtain ⟨i, zv, cells, hi, hzv, hf, hr⟩ := go hz h
    refine ⟨_, hr, run_build w t _ cells ?_⟩
    simp only [structPlaces] at hp
    simp only [Program.built, hi, hu, hzv, hp, hf]
  · simp at h
end
end Go.Sym

namespace Go.Sym
set_option linter.unusedVariables false
set_option linter.unusedSimpArgs false
section
variable {P : Program} {ρ : Rho} {w : World}

theorem asIntOf_idx {a : AV} {x : Value} {n : Nat} (h : VRel ρ a x) (hi : AV.idx a = some n) : ∃ k, (asIntOf x).run P w = .ok (k, (n : Int)) w := by
  obtain ⟨k, rfl⟩ := idx_rel h hi
  exact ⟨k, rfl⟩

theorem run_sliceBound {a : AV} {x : Value} {n y : Nat} {code : BoundsCode} (h : VRel ρ a x) (hi : AV.idx a = some n) (hy : n ≤ y) : (Instr.sliceBound x y code).run P w = .ok n w := by
  obtain ⟨k, rfl⟩ := idx_rel h hi
  simp only [Instr.sliceBound, asIntOf, Sem.run_bind, Sem.run_pure, Result.andThen_ok]
  rw [if_pos (by omega)]
  simp

/-- The three bounds of a slice expression. -/
theorem run_sliceBounds (isSlice : Bool) {len cap : Nat} {lo hi mx : Option Value} {l h m : Nat}
    (hl : match lo with | none => l = 0 | some x => ∃ a, VRel ρ a x ∧ AV.idx a = some l)
    (hh : match hi with | none => h = len | some x => ∃ a, VRel ρ a x ∧ AV.idx a = some h)
    (hm : match mx with | none => m = cap | some x => ∃ a, VRel ρ a x ∧ AV.idx a = some m)
    (h1 : l ≤ h) (h2 : h ≤ m) (h3 : m ≤ cap) (h4 : hi.isSome ∨ mx.isNone) : (Instr.sliceBounds isSlice len cap lo hi mx).run P w = .ok (l, h, m) w := by
  cases mx with
  | none =>
    simp only at hm
    subst hm
    cases hi with
    | none =>
      simp only at hh
      subst hh
      cases lo with
      | none => simp only at hl; subst hl; simp [Instr.sliceBounds]
      | some x => obtain ⟨a, ha, hi⟩ := hl; simp [Instr.sliceBounds, run_sliceBound (P := P) (w := w) ha hi h1]
    | some y =>
      obtain ⟨b, hb, hbi⟩ := hh
      cases lo with
      | none => simp only at hl; subst hl; simp [Instr.sliceBounds, run_sliceBound (P := P) (w := w) hb hbi h2]
      | some x => obtain ⟨a, ha, hi⟩ := hl; simp [Instr.sliceBounds, run_sliceBound (P := P) (w := w) hb hbi h2, run_sliceBound (P := P) (w := w) ha hi h1]
  | some z =>
    obtain ⟨c, hc, hci⟩ := hm
    cases hi with
    | none => simp at h4
    | some y =>
      obtain ⟨b, hb, hbi⟩ := hh
      cases lo with
      | none => simp only at hl; subst hl; simp [Instr.sliceBounds, run_sliceBound (P := P) (w := w) hc hci h3, run_sliceBound (P := P) (w := w) hb hbi h2]
      | some x => obtain ⟨a, ha, hi⟩ := hl; simp [Instr.sliceBounds, run_sliceBound (P := P) (w := w) hc hci h3, run_sliceBound (P := P) (w := w) hb hbi h2, run_sliceBound (P := P) (w := w) ha hi h1]

theorem Addr.add_at (B O n : Nat) : (⟨B, O, none⟩ : Addr).add n = ⟨B, O + n, none⟩ := Addr.add_lit B O n

theorem VRels.of_nil {as : List AV} (h : VRels ρ as []) : as = [] := by
  cases as with
  | nil => rfl
  | cons a as => obtain ⟨x, xs, h1, _⟩ := h; cases h1
theorem VRels.of_cons {as : List AV} {v : Value} {vs : List Value} (h : VRels ρ as (v :: vs)) : ∃ a bs, as = a :: bs ∧ VRel ρ a v ∧ VRels ρ bs vs := by
  cases as with
  | nil => simp [VRels] at h
  | cons a as =>
    obtain ⟨x, xs, h1, h2, h3⟩ := h
    simp only [List.cons.injEq] at h1
    obtain ⟨rfl, rfl⟩ := h1
    exact ⟨a, as, rfl, h2, h3⟩

/-- The operands of a slice expression, taken apart. -/
theorem slice_args {t : TypeId} {x : AV} {bs : List AV} {ex : Operand} {lo hi mx : Option Operand} {ev : Operand → Value}
    (hargs : VRels ρ (x :: bs) ((Op.slice t ex lo hi mx).operands.toList.map ev)) :
    VRel ρ x (ev ex) ∧
    (∀ (l : Nat), (if lo.isSome then bs.head?.bind AV.idx else some 0) = some l → (match lo.map ev with | none => l = 0 | some y => ∃ a, VRel ρ a y ∧ AV.idx a = some l)) ∧
    (∀ (d h : Nat), (if hi.isSome then (if lo.isSome then bs.tail else bs).head?.bind AV.idx else some d) = some h → (match hi.map ev with | none => h = d | some y => ∃ a, VRel ρ a y ∧ AV.idx a = some h)) ∧
    (∀ (d m : Nat), (if mx.isSome then (if hi.isSome then (if lo.isSome then bs.tail else bs).tail else (if lo.isSome then bs.tail else bs)).head?.bind AV.idx else some d) = some m → (match mx.map ev with | none => m = d | some y => ∃ a, VRel ρ a y ∧ AV.idx a = some m)) := by
  obtain ⟨y, ys, hy, hxy, hbs⟩ := hargs
  cases lo <;> cases hi <;> cases mx <;> simp [Op.operands] at hy <;> obtain ⟨rfl, rfl⟩ := hy
  · have := hbs.of_nil; subst this
    exact ⟨hxy, fun l h => by simpa using h.symm, fun _ _ h => by simpa using h.symm, fun _ _ h => by simpa using h.symm⟩
  · obtain ⟨a, as, rfl, h1, h2⟩ := hbs.of_cons
    have := h2.of_nil; subst this
    exact ⟨hxy, fun l h => by simpa using h.symm, fun _ _ h => by simpa using h.symm, fun _ _ h => ⟨a, h1, by simpa using h⟩⟩
  · obtain ⟨a, as, rfl, h1, h2⟩ := hbs.of_cons
    have := h2.of_nil; subst this
    exact ⟨hxy, fun l h => by simpa using h.symm, fun _ _ h => ⟨a, h1, by simpa using h⟩, fun _ _ h => by simpa using h.symm⟩
  · obtain ⟨a, as, rfl, h1, h2⟩ := hbs.of_cons
    obtain ⟨b, as, rfl, h3, h2⟩ := h2.of_cons
    have := h2.of_nil; subst this
    exact ⟨hxy, fun l h => by simpa using h.symm, fun _ _ h => ⟨a, h1, by simpa using h⟩, fun _ _ h => ⟨b, h3, by simpa using h⟩⟩
  · obtain ⟨a, as, rfl, h1, h2⟩ := hbs.of_cons
    have := h2.of_nil; subst this
    exact ⟨hxy, fun l h => ⟨a, h1, by simpa using h⟩, fun _ _ h => by simpa using h.symm, fun _ _ h => by simpa using h.symm⟩
  · obtain ⟨a, as, rfl, h1, h2⟩ := hbs.of_cons
    obtain ⟨b, as, rfl, h3, h2⟩ := h2.of_cons
    have := h2.of_nil; subst this
    exact ⟨hxy, fun l h => ⟨a, h1, by simpa using h⟩, fun _ _ h => by simpa using h.symm, fun _ _ h => ⟨b, h3, by simpa using h⟩⟩
  · obtain ⟨a, as, rfl, h1, h2⟩ := hbs.of_cons
    obtain ⟨b, as, rfl, h3, h2⟩ := h2.of_cons
    have := h2.of_nil; subst this
    exact ⟨hxy, fun l h => ⟨a, h1, by simpa using h⟩, fun _ _ h => ⟨b, h3, by simpa using h⟩, fun _ _ h => by simpa using h.symm⟩
  · obtain ⟨a, as, rfl, h1, h2⟩ := hbs.of_cons
    obtain ⟨b, as, rfl, h3, h2⟩ := h2.of_cons
    obtain ⟨c, as, rfl, h4, h2⟩ := h2.of_cons
    have := h2.of_nil; subst this
    exact ⟨hxy, fun l h => ⟨a, h1, by simpa using h⟩, fun _ _ h => ⟨b, h3, by simpa using h⟩, fun _ _ h => ⟨c, h4, by simpa using h⟩⟩

/-- A piece of a slice, or of an array. -/
theorem slice_rel {i p n c l h m size B O : Nat} (hρ : ρ i = some (B, O)) (h1 : l ≤ h) (h2 : h ≤ m) :
    VRel ρ (.slice i (p + l * size) (h - l) (m - l)) (.slice (some (if m = l then (⟨B, O + p, none⟩ : Addr) else (⟨B, O + p, none⟩ : Addr).add (l * size))) (h - l) (m - l)) := by
  by_cases hml : m = l
  · refine .inr ⟨by omega, by omega, ⟨_, by congr 1 <;> omega⟩⟩
  · rw [if_neg hml, Addr.add_at]
    exact .inl ⟨B, O, hρ, by rw [Nat.add_assoc]⟩

theorem aopP_slice {o : Oper} {t : TypeId} {ex : Operand} {lo hi mx : Option Operand} {x : AV} {bs : List AV} {v : AV} {ev : Operand → Value} (ho : o.op = .slice t ex lo hi mx)
    (h : aopP P o (x :: bs) = some v) (hargs : VRels ρ (x :: bs) ((Op.slice t ex lo hi mx).operands.toList.map ev)) :
    ∃ z, VRel ρ v z ∧ (Instr.sliceAt t (ev ex) (lo.map ev) (hi.map ev) (mx.map ev)).run P w = .ok z w := by
  obtain ⟨hx, hl, hh, hm⟩ := slice_args hargs
  unfold aopP at h
  rw [ho] at h
  dsimp only at h
  split at h
  · rename_i e i p n c hu
    split at h
    · rename_i l hg m inf e1 e2 e3 hi4
      split at h
      · rename_i hc
        obtain ⟨c1, c2, c3, c4⟩ := hc
        simp only [Option.some.injEq] at h
        subst h
        have hb := run_sliceBounds (P := P) (w := w) true (hl _ e1) (hh _ _ e2) (hm _ _ e3) c1 c2 c3 (by simpa using c4)
        rcases hx with ⟨B, O, hρ, hv⟩ | ⟨rfl, rfl, ad, hv⟩
        · refine ⟨_, slice_rel (n := n) (c := c) hρ c1 c2, ?_⟩
          rw [hv]
          simp only [Instr.sliceAt, Instr.slice, Sem.run_bind, run_underlying hu, Result.andThen_ok, hb, run_sizeOf hi4, Option.map_some]
          split <;> simp
        · have hm0 : m = 0 := by omega
          have hl0 : l = 0 := by omega
          have hh0 : hg = 0 := by omega
          subst hm0 hl0 hh0
          refine ⟨_, .inr ⟨rfl, rfl, ad, rfl⟩, ?_⟩
          rw [hv]
          simp [Instr.sliceAt, Instr.slice, run_underlying hu, hb, run_sizeOf hi4]
      · simp at h
    · simp at h
  · rename_i n e i p hu
    split at h
    · rename_i l hg m inf e1 e2 e3 hi4
      split at h
      · rename_i hc
        obtain ⟨c1, c2, c3, c4⟩ := hc
        simp only [Option.some.injEq] at h
        subst h
        have hb := run_sliceBounds (P := P) (w := w) false (hl _ e1) (hh _ _ e2) (hm _ _ e3) c1 c2 c3 (by simpa using c4)
        obtain ⟨B, O, hρ, hv⟩ := hx
        refine ⟨_, slice_rel (n := n) (c := n) hρ c1 c2, ?_⟩
        rw [hv]
        simp only [Instr.sliceAt, Instr.sureAddr, Sem.run_bind, run_underlying hu, Result.andThen_ok, Sem.run_pure, hb, run_sizeOf hi4]
      · simp at h
    · simp at h
  · rename_i s hu
    split at h
    · rename_i l hg e1 e2
      split at h
      · rename_i hc
        obtain ⟨c1, c2, c4⟩ := hc
        simp only [Option.some.injEq] at h
        subst h
        have hmx : mx = none := by cases mx <;> simp_all
        subst hmx
        have hb := run_sliceBounds (P := P) (w := w) false (mx := none) (m := s.size) (hl _ e1) (hh _ _ e2) rfl c1 c2 (Nat.le_refl _) (by simp)
        simp only [VRel] at hx
        refine ⟨_, rfl, ?_⟩
        rw [hx]
        simp [Instr.sliceAt, Instr.slice, run_underlying hu, hb]
      · simp at h
    · simp at h
  · simp at h

end
end Go.Sym

namespace Go.Sym
set_option linter.unusedVariables false
set_option linter.unusedSimpArgs false
section
variable {P : Program} {ρ : Rho} {w : World}

theorem run_fieldPlace {B O : Nat} {f : Field} {inf : TypeInfo} (hi : P.info? f.type = some inf) (h0 : inf.size ≠ 0) :
    (fieldPlace ⟨B, O, none⟩ f).run P w = .ok ⟨B, O + f.offset, none⟩ w := by
  simp [fieldPlace, run_sizeOf hi, h0, Addr.add_at]

theorem aopP_sound {o : Oper} {args : List AV} {v : AV} {ev : Operand → Value} (h : aopP P o args = some v) (hargs : VRels ρ args (o.op.operands.toList.map ev)) :
    ∃ x, VRel ρ v x ∧ (execOp ev o).run P w = .ok (.value x) w := by
  have h0 := h
  unfold aopP at h
  split at h
  · rename_i e x a hop
    rw [hop] at hargs
    obtain ⟨y, hy, hr⟩ := hargs.one
    simp [Op.operands] at hy
    subst hy
    simp at h
    subst h
    exact ⟨_, hr, by simp [execOp, hop]⟩
  · rename_i e x a hop
    rw [hop] at hargs
    obtain ⟨y, hy, hr⟩ := hargs.one
    simp [Op.operands] at hy
    subst hy
    simp at h
    subst h
    exact ⟨_, hr, by simp [execOp, hop]⟩
  · rename_i e c0 a0 b0 c a b hop
    rw [hop] at hargs
    obtain ⟨x, y, z, hy, h1, h2, h3⟩ := hargs.three
    simp [Op.operands] at hy
    obtain ⟨rfl, rfl, rfl⟩ := hy
    simp at h
    subst h
    simp only [VRel] at h1
    cases c
    · exact ⟨_, h3, by simp [execOp, hop, h1, asBool]⟩
    · exact ⟨_, h2, by simp [execOp, hop, h1, asBool]⟩
  · rename_i e x0 i p hop
    rw [hop] at hargs
    obtain ⟨y, hy, hr⟩ := hargs.one
    simp [Op.operands] at hy
    subst hy
    simp at h
    subst h
    obtain ⟨B, O, hρ, hv⟩ := hr
    exact ⟨_, ⟨B, O, hρ, hv⟩, by simp [execOp, hop, hv]⟩
  · rename_i e op t x0 y0 u a b hop
    rw [hop] at hargs
    obtain ⟨x, y, hy, h1, h2⟩ := hargs.two
    simp [Op.operands] at hy
    obtain ⟨rfl, rfl⟩ := hy
    obtain ⟨z, hz, hr⟩ := abin_sound (w := w) x0 y0 h h1 h2
    refine ⟨z, hz, ?_⟩
    simp only [execOp, hop]
    rw [Sem.run_bind, hr]
    rfl
  · rename_i e op t x0 a hop
    rw [hop] at hargs
    obtain ⟨y, hy, hr⟩ := hargs.one
    simp [Op.operands] at hy
    subst hy
    obtain ⟨z, hz, hr⟩ := aun_sound (P := P) (w := w) h hr
    exact ⟨z, hz, by simp [execOp, hop, hr]⟩
  · rename_i e src dst x0 a hop
    rw [hop] at hargs
    obtain ⟨y, hy, hr⟩ := hargs.one
    simp [Op.operands] at hy
    subst hy
    split at h
    · rename_i d k hs hd
      obtain ⟨j, n, hv, hr⟩ := acast_sound h hr
      refine ⟨_, hr, ?_⟩
      simp only [execOp, hop, hv]
      simp [convert, run_underlying hs, run_underlying hd, Conv.intToInt]
    · rename_i hs hd
      split at h
      · rename_i s
        simp at h
        subst h
        simp only [VRel] at hr
        refine ⟨_, rfl, ?_⟩
        simp [execOp, hop, hr, convert, run_underlying hs, run_underlying hd]
      · simp at h
    · simp at h
  · rename_i e t ix vs hop
    rw [hop] at hargs
    obtain ⟨y, hy, hr⟩ := hargs.one
    simp [Op.operands] at hy
    subst hy
    obtain ⟨us, hu, hus⟩ := hr
    obtain ⟨x, hx, hr⟩ := hus.get h
    refine ⟨x, hr, ?_⟩
    have : us[ix]? = some x := by simpa using hx
    simp [execOp, hop, hu, Instr.extract, this]
  · rename_i e t x0 f cs hop
    rw [hop] at hargs
    obtain ⟨y, hy, hr⟩ := hargs.one
    simp [Op.operands] at hy
    subst hy
    obtain ⟨us, hu, hus⟩ := hr
    split at h
    · rename_i fields ht
      simp only [Option.bind_eq_some_iff] at h
      obtain ⟨fd, hf, h⟩ := h
      obtain ⟨x, hx, hrun⟩ := apart_sound (w := w) hus h
      refine ⟨x, hx, ?_⟩
      simp [execOp, hop, hu, Instr.field, run_underlying ht, hf, asAgg, hrun]
    · simp at h
  · rename_i e t x0 ix0 cs ix hop
    rw [hop] at hargs
    obtain ⟨x, y, hy, h1, h2⟩ := hargs.two
    simp [Op.operands] at hy
    obtain ⟨rfl, rfl⟩ := hy
    obtain ⟨us, hu, hus⟩ := h1
    split at h
    · rename_i n el ht
      simp only [Option.bind_eq_some_iff] at h
      obtain ⟨j, hj, h⟩ := h
      split at h
      · rename_i hlt
        simp only [Option.bind_eq_some_iff] at h
        obtain ⟨i, hi, h⟩ := h
        obtain ⟨x, hx, hrun⟩ := apart_sound (w := w) hus h
        obtain ⟨k, hk⟩ := idx_rel h2 hj
        refine ⟨x, hx, ?_⟩
        have hb : (0 : Int) ≤ (j : Int) ∧ (j : Int) < (n : Int) := by omega
        simp only [execOp, hop, hu, hk, Instr.index, asIntOf, Sem.run_bind, Sem.run_pure, Result.andThen_ok, run_underlying ht, if_pos hb, run_sizeOf hi, Int.toNat_natCast, hrun]
      · simp at h
    · simp at h
  · rename_i e t x0 ix0 s ix hop
    rw [hop] at hargs
    obtain ⟨x, y, hy, h1, h2⟩ := hargs.two
    simp [Op.operands] at hy
    obtain ⟨rfl, rfl⟩ := hy
    split at h
    · rename_i ht
      simp only [Option.bind_eq_some_iff] at h
      obtain ⟨j, hj, h⟩ := h
      simp only [Option.map_eq_some_iff] at h
      obtain ⟨b, hb, rfl⟩ := h
      obtain ⟨k, hk⟩ := idx_rel h2 hj
      simp only [VRel] at h1
      refine ⟨_, rfl, ?_⟩
      have hp : (0 : Int) ≤ (j : Int) := by omega
      simp only [execOp, hop, h1, hk, Instr.index, asIntOf, Sem.run_bind, Sem.run_pure, Result.andThen_ok, run_underlying ht, if_pos hp, Int.toNat_natCast, hb]
      rfl
    · simp at h
  · rename_i e t x0 ix0 i p ix hop
    rw [hop] at hargs
    obtain ⟨x, y, hy, h1, h2⟩ := hargs.two
    simp [Op.operands] at hy
    obtain ⟨rfl, rfl⟩ := hy
    split at h
    · rename_i n el ht
      simp only [Option.bind_eq_some_iff] at h
      obtain ⟨j, hj, h⟩ := h
      split at h
      · rename_i hlt
        simp only [Option.map_eq_some_iff] at h
        obtain ⟨inf, hi, rfl⟩ := h
        obtain ⟨k, hk⟩ := idx_rel h2 hj
        obtain ⟨B, O, hρ, hv⟩ := h1
        refine ⟨.pointer (some ⟨B, O + (p + j * inf.size), none⟩), ⟨B, O, hρ, rfl⟩, ?_⟩
        have hb : (0 : Int) ≤ (j : Int) ∧ (j : Int) < (n : Int) := by omega
        simp only [execOp, hop, hv, hk, Instr.indexAt, asIntOf, Instr.sureAddr, Sem.run_bind, Sem.run_pure, Result.andThen_ok, run_underlying ht, if_pos hb, run_sizeOf hi, Int.toNat_natCast, Addr.add_at, Nat.add_assoc]
      · simp at h
    · simp at h
  · rename_i e t x0 ix0 i p n c ix hop
    rw [hop] at hargs
    obtain ⟨x, y, hy, h1, h2⟩ := hargs.two
    simp [Op.operands] at hy
    obtain ⟨rfl, rfl⟩ := hy
    split at h
    · rename_i el ht
      simp only [Option.bind_eq_some_iff] at h
      obtain ⟨j, hj, h⟩ := h
      split at h
      · rename_i hlt
        simp only [Option.map_eq_some_iff] at h
        obtain ⟨inf, hi, rfl⟩ := h
        obtain ⟨k, hk⟩ := idx_rel h2 hj
        rcases h1 with ⟨B, O, hρ, hv⟩ | ⟨rfl, _, _, _⟩
        · refine ⟨.pointer (some ⟨B, O + (p + j * inf.size), none⟩), ⟨B, O, hρ, rfl⟩, ?_⟩
          have hb : (0 : Int) ≤ (j : Int) ∧ (j : Int) < (n : Int) := by omega
          simp only [execOp, hop, hv, hk, Instr.indexAt, asIntOf, Sem.run_bind, Sem.run_pure, Result.andThen_ok, run_underlying ht, if_pos hb, run_sizeOf hi, Int.toNat_natCast, Addr.add_at, Nat.add_assoc]
        · omega
      · simp at h
    · simp at h
  · rename_i e t x0 f i p hop
    rw [hop] at hargs
    obtain ⟨y, hy, hr⟩ := hargs.one
    simp [Op.operands] at hy
    subst hy
    split at h
    · rename_i fields ht
      simp only [Option.bind_eq_some_iff] at h
      obtain ⟨fd, hf, inf, hi, h⟩ := h
      split at h
      · simp at h
      · rename_i hne
        simp at h
        subst h
        obtain ⟨B, O, hρ, hv⟩ := hr
        refine ⟨.pointer (some ⟨B, O + (p + fd.offset), none⟩), ⟨B, O, hρ, rfl⟩, ?_⟩
        simp [execOp, hop, hv, Instr.fieldAt, run_underlying ht, hf, Instr.sureAddr, run_fieldPlace hi hne, Nat.add_assoc]
    · simp at h
  · rename_i e t x0 lo hi mx x bs hop
    rw [hop] at hargs
    obtain ⟨z, hz, hr⟩ := aopP_slice (w := w) hop h0 hargs
    exact ⟨z, hz, by simp [execOp, hop, hr]⟩
  · rename_i e t x0 i p n c hop
    rw [hop] at hargs
    obtain ⟨y, hy, hr⟩ := hargs.one
    simp [Op.operands] at hy
    subst hy
    split at h
    · rename_i k el ht
      split at h
      · rename_i hk
        simp at h
        subst h
        rcases hr with ⟨B, O, hρ, hv⟩ | ⟨rfl, _, _, _⟩
        · refine ⟨_, ⟨B, O, hρ, rfl⟩, ?_⟩
          simp [execOp, hop, hv, Instr.arrayAt, run_underlying ht, show ¬ n < k by omega]
        · omega
      · simp at h
    · simp at h
  · rename_i args e args2 t parts hop
    rw [hop] at hargs
    have ha : VRels ρ args ((parts.toList.map (·.2)).map ev) := by simpa [Op.operands] using hargs
    obtain ⟨z, hz, hr⟩ := build_sound (w := w) hop ha h0
    exact ⟨z, hz, by simp [execOp, hop, hr]⟩
  · rename_i e args0 as0 tys a hop
    rw [hop] at hargs
    obtain ⟨y, hy, hr⟩ := hargs.one
    simp [Op.operands, Call.operands] at hy
    obtain ⟨x0, hx0, rfl⟩ := hy
    have has : as0 = #[x0] := by apply Array.toList_inj.1; simpa using hx0
    subst has
    have run : ∀ {z : Value}, (Builtin.len_ tys o.type #[ev x0]).run P w = .ok z w → (execOp ev o).run P w = .ok (.value z) w := by
      intro z hz
      simp [execOp, hop, resolve, invoke, builtin, hz]
    split at h
    · rename_i s ht
      simp only [Option.bind_eq_some_iff] at ht
      obtain ⟨t, ht0, ht⟩ := ht
      simp at h
      subst h
      simp only [VRel] at hr
      exact ⟨_, rfl, run (by simp [Builtin.len_, ht0, run_underlying ht, hr, goInt])⟩
    · rename_i i p n c ht
      simp only [Option.bind_eq_some_iff] at ht
      obtain ⟨t, ht0, ht⟩ := ht
      simp at h
      subst h
      rcases hr with ⟨B, O, hρ, hv⟩ | ⟨rfl, _, _, hv⟩
      · exact ⟨_, rfl, run (by simp [Builtin.len_, ht0, run_underlying ht, hv, goInt])⟩
      · exact ⟨_, rfl, run (by simp [Builtin.len_, ht0, run_underlying ht, hv, goInt])⟩
    · rename_i n el ht
      simp only [Option.bind_eq_some_iff] at ht
      obtain ⟨t, ht0, ht⟩ := ht
      simp at h
      subst h
      exact ⟨_, rfl, run (by simp [Builtin.len_, ht0, run_underlying ht, goInt])⟩
    · simp at h
  · rename_i e args0 as0 tys a hop
    rw [hop] at hargs
    obtain ⟨y, hy, hr⟩ := hargs.one
    simp [Op.operands, Call.operands] at hy
    obtain ⟨x0, hx0, rfl⟩ := hy
    have has : as0 = #[x0] := by apply Array.toList_inj.1; simpa using hx0
    subst has
    have run : ∀ {z : Value}, (Builtin.cap_ tys o.type #[ev x0]).run P w = .ok z w → (execOp ev o).run P w = .ok (.value z) w := by
      intro z hz
      simp [execOp, hop, resolve, invoke, builtin, hz]
    split at h
    · rename_i i p n c ht
      simp only [Option.bind_eq_some_iff] at ht
      obtain ⟨t, ht0, ht⟩ := ht
      simp at h
      subst h
      rcases hr with ⟨B, O, hρ, hv⟩ | ⟨_, rfl, _, hv⟩
      · exact ⟨_, rfl, run (by simp [Builtin.cap_, ht0, run_underlying ht, hv, goInt])⟩
      · exact ⟨_, rfl, run (by simp [Builtin.cap_, ht0, run_underlying ht, hv, goInt])⟩
    · simp at h
  · rename_i args e args1 as0 tys hop
    rw [hop] at hargs
    have ha : VRels ρ args (as0.toList.map ev) := by simpa [Op.operands, Call.operands] using hargs
    cases args with
    | nil => simp [aopP.amins] at h
    | cons a rest =>
      obtain ⟨x, xs, hx, h1, h2⟩ := ha
      obtain ⟨z, hz, hr⟩ := amins_sound (P := P) (w := w) rest xs a v x h1 h2 h
      refine ⟨z, hz, ?_⟩
      simp [execOp, hop, resolve, invoke, builtin, Builtin.min_, hx, hr]
  · simp at h
end
end Go.Sym

namespace Go.Sym
set_option linter.unusedVariables false
set_option linter.unusedSimpArgs false

/-- What is known of a function: what it answers, and which blocks are new ('n'), or what memory is behind it ('w'). -/
inductive Ctr where
  | n (det : Bool) (F : H → List AV → Nat → (Nat → Nat) → Option (AV × List ABlk))
  | w (det : Bool) (F : H → List AV → Nat → (Nat → Nat) → Option (AV × H))
abbrev Ctx := FuncId → Option Ctr

def ext (h : H) (f : Nat) : List ABlk → H
  | [] => h
  | b :: bs => ext (upd h f b) (f + 1) bs

def zeroFill (z : List AV) (n : Nat) : List AV := (List.range n).map fun i => z.getD (i % z.length) .any

def rdU8 : List AV → Option (List (BitVec 8))
  | [] => some []
  | .u8 x :: rest => (rdU8 rest).map (x :: ·)
  | _ => none
def bytesStr (l : List (BitVec 8)) : ByteArray := ⟨(l.map UInt8.ofBitVec).toArray⟩
def strCells (s : ByteArray) : List AV := s.data.toList.map fun b => .u8 b.toBitVec

def piece (h : H) (i p n : Nat) : Option (List AV) :=
  if n = 0 then some [] else (h i).bind fun b => let q := (b.cells.drop p).take n; if q.length = n then some q else none

def aload (P : Program) (h : H) (t : TypeId) (i p : Nat) : Option AV := (h i).bind fun b => apart P t b.cells p

/-- Operations that may read memory, and lay new blocks. -/
def aopN (P : Program) (Γ : Ctx) (o : Oper) (args : List AV) (fr : Nat) (c : Nat → Nat) (h : H) : Option (AV × List ABlk) :=
  match o.op, args with
  | .alloc e, _ => (zeroCells? P e).map fun z => (.ptr fr 0, [⟨z, true⟩])
  | .box _ _, [a] => a.cells.map fun cs => (.ptr fr 0, [⟨cs, true⟩])
  | .buildSlice t len parts, args =>
    match P.underlying t with
    | some (.slice e) =>
      (P.info? e).bind fun ie =>
      (zeroCells? P e).bind fun z =>
      if len * ie.size ≤ 16777216 then
        (afill (fun i => some (i * ie.size, ie.size)) (zeroFill z (len * ie.size)) ((parts.toList.map (·.1)).zip args)).map fun cs => (.slice fr 0 len len, [⟨cs, true⟩])
      else none
    | _ => none
  | .load t _, [.ptr i p] => (aload P h t i p).map fun v => (v, [])
  | .convert src dst _, [.slice i p n cp] =>
    match P.underlying src, P.underlying dst with
    | some (.slice e), some .string =>
      match P.underlying e with
      | some (.int .u8) => (piece h i p n).bind fun q => (rdU8 q).map fun l => (.str (bytesStr l), [])
      | _ => none
    | some (.slice e), some (.slice _) =>
      match P.underlying e with
      | some (.int .u8) => (h i).bind fun b => if src = dst ∧ cp ≠ 0 ∧ b.wr = true then some (.slice i p n cp, []) else none
      | _ => none
    | _, _ => none
  | .convert src dst _, [.str s] =>
    match P.underlying src, P.underlying dst with
    | some .string, some (.slice e) =>
      match P.underlying e with
      | some (.int .u8) => some (.slice fr 0 s.size (s.size + c 0), [⟨strCells s ++ List.replicate (c 0) (.u8 0), true⟩])
      | _ => none
    | _, _ => none
  | .makeSlice t _ _, [l, c] =>
    match P.underlying t, AV.idx l, AV.idx c with
    | some (.slice e), some l, some c =>
      (P.info? e).bind fun ie =>
      (zeroCells? P e).bind fun z =>
      if l ≤ c ∧ ie.bytes * c ≤ 281474976710656 ∧ c ≤ 9223372036854775807 then some (.slice fr 0 l c, [⟨zeroFill z (c * ie.size), true⟩]) else none
    | _, _, _ => none
  | .call { callee := .value (.func f), .. }, _ :: as =>
    match Γ f with
    | some (.n _ F) => F h as fr c
    | _ => none
  | _, _ => none

/-- A row of cells with some written over. -/
def splice (l : List AV) (p : Nat) (cs : List AV) : List AV :=
  match cs with
  | [a] => l.set p a
  | cs => if p = 0 ∧ cs.length = l.length then cs else l.take p ++ cs ++ l.drop (p + cs.length)

def astore (h : H) (i p : Nat) (cs : List AV) : Option H :=
  if cs = [] then some h else
  (h i).bind fun b => if b.wr = true ∧ p + cs.length ≤ b.cells.length ∧ cs.all AV.scal = true then some (upd h i ⟨splice b.cells p cs, true⟩) else none

/-- The cells of what is appended, or copied. -/
def srcCells (h : H) (size : Nat) : AV → Option (Nat × List AV)
  | .slice j q m _ => (piece h j q (m * size)).map fun cs => (m, cs)
  | .str s => if size = 1 then some (s.size, strCells s) else none
  | _ => none

def aappend (P : Program) (e : TypeId) (i p n cap : Nat) (x : AV) (fr : Nat) (c : Nat → Nat) (h : H) : Option (AV × H) :=
  match P.info? e, zeroCells? P e with
  | some ie, some z =>
    match srcCells h ie.size x with
    | some (m, news) =>
      if n + m ≤ cap then (astore h i (p + n * ie.size) news).map fun h' => (.slice i p (n + m) cap, h')
      else if 2 * (n + m) * ie.bytes ≤ 281474976710656 ∧ n + m ≤ 4611686018427387904 then
        (piece h i p (n * ie.size)).map fun old => (.slice fr 0 (n + m) (n + m + c 0), upd h fr ⟨old ++ news ++ zeroFill z (c 0 * z.length), true⟩)
      else none
    | none => none
  | _, _ => none

/-- Operations that write. -/
def aopW (P : Program) (Γ : Ctx) (o : Oper) (args : List AV) (fr : Nat) (c : Nat → Nat) (h : H) : Option (AV × H) :=
  match o.op, args with
  | .store t _ _, [.ptr i p, a] =>
    match a.cells, P.info? t with
    | some cs, some inf => if cs.length = inf.size ∧ cs ≠ [] then (astore h i p cs).map fun h' => (.any, h') else none
    | _, _ => none
  | .call { callee := .builtin .append, argTypes, .. }, [.slice i p n cap, x] =>
    match (argTypes[0]?).bind P.underlying, (argTypes[1]?).bind P.underlying with
    | some (.slice e), some (.slice _) => aappend P e i p n cap x fr c h
    | some (.slice e), some .string => aappend P e i p n cap x fr c h
    | _, _ => none
  | .call { callee := .builtin .copy, argTypes, .. }, [.slice i p n _, x] =>
    match (argTypes[0]?).bind P.underlying with
    | some (.slice e) =>
      match P.info? e with
      | some ie =>
        match srcCells h ie.size x with
        | some (m, news) => (astore h i p (news.take (min m n * ie.size))).map fun h' => (.int .i64 (min m n : Nat), h')
        | none => none
      | none => none
    | _ => none
  | .call { callee := .value (.func f), .. }, _ :: as =>
    match Γ f with
    | some (.w _ F) => F h as fr c
    | _ => none
  | _, _ => none

inductive Cls where
  | p | n | w
  deriving DecidableEq, Inhabited

/-- What an operation asks of memory: nothing, reading and laying, writing. -/
def clsOf (P : Program) (Γ : Ctx) (o : Oper) : Cls :=
  match o.op with
  | .alloc _ | .box _ _ | .buildSlice _ _ _ | .load _ _ | .makeSlice _ _ _ => .n
  | .convert src dst _ =>
    match P.underlying src, P.underlying dst with
    | some (.slice _), some .string => .n
    | some (.slice _), some (.slice _) => .n
    | some .string, some (.slice _) => .n
    | _, _ => .p
  | .store _ _ _ => .w
  | .call { callee := .builtin .append, .. } => .w
  | .call { callee := .builtin .copy, .. } => .w
  | .call { callee := .value (.func f), .. } =>
    match Γ f with
    | some (.n _ _) => .n
    | some (.w _ _) => .w
    | none => .p
  | _ => .p

/-- Does what it answers hang on the tape? -/
def detOf (P : Program) (Γ : Ctx) (o : Oper) : Bool :=
  match o.op with
  | .convert src dst _ =>
    match P.underlying src, P.underlying dst with
    | some .string, some (.slice _) => false
    | _, _ => true
  | .call { callee := .builtin .append, .. } => false
  | .call { callee := .value (.func f), .. } =>
    match Γ f with
    | some (.n d _) => d
    | some (.w d _) => d
    | none => true
  | _ => true

def aop (P : Program) (Γ : Ctx) (o : Oper) (args : List AV) (fr : Nat) (c : Nat → Nat) (h : H) : Option (AV × H) :=
  match clsOf P Γ o with
  | .p => (aopP P o args).map fun v => (v, h)
  | .n => (aopN P Γ o args fr c h).bind fun (v, bs) => if bs.length ≤ STR then some (v, ext h fr bs) else none
  | .w => aopW P Γ o args fr c h

/-- What stands behind an operation, or a call. -/
def Good (M : Nat → Prop) (w : World) (ρ : Rho) (fr : Nat) (v : AV) (h' : H) (x : Value) (w' : World) : Prop :=
  ∃ ρ' : Rho, ρ.le ρ' ∧ (∀ i, (i < fr ∨ fr + STR ≤ i) → ρ' i = ρ i) ∧ VRel ρ' v x ∧ HRel M w' ρ' h' ∧ Only M w w'

/-- What the package-level variables hold. -/
abbrev Gl := Nat → List Value
def GW (gl : Gl) (w : World) : Prop := ∀ g i v, (gl g)[i]? = some v → w.cell? ⟨g, i, none⟩ = some v
def MOK (gl : Gl) (M : Nat → Prop) : Prop := ∀ g, gl g ≠ [] → ¬ M g
theorem GW.only {gl : Gl} {M : Nat → Prop} {w w' : World} (h : GW gl w) (hM : MOK gl M) (k : Only M w w') : GW gl w' := by
  intro g i v hv
  have hc := h g i v hv
  have hb := k.block g (cell_block_lt hc) (hM g (by intro hn; rw [hn] at hv; simp at hv))
  rw [World.cell?_of_block (w := w) (a := ⟨g, i, none⟩) hb]
  exact hc
theorem GW.new {gl : Gl} {w : World} (h : GW gl w) : MOK gl (fun B => w.heap.size ≤ B) := by
  intro g hg hle
  cases hgl : gl g with
  | nil => exact hg hgl
  | cons v vs =>
    have := cell_block_lt (h g 0 v (by simp [hgl]))
    simp at this
    omega

/-- A function keeps its contract. -/
def NOK (P : Program) (gl : Gl) (f : FuncId) (det : Bool) (F : H → List AV → Nat → (Nat → Nat) → Option (AV × List ABlk)) : Prop :=
  (det = true → ∀ h as fr c, F h as fr c = F h as fr (fun _ => 0)) ∧
  (∀ h k as fr c r, h.le k → F h as fr c = some r → F k as fr c = some r) ∧
  (∀ M w ρ h as (vals : Array Value) fr, GW gl w → MOK gl M → HRel M w ρ h → (∀ B, w.heap.size ≤ B → M B) → (∀ i, fr ≤ i → i < fr + STR → ρ i = none) → VRels ρ as vals.toList →
    (∀ c, ∃ r, F h as fr c = some r ∧ r.2.length ≤ STR) →
    Calls P f vals w fun e w' => ∃ c v bs x, F h as fr c = some (v, bs) ∧ e = .returned x ∧ Good M w ρ fr v (ext h fr bs) x w')
def WOK (P : Program) (gl : Gl) (f : FuncId) (det : Bool) (F : H → List AV → Nat → (Nat → Nat) → Option (AV × H)) : Prop :=
  (det = true → ∀ h as fr c, F h as fr c = F h as fr (fun _ => 0)) ∧
  (∀ M w ρ h as (vals : Array Value) fr, GW gl w → MOK gl M → HRel M w ρ h → (∀ B, w.heap.size ≤ B → M B) → (∀ i, fr ≤ i → i < fr + STR → ρ i = none) → VRels ρ as vals.toList →
    (∀ c, (F h as fr c).isSome) →
    Calls P f vals w fun e w' => ∃ c v h' x, F h as fr c = some (v, h') ∧ e = .returned x ∧ Good M w ρ fr v h' x w')
def CtrOK (P : Program) (gl : Gl) (f : FuncId) (k : Ctr) : Prop :=
  (∀ args w, (callFunc f args).run P w = .ok (.enter f args) w) ∧
  match k with
  | .n det F => NOK P gl f det F
  | .w det F => WOK P gl f det F
end Go.Sym

namespace Go.Sym
set_option linter.unusedVariables false
set_option linter.unusedSimpArgs false
section
variable {P : Program} {ρ : Rho} {w : World} {M : Nat → Prop} {h : H}

theorem Good.same {fr : Nat} {v : AV} {x : Value} (hr : HRel M w ρ h) (hv : VRel ρ v x) : Good M w ρ fr v h x w :=
  ⟨ρ, ρ.le_refl, fun _ _ => rfl, hv, hr, Only.refl _ _⟩

theorem Good.alloc {fr : Nat} (hr : HRel M w ρ h) (hM : ∀ B, w.heap.size ≤ B → M B) (hf : ∀ i, fr ≤ i → i < fr + STR → ρ i = none) {as : List AV} {cs : Array Value} (e : TypeId) (hv : VRels ρ as cs.toList) :
    HRel M (w.alloc (.cells cs e)) (ρ.put fr (w.heap.size, 0)) (upd h fr ⟨as, true⟩) ∧ ρ.le (ρ.put fr (w.heap.size, 0)) ∧ (∀ i, (i < fr ∨ fr + STR ≤ i) → (ρ.put fr (w.heap.size, 0)) i = ρ i) ∧ (ρ.put fr (w.heap.size, 0)) fr = some (w.heap.size, 0) := by
  have h0 : ρ fr = none := hf fr (Nat.le_refl _) (by unfold STR; omega)
  refine ⟨hr.alloc h0 (hM _ (Nat.le_refl _)) e cs as hv, Rho.le_put h0, ?_, by simp [Rho.put]⟩
  intro i hi
  unfold Rho.put
  rw [if_neg]
  unfold STR at hi
  omega

theorem Good.ptr {fr : Nat} (hr : HRel M w ρ h) (hM : ∀ B, w.heap.size ≤ B → M B) (hf : ∀ i, fr ≤ i → i < fr + STR → ρ i = none) {as : List AV} {cs : Array Value} (e : TypeId) (hv : VRels ρ as cs.toList) :
    Good M w ρ fr (.ptr fr 0) (ext h fr [⟨as, true⟩]) (.pointer (some ⟨w.heap.size, 0, none⟩)) (w.alloc (.cells cs e)) := by
  obtain ⟨h1, h2, h3, h4⟩ := Good.alloc hr hM hf e hv
  exact ⟨_, h2, h3, ⟨_, _, h4, rfl⟩, h1, Only.alloc _ _ _⟩

theorem Good.slice {fr n c : Nat} (hr : HRel M w ρ h) (hM : ∀ B, w.heap.size ≤ B → M B) (hf : ∀ i, fr ≤ i → i < fr + STR → ρ i = none) {as : List AV} {cs : Array Value} (e : TypeId) (hv : VRels ρ as cs.toList) :
    Good M w ρ fr (.slice fr 0 n c) (ext h fr [⟨as, true⟩]) (.slice (some ⟨w.heap.size, 0, none⟩) n c) (w.alloc (.cells cs e)) := by
  obtain ⟨h1, h2, h3, h4⟩ := Good.alloc hr hM hf e hv
  exact ⟨_, h2, h3, .inl ⟨_, _, h4, rfl⟩, h1, Only.alloc _ _ _⟩

theorem zeroFill_rel {z : List AV} {zv : Array Value} (hz : VRels ρ z zv.toList) (n : Nat) : VRels ρ (zeroFill z n) ((Array.range n).map (zv[· % zv.size]!)).toList := by
  have hl := hz.length
  simp only [Array.length_toList] at hl
  refine VRels.of_get (by simp [zeroFill]) ?_
  intro i a x ha hx
  simp only [zeroFill, List.getElem?_map, Option.map_eq_some_iff] at ha
  obtain ⟨j, hj, rfl⟩ := ha
  have hj' : j = i := by
    rw [List.getElem?_range] at hj
    · simpa using hj.symm
    · have := (List.getElem?_eq_some_iff.1 hj).1; simpa using this
  subst hj'
  simp only [Array.toList_map, Array.toList_range, List.getElem?_map, hj, Option.map_some, Option.some.injEq] at hx
  subst hx
  rw [hl]
  cases hc : z[j % zv.size]? with
  | none => simp [List.getD, hc, VRel]
  | some a =>
    obtain ⟨y, hy, hr⟩ := hz.get hc
    have : zv[j % zv.size]? = some y := by simpa using hy
    have e : zv[j % zv.size]! = y := by rw [getElem!_def, this]
    simp [List.getD, hc, e, hr]

theorem zeroCells_fill {z : List AV} {zv : Array Value} (hz : VRels ρ z zv.toList) (n : Nat) : VRels ρ (zeroFill z (n * z.length)) (Builtin.zeroCells zv n).toList := by
  have hl := hz.length
  simp only [Array.length_toList] at hl
  rw [hl]
  exact zeroFill_rel hz (n * zv.size)

/-- The cells of a piece of a block. -/
theorem piece_rel (hr : HRel M w ρ h) {i p n B O : Nat} {q : List AV} (hp : piece h i p n = some q) (hρ : n ≠ 0 → ρ i = some (B, O)) :
    ∃ vs : List Value, vs.length = n ∧ VRels ρ q vs ∧ ∀ (j : Nat) x, vs[j]? = some x → w.cell? ((⟨B, O + p, none⟩ : Addr).add j) = some x := by
  unfold piece at hp
  split at hp
  · rename_i h0
    simp at hp
    subst hp
    subst h0
    exact ⟨[], rfl, rfl, fun j x hx => by simp at hx⟩
  · rename_i hn
    simp only [Option.bind_eq_some_iff] at hp
    obtain ⟨b, hb, hp⟩ := hp
    split at hp
    · rename_i hl
      simp at hp
      subst hp
      obtain ⟨B1, O1, e1, _, hc⟩ := hr.blk i b hb
      have e2 := hρ hn
      rw [e1] at e2
      simp at e2
      obtain ⟨rfl, rfl⟩ := e2
      have hlen : p + n ≤ b.cells.length := by
        rw [List.length_take, List.length_drop] at hl; omega
      have hget : ∀ j, j < n → ∃ a, b.cells[p + j]? = some a ∧ ∃ x, w.cell? ⟨B1, O1 + (p + j), none⟩ = some x ∧ VRel ρ a x := by
        intro j hj
        have hlt : p + j < b.cells.length := by omega
        obtain ⟨⟨x, hx, hv⟩, _⟩ := hc (p + j) _ (List.getElem?_eq_getElem hlt)
        exact ⟨_, List.getElem?_eq_getElem hlt, x, hx, hv⟩
      refine ⟨(List.range n).map fun j => ((w.cell? ⟨B1, O1 + (p + j), none⟩).getD undef), by simp, ?_, ?_⟩
      · refine VRels.of_get (by simp [hl]) ?_
        intro j a x ha hx
        have hj : j < n := by
          have := (List.getElem?_eq_some_iff.1 ha).1
          omega
        obtain ⟨a', ha', y, hy, hv⟩ := hget j hj
        rw [List.getElem?_take_of_lt hj, List.getElem?_drop, ha'] at ha
        simp at ha
        subst ha
        simp [hj, hy] at hx
        subst hx
        exact hv
      · intro j x hx
        have hj : j < n := by
          have := (List.getElem?_eq_some_iff.1 hx).1
          simpa using this
        obtain ⟨a', ha', y, hy, hv⟩ := hget j hj
        simp [hj, hy] at hx
        subst hx
        rw [Addr.add_at, Nat.add_assoc]
        exact hy
    · simp at hp

theorem run_loadCells_of {B O : Nat} {vs : List Value} (hc : ∀ (j : Nat) x, vs[j]? = some x → w.cell? ((⟨B, O, none⟩ : Addr).add j) = some x) :
    (loadCells ⟨B, O, none⟩ vs.length).run P w = .ok vs.toArray w := run_loadCells_list w _ vs hc

theorem load_sound (hr : HRel M w ρ h) {t : TypeId} {i p : Nat} {v : AV} {x : Value} (hl : aload P h t i p = some v) (hx : VRel ρ (.ptr i p) x) :
    ∃ z, VRel ρ v z ∧ (Instr.loadAt t x).run P w = .ok z w := by
  obtain ⟨B, O, hρ, rfl⟩ := hx
  simp only [aload, Option.bind_eq_some_iff] at hl
  obtain ⟨b, hb, hl⟩ := hl
  unfold apart at hl
  split at hl
  · rename_i inf hag hi
    dsimp only at hl
    split at hl
    · rename_i hlen
      simp at hl
      subst hl
      have hp : piece h i p inf.size = some ((b.cells.drop p).take inf.size) := by
        unfold piece
        split
        · rename_i h0; rw [h0]; simp
        · simp only [hb, Option.bind_some, hlen, if_true]
      obtain ⟨vs, h1, h2, h3⟩ := piece_rel hr hp (fun _ => hρ)
      refine ⟨.agg vs.toArray, ⟨vs.toArray, rfl, by simpa using h2⟩, ?_⟩
      have hlc := run_loadCells_of (P := P) (w := w) h3
      rw [h1] at hlc
      simp [Instr.loadAt, Instr.sureAddr, loadVar, run_isAgg hag, run_sizeOf hi, hlc]
    · simp at hl
  · rename_i hag
    obtain ⟨B1, O1, e1, _, hc⟩ := hr.blk i b hb
    rw [hρ] at e1
    simp at e1
    obtain ⟨rfl, rfl⟩ := e1
    obtain ⟨⟨y, hy, hv⟩, _⟩ := hc p v hl
    refine ⟨y, hv, ?_⟩
    simp [Instr.loadAt, Instr.sureAddr, loadVar, run_isAgg hag, hy]
  · simp at hl

theorem rdU8_rel : ∀ {q : List AV} {l : List (BitVec 8)} {vs : List Value}, rdU8 q = some l → VRels ρ q vs → vs = l.map fun b => Value.int .u8 (b.toNat : Int) := by
  intro q
  induction q with
  | nil => intro l vs hq hv; simp [rdU8] at hq; subst hq; simpa [VRels] using hv
  | cons a q ih =>
    intro l vs hq hv
    cases a <;> simp only [rdU8, reduceCtorEq, Option.map_eq_some_iff] at hq
    obtain ⟨l2, h2, rfl⟩ := hq
    obtain ⟨x, xs, rfl, hx, hxs⟩ := hv
    simp only [VRel] at hx
    subst hx
    rw [ih h2 hxs]
    simp

theorem bytesLoop : ∀ (l : List (BitVec 8)) (s : ByteArray),
    (forIn (l.map fun b => Value.int .u8 (b.toNat : Int)) s (fun c s => (do
      match c with
      | .int .u8 n => pure (ForInStep.yield (s.push (UInt8.ofNat n.toNat)))
      | _ => do
        stuck "bytesToString: byte expected"
        pure (ForInStep.yield s) : Sem (ForInStep ByteArray)))).run P w = .ok ⟨s.data ++ (l.map UInt8.ofBitVec).toArray⟩ w := by
  intro l
  induction l with
  | nil => intro s; simp
  | cons b l ih =>
    intro s
    simp only [List.map_cons, List.forIn_cons, Sem.run_bind, Sem.run_pure, Result.andThen_ok]
    rw [ih]
    have e : UInt8.ofNat ((b.toNat : Int)).toNat = UInt8.ofBitVec b := by
      rw [Int.toNat_natCast]
      exact UInt8.toBitVec_inj.1 (by simp)
    rw [e]
    congr 2
    apply Array.ext'
    simp [ByteArray.push]

end
end Go.Sym

namespace Go.Sym
set_option linter.unusedVariables false
set_option linter.unusedSimpArgs false

/-- What an operation's run comes to. -/
def OpPost (P : Program) (w : World) (Post : Value → World → Prop) : Result Next → Prop
  | .ok (.value x) w' => Post x w'
  | .ok .skip w' => Post undef w'
  | .ok (.enter f args) w' => w' = w ∧ Calls P f args w (fun e w'' => ∃ x, e = .returned x ∧ Post x w'')
  | _ => False

section
variable {P : Program} {ρ : Rho} {w : World} {M : Nat → Prop} {h : H} {Γ : Ctx} {gl : Gl}

theorem alloc_freeze (w : World) (cs : Array Value) (e : TypeId) (n : Nat) : (w.alloc (.cells cs e)).freeze ⟨w.heap.size, n, none⟩ 1 = w.alloc (.cells cs e (n, n + 1)) := by
  unfold World.freeze World.alloc
  rw [if_neg (by omega)]
  congr 1
  apply Array.ext
  · simp
  · intro k h1 h2
    simp only [Array.getElem_modify, Array.getElem_push]
    simp only [Array.size_modify, Array.size_push] at h1
    by_cases hk : k = w.heap.size
    · subst hk
      simp
    · have hlt : k < w.heap.size := by omega
      simp [hlt, Ne.symm hk]

theorem run_newRow (e : TypeId) (cs : Array Value) : (newRow e cs).run P w = .ok ⟨w.heap.size, 0, none⟩ (w.alloc (.cells cs e)) := rfl
theorem run_chooseCap (need old : Nat) (e : TypeId) : (choose (.appendCap need old e)).run P w = .ok (need + w.tape w.drawn (.appendCap need old e) % (2 ^ 63 - need)) w.drew := rfl
theorem shape_new (cs : Array Value) (e : TypeId) : (w.alloc (.cells cs e)).shape? w.heap.size = some (e, cs.size) := by
  have hn := heap_alloc_new w (.cells cs e)
  simp only [World.shape?, hn]

theorem run_toBytes (e : TypeId) (s : ByteArray) : ∃ c w', (Conv.stringToBytes e s).run P w = .ok (.slice (some ⟨w.heap.size, 0, none⟩) s.size (s.size + c)) w' ∧
    w' = w.drew.alloc (.cells ((s.data.map fun (b : UInt8) => Value.int .u8 (b.toNat : Int)) ++ Array.replicate c (Value.int .u8 0)) e (s.size + c, s.size + c + 1)) := by
  refine ⟨w.tape w.drawn (.appendCap s.size 0 e) % (2 ^ 63 - s.size), _, ?_, rfl⟩
  generalize hc : w.tape w.drawn (.appendCap s.size 0 e) % (2 ^ 63 - s.size) = c
  simp only [Conv.stringToBytes, Sem.run_bind, run_chooseCap, hc, Result.andThen_ok, run_newRow, Nat.add_sub_cancel_left, markStringish, run_shape]
  have hsh := shape_new (w := w.drew) ((s.data.map fun b => Value.int .u8 (b.toNat : Int)) ++ Array.replicate c (Value.int .u8 0)) e
  rw [World.size_drew] at hsh
  have hsz : ((s.data.map fun b => Value.int .u8 (b.toNat : Int)) ++ Array.replicate c (Value.int .u8 0)).size = s.size + c := by
    rw [Array.size_append, Array.size_map, Array.size_replicate]; rfl
  rw [hsz] at hsh
  simp only [World.size_drew, hsh, Result.andThen_ok, run_freeze, Sem.run_pure]
  have := alloc_freeze w.drew ((s.data.map fun b => Value.int .u8 (b.toNat : Int)) ++ Array.replicate c (Value.int .u8 0)) e (s.size + c)
  rw [World.size_drew] at this
  rw [this]

theorem strCells_rel (ρ : Rho) (s : ByteArray) (vs : List Value) (hv : vs = s.data.toList.map fun b => Value.int .u8 (b.toNat : Int)) : VRels ρ (strCells s) vs := by
  subst hv
  unfold strCells
  induction s.data.toList with
  | nil => simp [VRels]
  | cons b l ih => exact ⟨_, _, rfl, rfl, ih⟩

theorem replicate_rel {a : AV} {x : Value} (hv : VRel ρ a x) : ∀ n, VRels ρ (List.replicate n a) (List.replicate n x)
  | 0 => rfl
  | n + 1 => ⟨x, List.replicate n x, rfl, hv, replicate_rel hv n⟩

theorem run_fromBytes {i p n cp : Nat} {l : List (BitVec 8)} {q : List AV} {x : Value} (hr : HRel M w ρ h) (hp : piece h i p n = some q) (hq : rdU8 q = some l) (hx : VRel ρ (.slice i p n cp) x) :
    (Conv.bytesToString x).run P w = .ok (.string (bytesStr l)) w := by
  have done : ∀ (B O : Nat) (vs : List Value), vs = l.map (fun b => Value.int .u8 (b.toNat : Int)) → (loadCells ⟨B, O, none⟩ vs.length).run P w = .ok vs.toArray w →
      (Conv.bytesToString (.slice (some ⟨B, O, none⟩) vs.length cp)).run P w = .ok (.string (bytesStr l)) w := by
    intro B O vs hvs hlc
    have hb := bytesLoop (P := P) (w := w) l ByteArray.empty
    simp only [Conv.bytesToString, Sem.run_bind, hlc, Result.andThen_ok]
    rw [← Array.forIn_toList]
    subst hvs
    simp only [List.toList_toArray]
    refine (congrArg (fun r => Result.andThen r (fun a w' => Sem.run P (pure (Value.string a)) w')) hb).trans ?_
    simp only [Result.andThen_ok, Sem.run_pure, bytesStr]
    congr 2
    simp
  rcases hx with ⟨B, O, hρ, rfl⟩ | ⟨rfl, rfl, ad, rfl⟩
  · obtain ⟨vs, h1, h2, h3⟩ := piece_rel hr hp (fun _ => hρ)
    have hvs := rdU8_rel hq h2
    have := done B (O + p) vs hvs (run_loadCells_of h3)
    rw [h1] at this
    exact this
  · have hq0 : q = [] := by simpa [piece] using hp.symm
    subst hq0
    simp [rdU8] at hq
    subst hq
    cases ad with
    | none => simp [Conv.bytesToString, bytesStr]; rfl
    | some a => simp [Conv.bytesToString, bytesStr, loadCells, loadCellsFrom]; rfl

theorem run_buildSlice {t e : TypeId} {ie : TypeInfo} {len : Nat} {parts : Array (Nat × Value)} {zv : Value} {cells : Array Value} (ht : P.underlying t = some (.slice e)) (hi : P.info? e = some ie) (hz : ie.zero = some zv)
    (hle : len * ie.size ≤ 16777216) (hf : Instr.fill (fun i => some (i * ie.size, ie.size)) ((Array.range (len * ie.size)).map (zv.cells[· % zv.cells.size]!)) parts.toList = some cells) :
    (Instr.buildSlice t len parts).run P w = .ok (.slice (some ⟨w.heap.size, 0, none⟩) len len) (w.alloc (.cells cells e)) := by
  have h0 : len * ie.size = 0 → Instr.fill (fun i => some (i * ie.size, ie.size)) ((Array.range (len * ie.size)).map ((#[] : Array Value)[· % (#[] : Array Value).size]!)) parts.toList = some cells := by
    intro h; rw [h] at hf ⊢; rw [Array.range_zero', Array.map_empty] at hf ⊢; exact hf
  simp only [Instr.buildSlice, Sem.run_bind, run_underlying ht, Result.andThen_ok, run_sizeOf hi]
  rw [if_neg (by show ¬ (len * ie.size > 2 ^ 24); omega)]
  by_cases hz0 : len * ie.size = 0
  · rw [if_pos hz0]
    simp only [Sem.run_pure, Result.andThen_ok, h0 hz0, Sem.run_bind, run_newRow]
  · rw [if_neg hz0]
    simp only [Sem.run_bind, zeroValue, typeInfo, run_program, Result.andThen_ok, hi, Sem.run_pure, hz, hf, run_newRow]

theorem run_makeSlice {t e : TypeId} {ie : TypeInfo} {l c : Nat} {k k' : IntKind} {zv : Value} (ht : P.underlying t = some (.slice e)) (hi : P.info? e = some ie) (hz : ie.zero = some zv)
    (h1 : l ≤ c) (h2 : ie.bytes * c ≤ 281474976710656) (h3 : c ≤ 9223372036854775807) :
    (Instr.makeSlice t (.int k (l : Int)) (.int k' (c : Int))).run P w = .ok (.slice (some ⟨w.heap.size, 0, none⟩) l c) (w.alloc (.cells ((Array.range (c * ie.size)).map (zv.cells[· % zv.cells.size]!)) e)) := by
  have wr : ∀ n : Nat, n ≤ 9223372036854775807 → IntKind.i64.wrap (n : Int) = n := by
    intro n hn
    simp only [IntKind.wrap, IntKind.bits, IntKind.signed]
    have : (n : Int) % 2 ^ 64 = n := Int.emod_eq_of_lt (by omega) (by omega)
    simp only [this]
    split
    · simp_all; omega
    · rfl
  have hb : ¬ ((ie.bytes : Int) * (c : Int) > 2 ^ 48) := by
    have : ((ie.bytes * c : Nat) : Int) ≤ 281474976710656 := by generalize ie.bytes * c = x at h2 ⊢; omega
    rw [Int.natCast_mul] at this
    omega
  have hcond : ((decide ((c : Int) < 0) || decide ((ie.bytes : Int) * (c : Int) > 2 ^ 48)) || decide ((l : Int) < 0) || decide ((l : Int) > (c : Int))) = false := by
    rw [decide_eq_false (show ¬ ((c : Int) < 0) by omega), decide_eq_false hb, decide_eq_false (show ¬ ((l : Int) < 0) by omega), decide_eq_false (show ¬ ((l : Int) > (c : Int)) by omega)]
    rfl
  simp only [Instr.makeSlice, Sem.run_bind, run_underlying ht, Result.andThen_ok, asInt, asIntOf, Sem.run_pure, typeInfo, run_program, hi, wr l (by omega), wr c h3, hcond, Bool.false_eq_true, if_false, run_askRoom, Int.toNat_natCast, run_sizeOf hi]
  by_cases hz0 : c * ie.size = 0
  · rw [if_pos hz0]
    simp only [Sem.run_pure, Result.andThen_ok, Sem.run_bind, run_newRow]
    rw [hz0, Array.range_zero', Array.map_empty, Array.map_empty]
  · rw [if_neg hz0]
    simp only [Sem.run_bind, zeroValue, typeInfo, run_program, Result.andThen_ok, hi, Sem.run_pure, hz, run_newRow]

/-- The mark behind a row. -/
theorem HRel.mark {M : Nat → Prop} {w : World} {ρ : Rho} {h : H} (r : HRel M w ρ h) {B : Nat} (hM : M B) {c : Array Value} {t : TypeId} {lo hi : Nat} (hm : lo = hi ∨ c.size ≤ lo) (hb : w.heap[B]? = some (.cells c t (lo, hi))) :
    HRel M (w.freeze ⟨B, c.size, none⟩ 1) ρ h ∧ Only M w (w.freeze ⟨B, c.size, none⟩ 1) := by
  have hother : ∀ k, k ≠ B → (w.freeze ⟨B, c.size, none⟩ 1).heap[k]? = w.heap[k]? := by
    intro k hk
    unfold World.freeze
    rw [if_neg (by decide)]
    simp only [Array.getElem?_modify]
    rw [if_neg (by simpa using Ne.symm hk)]
  have hsame : ∃ lo2 hi2, (w.freeze ⟨B, c.size, none⟩ 1).heap[B]? = some (.cells c t (lo2, hi2)) ∧ c.size ≤ lo2 := by
    unfold World.freeze
    rw [if_neg (by decide)]
    simp only [Array.getElem?_modify, hb, if_true, Option.map_some]
    by_cases he : lo = hi
    · subst he; exact ⟨c.size, c.size + 1, by simp, Nat.le_refl _⟩
    · have h1 : c.size ≤ lo := by
        rcases hm with h | h
        · exact absurd h he
        · exact h
      exact ⟨min lo c.size, max hi (c.size + 1), by simp [he], by omega⟩
  obtain ⟨lo2, hi2, hs, hle⟩ := hsame
  have hsz : (w.freeze ⟨B, c.size, none⟩ 1).heap.size = w.heap.size := by
    unfold World.freeze
    rw [if_neg (by decide)]
    simp
  have hcell : ∀ a, (w.freeze ⟨B, c.size, none⟩ 1).cell? a = w.cell? a := by
    intro a
    by_cases ha : a.block = B
    · simp only [World.cell?, ha, hs, hb]
    · exact World.cell?_of_block (w := w) (hother a.block ha)
  refine ⟨⟨?_, r.sep⟩, ?_⟩
  · intro i b hi
    obtain ⟨B1, O1, h1, h2, h3⟩ := r.blk i b hi
    refine ⟨B1, O1, h1, fun hw => ⟨(h2 hw).1, by rw [hsz]; exact (h2 hw).2.1, ?_⟩, ?_⟩
    · by_cases he : B1 = B
      · subst he
        exact ⟨c, t, lo2, hi2, hs, .inr hle⟩
      · exact (h2 hw).2.2.same (hother _ he)
    · intro off a ha
      obtain ⟨⟨x, hx, hv⟩, hf⟩ := h3 off a ha
      refine ⟨⟨x, by rw [hcell]; exact hx, hv⟩, fun hw => ?_⟩
      by_cases he : B1 = B
      · subst he
        have hlt : O1 + off < c.size := by
          simp only [World.cell?, hb] at hx
          simp at hx
          exact (Array.getElem?_eq_some_iff.1 hx).1
        simp only [World.frozen?, hs, Bool.and_eq_false_imp, decide_eq_true_eq, decide_eq_false_iff_not]
        intro k1 k2
        omega
      · rw [World.frozen?_of_block (w := w) (hother _ he)]
        exact hf hw
  · refine ⟨?_, ?_, ?_, by rw [hsz]; exact Nat.le_refl _, fun k hk hn => hother k (fun e => hn (e ▸ hM))⟩
    all_goals (unfold World.freeze; rw [if_neg (by decide)])

/-- Reading, and laying new blocks. -/
theorem aopN_sound {o : Oper} {args : List AV} {ev : Operand → Value} {fr : Nat} (hev : ∀ f, ev (.func f) = .func (.func f) #[] #[]) (hargs : VRels ρ args (o.op.operands.toList.map ev))
    (hΓ : ∀ f k, Γ f = some k → CtrOK P gl f k) (hG : GW gl w) (hMG : MOK gl M)
    (hr : HRel M w ρ h) (hM : ∀ B, w.heap.size ≤ B → M B) (hf : ∀ i, fr ≤ i → i < fr + STR → ρ i = none)
    (hall : ∀ c, ∃ r, aopN P Γ o args fr c h = some r ∧ r.2.length ≤ STR) :
    OpPost P w (fun x w' => ∃ c v bs, aopN P Γ o args fr c h = some (v, bs) ∧ Good M w ρ fr v (ext h fr bs) x w') ((execOp ev o).run P w) := by
  obtain ⟨⟨v, bs⟩, h0, hlen⟩ := hall (fun _ => 0)
  have hh := h0
  unfold aopN at hh
  split at hh
  · -- alloc
    rename_i e args0 el hop
    simp only [Option.map_eq_some_iff, Prod.mk.injEq] at hh
    obtain ⟨z, hz, rfl, rfl⟩ := hh
    obtain ⟨i, zv, hi, hzv, hrel⟩ := zeroCells_rel (ρ := ρ) hz
    have hrun : (execOp ev o).run P w = .ok (.value (.pointer (some ⟨w.heap.size, 0, none⟩))) (w.alloc (.cells zv.cells el)) := by
      simp only [execOp, hop, Instr.alloc, Sem.run_bind, zeroValue, typeInfo, run_program, Result.andThen_ok, hi, Sem.run_pure, hzv, newVar, run_newRow]
    rw [hrun]
    exact ⟨_, _, _, h0, Good.ptr hr hM hf el hrel⟩
  · -- box
    rename_i e el x0 a hop
    simp only [Option.map_eq_some_iff, Prod.mk.injEq] at hh
    obtain ⟨cs, hcs, rfl, rfl⟩ := hh
    rw [hop] at hargs
    obtain ⟨y, hy, hrel⟩ := hargs.one
    simp [Op.operands] at hy
    subst hy
    have hc := (hrel.cells hcs).1
    have hrun : (execOp ev o).run P w = .ok (.value (.pointer (some ⟨w.heap.size, 0, none⟩))) (w.alloc (.cells (ev x0).cells el)) := by
      simp only [execOp, hop, Instr.box, Sem.run_bind, newVar, run_newRow, Result.andThen_ok, Sem.run_pure]
    rw [hrun]
    exact ⟨_, _, _, h0, Good.ptr hr hM hf el hc⟩
  · -- buildSlice
    rename_i args e args0 t len parts hop
    rw [hop] at hargs
    have ha : VRels ρ args ((parts.toList.map (·.2)).map ev) := by simpa [Op.operands] using hargs
    have hl : args.length = parts.toList.length := by simpa using ha.length
    split at hh
    · rename_i el ht
      simp only [Option.bind_eq_some_iff] at hh
      obtain ⟨ie, hi, z, hz, hh⟩ := hh
      split at hh
      · rename_i hle
        simp only [Option.map_eq_some_iff, Prod.mk.injEq] at hh
        obtain ⟨cs, hcs, rfl, rfl⟩ := hh
        obtain ⟨i, zv, hi', hzv, hrel⟩ := zeroCells_rel (ρ := ρ) hz
        rw [hi] at hi'
        simp only [Option.some.injEq] at hi'
        subst hi'
        have e1 : ((parts.toList.map (·.1)).zip args).map (·.1) = ((parts.map fun (i, x) => (i, ev x)).toList).map (·.1) := by
          rw [List.map_fst_zip (by simp [hl])]
          simp [List.map_map, Function.comp_def]
        have e2 : VRels ρ (((parts.toList.map (·.1)).zip args).map (·.2)) (((parts.map fun (i, x) => (i, ev x)).toList).map (·.2)) := by
          rw [List.map_snd_zip (by simp [hl])]
          simpa [List.map_map, Function.comp_def] using ha
        obtain ⟨rs, hfill, hrs⟩ := afill_sound _ _ _ _ _ _ e1 e2 (zeroFill_rel hrel (len * ie.size)) hcs
        have hrun : (execOp ev o).run P w = .ok (.value (.slice (some ⟨w.heap.size, 0, none⟩) len len)) (w.alloc (.cells rs el)) := by
          simp only [execOp, hop, Sem.run_bind, run_buildSlice (w := w) ht hi hzv hle hfill, Result.andThen_ok, Sem.run_pure]
        rw [hrun]
        exact ⟨_, _, _, h0, Good.slice hr hM hf el hrs⟩
      · simp at hh
    · simp at hh
  · -- load
    rename_i e t x0 i p hop
    rw [hop] at hargs
    obtain ⟨y, hy, hrel⟩ := hargs.one
    simp [Op.operands] at hy
    subst hy
    simp only [Option.map_eq_some_iff, Prod.mk.injEq] at hh
    obtain ⟨v', hv', rfl, rfl⟩ := hh
    obtain ⟨z, hz, hrun⟩ := load_sound (P := P) hr hv' hrel
    have hrun' : (execOp ev o).run P w = .ok (.value z) w := by
      simp only [execOp, hop, Sem.run_bind, hrun, Result.andThen_ok, Sem.run_pure]
    rw [hrun']
    exact ⟨_, _, _, h0, Good.same hr hz⟩
  · -- bytes to a string
    rename_i e src dst x0 i p n cp hop
    rw [hop] at hargs
    obtain ⟨y, hy, hrel⟩ := hargs.one
    simp [Op.operands] at hy
    subst hy
    split at hh
    · rename_i el hs hd
      split at hh
      · rename_i hu
        simp only [Option.bind_eq_some_iff, Option.map_eq_some_iff, Prod.mk.injEq] at hh
        obtain ⟨q, hq, l, hl, rfl, rfl⟩ := hh
        have hrun := run_fromBytes (P := P) hr hq hl hrel
        have hrun' : (execOp ev o).run P w = .ok (.value (.string (bytesStr l))) w := by
          rcases hrel with ⟨B, O, hρ, hv⟩ | ⟨_, _, ad, hv⟩ <;> rw [hv] at hrun
          · simp only [execOp, hop, hv, convert, Sem.run_bind, run_underlying hs, run_underlying hd, run_underlying hu, hrun, Result.andThen_ok, Sem.run_pure]
          · simp only [execOp, hop, hv, convert, Sem.run_bind, run_underlying hs, run_underlying hd, run_underlying hu, hrun, Result.andThen_ok, Sem.run_pure]
        rw [hrun']
        exact ⟨_, _, _, h0, Good.same hr rfl⟩
      · simp at hh
    · rename_i el el2 hs hd
      split at hh
      · rename_i hu
        simp only [Option.bind_eq_some_iff] at hh
        obtain ⟨b, hb, hh⟩ := hh
        split at hh
        · rename_i hc
          obtain ⟨hsd, hcp, hwr⟩ := hc
          simp only [Option.some.injEq, Prod.mk.injEq] at hh
          obtain ⟨rfl, rfl⟩ := hh
          subst hsd
          rcases hrel with ⟨B, O, hρ, hv⟩ | ⟨_, hc0, _⟩
          · obtain ⟨B1, O1, h1, h2, h3⟩ := hr.blk i b hb
            rw [hρ] at h1
            simp only [Option.some.injEq, Prod.mk.injEq] at h1
            obtain ⟨rfl, rfl⟩ := h1
            have hrel' : VRel ρ (.slice i p n cp) (ev x0) := .inl ⟨B, O, hρ, hv⟩
            obtain ⟨c, t, lo, hi, hblk, hlh⟩ := (h2 hwr).2.2
            obtain ⟨hr2, ho2⟩ := hr.mark (h2 hwr).1 hlh hblk
            have hrun' : (execOp ev o).run P w = .ok (.value (ev x0)) (w.freeze ⟨B, c.size, none⟩ 1) := by
              have hsh : w.shape? B = some (t, c.size) := by simp only [World.shape?, hblk]
              simp [execOp, hop, hv, convert, run_underlying hs, run_underlying hu, markStringish, hsh]
            rw [hrun']
            exact ⟨_, _, _, h0, ρ, ρ.le_refl, fun _ _ => rfl, hrel', hr2, ho2⟩
          · exact absurd hc0 hcp
        · simp at hh
      · simp at hh
    · simp at hh
  · -- a string to bytes
    rename_i e src dst x0 s hop
    rw [hop] at hargs
    obtain ⟨y, hy, hrel⟩ := hargs.one
    simp [Op.operands] at hy
    subst hy
    split at hh
    · rename_i el hs hd
      split at hh
      · rename_i hu
        obtain ⟨c, w', hrun, hw'⟩ := run_toBytes (P := P) (w := w) el s
        simp only [VRel] at hrel
        have hrun' : (execOp ev o).run P w = .ok (.value (.slice (some ⟨w.heap.size, 0, none⟩) s.size (s.size + c))) w' := by
          simp only [execOp, hop, hrel, convert, Sem.run_bind, run_underlying hs, run_underlying hd, run_underlying hu, hrun, Result.andThen_ok, Sem.run_pure]
        rw [hrun']
        refine ⟨fun _ => c, .slice fr 0 s.size (s.size + c), [⟨strCells s ++ List.replicate c (.u8 0), true⟩], ?_, ?_⟩
        · unfold aopN
          rw [hop]
          simp only [hs, hd, hu]
        · have hcells : VRels ρ (strCells s ++ List.replicate c (.u8 0)) ((s.data.map fun (b : UInt8) => Value.int .u8 (b.toNat : Int)) ++ Array.replicate c (Value.int .u8 0)).toList := by
            rw [Array.toList_append]
            refine (strCells_rel ρ s _ (by simp)).append ?_
            rw [Array.toList_replicate]
            exact replicate_rel (by simp [VRel]) c
          have hr' : HRel M w.drew ρ h := hr.world (Nat.le_refl _) (fun _ _ _ _ _ _ _ => rfl)
          have h0 : ρ fr = none := hf fr (Nat.le_refl _) (by unfold STR; omega)
          refine ⟨ρ.put fr (w.heap.size, 0), Rho.le_put h0, ?_, .inl ⟨w.heap.size, 0, by simp [Rho.put], rfl⟩, ?_, ?_⟩
          · intro i hi
            unfold Rho.put
            rw [if_neg]
            unfold STR at hi
            omega
          · rw [hw']
            have hsz : ((s.data.map fun (b : UInt8) => Value.int .u8 (b.toNat : Int)) ++ Array.replicate c (Value.int .u8 0)).size = s.size + c := by
              rw [Array.size_append, Array.size_map, Array.size_replicate]; rfl
            exact hr'.alloc h0 (hM _ (Nat.le_refl _)) el _ _ hcells _ (.inr (by rw [hsz]; exact Nat.le_refl _))
          · rw [hw']
            exact (Only.drew M w).trans (Only.alloc M w.drew _)
      · simp at hh
    · simp at hh
  · -- makeSlice
    rename_i e t l0 c0 l c hop
    rw [hop] at hargs
    obtain ⟨x, y, hy, h1, h2⟩ := hargs.two
    simp [Op.operands] at hy
    obtain ⟨rfl, rfl⟩ := hy
    split at hh
    · rename_i el ln cn ht hl hc
      simp only [Option.bind_eq_some_iff] at hh
      obtain ⟨ie, hi, z, hz, hh⟩ := hh
      split at hh
      · rename_i hcond
        simp only [Option.some.injEq, Prod.mk.injEq] at hh
        obtain ⟨rfl, rfl⟩ := hh
        obtain ⟨i, zv, hi', hzv, hrel⟩ := zeroCells_rel (ρ := ρ) hz
        rw [hi] at hi'
        simp only [Option.some.injEq] at hi'
        subst hi'
        obtain ⟨k, hk⟩ := idx_rel h1 hl
        obtain ⟨k', hk'⟩ := idx_rel h2 hc
        have hrun : (execOp ev o).run P w = .ok (.value (.slice (some ⟨w.heap.size, 0, none⟩) ln cn)) (w.alloc (.cells ((Array.range (cn * ie.size)).map (zv.cells[· % zv.cells.size]!)) el)) := by
          simp only [execOp, hop, hk, hk', Sem.run_bind, run_makeSlice (w := w) ht hi hzv hcond.1 hcond.2.1 hcond.2.2, Result.andThen_ok, Sem.run_pure]
        rw [hrun]
        exact ⟨_, _, _, h0, Good.slice hr hM hf el (zeroFill_rel hrel (cn * ie.size))⟩
      · simp at hh
    · simp at hh
  · -- a call
    rename_i e f args0 tys a as hop
    rw [hop] at hargs
    split at hh
    · rename_i det F hF
      obtain ⟨hcf, hd, hmono, hcalls⟩ := hΓ f _ hF
      have hops : (Op.call { callee := .value (.func f), args := args0, argTypes := tys }).operands.toList.map ev = ev (.func f) :: args0.toList.map ev := by
        simp [Op.operands, Call.operands]
      rw [hops] at hargs
      obtain ⟨x, xs, hx, _, hrest⟩ := hargs
      simp only [List.cons.injEq] at hx
      obtain ⟨rfl, rfl⟩ := hx
      have hall' : ∀ c, ∃ r, F h as fr c = some r ∧ r.2.length ≤ STR := by
        intro c
        obtain ⟨r, hr1, hr2⟩ := hall c
        unfold aopN at hr1
        rw [hop] at hr1
        simp only [hF] at hr1
        exact ⟨r, hr1, hr2⟩
      have hC := hcalls M w ρ h as (args0.map ev) fr hG hMG hr hM hf (by simpa using hrest) hall'
      have hrun : (execOp ev o).run P w = .ok (.enter f (args0.map ev)) w := by
        simp only [execOp, hop, resolve, hev, Deferred.ofValue, Sem.run_bind, Sem.run_pure, Result.andThen_ok, invoke]
        rw [hcf]
        simp
      rw [hrun]
      refine ⟨rfl, hC.mono ?_⟩
      rintro e1 w1 ⟨c, v1, bs1, x1, h1, h2, h3⟩
      refine ⟨x1, h2, c, v1, bs1, ?_, h3⟩
      unfold aopN
      rw [hop]
      simp only [hF]
      exact h1
    · simp at hh
  · simp at hh
end
end Go.Sym
