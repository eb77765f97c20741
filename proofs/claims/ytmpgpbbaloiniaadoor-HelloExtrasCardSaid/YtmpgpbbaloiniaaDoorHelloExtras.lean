/- HelloExtras: extensions of unknown kinds are left out, wherever they stand ahead of the tickets; two of one kind cannot be. Condition: the two tables of the package start as the text of the program lays them, which the card ties. -/
import Derived.Test.YtmpgpbbaloiniaaDoorShaB
import Derived.Test.YtmpgpbbaloiniaaDoorHelE
import Derived.SizedLaws
namespace Go.Sym
set_option linter.unusedVariables false
open Go.Spec
open Go.ChangeShapes Go.WideShapes
section
variable {H : Type} {enc : TypeId × Value → H} {P : Program} {W : World} {base : Nat} {spare : Nat → Bool} {held : Bool}
/-- What is read takes no more room than what is read may. -/
def Wok (P : Program) (t : TypeId) (d : DataW H) : Prop := ∀ b ∈ d.weights P t, b ≤ reachBytes
theorem Wok.field {t : TypeId} {fs : Array Field} (ht : P.underlying t = some (.struct fs)) {parts : List (DataW H)} (h : Wok P t (.agg parts)) {i : Nat} {f : Field} {d : DataW H} (hf : fs[i]? = some f) (hd : parts[i]? = some d) : Wok P f.type d := by
  intro b hb
  refine h b ?_
  simp only [DataW.weights, ht]
  exact DataW.weights_mem_each (j := i) (by simp [hf]) hd b hb
theorem w_all {e : TypeId} {n : Nat} : ∀ {l : List (DataW H)} {i : Nat} {d : DataW H}, l[i]? = some d → n ∈ d.weights P e → n ∈ DataW.weightsAll P e l
  | [], i, d, h, _ => by simp at h
  | a :: l, 0, d, h, hn => by
    simp only [List.getElem?_cons_zero, Option.some.injEq] at h
    subst h
    simp only [DataW.weightsAll, List.mem_append]
    exact .inl hn
  | a :: l, i + 1, d, h, hn => by
    simp only [List.getElem?_cons_succ] at h
    simp only [DataW.weightsAll, List.mem_append]
    exact .inr (w_all h hn)
theorem Wok.elem {t e : TypeId} (ht : P.underlying t = some (.slice e)) {l s : List (DataW H)} (h : Wok P t (.slice l s)) {i : Nat} {d : DataW H} (hd : l[i]? = some d) : Wok P e d := by
  intro b hb
  refine h b ?_
  simp only [DataW.weights, ht, List.mem_cons, List.mem_append]
  exact .inr (.inl (w_all hd hb))
theorem Wok.len {t e : TypeId} (ht : P.underlying t = some (.slice e)) {l s : List (DataW H)} (h : Wok P t (.slice l s)) : l.length * P.bytesOf e ≤ reachBytes := by
  have := h ((l.length + s.length) * P.bytesOf e) (by simp only [DataW.weights, ht, List.mem_cons]; exact .inl trivial)
  exact Nat.le_trans (Nat.mul_le_mul_right _ (Nat.le_add_right _ _)) this
theorem rd_bytesZ {t e : TypeId} {fuel : Nat} {cs : List Value} {x : DataW H × List MemPlace} (ht : P.underlying t = some (.slice e)) (he : P.underlying e = some (.int .u8)) (hc : P.cellsOf e = 1) (hb : P.bytesOf e = 1)
    (h : DataW.trod enc P W base spare held fuel t cs = some x) (hz : Wok P t x.1) : ∃ v l c, cs = [v] ∧ (c = true → l = []) ∧ l.length ≤ reachBytes ∧ VRel (κW W) (.rb true l (.is c)) v := by
  obtain ⟨v, l, c, hcs, h1, h2, h3⟩ := rd_bytes ht he hc h
  refine ⟨v, l, c, hcs, h1, ?_, h3⟩
  obtain ⟨a, k, hv, _⟩ := h3
  rcases DataW.trod_slice ht h with ⟨hcs2, _⟩ | ⟨a2, len, cap, elems, rest, n, _, hcs2, hx, _, _, _, hlen, _⟩
  · rw [hcs, List.cons.injEq, hv, Value.slice.injEq] at hcs2
    rw [hcs2.1.2.1]
    exact Nat.zero_le _
  · rw [hcs, List.cons.injEq, hv, Value.slice.injEq] at hcs2
    rw [hcs2.1.2.1]
    rw [hx] at hz
    have := hz.len ht
    rw [List.length_map, hlen, hb, Nat.mul_one] at this
    exact this
theorem fieldZ {t : TypeId} {fs : Array Field} {fuel : Nat} {cs : List Value} {x : DataW H × List MemPlace} (ht : P.underlying t = some (.struct fs)) (h : DataW.trod enc P W base spare held fuel t cs = some x) (hz : Wok P t x.1) {i : Nat} {f : Field} (hf : fs[i]? = some f) :
    ∃ m y, DataW.trod enc P W base spare held m f.type ((cs.drop f.offset).take (P.cellsOf f.type)) = some y ∧ Wok P f.type y.1 := by
  obtain ⟨xs, m, _, hx, _, hn, hel⟩ := DataW.trod_struct ht h
  have hi := (Array.getElem?_eq_some_iff.1 hf).1
  have e : xs[i]? = some (xs[i]'(by omega)) := List.getElem?_eq_getElem (by omega)
  rw [hx] at hz
  exact ⟨m, _, by rw [hel i f hf, e], hz.field ht (i := i) hf (by rw [List.getElem?_map, e]; rfl)⟩
theorem two_of {l : List Value} (h : l.length = 2) : ∃ a b, l = [a, b] := by
  match l, h with
  | [a, b], _ => exact ⟨a, b, rfl⟩
theorem rd_rowsZ {t e : TypeId} {fuel : Nat} {cs : List Value} {x : DataW H × List MemPlace} {sz : Nat} {Sh : List AV → Prop} {av0 : List AV} (ht : P.underlying t = some (.slice e)) (hsz : P.cellsOf e = sz) (hpos : 0 < sz) (h0 : Sh av0)
    (hel : ∀ n xs y, DataW.trod enc P W base spare held n e xs = some y → Wok P e y.1 → ∃ av, Sh av ∧ datas true av = true ∧ VRels (κW W) av xs)
    (h : DataW.trod enc P W base spare held fuel t cs = some x) (hz : Wok P t x.1) : ∃ v n g c, cs = [v] ∧ (c = true → n = 0) ∧ n * P.bytesOf e ≤ reachBytes ∧ (∀ y, Sh (g y)) ∧ VRel (κW W) (.ros true sz n g (.is c)) v := by
  subst hsz
  rcases DataW.trod_slice ht h with ⟨hcs, _⟩ | ⟨a, len, cap, elems, rest, n, _, hcs, hx, hb, hl, hm, hlen, hE, _, _⟩
  · exact ⟨_, 0, fun _ => av0, true, hcs, fun _ => rfl, by rw [Nat.zero_mul]; exact Nat.zero_le _, fun _ => h0, none, 0, rfl, Nat.le_refl _, rfl, .inl rfl⟩
  · rw [hx] at hz
    have hln := hz.len ht
    rw [List.length_map, hlen] at hln
    have each : ∀ i, ∃ av, Sh av ∧ (i < len → datas true av = true ∧ ∃ xs, W.cells? base (a.add (i * P.cellsOf e)) (P.cellsOf e) = some xs ∧ VRels (κW W) av xs) := by
      intro i
      by_cases hi : i < len
      · have h1 := hE i hi
        rw [List.getElem?_eq_getElem (by omega), Option.bind_eq_some_iff] at h1
        obtain ⟨xs, h2, h3⟩ := h1
        obtain ⟨av, h4, h5, h6⟩ := hel n xs _ h3 (hz.elem ht (i := i) (by rw [List.getElem?_map, List.getElem?_eq_getElem (by omega)]; rfl))
        exact ⟨av, h4, fun _ => ⟨h5, xs, h2, h6⟩⟩
      · exact ⟨av0, h0, fun h => absurd h hi⟩
    refine ⟨_, len, fun i => Classical.choose (each i), false, hcs, nofun, hln, fun i => (Classical.choose_spec (each i)).1, some a, cap, rfl, hl, rfl, ?_⟩
    rcases Nat.eq_zero_or_pos len with hz | hlp
    · exact .inl hz
    · right
      obtain ⟨B, O, spot⟩ := a
      have hsp : spot = none := by
        obtain ⟨_, xs, h2, _⟩ := (Classical.choose_spec (each 0)).2 hlp
        have h3 := (World.cells?_some h2).2.2 0 hpos
        cases xs with
        | nil =>
          have := (World.cells?_some h2).2.1
          simp only [List.length_nil] at this
          omega
        | cons x0 xs =>
          simp only [Nat.zero_mul, Addr.add, if_true, List.getElem?_cons_zero] at h3
          exact spot_none h3
      subst hsp
      refine ⟨B, O, rfl, fun i hi => ?_⟩
      obtain ⟨h1, xs, h2, h3⟩ := (Classical.choose_spec (each i)).2 hi
      refine ⟨h1, xs, h3, fun c y hy => ?_⟩
      have hc : c < P.cellsOf e := by rw [← (World.cells?_some h2).2.1]; exact (List.getElem?_eq_some_iff.1 hy).1
      have h4 := (World.cells?_some h2).2.2 c hc
      rw [Addr.add_at, Addr.add_at, hy] at h4
      show W.cell? ⟨B, O + (i * P.cellsOf e + c), none⟩ = some y
      rw [← Nat.add_assoc]
      exact h4
end
section
variable {H : Type} {enc : TypeId × Value → H} {W : World} {base : Nat} {spare : Nat → Bool} {held : Bool}
open Go.Proofs
theorem cl3 : Tryd.prog.cellsOf 3 = 1 := by kernel_rfl
theorem cl5 : Tryd.prog.cellsOf 5 = 1 := by kernel_rfl
theorem cl22 : Tryd.prog.cellsOf 22 = 1 := by kernel_rfl
theorem cl57 : Tryd.prog.cellsOf 57 = 2 := by kernel_rfl
theorem cl83 : Tryd.prog.cellsOf 83 = 2 := by kernel_rfl
theorem cl27 : Tryd.prog.cellsOf 27 = 32 := by kernel_rfl
theorem cl30 : Tryd.prog.cellsOf 30 = 1 := by kernel_rfl
theorem cl31 : Tryd.prog.cellsOf 31 = 1 := by kernel_rfl
theorem cl32 : Tryd.prog.cellsOf 32 = 1 := by kernel_rfl
theorem cl33 : Tryd.prog.cellsOf 33 = 1 := by kernel_rfl
theorem cl35 : Tryd.prog.cellsOf 35 = 42 := by kernel_rfl
theorem by3 : Tryd.prog.bytesOf 3 = 8 := by kernel_rfl
theorem by5 : Tryd.prog.bytesOf 5 = 1 := by kernel_rfl
theorem by22 : Tryd.prog.bytesOf 22 = 24 := by kernel_rfl
theorem by57 : Tryd.prog.bytesOf 57 = 32 := by kernel_rfl
theorem by83 : Tryd.prog.bytesOf 83 = 32 := by kernel_rfl
def shI (av : List AV) : Prop := ∃ n, av = [.int .i64 n]
def shS (av : List AV) : Prop := ∃ (n : Int) (l : By) (c : Bool), av = [.int .i64 n, .rb true l (.is c)] ∧ l.length ≤ reachBytes
def shT (av : List AV) : Prop := ∃ (n : Int) (l : By) (c : Bool), av = [.rb true l (.is c), .int .i64 n] ∧ l.length ≤ reachBytes
def shD (av : List AV) : Prop := ∃ (l : By) (c : Bool), av = [.rb true l (.is c)] ∧ l.length ≤ reachBytes
theorem rd_I : ∀ n xs y, DataW.trod enc Tryd.prog W base spare held n 3 xs = some y → Wok Tryd.prog 3 y.1 → ∃ av, shI av ∧ datas true av = true ∧ VRels (κW W) av xs := by
  intro n xs y h _
  obtain ⟨k, rfl, _, _⟩ := DataW.trod_int Tryd.underlying3 h
  exact ⟨_, ⟨k, rfl⟩, rfl, _, [], rfl, rfl, rfl⟩
theorem rd_D : ∀ n xs y, DataW.trod enc Tryd.prog W base spare held n 22 xs = some y → Wok Tryd.prog 22 y.1 → ∃ av, shD av ∧ datas true av = true ∧ VRels (κW W) av xs := by
  intro n xs y h hz
  obtain ⟨v, l, c, rfl, _, h2, h3⟩ := rd_bytesZ Tryd.underlying22 Tryd.underlying5 cl5 by5 h hz
  exact ⟨_, ⟨l, c, rfl, h2⟩, rfl, _, [], rfl, h3, rfl⟩
theorem rd_S : ∀ n xs y, DataW.trod enc Tryd.prog W base spare held n 83 xs = some y → Wok Tryd.prog 83 y.1 → ∃ av, shS av ∧ datas true av = true ∧ VRels (κW W) av xs := by
  intro n cs y h hz
  have hl : cs.length = 2 := by
    obtain ⟨_, _, _, _, hl, _⟩ := DataW.trod_struct Tryd.underlying83 h
    rw [hl, cl83]
  obtain ⟨m0, y0, f0, _⟩ := fieldZ Tryd.underlying83 h hz (i := 0) (f := ⟨ "Group", 3, 0, false, "", "", 0⟩) rfl
  obtain ⟨m1, y1, f1, z1⟩ := fieldZ Tryd.underlying83 h hz (i := 1) (f := ⟨ "Key", 22, 1, false, "", "", 8⟩) rfl
  obtain ⟨a, b, rfl⟩ := two_of hl
  simp only [cl3, cl22] at f0 f1 z1
  obtain ⟨k, ek, _, _⟩ := DataW.trod_int Tryd.underlying3 f0
  obtain ⟨v, l, c, ev, _, h2, h3⟩ := rd_bytesZ Tryd.underlying22 Tryd.underlying5 cl5 by5 f1 z1
  simp at ek ev
  subst ek ev
  exact ⟨_, ⟨k, l, c, rfl, h2⟩, rfl, _, _, rfl, rfl, _, [], rfl, h3, rfl⟩
theorem rd_T : ∀ n xs y, DataW.trod enc Tryd.prog W base spare held n 57 xs = some y → Wok Tryd.prog 57 y.1 → ∃ av, shT av ∧ datas true av = true ∧ VRels (κW W) av xs := by
  intro n cs y h hz
  have hl : cs.length = 2 := by
    obtain ⟨_, _, _, _, hl, _⟩ := DataW.trod_struct Tryd.underlying57 h
    rw [hl, cl57]
  obtain ⟨m0, y0, f0, z0⟩ := fieldZ Tryd.underlying57 h hz (i := 0) (f := ⟨ "Ticket", 22, 0, false, "", "", 0⟩) rfl
  obtain ⟨m1, y1, f1, _⟩ := fieldZ Tryd.underlying57 h hz (i := 1) (f := ⟨ "Age", 3, 1, false, "", "", 24⟩) rfl
  obtain ⟨a, b, rfl⟩ := two_of hl
  simp only [cl3, cl22] at f0 f1 z0
  obtain ⟨k, ek, _, _⟩ := DataW.trod_int Tryd.underlying3 f1
  obtain ⟨v, l, c, ev, _, h2, h3⟩ := rd_bytesZ Tryd.underlying22 Tryd.underlying5 cl5 by5 f0 z0
  simp at ek ev
  subst ek ev
  exact ⟨_, ⟨k, l, c, rfl, h2⟩, rfl, _, _, rfl, h3, _, [], rfl, rfl, rfl⟩
theorem rowsI {g : Nat → List AV} (h : ∀ y, shI (g y)) : ∃ L : Nat → Int, g = fun j => [.int .i64 (L j)] :=
  ⟨fun y => Classical.choose (h y), funext fun y => Classical.choose_spec (h y)⟩
theorem rowsS {g : Nat → List AV} (h : ∀ y, shS (g y)) : ∃ (G : Nat → Int) (K : Nat → By) (C : Nat → Bool), g = (fun j => [.int .i64 (G j), .rb true (K j) (.is (C j))]) ∧ ∀ j, (K j).length ≤ reachBytes :=
  ⟨fun y => Classical.choose (h y), fun y => Classical.choose (Classical.choose_spec (h y)), fun y => Classical.choose (Classical.choose_spec (Classical.choose_spec (h y))),
    funext fun y => (Classical.choose_spec (Classical.choose_spec (Classical.choose_spec (h y)))).1, fun y => (Classical.choose_spec (Classical.choose_spec (Classical.choose_spec (h y)))).2⟩
theorem rowsT {g : Nat → List AV} (h : ∀ y, shT (g y)) : ∃ (G : Nat → Int) (K : Nat → By) (C : Nat → Bool), g = (fun j => [.rb true (K j) (.is (C j)), .int .i64 (G j)]) ∧ ∀ j, (K j).length ≤ reachBytes :=
  ⟨fun y => Classical.choose (h y), fun y => Classical.choose (Classical.choose_spec (h y)), fun y => Classical.choose (Classical.choose_spec (Classical.choose_spec (h y))),
    funext fun y => (Classical.choose_spec (Classical.choose_spec (Classical.choose_spec (h y)))).1, fun y => (Classical.choose_spec (Classical.choose_spec (Classical.choose_spec (h y)))).2⟩
theorem rowsD {g : Nat → List AV} (h : ∀ y, shD (g y)) : ∃ (K : Nat → By) (C : Nat → Bool), g = (fun j => [.rb true (K j) (.is (C j))]) ∧ ∀ j, (K j).length ≤ reachBytes :=
  ⟨fun y => Classical.choose (h y), fun y => Classical.choose (Classical.choose_spec (h y)), funext fun y => (Classical.choose_spec (Classical.choose_spec (h y))).1, fun y => (Classical.choose_spec (Classical.choose_spec (h y))).2⟩
theorem sh_by {n : Nat} {avs : List AV} (h : shAll (List.replicate n (.i .u8)) avs) : ∃ k : Nat → BitVec 8, avs = (List.range n).map fun i => .u8 (k i) := by
  obtain ⟨l, hl, rfl⟩ := sh_u8 h
  refine ⟨fun i => l.getD i 0, ?_⟩
  apply List.ext_getElem
  · simp [hl]
  · intro i h1 h2
    have : i < l.length := by simpa using h1
    simp [List.getD, this]
theorem rd_cli {fuel : Nat} {cs : List Value} {x : DataW H × List MemPlace} (h : DataW.trod enc Tryd.prog W base spare held fuel 35 cs = some x) (hz : Wok Tryd.prog 35 x.1) :
    ∃ (c : Cli) (u : Clt), c.sz ∧ VRels (κW W) (cliC c.R [.rb true c.s u.us, inR true c.n1 c.L1 u.u1, inR true c.n2 c.L2 u.u2, inR true c.n3 c.L3 u.u3, inR true c.n4 c.L4 u.u4, shR true c.n5 c.G c.K u.C u.u5, .rb true c.co u.uc, .rb true c.mo u.um, idR true c.n6 c.T c.A u.F u.u6, biR true c.n7 c.D u.E u.u7]) cs := by
  have hl : cs.length = 42 := by
    obtain ⟨_, _, _, _, hl, _⟩ := DataW.trod_struct Tryd.underlying35 h
    rw [hl, cl35]
  obtain ⟨m0, y0, f0, z0⟩ := fieldZ Tryd.underlying35 h hz (i := 0) (f := ⟨ "Random", 27, 0, false, "", "", 0⟩) rfl
  obtain ⟨m1, y1, f1, z1⟩ := fieldZ Tryd.underlying35 h hz (i := 1) (f := ⟨ "Session", 22, 32, false, "", "", 32⟩) rfl
  obtain ⟨m2, y2, f2, z2⟩ := fieldZ Tryd.underlying35 h hz (i := 2) (f := ⟨ "Suites", 30, 33, false, "", "", 56⟩) rfl
  obtain ⟨m3, y3, f3, z3⟩ := fieldZ Tryd.underlying35 h hz (i := 3) (f := ⟨ "Versions", 30, 34, false, "", "", 80⟩) rfl
  obtain ⟨m4, y4, f4, z4⟩ := fieldZ Tryd.underlying35 h hz (i := 4) (f := ⟨ "Groups", 30, 35, false, "", "", 104⟩) rfl
  obtain ⟨m5, y5, f5, z5⟩ := fieldZ Tryd.underlying35 h hz (i := 5) (f := ⟨ "Schemes", 30, 36, false, "", "", 128⟩) rfl
  obtain ⟨m6, y6, f6, z6⟩ := fieldZ Tryd.underlying35 h hz (i := 6) (f := ⟨ "Shares", 31, 37, false, "", "", 152⟩) rfl
  obtain ⟨m7, y7, f7, z7⟩ := fieldZ Tryd.underlying35 h hz (i := 7) (f := ⟨ "Cookie", 22, 38, false, "", "", 176⟩) rfl
  obtain ⟨m8, y8, f8, z8⟩ := fieldZ Tryd.underlying35 h hz (i := 8) (f := ⟨ "Modes", 22, 39, false, "", "", 200⟩) rfl
  obtain ⟨m9, y9, f9, z9⟩ := fieldZ Tryd.underlying35 h hz (i := 9) (f := ⟨ "Ids", 32, 40, false, "", "", 224⟩) rfl
  obtain ⟨ma, ya, fa, za⟩ := fieldZ Tryd.underlying35 h hz (i := 10) (f := ⟨ "Binders", 33, 41, false, "", "", 248⟩) rfl
  simp only [cl27, cl22, cl30, cl31, cl32, cl33] at f0 f1 f2 f3 f4 f5 f6 f7 f8 f9 fa
  have dk : ∀ k, cs.drop k = (cs.drop k).take 1 ++ cs.drop (k + 1) := fun k => by
    rw [← List.drop_drop, List.take_append_drop]
  have d42 : cs.drop 42 = [] := List.drop_eq_nil_of_le (by omega)
  obtain ⟨avs, hs0, _, hv0⟩ := rd_flat 9 27 (List.replicate 32 (.i .u8)) _ _ _ (by kernel_rfl) f0
  obtain ⟨R, rfl⟩ := sh_by hs0
  obtain ⟨v1, s, us, e1, _, _, r1⟩ := rd_bytesZ Tryd.underlying22 Tryd.underlying5 cl5 by5 f1 z1
  obtain ⟨v2, n1, g1, u1, e2, _, w1, k1, r2⟩ := rd_rowsZ Tryd.underlying30 cl3 (by decide) ⟨0, rfl⟩ rd_I f2 z2
  obtain ⟨v3, n2, g2, u2, e3, _, w2, k2, r3⟩ := rd_rowsZ Tryd.underlying30 cl3 (by decide) ⟨0, rfl⟩ rd_I f3 z3
  obtain ⟨v4, n3, g3, u3, e4, _, w3, k3, r4⟩ := rd_rowsZ Tryd.underlying30 cl3 (by decide) ⟨0, rfl⟩ rd_I f4 z4
  obtain ⟨v5, n4, g4, u4, e5, _, w4, k4, r5⟩ := rd_rowsZ Tryd.underlying30 cl3 (by decide) ⟨0, rfl⟩ rd_I f5 z5
  obtain ⟨v6, n5, g5, u5, e6, _, w5, k5, r6⟩ := rd_rowsZ Tryd.underlying31 cl83 (by decide) ⟨0, [], true, rfl, Nat.zero_le _⟩ rd_S f6 z6
  obtain ⟨v7, co, uc, e7, _, _, r7⟩ := rd_bytesZ Tryd.underlying22 Tryd.underlying5 cl5 by5 f7 z7
  obtain ⟨v8, mo, um, e8, _, _, r8⟩ := rd_bytesZ Tryd.underlying22 Tryd.underlying5 cl5 by5 f8 z8
  obtain ⟨v9, n6, g6, u6, e9, _, w6, k6, r9⟩ := rd_rowsZ Tryd.underlying32 cl57 (by decide) ⟨0, [], true, rfl, Nat.zero_le _⟩ rd_T f9 z9
  obtain ⟨va, n7, g7, u7, ea, _, w7, k7, ra⟩ := rd_rowsZ Tryd.underlying33 cl22 (by decide) ⟨[], true, rfl, Nat.zero_le _⟩ rd_D fa za
  obtain ⟨L1, rfl⟩ := rowsI k1
  obtain ⟨L2, rfl⟩ := rowsI k2
  obtain ⟨L3, rfl⟩ := rowsI k3
  obtain ⟨L4, rfl⟩ := rowsI k4
  obtain ⟨G, K, C, rfl, lK⟩ := rowsS k5
  obtain ⟨A, T, F, rfl, lT⟩ := rowsT k6
  obtain ⟨D, E, rfl, lD⟩ := rowsD k7
  rw [by3] at w1 w2 w3 w4
  rw [by83] at w5
  rw [by57] at w6
  have er : reachBytes = 140737488351232 := rfl
  have ecs : cs = cs.take 32 ++ [v1, v2, v3, v4, v5, v6, v7, v8, v9, va] := by
    have e0 := (List.take_append_drop 32 cs).symm
    rw [dk 32, dk 33, dk 34, dk 35, dk 36, dk 37, dk 38, dk 39, dk 40, dk 41, d42, e1, e2, e3, e4, e5, e6, e7, e8, e9, ea] at e0
    exact e0
  refine ⟨⟨R, s, n1, L1, n2, L2, n3, L3, n4, L4, n5, G, K, co, mo, n6, T, A, n7, D⟩, ⟨⟨.is u1, .is u2, .is u3, .is u4, .is u5, C, .is u6, F, .is u7, E⟩, .is us, .is uc, .is um⟩, ⟨by show n1 < _; omega, by show n2 < _; omega, by show n3 < _; omega, by show n4 < _; omega, by show n5 * 32 ≤ _; omega, by show n6 * 32 ≤ _; omega, fun j _ => by show (K j).length ≤ _; have := lK j; omega, fun j _ => by show (T j).length ≤ _; have := lT j; omega, fun j _ => by show (D j).length ≤ _; have := lD j; omega⟩, ?_⟩
  rw [ecs]
  refine VRels.append ?_ ?_
  · rw [List.drop_zero] at hv0
    exact hv0
  · exact ⟨_, _, rfl, r1, _, _, rfl, r2, _, _, rfl, r3, _, _, rfl, r4, _, _, rfl, r5, _, _, rfl, r6, _, _, rfl, r7, _, _, rfl, r8, _, _, rfl, r9, _, _, rfl, ra, rfl⟩
end
end Go.Sym

/- HelloExtras: extensions of unknown kinds are left out, wherever they stand ahead of the tickets; two of one kind can't be. Condition: the two tables of the package start as the text of the program lays them, which the card ties. -/
namespace Go.Sym
open Go.Proofs Go.Spec
theorem w6 (W : World) (hG : GW gl0 W) (v0 : Value) (c : Cli) (u : Clt) (h0 : VRel (κW W) (cliT c u) v0) (hz : c.sz) (n1 : Int) (v2 : Value) (l2 : By) (c2 : Bool) (h2 : VRel (κW W) (.rb true l2 (.is c2)) v2) :
    Calls Tryd.prog 6 #[v0, .int .i64 n1, v2] W fun e w' => e = .returned (.bool true) ∧ RowKit.Below W.heap.size W w' := by
  have hv : VRels (κW W) [cliT c u, .int .i64 n1, .rb true l2 (.is c2)] [v0, .int .i64 n1, v2] := ⟨_, _, rfl, h0, _, _, rfl, rfl, _, _, rfl, h2, rfl⟩
  refine law_walk (gl := gl0) (Γ := (Gz (c0 c) (kdK n1) (l2.take (min l2.length 40)) (exB [] (kdK n1) (l2.take (min l2.length 40)))).withSym [67, 68, 74, 75]) (fn := Tryd.f6) (av := [cliT c u, .int .i64 n1, .rb true l2 (.is c2)]) (ls := lsZ c u n1 (exB [] (kdK n1) (l2.take (min l2.length 40))) l2) [] 3000 (by kernel_rfl) (by kernel_rfl) ((okGz _ _ _ _).withSym _) (by kernel_rfl) hG (by kernel_rfl) hv ?_
  exact bl6 c u n1 l2 _ hz _ _ rfl rfl
theorem cliT_of {W : World} {c : Cli} {u : Clt} {v : Value} (h : VRels (κW W) (cliC c.R [.rb true c.s u.us, inR true c.n1 c.L1 u.u1, inR true c.n2 c.L2 u.u2, inR true c.n3 c.L3 u.u3, inR true c.n4 c.L4 u.u4, shR true c.n5 c.G c.K u.C u.u5, .rb true c.co u.uc, .rb true c.mo u.um, idR true c.n6 c.T c.A u.F u.u6, biR true c.n7 c.D u.E u.u7]) v.cells.toList) : VRel (κW W) (cliT c u) v :=
  agg_of_cells h (by simp [cliC])
end Go.Sym
namespace Go.Proofs.YtmpgpbbaloiniaaDoor.helloExtras
open Go.ChangeShapes Go.WideShapes Go.ChangeAt Go.WideMaps Go.WideElems Go.RowKit
set_option linter.unusedVariables false
set_option maxRecDepth 100000 in
theorem lifted (os : Os) (started : os.Started) (H : Type) (enc : TypeId × Value → H) :
    ReturnsInHanded {} Tryd.checked os 6 .any (fun w args => (Rows.helloExtrasSpec.pre enc Tryd.prog Tryd.f6 [] false w args ∧ laidMetH Tryd.prog laid2 w) ∧ sizedMet enc Tryd.prog Tryd.f6 (OpenSpec.ofChange Rows.helloExtrasSpec) false w args)
      (Rows.helloExtrasSpec.post enc Tryd.prog Tryd.f6 false true false false) := by
  refine returnsInHanded_of_change_and (C := Tryd.checked) (X := fun w _ => laidMetH Tryd.prog laid2 w) (fun _ _ _ hh h => h.of_heap hh) own started (by kernel_rfl) Tryd.func6
    (ChangeSpec.witness_shaped (enc := enc) (C := Tryd.checked) (os := os) (X := fun w _ => laidMetH Tryd.prog laid2 w) false (World.doorLaid Tryd.prog 400 os) #[.agg (Array.replicate 32 (.int .u8 0) ++ Array.replicate 10 (.slice none 0 0)), .int .i64 0, .slice none 0 0] 8 rfl (World.shaped_of_RefB (by kernel_rfl) (by kernel_rfl)) (by kernel_rfl) (by kernel_rfl) (by kernel_rfl) (door_met os _)) ?_
  intro W base args ds gs before hval0 hW _ hsz hL _
  have hval : ∀ (j : Nat) t v, Tryd.f6.params[j]? = some t → args[j]? = some v → Value.okWide Tryd.prog W .any base t v := hval0
  have hW' := hW
  obtain ⟨p, q, hA0, hV, rfl, hfz, hnd⟩ := hW
  have hA : DataW.TrodAll enc Tryd.prog W 0 (fun _ => true) true Tryd.f6.params.toList args.toList ds p := hA0
  rw [Tryd.params6] at hA hval hsz
  obtain ⟨v0, vs0, d0, ds0, p0, q0, hargs, rfl, rfl, h0, r0⟩ := trodAll_cons hA
  obtain ⟨v1, vs1, d1, ds1, p1, q1, rfl, rfl, rfl, h1, r1⟩ := trodAll_cons r0
  obtain ⟨v2, vs2, d2, ds2, p2, q2, rfl, rfl, rfl, h2, r2⟩ := trodAll_cons r1
  obtain ⟨rfl, rfl, rfl⟩ := trodAll_nil r2
  obtain rfl : args = #[v0, v1, v2] := by cases args; simp_all
  obtain ⟨rfl, rfl⟩ := trodVars_none hV
  obtain ⟨a1, rfl, rfl, rfl, w1⟩ := open_int Tryd.underlying3 (hval 1 3 v1 rfl rfl) h1
  clear hA0 hval0
  have hlt0 : ∀ x ∈ p0, x.block < W.heap.size := fun x hx => hW'.lt x (by simp [hx])
  obtain ⟨fuel0, hf0⟩ := h0
  have hlt2 : ∀ x ∈ p2, x.block < W.heap.size := fun x hx => hW'.lt x (by simp [hx])
  obtain ⟨fuel2, hf2⟩ := h2
  obtain ⟨u2, l2, c2, hc2, hcl2, hll2, hu2⟩ := Go.Sym.rd_bytes Tryd.underlying22 Tryd.underlying5 (by kernel_rfl) hf2
  have hv2 : v2 = u2 := Go.Sym.cells_slice Tryd.underlying22 (hval 2 22 v2 rfl rfl) hc2
  subst hv2
  have hz0 : Go.Sym.Wok Tryd.prog 35 d0 := fun b hb => by
    have := List.all_eq_true.1 hsz b (DataW.weights_mem_each (j := 0) rfl rfl b hb)
    simpa using this
  obtain ⟨c, u, hz, hr⟩ := Go.Sym.rd_cli hf0 hz0
  refine (Go.Sym.w6 W (gw_laid hL) v0 c u (Go.Sym.cliT_of hr) hz a1 v2 l2 c2 hu2).mono fun e W' ⟨he, bel⟩ => ?_
  subst he
  exact ⟨_, rfl, _, _, _, [], _, [], hW', trodAll_mk1 (shut_bool Tryd.underlying4 _), (trodAll_cons_mk (Below.trod laidO (by kernel_rfl) (of_decide_eq_true (by kernel_rfl)) ⟨fuel0, hf0⟩ bel hlt0) (trodAll_cons_mk (shut_int Tryd.underlying3 w1) (trodAll_cons_mk (Below.trod laidO (by kernel_rfl) (of_decide_eq_true (by kernel_rfl)) ⟨fuel2, hf2⟩ bel hlt2) trodAll_mk0))), rfl, bel.frame _, fun h => by cases h⟩

theorem over : Rows.helloExtrasRow.holds Tryd.pinned (OpenSpec.ofChange Rows.helloExtrasSpec) :=
  OpenClaim.holds_of_wide 6 Tryd.f6 rfl rfl rfl rfl rfl rfl rfl ⟨rfl, rfl, rfl, rfl, rfl⟩ rfl rfl rfl rfl rfl (by kernel_rfl) Tryd.func6 (by kernel_rfl)
    (of_decide_eq_true (by kernel_rfl)) (by unfold Func.isWrapper; first | (rw [if_pos (by decide +kernel)]; kernel_rfl) | (rw [if_neg (by decide +kernel)]; exact ⟨rfl, rfl⟩))
    (fun os started H enc _ => lifted os started H enc)

theorem proved : Rows.HelloExtrasCardSaid :=
  Claim7.holds_tied_plain_at .later [] [.data, .data] true (true, "509a89b67618beb9fd1f9164ca8e5d72b3360772a5436b980171c475dab6690a") false
    over (fun _ h => by cases h) (by kernel_rfl) (fun _ h => by cases h) helloExtras_row_tie rfl ⟨rfl, rfl⟩ (by kernel_rfl) rfl
    (fun f fn hf hfn => by
      obtain rfl : f = 6 := Option.some.inj ((show Tryd.prog.funcNamed "relay/relaylaw08.HelloExtras" = some 6 by kernel_rfl).symm.trans hf) |>.symm
      obtain rfl : fn = Tryd.f6 := (Option.some.inj (Tryd.func6.symm.trans hfn)).symm
      exact ⟨by kernel_rfl, fun j t ht => by
        rw [Tryd.params6] at ht
        have hm : t ∈ [35, 3, 22] := by simpa using Array.mem_of_getElem? ht
        have hall : ([35, 3, 22].all fun u => !Tryd.prog.wantsStandIn u) = true := by kernel_rfl
        exact (show Tryd.prog.wantsStandIn t = false by simpa using List.all_eq_true.1 hall t hm)⟩)
    (by kernel_rfl)
#print axioms proved
end Go.Proofs.YtmpgpbbaloiniaaDoor.helloExtras
