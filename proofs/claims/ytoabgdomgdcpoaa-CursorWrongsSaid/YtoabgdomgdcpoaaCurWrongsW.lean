/- The walk of CursorWrongs: it answers true, and writes nothing that was there. -/
import Derived.Test.YtoabgdomgdcpoaaCurKit
namespace Go.Sym
open Go.Proofs
set_option linter.unusedVariables false
theorem wrap_i64 {x : Int} (h1 : -9223372036854775808 ≤ x) (h2 : x < 9223372036854775808) : IntKind.i64.wrap x = x := by
  simp [IntKind.wrap, IntKind.signed, IntKind.bits]
  split <;> omega
theorem vc5 (l : List (BitVec 8)) (c b : Bool) (n : Int) : bodyP Try.prog D2 gl0 [] [] 300 Try.f5 0 [.rb true l (.is c), .int .i64 n, .bool b] [] (retQ Try.prog Try.f5 0 ⟨[], .bool true, [], []⟩) = (
(0 : Int) ≤ Min.min (↑l.length : Int) (40 : Int) ∧
  (Min.min (↑l.length : Int) (40 : Int)).toNat ≤ l.length ∧
    Bool.rec
      ((0 : Nat) = (0 : Nat) ∧
        Go.Sym.roomFor (0 : Nat) (List.take (Min.min (↑l.length : Int) (40 : Int)).toNat l).length (1 : Nat) ∧
          Bool.rec
            (Bool.rec
              (Bool.rec
                ((0 : Int) ≤
                    Go.IntKind.i64.wrap
                      (Go.IntKind.i64.wrap ((↑(List.take (Min.min (↑l.length : Int) (40 : Int)).toNat l).length : Int) + (1 : Int)) +
                        Go.IntKind.i64.wrap (↑(BitVec.ofInt (64 : Nat) n % BitVec.ofNat (64 : Nat) (9 : Nat)).toNat : Int)) ∧
                  (Go.IntKind.i64.wrap
                          (Go.IntKind.i64.wrap ((↑(List.take (Min.min (↑l.length : Int) (40 : Int)).toNat l).length : Int) + (1 : Int)) +
                            Go.IntKind.i64.wrap (↑(BitVec.ofInt (64 : Nat) n % BitVec.ofNat (64 : Nat) (9 : Nat)).toNat : Int))).toNat ≤
                      (0 : Nat) + (List.take (Min.min (↑l.length : Int) (40 : Int)).toNat l).length ∧
                    (0 : Nat) +
                          (Go.IntKind.i64.wrap
                              (Go.IntKind.i64.wrap ((↑(List.take (Min.min (↑l.length : Int) (40 : Int)).toNat l).length : Int) + (1 : Int)) +
                                Go.IntKind.i64.wrap (↑(BitVec.ofInt (64 : Nat) n % BitVec.ofNat (64 : Nat) (9 : Nat)).toNat : Int))).toNat ≤
                        ([] ++ List.take (Min.min (↑l.length : Int) (40 : Int)).toNat l).length ∧
                      (0 : Nat) = (0 : Nat) ∧
                        Go.Sym.roomFor (0 : Nat)
                            (List.take
                                (Go.IntKind.i64.wrap
                                    (Go.IntKind.i64.wrap ((↑(List.take (Min.min (↑l.length : Int) (40 : Int)).toNat l).length : Int) + (1 : Int)) +
                                      Go.IntKind.i64.wrap (↑(BitVec.ofInt (64 : Nat) n % BitVec.ofNat (64 : Nat) (9 : Nat)).toNat : Int))).toNat
                                ([] ++ List.take (Min.min (↑l.length : Int) (40 : Int)).toNat l)).length
                            (1 : Nat) ∧
                          (0 : Int) ≤
                              Go.IntKind.i64.wrap
                                (Go.IntKind.i64.wrap ((↑(List.take (Min.min (↑l.length : Int) (40 : Int)).toNat l).length : Int) + (1 : Int)) +
                                  Go.IntKind.i64.wrap (↑(BitVec.ofInt (64 : Nat) n % BitVec.ofNat (64 : Nat) (9 : Nat)).toNat : Int)) ∧
                            (Go.IntKind.i64.wrap
                                    (Go.IntKind.i64.wrap ((↑(List.take (Min.min (↑l.length : Int) (40 : Int)).toNat l).length : Int) + (1 : Int)) +
                                      Go.IntKind.i64.wrap (↑(BitVec.ofInt (64 : Nat) n % BitVec.ofNat (64 : Nat) (9 : Nat)).toNat : Int))).toNat ≤
                                (0 : Nat) + (List.take (Min.min (↑l.length : Int) (40 : Int)).toNat l).length ∧
                              Bool.true = Bool.false ∧ True)
                (Bool.true = Bool.true ∧ True)
                (Decidable.decide
                  ((↑((0 : Nat) + (List.take (Min.min (↑l.length : Int) (40 : Int)).toNat l).length) : Int) <
                    Go.IntKind.i64.wrap
                      (Go.IntKind.i64.wrap ((↑(List.take (Min.min (↑l.length : Int) (40 : Int)).toNat l).length : Int) + (1 : Int)) +
                        Go.IntKind.i64.wrap (↑(BitVec.ofInt (64 : Nat) n % BitVec.ofNat (64 : Nat) (9 : Nat)).toNat : Int)))))
              (Bool.true = Bool.false ∧ True)
              (Decidable.decide
                (Go.IntKind.i64.wrap
                    (Go.IntKind.i64.wrap ((↑(List.take (Min.min (↑l.length : Int) (40 : Int)).toNat l).length : Int) + (1 : Int)) +
                      Go.IntKind.i64.wrap (↑(BitVec.ofInt (64 : Nat) n % BitVec.ofNat (64 : Nat) (9 : Nat)).toNat : Int)) <
                  (0 : Int))))
            (Bool.true = Bool.true ∧ True) b)
      (Bool.rec
        (Bool.rec
          (Bool.rec
            ((0 : Int) ≤
                Go.IntKind.i64.wrap
                  (Go.IntKind.i64.wrap ((↑(List.take (Min.min (↑l.length : Int) (40 : Int)).toNat l).length : Int) + (1 : Int)) +
                    Go.IntKind.i64.wrap (↑(BitVec.ofInt (64 : Nat) n % BitVec.ofNat (64 : Nat) (9 : Nat)).toNat : Int)) ∧
              (Go.IntKind.i64.wrap
                      (Go.IntKind.i64.wrap ((↑(List.take (Min.min (↑l.length : Int) (40 : Int)).toNat l).length : Int) + (1 : Int)) +
                        Go.IntKind.i64.wrap (↑(BitVec.ofInt (64 : Nat) n % BitVec.ofNat (64 : Nat) (9 : Nat)).toNat : Int))).toNat ≤
                  (0 : Nat) ∧
                (0 : Int) ≤
                    Go.IntKind.i64.wrap
                      (Go.IntKind.i64.wrap ((↑(List.take (Min.min (↑l.length : Int) (40 : Int)).toNat l).length : Int) + (1 : Int)) +
                        Go.IntKind.i64.wrap (↑(BitVec.ofInt (64 : Nat) n % BitVec.ofNat (64 : Nat) (9 : Nat)).toNat : Int)) ∧
                  (Go.IntKind.i64.wrap
                          (Go.IntKind.i64.wrap ((↑(List.take (Min.min (↑l.length : Int) (40 : Int)).toNat l).length : Int) + (1 : Int)) +
                            Go.IntKind.i64.wrap (↑(BitVec.ofInt (64 : Nat) n % BitVec.ofNat (64 : Nat) (9 : Nat)).toNat : Int))).toNat ≤
                      (0 : Nat) ∧
                    Bool.true = Bool.false ∧ True)
            (Bool.true = Bool.true ∧ True)
            (Decidable.decide
              ((0 : Int) <
                Go.IntKind.i64.wrap
                  (Go.IntKind.i64.wrap ((↑(List.take (Min.min (↑l.length : Int) (40 : Int)).toNat l).length : Int) + (1 : Int)) +
                    Go.IntKind.i64.wrap (↑(BitVec.ofInt (64 : Nat) n % BitVec.ofNat (64 : Nat) (9 : Nat)).toNat : Int)))))
          (Bool.true = Bool.false ∧ True)
          (Decidable.decide
            (Go.IntKind.i64.wrap
                (Go.IntKind.i64.wrap ((↑(List.take (Min.min (↑l.length : Int) (40 : Int)).toNat l).length : Int) + (1 : Int)) +
                  Go.IntKind.i64.wrap (↑(BitVec.ofInt (64 : Nat) n % BitVec.ofNat (64 : Nat) (9 : Nat)).toNat : Int)) <
              (0 : Int))))
        (Bool.true = Bool.true ∧ True) b)
      c) := by kernel_rfl
theorem b5 (l : List (BitVec 8)) (c b : Bool) (n : Int) : Must (bodyP Try.prog D2 gl0 [] [] 300 Try.f5 0 [.rb true l (.is c), .int .i64 n, .bool b] [] (retQ Try.prog Try.f5 0 ⟨[], .bool true, [], []⟩)) := by
  constructor
  rw [vc5]
  have hM : (List.take (min (l.length : Int) 40).toNat l).length ≤ 40 := by simp; omega
  have hR : (BitVec.ofInt 64 n % 9#64).toNat < 9 := by
    rw [BitVec.toNat_umod]
    exact Nat.mod_lt _ (by decide)
  generalize (BitVec.ofInt 64 n % 9#64).toNat = R at *
  have h0 : 0 ≤ min (l.length : Int) 40 ∧ (min (l.length : Int) 40).toNat ≤ l.length := by omega
  generalize List.take (min (l.length : Int) 40).toNat l = L at *
  rw [wrap_i64 (x := (L.length : Int) + 1) (by omega) (by omega), wrap_i64 (x := (R : Int)) (by omega) (by omega), wrap_i64 (x := (L.length : Int) + 1 + R) (by omega) (by omega)]
  have e1 : decide (((0 + L.length : Nat) : Int) < (L.length : Int) + 1 + R) = true := by simp; omega
  have e2 : decide ((L.length : Int) + 1 + R < 0) = false := by simp; omega
  have e3 : decide ((0 : Int) < (L.length : Int) + 1 + R) = true := by simp; omega
  rw [e1, e2, e3]
  refine ⟨h0.1, h0.2, ?_⟩
  cases c <;> cases b <;> simp [roomFor] <;> omega
theorem w5 (W : World) (v0 : Value) (n : Int) (b : Bool) (l : List (BitVec 8)) (c : Bool) (h0 : VRel (κW W) (.rb true l (.is c)) v0) :
    Calls Try.prog 5 #[v0, .int .i64 n, .bool b] W fun e w' => e = .returned (.bool true) ∧ RowKit.Below W.heap.size W w' := by
  have hv : VRels (κW W) [.rb true l (.is c), .int .i64 n, .bool b] [v0, .int .i64 n, .bool b] := by
    simp only [VRels]
    exact ⟨_, _, rfl, h0, _, _, rfl, rfl, _, _, rfl, rfl, rfl⟩
  refine law_walk (gl := gl0) (Γ := D2) (fn := Try.f5) (av := [.rb true l (.is c), .int .i64 n, .bool b]) (ls := []) [] 300 (by kernel_rfl) (by kernel_rfl) okD2 (by kernel_rfl) (show GW gl0 W from GW.nil W) (by kernel_rfl) hv ?_
  exact b5 l c b n
end Go.Sym
