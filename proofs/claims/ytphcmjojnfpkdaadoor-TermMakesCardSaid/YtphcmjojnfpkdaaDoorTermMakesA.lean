/-
  The law TermMakes by the evaluator: its cases, and what is known of the numbers in each. Conditions: none but those that the theorems print.
-/
import Derived.Test.YtphcmjojnfpkdaaDoorTxtA
import Derived.Test.YtphcmjojnfpkdaaDoorRqY
import Derived.Test.YtphcmjojnfpkdaaDoorAhC
import Derived.WalkKit
import Derived.ProofKit
import Derived.Lib.Hide
namespace Go.Proofs.YtphcmjojnfpkdaaDoor.termMakesq
open Go.Rn Go.RowKit YtphcmjojnfpkdaaDoor.txt
noncomputable def rows : VRows := [(0, chain ah.powL, 20)]
noncomputable def kc : Kc := kcAh 15 (.cons (.p 1 2) (.cons (.p 0 20) (chain ah.powL)))
theorem rowsOk : rowsVB rows = true := by kernel_rfl
theorem kcOk {ρ : Nat → Int} (h : ρ (1000000 + 0) = 20) : KcOk Tryd.prog ρ kc := kcAh_ok ah.knownAh (ah.ahT h)
theorem globs : Tryd.prog.globals.size ≤ 100 := of_decide_eq_true (by kernel_rfl)
theorem no_orc {ρ : Nat → Int} : OrcOk Tryd.prog ρ (fun _ _ => none) := fun _ _ _ h => by cases h
/-- comparisons that are told: equal (0), less (1) -/
noncomputable def opc : BinOp → Nat
  | .eql => 0
  | .lss => 1
  | _ => 9
noncomputable def ysF (l : List (Nat × SE × SE × Bool)) : Ys := fun op a b => @List.rec (Nat × SE × SE × Bool) (fun _ => Option Bool) none (fun e _ ih => bf (Nat.beq (opc op) e.1) (bf (eqS e.2.1 a) (bf (eqS e.2.2.1 b) (some e.2.2.2) ih) ih) ih) l
/-- what is told is so -/
def SaidF (ρ : Nat → Int) (e : Nat × SE × SE × Bool) : Prop := (e.1 = 0 ∧ (e.2.1.val ρ == e.2.2.1.val ρ) = e.2.2.2) ∨ (e.1 = 1 ∧ decide (e.2.1.val ρ < e.2.2.1.val ρ) = e.2.2.2)
theorem ysF_ok {ρ : Nat → Int} : ∀ {l : List (Nat × SE × SE × Bool)}, (∀ e ∈ l, SaidF ρ e) → YsOk ρ (ysF l)
  | [], _ => fun op a b r h => by cases h
  | e :: l, hl => fun op a b r h => by
    have ih := ysF_ok (l := l) (fun x hx => hl x (List.mem_cons_of_mem _ hx)) op a b r
    have h : bf (Nat.beq (opc op) e.1) (bf (eqS e.2.1 a) (bf (eqS e.2.2.1 b) (some e.2.2.2) (ysF l op a b)) (ysF l op a b)) (ysF l op a b) = some r := h
    rcases bf_or h with ⟨h1, h⟩ | ⟨_, h⟩
    · rcases bf_or h with ⟨h2, h⟩ | ⟨_, h⟩
      · rcases bf_or h with ⟨h3, h⟩ | ⟨_, h⟩
        · cases h
          have e1 := eqS_ok _ _ h2
          have e2 := eqS_ok _ _ h3
          have h1 := Nat.eq_of_beq_eq_true h1
          refine .inl ?_
          rcases hl e List.mem_cons_self with ⟨q, p⟩ | ⟨q, p⟩
          · rw [q] at h1
            cases op <;> simp only [opc] at h1 <;> first | (rw [← e1, ← e2, ← p]; rfl) | cases h1
          · rw [q] at h1
            cases op <;> simp only [opc] at h1 <;> first | (rw [← e1, ← e2, ← p]; rfl) | cases h1
        · exact ih h
      · exact ih h
    · exact ih h
theorem wrap_in {x : Int} (h0 : -9223372036854775808 ≤ x) (h1 : x ≤ 9223372036854775807) : IntKind.i64.wrap x = x := by
  rw [IntKind.wrap_i64]; omega
theorem xor_zero {x : Int} (h0 : -9223372036854775808 ≤ x) (h1 : x ≤ 9223372036854775807) : IntKind.i64.wrap (((BitVec.ofInt 64 x) ^^^ (BitVec.ofInt 64 0)).toNat : Int) = x := by
  have e : (BitVec.ofInt 64 0) = 0#64 := by decide
  have e64 : ((2 ^ 64 : Nat) : Int) = 18446744073709551616 := by decide
  have h2 := Int.toNat_of_nonneg (Int.emod_nonneg x (show ((2 ^ 64 : Nat) : Int) ≠ 0 by decide))
  rw [e, BitVec.xor_zero, BitVec.toNat_ofInt, h2, e64, IntKind.wrap_i64]
  omega
theorem zero_xor {x : Int} (h0 : -9223372036854775808 ≤ x) (h1 : x ≤ 9223372036854775807) : IntKind.i64.wrap (((BitVec.ofInt 64 0) ^^^ (BitVec.ofInt 64 x)).toNat : Int) = x := by
  rw [BitVec.xor_comm]; exact xor_zero h0 h1
theorem wrap_0 : IntKind.i64.wrap 0 = 0 := by rw [IntKind.wrap_i64]; decide
theorem beq_sym (x y : Int) : (x == y) = (y == x) := by
  rw [Bool.eq_iff_iff, beq_iff_eq, beq_iff_eq]; exact eq_comm
theorem said_app {ρ : Nat → Int} {l1 l2 : List (Nat × SE × SE × Bool)} (h1 : ∀ e ∈ l1, SaidF ρ e) (h2 : ∀ e ∈ l2, SaidF ρ e) : ∀ e ∈ l1 ++ l2, SaidF ρ e := fun e he => (List.mem_append.1 he).elim (h1 e) (h2 e)
theorem said_one {ρ : Nat → Int} {x : Nat × SE × SE × Bool} (h : SaidF ρ x) : ∀ e ∈ [x], SaidF ρ e := fun e he => by rw [List.mem_singleton.1 he]; exact h
theorem said_if {ρ : Nat → Int} {c : Bool} {x : Nat × SE × SE × Bool} (h : c = true → SaidF ρ x) : ∀ e ∈ (bif c then [x] else []), SaidF ρ e := fun e he => by
  cases c with
  | false => cases he
  | true => rw [List.mem_singleton.1 he]; exact h rfl
abbrev rng : List (Nat × Int × Int) := [(1, -9223372036854775808, 9223372036854775807), (2, -9223372036854775808, 9223372036854775807), (3, -9223372036854775808, 9223372036854775807)]
noncomputable def fa1 (za : Bool) (zb : Bool) (zx : Bool) : List (Nat × SE × SE × Bool) := [(0, .v 1, .c (.ofNat 0), za)] ++ [(0, .v 2, .c (.ofNat 0), zb)] ++ [(0, .add .i64 (.v 1) (.v 2), .c (.ofNat 0), zx)] ++ [(0, .add .i64 (.v 2) (.v 3), .add .i64 (.v 3) (.v 2), true)] ++ (bif zb then [(0, .v 3, .add .i64 (.v 3) (.v 2), true)] else []) ++ (bif za then [(0, .v 3, .add .i64 (.v 1) (.v 3), true)] else []) ++ [(0, .c (.ofNat 0), .v 1, za)] ++ [(0, .c (.ofNat 0), .v 2, zb)] ++ [(0, .c (.ofNat 0), .add .i64 (.v 1) (.v 2), zx)]
noncomputable def run1 (za : Bool) (zb : Bool) (zx : Bool) : A := startV rows he3 fun h => call3 (ysO (ysR rng) (ysF (fa1 za zb zx))) 100 (inL fsL) (fun _ _ => none) kc 60 3 (.cons (.i .i64 1) (.cons (.y .i64 (.v 1)) (.cons (.y .i64 (.v 2)) (.cons (.y .i64 (.v 3)) .nil)))) h 100 isT
theorem fa1_ok {ρ : Nat → Int} (r3 : -9223372036854775808 ≤ ρ 3 ∧ ρ 3 ≤ 9223372036854775807) : ∀ e ∈ fa1 (ρ 1 == 0) (ρ 2 == 0) (IntKind.i64.wrap (ρ 1 + ρ 2) == 0), SaidF ρ e :=
  (said_app (said_app (said_app (said_app (said_app (said_app (said_app (said_app (said_one (.inl ⟨rfl, by show (ρ 1 == (0 : Int)) = (ρ 1 == 0); first | rfl | exact beq_sym _ _⟩))
    (said_one (.inl ⟨rfl, by show (ρ 2 == (0 : Int)) = (ρ 2 == 0); first | rfl | exact beq_sym _ _⟩)))
    (said_one (.inl ⟨rfl, by show (IntKind.i64.wrap (ρ 1 + ρ 2) == (0 : Int)) = (IntKind.i64.wrap (ρ 1 + ρ 2) == 0); first | rfl | exact beq_sym _ _⟩)))
    (said_one (.inl ⟨rfl, by show (IntKind.i64.wrap (ρ 2 + ρ 3) == IntKind.i64.wrap (ρ 3 + ρ 2)) = true; rw [Int.add_comm]; exact beq_self_eq_true _⟩)))
    (said_if (fun hc => .inl ⟨rfl, by show (ρ 3 == IntKind.i64.wrap (ρ 3 + ρ 2)) = true; rw [eq_of_beq hc, Int.add_zero, wrap_in r3.1 r3.2]; first | done | exact beq_self_eq_true _⟩)))
    (said_if (fun hc => .inl ⟨rfl, by show (ρ 3 == IntKind.i64.wrap (ρ 1 + ρ 3)) = true; rw [eq_of_beq hc, Int.zero_add, wrap_in r3.1 r3.2]; first | done | exact beq_self_eq_true _⟩)))
    (said_one (.inl ⟨rfl, by show ((0 : Int) == ρ 1) = (ρ 1 == 0); first | rfl | exact beq_sym _ _⟩)))
    (said_one (.inl ⟨rfl, by show ((0 : Int) == ρ 2) = (ρ 2 == 0); first | rfl | exact beq_sym _ _⟩)))
    (said_one (.inl ⟨rfl, by show ((0 : Int) == IntKind.i64.wrap (ρ 1 + ρ 2)) = (IntKind.i64.wrap (ρ 1 + ρ 2) == 0); first | rfl | exact beq_sym _ _⟩)))
noncomputable def fa2 (za : Bool) (zb : Bool) (zx : Bool) : List (Nat × SE × SE × Bool) := [(0, .v 1, .c (.ofNat 0), za)] ++ [(0, .v 2, .c (.ofNat 0), zb)] ++ [(0, .sub .i64 (.v 1) (.v 2), .c (.ofNat 0), zx)] ++ (bif zb then [(0, .v 3, .sub .i64 (.v 3) (.v 2), true)] else []) ++ [(0, .c (.ofNat 0), .v 1, za)] ++ [(0, .c (.ofNat 0), .v 2, zb)] ++ [(0, .c (.ofNat 0), .sub .i64 (.v 1) (.v 2), zx)] ++ (bif za then [(0, .sub .i64 (.c (.ofNat 0)) (.v 3), .sub .i64 (.v 1) (.v 3), true)] else [])
noncomputable def run2 (za : Bool) (zb : Bool) (zx : Bool) : A := startV rows he3 fun h => call3 (ysO (ysR rng) (ysF (fa2 za zb zx))) 100 (inL fsL) (fun _ _ => none) kc 60 3 (.cons (.i .i64 2) (.cons (.y .i64 (.v 1)) (.cons (.y .i64 (.v 2)) (.cons (.y .i64 (.v 3)) .nil)))) h 100 isT
theorem fa2_ok {ρ : Nat → Int} (r3 : -9223372036854775808 ≤ ρ 3 ∧ ρ 3 ≤ 9223372036854775807) : ∀ e ∈ fa2 (ρ 1 == 0) (ρ 2 == 0) (IntKind.i64.wrap (ρ 1 - ρ 2) == 0), SaidF ρ e :=
  (said_app (said_app (said_app (said_app (said_app (said_app (said_app (said_one (.inl ⟨rfl, by show (ρ 1 == (0 : Int)) = (ρ 1 == 0); first | rfl | exact beq_sym _ _⟩))
    (said_one (.inl ⟨rfl, by show (ρ 2 == (0 : Int)) = (ρ 2 == 0); first | rfl | exact beq_sym _ _⟩)))
    (said_one (.inl ⟨rfl, by show (IntKind.i64.wrap (ρ 1 - ρ 2) == (0 : Int)) = (IntKind.i64.wrap (ρ 1 - ρ 2) == 0); first | rfl | exact beq_sym _ _⟩)))
    (said_if (fun hc => .inl ⟨rfl, by show (ρ 3 == IntKind.i64.wrap (ρ 3 - ρ 2)) = true; rw [eq_of_beq hc, Int.sub_zero, wrap_in r3.1 r3.2]; first | done | exact beq_self_eq_true _⟩)))
    (said_one (.inl ⟨rfl, by show ((0 : Int) == ρ 1) = (ρ 1 == 0); first | rfl | exact beq_sym _ _⟩)))
    (said_one (.inl ⟨rfl, by show ((0 : Int) == ρ 2) = (ρ 2 == 0); first | rfl | exact beq_sym _ _⟩)))
    (said_one (.inl ⟨rfl, by show ((0 : Int) == IntKind.i64.wrap (ρ 1 - ρ 2)) = (IntKind.i64.wrap (ρ 1 - ρ 2) == 0); first | rfl | exact beq_sym _ _⟩)))
    (said_if (fun hc => .inl ⟨rfl, by show (IntKind.i64.wrap ((0 : Int) - ρ 3) == IntKind.i64.wrap (ρ 1 - ρ 3)) = true; rw [eq_of_beq hc]; first | done | exact beq_self_eq_true _⟩)))
noncomputable def fa3 (za : Bool) (zb : Bool) (zx : Bool) (oa : Bool) (ob : Bool) : List (Nat × SE × SE × Bool) := [(0, .v 1, .c (.ofNat 0), za)] ++ [(0, .v 2, .c (.ofNat 0), zb)] ++ [(0, .mul .i64 (.v 1) (.v 2), .c (.ofNat 0), zx)] ++ [(0, .mul .i64 (.v 2) (.v 3), .mul .i64 (.v 3) (.v 2), true)] ++ [(0, .v 1, .c (.ofNat 1), oa)] ++ [(0, .v 2, .c (.ofNat 1), ob)] ++ (bif zb then [(0, .v 2, .mul .i64 (.v 3) (.v 2), true)] else []) ++ (bif ob then [(0, .v 3, .mul .i64 (.v 3) (.v 2), true)] else []) ++ (bif za then [(0, .v 1, .mul .i64 (.v 1) (.v 3), true)] else []) ++ (bif oa then [(0, .v 3, .mul .i64 (.v 1) (.v 3), true)] else []) ++ [(0, .c (.ofNat 0), .v 1, za)] ++ [(0, .c (.ofNat 0), .v 2, zb)] ++ [(0, .c (.ofNat 0), .mul .i64 (.v 1) (.v 2), zx)] ++ (bif za then [(0, .c (.ofNat 0), .mul .i64 (.v 1) (.v 3), true)] else []) ++ (bif zb then [(0, .c (.ofNat 0), .mul .i64 (.v 3) (.v 2), true)] else [])
noncomputable def run3 (za : Bool) (zb : Bool) (zx : Bool) (oa : Bool) (ob : Bool) : A := startV rows he3 fun h => call3 (ysO (ysR rng) (ysF (fa3 za zb zx oa ob))) 100 (inL fsL) (fun _ _ => none) kc 60 3 (.cons (.i .i64 3) (.cons (.y .i64 (.v 1)) (.cons (.y .i64 (.v 2)) (.cons (.y .i64 (.v 3)) .nil)))) h 100 isT
theorem fa3_ok {ρ : Nat → Int} (r3 : -9223372036854775808 ≤ ρ 3 ∧ ρ 3 ≤ 9223372036854775807) : ∀ e ∈ fa3 (ρ 1 == 0) (ρ 2 == 0) (IntKind.i64.wrap (ρ 1 * ρ 2) == 0) (ρ 1 == 1) (ρ 2 == 1), SaidF ρ e :=
  (said_app (said_app (said_app (said_app (said_app (said_app (said_app (said_app (said_app (said_app (said_app (said_app (said_app (said_app (said_one (.inl ⟨rfl, by show (ρ 1 == (0 : Int)) = (ρ 1 == 0); first | rfl | exact beq_sym _ _⟩))
    (said_one (.inl ⟨rfl, by show (ρ 2 == (0 : Int)) = (ρ 2 == 0); first | rfl | exact beq_sym _ _⟩)))
    (said_one (.inl ⟨rfl, by show (IntKind.i64.wrap (ρ 1 * ρ 2) == (0 : Int)) = (IntKind.i64.wrap (ρ 1 * ρ 2) == 0); first | rfl | exact beq_sym _ _⟩)))
    (said_one (.inl ⟨rfl, by show (IntKind.i64.wrap (ρ 2 * ρ 3) == IntKind.i64.wrap (ρ 3 * ρ 2)) = true; rw [Int.mul_comm]; exact beq_self_eq_true _⟩)))
    (said_one (.inl ⟨rfl, by show (ρ 1 == (1 : Int)) = (ρ 1 == 1); first | rfl | exact beq_sym _ _⟩)))
    (said_one (.inl ⟨rfl, by show (ρ 2 == (1 : Int)) = (ρ 2 == 1); first | rfl | exact beq_sym _ _⟩)))
    (said_if (fun hc => .inl ⟨rfl, by show (ρ 2 == IntKind.i64.wrap (ρ 3 * ρ 2)) = true; rw [eq_of_beq hc, Int.mul_zero, wrap_0]; first | done | exact beq_self_eq_true _⟩)))
    (said_if (fun hc => .inl ⟨rfl, by show (ρ 3 == IntKind.i64.wrap (ρ 3 * ρ 2)) = true; rw [eq_of_beq hc, Int.mul_one, wrap_in r3.1 r3.2]; first | done | exact beq_self_eq_true _⟩)))
    (said_if (fun hc => .inl ⟨rfl, by show (ρ 1 == IntKind.i64.wrap (ρ 1 * ρ 3)) = true; rw [eq_of_beq hc, Int.zero_mul, wrap_0]; first | done | exact beq_self_eq_true _⟩)))
    (said_if (fun hc => .inl ⟨rfl, by show (ρ 3 == IntKind.i64.wrap (ρ 1 * ρ 3)) = true; rw [eq_of_beq hc, Int.one_mul, wrap_in r3.1 r3.2]; first | done | exact beq_self_eq_true _⟩)))
    (said_one (.inl ⟨rfl, by show ((0 : Int) == ρ 1) = (ρ 1 == 0); first | rfl | exact beq_sym _ _⟩)))
    (said_one (.inl ⟨rfl, by show ((0 : Int) == ρ 2) = (ρ 2 == 0); first | rfl | exact beq_sym _ _⟩)))
    (said_one (.inl ⟨rfl, by show ((0 : Int) == IntKind.i64.wrap (ρ 1 * ρ 2)) = (IntKind.i64.wrap (ρ 1 * ρ 2) == 0); first | rfl | exact beq_sym _ _⟩)))
    (said_if (fun hc => .inl ⟨rfl, by show ((0 : Int) == IntKind.i64.wrap (ρ 1 * ρ 3)) = true; rw [eq_of_beq hc, Int.zero_mul, wrap_0]; first | done | exact beq_self_eq_true _⟩)))
    (said_if (fun hc => .inl ⟨rfl, by show ((0 : Int) == IntKind.i64.wrap (ρ 3 * ρ 2)) = true; rw [eq_of_beq hc, Int.mul_zero, wrap_0]; first | done | exact beq_self_eq_true _⟩)))
noncomputable def fa4 (za : Bool) (zb : Bool) (zx : Bool) : List (Nat × SE × SE × Bool) := [(0, .v 1, .c (.ofNat 0), za)] ++ [(0, .v 2, .c (.ofNat 0), zb)] ++ [(0, .xor (.v 1) (.v 2), .c (.ofNat 0), zx)] ++ [(0, .xor (.v 2) (.v 3), .xor (.v 3) (.v 2), true)] ++ (bif zb then [(0, .v 3, .xor (.v 3) (.v 2), true)] else []) ++ (bif za then [(0, .v 3, .xor (.v 1) (.v 3), true)] else []) ++ [(0, .c (.ofNat 0), .v 1, za)] ++ [(0, .c (.ofNat 0), .v 2, zb)] ++ [(0, .c (.ofNat 0), .xor (.v 1) (.v 2), zx)]
noncomputable def run4 (za : Bool) (zb : Bool) (zx : Bool) : A := startV rows he3 fun h => call3 (ysO (ysR rng) (ysF (fa4 za zb zx))) 100 (inL fsL) (fun _ _ => none) kc 60 3 (.cons (.i .i64 4) (.cons (.y .i64 (.v 1)) (.cons (.y .i64 (.v 2)) (.cons (.y .i64 (.v 3)) .nil)))) h 100 isT
theorem fa4_ok {ρ : Nat → Int} (r3 : -9223372036854775808 ≤ ρ 3 ∧ ρ 3 ≤ 9223372036854775807) : ∀ e ∈ fa4 (ρ 1 == 0) (ρ 2 == 0) (IntKind.i64.wrap (((BitVec.ofInt 64 (ρ 1)) ^^^ (BitVec.ofInt 64 (ρ 2))).toNat : Int) == 0), SaidF ρ e :=
  (said_app (said_app (said_app (said_app (said_app (said_app (said_app (said_app (said_one (.inl ⟨rfl, by show (ρ 1 == (0 : Int)) = (ρ 1 == 0); first | rfl | exact beq_sym _ _⟩))
    (said_one (.inl ⟨rfl, by show (ρ 2 == (0 : Int)) = (ρ 2 == 0); first | rfl | exact beq_sym _ _⟩)))
    (said_one (.inl ⟨rfl, by show (IntKind.i64.wrap (((BitVec.ofInt 64 (ρ 1)) ^^^ (BitVec.ofInt 64 (ρ 2))).toNat : Int) == (0 : Int)) = (IntKind.i64.wrap (((BitVec.ofInt 64 (ρ 1)) ^^^ (BitVec.ofInt 64 (ρ 2))).toNat : Int) == 0); first | rfl | exact beq_sym _ _⟩)))
    (said_one (.inl ⟨rfl, by show (IntKind.i64.wrap (((BitVec.ofInt 64 (ρ 2)) ^^^ (BitVec.ofInt 64 (ρ 3))).toNat : Int) == IntKind.i64.wrap (((BitVec.ofInt 64 (ρ 3)) ^^^ (BitVec.ofInt 64 (ρ 2))).toNat : Int)) = true; rw [BitVec.xor_comm]; exact beq_self_eq_true _⟩)))
    (said_if (fun hc => .inl ⟨rfl, by show (ρ 3 == IntKind.i64.wrap (((BitVec.ofInt 64 (ρ 3)) ^^^ (BitVec.ofInt 64 (ρ 2))).toNat : Int)) = true; rw [eq_of_beq hc, xor_zero r3.1 r3.2]; first | done | exact beq_self_eq_true _⟩)))
    (said_if (fun hc => .inl ⟨rfl, by show (ρ 3 == IntKind.i64.wrap (((BitVec.ofInt 64 (ρ 1)) ^^^ (BitVec.ofInt 64 (ρ 3))).toNat : Int)) = true; rw [eq_of_beq hc, zero_xor r3.1 r3.2]; first | done | exact beq_self_eq_true _⟩)))
    (said_one (.inl ⟨rfl, by show ((0 : Int) == ρ 1) = (ρ 1 == 0); first | rfl | exact beq_sym _ _⟩)))
    (said_one (.inl ⟨rfl, by show ((0 : Int) == ρ 2) = (ρ 2 == 0); first | rfl | exact beq_sym _ _⟩)))
    (said_one (.inl ⟨rfl, by show ((0 : Int) == IntKind.i64.wrap (((BitVec.ofInt 64 (ρ 1)) ^^^ (BitVec.ofInt 64 (ρ 2))).toNat : Int)) = (IntKind.i64.wrap (((BitVec.ofInt 64 (ρ 1)) ^^^ (BitVec.ofInt 64 (ρ 2))).toNat : Int) == 0); first | rfl | exact beq_sym _ _⟩)))
noncomputable def fa5 (za : Bool) (zb : Bool) (eab : Bool) (ebv : Bool) (eav : Bool) : List (Nat × SE × SE × Bool) := [(0, .v 1, .c (.ofNat 0), za)] ++ [(0, .v 2, .c (.ofNat 0), zb)] ++ [(0, .v 1, .v 2, eab)] ++ [(0, .v 2, .v 3, ebv)] ++ [(0, .v 3, .v 2, ebv)] ++ [(0, .v 1, .v 3, eav)] ++ [(0, .c (.ofNat 0), .v 1, za)] ++ [(0, .c (.ofNat 0), .v 2, zb)] ++ (bif zb then [(0, .c (.ofNat 0), .v 3, ebv)] else []) ++ (bif zb then [(0, .v 3, .c (.ofNat 0), ebv)] else []) ++ (bif za then [(0, .c (.ofNat 0), .v 3, eav)] else []) ++ (bif za then [(0, .v 3, .c (.ofNat 0), eav)] else [])
noncomputable def run5 (za : Bool) (zb : Bool) (eab : Bool) (ebv : Bool) (eav : Bool) : A := startV rows he3 fun h => call3 (ysO (ysR rng) (ysF (fa5 za zb eab ebv eav))) 100 (inL fsL) (fun _ _ => none) kc 60 3 (.cons (.i .i64 5) (.cons (.y .i64 (.v 1)) (.cons (.y .i64 (.v 2)) (.cons (.y .i64 (.v 3)) .nil)))) h 100 isT
theorem fa5_ok {ρ : Nat → Int} : ∀ e ∈ fa5 (ρ 1 == 0) (ρ 2 == 0) (ρ 1 == ρ 2) (ρ 2 == ρ 3) (ρ 1 == ρ 3), SaidF ρ e :=
  (said_app (said_app (said_app (said_app (said_app (said_app (said_app (said_app (said_app (said_app (said_app (said_one (.inl ⟨rfl, by show (ρ 1 == (0 : Int)) = (ρ 1 == 0); first | rfl | exact beq_sym _ _⟩))
    (said_one (.inl ⟨rfl, by show (ρ 2 == (0 : Int)) = (ρ 2 == 0); first | rfl | exact beq_sym _ _⟩)))
    (said_one (.inl ⟨rfl, by show (ρ 1 == ρ 2) = (ρ 1 == ρ 2); first | rfl | exact beq_sym _ _⟩)))
    (said_one (.inl ⟨rfl, by show (ρ 2 == ρ 3) = (ρ 2 == ρ 3); first | rfl | exact beq_sym _ _⟩)))
    (said_one (.inl ⟨rfl, by show (ρ 3 == ρ 2) = (ρ 2 == ρ 3); first | rfl | exact beq_sym _ _⟩)))
    (said_one (.inl ⟨rfl, by show (ρ 1 == ρ 3) = (ρ 1 == ρ 3); first | rfl | exact beq_sym _ _⟩)))
    (said_one (.inl ⟨rfl, by show ((0 : Int) == ρ 1) = (ρ 1 == 0); first | rfl | exact beq_sym _ _⟩)))
    (said_one (.inl ⟨rfl, by show ((0 : Int) == ρ 2) = (ρ 2 == 0); first | rfl | exact beq_sym _ _⟩)))
    (said_if (fun hc => .inl ⟨rfl, by show ((0 : Int) == ρ 3) = (ρ 2 == ρ 3); rw [eq_of_beq hc]; first | done | exact beq_sym _ _⟩)))
    (said_if (fun hc => .inl ⟨rfl, by show (ρ 3 == (0 : Int)) = (ρ 2 == ρ 3); rw [eq_of_beq hc]; first | done | exact beq_sym _ _⟩)))
    (said_if (fun hc => .inl ⟨rfl, by show ((0 : Int) == ρ 3) = (ρ 1 == ρ 3); rw [eq_of_beq hc]; first | done | exact beq_sym _ _⟩)))
    (said_if (fun hc => .inl ⟨rfl, by show (ρ 3 == (0 : Int)) = (ρ 1 == ρ 3); rw [eq_of_beq hc]; first | done | exact beq_sym _ _⟩)))
noncomputable def fa6 (za : Bool) (zb : Bool) (lab : Bool) (lvb : Bool) (lav : Bool) : List (Nat × SE × SE × Bool) := [(0, .v 1, .c (.ofNat 0), za)] ++ [(0, .v 2, .c (.ofNat 0), zb)] ++ [(1, .v 1, .v 2, lab)] ++ [(1, .v 3, .v 2, lvb)] ++ [(1, .v 1, .v 3, lav)] ++ [(0, .c (.ofNat 0), .v 1, za)] ++ [(0, .c (.ofNat 0), .v 2, zb)] ++ (bif zb then [(1, .v 3, .c (.ofNat 0), lvb)] else []) ++ (bif za then [(1, .c (.ofNat 0), .v 3, lav)] else [])
noncomputable def run6 (za : Bool) (zb : Bool) (lab : Bool) (lvb : Bool) (lav : Bool) : A := startV rows he3 fun h => call3 (ysO (ysR rng) (ysF (fa6 za zb lab lvb lav))) 100 (inL fsL) (fun _ _ => none) kc 60 3 (.cons (.i .i64 6) (.cons (.y .i64 (.v 1)) (.cons (.y .i64 (.v 2)) (.cons (.y .i64 (.v 3)) .nil)))) h 100 isT
theorem fa6_ok {ρ : Nat → Int} : ∀ e ∈ fa6 (ρ 1 == 0) (ρ 2 == 0) (decide (ρ 1 < ρ 2)) (decide (ρ 3 < ρ 2)) (decide (ρ 1 < ρ 3)), SaidF ρ e :=
  (said_app (said_app (said_app (said_app (said_app (said_app (said_app (said_app (said_one (.inl ⟨rfl, by show (ρ 1 == (0 : Int)) = (ρ 1 == 0); first | rfl | exact beq_sym _ _⟩))
    (said_one (.inl ⟨rfl, by show (ρ 2 == (0 : Int)) = (ρ 2 == 0); first | rfl | exact beq_sym _ _⟩)))
    (said_one (.inr ⟨rfl, by show decide (ρ 1 < ρ 2) = (decide (ρ 1 < ρ 2)); rfl⟩)))
    (said_one (.inr ⟨rfl, by show decide (ρ 3 < ρ 2) = (decide (ρ 3 < ρ 2)); rfl⟩)))
    (said_one (.inr ⟨rfl, by show decide (ρ 1 < ρ 3) = (decide (ρ 1 < ρ 3)); rfl⟩)))
    (said_one (.inl ⟨rfl, by show ((0 : Int) == ρ 1) = (ρ 1 == 0); first | rfl | exact beq_sym _ _⟩)))
    (said_one (.inl ⟨rfl, by show ((0 : Int) == ρ 2) = (ρ 2 == 0); first | rfl | exact beq_sym _ _⟩)))
    (said_if (fun hc => .inr ⟨rfl, by show decide (ρ 3 < (0 : Int)) = (decide (ρ 3 < ρ 2)); rw [eq_of_beq hc]⟩)))
    (said_if (fun hc => .inr ⟨rfl, by show decide ((0 : Int) < ρ 3) = (decide (ρ 1 < ρ 3)); rw [eq_of_beq hc]⟩)))
noncomputable def runL : A := startV rows he3 fun h => call3 (ysR ((0, -9223372036854775808, 0) :: rng)) 100 (inL fsL) (fun _ _ => none) kc 60 3 (.cons (.y .i64 (.v 0)) (.cons (.y .i64 (.v 1)) (.cons (.y .i64 (.v 2)) (.cons (.y .i64 (.v 3)) .nil)))) h 100 isT
noncomputable def runH : A := startV rows he3 fun h => call3 (ysR ((0, 7, 9223372036854775807) :: rng)) 100 (inL fsL) (fun _ _ => none) kc 60 3 (.cons (.y .i64 (.v 0)) (.cons (.y .i64 (.v 1)) (.cons (.y .i64 (.v 2)) (.cons (.y .i64 (.v 3)) .nil)))) h 100 isT
end Go.Proofs.YtphcmjojnfpkdaaDoor.termMakesq
