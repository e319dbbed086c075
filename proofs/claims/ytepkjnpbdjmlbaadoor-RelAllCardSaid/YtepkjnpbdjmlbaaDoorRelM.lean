import Derived.Lib.TrailingZeros
namespace Go.Proofs.YtepkjnpbdjmlbaaDoor
namespace RelA
/-- the number whose bits below n are p's -/
def bitsOf (p : Nat → Bool) : Nat → Nat
  | 0 => 0
  | n + 1 => bitsOf p n ||| (if p n then 2 ^ n else 0)
theorem testBit_bitsOf (p : Nat → Bool) (n i : Nat) : (bitsOf p n).testBit i = (decide (i < n) && p i) := by
  induction n with
  | zero => simp [bitsOf]
  | succ n ih =>
    unfold bitsOf
    rw [Nat.testBit_or, ih]
    by_cases h : i < n
    · have h2 : ¬ n = i := by omega
      cases hp : p n <;> simp [h, h2] <;> omega
    · by_cases e : i = n
      · subst e; cases hp : p i <;> simp
      · have h2 : ¬ n = i := by omega
        have h3 : ¬ i < n + 1 := by omega
        cases hp : p n <;> simp [h, h2, h3]
theorem bitsOf_lt (p : Nat → Bool) (n : Nat) : bitsOf p n < 2 ^ n := by
  apply Nat.lt_pow_two_of_testBit
  intro i hi
  rw [testBit_bitsOf]
  simp; omega
theorem bit_lt {x i : Nat} (h : x < 2 ^ 40) (hb : x.testBit i = true) : i < 40 := by
  by_cases hi : i < 40
  · exact hi
  · have : x < 2 ^ i := Nat.lt_of_lt_of_le h (Nat.pow_le_pow_right (by omega) (by omega))
    rw [Nat.testBit_lt_two_pow this] at hb
    cases hb
theorem ctz_bits (x : Nat) (h0 : x ≠ 0) (hx : x < 2 ^ 64) (j : Nat) : (x &&& (x - 1)).testBit j = (x.testBit j && decide (j ≠ Lib.ctz 64 x)) ∧ x.testBit (Lib.ctz 64 x) = true := by
  obtain ⟨m, hm, hk⟩ := Lib.ctzFrom_spec 64 x (by omega) hx
  have e : Lib.ctz 64 x = Lib.ctzFrom 64 x := by simp [Lib.ctz, h0]
  rw [e]
  generalize Lib.ctzFrom 64 x = k at *
  have hp : 0 < 2 ^ k := Nat.pow_pos (by omega)
  have hm1 : x - 1 = 2 ^ k * (2 * m) + (2 ^ k - 1) := by
    rw [hm, Nat.mul_add]; omega
  have b1 : ∀ j, x.testBit j = (decide (j ≥ k) && (2 * m + 1).testBit (j - k)) := by
    intro j; rw [hm, Nat.testBit_two_pow_mul]
  have b2 : ∀ j, (x - 1).testBit j = if j < k then (2 ^ k - 1).testBit j else (2 * m).testBit (j - k) := by
    intro j; rw [hm1, Nat.testBit_two_pow_mul_add _ (by omega)]
  constructor
  · rw [Nat.testBit_and, b1, b2]
    by_cases hj : j < k
    · have : ¬ k ≤ j := by omega
      simp [this]
    · have h2 : k ≤ j := by omega
      simp only [ge_iff_le, h2, decide_true, Bool.true_and, hj, if_false]
      obtain ⟨d, rfl⟩ : ∃ d, j = k + d := ⟨j - k, by omega⟩
      rw [Nat.add_sub_cancel_left]
      cases d with
      | zero => simp
      | succ d =>
        rw [Nat.testBit_succ, Nat.testBit_succ]
        have : (2 * m + 1) / 2 = m := by omega
        rw [this]
        have : (2 * m) / 2 = m := by omega
        rw [this]
        simp
  · rw [b1]; simp
theorem clear_lt (x : Nat) (h0 : x ≠ 0) : x &&& (x - 1) < x := by
  have : x &&& (x - 1) ≤ x - 1 := Nat.and_le_right
  omega
theorem ctz_lt40 (x : Nat) (h0 : x ≠ 0) (hx : x < 2 ^ 40) : Lib.ctz 64 x < 40 :=
  bit_lt hx (ctz_bits x h0 (by omega) 0).2

/-- all rows of S that x names, together -/
def U (S : Nat → Nat) (x : Nat) : Nat := bitsOf (fun i => (List.range 40).any fun j => x.testBit j && (S j).testBit i) 40
theorem U_lt (S : Nat → Nat) (x : Nat) : U S x < 2 ^ 40 := bitsOf_lt _ _
theorem U_zero (S : Nat → Nat) : U S 0 = 0 := by
  apply Nat.eq_of_testBit_eq
  intro i
  unfold U
  rw [testBit_bitsOf]
  simp
theorem U_bit (S : Nat → Nat) (x i : Nat) : (U S x).testBit i = true ↔ i < 40 ∧ ∃ j, j < 40 ∧ x.testBit j = true ∧ (S j).testBit i = true := by
  unfold U
  rw [testBit_bitsOf]
  simp
theorem U_step (S : Nat → Nat) (x : Nat) (hS : ∀ i, S i < 2 ^ 40) (h0 : x ≠ 0) (hx : x < 2 ^ 40) : U S x = S (Lib.ctz 64 x) ||| U S (x &&& (x - 1)) := by
  apply Nat.eq_of_testBit_eq
  intro i
  rw [Nat.testBit_or, Bool.eq_iff_iff, Bool.or_eq_true, U_bit, U_bit]
  have hb := ctz_bits x h0 (by omega)
  constructor
  · rintro ⟨hi, j, hj, h1, h2⟩
    by_cases e : j = Lib.ctz 64 x
    · subst e; exact .inl h2
    · exact .inr ⟨hi, j, hj, by rw [(hb j).1, h1]; simpa using e, h2⟩
  · rintro (h | ⟨hi, j, hj, h1, h2⟩)
    · exact ⟨bit_lt (hS _) h, _, ctz_lt40 x h0 hx, (hb 0).2, h⟩
    · rw [(hb j).1, Bool.and_eq_true] at h1
      exact ⟨hi, j, hj, h1.1, h2⟩
end RelA
end Go.Proofs.YtepkjnpbdjmlbaaDoor
