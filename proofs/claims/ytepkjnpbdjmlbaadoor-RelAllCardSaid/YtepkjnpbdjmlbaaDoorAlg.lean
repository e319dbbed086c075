import Derived.Test.YtepkjnpbdjmlbaaDoorLines
namespace Go.Proofs.YtepkjnpbdjmlbaaDoor
open Go.RowKit RelA
namespace RelA
theorem bits_eq {x y : Nat} (h : ∀ j, x.testBit j = true ↔ y.testBit j = true) : x = y := by
  apply Nat.eq_of_testBit_eq
  intro j
  rw [Bool.eq_iff_iff]; exact h j
theorem back_bit (R : Nat → Nat) (j i : Nat) : (backR R j).testBit i = true ↔ i < 40 ∧ (R i).testBit j = true := by
  unfold backR; rw [testBit_bitsOf]; simp
theorem U_bit40 (S : Nat → Nat) (x i : Nat) (hS : ∀ i, S i < 2 ^ 40) (hx : x < 2 ^ 40) : (U S x).testBit i = true ↔ ∃ j, x.testBit j = true ∧ (S j).testBit i = true := by
  rw [U_bit]
  constructor
  · rintro ⟨_, j, _, h⟩; exact ⟨j, h⟩
  · rintro ⟨j, h1, h2⟩; exact ⟨bit_lt (hS j) h2, j, bit_lt hx h1, h1, h2⟩
theorem alg1 (R S T : Nat → Nat) (hR : ∀ i, R i < 2 ^ 40) (hS : ∀ i, S i < 2 ^ 40) (hT : ∀ i, T i < 2 ^ 40) (i : Nat) : U T (U S (R i)) = U (fun k => U T (S k)) (R i) := by
  apply bits_eq
  intro j
  rw [U_bit40 T _ _ hT (U_lt _ _), U_bit40 _ _ _ (fun _ => U_lt _ _) (hR i)]
  constructor
  · rintro ⟨k, h1, h2⟩
    rw [U_bit40 S _ _ hS (hR i)] at h1
    obtain ⟨m, h3, h4⟩ := h1
    exact ⟨m, h3, (U_bit40 T _ _ hT (hS m)).2 ⟨k, h4, h2⟩⟩
  · rintro ⟨m, h3, h4⟩
    obtain ⟨k, h5, h6⟩ := (U_bit40 T _ _ hT (hS m)).1 h4
    exact ⟨k, (U_bit40 S _ _ hS (hR i)).2 ⟨m, h3, h5⟩, h6⟩
theorem or_lt40 {a b : Nat} (h : a < 2 ^ 40) (g : b < 2 ^ 40) : a ||| b < 2 ^ 40 := Nat.or_lt_two_pow h g
theorem alg2 (R S T : Nat → Nat) (hR : ∀ i, R i < 2 ^ 40) (hS : ∀ i, S i < 2 ^ 40) (hT : ∀ i, T i < 2 ^ 40) (i : Nat) : U (fun k => S k ||| T k) (R i) = U S (R i) ||| U T (R i) := by
  apply bits_eq
  intro j
  rw [U_bit40 _ _ _ (fun k => or_lt40 (hS k) (hT k)) (hR i), Nat.testBit_or, Bool.or_eq_true, U_bit40 S _ _ hS (hR i), U_bit40 T _ _ hT (hR i)]
  constructor
  · rintro ⟨k, h1, h2⟩
    rw [Nat.testBit_or, Bool.or_eq_true] at h2
    rcases h2 with h2 | h2
    · exact .inl ⟨k, h1, h2⟩
    · exact .inr ⟨k, h1, h2⟩
  · rintro (⟨k, h1, h2⟩ | ⟨k, h1, h2⟩)
    · exact ⟨k, h1, by rw [Nat.testBit_or, h2]; rfl⟩
    · exact ⟨k, h1, by rw [Nat.testBit_or, h2, Bool.or_true]⟩
theorem alg3 (R S : Nat → Nat) (hR : ∀ i, R i < 2 ^ 40) (hS : ∀ i, S i < 2 ^ 40) (j : Nat) : backR (fun i => U S (R i)) j = U (backR R) (backR S j) := by
  apply bits_eq
  intro i
  rw [back_bit, U_bit40 S _ _ hS (hR i), U_bit40 (backR R) (backR S j) i (fun k => bitsOf_lt _ _) (bitsOf_lt _ _)]
  constructor
  · rintro ⟨hi, k, h1, h2⟩
    exact ⟨k, (back_bit _ _ _).2 ⟨bit_lt (hR i) h1, h2⟩, (back_bit _ _ _).2 ⟨hi, h1⟩⟩
  · rintro ⟨k, h1, h2⟩
    have h1 := (back_bit _ _ _).1 h1
    have h2 := (back_bit _ _ _).1 h2
    exact ⟨h2.1, k, h2.2, h1.2⟩
theorem alg4 (R : Nat → Nat) (hR : ∀ i, R i < 2 ^ 40) (i : Nat) (hi : i < 40) : backR (backR R) i = R i := by
  apply bits_eq
  intro j
  rw [back_bit, back_bit]
  exact ⟨fun h => h.2.2, fun h => ⟨bit_lt (hR i) h, hi, h⟩⟩
theorem path_plus (R : Nat → Nat) (hR : ∀ i, R i < 2 ^ 40) (i j : Nat) : Path (plusR R) i j ↔ Path R i j := by
  constructor
  · intro h
    induction h with
    | single h => exact ((plusR_bit _ _ _).1 h).2
    | tail _ h ih => exact path_trans ih ((plusR_bit _ _ _).1 h).2
  · intro h
    exact .single ((plusR_bit _ _ _).2 ⟨path_lt hR h, h⟩)
theorem alg5 (R : Nat → Nat) (hR : ∀ i, R i < 2 ^ 40) (i : Nat) : plusR (plusR R) i = plusR R i := by
  apply bits_eq
  intro j
  rw [plusR_bit, plusR_bit, path_plus R hR]
theorem path_head {R : Nat → Nat} {i k j : Nat} (h : (R i).testBit k = true) (g : Path R k j) : Path R i j := path_trans (.single h) g
theorem alg6 (R : Nat → Nat) (hR : ∀ i, R i < 2 ^ 40) (i : Nat) : plusR R i = R i ||| U (plusR R) (R i) := by
  apply bits_eq
  intro j
  rw [plusR_bit, Nat.testBit_or, Bool.or_eq_true, U_bit40 _ _ _ (plusR_lt R) (hR i)]
  constructor
  · rintro ⟨hj, h⟩
    have key : ∀ j, Path R i j → (R i).testBit j = true ∨ ∃ k, (R i).testBit k = true ∧ Path R k j := by
      intro j h
      induction h with
      | single h => exact .inl h
      | tail _ h ih =>
        rcases ih with ih | ⟨k, h1, h2⟩
        · exact .inr ⟨_, ih, .single h⟩
        · exact .inr ⟨k, h1, .tail h2 h⟩
    rcases key j h with h | ⟨k, h1, h2⟩
    · exact .inl h
    · exact .inr ⟨k, h1, (plusR_bit _ _ _).2 ⟨hj, h2⟩⟩
  · rintro (h | ⟨k, h1, h2⟩)
    · exact ⟨bit_lt (hR i) h, .single h⟩
    · have h2 := (plusR_bit _ _ _).1 h2
      exact ⟨h2.1, path_head h1 h2.2⟩
theorem alg7 (a b : Nat) : a &&& b = a ^^^ (a &&& (a ^^^ (a &&& b))) := by
  apply Nat.eq_of_testBit_eq
  intro j
  simp only [Nat.testBit_and, Nat.testBit_xor]
  cases a.testBit j <;> cases b.testBit j <;> rfl
theorem plus_congr {R S : Nat → Nat} (h : ∀ i, R i = S i) : plusR R = plusR S := by
  have : R = S := funext h
  rw [this]
theorem alg8 (R : Nat → Nat) (hR : ∀ i, R i < 2 ^ 40) : loopsB (plusR (plusR R)) = loopsB (plusR R) := by
  have : plusR (plusR R) = plusR R := funext (alg5 R hR)
  rw [this]
theorem path_back {R : Nat → Nat} (hR : ∀ i, R i < 2 ^ 40) {i j : Nat} (hi : i < 40) (h : Path R i j) : Path (backR R) j i := by
  induction h with
  | single h => exact .single ((back_bit _ _ _).2 ⟨hi, h⟩)
  | tail g h ih => exact path_head ((back_bit _ _ _).2 ⟨path_lt hR g, h⟩) ih
theorem path_back2 {R : Nat → Nat} {i j : Nat} (h : Path (backR R) j i) : Path R i j := by
  induction h with
  | single h => exact .single ((back_bit _ _ _).1 h).2
  | tail _ h ih => exact path_head ((back_bit _ _ _).1 h).2 ih
theorem alg9 (R : Nat → Nat) (hR : ∀ i, R i < 2 ^ 40) : loopsB (plusR R) = loopsB (plusR (backR R)) := by
  rw [Bool.eq_iff_iff, loopsB_iff, loopsB_iff]
  constructor
  · rintro ⟨i, hi, h⟩
    exact ⟨i, hi, (plusR_bit _ _ _).2 ⟨hi, path_back hR hi ((plusR_bit _ _ _).1 h).2⟩⟩
  · rintro ⟨i, hi, h⟩
    exact ⟨i, hi, (plusR_bit _ _ _).2 ⟨hi, path_back2 ((plusR_bit _ _ _).1 h).2⟩⟩
theorem xor_lt40 {a b : Nat} (h : a < 2 ^ 40) (g : b < 2 ^ 40) : a ^^^ b < 2 ^ 40 := Nat.xor_lt_two_pow h g
theorem and_lt40 {a b : Nat} (h : b < 2 ^ 40) : a &&& b < 2 ^ 40 := Nat.and_lt_two_pow _ h
theorem inR_same {R S : Nat → Nat} (h : ∀ i, i < 40 → R i = S i) : inR R S = true := by
  unfold inR; rw [sameB_iff]
  intro i hi
  show R i ||| S i = S i
  rw [h i hi, Nat.or_self]
end RelA
end Go.Proofs.YtepkjnpbdjmlbaaDoor
