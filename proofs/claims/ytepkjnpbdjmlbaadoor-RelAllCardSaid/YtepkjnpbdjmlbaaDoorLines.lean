import Derived.Test.YtepkjnpbdjmlbaaDoorRelN
namespace Go.Proofs.YtepkjnpbdjmlbaaDoor
open Go.RowKit RelA
namespace RelA
theorem tmod_neg (n : Int) (k : Nat) (hk : 0 < k) (h : n.tmod k < 0) : n.tmod k + k = n % k := by
  have := Int.tmod_eq_emod (a := n) (b := k)
  have h1 := Int.emod_nonneg n (show (k : Int) ≠ 0 by omega)
  split at this <;> omega
theorem tmod_pos (n : Int) (k : Nat) (hk : 0 < k) (h : ¬ n.tmod k < 0) : n.tmod k = n % k := by
  have := Int.tmod_eq_emod (a := n) (b := k)
  have h1 := Int.emod_lt_of_pos n (show (0 : Int) < k by omega)
  split at this <;> omega
end RelA
set_option maxHeartbeats 400000 in
theorem place_any (n : Int) (k : Nat) (w : World) (hk : 0 < k) (hk2 : k ≤ 1000000) :
    Calls Tryd.prog 31 #[.int .i64 n, .int .i64 k] w fun e w' => e = .returned (.int .i64 (n % k)) ∧ w = w' := by
  by_cases hz : n.tmod k < 0
  · have HM := Lib.hid (tmod_neg n k hk hz)
    have hlow : -(k : Int) < n.tmod k := by
      have := HM.out
      have h1 := Int.emod_nonneg n (show (k : Int) ≠ 0 by omega)
      by_cases he : n % (k : Int) = 0
      · have h0 : n.tmod k = 0 := Int.tmod_eq_zero_of_dvd (Int.dvd_of_emod_eq_zero he)
        omega
      · omega
    go_enter Tryd.func31, Tryd.ntmps31
    go_wp2_with fail
    go_ret
    exact ⟨by rw [← HM.out]; rfl, rfl⟩
  · have HM := Lib.hid (tmod_pos n k hk hz)
    go_enter Tryd.func31, Tryd.ntmps31
    go_wp2_with fail
    go_ret
    exact ⟨by rw [← HM.out]; rfl, rfl⟩
namespace RelA
theorem newR_bit (N : Nat) (l : List (Int × Int)) (i j : Nat) : (newR N l i).testBit j = true ↔ ∃ p ∈ l, inB N p.1 = true ∧ inB N p.2 = true ∧ p.1 = i ∧ p.2 = j := by
  unfold newR
  have key : ∀ (l : List (Int × Int)) (R : Nat → Nat), (l.foldl (newStep N) R i).testBit j = true ↔ (R i).testBit j = true ∨ ∃ p ∈ l, inB N p.1 = true ∧ inB N p.2 = true ∧ p.1 = i ∧ p.2 = j := by
    intro l
    induction l with
    | nil => intro R; simp
    | cons p l ih =>
      intro R
      rw [List.foldl_cons, ih]
      have hstep : (newStep N R p i).testBit j = true ↔ (R i).testBit j = true ∨ (inB N p.1 = true ∧ inB N p.2 = true ∧ p.1 = i ∧ p.2 = j) := by
        unfold newStep
        cases h1 : inB N p.1 <;> cases h2 : inB N p.2 <;> simp only [Bool.and_false, Bool.and_true, Bool.false_eq_true, if_false, if_true, false_and, and_false, or_false, true_and]
        have g1 := of_decide_eq_true h1
        have g2 := of_decide_eq_true h2
        unfold upd
        by_cases e : i = p.1.toNat
        · rw [if_pos e, ← e, Nat.testBit_or, Bool.or_eq_true, Nat.testBit_two_pow, decide_eq_true_eq]
          constructor
          · rintro (h | h)
            · exact .inl h
            · exact .inr ⟨by omega, by omega⟩
          · rintro (h | ⟨_, h⟩)
            · exact .inl h
            · exact .inr (by omega)
        · rw [if_neg e]
          constructor
          · exact .inl
          · rintro (h | ⟨h, _⟩)
            · exact h
            · omega
      rw [hstep]
      constructor
      · rintro ((h | h) | ⟨q, hq, h⟩)
        · exact .inl h
        · exact .inr ⟨p, by simp, h⟩
        · exact .inr ⟨q, by simp [hq], h⟩
      · rintro (h | ⟨q, hq, h⟩)
        · exact .inl (.inl h)
        · rcases List.mem_cons.1 hq with rfl | hq
          · exact .inl (.inr h)
          · exact .inr ⟨q, hq, h⟩
  rw [key]
  simp
/-- pairs of numbers as pairs of integers -/
def castP (l : List (Nat × Nat)) : List (Int × Int) := l.map fun p => ((p.1 : Int), (p.2 : Int))
theorem pairCells_get (l : List (Nat × Nat)) (i : Nat) (hi : i < l.length) : (pairCells l)[i * 2]? = some (.int .i64 ((castP l).getD i (0, 0)).1) ∧ (pairCells l)[i * 2 + 1]? = some (.int .i64 ((castP l).getD i (0, 0)).2) := by
  induction l generalizing i with
  | nil => simp at hi
  | cons p l ih =>
    cases i with
    | zero => exact ⟨rfl, rfl⟩
    | succ i =>
      have := ih i (by simpa using hi)
      have e1 : (i + 1) * 2 = i * 2 + 2 := by omega
      rw [e1]
      exact this
theorem castP_len (l : List (Nat × Nat)) : (castP l).length = l.length := by simp [castP]
end RelA

theorem new_own (n : Int) (base : Nat) (v : Value) (L : List (Nat × Nat)) (w : World) (hown : w.ownsRow base 37 2 v L.length (pairCells L)) :
    Calls Tryd.prog 8 #[.int .i64 n, v] w fun e w' => e = .returned (.pointer (some ⟨w.heap.size, 0, none⟩)) ∧ At w' w.heap.size (clampN n) (newR (clampN n) (castP L)) ∧ Below w.heap.size w w' := by
  obtain ⟨hl, ⟨rfl, h0⟩ | ⟨g, cap, cur, rfl, hg, hcur, hc1, hc2, hc3, hc4⟩⟩ := hown
  · have : L = [] := List.length_eq_zero_iff.1 h0
    subst this
    exact new_nil n w
  · have hget : ∀ j, j < L.length * 2 → w.cell? ⟨g, j, none⟩ = (pairCells L)[j]? := by
      intro j hj
      rw [cell_of_row w g j cur _ _ hcur, ← hc4, List.getElem?_take, if_pos hj]
      simp
    have h := new_some n g 0 (castP L) cap w (by rw [castP_len]; omega) (Array.getElem?_eq_some_iff.1 hcur).1 (fun i hi => by
      rw [castP_len] at hi
      have hp := pairCells_get L i hi
      rw [Nat.zero_add, hget _ (by omega), hget _ (by omega)]
      exact hp)
    rw [castP_len] at h
    exact h

namespace RelA
theorem and_lowL (j : Nat) (hj : j < 40) : 2 ^ j &&& (2 ^ j - 1) = 0 ∧ Lib.ctz 64 (2 ^ j) = j := by
  have h0 : 2 ^ j ≠ 0 := Nat.pos_iff_ne_zero.1 (Nat.pow_pos (by omega))
  have hb := ctz_bits (2 ^ j) h0 (Nat.pow_lt_pow_right (by omega) (by omega))
  have hc := (hb 0).2
  rw [Nat.testBit_two_pow] at hc
  have hc := of_decide_eq_true hc
  refine ⟨?_, hc.symm⟩
  apply Nat.eq_of_testBit_eq
  intro i
  rw [(hb i).1, Nat.testBit_two_pow, ← hc, Nat.zero_testBit]
  by_cases e : j = i
  · subst e; simp
  · simp [e]
theorem bitList_twoL (j : Nat) (hj : j < 40) : bitList (2 ^ j) = [j] := by
  have h0 : 2 ^ j ≠ 0 := Nat.pos_iff_ne_zero.1 (Nat.pow_pos (by omega))
  rw [bitList_step _ h0 (Nat.pow_lt_pow_right (by omega) hj), (and_lowL j hj).1, (and_lowL j hj).2, bitList_zero]
def lineP (q : Nat) : List (Nat × Nat) := (List.range q).map fun i => (i, i + 1)
theorem lineP_succ (q : Nat) : lineP (q + 1) = lineP q ++ [(q, q + 1)] := by unfold lineP; rw [List.range_succ, List.map_append]; rfl
theorem lineP_len (q : Nat) : (lineP q).length = q := by simp [lineP]
def lineL (z : Nat) (ring : Bool) : List (Nat × Nat) := lineP z ++ if ring then [(z, 0)] else []
theorem lineL_len (z : Nat) (ring : Bool) : (lineL z ring).length = z + if ring then 1 else 0 := by
  unfold lineL; rw [List.length_append, lineP_len]; cases ring <;> rfl
def lineR (z : Nat) (ring : Bool) : Nat → Nat := fun i => if i < z then 2 ^ (i + 1) else if i = z ∧ ring = true then 2 ^ 0 else 0
theorem lineR_bit (z : Nat) (ring : Bool) (i j : Nat) : (lineR z ring i).testBit j = true ↔ (i < z ∧ j = i + 1) ∨ (i = z ∧ ring = true ∧ j = 0) := by
  unfold lineR
  split
  · rename_i h
    rw [Nat.testBit_two_pow, decide_eq_true_eq]
    omega
  · split
    · rename_i h1 h2
      obtain ⟨rfl, rfl⟩ := h2
      rw [Nat.testBit_two_pow, decide_eq_true_eq]
      constructor
      · intro h; exact .inr ⟨rfl, rfl, h.symm⟩
      · rintro (⟨h, _⟩ | ⟨_, _, h⟩)
        · omega
        · exact h.symm
    · rename_i h1 h2
      rw [Nat.zero_testBit]
      simp only [Bool.false_eq_true, false_iff]
      rintro (⟨h, _⟩ | ⟨h, hr, _⟩)
      · exact h1 h
      · exact h2 ⟨h, hr⟩
theorem newR_line (z : Nat) (ring : Bool) : newR (1 + z) (castP (lineL z ring)) = lineR z ring := by
  funext i
  apply Nat.eq_of_testBit_eq
  intro j
  rw [Bool.eq_iff_iff, newR_bit, lineR_bit]
  constructor
  · rintro ⟨p, hp, h1, h2, h3, h4⟩
    obtain ⟨q, hq, rfl⟩ := List.mem_map.1 hp
    unfold lineL at hq
    rcases List.mem_append.1 hq with hq | hq
    · obtain ⟨m, hm, rfl⟩ := List.mem_map.1 hq
      have := List.mem_range.1 hm
      simp only at h3 h4
      left; omega
    · cases ring
      · simp at hq
      · simp at hq
        subst hq
        simp only at h3 h4
        right; exact ⟨by omega, rfl, by omega⟩
  · have hin : ∀ m : Nat, m < 1 + z → inB (1 + z) (m : Int) = true := fun m hm => decide_eq_true (by omega)
    rintro (⟨h, rfl⟩ | ⟨rfl, rfl, rfl⟩)
    · refine ⟨((i : Int), ((i + 1 : Nat) : Int)), ?_, hin i (by omega), hin (i + 1) (by omega), rfl, rfl⟩
      unfold castP lineL
      rw [List.map_append, List.mem_append]
      left
      exact List.mem_map.2 ⟨(i, i + 1), List.mem_map.2 ⟨i, List.mem_range.2 h, rfl⟩, rfl⟩
    · refine ⟨((i : Int), ((0 : Nat) : Int)), ?_, hin i (by omega), hin 0 (by omega), rfl, rfl⟩
      unfold castP lineL
      rw [List.map_append, List.mem_append]
      right
      simp
theorem line_path (z : Nat) (i j : Nat) : Path (lineR z false) i j ↔ i < j ∧ j ≤ z := by
  constructor
  · intro h
    induction h with
    | single h =>
      rw [lineR_bit] at h; simp at h; omega
    | tail _ h ih =>
      rw [lineR_bit] at h; simp at h; omega
  · rintro ⟨h1, h2⟩
    obtain ⟨d, rfl⟩ : ∃ d, j = i + d + 1 := ⟨j - i - 1, by omega⟩
    clear h1
    induction d with
    | zero => exact .single ((lineR_bit _ _ _ _).2 (.inl ⟨by omega, rfl⟩))
    | succ d ih => exact .tail (ih (by omega)) ((lineR_bit _ _ _ _).2 (.inl ⟨by omega, by omega⟩))
theorem ring_up (z : Nat) (i d : Nat) (h : i + d + 1 ≤ z) : Path (lineR z true) i (i + d + 1) := by
  induction d with
  | zero => exact .single ((lineR_bit _ _ _ _).2 (.inl ⟨by omega, rfl⟩))
  | succ d ih => exact .tail (ih (by omega)) ((lineR_bit _ _ _ _).2 (.inl ⟨by omega, by omega⟩))
theorem ring_zero (z : Nat) (i : Nat) (h : i ≤ z) : Path (lineR z true) i 0 := by
  by_cases e : i = z
  · exact .single ((lineR_bit _ _ _ _).2 (.inr ⟨e, rfl, rfl⟩))
  · have := ring_up z i (z - i - 1) (by omega)
    have e2 : i + (z - i - 1) + 1 = z := by omega
    rw [e2] at this
    exact .tail this ((lineR_bit _ _ _ _).2 (.inr ⟨rfl, rfl, rfl⟩))
theorem ring_path (z : Nat) (i j : Nat) (hi : i ≤ z) (hj : j ≤ z) : Path (lineR z true) i j := by
  have h0 := ring_zero z i hi
  cases j with
  | zero => exact h0
  | succ j =>
    have := ring_up z 0 j (by omega)
    have e2 : 0 + j + 1 = j + 1 := by omega
    rw [e2] at this
    exact path_trans h0 this
theorem lineR_lt (z : Nat) (ring : Bool) (hz : z < 40) (i : Nat) : lineR z ring i < 2 ^ 40 := by
  unfold lineR
  split
  · exact Nat.pow_lt_pow_right (by omega) (by omega)
  · split <;> decide
theorem line_has (z : Nat) (ring : Bool) (hz : z < 40) (a b : Nat) (ha : a < 1 + z) (hb : b < 1 + z) : hasB (1 + z) (plusR (lineR z ring)) a b = (decide (a < b) || ring) := by
  unfold hasB
  have t1 : decide ((0 : Int) ≤ (a : Int) ∧ (a : Int) < ((1 + z : Nat) : Int)) = true := by simp; omega
  have t2 : decide ((0 : Int) ≤ (b : Int) ∧ (b : Int) < ((1 + z : Nat) : Int)) = true := by simp; omega
  rw [t1, t2]
  simp only [Bool.true_and, Int.toNat_natCast]
  rw [Bool.eq_iff_iff, plusR_bit]
  cases ring
  · rw [line_path, Bool.or_false, decide_eq_true_eq]; omega
  · simp only [Bool.or_true, iff_true]
    exact ⟨by omega, ring_path z a b (by omega) (by omega)⟩
theorem line_loops (z : Nat) (ring : Bool) (hz : z < 40) : loopsB (plusR (lineR z ring)) = ring := by
  rw [Bool.eq_iff_iff, loopsB_iff]
  cases ring
  · simp only [Bool.false_eq_true, iff_false]
    rintro ⟨i, _, h⟩
    rw [plusR_bit, line_path] at h
    omega
  · simp only [iff_true]
    exact ⟨0, by omega, by rw [plusR_bit]; exact ⟨by omega, ring_path z 0 0 (by omega) (by omega)⟩⟩
theorem line_pairs (z : Nat) (ring : Bool) (hz : z < 40) : (pairsR (lineR z ring)).length = (lineL z ring).length := by
  rw [lineL_len]
  have key : ∀ k, (pre (lineR z ring) k).length = if k ≤ z then k else z + if ring then 1 else 0 := by
    intro k
    induction k with
    | zero => simp [pre]
    | succ k ih =>
      rw [pre_succ, List.length_append, ih]
      unfold rowPairs
      rw [List.length_map]
      rcases Nat.lt_trichotomy k z with h | h | h
      · have e : lineR z ring k = 2 ^ (k + 1) := by unfold lineR; rw [if_pos h]
        rw [e, bitList_twoL _ (by omega), if_pos (Nat.le_of_lt h), if_pos (by omega)]; rfl
      · subst h
        cases ring
        · have e2 : lineR k false k = 0 := by simp [lineR]
          rw [e2, if_pos (Nat.le_refl k), if_neg (show ¬ k + 1 ≤ k by omega), bitList_zero]; rfl
        · have e2 : lineR k true k = 2 ^ 0 := by simp [lineR]
          rw [e2, if_pos (Nat.le_refl k), if_neg (show ¬ k + 1 ≤ k by omega), bitList_twoL 0 (by omega)]; rfl
      · have e2 : lineR z ring k = 0 := by unfold lineR; rw [if_neg (by omega), if_neg (by omega)]
        rw [e2, bitList_zero, if_neg (show ¬ k ≤ z by omega), if_neg (show ¬ k + 1 ≤ z by omega)]; simp
  unfold pairsR
  rw [key, if_neg (show ¬ 40 ≤ z by omega)]
def diagR (K : Nat) : Nat → Nat := fun i => if i < K then 2 ^ i else 0
theorem diag_pairs (K : Nat) (hK : K ≤ 40) : (pairsR (diagR K)).length = K := by
  have key : ∀ k, (pre (diagR K) k).length = if k ≤ K then k else K := by
    intro k
    induction k with
    | zero => simp [pre]
    | succ k ih =>
      rw [pre_succ, List.length_append, ih]
      unfold rowPairs diagR
      rw [List.length_map]
      by_cases h : k < K
      · by_cases hk : k < 40
        · rw [if_pos h, bitList_twoL _ hk, if_pos (by omega), if_pos (by omega)]; rfl
        · omega
      · rw [if_neg h, bitList_zero]
        by_cases e : k = K
        · subst e; rw [if_pos (by omega), if_neg (by omega)]; rfl
        · rw [if_neg (by omega), if_neg (by omega)]; rfl
  unfold pairsR
  rw [key]
  by_cases e : 40 ≤ K
  · rw [if_pos e]; omega
  · rw [if_neg e]
theorem diag_lt (K : Nat) (hK : K ≤ 40) (i : Nat) : diagR K i < 2 ^ 40 := by
  unfold diagR; split
  · exact Nat.pow_lt_pow_right (by omega) (by omega)
  · decide
end RelA
end Go.Proofs.YtepkjnpbdjmlbaaDoor
