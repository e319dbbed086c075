import Derived.Test.YtepkjnpbdjmlbaaDoorRelN
namespace Go.Proofs.YtepkjnpbdjmlbaaDoor
open Go.RowKit RelA
namespace RelA
theorem and_low (j : Nat) (hj : j < 40) : 2 ^ j &&& (2 ^ j - 1) = 0 ∧ Lib.ctz 64 (2 ^ j) = j := by
  have h0 : 2 ^ j ≠ 0 := Nat.pos_iff_ne_zero.1 (Nat.pow_pos (by omega))
  have hb := ctz_bits (2 ^ j) h0 (Nat.pow_lt_pow_right (by omega) (by omega))
  have hc := (hb 0).2
  rw [Nat.testBit_two_pow] at hc
  have hc := of_decide_eq_true hc
  refine ⟨?_, hc.symm⟩
  apply Nat.eq_of_testBit_eq
  intro i
  rw [(hb i).1, Nat.testBit_two_pow, ← hc, Nat.zero_testBit]
  by_cases e : j = i
  · subst e; simp
  · simp [e]
theorem bitList_two (j : Nat) (hj : j < 40) : bitList (2 ^ j) = [j] := by
  have h0 : 2 ^ j ≠ 0 := Nat.pos_iff_ne_zero.1 (Nat.pow_pos (by omega))
  rw [bitList_step _ h0 (Nat.pow_lt_pow_right (by omega) hj), (and_low j hj).1, (and_low j hj).2, bitList_zero]
theorem pre_zero (k : Nat) : pre (fun _ => 0) k = [] := by
  induction k with
  | zero => rfl
  | succ k ih => rw [pre_succ, ih]; unfold rowPairs; rw [bitList_zero]; rfl
theorem pre_one (i j k : Nat) (hj : j < 40) : (pre (upd (fun _ => 0) i (2 ^ j)) k).length = if i < k then 1 else 0 := by
  induction k with
  | zero => rfl
  | succ k ih =>
    rw [pre_succ, List.length_append, ih]
    unfold rowPairs upd
    by_cases e : k = i
    · subst e
      rw [if_pos rfl, bitList_two j hj]; simp
    · rw [if_neg e, bitList_zero]
      by_cases h : i < k
      · rw [if_pos h, if_pos (by omega)]; rfl
      · rw [if_neg h, if_neg (by omega)]; rfl
theorem one_in (k : Nat) (a b : Int) (h : (inB k a && inB k b) = true) : ∃ i j : Nat, a = i ∧ b = j ∧ i < k ∧ j < k ∧ newR k [(a, b)] = upd (fun _ => 0) i (2 ^ j) := by
  have h2 := Bool.and_eq_true_iff.1 h
  have ha := of_decide_eq_true h2.1
  have hb := of_decide_eq_true h2.2
  obtain ⟨i, rfl⟩ := Int.eq_ofNat_of_zero_le ha.1
  obtain ⟨j, rfl⟩ := Int.eq_ofNat_of_zero_le hb.1
  refine ⟨i, j, rfl, rfl, by omega, by omega, ?_⟩
  show newStep k _ _ = _
  unfold newStep
  rw [if_pos h]
  show upd _ i (0 ||| 2 ^ j) = _
  rw [Nat.zero_or]
theorem one_out (k : Nat) (a b : Int) (h : (inB k a && inB k b) = false) : newR k [(a, b)] = fun _ => 0 := by
  show newStep k _ _ = _
  unfold newStep
  rw [if_neg (by rw [h]; decide)]
theorem has_zero (k : Nat) (a b : Int) : hasB k (fun _ => 0) a b = false := by unfold hasB; simp
theorem two_lt40 {k : Nat} (j : Nat) (hk : k ≤ 40) (h : j < k) : 2 ^ j < 2 ^ 40 := Nat.pow_lt_pow_right (by omega) (by omega)
/-- all that the statement asks of the one pair -/
theorem sizes_math (k J : Nat) (hk : k ≤ 40) (a b : Int) (inn : Bool) (h : (inB k a && inB k b) = inn) :
    hasB k (newR k [(a, b)]) a b = inn ∧ ((((pairsR (newR k [(a, b)])).length : Nat) : Int) == 1) = inn ∧ hasB (max k J) (newR k [(a, b)]) a b = inn ∧
    (pairsR fun _ => 0).length = 0 ∧ inR (fun _ => 0) (newR k [(a, b)]) = true ∧ inR (newR k [(a, b)]) (fun _ => 0) = !inn ∧ hasB k (backR (newR k [(a, b)])) b a = inn := by
  have h4 : (pairsR fun _ => 0).length = 0 := by unfold pairsR; rw [pre_zero]; rfl
  have h5 : inR (fun _ => 0) (newR k [(a, b)]) = true := by
    unfold inR; rw [sameB_iff]; intro i _; rw [Nat.zero_or]
  cases inn
  · have e := one_out k a b h
    rw [e]
    have hz : backR (fun _ => 0) = fun _ => 0 := by
      funext j
      apply Nat.eq_of_testBit_eq; intro i
      unfold backR; rw [testBit_bitsOf]; simp
    refine ⟨has_zero _ _ _, ?_, has_zero _ _ _, h4, by rw [e] at h5; exact h5, ?_, by rw [hz]; exact has_zero _ _ _⟩
    · unfold pairsR; rw [pre_zero]; rfl
    · show inR _ _ = true
      unfold inR; rw [sameB_iff]; intro i _; exact Nat.or_zero 0
  · obtain ⟨i, j, rfl, rfl, hi, hj, e⟩ := one_in k a b h
    rw [e]
    rw [e] at h5
    have t1 : decide ((0 : Int) ≤ (i : Int) ∧ (i : Int) < (k : Int)) = true := by simp; omega
    have t2 : decide ((0 : Int) ≤ (j : Int) ∧ (j : Int) < (k : Int)) = true := by simp; omega
    have t3 : decide ((0 : Int) ≤ (i : Int) ∧ (i : Int) < ((max k J : Nat) : Int)) = true := by simp; omega
    have t4 : decide ((0 : Int) ≤ (j : Int) ∧ (j : Int) < ((max k J : Nat) : Int)) = true := by simp; omega
    refine ⟨?_, ?_, ?_, h4, h5, ?_, ?_⟩
    · unfold hasB; rw [t1, t2]
      simp [upd]
    · unfold pairsR; rw [pre_one i j 40 (by omega), if_pos (by omega)]; rfl
    · unfold hasB; rw [t3, t4]
      simp [upd]
    · show inR _ _ = false
      rw [← Bool.not_eq_true]
      unfold inR; rw [sameB_iff]
      intro hh
      have := hh i (by omega)
      simp [upd] at this
    · unfold hasB; rw [t1, t2]
      unfold backR
      simp only [Int.toNat_natCast, Bool.true_and]
      rw [testBit_bitsOf]
      have : i < 40 := by omega
      simp [upd, this]
theorem or_zero_lt (R : Nat → Nat) (h : ∀ i, R i < 2 ^ 40) (i : Nat) : R i ||| 0 < 2 ^ 40 := by rw [Nat.or_zero]; exact h i
theorem back_lt (R : Nat → Nat) (i : Nat) : backR R i < 2 ^ 40 := bitsOf_lt _ _
theorem and_zero_lt (R : Nat → Nat) (i : Nat) : R i &&& 0 < 2 ^ 40 := by rw [Nat.and_zero]; decide
end RelA
section
attribute [local go_sem ↓ high] RelA.execOp_max RelA.execOp_min
attribute [local go_sem] RelA.run_maxOp RelA.run_minOp
set_option maxHeartbeats 4000000 in
theorem sizes_any (n m a b : Int) (w : World) (ht : Tab w) :
    Calls Tryd.prog 6 #[.int .i64 n, .int .i64 m, .int .i64 a, .int .i64 b] w fun e w' => e = .returned (.bool true) ∧ Below w.heap.size w w' := by
  have HT := Lib.hid ht
  clear ht
  have hcn := clamp_eq n
  have hcm := clamp_eq m
  have hmx : max ((clampN n : Nat) : Int) ((clampN m : Nat) : Int) = ((max (clampN n) (clampN m) : Nat) : Int) := by omega
  have hk := clampN_le n
  have hJ := clampN_le m
  have H1 := fun w : World => new_some n w.heap.size 0 [(a, b)] 1 (w.alloc (Obj.cells #[.int .i64 a, .int .i64 b] 37)) (by unfold maxLen; simp) (by simp) (by
    intro i hi
    obtain rfl : i = 0 := by simpa using hi
    exact ⟨by rw [cell_of_row _ _ _ _ _ _ (heap_alloc_new _ _)]; rfl, by rw [cell_of_row _ _ _ _ _ _ (heap_alloc_new _ _)]; rfl⟩)
  have HH1 := Lib.hid H1
  clear H1
  have H2 := Lib.hid (fun w : World => new_nil m w)
  have hcase : ∃ inn : Bool, (inB (clampN n) a && inB (clampN n) b) = inn ∧ ((0 ≤ a ∧ 0 ≤ b ∧ a < clampN n ∧ b < clampN n ∧ inn = true) ∨ (a < 0 ∧ inn = false) ∨ (0 ≤ a ∧ b < 0 ∧ inn = false) ∨ (0 ≤ a ∧ 0 ≤ b ∧ (clampN n : Int) ≤ a ∧ inn = false) ∨ (0 ≤ a ∧ 0 ≤ b ∧ a < clampN n ∧ (clampN n : Int) ≤ b ∧ inn = false)) := by
    refine ⟨_, rfl, ?_⟩
    unfold inB
    by_cases h1 : 0 ≤ a
    · by_cases h2 : 0 ≤ b
      · by_cases h3 : a < clampN n
        · by_cases h4 : b < clampN n
          · left; simp [h1, h2, h3, h4]
          · right; right; right; right; simp [h1, h2, h3, h4]; omega
        · right; right; right; left; simp [h1, h2, h3]; omega
      · right; right; left; simp [h1, h2]; omega
    · right; left; simp [h1]; omega
  obtain ⟨inn, hinn, hcase⟩ := hcase
  obtain ⟨s1, s2, s3, s4, s5, s6, s7⟩ := sizes_math (clampN n) (clampN m) hk a b inn hinn
  have hR := newR_lt40 (clampN n) [(a, b)] hk
  have HRL := Lib.hid hR
  clear hR hinn
  generalize clampN n = k at *
  generalize clampN m = J at *
  generalize newR k [(a, b)] = R at *
  rcases hcase with ⟨g1, g2, g3, g4, rfl⟩ | ⟨g1, rfl⟩ | ⟨g1, g2, rfl⟩ | ⟨g1, g2, g3, rfl⟩ | ⟨g1, g2, g3, g4, rfl⟩
  all_goals
    go_enter Tryd.func6, Tryd.ntmps6
    go_wp2_with fail
    have hB0 : Hid (Below w.heap.size w (w.alloc (Obj.cells #[.int .i64 a, .int .i64 b] 37))) := (Below.refl _ _).alloc (Nat.le_refl _) _
    refine (HH1.out w).mono ?_
    rintro e w1 ⟨rfl, hat, hbe⟩
    have hat1 : At w1 (w.heap.size + 1) k R := by
      have e : (w.alloc (Obj.cells #[.int .i64 a, .int .i64 b] 37)).heap.size = w.heap.size + 1 := by simp
      rw [e] at hat; exact hat
    have HA := Lib.hid hat1
    have HB1 : Hid (Below w.heap.size w w1) := below_next hB0.out hbe
    have HT1 := Lib.hid (HT.out.next HB1.out)
    clear hat hat1 hbe hB0
    go_wp2_with fail
    refine (H2.out w1).mono ?_
    rintro e w2 ⟨rfl, hat, hbe⟩
    have HA2 := Lib.hid (HA.out.next hbe)
    have HS2 := Lib.hid hat
    have HB2 := Lib.hid (below_next HB1.out hbe)
    have HT2 := Lib.hid (HT1.out.next hbe)
    clear hbe hat
    go_wp2_with fail
    refine (len_any _ k w2 HA2.out.c0).mono ?_
    rintro e w' ⟨rfl, rfl⟩
    go_wp2_with fail
    refine (len_any _ J w2 HS2.out.c0).mono ?_
    rintro e w' ⟨rfl, rfl⟩
    go_wp2_with fail
    refine (has_any _ k R a b w2 HA2.out hk (fun i _ => lt64 (HRL.out i))).mono ?_
    rintro e w' ⟨rfl, rfl⟩
    go_wp2_with fail
    refine (pairs_any _ k R w2 HA2.out HRL.out HT2.out).mono ?_
    rintro e w3 ⟨v, rfl, hown, hbe⟩
    have HA3 := Lib.hid (HA2.out.next hbe)
    have HS3 := Lib.hid (HS2.out.next hbe)
    have HB3 := Lib.hid (below_next HB2.out hbe)
    have HT3 := Lib.hid (HT2.out.next hbe)
    obtain ⟨pa, pc, rfl⟩ := own_len hown
    clear hbe hown
    go_wp2_with fail
    refine (or_any _ k _ J R (fun _ => 0) w3 HA3.out HS3.out HRL.out (fun _ => by decide)).mono ?_
    rintro e w4 ⟨rfl, hat, hbe⟩
    have HO4 := Lib.hid (hat.congr fun i _ => Nat.or_zero (R i))
    have HA4 := Lib.hid (HA3.out.next hbe)
    have HS4 := Lib.hid (HS3.out.next hbe)
    have HB4 := Lib.hid (below_next HB3.out hbe)
    have HT4 := Lib.hid (HT3.out.next hbe)
    clear hbe hat
    go_wp2_with fail
    refine (len_any _ (max k J) w4 HO4.out.c0).mono ?_
    rintro e w' ⟨rfl, rfl⟩
    go_wp2_with fail
    refine (or_any _ k _ J R (fun _ => 0) w4 HA4.out HS4.out HRL.out (fun _ => by decide)).mono ?_
    rintro e w5 ⟨rfl, hat, hbe⟩
    have HO5 := Lib.hid (hat.congr fun i _ => Nat.or_zero (R i))
    have HA5 := Lib.hid (HA4.out.next hbe)
    have HS5 := Lib.hid (HS4.out.next hbe)
    have HB5 := Lib.hid (below_next HB4.out hbe)
    have HT5 := Lib.hid (HT4.out.next hbe)
    clear hbe hat
    go_wp2_with fail
    refine (has_any _ (max k J) R a b w5 HO5.out (by omega) (fun i _ => lt64 (HRL.out i))).mono ?_
    rintro e w' ⟨rfl, rfl⟩
    go_wp2_with fail
    refine (then_ge _ J _ k (fun _ => 0) R w5 HS5.out HA5.out (fun _ => by decide) HRL.out HT5.out).mono ?_
    rintro e w6 ⟨rfl, hat, hbe⟩
    have HO6 := Lib.hid hat
    have HA6 := Lib.hid (HA5.out.next hbe)
    have HS6 := Lib.hid (HS5.out.next hbe)
    have HB6 := Lib.hid (below_next HB5.out hbe)
    have HT6 := Lib.hid (HT5.out.next hbe)
    clear hbe hat
    go_wp2_with fail
    have hmc : max J k = max k J := by omega
    refine (len_any _ (max k J) w6 (by rw [← hmc]; exact HO6.out.c0)).mono ?_
    clear hmc
    rintro e w' ⟨rfl, rfl⟩
    go_wp2_with fail
    refine (and_any _ k _ J R (fun _ => 0) w6 HA6.out HS6.out HRL.out (fun _ => by decide)).mono ?_
    rintro e w7 ⟨rfl, hat, hbe⟩
    have HO7 := Lib.hid (hat.congr (S := fun _ => 0) fun i _ => Nat.and_zero (R i))
    have HA7 := Lib.hid (HA6.out.next hbe)
    have HS7 := Lib.hid (HS6.out.next hbe)
    have HB7 := Lib.hid (below_next HB6.out hbe)
    have HT7 := Lib.hid (HT6.out.next hbe)
    clear hbe hat
    go_wp2_with fail
    refine (pairs_any _ _ (fun _ => 0) w7 HO7.out (fun _ => by decide) HT7.out).mono ?_
    rintro e w8 ⟨v, rfl, hown, hbe⟩
    have HA8 := Lib.hid (HA7.out.next hbe)
    have HS8 := Lib.hid (HS7.out.next hbe)
    have HB8 := Lib.hid (below_next HB7.out hbe)
    have HT8 := Lib.hid (HT7.out.next hbe)
    obtain ⟨pa8, pc8, rfl⟩ := own_len hown
    clear hbe hown
    go_wp2_with fail
    refine (in_any _ J _ k (fun _ => 0) R w8 HS8.out HA8.out (fun _ => by decide) HRL.out).mono ?_
    rintro e w9 ⟨rfl, hbe⟩
    have HA9 := Lib.hid (HA8.out.next hbe)
    have HS9 := Lib.hid (HS8.out.next hbe)
    have HB9 := Lib.hid (below_next HB8.out hbe)
    have HT9 := Lib.hid (HT8.out.next hbe)
    clear hbe
    go_wp2_with fail
    refine (in_any _ k _ J R (fun _ => 0) w9 HA9.out HS9.out HRL.out (fun _ => by decide)).mono ?_
    rintro e wa ⟨rfl, hbe⟩
    have HAa := Lib.hid (HA9.out.next hbe)
    have HBa := Lib.hid (below_next HB9.out hbe)
    have HTa := Lib.hid (HT9.out.next hbe)
    clear hbe
    go_wp2_with fail
    refine (back_any _ k R wa HAa.out HRL.out HTa.out).mono ?_
    rintro e wb ⟨rfl, hat, hbe⟩
    have HOb := Lib.hid hat
    have HBb := Lib.hid (below_next HBa.out hbe)
    have HTb := Lib.hid (HTa.out.next hbe)
    clear hbe hat
    go_wp2_with fail
    refine (has_any _ k (backR R) b a wb HOb.out hk (fun i _ => lt64 (back_lt R i))).mono ?_
    rintro e w' ⟨rfl, rfl⟩
    go_wp2_with fail
    refine (awake_any wb HTb.out).mono ?_
    rintro e wc ⟨rfl, hbe⟩
    have HBc := Lib.hid (below_next HBb.out hbe)
    clear hbe
    go_wp2_with fail
    go_ret
    refine ⟨?_, HBc.out⟩
    first
      | rfl
      | (show Ending.returned (Value.bool (!decide _)) = _; rw [decide_eq_false (by omega)]; rfl)
end
end Go.Proofs.YtepkjnpbdjmlbaaDoor
