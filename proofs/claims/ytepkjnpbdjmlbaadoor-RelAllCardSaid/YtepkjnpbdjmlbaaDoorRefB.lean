import Derived.Test.YtepkjnpbdjmlbaaDoorRefA
import Derived.StillTailTactics
import Derived.BigRegion
namespace Go.Proofs.YtepkjnpbdjmlbaaDoor
open Go.RowKit RelA
namespace RelA
/-- what two loops have laid: the rows ahead of k, and of k's row the places ahead of q -/
def rpart (N k q : Nat) (F : Nat → Nat → Bool) : Nat → Nat → Bool := fun i j => ((decide (i < k) && decide (j < N)) || (decide (i = k) && decide (j < q))) && F i j
def rfull (N : Nat) (F : Nat → Nat → Bool) : Nat → Nat → Bool := fun i j => (decide (i < N) && decide (j < N)) && F i j
theorem rpart_zero (N : Nat) (F : Nat → Nat → Bool) (i j : Nat) : rpart N 0 0 F i j = false := by simp [rpart]
theorem rpart_row (N k : Nat) (F : Nat → Nat → Bool) (i j : Nat) : rpart N k N F i j = rpart N (k + 1) 0 F i j := by
  unfold rpart
  by_cases h1 : i < k
  · have : i < k + 1 := by omega
    have h2 : ¬ i = k := by omega
    simp [h1, this, h2]
  · by_cases h2 : i = k
    · subst h2; simp
    · have : ¬ i < k + 1 := by omega
      simp [h1, h2, this]
theorem rpart_full (N k : Nat) (F : Nat → Nat → Bool) (h : k = N) (i j : Nat) : rpart N k 0 F i j = rfull N F i j := by
  subst h; simp [rpart, rfull]
theorem rpart_step (N k q : Nat) (F : Nat → Nat → Bool) (i j : Nat) : updM (rpart N k q F) k q (F k q) i j = rpart N k (q + 1) F i j := by
  unfold updM rpart
  by_cases h : i = k ∧ j = q
  · rw [if_pos h]; obtain ⟨rfl, rfl⟩ := h; simp
  · rw [if_neg h]
    by_cases h1 : i = k
    · subst h1
      have h2 : ¬ j = q := fun e => h ⟨rfl, e⟩
      by_cases h3 : j < q
      · have : j < q + 1 := by omega
        simp [h3, this]
      · have : ¬ j < q + 1 := by omega
        simp [h3, this]
    · simp [h1]
theorem rpart_at (N k q : Nat) (F : Nat → Nat → Bool) : rpart N k q F k q = false := by simp [rpart]
end RelA
section
attribute [local go_sem ↓ high] RelA.execOp_max RelA.execOp_min
attribute [local go_sem] RelA.run_maxOp RelA.run_minOp
set_option maxHeartbeats 1600000 in
theorem ror_any (b n c m : Nat) (M S : Nat → Nat → Bool) (w : World) (hb : RAt w b n M) (hc : RAt w c m S) (hn : n ≤ 40) (hm : m ≤ 40) :
    Calls Tryd.prog 12 #[.pointer (some ⟨b, 0, none⟩), .pointer (some ⟨c, 0, none⟩)] w fun e w' => e = .returned (.pointer (some ⟨w.heap.size, 0, none⟩)) ∧ RAt w' w.heap.size (max n m) (rfull (max n m) fun i j => M i j || S i j) ∧ Below w.heap.size w w' := by
  have hb0 := hb.c0
  have hc0 := hc.c0
  have hmx : max (n : Int) (m : Int) = ((max n m : Nat) : Int) := by omega
  have hN : max n m ≤ 40 := by omega
  have HCL : Hid (clampN ((max n m : Nat) : Int) = max n m) := by show clampN _ = _; unfold clampN; omega
  generalize max n m = N at *
  have HB := Lib.hid hb
  have HC := Lib.hid hc
  clear hb hc hn hm
  go_enter Tryd.func12, Tryd.ntmps12
  go_wp2_with fail
  refine wp_region_still_tail 9 (by kernel_rfl) (by kernel_rfl) ?_
  simp only [List.take_succ_cons, List.take_zero, List.drop_succ_cons, List.drop_zero]
  show wpStill _ _ w.drew (fun a' => wpList _ _ _ _ a' w.drew) _ _
  repeat still_step
  refine wpStill_nil ?_
  go_wp2_with fail
  refine (rnew_nil (N : Int) w.drew).mono ?_
  rintro e w1 ⟨rfl, hat, hbe1⟩
  rw [HCL.out] at hat
  have HAT1 : Hid (RAt w1 w.heap.size N fun _ _ => false) := hat
  have HB1 : Hid (Below w.heap.size w w1) := ⟨hbe1.os, hbe1.tape, hbe1.output, hbe1.size, hbe1.block⟩
  clear hat hbe1 hmx HCL
  go_wp2_with fail
  go_loopw [6] (fun x wr => ∃ k : Nat, k ≤ N ∧ x = .int .i64 k ∧ RAt wr w.heap.size N (rpart N k 0 fun i j => M i j || S i j) ∧ Below w.heap.size w wr) (fun x _ => N - (intOf x).toNat)
  case atStart => exact ⟨0, Nat.zero_le _, rfl, HAT1.out.congr fun i j _ _ => (rpart_zero _ _ i j).symm, HB1.out⟩
  case round =>
    obtain ⟨k, hk, rfl, hat, hbe⟩ := hrel
    by_cases hlt : k < N
    · obtain ⟨wo, rfl⟩ : ∃ wo : World, wo = wr := ⟨_, rfl⟩
      have hr0 := hat.c0
      have hdk : decide ((k : Int) < (N : Int)) = true := by simp; omega
      have hki : (k : Int) < (N : Int) := by omega
      have HAT := Lib.hid hat
      clear hat
      go_wp2_with fail
      clear hr0
      go_loopw [7] (fun x wi => ∃ q : Nat, q ≤ N ∧ x = .int .i64 q ∧ RAt wi w.heap.size N (rpart N k q fun i j => M i j || S i j) ∧ Below w.heap.size w wi) (fun x _ => N - (intOf x).toNat)
      case atStart => exact ⟨0, Nat.zero_le _, rfl, HAT.out, hbe⟩
      case round =>
        obtain ⟨q, hq, rfl, hati, hbi⟩ := hrel
        have hr0 := hati.c0
        by_cases hql : q < N
        · have hdq : decide ((q : Int) < (N : Int)) = true := by simp; omega
          have hqi : (q : Int) < (N : Int) := by omega
          have hq40 : (q : Int) < 40 := by omega
          have hk40 : (k : Int) < 40 := by omega
          have hm1 := (HB.out.below hbi HB.out.lt).ci k q (by omega) (by omega)
          have hm2 := (HC.out.below hbi HC.out.lt).ci k q (by omega) (by omega)
          have hd := hati.ci k q (by omega) (by omega)
          rw [rpart_at] at hd
          have hfz := hati.frozen (1 + k * 40 + q)
          have HATI := Lib.hid hati
          have HST := Lib.hid (rpart_step N k q fun i j => M i j || S i j)
          clear hati
          cases hx1 : M k q <;> cases hx2 : S k q
          all_goals
            rw [hx1] at hm1
            rw [hx2] at hm2
            have HX1 := Lib.hid hx1
            have HX2 := Lib.hid hx2
            clear hx1 hx2
            go_wp2_with fail
            go_region
            go_wp2_with fail
            go_roundw
            case rel =>
              refine ⟨q + 1, by omega, by go_num, ?_, (hbi.setCell (Nat.le_refl _) _).drew⟩
              have h1 := HATI.out.set k q (M k q || S k q) (by omega) (by omega)
              have h2 := (h1.congr fun i j _ _ => HST.out i j).drew
              rw [HX1.out, HX2.out] at h2
              exact h2
            case measure => simp [intOf]; omega
        · have hqN : q = N := by omega
          have HQ := Lib.hid hqN
          have hdq : decide ((q : Int) < (N : Int)) = false := by simp; omega
          have HATI := Lib.hid hati
          clear hqN hati
          go_wp2_with fail
          go_roundw
          case rel =>
            refine ⟨k + 1, by omega, by go_num, ?_, hbi⟩
            have h1 := HATI.out
            rw [HQ.out] at h1
            exact h1.congr fun i j _ _ => rpart_row N k _ i j
          case measure => simp [intOf]; omega
    · have hkN : k = N := by omega
      have HKN := Lib.hid hkN
      have hdk : decide ((k : Int) < (N : Int)) = false := by simp; omega
      have hr0 := hat.c0
      have HAT := Lib.hid hat
      clear hkN hat
      go_wp2_with fail
      go_ret
      exact ⟨rfl, HAT.out.congr fun i j _ _ => rpart_full N k _ HKN.out i j, hbe⟩
end
section
attribute [local go_sem ↓ high] RelA.execOp_max RelA.execOp_min
attribute [local go_sem] RelA.run_maxOp RelA.run_minOp
set_option maxHeartbeats 1600000 in
theorem rand_any (b n c m : Nat) (M S : Nat → Nat → Bool) (w : World) (hb : RAt w b n M) (hc : RAt w c m S) (hn : n ≤ 40) (hm : m ≤ 40) :
    Calls Tryd.prog 14 #[.pointer (some ⟨b, 0, none⟩), .pointer (some ⟨c, 0, none⟩)] w fun e w' => e = .returned (.pointer (some ⟨w.heap.size, 0, none⟩)) ∧ RAt w' w.heap.size (max n m) (rfull (max n m) fun i j => M i j && S i j) ∧ Below w.heap.size w w' := by
  have hb0 := hb.c0
  have hc0 := hc.c0
  have hmx : max (n : Int) (m : Int) = ((max n m : Nat) : Int) := by omega
  have hN : max n m ≤ 40 := by omega
  have HCL : Hid (clampN ((max n m : Nat) : Int) = max n m) := by show clampN _ = _; unfold clampN; omega
  generalize max n m = N at *
  have HB := Lib.hid hb
  have HC := Lib.hid hc
  clear hb hc hn hm
  go_enter Tryd.func14, Tryd.ntmps14
  go_wp2_with fail
  refine wp_region_still_tail 9 (by kernel_rfl) (by kernel_rfl) ?_
  simp only [List.take_succ_cons, List.take_zero, List.drop_succ_cons, List.drop_zero]
  show wpStill _ _ w.drew (fun a' => wpList _ _ _ _ a' w.drew) _ _
  repeat still_step
  refine wpStill_nil ?_
  go_wp2_with fail
  refine (rnew_nil (N : Int) w.drew).mono ?_
  rintro e w1 ⟨rfl, hat, hbe1⟩
  rw [HCL.out] at hat
  have HAT1 : Hid (RAt w1 w.heap.size N fun _ _ => false) := hat
  have HB1 : Hid (Below w.heap.size w w1) := ⟨hbe1.os, hbe1.tape, hbe1.output, hbe1.size, hbe1.block⟩
  clear hat hbe1 hmx HCL
  go_wp2_with fail
  go_loopw [6] (fun x wr => ∃ k : Nat, k ≤ N ∧ x = .int .i64 k ∧ RAt wr w.heap.size N (rpart N k 0 fun i j => M i j && S i j) ∧ Below w.heap.size w wr) (fun x _ => N - (intOf x).toNat)
  case atStart => exact ⟨0, Nat.zero_le _, rfl, HAT1.out.congr fun i j _ _ => (rpart_zero _ _ i j).symm, HB1.out⟩
  case round =>
    obtain ⟨k, hk, rfl, hat, hbe⟩ := hrel
    by_cases hlt : k < N
    · obtain ⟨wo, rfl⟩ : ∃ wo : World, wo = wr := ⟨_, rfl⟩
      have hr0 := hat.c0
      have hdk : decide ((k : Int) < (N : Int)) = true := by simp; omega
      have hki : (k : Int) < (N : Int) := by omega
      have HAT := Lib.hid hat
      clear hat
      go_wp2_with fail
      clear hr0
      go_loopw [7] (fun x wi => ∃ q : Nat, q ≤ N ∧ x = .int .i64 q ∧ RAt wi w.heap.size N (rpart N k q fun i j => M i j && S i j) ∧ Below w.heap.size w wi) (fun x _ => N - (intOf x).toNat)
      case atStart => exact ⟨0, Nat.zero_le _, rfl, HAT.out, hbe⟩
      case round =>
        obtain ⟨q, hq, rfl, hati, hbi⟩ := hrel
        have hr0 := hati.c0
        by_cases hql : q < N
        · have hdq : decide ((q : Int) < (N : Int)) = true := by simp; omega
          have hqi : (q : Int) < (N : Int) := by omega
          have hq40 : (q : Int) < 40 := by omega
          have hk40 : (k : Int) < 40 := by omega
          have hm1 := (HB.out.below hbi HB.out.lt).ci k q (by omega) (by omega)
          have hm2 := (HC.out.below hbi HC.out.lt).ci k q (by omega) (by omega)
          have hd := hati.ci k q (by omega) (by omega)
          rw [rpart_at] at hd
          have hfz := hati.frozen (1 + k * 40 + q)
          have HATI := Lib.hid hati
          have HST := Lib.hid (rpart_step N k q fun i j => M i j && S i j)
          clear hati
          cases hx1 : M k q <;> cases hx2 : S k q
          all_goals
            rw [hx1] at hm1
            rw [hx2] at hm2
            have HX1 := Lib.hid hx1
            have HX2 := Lib.hid hx2
            clear hx1 hx2
            go_wp2_with fail
            go_region
            go_wp2_with fail
            go_roundw
            case rel =>
              refine ⟨q + 1, by omega, by go_num, ?_, (hbi.setCell (Nat.le_refl _) _).drew⟩
              have h1 := HATI.out.set k q (M k q && S k q) (by omega) (by omega)
              have h2 := (h1.congr fun i j _ _ => HST.out i j).drew
              rw [HX1.out, HX2.out] at h2
              exact h2
            case measure => simp [intOf]; omega
        · have hqN : q = N := by omega
          have HQ := Lib.hid hqN
          have hdq : decide ((q : Int) < (N : Int)) = false := by simp; omega
          have HATI := Lib.hid hati
          clear hqN hati
          go_wp2_with fail
          go_roundw
          case rel =>
            refine ⟨k + 1, by omega, by go_num, ?_, hbi⟩
            have h1 := HATI.out
            rw [HQ.out] at h1
            exact h1.congr fun i j _ _ => rpart_row N k _ i j
          case measure => simp [intOf]; omega
    · have hkN : k = N := by omega
      have HKN := Lib.hid hkN
      have hdk : decide ((k : Int) < (N : Int)) = false := by simp; omega
      have hr0 := hat.c0
      have HAT := Lib.hid hat
      clear hkN hat
      go_wp2_with fail
      go_ret
      exact ⟨rfl, HAT.out.congr fun i j _ _ => rpart_full N k _ HKN.out i j, hbe⟩
end
section
attribute [local go_sem ↓ high] RelA.execOp_max RelA.execOp_min
attribute [local go_sem] RelA.run_maxOp RelA.run_minOp
set_option maxHeartbeats 1600000 in
theorem rless_any (b n c m : Nat) (M S : Nat → Nat → Bool) (w : World) (hb : RAt w b n M) (hc : RAt w c m S) (hn : n ≤ 40) (hm : m ≤ 40) :
    Calls Tryd.prog 16 #[.pointer (some ⟨b, 0, none⟩), .pointer (some ⟨c, 0, none⟩)] w fun e w' => e = .returned (.pointer (some ⟨w.heap.size, 0, none⟩)) ∧ RAt w' w.heap.size (max n m) (rfull (max n m) fun i j => M i j && !S i j) ∧ Below w.heap.size w w' := by
  have hb0 := hb.c0
  have hc0 := hc.c0
  have hmx : max (n : Int) (m : Int) = ((max n m : Nat) : Int) := by omega
  have hN : max n m ≤ 40 := by omega
  have HCL : Hid (clampN ((max n m : Nat) : Int) = max n m) := by show clampN _ = _; unfold clampN; omega
  generalize max n m = N at *
  have HB := Lib.hid hb
  have HC := Lib.hid hc
  clear hb hc hn hm
  go_enter Tryd.func16, Tryd.ntmps16
  go_wp2_with fail
  refine wp_region_still_tail 9 (by kernel_rfl) (by kernel_rfl) ?_
  simp only [List.take_succ_cons, List.take_zero, List.drop_succ_cons, List.drop_zero]
  show wpStill _ _ w.drew (fun a' => wpList _ _ _ _ a' w.drew) _ _
  repeat still_step
  refine wpStill_nil ?_
  go_wp2_with fail
  refine (rnew_nil (N : Int) w.drew).mono ?_
  rintro e w1 ⟨rfl, hat, hbe1⟩
  rw [HCL.out] at hat
  have HAT1 : Hid (RAt w1 w.heap.size N fun _ _ => false) := hat
  have HB1 : Hid (Below w.heap.size w w1) := ⟨hbe1.os, hbe1.tape, hbe1.output, hbe1.size, hbe1.block⟩
  clear hat hbe1 hmx HCL
  go_wp2_with fail
  go_loopw [6] (fun x wr => ∃ k : Nat, k ≤ N ∧ x = .int .i64 k ∧ RAt wr w.heap.size N (rpart N k 0 fun i j => M i j && !S i j) ∧ Below w.heap.size w wr) (fun x _ => N - (intOf x).toNat)
  case atStart => exact ⟨0, Nat.zero_le _, rfl, HAT1.out.congr fun i j _ _ => (rpart_zero _ _ i j).symm, HB1.out⟩
  case round =>
    obtain ⟨k, hk, rfl, hat, hbe⟩ := hrel
    by_cases hlt : k < N
    · obtain ⟨wo, rfl⟩ : ∃ wo : World, wo = wr := ⟨_, rfl⟩
      have hr0 := hat.c0
      have hdk : decide ((k : Int) < (N : Int)) = true := by simp; omega
      have hki : (k : Int) < (N : Int) := by omega
      have HAT := Lib.hid hat
      clear hat
      go_wp2_with fail
      clear hr0
      go_loopw [7] (fun x wi => ∃ q : Nat, q ≤ N ∧ x = .int .i64 q ∧ RAt wi w.heap.size N (rpart N k q fun i j => M i j && !S i j) ∧ Below w.heap.size w wi) (fun x _ => N - (intOf x).toNat)
      case atStart => exact ⟨0, Nat.zero_le _, rfl, HAT.out, hbe⟩
      case round =>
        obtain ⟨q, hq, rfl, hati, hbi⟩ := hrel
        have hr0 := hati.c0
        by_cases hql : q < N
        · have hdq : decide ((q : Int) < (N : Int)) = true := by simp; omega
          have hqi : (q : Int) < (N : Int) := by omega
          have hq40 : (q : Int) < 40 := by omega
          have hk40 : (k : Int) < 40 := by omega
          have hm1 := (HB.out.below hbi HB.out.lt).ci k q (by omega) (by omega)
          have hm2 := (HC.out.below hbi HC.out.lt).ci k q (by omega) (by omega)
          have hd := hati.ci k q (by omega) (by omega)
          rw [rpart_at] at hd
          have hfz := hati.frozen (1 + k * 40 + q)
          have HATI := Lib.hid hati
          have HST := Lib.hid (rpart_step N k q fun i j => M i j && !S i j)
          clear hati
          cases hx1 : M k q <;> cases hx2 : S k q
          all_goals
            rw [hx1] at hm1
            rw [hx2] at hm2
            have HX1 := Lib.hid hx1
            have HX2 := Lib.hid hx2
            clear hx1 hx2
            go_wp2_with fail
            go_region
            go_wp2_with fail
            go_roundw
            case rel =>
              refine ⟨q + 1, by omega, by go_num, ?_, (hbi.setCell (Nat.le_refl _) _).drew⟩
              have h1 := HATI.out.set k q (M k q && !S k q) (by omega) (by omega)
              have h2 := (h1.congr fun i j _ _ => HST.out i j).drew
              rw [HX1.out, HX2.out] at h2
              exact h2
            case measure => simp [intOf]; omega
        · have hqN : q = N := by omega
          have HQ := Lib.hid hqN
          have hdq : decide ((q : Int) < (N : Int)) = false := by simp; omega
          have HATI := Lib.hid hati
          clear hqN hati
          go_wp2_with fail
          go_roundw
          case rel =>
            refine ⟨k + 1, by omega, by go_num, ?_, hbi⟩
            have h1 := HATI.out
            rw [HQ.out] at h1
            exact h1.congr fun i j _ _ => rpart_row N k _ i j
          case measure => simp [intOf]; omega
    · have hkN : k = N := by omega
      have HKN := Lib.hid hkN
      have hdk : decide ((k : Int) < (N : Int)) = false := by simp; omega
      have hr0 := hat.c0
      have HAT := Lib.hid hat
      clear hkN hat
      go_wp2_with fail
      go_ret
      exact ⟨rfl, HAT.out.congr fun i j _ _ => rpart_full N k _ HKN.out i j, hbe⟩
end
end Go.Proofs.YtepkjnpbdjmlbaaDoor
