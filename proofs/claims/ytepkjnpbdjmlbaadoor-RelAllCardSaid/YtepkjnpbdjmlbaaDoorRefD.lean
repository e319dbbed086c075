import Derived.Test.YtepkjnpbdjmlbaaDoorRefC
namespace Go.Proofs.YtepkjnpbdjmlbaaDoor
open Go.RowKit RelA
attribute [local irreducible] RelA.rcells
namespace RelA
/-- what the three loops of Then have laid -/
def tp (N k q x : Nat) (M S : Nat → Nat → Bool) : Nat → Nat → Bool := fun i j =>
  decide (j < N) && ((decide (i < k) && (List.range N).any fun b => M i b && S b j) || (decide (i = k) && (((List.range q).any fun b => M i b && S b j) || (decide (j < x) && (M i q && S q j)))))
def thenM (N : Nat) (M S : Nat → Nat → Bool) : Nat → Nat → Bool := rfull N fun i j => (List.range N).any fun b => M i b && S b j
theorem tp_zero (N : Nat) (M S : Nat → Nat → Bool) (i j : Nat) : tp N 0 0 0 M S i j = false := by simp [tp]
theorem tp_skip (N k q : Nat) (M S : Nat → Nat → Bool) (h : M k q = false) (i j : Nat) : tp N k q 0 M S i j = tp N k (q + 1) 0 M S i j := by
  unfold tp
  rw [List.range_succ, List.any_append]
  by_cases e : i = k
  · subst e; simp [h]
  · simp [e]
theorem tp_end (N k q : Nat) (M S : Nat → Nat → Bool) (i j : Nat) : tp N k q N M S i j = tp N k (q + 1) 0 M S i j := by
  unfold tp
  rw [List.range_succ, List.any_append]
  by_cases e : j < N
  · simp [e]
  · simp [e]
theorem tp_row (N k : Nat) (M S : Nat → Nat → Bool) (i j : Nat) : tp N k N 0 M S i j = tp N (k + 1) 0 0 M S i j := by
  unfold tp
  by_cases h1 : i < k
  · have : i < k + 1 := by omega
    have h2 : ¬ i = k := by omega
    simp [h1, this, h2]
  · by_cases h2 : i = k
    · subst h2; simp
    · have : ¬ i < k + 1 := by omega
      simp [h1, h2, this]
theorem tp_full (N k : Nat) (M S : Nat → Nat → Bool) (h : k = N) (i j : Nat) : tp N k 0 0 M S i j = thenM N M S i j := by
  subst h
  unfold tp thenM rfull
  by_cases h1 : i < k <;> by_cases h2 : j < k <;> simp [h1, h2]
theorem tp_at (N k q x : Nat) (M S : Nat → Nat → Bool) (hx : x < N) : tp N k q x M S k x = (List.range q).any fun b => M k b && S b x := by
  unfold tp; simp [hx]
theorem tp_step (N k q x : Nat) (M S : Nat → Nat → Bool) (hx : x < N) (h : M k q = true) (i j : Nat) : updM (tp N k q x M S) k x (tp N k q x M S k x || S q x) i j = tp N k q (x + 1) M S i j := by
  rw [tp_at N k q x M S hx]
  unfold updM tp
  by_cases h1 : i = k ∧ j = x
  · rw [if_pos h1]; obtain ⟨rfl, rfl⟩ := h1; simp [hx, h]
  · rw [if_neg h1]
    by_cases h2 : i = k
    · subst h2
      have h3 : ¬ j = x := fun e => h1 ⟨rfl, e⟩
      by_cases h4 : j < x
      · have : j < x + 1 := by omega
        simp [h4, this]
      · have : ¬ j < x + 1 := by omega
        simp [h4, this]
    · simp [h2]
end RelA
section
attribute [local go_sem ↓ high] RelA.execOp_max RelA.execOp_min
attribute [local go_sem] RelA.run_maxOp RelA.run_minOp
set_option maxHeartbeats 3200000 in
theorem rthen_any (b n c m : Nat) (M S : Nat → Nat → Bool) (w : World) (hb : RAt w b n M) (hc : RAt w c m S) (hn : n ≤ 40) (hm : m ≤ 40) :
    Calls Tryd.prog 18 #[.pointer (some ⟨b, 0, none⟩), .pointer (some ⟨c, 0, none⟩)] w fun e w' => e = .returned (.pointer (some ⟨w.heap.size, 0, none⟩)) ∧ RAt w' w.heap.size (max n m) (thenM (max n m) M S) ∧ Below w.heap.size w w' := by
  have hb0 := hb.c0
  have hc0 := hc.c0
  have hmx : max (n : Int) (m : Int) = ((max n m : Nat) : Int) := by omega
  have hN : max n m ≤ 40 := by omega
  have HCL : Hid (clampN ((max n m : Nat) : Int) = max n m) := by show clampN _ = _; unfold clampN; omega
  generalize max n m = N at *
  have HB := Lib.hid hb
  have HC := Lib.hid hc
  clear hb hc hn hm
  go_enter Tryd.func18, Tryd.ntmps18
  go_wp2_with fail
  refine wp_region_still_tail 9 (by kernel_rfl) (by kernel_rfl) ?_
  simp only [List.take_succ_cons, List.take_zero, List.drop_succ_cons, List.drop_zero]
  show wpStill _ _ w.drew (fun a' => wpList _ _ _ _ a' w.drew) _ _
  repeat still_step
  refine wpStill_nil ?_
  go_wp2_with fail
  refine (rnew_nil (N : Int) w.drew).mono ?_
  rintro e w1 ⟨rfl, hat, hbe1⟩
  rw [HCL.out] at hat
  have HAT1 : Hid (RAt w1 w.heap.size N fun _ _ => false) := hat
  have HB1 : Hid (Below w.heap.size w w1) := ⟨hbe1.os, hbe1.tape, hbe1.output, hbe1.size, hbe1.block⟩
  clear hat hbe1 hmx HCL
  go_wp2_with fail
  go_loopw [6] (fun x wr => ∃ k : Nat, k ≤ N ∧ x = .int .i64 k ∧ RAt wr w.heap.size N (tp N k 0 0 M S) ∧ Below w.heap.size w wr) (fun x _ => N - (intOf x).toNat)
  case atStart => exact ⟨0, Nat.zero_le _, rfl, HAT1.out.congr fun i j _ _ => (tp_zero _ _ _ i j).symm, HB1.out⟩
  case round =>
    obtain ⟨k, hk, rfl, hat, hbe⟩ := hrel
    by_cases hlt : k < N
    · obtain ⟨wo, rfl⟩ : ∃ wo : World, wo = wr := ⟨_, rfl⟩
      have hr0 := hat.c0
      have hdk : decide ((k : Int) < (N : Int)) = true := by simp; omega
      have hki : (k : Int) < (N : Int) := by omega
      have HAT := Lib.hid hat
      clear hat
      go_wp2_with fail
      clear hr0
      go_loopw [7] (fun x wi => ∃ q : Nat, q ≤ N ∧ x = .int .i64 q ∧ RAt wi w.heap.size N (tp N k q 0 M S) ∧ Below w.heap.size w wi) (fun x _ => N - (intOf x).toNat)
      case atStart => exact ⟨0, Nat.zero_le _, rfl, HAT.out, hbe⟩
      case round =>
        obtain ⟨q, hq, rfl, hati, hbi⟩ := hrel
        have hr0 := hati.c0
        by_cases hql : q < N
        · obtain ⟨wq, rfl⟩ : ∃ wq : World, wq = wr := ⟨_, rfl⟩
          have hdq : decide ((q : Int) < (N : Int)) = true := by simp; omega
          have hqi : (q : Int) < (N : Int) := by omega
          have hq40 : (q : Int) < 40 := by omega
          have hk40 : (k : Int) < 40 := by omega
          have HATI := Lib.hid hati
          clear hati
          cases hx1 : M k q
          · have HX1 := Lib.hid hx1
            clear hx1
            go_wp2_with fail
            clear hr0
            go_loopw [8] (fun x wi => x = .int .i64 0 ∧ RAt wi w.heap.size N (tp N k q 0 M S) ∧ Below w.heap.size w wi) (fun x _ => 0)
            case atStart => exact ⟨rfl, HATI.out, hbi⟩
            case round =>
              obtain ⟨rfl, hatx, hbx⟩ := hrel
              have hr0 := hatx.c0
              have hd0 : decide ((0 : Int) < (N : Int)) = true := by simp; omega
              have hm1 := (HB.out.below hbx HB.out.lt).ci k q (by omega) (by omega)
              rw [HX1.out] at hm1
              have HATX := Lib.hid hatx
              clear hatx
              go_wp2_with fail
              go_roundw
              case rel => exact ⟨q + 1, by omega, by go_num, HATX.out.congr fun i j _ _ => tp_skip N k q M S HX1.out i j, hbx⟩
              case measure => simp [intOf]; omega
          · have HX1 := Lib.hid hx1
            clear hx1
            go_wp2_with fail
            clear hr0
            go_loopw [8] (fun x wi => ∃ z : Nat, z ≤ N ∧ x = .int .i64 z ∧ RAt wi w.heap.size N (tp N k q z M S) ∧ Below w.heap.size w wi) (fun x _ => N - (intOf x).toNat)
            case atStart => exact ⟨0, Nat.zero_le _, rfl, HATI.out, hbi⟩
            case round =>
              obtain ⟨z, hz, rfl, hatx, hbx⟩ := hrel
              have hr0 := hatx.c0
              have hm1 := (HB.out.below hbx HB.out.lt).ci k q (by omega) (by omega)
              rw [HX1.out] at hm1
              by_cases hzl : z < N
              · have hdz : decide ((z : Int) < (N : Int)) = true := by simp; omega
                have hzi : (z : Int) < (N : Int) := by omega
                have hz40 : (z : Int) < 40 := by omega
                have hm2 := (HC.out.below hbx HC.out.lt).ci q z (by omega) (by omega)
                have hd := hatx.ci k z (by omega) (by omega)
                have hfz := hatx.frozen (1 + k * 40 + z)
                have HATX := Lib.hid hatx
                have HST := Lib.hid (tp_step N k q z M S hzl HX1.out)
                clear hatx
                cases hx2 : tp N k q z M S k z <;> cases hx3 : S q z
                all_goals
                  rw [hx2] at hd
                  rw [hx3] at hm2
                  have HX2 := Lib.hid hx2
                  have HX3 := Lib.hid hx3
                  clear hx2 hx3
                  go_wp2_with fail
                  go_region
                  go_wp2_with fail
                  go_roundw
                  case rel =>
                    refine ⟨z + 1, by omega, by go_num, ?_, (hbx.setCell (Nat.le_refl _) _).drew⟩
                    have h1 := HATX.out.set k z (tp N k q z M S k z || S q z) (by omega) (by omega)
                    have h2 := (h1.congr fun i j _ _ => HST.out i j).drew
                    rw [HX2.out, HX3.out] at h2
                    exact h2
                  case measure => simp [intOf]; omega
              · have hzN : z = N := by omega
                have HZ := Lib.hid hzN
                have hdz : decide ((z : Int) < (N : Int)) = false := by simp; omega
                have HATX := Lib.hid hatx
                clear hzN hatx
                go_wp2_with fail
                go_roundw
                case rel =>
                  refine ⟨q + 1, by omega, by go_num, ?_, hbx⟩
                  have h1 := HATX.out
                  rw [HZ.out] at h1
                  exact h1.congr fun i j _ _ => tp_end N k q M S i j
                case measure => simp [intOf]; omega
        · have hqN : q = N := by omega
          have HQ := Lib.hid hqN
          have hdq : decide ((q : Int) < (N : Int)) = false := by simp; omega
          have HATI := Lib.hid hati
          clear hqN hati
          go_wp2_with fail
          go_roundw
          case rel =>
            refine ⟨k + 1, by omega, by go_num, ?_, hbi⟩
            have h1 := HATI.out
            rw [HQ.out] at h1
            exact h1.congr fun i j _ _ => tp_row N k M S i j
          case measure => simp [intOf]; omega
    · have hkN : k = N := by omega
      have HKN := Lib.hid hkN
      have hdk : decide ((k : Int) < (N : Int)) = false := by simp; omega
      have hr0 := hat.c0
      have HAT := Lib.hid hat
      clear hkN hat
      go_wp2_with fail
      go_ret
      exact ⟨rfl, HAT.out.congr fun i j _ _ => tp_full N k _ _ HKN.out i j, hbe⟩
end
end Go.Proofs.YtepkjnpbdjmlbaaDoor
