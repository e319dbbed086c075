import Derived.Test.YtepkjnpbdjmlbaaDoorRelE
namespace Go.Proofs.YtepkjnpbdjmlbaaDoor
open Go.RowKit RelA

namespace RelA
/-- each pair turned -/
def backR (R : Nat → Nat) : Nat → Nat := fun j => bitsOf (fun i => (R i).testBit j) 40
/-- the same, of the rows ahead of k, and of k's row x without what is left of it -/
def BK (R : Nat → Nat) (k x y : Nat) : Nat → Nat := fun j => bitsOf (fun i => (decide (i < k) && (R i).testBit j) || (decide (i = k) && (x.testBit j && !y.testBit j))) 40
theorem BK_lt (R : Nat → Nat) (k x y j : Nat) : BK R k x y j < 2 ^ 40 := bitsOf_lt _ _
theorem BK_bit (R : Nat → Nat) (k x y j i : Nat) : (BK R k x y j).testBit i = (decide (i < 40) && ((decide (i < k) && (R i).testBit j) || (decide (i = k) && (x.testBit j && !y.testBit j)))) := testBit_bitsOf _ _ _
theorem BK_zero (R : Nat → Nat) (j : Nat) : BK R 0 0 0 j = 0 := by
  apply Nat.eq_of_testBit_eq; intro i; rw [BK_bit]; simp
theorem BK_start (R : Nat → Nat) (k j : Nat) : BK R k 0 0 j = BK R k (R k) (R k) j := by
  apply Nat.eq_of_testBit_eq; intro i; rw [BK_bit, BK_bit]; cases (R k).testBit j <;> simp
theorem BK_end (R : Nat → Nat) (k j : Nat) : BK R k (R k) 0 j = BK R (k + 1) 0 0 j := by
  apply Nat.eq_of_testBit_eq; intro i; rw [BK_bit, BK_bit]
  by_cases e : i = k
  · subst e; simp
  · by_cases h : i < k
    · have : i < k + 1 := by omega
      simp [h, this, e]
    · have : ¬ i < k + 1 := by omega
      simp [h, this, e]
theorem BK_full (R : Nat → Nat) (k : Nat) (hk : 40 ≤ k) (j : Nat) : BK R k 0 0 j = backR R j := by
  apply Nat.eq_of_testBit_eq; intro i; rw [BK_bit]; unfold backR; rw [testBit_bitsOf]
  by_cases h : i < 40
  · have : i < k := by omega
    simp [h, this]
  · simp [h]
theorem BK_step (R : Nat → Nat) (k x y : Nat) (hk : k < 40) (h0 : ¬ y = 0) (hy : y < 2 ^ 40) (hU : ∀ j, y.testBit j = true → x.testBit j = true) (j : Nat) :
    BK R k x (y &&& (y - 1)) j = upd (BK R k x y) (Lib.ctz 64 y) (BK R k x y (Lib.ctz 64 y) ||| 2 ^ k) j := by
  have hb := ctz_bits y h0 (by omega)
  apply Nat.eq_of_testBit_eq
  intro i
  unfold upd
  rw [BK_bit, (hb j).1]
  by_cases e : j = Lib.ctz 64 y
  · rw [if_pos e, Nat.testBit_or, BK_bit, Nat.testBit_two_pow]
    have hx := hU _ (hb 0).2
    rw [e, hx]
    by_cases ei : i = k
    · subst ei; simp [hk]
    · have : ¬ k = i := fun h => ei h.symm
      simp [ei, this]
  · rw [if_neg e, BK_bit]
    simp [e]
end RelA

set_option maxHeartbeats 800000 in
theorem back_any (b n : Nat) (R : Nat → Nat) (w : World) (hb : At w b n R) (hR : ∀ i, R i < 2 ^ 40) (htab : Tab w) :
    Calls Tryd.prog 19 #[.pointer (some ⟨b, 0, none⟩)] w fun e w' => e = .returned (.pointer (some ⟨w.heap.size, 0, none⟩)) ∧ At w' w.heap.size n (backR R) ∧ Below w.heap.size w w' := by
  have hb0 := hb.c0
  have HR := Lib.hid hR
  have HB := Lib.hid hb
  have HTAB := Lib.hid htab
  clear hR hb htab
  go_enter Tryd.func19, Tryd.ntmps19
  go_wp2_with ((with_reducible refine wpList_load_rows rfl _ rfl b n R rfl (HB.out.below ((Below.refl _ _).alloc (Nat.le_refl _) _) HB.out.lt) ?_))
  go_loopw [16] (fun i wr => ∃ k : Nat, k ≤ 40 ∧ i = .int .i64 k ∧ At wr w.heap.size n (BK R k 0 0) ∧ Below w.heap.size w wr) (fun i _ => 40 - (intOf i).toNat)
  case atStart =>
    refine ⟨0, Nat.zero_le _, rfl, ?_, (Below.refl _ _).alloc (Nat.le_refl _) _⟩
    exact (zero_at' w n n rfl).congr fun j _ => (BK_zero R j).symm
  case round =>
    obtain ⟨k, hk, rfl, hat, hbe⟩ := hrel
    by_cases hlt : k < 40
    · obtain ⟨wo, rfl⟩ : ∃ wo : World, wo = wr := ⟨_, rfl⟩
      have hix := run_index_rows R k hlt
      have hdk : decide ((k : Int) < 40) = true := by simp; omega
      have HAT := Lib.hid hat
      clear hat
      go_wp2_with fail
      go_loopw [5] (fun x wi => ∃ y : Nat, y < 2 ^ 40 ∧ x = .int .u64 y ∧ Hid (∀ j, y.testBit j = true → (R k).testBit j = true) ∧ At wi w.heap.size n (BK R k (R k) y) ∧ Below w.heap.size w wi) (fun x _ => (intOf x).toNat)
      case atStart =>
        exact ⟨R k, HR.out k, rfl, (fun j h => h : ∀ j, (R k).testBit j = true → (R k).testBit j = true), HAT.out.congr fun j _ => BK_start R k j, hbe⟩
      case round =>
        obtain ⟨y, hy, rfl, hU, hati, hbi⟩ := hrel
        have hzlt := ctz_lt40 y
        by_cases hy0 : y = 0
        · subst hy0
          have HATI := Lib.hid hati
          clear hati hzlt
          go_wp2_with fail
          go_roundw
          case rel =>
            refine ⟨k + 1, by omega, by go_num, ?_, hbi⟩
            exact HATI.out.congr fun j _ => BK_end R k j
          case measure => simp [intOf]; omega
        · have hyb : ((y : Int) != 0) = true := by simpa using hy0
          have hy1 : 1 ≤ y := by omega
          have hz := hzlt hy0 hy
          have HTZ := Lib.hid (tz_any y wr.drew (fun k hk => (hbi.cell (p := ⟨0, k, none⟩) (by show 0 < _; exact Nat.lt_of_le_of_lt (Nat.zero_le _) HB.out.lt)).trans (HTAB.out k hk)) hy0 (lt64 hy))
          have hd := hati.ci (Lib.ctz 64 y) hz
          have hfz := hati.frozen (1 + Lib.ctz 64 y)
          have HATI := Lib.hid hati
          have HY0 := Lib.hid hy0
          clear hati hzlt hy0
          have hand : bits .and .u64 (y : Int) ((y : Int) - 1) = ((y &&& (y - 1) : Nat) : Int) := by
            have := bits_and_u64_nat y (y - 1) (lt64 hy) (by omega)
            rwa [Int.ofNat_sub hy1] at this
          have hlt' := BK_lt R k (R k) y (Lib.ctz 64 y)
          have hor : bits .or .u64 (BK R k (R k) y (Lib.ctz 64 y) : Int) (IntKind.u64.wrap (2 ^ k)) = ((BK R k (R k) y (Lib.ctz 64 y) ||| 2 ^ k : Nat) : Int) := by
            rw [two_lt k (by omega)]
            exact bits_or_u64_nat _ _ (lt64 hlt') (lt64 (Nat.pow_lt_pow_right (by omega) hlt))
          have HST := Lib.hid (BK_step R k (R k) y hlt HY0.out hy hU.out)
          clear hlt'
          generalize Lib.ctz 64 y = z at *
          have hzi : (z : Int) < 40 := by omega
          have hki : (k : Int) < 40 := by omega
          go_wp2_with fail
          refine wp_region_still_tail 13 (by kernel_rfl) (by kernel_rfl) ?_
          simp only [List.take_succ_cons, List.take_zero, List.drop_succ_cons, List.drop_zero]
          show wpStill _ _ wr.drew (fun a' => wpList _ _ _ _ a' wr.drew) _ _
          repeat still_step
          still_call (HTZ.out.mono fun e w' h => ⟨h.1, h.2.symm⟩)
          repeat still_step
          refine wpStill_nil ?_
          go_wp2_with fail
          go_roundw
          case rel =>
            refine ⟨y &&& (y - 1), ?_, rfl, ?_, ?_, ?_⟩
            · exact Nat.lt_of_lt_of_le (clear_lt y HY0.out) (by omega)
            · intro j hj
              refine hU.out j ?_
              rw [Nat.testBit_and, Bool.and_eq_true] at hj
              exact hj.1
            · refine ((HATI.out.set z (BK R k (R k) y z ||| 2 ^ k)).drew).congr fun j _ => (HST.out j).symm
            · exact (hbi.setCell (Nat.le_refl _) _).drew
          case measure =>
            have := clear_lt y HY0.out
            simp [intOf]; omega
    · have hk40 : 40 ≤ k := by omega
      have HAT := Lib.hid hat
      clear hat
      go_wp2_with fail
      go_ret
      exact ⟨rfl, HAT.out.congr fun i hi => BK_full R k hk40 i, hbe⟩
end Go.Proofs.YtepkjnpbdjmlbaaDoor
