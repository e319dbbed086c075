import Derived.Test.YtepkjnpbdjmlbaaDoorRelA
import Derived.Laws.Bits64b
namespace Go.Proofs.YtepkjnpbdjmlbaaDoor
open Go.RowKit RelA

namespace RelA
def hasB (n : Nat) (R : Nat → Nat) (a b : Int) : Bool := decide (0 ≤ a ∧ a < n) && (decide (0 ≤ b ∧ b < n) && (R a.toNat).testBit b.toNat)
theorem bit_and (x j : Nat) (hx : x < 18446744073709551616) : (bits BinOp.and IntKind.u64 ((x : Int) / 2 ^ j) 1 == 1) = x.testBit j := by
  have e : ((x : Int) / 2 ^ j) = ((x / 2 ^ j : Nat) : Int) := by simp
  have h := bits_and_u64_nat (x / 2 ^ j) 1 (Nat.lt_of_le_of_lt (Nat.div_le_self _ _) hx) (by omega)
  rw [e]
  have e1 : ((1 : Nat) : Int) = 1 := rfl
  rw [e1] at h
  rw [h, Nat.and_one_is_mod, Nat.testBit_eq_decide_div_mod_eq, Bool.eq_iff_iff]
  simp
  omega
end RelA

set_option maxHeartbeats 400000 in
theorem has_yes (b n : Nat) (R : Nat → Nat) (i j : Nat) (w : World) (h : At w b n R) (hn : n ≤ 40) (hi : i < n) (hj : j < n) (hR : R i < 18446744073709551616) :
    Calls Tryd.prog 29 #[.pointer (some ⟨b, 0, none⟩), .int .i64 i, .int .i64 j] w fun e w' => e = .returned (.bool ((R i).testBit j)) ∧ w = w' := by
  have h0 := h.c0
  have hc := h.ci i (by omega)
  have T1 := there_any b n i w h0
  have T2 := there_any b n j w h0
  have e1 : decide (0 ≤ (i:Int) ∧ (i:Int) < n) = true := by simp; omega
  have e2 : decide (0 ≤ (j:Int) ∧ (j:Int) < n) = true := by simp; omega
  rw [e1] at T1
  rw [e2] at T2
  have T1' := Lib.hid T1
  have T2' := Lib.hid T2
  clear T1 T2 e1 e2 h
  go_enter Tryd.func29, Tryd.ntmps29
  go_wp2_with fail
  refine T1'.out.mono ?_
  rintro e w' ⟨rfl, rfl⟩
  go_wp2_with fail
  refine T2'.out.mono ?_
  rintro e w' ⟨rfl, rfl⟩
  go_wp2_with fail
  go_ret
  refine ⟨?_, rfl⟩
  show Ending.returned (Value.bool _) = _
  rw [← bit_and (R i) j hR]

set_option maxHeartbeats 400000 in
theorem has_no (b n : Nat) (i j : Int) (w : World) (h0 : w.cell? ⟨b, 0, none⟩ = some (.int .i64 n)) (hi : ¬ (0 ≤ i ∧ i < n)) :
    Calls Tryd.prog 29 #[.pointer (some ⟨b, 0, none⟩), .int .i64 i, .int .i64 j] w fun e w' => e = .returned (.bool false) ∧ w = w' := by
  have T1 := there_any b n i w h0
  have e1 : decide (0 ≤ i ∧ i < n) = false := by simpa using hi
  rw [e1] at T1
  have T1' := Lib.hid T1
  clear T1 e1 hi
  go_enter Tryd.func29, Tryd.ntmps29
  go_wp2_with fail
  refine T1'.out.mono ?_
  rintro e w' ⟨rfl, rfl⟩
  go_wp2_with fail
  go_ret
  exact ⟨rfl, rfl⟩

set_option maxHeartbeats 400000 in
theorem has_nj (b n : Nat) (i j : Int) (w : World) (h0 : w.cell? ⟨b, 0, none⟩ = some (.int .i64 n)) (hi : (0 ≤ i ∧ i < n)) (hj : ¬ (0 ≤ j ∧ j < n)) :
    Calls Tryd.prog 29 #[.pointer (some ⟨b, 0, none⟩), .int .i64 i, .int .i64 j] w fun e w' => e = .returned (.bool false) ∧ w = w' := by
  have T1 := there_any b n i w h0
  have T2 := there_any b n j w h0
  have e1 : decide (0 ≤ i ∧ i < n) = true := by simpa using hi
  have e2 : decide (0 ≤ j ∧ j < n) = false := by simpa using hj
  rw [e1] at T1
  rw [e2] at T2
  have T1' := Lib.hid T1
  have T2' := Lib.hid T2
  clear T1 T2 e1 e2 hi hj
  go_enter Tryd.func29, Tryd.ntmps29
  go_wp2_with fail
  refine T1'.out.mono ?_
  rintro e w' ⟨rfl, rfl⟩
  go_wp2_with fail
  refine T2'.out.mono ?_
  rintro e w' ⟨rfl, rfl⟩
  go_wp2_with fail
  go_ret
  exact ⟨rfl, rfl⟩

theorem has_any (b n : Nat) (R : Nat → Nat) (i j : Int) (w : World) (h : At w b n R) (hn : n ≤ 40) (hR : ∀ i, i < n → R i < 18446744073709551616) :
    Calls Tryd.prog 29 #[.pointer (some ⟨b, 0, none⟩), .int .i64 i, .int .i64 j] w fun e w' => e = .returned (.bool (hasB n R i j)) ∧ w = w' := by
  by_cases hi : 0 ≤ i ∧ i < n
  · by_cases hj : 0 ≤ j ∧ j < n
    · obtain ⟨i, rfl⟩ := Int.eq_ofNat_of_zero_le hi.1
      obtain ⟨j, rfl⟩ := Int.eq_ofNat_of_zero_le hj.1
      have := has_yes b n R i j w h hn (by omega) (by omega) (hR i (by omega))
      refine this.mono ?_
      rintro e w' ⟨rfl, rfl⟩
      refine ⟨?_, rfl⟩
      have q : hasB n R i j = (R i).testBit j := by
        unfold hasB; rw [decide_eq_true hi, decide_eq_true hj]; simp
      rw [q]
    · refine (has_nj b n i j w h.c0 hi hj).mono ?_
      rintro e w' ⟨rfl, rfl⟩
      refine ⟨?_, rfl⟩
      have q : hasB n R i j = false := by
        unfold hasB; rw [decide_eq_false hj]; simp
      rw [q]
  · refine (has_no b n i j w h.c0 hi).mono ?_
    rintro e w' ⟨rfl, rfl⟩
    refine ⟨?_, rfl⟩
    have q : hasB n R i j = false := by
      unfold hasB; rw [decide_eq_false hi]; simp
    rw [q]

namespace RelA
/-- the table that math/bits reads stands in block 0 -/
def Tab (w : World) : Prop := ∀ k, k < 64 → w.cell? ⟨0, k, none⟩ = some (.int .u8 (Lib.deBruijn64tab.getD k 0))
end RelA
namespace RelA
theorem tz_eq (x : Nat) (h0 : x ≠ 0) (hx : x < 18446744073709551616) : ∃ idx, idx < 64 ∧ Lib.deBruijn64tab.getD idx 0 = Lib.ctz 64 x ∧
    IntKind.u64.wrap (bits BinOp.and IntKind.u64 (x : Int) (IntKind.u64.wrap (-(x : Int))) * 285870213051353865) / 288230376151711744 = (idx : Int) := by
  obtain ⟨hl, hc⟩ := Lib.lowest_bit 64 x h0 (by omega)
  have hd := Lib.deBruijn64_at (Lib.ctz 64 x) hc
  have e : IntKind.u64.wrap (-(x : Int)) = ((2 ^ 64 - x : Nat) : Int) := by
    rw [IntKind.wrap_u64]; omega
  have e2 := bits_and_u64_nat x (2 ^ 64 - x) hx (by omega)
  rw [e, e2, hl]
  refine ⟨2 ^ Lib.ctz 64 x * 285870213051353865 % 18446744073709551616 / 288230376151711744, hd.1, hd.2, ?_⟩
  rw [IntKind.wrap_u64]
  generalize 2 ^ Lib.ctz 64 x = y
  omega
theorem ctz_lt (x : Nat) (h0 : x ≠ 0) (hx : x < 18446744073709551616) : Lib.ctz 64 x < 64 :=
  (Lib.lowest_bit 64 x h0 (by omega)).2
end RelA
set_option maxHeartbeats 400000 in
theorem tz_any (x : Nat) (w : World) (h : Tab w) (h0 : x ≠ 0) (hx : x < 18446744073709551616) :
    Calls Tryd.prog 43 #[.int .u64 x] w fun e w' => e = .returned (.int .i64 (Lib.ctz 64 x)) ∧ w = w' := by
  obtain ⟨idx, hi, hg, he⟩ := tz_eq x h0 hx
  have hc := h idx hi
  rw [hg] at hc
  have hk := ctz_lt x h0 hx
  have hz : ((x : Int) == 0) = false := by simp; omega
  generalize Lib.ctz 64 x = k at *
  clear h h0 hg hx
  go_enter Tryd.func43, Tryd.ntmps43
  go_wp2
  go_ret
  exact ⟨rfl, rfl⟩
end Go.Proofs.YtepkjnpbdjmlbaaDoor
