import Derived.Test.YtepkjnpbdjmlbaaDoorRelI
namespace Go.Proofs.YtepkjnpbdjmlbaaDoor
open Go.RowKit RelA
namespace RelA
def loopsB (P : Nat → Nat) : Bool := (List.range 40).any fun i => (P i).testBit i
theorem loopsB_iff (P : Nat → Nat) : loopsB P = true ↔ ∃ i, i < 40 ∧ (P i).testBit i = true := by unfold loopsB; simp
end RelA
section
attribute [local go_sem ↓] Go.wp_at_zero Go.wp_at_succ RelA.execOp_load_rows
attribute [local go_sem] RelA.run_loadRows RelA.run_equalIn_rows
set_option maxHeartbeats 800000 in
theorem loops_gen (b n : Nat) (R P : Nat → Nat) (w : World) (hb : At w b n R) (hR : ∀ i, R i < 2 ^ 40) (htab : Tab w) (hPe : plusR R = P) :
    Calls Tryd.prog 27 #[.pointer (some ⟨b, 0, none⟩)] w fun e w' => e = .returned (.bool (loopsB P)) ∧ Below w.heap.size w w' := by
  have HC := Lib.hid (plus_any b n R w hb hR htab)
  have hP := Lib.hid (plusR_lt R)
  rw [hPe] at HC hP
  clear hR hb htab hPe
  go_enter Tryd.func27, Tryd.ntmps27
  go_wp2_with fail
  refine HC.out.mono ?_
  rintro e w1 ⟨c, rfl, hc, hat, hbe⟩
  have HAT := Lib.hid hat
  clear hat
  go_wp2_with ((with_reducible refine wpList_load_rows rfl _ rfl c n P rfl HAT.out ?_))
  go_loop [10] (fun i => ∃ k : Nat, k ≤ 40 ∧ i = .int .i64 k ∧ Hid (∀ j, j < k → (P j).testBit j = false)) (fun i => 40 - (intOf i).toNat)
  case atStart => exact ⟨0, Nat.zero_le _, rfl, fun j hj => absurd hj (by omega)⟩
  case round =>
    obtain ⟨k, hk, rfl, hno⟩ := hrel
    by_cases hlt : k < 40
    · have hix := run_index_rows P k hlt
      have hdk : decide ((k : Int) < 40) = true := by simp; omega
      have hb := bit_and (P k) k (lt64 (hP.out k))
      cases hbit : (P k).testBit k
      · rw [hbit] at hb
        have HBIT := Lib.hid hbit
        clear hbit
        go_wp2_with fail
        go_round
        case rel =>
          refine ⟨k + 1, by omega, by go_num, ?_⟩
          intro j hj
          by_cases e : j = k
          · subst e; exact HBIT.out
          · exact hno.out j (by omega)
        case measure => simp [intOf]; omega
      · rw [hbit] at hb
        have HBIT := Lib.hid hbit
        clear hbit
        have HF := Lib.hid ((loopsB_iff P).2 ⟨k, hlt, HBIT.out⟩)
        go_wp2_with fail
        go_ret
        exact ⟨by rw [HF.out]; rfl, hbe⟩
    · have hk40 : k = 40 := by omega
      have HF : Hid (loopsB P = false) := by
        show loopsB P = false
        rw [← Bool.not_eq_true, loopsB_iff]
        rintro ⟨i, hi, hbi⟩
        rw [hno.out i (by omega)] at hbi; cases hbi
      have hk2 : 40 ≤ k := by omega
      clear hk40
      go_wp2_with fail
      go_ret
      exact ⟨by rw [HF.out]; rfl, hbe⟩
end
theorem loops_any (b n : Nat) (R : Nat → Nat) (w : World) (hb : At w b n R) (hR : ∀ i, R i < 2 ^ 40) (htab : Tab w) :
    Calls Tryd.prog 27 #[.pointer (some ⟨b, 0, none⟩)] w fun e w' => e = .returned (.bool (loopsB (plusR R))) ∧ Below w.heap.size w w' :=
  loops_gen b n R _ w hb hR htab rfl
theorem RelA.and127 (z : Int) : ∃ k : Nat, k < 128 ∧ bits .and .i64 z 127 = (k : Int) := by
  refine ⟨(BitVec.ofInt 64 z).toNat &&& 127, ?_, ?_⟩
  · have : (BitVec.ofInt 64 z).toNat &&& 127 ≤ 127 := Nat.and_le_right
    omega
  · show IntKind.i64.wrap ((BitVec.ofInt 64 z &&& BitVec.ofInt 64 127).toNat : Int) = _
    have e : (BitVec.ofInt 64 127).toNat = 127 := by decide
    rw [BitVec.toNat_and, e, IntKind.wrap_i64]
    have : (BitVec.ofInt 64 z).toNat &&& 127 ≤ 127 := Nat.and_le_right
    omega
set_option maxHeartbeats 800000 in
theorem ones_any (x : Nat) (w : World) :
    Calls Tryd.prog 44 #[.int .u64 x] w fun e w' => (∃ k : Nat, k < 128 ∧ e = .returned (.int .i64 k)) ∧ w = w' := by
  go_enter Tryd.func44, Tryd.ntmps44
  go_wp2_with fail
  go_ret
  refine ⟨?_, rfl⟩
  show ∃ k : Nat, k < 128 ∧ Ending.returned (Value.int .i64 (bits .and .i64 _ 127)) = _
  obtain ⟨k, hk, he⟩ := and127 _
  exact ⟨k, hk, by rw [he]⟩
end Go.Proofs.YtepkjnpbdjmlbaaDoor
