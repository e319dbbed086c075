import Derived.Test.YtepkjnpbdjmlbaaDoorRelG
import Derived.Deep.RegionHeld3
import Derived.Deep.DrawnRows
namespace Go.Proofs.YtepkjnpbdjmlbaaDoor
open Go.RowKit RelA
namespace RelA
def sameB (R S : Nat → Nat) : Bool := (List.range 40).all fun i => R i == S i
theorem sameB_iff (R S : Nat → Nat) : sameB R S = true ↔ ∀ i, i < 40 → R i = S i := by
  unfold sameB; simp
theorem rowsEq_of (R S : Nat → Nat) : rowsEq (rowsOf R) (rowsOf S) = sameB R S := by
  unfold rowsEq
  rw [Bool.eq_iff_iff, sameB_iff, List.all_eq_true]
  constructor
  · intro h i hi
    have := h i (List.mem_range.2 hi)
    rw [Array.getD_eq_getD_getElem?, rowsOf_get R i hi, Array.getD_eq_getD_getElem?, rowsOf_get S i hi] at this
    have h2 := eq_of_beq this
    exact Int.ofNat.inj h2
  · intro h i hi
    have hi := List.mem_range.1 hi
    rw [Array.getD_eq_getD_getElem?, rowsOf_get R i hi, Array.getD_eq_getD_getElem?, rowsOf_get S i hi, h i hi]
    simp
def inR (R S : Nat → Nat) : Bool := sameB (fun i => R i ||| S i) S
end RelA
section
attribute [local go_sem ↓] Go.wp_at_zero Go.wp_at_succ RelA.execOp_load_rows
attribute [local go_sem] RelA.run_loadRows RelA.run_equalIn_rows
set_option maxHeartbeats 800000 in
theorem in_any (b n c m : Nat) (R S : Nat → Nat) (w : World) (hb : At w b n R) (hc : At w c m S) (hR : ∀ i, R i < 2 ^ 40) (hS : ∀ i, S i < 2 ^ 40) :
    Calls Tryd.prog 25 #[.pointer (some ⟨b, 0, none⟩), .pointer (some ⟨c, 0, none⟩)] w fun e w' => e = .returned (.bool (inR R S)) ∧ Below w.heap.size w w' := by
  have H := Lib.hid (or_any b n c m R S w.drew hb hc hR hS)
  have hi1 : RelIs w.drew c := hc.is
  have hr1 : IsRows (rowsW w.drew c) := hc.isRows
  clear hR hS
  have HB := Lib.hid hb
  have HC := Lib.hid hc
  clear hb hc
  go_enter Tryd.func25, Tryd.ntmps25
  go_wp2_with fail
  go_region_with ((go_at_call 11; refine H.out.mono ?_; rintro e w1 ⟨rfl, hat, hbe⟩; have hi2 : RelIs w1 w.heap.size := hat.is; have hr2 : IsRows (rowsW w1 w.heap.size) := hat.isRows; have hi3 : RelIs w1 c := (HC.out.drew.below hbe HC.out.lt).is; have hr3 : IsRows (rowsW w1 c) := (HC.out.drew.below hbe HC.out.lt).isRows))
  all_goals go_wp2_with fail
  all_goals go_ret
  all_goals
    have e1 : rowsW w1 w.heap.size = rowsOf _ := hat.rows
    have e2 : rowsW w1 c = rowsOf S := (HC.out.drew.below hbe HC.out.lt).rows
    have e3 : rowsW w.drew c = rowsOf S := HC.out.drew.rows
  all_goals refine ⟨?_, ⟨hbe.os, hbe.tape, hbe.output, hbe.size, hbe.block⟩⟩
  all_goals
    unfold inR
    rw [← rowsEq_of]
    first
      | (rw [← e1, ← e2]; rfl)
      | (rw [← e1, ← e3]; rfl)
end
end Go.Proofs.YtepkjnpbdjmlbaaDoor
