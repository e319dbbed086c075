import Derived.Test.YtcmjmojbocmcgaaDoorA
import Derived.Laws.EntriesVeiled
import Derived.Deep.WholeRow
namespace Go.Proofs.YtcmjmojbocmcgaaDoor
open Go.RowKit ExprA
namespace ExprA
/-- the operations as they lie: sign, function -/
def opsA : Array Value := #[.string ⟨#[]⟩, .nilFunc, .string ⟨#[43]⟩, .func (.func 36) #[] #[], .string ⟨#[45]⟩, .func (.func 37) #[] #[], .string ⟨#[42]⟩, .func (.func 38) #[] #[], .string ⟨#[94]⟩, .func (.func 39) #[] #[], .string ⟨#[61]⟩, .func (.func 40) #[] #[], .string ⟨#[60]⟩, .func (.func 42) #[] #[]]
def truthZ (b : Bool) : Int := if b then 1 else 0
end ExprA
set_option maxHeartbeats 1600000 in
theorem ops_any (w : World) :
    Calls Tryd.prog 25 #[] w fun e w' => e = .returned (.agg opsA) ∧ Below w.heap.size w w' := by
  go_enter Tryd.func25, Tryd.ntmps25
  go_wp2_with fail
  refine bodyPost_ret (v := .agg opsA) ?_ rfl ⟨rfl, (Below.refl _ _).alloc (Nat.le_refl _) _⟩
  exact results_cell_row rfl _ _ w.heap.size 52 opsA (0, 0) _ rfl (heap_alloc_new _ _) Tryd.underlying52 rfl (by kernel_rfl)
theorem truth_any (w : World) (b : Bool) : Calls Tryd.prog 41 #[.bool b] w fun e w' => e = .returned (.int .i64 (truthZ b)) ∧ w = w' := by
  cases b
  all_goals
    go_enter Tryd.func41, Tryd.ntmps41
    go_wp2_with fail
    go_ret
    exact ⟨rfl, rfl⟩
theorem op1_any (w : World) (a b : Int) : Calls Tryd.prog 36 #[.int .i64 a, .int .i64 b] w fun e w' => e = .returned (.int .i64 (wrap64 (a + b))) ∧ w = w' := by
  go_enter Tryd.func36, Tryd.ntmps36
  go_wp2_with fail
  go_ret
  exact ⟨rfl, rfl⟩
theorem op2_any (w : World) (a b : Int) : Calls Tryd.prog 37 #[.int .i64 a, .int .i64 b] w fun e w' => e = .returned (.int .i64 (wrap64 (a - b))) ∧ w = w' := by
  go_enter Tryd.func37, Tryd.ntmps37
  go_wp2_with fail
  go_ret
  exact ⟨rfl, rfl⟩
theorem op3_any (w : World) (a b : Int) : Calls Tryd.prog 38 #[.int .i64 a, .int .i64 b] w fun e w' => e = .returned (.int .i64 (wrap64 (a * b))) ∧ w = w' := by
  go_enter Tryd.func38, Tryd.ntmps38
  go_wp2_with fail
  go_ret
  exact ⟨rfl, rfl⟩
theorem op4_any (w : World) (a b : Int) : Calls Tryd.prog 39 #[.int .i64 a, .int .i64 b] w fun e w' => e = .returned (.int .i64 (bits .xor .i64 a b)) ∧ w = w' := by
  go_enter Tryd.func39, Tryd.ntmps39
  go_wp2_with fail
  go_ret
  exact ⟨rfl, rfl⟩
theorem op5_any (w : World) (a b : Int) : Calls Tryd.prog 40 #[.int .i64 a, .int .i64 b] w fun e w' => e = .returned (.int .i64 (truthZ (decide (a = b)))) ∧ w = w' := by
  go_enter Tryd.func40, Tryd.ntmps40
  go_wp2_with fail
  refine (truth_any _ _).mono ?_
  rintro e w' ⟨rfl, rfl⟩
  go_wp2_with fail
  go_ret
  exact ⟨rfl, rfl⟩
theorem op6_any (w : World) (a b : Int) : Calls Tryd.prog 42 #[.int .i64 a, .int .i64 b] w fun e w' => e = .returned (.int .i64 (truthZ (decide (a < b)))) ∧ w = w' := by
  go_enter Tryd.func42, Tryd.ntmps42
  go_wp2_with fail
  refine (truth_any _ _).mono ?_
  rintro e w' ⟨rfl, rfl⟩
  go_wp2_with fail
  go_ret
  exact ⟨rfl, rfl⟩
end Go.Proofs.YtcmjmojbocmcgaaDoor
