import Derived.Test.YtkfepcmgbmnceaaDoorWordsB
import Derived.Laws.ResultCell
import Derived.BigQuiet
namespace Go.Proofs.YtkfepcmgbmnceaaDoor
open Go.RowKit ExprA
namespace ExprA
theorem wrap_same {x : Int} (h : -9223372036854775808 ≤ x ∧ x ≤ 9223372036854775807) : wrap64 x = x := by unfold wrap64; omega
/-- an expression by a number -/
def GoodE (T : List (Int × Int)) : Prop := ∃ x b : Nat, x < 3 ∧ b < 3 ∧ (T = [(1, (b : Int))] ∨ T = [(2, (x : Int))] ∨ T = [(2, (x : Int)), (2, (x : Int)), (3, 4)] ∨ T = [(2, (x : Int)), (1, (b : Int)), (3, 5)] ∨ T = [(2, (x : Int)), (1, (b : Int)), (3, 6)] ∨ T = [(1, (b : Int)), (1, 1), (3, 3)])
/-- an expression that a call has made, in a new block -/
def MadeE (w w' : World) (v : Value) : Prop := ∃ (g : Nat) (T : List (Int × Int)), v = .slice (some ⟨g, 0, none⟩) T.length T.length ∧ GoodE T ∧ w.heap.size ≤ g ∧ w'.heap[g]? = some (.cells (icells T).toArray 37 (0, 0))
end ExprA
set_option maxRecDepth 100000 in
set_option maxHeartbeats 1600000 in
theorem opw_any (v : Int) (w : World) : Calls Tryd.prog 26 #[.int .i64 v] w fun e w' => e = .returned (.agg #[.int .i64 3, .int .i64 v]) ∧ Below w.heap.size w w' := by
  go_enter Tryd.func26, Tryd.ntmps26
  go_wp2_with fail
  refine bodyPost_ret (v := .agg #[.int .i64 3, .int .i64 v]) ?_ rfl ⟨rfl, (Below.refl _ _).alloc (Nat.le_refl _) _⟩
  exact results_cell_row rfl _ _ w.heap.size 37 #[.int .i64 3, .int .i64 v] (0, 0) _ rfl (heap_alloc_new _ _) Tryd.underlying37 rfl (by kernel_rfl)
set_option maxRecDepth 100000 in
set_option maxHeartbeats 1600000 in
theorem regw_any (v : Int) (w : World) : Calls Tryd.prog 25 #[.int .i64 v] w fun e w' => e = .returned (.agg #[.int .i64 2, .int .i64 v]) ∧ Below w.heap.size w w' := by
  go_enter Tryd.func25, Tryd.ntmps25
  go_wp2_with fail
  refine bodyPost_ret (v := .agg #[.int .i64 2, .int .i64 v]) ?_ rfl ⟨rfl, (Below.refl _ _).alloc (Nat.le_refl _) _⟩
  exact results_cell_row rfl _ _ w.heap.size 37 #[.int .i64 2, .int .i64 v] (0, 0) _ rfl (heap_alloc_new _ _) Tryd.underlying37 rfl (by kernel_rfl)
set_option maxRecDepth 100000 in
set_option maxHeartbeats 1600000 in
theorem numw_any (v : Int) (w : World) : Calls Tryd.prog 21 #[.int .i64 v] w fun e w' => e = .returned (.agg #[.int .i64 1, .int .i64 v]) ∧ Below w.heap.size w w' := by
  go_enter Tryd.func21, Tryd.ntmps21
  go_wp2_with fail
  refine bodyPost_ret (v := .agg #[.int .i64 1, .int .i64 v]) ?_ rfl ⟨rfl, (Below.refl _ _).alloc (Nat.le_refl _) _⟩
  exact results_cell_row rfl _ _ w.heap.size 37 #[.int .i64 1, .int .i64 v] (0, 0) _ rfl (heap_alloc_new _ _) Tryd.underlying37 rfl (by kernel_rfl)
end Go.Proofs.YtkfepcmgbmnceaaDoor
