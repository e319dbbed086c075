import Derived.Test.YtepkjnpbdjmlbaaDoorRows
import Derived.WalkKit
import Derived.WalkSpells
import Derived.WalkLawsBesides
import Derived.Lib.Hide
import Derived.Lib.TrailingZeros
import Derived.Laws.Rows
import Derived.Deep.QuietTactic
import Derived.BigQuiet
namespace Go.Proofs.YtepkjnpbdjmlbaaDoor
open Go.RowKit

namespace RelA
/-- the cells of a relation's object -/
def cells (n : Nat) (R : Nat → Nat) : Array Value := (Value.int .i64 n :: (List.range 40).map fun i => Value.int .u64 (R i)).toArray
/-- a relation's object stands at block b -/
def At (w : World) (b n : Nat) (R : Nat → Nat) : Prop := w.heap[b]? = some (.cells (cells n R) 52 (0, 0))
theorem At.c0 {w b n R} (h : At w b n R) : w.cell? ⟨b, 0, none⟩ = some (.int .i64 n) := by
  rw [cell_of_row w b 0 _ _ _ h]; rfl
theorem cells_get (n : Nat) (R : Nat → Nat) (i : Nat) (hi : i < 40) : (cells n R)[1 + i]? = some (.int .u64 (R i)) := by
  unfold cells; rw [Nat.add_comm]; simp [hi]
theorem At.ci {w b n R} (h : At w b n R) (i : Nat) (hi : i < 40) : w.cell? ⟨b, 1 + i, none⟩ = some (.int .u64 (R i)) := by
  rw [cell_of_row w b _ _ _ _ h]; exact cells_get n R i hi
end RelA
open RelA

set_option maxHeartbeats 400000 in
theorem there_any (b n : Nat) (a : Int) (w : World) (h : w.cell? ⟨b, 0, none⟩ = some (.int .i64 n)) :
    Calls Tryd.prog 36 #[.pointer (some ⟨b, 0, none⟩), .int .i64 a] w fun e w' => e = .returned (.bool (decide (0 ≤ a ∧ a < n))) ∧ w = w' := by
  by_cases h0 : 0 ≤ a
  · go_enter Tryd.func36, Tryd.ntmps36
    go_wp2
    go_ret
    exact ⟨by simp [h0], rfl⟩
  · go_enter Tryd.func36, Tryd.ntmps36
    go_wp2
    go_ret
    exact ⟨by simp; omega, rfl⟩

set_option maxHeartbeats 400000 in
theorem len_any (b n : Nat) (w : World) (h : w.cell? ⟨b, 0, none⟩ = some (.int .i64 n)) :
    Calls Tryd.prog 35 #[.pointer (some ⟨b, 0, none⟩)] w fun e w' => e = .returned (.int .i64 n) ∧ w = w' := by
  go_enter Tryd.func35, Tryd.ntmps35
  go_wp2
  go_ret
  exact ⟨rfl, rfl⟩
end Go.Proofs.YtepkjnpbdjmlbaaDoor
