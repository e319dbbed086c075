/-
  The law SheetNone by the evaluator: each of its cases ends in true, over the tables and the errors that lie in their variables. Conditions: none but those that the theorems print.
-/
import Derived.Test.YthfaoceleaaepaaGreatDoorSheetNoneB
namespace Go.Proofs.YthfaoceleaaepaaGreatDoor.sheetNoneq
open Go.Rn Go.RowKit YthfaoceleaaepaaGreatDoor.txt
set_option maxHeartbeats 400000000 in
theorem c6 : run 6 = .yes := by kernel_rfl
set_option maxHeartbeats 400000000 in
theorem c7 : run 7 = .yes := by kernel_rfl
end Go.Proofs.YthfaoceleaaepaaGreatDoor.sheetNoneq
