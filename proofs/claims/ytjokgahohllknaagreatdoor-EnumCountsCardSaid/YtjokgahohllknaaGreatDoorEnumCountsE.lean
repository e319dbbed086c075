/-
  The law EnumCounts at some of its cases: the run over the program ends in true. Conditions: none; these are closed facts.
-/
import Derived.Test.YtjokgahohllknaaGreatDoorEnumCountsA
namespace Go.Proofs.YtjokgahohllknaaGreatDoor.enumCountsq
open Go.Rn YtjokgahohllknaaGreatDoor.txt
theorem c0_3 : run 0 3 = .yes := by kernel_rfl
theorem c1_3 : run 1 3 = .yes := by kernel_rfl
theorem c2_3 : run 2 3 = .yes := by kernel_rfl
theorem c3_3 : run 3 3 = .yes := by kernel_rfl
set_option maxHeartbeats 40000000 in
theorem c4_3 : run 4 3 = .yes := by kernel_rfl
end Go.Proofs.YtjokgahohllknaaGreatDoor.enumCountsq
