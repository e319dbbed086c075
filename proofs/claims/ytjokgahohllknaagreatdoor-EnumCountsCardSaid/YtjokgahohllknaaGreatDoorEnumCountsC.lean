/-
  The law EnumCounts at some of its cases: the run over the program ends in true. Conditions: none; these are closed facts.
-/
import Derived.Test.YtjokgahohllknaaGreatDoorEnumCountsA
namespace Go.Proofs.YtjokgahohllknaaGreatDoor.enumCountsq
open Go.Rn YtjokgahohllknaaGreatDoor.txt
theorem c0_1 : run 0 1 = .yes := by kernel_rfl
theorem c1_1 : run 1 1 = .yes := by kernel_rfl
theorem c2_1 : run 2 1 = .yes := by kernel_rfl
theorem c3_1 : run 3 1 = .yes := by kernel_rfl
theorem c4_1 : run 4 1 = .yes := by kernel_rfl
end Go.Proofs.YtjokgahohllknaaGreatDoor.enumCountsq
