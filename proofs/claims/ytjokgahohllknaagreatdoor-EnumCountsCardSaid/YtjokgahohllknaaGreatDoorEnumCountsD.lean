/-
  The law EnumCounts at some of its cases: the run over the program ends in true. Conditions: none; these are closed facts.
-/
import Derived.Test.YtjokgahohllknaaGreatDoorEnumCountsA
namespace Go.Proofs.YtjokgahohllknaaGreatDoor.enumCountsq
open Go.Rn YtjokgahohllknaaGreatDoor.txt
theorem c0_2 : run 0 2 = .yes := by kernel_rfl
theorem c1_2 : run 1 2 = .yes := by kernel_rfl
theorem c2_2 : run 2 2 = .yes := by kernel_rfl
theorem c3_2 : run 3 2 = .yes := by kernel_rfl
theorem c4_2 : run 4 2 = .yes := by kernel_rfl
end Go.Proofs.YtjokgahohllknaaGreatDoor.enumCountsq
