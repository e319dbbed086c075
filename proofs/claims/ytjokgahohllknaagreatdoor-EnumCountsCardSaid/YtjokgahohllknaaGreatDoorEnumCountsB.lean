/-
  The law EnumCounts at some of its cases: the run over the program ends in true. Conditions: none; these are closed facts.
-/
import Derived.Test.YtjokgahohllknaaGreatDoorEnumCountsA
namespace Go.Proofs.YtjokgahohllknaaGreatDoor.enumCountsq
open Go.Rn YtjokgahohllknaaGreatDoor.txt
theorem c0_0 : run 0 0 = .yes := by kernel_rfl
theorem c1_0 : run 1 0 = .yes := by kernel_rfl
theorem c2_0 : run 2 0 = .yes := by kernel_rfl
theorem c3_0 : run 3 0 = .yes := by kernel_rfl
theorem c4_0 : run 4 0 = .yes := by kernel_rfl
end Go.Proofs.YtjokgahohllknaaGreatDoor.enumCountsq
