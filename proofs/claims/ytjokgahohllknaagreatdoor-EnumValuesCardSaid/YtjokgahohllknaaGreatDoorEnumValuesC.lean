/-
  The law EnumValues at some of its cases: the run over the program ends in true. Conditions: none; these are closed facts.
-/
import Derived.Test.YtjokgahohllknaaGreatDoorEnumValuesA
namespace Go.Proofs.YtjokgahohllknaaGreatDoor.enumValuesq
open Go.Rn YtjokgahohllknaaGreatDoor.txt
theorem c0_1 : run 0 1 = .yes := by kernel_rfl
theorem c0_3 : run 0 3 = .yes := by kernel_rfl
theorem c1_0 : run 1 0 = .yes := by kernel_rfl
theorem c1_2 : run 1 2 = .yes := by kernel_rfl
theorem c1_4 : run 1 4 = .yes := by kernel_rfl
theorem c2_1 : run 2 1 = .yes := by kernel_rfl
theorem c2_3 : run 2 3 = .yes := by kernel_rfl
theorem c3_0 : run 3 0 = .yes := by kernel_rfl
theorem c3_2 : run 3 2 = .yes := by kernel_rfl
theorem c3_4 : run 3 4 = .yes := by kernel_rfl
end Go.Proofs.YtjokgahohllknaaGreatDoor.enumValuesq
