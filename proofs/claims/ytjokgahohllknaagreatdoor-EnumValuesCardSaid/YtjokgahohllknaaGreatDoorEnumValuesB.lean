/-
  The law EnumValues at some of its cases: the run over the program ends in true. Conditions: none; these are closed facts.
-/
import Derived.Test.YtjokgahohllknaaGreatDoorEnumValuesA
namespace Go.Proofs.YtjokgahohllknaaGreatDoor.enumValuesq
open Go.Rn YtjokgahohllknaaGreatDoor.txt
theorem c0_0 : run 0 0 = .yes := by kernel_rfl
theorem c0_2 : run 0 2 = .yes := by kernel_rfl
theorem c0_4 : run 0 4 = .yes := by kernel_rfl
theorem c1_1 : run 1 1 = .yes := by kernel_rfl
theorem c1_3 : run 1 3 = .yes := by kernel_rfl
theorem c2_0 : run 2 0 = .yes := by kernel_rfl
theorem c2_2 : run 2 2 = .yes := by kernel_rfl
theorem c2_4 : run 2 4 = .yes := by kernel_rfl
theorem c3_1 : run 3 1 = .yes := by kernel_rfl
theorem c3_3 : run 3 3 = .yes := by kernel_rfl
end Go.Proofs.YtjokgahohllknaaGreatDoor.enumValuesq
