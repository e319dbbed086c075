/-
  The law GenCounts at some of its cases: the run over the program ends in true. Conditions: none; these are closed facts.
-/
import Derived.Test.YtendogjdmabknaaGreatDoorGenCountsA
namespace Go.Proofs.YtendogjdmabknaaGreatDoor.genCountsq
open Go.Rn YtendogjdmabknaaGreatDoor.txt
theorem c0_2_0 : run 0 2 0 = .yes := by kernel_rfl
theorem c0_6_0 : run 0 6 0 = .yes := by kernel_rfl
theorem c1_0_1 : run 1 0 1 = .yes := by kernel_rfl
theorem c1_2_1 : run 1 2 1 = .yes := by kernel_rfl
theorem c1_4_1 : run 1 4 1 = .yes := by kernel_rfl
theorem c1_6_1 : run 1 6 1 = .yes := by kernel_rfl
theorem c1_8_1 : run 1 8 1 = .yes := by kernel_rfl
theorem c2_1_0 : run 2 1 0 = .yes := by kernel_rfl
theorem c2_2_1 : run 2 2 1 = .yes := by kernel_rfl
theorem c2_3_2 : run 2 3 2 = .yes := by kernel_rfl
theorem c2_5_0 : run 2 5 0 = .yes := by kernel_rfl
theorem c2_6_1 : run 2 6 1 = .yes := by kernel_rfl
theorem c2_7_2 : run 2 7 2 = .yes := by kernel_rfl
theorem c3_0_0 : run 3 0 0 = .yes := by kernel_rfl
theorem c3_1_0 : run 3 1 0 = .yes := by kernel_rfl
theorem c3_2_0 : run 3 2 0 = .yes := by kernel_rfl
theorem c3_3_0 : run 3 3 0 = .yes := by kernel_rfl
theorem c3_4_0 : run 3 4 0 = .yes := by kernel_rfl
theorem c3_5_0 : run 3 5 0 = .yes := by kernel_rfl
theorem c3_6_0 : run 3 6 0 = .yes := by kernel_rfl
theorem c3_7_0 : run 3 7 0 = .yes := by kernel_rfl
theorem c3_8_0 : run 3 8 0 = .yes := by kernel_rfl
end Go.Proofs.YtendogjdmabknaaGreatDoor.genCountsq
