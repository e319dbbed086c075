/-
  The law GenCounts at some of its cases: the run over the program ends in true. Conditions: none; these are closed facts.
-/
import Derived.Test.YtendogjdmabknaaGreatDoorGenCountsA
namespace Go.Proofs.YtendogjdmabknaaGreatDoor.genCountsq
open Go.Rn YtendogjdmabknaaGreatDoor.txt
theorem c0_3_0 : run 0 3 0 = .yes := by kernel_rfl
theorem c0_7_0 : run 0 7 0 = .yes := by kernel_rfl
theorem c1_1_0 : run 1 1 0 = .yes := by kernel_rfl
theorem c1_3_0 : run 1 3 0 = .yes := by kernel_rfl
theorem c1_5_0 : run 1 5 0 = .yes := by kernel_rfl
theorem c1_7_0 : run 1 7 0 = .yes := by kernel_rfl
theorem c2_0_0 : run 2 0 0 = .yes := by kernel_rfl
theorem c2_1_1 : run 2 1 1 = .yes := by kernel_rfl
theorem c2_2_2 : run 2 2 2 = .yes := by kernel_rfl
theorem c2_4_0 : run 2 4 0 = .yes := by kernel_rfl
theorem c2_5_1 : run 2 5 1 = .yes := by kernel_rfl
theorem c2_6_2 : run 2 6 2 = .yes := by kernel_rfl
theorem c2_8_0 : run 2 8 0 = .yes := by kernel_rfl
theorem c3_0_1 : run 3 0 1 = .yes := by kernel_rfl
theorem c3_1_1 : run 3 1 1 = .yes := by kernel_rfl
theorem c3_2_1 : run 3 2 1 = .yes := by kernel_rfl
theorem c3_3_1 : run 3 3 1 = .yes := by kernel_rfl
theorem c3_4_1 : run 3 4 1 = .yes := by kernel_rfl
theorem c3_5_1 : run 3 5 1 = .yes := by kernel_rfl
theorem c3_6_1 : run 3 6 1 = .yes := by kernel_rfl
theorem c3_7_1 : run 3 7 1 = .yes := by kernel_rfl
theorem c3_8_1 : run 3 8 1 = .yes := by kernel_rfl
end Go.Proofs.YtendogjdmabknaaGreatDoor.genCountsq
