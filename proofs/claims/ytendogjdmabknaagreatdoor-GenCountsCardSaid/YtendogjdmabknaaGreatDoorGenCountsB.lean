/-
  The law GenCounts at some of its cases: the run over the program ends in true. Conditions: none; these are closed facts.
-/
import Derived.Test.YtendogjdmabknaaGreatDoorGenCountsA
namespace Go.Proofs.YtendogjdmabknaaGreatDoor.genCountsq
open Go.Rn YtendogjdmabknaaGreatDoor.txt
theorem c0_0_0 : run 0 0 0 = .yes := by kernel_rfl
theorem c0_4_0 : run 0 4 0 = .yes := by kernel_rfl
theorem c0_8_0 : run 0 8 0 = .yes := by kernel_rfl
theorem c1_1_1 : run 1 1 1 = .yes := by kernel_rfl
theorem c1_3_1 : run 1 3 1 = .yes := by kernel_rfl
theorem c1_5_1 : run 1 5 1 = .yes := by kernel_rfl
theorem c1_7_1 : run 1 7 1 = .yes := by kernel_rfl
theorem c2_0_1 : run 2 0 1 = .yes := by kernel_rfl
theorem c2_1_2 : run 2 1 2 = .yes := by kernel_rfl
theorem c2_3_0 : run 2 3 0 = .yes := by kernel_rfl
theorem c2_4_1 : run 2 4 1 = .yes := by kernel_rfl
theorem c2_5_2 : run 2 5 2 = .yes := by kernel_rfl
theorem c2_7_0 : run 2 7 0 = .yes := by kernel_rfl
theorem c2_8_1 : run 2 8 1 = .yes := by kernel_rfl
theorem c3_0_2 : run 3 0 2 = .yes := by kernel_rfl
theorem c3_1_2 : run 3 1 2 = .yes := by kernel_rfl
theorem c3_2_2 : run 3 2 2 = .yes := by kernel_rfl
theorem c3_3_2 : run 3 3 2 = .yes := by kernel_rfl
theorem c3_4_2 : run 3 4 2 = .yes := by kernel_rfl
theorem c3_5_2 : run 3 5 2 = .yes := by kernel_rfl
theorem c3_6_2 : run 3 6 2 = .yes := by kernel_rfl
theorem c3_7_2 : run 3 7 2 = .yes := by kernel_rfl
theorem c3_8_2 : run 3 8 2 = .yes := by kernel_rfl
end Go.Proofs.YtendogjdmabknaaGreatDoor.genCountsq
