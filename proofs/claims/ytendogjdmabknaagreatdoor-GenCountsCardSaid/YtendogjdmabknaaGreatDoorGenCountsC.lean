/-
  The law GenCounts at some of its cases: the run over the program ends in true. Conditions: none; these are closed facts.
-/
import Derived.Test.YtendogjdmabknaaGreatDoorGenCountsA
namespace Go.Proofs.YtendogjdmabknaaGreatDoor.genCountsq
open Go.Rn YtendogjdmabknaaGreatDoor.txt
theorem c0_1_0 : run 0 1 0 = .yes := by kernel_rfl
theorem c0_5_0 : run 0 5 0 = .yes := by kernel_rfl
theorem c1_0_0 : run 1 0 0 = .yes := by kernel_rfl
theorem c1_2_0 : run 1 2 0 = .yes := by kernel_rfl
theorem c1_4_0 : run 1 4 0 = .yes := by kernel_rfl
theorem c1_6_0 : run 1 6 0 = .yes := by kernel_rfl
theorem c1_8_0 : run 1 8 0 = .yes := by kernel_rfl
theorem c2_0_2 : run 2 0 2 = .yes := by kernel_rfl
theorem c2_2_0 : run 2 2 0 = .yes := by kernel_rfl
theorem c2_3_1 : run 2 3 1 = .yes := by kernel_rfl
theorem c2_4_2 : run 2 4 2 = .yes := by kernel_rfl
theorem c2_6_0 : run 2 6 0 = .yes := by kernel_rfl
theorem c2_7_1 : run 2 7 1 = .yes := by kernel_rfl
theorem c2_8_2 : run 2 8 2 = .yes := by kernel_rfl
theorem c3_0_3 : run 3 0 3 = .yes := by kernel_rfl
theorem c3_1_3 : run 3 1 3 = .yes := by kernel_rfl
theorem c3_2_3 : run 3 2 3 = .yes := by kernel_rfl
theorem c3_3_3 : run 3 3 3 = .yes := by kernel_rfl
theorem c3_4_3 : run 3 4 3 = .yes := by kernel_rfl
theorem c3_5_3 : run 3 5 3 = .yes := by kernel_rfl
theorem c3_6_3 : run 3 6 3 = .yes := by kernel_rfl
theorem c3_7_3 : run 3 7 3 = .yes := by kernel_rfl
theorem c3_8_3 : run 3 8 3 = .yes := by kernel_rfl
end Go.Proofs.YtendogjdmabknaaGreatDoor.genCountsq
