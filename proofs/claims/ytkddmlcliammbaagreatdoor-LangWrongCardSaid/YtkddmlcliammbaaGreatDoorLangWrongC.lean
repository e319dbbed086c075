/-
  The law LangWrong at some of its cases: the run over the program ends in true. Conditions: none; these are closed facts.
-/
import Derived.Test.YtkddmlcliammbaaGreatDoorLangWrongA
namespace Go.Proofs.YtkddmlcliammbaaGreatDoor.langWrongq
open Go.Rn YtkddmlcliammbaaGreatDoor.txt
set_option maxHeartbeats 400000000 in
theorem c0_1 : run 0 1 = .yes := by kernel_rfl
set_option maxHeartbeats 400000000 in
theorem c0_5 : run 0 5 = .yes := by kernel_rfl
set_option maxHeartbeats 400000000 in
theorem c0_9 : run 0 9 = .yes := by kernel_rfl
set_option maxHeartbeats 400000000 in
theorem c0_13 : run 0 13 = .yes := by kernel_rfl
set_option maxHeartbeats 400000000 in
theorem c0_17 : run 0 17 = .yes := by kernel_rfl
set_option maxHeartbeats 400000000 in
theorem c1_1 : run 1 1 = .yes := by kernel_rfl
set_option maxHeartbeats 400000000 in
theorem c1_5 : run 1 5 = .yes := by kernel_rfl
set_option maxHeartbeats 400000000 in
theorem c1_9 : run 1 9 = .yes := by kernel_rfl
set_option maxHeartbeats 400000000 in
theorem c1_13 : run 1 13 = .yes := by kernel_rfl
set_option maxHeartbeats 400000000 in
theorem c1_17 : run 1 17 = .yes := by kernel_rfl
set_option maxHeartbeats 400000000 in
theorem c2_1 : run 2 1 = .yes := by kernel_rfl
set_option maxHeartbeats 400000000 in
theorem c2_5 : run 2 5 = .yes := by kernel_rfl
set_option maxHeartbeats 400000000 in
theorem c2_9 : run 2 9 = .yes := by kernel_rfl
set_option maxHeartbeats 400000000 in
theorem c2_13 : run 2 13 = .yes := by kernel_rfl
set_option maxHeartbeats 400000000 in
theorem c2_17 : run 2 17 = .yes := by kernel_rfl
set_option maxHeartbeats 400000000 in
theorem c3_1 : run 3 1 = .yes := by kernel_rfl
set_option maxHeartbeats 400000000 in
theorem c3_5 : run 3 5 = .yes := by kernel_rfl
set_option maxHeartbeats 400000000 in
theorem c3_9 : run 3 9 = .yes := by kernel_rfl
set_option maxHeartbeats 400000000 in
theorem c3_13 : run 3 13 = .yes := by kernel_rfl
set_option maxHeartbeats 400000000 in
theorem c3_17 : run 3 17 = .yes := by kernel_rfl
set_option maxHeartbeats 400000000 in
theorem c4_1 : run 4 1 = .yes := by kernel_rfl
set_option maxHeartbeats 400000000 in
theorem c4_5 : run 4 5 = .yes := by kernel_rfl
set_option maxHeartbeats 400000000 in
theorem c4_9 : run 4 9 = .yes := by kernel_rfl
set_option maxHeartbeats 400000000 in
theorem c4_13 : run 4 13 = .yes := by kernel_rfl
set_option maxHeartbeats 400000000 in
theorem c4_17 : run 4 17 = .yes := by kernel_rfl
set_option maxHeartbeats 400000000 in
theorem c5_1 : run 5 1 = .yes := by kernel_rfl
set_option maxHeartbeats 400000000 in
theorem c5_5 : run 5 5 = .yes := by kernel_rfl
set_option maxHeartbeats 400000000 in
theorem c5_9 : run 5 9 = .yes := by kernel_rfl
set_option maxHeartbeats 400000000 in
theorem c5_13 : run 5 13 = .yes := by kernel_rfl
set_option maxHeartbeats 400000000 in
theorem c5_17 : run 5 17 = .yes := by kernel_rfl
set_option maxHeartbeats 400000000 in
theorem c6_1 : run 6 1 = .yes := by kernel_rfl
set_option maxHeartbeats 400000000 in
theorem c6_5 : run 6 5 = .yes := by kernel_rfl
set_option maxHeartbeats 400000000 in
theorem c6_9 : run 6 9 = .yes := by kernel_rfl
set_option maxHeartbeats 400000000 in
theorem c6_13 : run 6 13 = .yes := by kernel_rfl
set_option maxHeartbeats 400000000 in
theorem c6_17 : run 6 17 = .yes := by kernel_rfl
set_option maxHeartbeats 400000000 in
theorem c7_1 : run 7 1 = .yes := by kernel_rfl
set_option maxHeartbeats 400000000 in
theorem c7_5 : run 7 5 = .yes := by kernel_rfl
set_option maxHeartbeats 400000000 in
theorem c7_9 : run 7 9 = .yes := by kernel_rfl
set_option maxHeartbeats 400000000 in
theorem c7_13 : run 7 13 = .yes := by kernel_rfl
set_option maxHeartbeats 400000000 in
theorem c7_17 : run 7 17 = .yes := by kernel_rfl
set_option maxHeartbeats 400000000 in
theorem c8_1 : run 8 1 = .yes := by kernel_rfl
set_option maxHeartbeats 400000000 in
theorem c8_5 : run 8 5 = .yes := by kernel_rfl
set_option maxHeartbeats 400000000 in
theorem c8_9 : run 8 9 = .yes := by kernel_rfl
set_option maxHeartbeats 400000000 in
theorem c8_13 : run 8 13 = .yes := by kernel_rfl
set_option maxHeartbeats 400000000 in
theorem c8_17 : run 8 17 = .yes := by kernel_rfl
set_option maxHeartbeats 400000000 in
theorem c9_1 : run 9 1 = .yes := by kernel_rfl
set_option maxHeartbeats 400000000 in
theorem c9_5 : run 9 5 = .yes := by kernel_rfl
set_option maxHeartbeats 400000000 in
theorem c9_9 : run 9 9 = .yes := by kernel_rfl
set_option maxHeartbeats 400000000 in
theorem c9_13 : run 9 13 = .yes := by kernel_rfl
set_option maxHeartbeats 400000000 in
theorem c9_17 : run 9 17 = .yes := by kernel_rfl
set_option maxHeartbeats 400000000 in
theorem c10_1 : run 10 1 = .yes := by kernel_rfl
set_option maxHeartbeats 400000000 in
theorem c10_5 : run 10 5 = .yes := by kernel_rfl
set_option maxHeartbeats 400000000 in
theorem c10_9 : run 10 9 = .yes := by kernel_rfl
set_option maxHeartbeats 400000000 in
theorem c10_13 : run 10 13 = .yes := by kernel_rfl
set_option maxHeartbeats 400000000 in
theorem c10_17 : run 10 17 = .yes := by kernel_rfl
set_option maxHeartbeats 400000000 in
theorem c11_1 : run 11 1 = .yes := by kernel_rfl
set_option maxHeartbeats 400000000 in
theorem c11_5 : run 11 5 = .yes := by kernel_rfl
set_option maxHeartbeats 400000000 in
theorem c11_9 : run 11 9 = .yes := by kernel_rfl
set_option maxHeartbeats 400000000 in
theorem c11_13 : run 11 13 = .yes := by kernel_rfl
set_option maxHeartbeats 400000000 in
theorem c11_17 : run 11 17 = .yes := by kernel_rfl
set_option maxHeartbeats 400000000 in
theorem c12_1 : run 12 1 = .yes := by kernel_rfl
set_option maxHeartbeats 400000000 in
theorem c12_5 : run 12 5 = .yes := by kernel_rfl
set_option maxHeartbeats 400000000 in
theorem c12_9 : run 12 9 = .yes := by kernel_rfl
set_option maxHeartbeats 400000000 in
theorem c12_13 : run 12 13 = .yes := by kernel_rfl
set_option maxHeartbeats 400000000 in
theorem c12_17 : run 12 17 = .yes := by kernel_rfl
set_option maxHeartbeats 400000000 in
theorem c13_1 : run 13 1 = .yes := by kernel_rfl
set_option maxHeartbeats 400000000 in
theorem c13_5 : run 13 5 = .yes := by kernel_rfl
set_option maxHeartbeats 400000000 in
theorem c13_9 : run 13 9 = .yes := by kernel_rfl
set_option maxHeartbeats 400000000 in
theorem c13_13 : run 13 13 = .yes := by kernel_rfl
set_option maxHeartbeats 400000000 in
theorem c13_17 : run 13 17 = .yes := by kernel_rfl
end Go.Proofs.YtkddmlcliammbaaGreatDoor.langWrongq
