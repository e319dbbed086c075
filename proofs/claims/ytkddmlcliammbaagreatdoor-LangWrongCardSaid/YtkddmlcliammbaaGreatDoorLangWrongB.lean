/-
  The law LangWrong at some of its cases: the run over the program ends in true. Conditions: none; these are closed facts.
-/
import Derived.Test.YtkddmlcliammbaaGreatDoorLangWrongA
namespace Go.Proofs.YtkddmlcliammbaaGreatDoor.langWrongq
open Go.Rn YtkddmlcliammbaaGreatDoor.txt
set_option maxHeartbeats 400000000 in
theorem c0_0 : run 0 0 = .yes := by kernel_rfl
set_option maxHeartbeats 400000000 in
theorem c0_4 : run 0 4 = .yes := by kernel_rfl
set_option maxHeartbeats 400000000 in
theorem c0_8 : run 0 8 = .yes := by kernel_rfl
set_option maxHeartbeats 400000000 in
theorem c0_12 : run 0 12 = .yes := by kernel_rfl
set_option maxHeartbeats 400000000 in
theorem c0_16 : run 0 16 = .yes := by kernel_rfl
set_option maxHeartbeats 400000000 in
theorem c1_0 : run 1 0 = .yes := by kernel_rfl
set_option maxHeartbeats 400000000 in
theorem c1_4 : run 1 4 = .yes := by kernel_rfl
set_option maxHeartbeats 400000000 in
theorem c1_8 : run 1 8 = .yes := by kernel_rfl
set_option maxHeartbeats 400000000 in
theorem c1_12 : run 1 12 = .yes := by kernel_rfl
set_option maxHeartbeats 400000000 in
theorem c1_16 : run 1 16 = .yes := by kernel_rfl
set_option maxHeartbeats 400000000 in
theorem c2_0 : run 2 0 = .yes := by kernel_rfl
set_option maxHeartbeats 400000000 in
theorem c2_4 : run 2 4 = .yes := by kernel_rfl
set_option maxHeartbeats 400000000 in
theorem c2_8 : run 2 8 = .yes := by kernel_rfl
set_option maxHeartbeats 400000000 in
theorem c2_12 : run 2 12 = .yes := by kernel_rfl
set_option maxHeartbeats 400000000 in
theorem c2_16 : run 2 16 = .yes := by kernel_rfl
set_option maxHeartbeats 400000000 in
theorem c3_0 : run 3 0 = .yes := by kernel_rfl
set_option maxHeartbeats 400000000 in
theorem c3_4 : run 3 4 = .yes := by kernel_rfl
set_option maxHeartbeats 400000000 in
theorem c3_8 : run 3 8 = .yes := by kernel_rfl
set_option maxHeartbeats 400000000 in
theorem c3_12 : run 3 12 = .yes := by kernel_rfl
set_option maxHeartbeats 400000000 in
theorem c3_16 : run 3 16 = .yes := by kernel_rfl
set_option maxHeartbeats 400000000 in
theorem c4_0 : run 4 0 = .yes := by kernel_rfl
set_option maxHeartbeats 400000000 in
theorem c4_4 : run 4 4 = .yes := by kernel_rfl
set_option maxHeartbeats 400000000 in
theorem c4_8 : run 4 8 = .yes := by kernel_rfl
set_option maxHeartbeats 400000000 in
theorem c4_12 : run 4 12 = .yes := by kernel_rfl
set_option maxHeartbeats 400000000 in
theorem c4_16 : run 4 16 = .yes := by kernel_rfl
set_option maxHeartbeats 400000000 in
theorem c5_0 : run 5 0 = .yes := by kernel_rfl
set_option maxHeartbeats 400000000 in
theorem c5_4 : run 5 4 = .yes := by kernel_rfl
set_option maxHeartbeats 400000000 in
theorem c5_8 : run 5 8 = .yes := by kernel_rfl
set_option maxHeartbeats 400000000 in
theorem c5_12 : run 5 12 = .yes := by kernel_rfl
set_option maxHeartbeats 400000000 in
theorem c5_16 : run 5 16 = .yes := by kernel_rfl
set_option maxHeartbeats 400000000 in
theorem c6_0 : run 6 0 = .yes := by kernel_rfl
set_option maxHeartbeats 400000000 in
theorem c6_4 : run 6 4 = .yes := by kernel_rfl
set_option maxHeartbeats 400000000 in
theorem c6_8 : run 6 8 = .yes := by kernel_rfl
set_option maxHeartbeats 400000000 in
theorem c6_12 : run 6 12 = .yes := by kernel_rfl
set_option maxHeartbeats 400000000 in
theorem c6_16 : run 6 16 = .yes := by kernel_rfl
set_option maxHeartbeats 400000000 in
theorem c7_0 : run 7 0 = .yes := by kernel_rfl
set_option maxHeartbeats 400000000 in
theorem c7_4 : run 7 4 = .yes := by kernel_rfl
set_option maxHeartbeats 400000000 in
theorem c7_8 : run 7 8 = .yes := by kernel_rfl
set_option maxHeartbeats 400000000 in
theorem c7_12 : run 7 12 = .yes := by kernel_rfl
set_option maxHeartbeats 400000000 in
theorem c7_16 : run 7 16 = .yes := by kernel_rfl
set_option maxHeartbeats 400000000 in
theorem c8_0 : run 8 0 = .yes := by kernel_rfl
set_option maxHeartbeats 400000000 in
theorem c8_4 : run 8 4 = .yes := by kernel_rfl
set_option maxHeartbeats 400000000 in
theorem c8_8 : run 8 8 = .yes := by kernel_rfl
set_option maxHeartbeats 400000000 in
theorem c8_12 : run 8 12 = .yes := by kernel_rfl
set_option maxHeartbeats 400000000 in
theorem c8_16 : run 8 16 = .yes := by kernel_rfl
set_option maxHeartbeats 400000000 in
theorem c9_0 : run 9 0 = .yes := by kernel_rfl
set_option maxHeartbeats 400000000 in
theorem c9_4 : run 9 4 = .yes := by kernel_rfl
set_option maxHeartbeats 400000000 in
theorem c9_8 : run 9 8 = .yes := by kernel_rfl
set_option maxHeartbeats 400000000 in
theorem c9_12 : run 9 12 = .yes := by kernel_rfl
set_option maxHeartbeats 400000000 in
theorem c9_16 : run 9 16 = .yes := by kernel_rfl
set_option maxHeartbeats 400000000 in
theorem c10_0 : run 10 0 = .yes := by kernel_rfl
set_option maxHeartbeats 400000000 in
theorem c10_4 : run 10 4 = .yes := by kernel_rfl
set_option maxHeartbeats 400000000 in
theorem c10_8 : run 10 8 = .yes := by kernel_rfl
set_option maxHeartbeats 400000000 in
theorem c10_12 : run 10 12 = .yes := by kernel_rfl
set_option maxHeartbeats 400000000 in
theorem c10_16 : run 10 16 = .yes := by kernel_rfl
set_option maxHeartbeats 400000000 in
theorem c11_0 : run 11 0 = .yes := by kernel_rfl
set_option maxHeartbeats 400000000 in
theorem c11_4 : run 11 4 = .yes := by kernel_rfl
set_option maxHeartbeats 400000000 in
theorem c11_8 : run 11 8 = .yes := by kernel_rfl
set_option maxHeartbeats 400000000 in
theorem c11_12 : run 11 12 = .yes := by kernel_rfl
set_option maxHeartbeats 400000000 in
theorem c11_16 : run 11 16 = .yes := by kernel_rfl
set_option maxHeartbeats 400000000 in
theorem c12_0 : run 12 0 = .yes := by kernel_rfl
set_option maxHeartbeats 400000000 in
theorem c12_4 : run 12 4 = .yes := by kernel_rfl
set_option maxHeartbeats 400000000 in
theorem c12_8 : run 12 8 = .yes := by kernel_rfl
set_option maxHeartbeats 400000000 in
theorem c12_12 : run 12 12 = .yes := by kernel_rfl
set_option maxHeartbeats 400000000 in
theorem c12_16 : run 12 16 = .yes := by kernel_rfl
set_option maxHeartbeats 400000000 in
theorem c13_0 : run 13 0 = .yes := by kernel_rfl
set_option maxHeartbeats 400000000 in
theorem c13_4 : run 13 4 = .yes := by kernel_rfl
set_option maxHeartbeats 400000000 in
theorem c13_8 : run 13 8 = .yes := by kernel_rfl
set_option maxHeartbeats 400000000 in
theorem c13_12 : run 13 12 = .yes := by kernel_rfl
set_option maxHeartbeats 400000000 in
theorem c13_16 : run 13 16 = .yes := by kernel_rfl
end Go.Proofs.YtkddmlcliammbaaGreatDoor.langWrongq
