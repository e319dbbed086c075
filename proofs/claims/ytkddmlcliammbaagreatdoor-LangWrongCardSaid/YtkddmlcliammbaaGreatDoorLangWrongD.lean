/-
  The law LangWrong at some of its cases: the run over the program ends in true. Conditions: none; these are closed facts.
-/
import Derived.Test.YtkddmlcliammbaaGreatDoorLangWrongA
namespace Go.Proofs.YtkddmlcliammbaaGreatDoor.langWrongq
open Go.Rn YtkddmlcliammbaaGreatDoor.txt
set_option maxHeartbeats 400000000 in
theorem c0_2 : run 0 2 = .yes := by kernel_rfl
set_option maxHeartbeats 400000000 in
theorem c0_6 : run 0 6 = .yes := by kernel_rfl
set_option maxHeartbeats 400000000 in
theorem c0_10 : run 0 10 = .yes := by kernel_rfl
set_option maxHeartbeats 400000000 in
theorem c0_14 : run 0 14 = .yes := by kernel_rfl
set_option maxHeartbeats 400000000 in
theorem c0_18 : run 0 18 = .yes := by kernel_rfl
set_option maxHeartbeats 400000000 in
theorem c1_2 : run 1 2 = .yes := by kernel_rfl
set_option maxHeartbeats 400000000 in
theorem c1_6 : run 1 6 = .yes := by kernel_rfl
set_option maxHeartbeats 400000000 in
theorem c1_10 : run 1 10 = .yes := by kernel_rfl
set_option maxHeartbeats 400000000 in
theorem c1_14 : run 1 14 = .yes := by kernel_rfl
set_option maxHeartbeats 400000000 in
theorem c1_18 : run 1 18 = .yes := by kernel_rfl
set_option maxHeartbeats 400000000 in
theorem c2_2 : run 2 2 = .yes := by kernel_rfl
set_option maxHeartbeats 400000000 in
theorem c2_6 : run 2 6 = .yes := by kernel_rfl
set_option maxHeartbeats 400000000 in
theorem c2_10 : run 2 10 = .yes := by kernel_rfl
set_option maxHeartbeats 400000000 in
theorem c2_14 : run 2 14 = .yes := by kernel_rfl
set_option maxHeartbeats 400000000 in
theorem c2_18 : run 2 18 = .yes := by kernel_rfl
set_option maxHeartbeats 400000000 in
theorem c3_2 : run 3 2 = .yes := by kernel_rfl
set_option maxHeartbeats 400000000 in
theorem c3_6 : run 3 6 = .yes := by kernel_rfl
set_option maxHeartbeats 400000000 in
theorem c3_10 : run 3 10 = .yes := by kernel_rfl
set_option maxHeartbeats 400000000 in
theorem c3_14 : run 3 14 = .yes := by kernel_rfl
set_option maxHeartbeats 400000000 in
theorem c3_18 : run 3 18 = .yes := by kernel_rfl
set_option maxHeartbeats 400000000 in
theorem c4_2 : run 4 2 = .yes := by kernel_rfl
set_option maxHeartbeats 400000000 in
theorem c4_6 : run 4 6 = .yes := by kernel_rfl
set_option maxHeartbeats 400000000 in
theorem c4_10 : run 4 10 = .yes := by kernel_rfl
set_option maxHeartbeats 400000000 in
theorem c4_14 : run 4 14 = .yes := by kernel_rfl
set_option maxHeartbeats 400000000 in
theorem c4_18 : run 4 18 = .yes := by kernel_rfl
set_option maxHeartbeats 400000000 in
theorem c5_2 : run 5 2 = .yes := by kernel_rfl
set_option maxHeartbeats 400000000 in
theorem c5_6 : run 5 6 = .yes := by kernel_rfl
set_option maxHeartbeats 400000000 in
theorem c5_10 : run 5 10 = .yes := by kernel_rfl
set_option maxHeartbeats 400000000 in
theorem c5_14 : run 5 14 = .yes := by kernel_rfl
set_option maxHeartbeats 400000000 in
theorem c5_18 : run 5 18 = .yes := by kernel_rfl
set_option maxHeartbeats 400000000 in
theorem c6_2 : run 6 2 = .yes := by kernel_rfl
set_option maxHeartbeats 400000000 in
theorem c6_6 : run 6 6 = .yes := by kernel_rfl
set_option maxHeartbeats 400000000 in
theorem c6_10 : run 6 10 = .yes := by kernel_rfl
set_option maxHeartbeats 400000000 in
theorem c6_14 : run 6 14 = .yes := by kernel_rfl
set_option maxHeartbeats 400000000 in
theorem c6_18 : run 6 18 = .yes := by kernel_rfl
set_option maxHeartbeats 400000000 in
theorem c7_2 : run 7 2 = .yes := by kernel_rfl
set_option maxHeartbeats 400000000 in
theorem c7_6 : run 7 6 = .yes := by kernel_rfl
set_option maxHeartbeats 400000000 in
theorem c7_10 : run 7 10 = .yes := by kernel_rfl
set_option maxHeartbeats 400000000 in
theorem c7_14 : run 7 14 = .yes := by kernel_rfl
set_option maxHeartbeats 400000000 in
theorem c7_18 : run 7 18 = .yes := by kernel_rfl
set_option maxHeartbeats 400000000 in
theorem c8_2 : run 8 2 = .yes := by kernel_rfl
set_option maxHeartbeats 400000000 in
theorem c8_6 : run 8 6 = .yes := by kernel_rfl
set_option maxHeartbeats 400000000 in
theorem c8_10 : run 8 10 = .yes := by kernel_rfl
set_option maxHeartbeats 400000000 in
theorem c8_14 : run 8 14 = .yes := by kernel_rfl
set_option maxHeartbeats 400000000 in
theorem c8_18 : run 8 18 = .yes := by kernel_rfl
set_option maxHeartbeats 400000000 in
theorem c9_2 : run 9 2 = .yes := by kernel_rfl
set_option maxHeartbeats 400000000 in
theorem c9_6 : run 9 6 = .yes := by kernel_rfl
set_option maxHeartbeats 400000000 in
theorem c9_10 : run 9 10 = .yes := by kernel_rfl
set_option maxHeartbeats 400000000 in
theorem c9_14 : run 9 14 = .yes := by kernel_rfl
set_option maxHeartbeats 400000000 in
theorem c9_18 : run 9 18 = .yes := by kernel_rfl
set_option maxHeartbeats 400000000 in
theorem c10_2 : run 10 2 = .yes := by kernel_rfl
set_option maxHeartbeats 400000000 in
theorem c10_6 : run 10 6 = .yes := by kernel_rfl
set_option maxHeartbeats 400000000 in
theorem c10_10 : run 10 10 = .yes := by kernel_rfl
set_option maxHeartbeats 400000000 in
theorem c10_14 : run 10 14 = .yes := by kernel_rfl
set_option maxHeartbeats 400000000 in
theorem c10_18 : run 10 18 = .yes := by kernel_rfl
set_option maxHeartbeats 400000000 in
theorem c11_2 : run 11 2 = .yes := by kernel_rfl
set_option maxHeartbeats 400000000 in
theorem c11_6 : run 11 6 = .yes := by kernel_rfl
set_option maxHeartbeats 400000000 in
theorem c11_10 : run 11 10 = .yes := by kernel_rfl
set_option maxHeartbeats 400000000 in
theorem c11_14 : run 11 14 = .yes := by kernel_rfl
set_option maxHeartbeats 400000000 in
theorem c11_18 : run 11 18 = .yes := by kernel_rfl
set_option maxHeartbeats 400000000 in
theorem c12_2 : run 12 2 = .yes := by kernel_rfl
set_option maxHeartbeats 400000000 in
theorem c12_6 : run 12 6 = .yes := by kernel_rfl
set_option maxHeartbeats 400000000 in
theorem c12_10 : run 12 10 = .yes := by kernel_rfl
set_option maxHeartbeats 400000000 in
theorem c12_14 : run 12 14 = .yes := by kernel_rfl
set_option maxHeartbeats 400000000 in
theorem c12_18 : run 12 18 = .yes := by kernel_rfl
set_option maxHeartbeats 400000000 in
theorem c13_2 : run 13 2 = .yes := by kernel_rfl
set_option maxHeartbeats 400000000 in
theorem c13_6 : run 13 6 = .yes := by kernel_rfl
set_option maxHeartbeats 400000000 in
theorem c13_10 : run 13 10 = .yes := by kernel_rfl
set_option maxHeartbeats 400000000 in
theorem c13_14 : run 13 14 = .yes := by kernel_rfl
set_option maxHeartbeats 400000000 in
theorem c13_18 : run 13 18 = .yes := by kernel_rfl
end Go.Proofs.YtkddmlcliammbaaGreatDoor.langWrongq
