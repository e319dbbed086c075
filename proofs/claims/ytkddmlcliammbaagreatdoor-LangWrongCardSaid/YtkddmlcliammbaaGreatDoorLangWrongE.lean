/-
  The law LangWrong at some of its cases: the run over the program ends in true. Conditions: none; these are closed facts.
-/
import Derived.Test.YtkddmlcliammbaaGreatDoorLangWrongA
namespace Go.Proofs.YtkddmlcliammbaaGreatDoor.langWrongq
open Go.Rn YtkddmlcliammbaaGreatDoor.txt
set_option maxHeartbeats 400000000 in
theorem c0_3 : run 0 3 = .yes := by kernel_rfl
set_option maxHeartbeats 400000000 in
theorem c0_7 : run 0 7 = .yes := by kernel_rfl
set_option maxHeartbeats 400000000 in
theorem c0_11 : run 0 11 = .yes := by kernel_rfl
set_option maxHeartbeats 400000000 in
theorem c0_15 : run 0 15 = .yes := by kernel_rfl
set_option maxHeartbeats 400000000 in
theorem c0_19 : run 0 19 = .yes := by kernel_rfl
set_option maxHeartbeats 400000000 in
theorem c1_3 : run 1 3 = .yes := by kernel_rfl
set_option maxHeartbeats 400000000 in
theorem c1_7 : run 1 7 = .yes := by kernel_rfl
set_option maxHeartbeats 400000000 in
theorem c1_11 : run 1 11 = .yes := by kernel_rfl
set_option maxHeartbeats 400000000 in
theorem c1_15 : run 1 15 = .yes := by kernel_rfl
set_option maxHeartbeats 400000000 in
theorem c1_19 : run 1 19 = .yes := by kernel_rfl
set_option maxHeartbeats 400000000 in
theorem c2_3 : run 2 3 = .yes := by kernel_rfl
set_option maxHeartbeats 400000000 in
theorem c2_7 : run 2 7 = .yes := by kernel_rfl
set_option maxHeartbeats 400000000 in
theorem c2_11 : run 2 11 = .yes := by kernel_rfl
set_option maxHeartbeats 400000000 in
theorem c2_15 : run 2 15 = .yes := by kernel_rfl
set_option maxHeartbeats 400000000 in
theorem c2_19 : run 2 19 = .yes := by kernel_rfl
set_option maxHeartbeats 400000000 in
theorem c3_3 : run 3 3 = .yes := by kernel_rfl
set_option maxHeartbeats 400000000 in
theorem c3_7 : run 3 7 = .yes := by kernel_rfl
set_option maxHeartbeats 400000000 in
theorem c3_11 : run 3 11 = .yes := by kernel_rfl
set_option maxHeartbeats 400000000 in
theorem c3_15 : run 3 15 = .yes := by kernel_rfl
set_option maxHeartbeats 400000000 in
theorem c3_19 : run 3 19 = .yes := by kernel_rfl
set_option maxHeartbeats 400000000 in
theorem c4_3 : run 4 3 = .yes := by kernel_rfl
set_option maxHeartbeats 400000000 in
theorem c4_7 : run 4 7 = .yes := by kernel_rfl
set_option maxHeartbeats 400000000 in
theorem c4_11 : run 4 11 = .yes := by kernel_rfl
set_option maxHeartbeats 400000000 in
theorem c4_15 : run 4 15 = .yes := by kernel_rfl
set_option maxHeartbeats 400000000 in
theorem c4_19 : run 4 19 = .yes := by kernel_rfl
set_option maxHeartbeats 400000000 in
theorem c5_3 : run 5 3 = .yes := by kernel_rfl
set_option maxHeartbeats 400000000 in
theorem c5_7 : run 5 7 = .yes := by kernel_rfl
set_option maxHeartbeats 400000000 in
theorem c5_11 : run 5 11 = .yes := by kernel_rfl
set_option maxHeartbeats 400000000 in
theorem c5_15 : run 5 15 = .yes := by kernel_rfl
set_option maxHeartbeats 400000000 in
theorem c5_19 : run 5 19 = .yes := by kernel_rfl
set_option maxHeartbeats 400000000 in
theorem c6_3 : run 6 3 = .yes := by kernel_rfl
set_option maxHeartbeats 400000000 in
theorem c6_7 : run 6 7 = .yes := by kernel_rfl
set_option maxHeartbeats 400000000 in
theorem c6_11 : run 6 11 = .yes := by kernel_rfl
set_option maxHeartbeats 400000000 in
theorem c6_15 : run 6 15 = .yes := by kernel_rfl
set_option maxHeartbeats 400000000 in
theorem c6_19 : run 6 19 = .yes := by kernel_rfl
set_option maxHeartbeats 400000000 in
theorem c7_3 : run 7 3 = .yes := by kernel_rfl
set_option maxHeartbeats 400000000 in
theorem c7_7 : run 7 7 = .yes := by kernel_rfl
set_option maxHeartbeats 400000000 in
theorem c7_11 : run 7 11 = .yes := by kernel_rfl
set_option maxHeartbeats 400000000 in
theorem c7_15 : run 7 15 = .yes := by kernel_rfl
set_option maxHeartbeats 400000000 in
theorem c7_19 : run 7 19 = .yes := by kernel_rfl
set_option maxHeartbeats 400000000 in
theorem c8_3 : run 8 3 = .yes := by kernel_rfl
set_option maxHeartbeats 400000000 in
theorem c8_7 : run 8 7 = .yes := by kernel_rfl
set_option maxHeartbeats 400000000 in
theorem c8_11 : run 8 11 = .yes := by kernel_rfl
set_option maxHeartbeats 400000000 in
theorem c8_15 : run 8 15 = .yes := by kernel_rfl
set_option maxHeartbeats 400000000 in
theorem c8_19 : run 8 19 = .yes := by kernel_rfl
set_option maxHeartbeats 400000000 in
theorem c9_3 : run 9 3 = .yes := by kernel_rfl
set_option maxHeartbeats 400000000 in
theorem c9_7 : run 9 7 = .yes := by kernel_rfl
set_option maxHeartbeats 400000000 in
theorem c9_11 : run 9 11 = .yes := by kernel_rfl
set_option maxHeartbeats 400000000 in
theorem c9_15 : run 9 15 = .yes := by kernel_rfl
set_option maxHeartbeats 400000000 in
theorem c9_19 : run 9 19 = .yes := by kernel_rfl
set_option maxHeartbeats 400000000 in
theorem c10_3 : run 10 3 = .yes := by kernel_rfl
set_option maxHeartbeats 400000000 in
theorem c10_7 : run 10 7 = .yes := by kernel_rfl
set_option maxHeartbeats 400000000 in
theorem c10_11 : run 10 11 = .yes := by kernel_rfl
set_option maxHeartbeats 400000000 in
theorem c10_15 : run 10 15 = .yes := by kernel_rfl
set_option maxHeartbeats 400000000 in
theorem c10_19 : run 10 19 = .yes := by kernel_rfl
set_option maxHeartbeats 400000000 in
theorem c11_3 : run 11 3 = .yes := by kernel_rfl
set_option maxHeartbeats 400000000 in
theorem c11_7 : run 11 7 = .yes := by kernel_rfl
set_option maxHeartbeats 400000000 in
theorem c11_11 : run 11 11 = .yes := by kernel_rfl
set_option maxHeartbeats 400000000 in
theorem c11_15 : run 11 15 = .yes := by kernel_rfl
set_option maxHeartbeats 400000000 in
theorem c11_19 : run 11 19 = .yes := by kernel_rfl
set_option maxHeartbeats 400000000 in
theorem c12_3 : run 12 3 = .yes := by kernel_rfl
set_option maxHeartbeats 400000000 in
theorem c12_7 : run 12 7 = .yes := by kernel_rfl
set_option maxHeartbeats 400000000 in
theorem c12_11 : run 12 11 = .yes := by kernel_rfl
set_option maxHeartbeats 400000000 in
theorem c12_15 : run 12 15 = .yes := by kernel_rfl
set_option maxHeartbeats 400000000 in
theorem c12_19 : run 12 19 = .yes := by kernel_rfl
set_option maxHeartbeats 400000000 in
theorem c13_3 : run 13 3 = .yes := by kernel_rfl
set_option maxHeartbeats 400000000 in
theorem c13_7 : run 13 7 = .yes := by kernel_rfl
set_option maxHeartbeats 400000000 in
theorem c13_11 : run 13 11 = .yes := by kernel_rfl
set_option maxHeartbeats 400000000 in
theorem c13_15 : run 13 15 = .yes := by kernel_rfl
set_option maxHeartbeats 400000000 in
theorem c13_19 : run 13 19 = .yes := by kernel_rfl
end Go.Proofs.YtkddmlcliammbaaGreatDoor.langWrongq
