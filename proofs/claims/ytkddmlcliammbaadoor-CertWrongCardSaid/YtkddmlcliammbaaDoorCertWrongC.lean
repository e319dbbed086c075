/-
  The law CertWrong at some of its cases: the run over the program ends in true. Conditions: none; these are closed facts.
-/
import Derived.Test.YtkddmlcliammbaaDoorCertWrongA
namespace Go.Proofs.YtkddmlcliammbaaDoor.certWrongq
open Go.Rn YtkddmlcliammbaaDoor.txt
set_option maxHeartbeats 400000000 in
theorem c0_1 : run 0 1 = .yes := by kernel_rfl
set_option maxHeartbeats 400000000 in
theorem c0_5 : run 0 5 = .yes := by kernel_rfl
set_option maxHeartbeats 400000000 in
theorem c0_9 : run 0 9 = .yes := by kernel_rfl
set_option maxHeartbeats 400000000 in
theorem c0_13 : run 0 13 = .yes := by kernel_rfl
set_option maxHeartbeats 400000000 in
theorem c1_2 : run 1 2 = .yes := by kernel_rfl
set_option maxHeartbeats 400000000 in
theorem c1_6 : run 1 6 = .yes := by kernel_rfl
set_option maxHeartbeats 400000000 in
theorem c1_10 : run 1 10 = .yes := by kernel_rfl
set_option maxHeartbeats 400000000 in
theorem c1_14 : run 1 14 = .yes := by kernel_rfl
set_option maxHeartbeats 400000000 in
theorem c2_3 : run 2 3 = .yes := by kernel_rfl
set_option maxHeartbeats 400000000 in
theorem c2_7 : run 2 7 = .yes := by kernel_rfl
set_option maxHeartbeats 400000000 in
theorem c2_11 : run 2 11 = .yes := by kernel_rfl
set_option maxHeartbeats 400000000 in
theorem c3_0 : run 3 0 = .yes := by kernel_rfl
set_option maxHeartbeats 400000000 in
theorem c3_4 : run 3 4 = .yes := by kernel_rfl
set_option maxHeartbeats 400000000 in
theorem c3_8 : run 3 8 = .yes := by kernel_rfl
set_option maxHeartbeats 400000000 in
theorem c3_12 : run 3 12 = .yes := by kernel_rfl
set_option maxHeartbeats 400000000 in
theorem c4_1 : run 4 1 = .yes := by kernel_rfl
set_option maxHeartbeats 400000000 in
theorem c4_5 : run 4 5 = .yes := by kernel_rfl
set_option maxHeartbeats 400000000 in
theorem c4_9 : run 4 9 = .yes := by kernel_rfl
set_option maxHeartbeats 400000000 in
theorem c4_13 : run 4 13 = .yes := by kernel_rfl
set_option maxHeartbeats 400000000 in
theorem c5_2 : run 5 2 = .yes := by kernel_rfl
set_option maxHeartbeats 400000000 in
theorem c5_6 : run 5 6 = .yes := by kernel_rfl
set_option maxHeartbeats 400000000 in
theorem c5_10 : run 5 10 = .yes := by kernel_rfl
set_option maxHeartbeats 400000000 in
theorem c5_14 : run 5 14 = .yes := by kernel_rfl
set_option maxHeartbeats 400000000 in
theorem c6_3 : run 6 3 = .yes := by kernel_rfl
set_option maxHeartbeats 400000000 in
theorem c6_7 : run 6 7 = .yes := by kernel_rfl
set_option maxHeartbeats 400000000 in
theorem c6_11 : run 6 11 = .yes := by kernel_rfl
set_option maxHeartbeats 400000000 in
theorem c7_0 : run 7 0 = .yes := by kernel_rfl
set_option maxHeartbeats 400000000 in
theorem c7_4 : run 7 4 = .yes := by kernel_rfl
set_option maxHeartbeats 400000000 in
theorem c7_8 : run 7 8 = .yes := by kernel_rfl
set_option maxHeartbeats 400000000 in
theorem c7_12 : run 7 12 = .yes := by kernel_rfl
set_option maxHeartbeats 400000000 in
theorem c8_1 : run 8 1 = .yes := by kernel_rfl
set_option maxHeartbeats 400000000 in
theorem c8_5 : run 8 5 = .yes := by kernel_rfl
set_option maxHeartbeats 400000000 in
theorem c8_9 : run 8 9 = .yes := by kernel_rfl
set_option maxHeartbeats 400000000 in
theorem c8_13 : run 8 13 = .yes := by kernel_rfl
end Go.Proofs.YtkddmlcliammbaaDoor.certWrongq
