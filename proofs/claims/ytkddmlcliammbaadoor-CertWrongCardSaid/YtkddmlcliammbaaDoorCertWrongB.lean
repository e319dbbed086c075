/-
  The law CertWrong at some of its cases: the run over the program ends in true. Conditions: none; these are closed facts.
-/
import Derived.Test.YtkddmlcliammbaaDoorCertWrongA
namespace Go.Proofs.YtkddmlcliammbaaDoor.certWrongq
open Go.Rn YtkddmlcliammbaaDoor.txt
set_option maxHeartbeats 400000000 in
theorem c0_0 : run 0 0 = .yes := by kernel_rfl
set_option maxHeartbeats 400000000 in
theorem c0_4 : run 0 4 = .yes := by kernel_rfl
set_option maxHeartbeats 400000000 in
theorem c0_8 : run 0 8 = .yes := by kernel_rfl
set_option maxHeartbeats 400000000 in
theorem c0_12 : run 0 12 = .yes := by kernel_rfl
set_option maxHeartbeats 400000000 in
theorem c1_1 : run 1 1 = .yes := by kernel_rfl
set_option maxHeartbeats 400000000 in
theorem c1_5 : run 1 5 = .yes := by kernel_rfl
set_option maxHeartbeats 400000000 in
theorem c1_9 : run 1 9 = .yes := by kernel_rfl
set_option maxHeartbeats 400000000 in
theorem c1_13 : run 1 13 = .yes := by kernel_rfl
set_option maxHeartbeats 400000000 in
theorem c2_2 : run 2 2 = .yes := by kernel_rfl
set_option maxHeartbeats 400000000 in
theorem c2_6 : run 2 6 = .yes := by kernel_rfl
set_option maxHeartbeats 400000000 in
theorem c2_10 : run 2 10 = .yes := by kernel_rfl
set_option maxHeartbeats 400000000 in
theorem c2_14 : run 2 14 = .yes := by kernel_rfl
set_option maxHeartbeats 400000000 in
theorem c3_3 : run 3 3 = .yes := by kernel_rfl
set_option maxHeartbeats 400000000 in
theorem c3_7 : run 3 7 = .yes := by kernel_rfl
set_option maxHeartbeats 400000000 in
theorem c3_11 : run 3 11 = .yes := by kernel_rfl
set_option maxHeartbeats 400000000 in
theorem c4_0 : run 4 0 = .yes := by kernel_rfl
set_option maxHeartbeats 400000000 in
theorem c4_4 : run 4 4 = .yes := by kernel_rfl
set_option maxHeartbeats 400000000 in
theorem c4_8 : run 4 8 = .yes := by kernel_rfl
set_option maxHeartbeats 400000000 in
theorem c4_12 : run 4 12 = .yes := by kernel_rfl
set_option maxHeartbeats 400000000 in
theorem c5_1 : run 5 1 = .yes := by kernel_rfl
set_option maxHeartbeats 400000000 in
theorem c5_5 : run 5 5 = .yes := by kernel_rfl
set_option maxHeartbeats 400000000 in
theorem c5_9 : run 5 9 = .yes := by kernel_rfl
set_option maxHeartbeats 400000000 in
theorem c5_13 : run 5 13 = .yes := by kernel_rfl
set_option maxHeartbeats 400000000 in
theorem c6_2 : run 6 2 = .yes := by kernel_rfl
set_option maxHeartbeats 400000000 in
theorem c6_6 : run 6 6 = .yes := by kernel_rfl
set_option maxHeartbeats 400000000 in
theorem c6_10 : run 6 10 = .yes := by kernel_rfl
set_option maxHeartbeats 400000000 in
theorem c6_14 : run 6 14 = .yes := by kernel_rfl
set_option maxHeartbeats 400000000 in
theorem c7_3 : run 7 3 = .yes := by kernel_rfl
set_option maxHeartbeats 400000000 in
theorem c7_7 : run 7 7 = .yes := by kernel_rfl
set_option maxHeartbeats 400000000 in
theorem c7_11 : run 7 11 = .yes := by kernel_rfl
set_option maxHeartbeats 400000000 in
theorem c8_0 : run 8 0 = .yes := by kernel_rfl
set_option maxHeartbeats 400000000 in
theorem c8_4 : run 8 4 = .yes := by kernel_rfl
set_option maxHeartbeats 400000000 in
theorem c8_8 : run 8 8 = .yes := by kernel_rfl
set_option maxHeartbeats 400000000 in
theorem c8_12 : run 8 12 = .yes := by kernel_rfl
end Go.Proofs.YtkddmlcliammbaaDoor.certWrongq
