/-
  The law CertWrong at some of its cases: the run over the program ends in true. Conditions: none; these are closed facts.
-/
import Derived.Test.YtkddmlcliammbaaDoorCertWrongA
namespace Go.Proofs.YtkddmlcliammbaaDoor.certWrongq
open Go.Rn YtkddmlcliammbaaDoor.txt
set_option maxHeartbeats 400000000 in
theorem c0_3 : run 0 3 = .yes := by kernel_rfl
set_option maxHeartbeats 400000000 in
theorem c0_7 : run 0 7 = .yes := by kernel_rfl
set_option maxHeartbeats 400000000 in
theorem c0_11 : run 0 11 = .yes := by kernel_rfl
set_option maxHeartbeats 400000000 in
theorem c1_0 : run 1 0 = .yes := by kernel_rfl
set_option maxHeartbeats 400000000 in
theorem c1_4 : run 1 4 = .yes := by kernel_rfl
set_option maxHeartbeats 400000000 in
theorem c1_8 : run 1 8 = .yes := by kernel_rfl
set_option maxHeartbeats 400000000 in
theorem c1_12 : run 1 12 = .yes := by kernel_rfl
set_option maxHeartbeats 400000000 in
theorem c2_1 : run 2 1 = .yes := by kernel_rfl
set_option maxHeartbeats 400000000 in
theorem c2_5 : run 2 5 = .yes := by kernel_rfl
set_option maxHeartbeats 400000000 in
theorem c2_9 : run 2 9 = .yes := by kernel_rfl
set_option maxHeartbeats 400000000 in
theorem c2_13 : run 2 13 = .yes := by kernel_rfl
set_option maxHeartbeats 400000000 in
theorem c3_2 : run 3 2 = .yes := by kernel_rfl
set_option maxHeartbeats 400000000 in
theorem c3_6 : run 3 6 = .yes := by kernel_rfl
set_option maxHeartbeats 400000000 in
theorem c3_10 : run 3 10 = .yes := by kernel_rfl
set_option maxHeartbeats 400000000 in
theorem c3_14 : run 3 14 = .yes := by kernel_rfl
set_option maxHeartbeats 400000000 in
theorem c4_3 : run 4 3 = .yes := by kernel_rfl
set_option maxHeartbeats 400000000 in
theorem c4_7 : run 4 7 = .yes := by kernel_rfl
set_option maxHeartbeats 400000000 in
theorem c4_11 : run 4 11 = .yes := by kernel_rfl
set_option maxHeartbeats 400000000 in
theorem c5_0 : run 5 0 = .yes := by kernel_rfl
set_option maxHeartbeats 400000000 in
theorem c5_4 : run 5 4 = .yes := by kernel_rfl
set_option maxHeartbeats 400000000 in
theorem c5_8 : run 5 8 = .yes := by kernel_rfl
set_option maxHeartbeats 400000000 in
theorem c5_12 : run 5 12 = .yes := by kernel_rfl
set_option maxHeartbeats 400000000 in
theorem c6_1 : run 6 1 = .yes := by kernel_rfl
set_option maxHeartbeats 400000000 in
theorem c6_5 : run 6 5 = .yes := by kernel_rfl
set_option maxHeartbeats 400000000 in
theorem c6_9 : run 6 9 = .yes := by kernel_rfl
set_option maxHeartbeats 400000000 in
theorem c6_13 : run 6 13 = .yes := by kernel_rfl
set_option maxHeartbeats 400000000 in
theorem c7_2 : run 7 2 = .yes := by kernel_rfl
set_option maxHeartbeats 400000000 in
theorem c7_6 : run 7 6 = .yes := by kernel_rfl
set_option maxHeartbeats 400000000 in
theorem c7_10 : run 7 10 = .yes := by kernel_rfl
set_option maxHeartbeats 400000000 in
theorem c7_14 : run 7 14 = .yes := by kernel_rfl
set_option maxHeartbeats 400000000 in
theorem c8_3 : run 8 3 = .yes := by kernel_rfl
set_option maxHeartbeats 400000000 in
theorem c8_7 : run 8 7 = .yes := by kernel_rfl
set_option maxHeartbeats 400000000 in
theorem c8_11 : run 8 11 = .yes := by kernel_rfl
end Go.Proofs.YtkddmlcliammbaaDoor.certWrongq
