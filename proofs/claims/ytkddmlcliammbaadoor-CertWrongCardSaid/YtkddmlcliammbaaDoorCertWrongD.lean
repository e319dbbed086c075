/-
  The law CertWrong at some of its cases: the run over the program ends in true. Conditions: none; these are closed facts.
-/
import Derived.Test.YtkddmlcliammbaaDoorCertWrongA
namespace Go.Proofs.YtkddmlcliammbaaDoor.certWrongq
open Go.Rn YtkddmlcliammbaaDoor.txt
set_option maxHeartbeats 400000000 in
theorem c0_2 : run 0 2 = .yes := by kernel_rfl
set_option maxHeartbeats 400000000 in
theorem c0_6 : run 0 6 = .yes := by kernel_rfl
set_option maxHeartbeats 400000000 in
theorem c0_10 : run 0 10 = .yes := by kernel_rfl
set_option maxHeartbeats 400000000 in
theorem c0_14 : run 0 14 = .yes := by kernel_rfl
set_option maxHeartbeats 400000000 in
theorem c1_3 : run 1 3 = .yes := by kernel_rfl
set_option maxHeartbeats 400000000 in
theorem c1_7 : run 1 7 = .yes := by kernel_rfl
set_option maxHeartbeats 400000000 in
theorem c1_11 : run 1 11 = .yes := by kernel_rfl
set_option maxHeartbeats 400000000 in
theorem c2_0 : run 2 0 = .yes := by kernel_rfl
set_option maxHeartbeats 400000000 in
theorem c2_4 : run 2 4 = .yes := by kernel_rfl
set_option maxHeartbeats 400000000 in
theorem c2_8 : run 2 8 = .yes := by kernel_rfl
set_option maxHeartbeats 400000000 in
theorem c2_12 : run 2 12 = .yes := by kernel_rfl
set_option maxHeartbeats 400000000 in
theorem c3_1 : run 3 1 = .yes := by kernel_rfl
set_option maxHeartbeats 400000000 in
theorem c3_5 : run 3 5 = .yes := by kernel_rfl
set_option maxHeartbeats 400000000 in
theorem c3_9 : run 3 9 = .yes := by kernel_rfl
set_option maxHeartbeats 400000000 in
theorem c3_13 : run 3 13 = .yes := by kernel_rfl
set_option maxHeartbeats 400000000 in
theorem c4_2 : run 4 2 = .yes := by kernel_rfl
set_option maxHeartbeats 400000000 in
theorem c4_6 : run 4 6 = .yes := by kernel_rfl
set_option maxHeartbeats 400000000 in
theorem c4_10 : run 4 10 = .yes := by kernel_rfl
set_option maxHeartbeats 400000000 in
theorem c4_14 : run 4 14 = .yes := by kernel_rfl
set_option maxHeartbeats 400000000 in
theorem c5_3 : run 5 3 = .yes := by kernel_rfl
set_option maxHeartbeats 400000000 in
theorem c5_7 : run 5 7 = .yes := by kernel_rfl
set_option maxHeartbeats 400000000 in
theorem c5_11 : run 5 11 = .yes := by kernel_rfl
set_option maxHeartbeats 400000000 in
theorem c6_0 : run 6 0 = .yes := by kernel_rfl
set_option maxHeartbeats 400000000 in
theorem c6_4 : run 6 4 = .yes := by kernel_rfl
set_option maxHeartbeats 400000000 in
theorem c6_8 : run 6 8 = .yes := by kernel_rfl
set_option maxHeartbeats 400000000 in
theorem c6_12 : run 6 12 = .yes := by kernel_rfl
set_option maxHeartbeats 400000000 in
theorem c7_1 : run 7 1 = .yes := by kernel_rfl
set_option maxHeartbeats 400000000 in
theorem c7_5 : run 7 5 = .yes := by kernel_rfl
set_option maxHeartbeats 400000000 in
theorem c7_9 : run 7 9 = .yes := by kernel_rfl
set_option maxHeartbeats 400000000 in
theorem c7_13 : run 7 13 = .yes := by kernel_rfl
set_option maxHeartbeats 400000000 in
theorem c8_2 : run 8 2 = .yes := by kernel_rfl
set_option maxHeartbeats 400000000 in
theorem c8_6 : run 8 6 = .yes := by kernel_rfl
set_option maxHeartbeats 400000000 in
theorem c8_10 : run 8 10 = .yes := by kernel_rfl
set_option maxHeartbeats 400000000 in
theorem c8_14 : run 8 14 = .yes := by kernel_rfl
end Go.Proofs.YtkddmlcliammbaaDoor.certWrongq
