/-
  The law AsmPairs at some of its cases: the run over the program ends in true. Conditions: none; these are closed facts.
-/
import Derived.Test.YtbobmgmgnbgjdaaGreatDoorAsmPairsA
namespace Go.Proofs.YtbobmgmgnbgjdaaGreatDoor.asmPairsq
open Go.Rn YtbobmgmgnbgjdaaGreatDoor.txt
set_option maxHeartbeats 400000000 in
theorem c0_3 : run 0 3 = .yes := by kernel_rfl
set_option maxHeartbeats 400000000 in
theorem c0_7 : run 0 7 = .yes := by kernel_rfl
set_option maxHeartbeats 400000000 in
theorem c0_11 : run 0 11 = .yes := by kernel_rfl
set_option maxHeartbeats 400000000 in
theorem c0_15 : run 0 15 = .yes := by kernel_rfl
set_option maxHeartbeats 400000000 in
theorem c0_19 : run 0 19 = .yes := by kernel_rfl
set_option maxHeartbeats 400000000 in
theorem c1_3 : run 1 3 = .yes := by kernel_rfl
set_option maxHeartbeats 400000000 in
theorem c1_7 : run 1 7 = .yes := by kernel_rfl
set_option maxHeartbeats 400000000 in
theorem c1_11 : run 1 11 = .yes := by kernel_rfl
set_option maxHeartbeats 400000000 in
theorem c1_15 : run 1 15 = .yes := by kernel_rfl
set_option maxHeartbeats 400000000 in
theorem c1_19 : run 1 19 = .yes := by kernel_rfl
set_option maxHeartbeats 400000000 in
theorem c2_3 : run 2 3 = .yes := by kernel_rfl
set_option maxHeartbeats 400000000 in
theorem c2_7 : run 2 7 = .yes := by kernel_rfl
set_option maxHeartbeats 400000000 in
theorem c2_11 : run 2 11 = .yes := by kernel_rfl
set_option maxHeartbeats 400000000 in
theorem c2_15 : run 2 15 = .yes := by kernel_rfl
set_option maxHeartbeats 400000000 in
theorem c2_19 : run 2 19 = .yes := by kernel_rfl
set_option maxHeartbeats 400000000 in
theorem c3_3 : run 3 3 = .yes := by kernel_rfl
set_option maxHeartbeats 400000000 in
theorem c3_7 : run 3 7 = .yes := by kernel_rfl
set_option maxHeartbeats 400000000 in
theorem c3_11 : run 3 11 = .yes := by kernel_rfl
set_option maxHeartbeats 400000000 in
theorem c3_15 : run 3 15 = .yes := by kernel_rfl
set_option maxHeartbeats 400000000 in
theorem c3_19 : run 3 19 = .yes := by kernel_rfl
set_option maxHeartbeats 400000000 in
theorem c4_3 : run 4 3 = .yes := by kernel_rfl
set_option maxHeartbeats 400000000 in
theorem c4_7 : run 4 7 = .yes := by kernel_rfl
set_option maxHeartbeats 400000000 in
theorem c4_11 : run 4 11 = .yes := by kernel_rfl
set_option maxHeartbeats 400000000 in
theorem c4_15 : run 4 15 = .yes := by kernel_rfl
set_option maxHeartbeats 400000000 in
theorem c4_19 : run 4 19 = .yes := by kernel_rfl
set_option maxHeartbeats 400000000 in
theorem c5_3 : run 5 3 = .yes := by kernel_rfl
set_option maxHeartbeats 400000000 in
theorem c5_7 : run 5 7 = .yes := by kernel_rfl
set_option maxHeartbeats 400000000 in
theorem c5_11 : run 5 11 = .yes := by kernel_rfl
set_option maxHeartbeats 400000000 in
theorem c5_15 : run 5 15 = .yes := by kernel_rfl
set_option maxHeartbeats 400000000 in
theorem c5_19 : run 5 19 = .yes := by kernel_rfl
set_option maxHeartbeats 400000000 in
theorem c6_3 : run 6 3 = .yes := by kernel_rfl
set_option maxHeartbeats 400000000 in
theorem c6_7 : run 6 7 = .yes := by kernel_rfl
set_option maxHeartbeats 400000000 in
theorem c6_11 : run 6 11 = .yes := by kernel_rfl
set_option maxHeartbeats 400000000 in
theorem c6_15 : run 6 15 = .yes := by kernel_rfl
set_option maxHeartbeats 400000000 in
theorem c6_19 : run 6 19 = .yes := by kernel_rfl
end Go.Proofs.YtbobmgmgnbgjdaaGreatDoor.asmPairsq
