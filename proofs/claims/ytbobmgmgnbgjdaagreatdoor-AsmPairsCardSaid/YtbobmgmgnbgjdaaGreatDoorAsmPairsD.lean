/-
  The law AsmPairs at some of its cases: the run over the program ends in true. Conditions: none; these are closed facts.
-/
import Derived.Test.YtbobmgmgnbgjdaaGreatDoorAsmPairsA
namespace Go.Proofs.YtbobmgmgnbgjdaaGreatDoor.asmPairsq
open Go.Rn YtbobmgmgnbgjdaaGreatDoor.txt
set_option maxHeartbeats 400000000 in
theorem c0_2 : run 0 2 = .yes := by kernel_rfl
set_option maxHeartbeats 400000000 in
theorem c0_6 : run 0 6 = .yes := by kernel_rfl
set_option maxHeartbeats 400000000 in
theorem c0_10 : run 0 10 = .yes := by kernel_rfl
set_option maxHeartbeats 400000000 in
theorem c0_14 : run 0 14 = .yes := by kernel_rfl
set_option maxHeartbeats 400000000 in
theorem c0_18 : run 0 18 = .yes := by kernel_rfl
set_option maxHeartbeats 400000000 in
theorem c1_2 : run 1 2 = .yes := by kernel_rfl
set_option maxHeartbeats 400000000 in
theorem c1_6 : run 1 6 = .yes := by kernel_rfl
set_option maxHeartbeats 400000000 in
theorem c1_10 : run 1 10 = .yes := by kernel_rfl
set_option maxHeartbeats 400000000 in
theorem c1_14 : run 1 14 = .yes := by kernel_rfl
set_option maxHeartbeats 400000000 in
theorem c1_18 : run 1 18 = .yes := by kernel_rfl
set_option maxHeartbeats 400000000 in
theorem c2_2 : run 2 2 = .yes := by kernel_rfl
set_option maxHeartbeats 400000000 in
theorem c2_6 : run 2 6 = .yes := by kernel_rfl
set_option maxHeartbeats 400000000 in
theorem c2_10 : run 2 10 = .yes := by kernel_rfl
set_option maxHeartbeats 400000000 in
theorem c2_14 : run 2 14 = .yes := by kernel_rfl
set_option maxHeartbeats 400000000 in
theorem c2_18 : run 2 18 = .yes := by kernel_rfl
set_option maxHeartbeats 400000000 in
theorem c3_2 : run 3 2 = .yes := by kernel_rfl
set_option maxHeartbeats 400000000 in
theorem c3_6 : run 3 6 = .yes := by kernel_rfl
set_option maxHeartbeats 400000000 in
theorem c3_10 : run 3 10 = .yes := by kernel_rfl
set_option maxHeartbeats 400000000 in
theorem c3_14 : run 3 14 = .yes := by kernel_rfl
set_option maxHeartbeats 400000000 in
theorem c3_18 : run 3 18 = .yes := by kernel_rfl
set_option maxHeartbeats 400000000 in
theorem c4_2 : run 4 2 = .yes := by kernel_rfl
set_option maxHeartbeats 400000000 in
theorem c4_6 : run 4 6 = .yes := by kernel_rfl
set_option maxHeartbeats 400000000 in
theorem c4_10 : run 4 10 = .yes := by kernel_rfl
set_option maxHeartbeats 400000000 in
theorem c4_14 : run 4 14 = .yes := by kernel_rfl
set_option maxHeartbeats 400000000 in
theorem c4_18 : run 4 18 = .yes := by kernel_rfl
set_option maxHeartbeats 400000000 in
theorem c5_2 : run 5 2 = .yes := by kernel_rfl
set_option maxHeartbeats 400000000 in
theorem c5_6 : run 5 6 = .yes := by kernel_rfl
set_option maxHeartbeats 400000000 in
theorem c5_10 : run 5 10 = .yes := by kernel_rfl
set_option maxHeartbeats 400000000 in
theorem c5_14 : run 5 14 = .yes := by kernel_rfl
set_option maxHeartbeats 400000000 in
theorem c5_18 : run 5 18 = .yes := by kernel_rfl
set_option maxHeartbeats 400000000 in
theorem c6_2 : run 6 2 = .yes := by kernel_rfl
set_option maxHeartbeats 400000000 in
theorem c6_6 : run 6 6 = .yes := by kernel_rfl
set_option maxHeartbeats 400000000 in
theorem c6_10 : run 6 10 = .yes := by kernel_rfl
set_option maxHeartbeats 400000000 in
theorem c6_14 : run 6 14 = .yes := by kernel_rfl
set_option maxHeartbeats 400000000 in
theorem c6_18 : run 6 18 = .yes := by kernel_rfl
end Go.Proofs.YtbobmgmgnbgjdaaGreatDoor.asmPairsq
