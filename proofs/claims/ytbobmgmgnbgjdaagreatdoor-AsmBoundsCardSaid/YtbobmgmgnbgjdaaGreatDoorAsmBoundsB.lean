/-
  The law AsmBounds at some of its cases: the run over the program ends in true. Conditions: none; these are closed facts.
-/
import Derived.Test.YtbobmgmgnbgjdaaGreatDoorAsmBoundsA
namespace Go.Proofs.YtbobmgmgnbgjdaaGreatDoor.asmBoundsq
open Go.Rn YtbobmgmgnbgjdaaGreatDoor.txt
set_option maxHeartbeats 400000000 in
theorem c0_0 : run 0 0 = .yes := by kernel_rfl
set_option maxHeartbeats 400000000 in
theorem c0_2 : run 0 2 = .yes := by kernel_rfl
set_option maxHeartbeats 400000000 in
theorem c1_1 : run 1 1 = .yes := by kernel_rfl
set_option maxHeartbeats 400000000 in
theorem c2_0 : run 2 0 = .yes := by kernel_rfl
set_option maxHeartbeats 400000000 in
theorem c2_2 : run 2 2 = .yes := by kernel_rfl
set_option maxHeartbeats 400000000 in
theorem c3_1 : run 3 1 = .yes := by kernel_rfl
end Go.Proofs.YtbobmgmgnbgjdaaGreatDoor.asmBoundsq
