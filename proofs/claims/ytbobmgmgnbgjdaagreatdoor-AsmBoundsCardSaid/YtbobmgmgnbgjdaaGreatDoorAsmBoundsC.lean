/-
  The law AsmBounds at some of its cases: the run over the program ends in true. Conditions: none; these are closed facts.
-/
import Derived.Test.YtbobmgmgnbgjdaaGreatDoorAsmBoundsA
namespace Go.Proofs.YtbobmgmgnbgjdaaGreatDoor.asmBoundsq
open Go.Rn YtbobmgmgnbgjdaaGreatDoor.txt
set_option maxHeartbeats 400000000 in
theorem c0_1 : run 0 1 = .yes := by kernel_rfl
set_option maxHeartbeats 400000000 in
theorem c1_0 : run 1 0 = .yes := by kernel_rfl
set_option maxHeartbeats 400000000 in
theorem c1_2 : run 1 2 = .yes := by kernel_rfl
set_option maxHeartbeats 400000000 in
theorem c2_1 : run 2 1 = .yes := by kernel_rfl
set_option maxHeartbeats 400000000 in
theorem c3_0 : run 3 0 = .yes := by kernel_rfl
set_option maxHeartbeats 400000000 in
theorem c3_2 : run 3 2 = .yes := by kernel_rfl
end Go.Proofs.YtbobmgmgnbgjdaaGreatDoor.asmBoundsq
