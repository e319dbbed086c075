/-
  The law PgraphWrong at some of its cases: the run over the program ends in true. Conditions: none; these are closed facts.
-/
import Derived.Test.YtpbafdgigajcnaaGreatDoorPgraphWrongA
namespace Go.Proofs.YtpbafdgigajcnaaGreatDoor.pgraphWrongq
open Go.Rn YtpbafdgigajcnaaGreatDoor.txt
set_option maxHeartbeats 400000000 in
theorem c0_0 : run 0 0 = .yes := by kernel_rfl
set_option maxHeartbeats 400000000 in
theorem c2_0 : run 2 0 = .yes := by kernel_rfl
set_option maxHeartbeats 400000000 in
theorem c3_0 : run 3 0 = .yes := by kernel_rfl
set_option maxHeartbeats 400000000 in
theorem c3_2 : run 3 2 = .yes := by kernel_rfl
set_option maxHeartbeats 400000000 in
theorem c4_1 : run 4 1 = .yes := by kernel_rfl
set_option maxHeartbeats 400000000 in
theorem c4_3 : run 4 3 = .yes := by kernel_rfl
set_option maxHeartbeats 400000000 in
theorem c5_1 : run 5 1 = .yes := by kernel_rfl
set_option maxHeartbeats 400000000 in
theorem c5_3 : run 5 3 = .yes := by kernel_rfl
end Go.Proofs.YtpbafdgigajcnaaGreatDoor.pgraphWrongq
