/-
  The law PgraphWrong at some of its cases: the run over the program ends in true. Conditions: none; these are closed facts.
-/
import Derived.Test.YtpbafdgigajcnaaGreatDoorPgraphWrongA
namespace Go.Proofs.YtpbafdgigajcnaaGreatDoor.pgraphWrongq
open Go.Rn YtpbafdgigajcnaaGreatDoor.txt
set_option maxHeartbeats 400000000 in
theorem c1_0 : run 1 0 = .yes := by kernel_rfl
set_option maxHeartbeats 400000000 in
theorem c2_1 : run 2 1 = .yes := by kernel_rfl
set_option maxHeartbeats 400000000 in
theorem c3_1 : run 3 1 = .yes := by kernel_rfl
set_option maxHeartbeats 400000000 in
theorem c4_0 : run 4 0 = .yes := by kernel_rfl
set_option maxHeartbeats 400000000 in
theorem c4_2 : run 4 2 = .yes := by kernel_rfl
set_option maxHeartbeats 400000000 in
theorem c5_0 : run 5 0 = .yes := by kernel_rfl
set_option maxHeartbeats 400000000 in
theorem c5_2 : run 5 2 = .yes := by kernel_rfl
set_option maxHeartbeats 400000000 in
theorem c5_4 : run 5 4 = .yes := by kernel_rfl
end Go.Proofs.YtpbafdgigajcnaaGreatDoor.pgraphWrongq
