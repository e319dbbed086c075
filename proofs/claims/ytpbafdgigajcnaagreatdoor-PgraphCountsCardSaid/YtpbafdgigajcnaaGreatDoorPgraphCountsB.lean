/-
  The law PgraphCounts at some of its cases: the run over the program ends in true. Conditions: none; these are closed facts.
-/
import Derived.Test.YtpbafdgigajcnaaGreatDoorPgraphCountsA
namespace Go.Proofs.YtpbafdgigajcnaaGreatDoor.pgraphCountsq
open Go.Rn YtpbafdgigajcnaaGreatDoor.txt
set_option maxHeartbeats 400000000 in
theorem c0_0 : run 0 0 = .yes := by kernel_rfl
set_option maxHeartbeats 400000000 in
theorem c1_2 : run 1 2 = .yes := by kernel_rfl
set_option maxHeartbeats 400000000 in
theorem c3_0 : run 3 0 = .yes := by kernel_rfl
set_option maxHeartbeats 400000000 in
theorem c4_2 : run 4 2 = .yes := by kernel_rfl
end Go.Proofs.YtpbafdgigajcnaaGreatDoor.pgraphCountsq
