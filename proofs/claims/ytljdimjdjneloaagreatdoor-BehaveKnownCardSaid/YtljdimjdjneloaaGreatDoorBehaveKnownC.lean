/-
  The law BehaveKnown at some of its cases: the run over the program ends in true. Conditions: none; these are closed facts.
-/
import Derived.Test.YtljdimjdjneloaaGreatDoorBehaveKnownA
namespace Go.Proofs.YtljdimjdjneloaaGreatDoor.behaveKnownq
open Go.Rn YtljdimjdjneloaaGreatDoor.txt
set_option maxHeartbeats 400000000 in
theorem c0_f : run 0 false = .yes := by kernel_rfl
set_option maxHeartbeats 400000000 in
theorem c2_t : run 2 true = .yes := by kernel_rfl
end Go.Proofs.YtljdimjdjneloaaGreatDoor.behaveKnownq
