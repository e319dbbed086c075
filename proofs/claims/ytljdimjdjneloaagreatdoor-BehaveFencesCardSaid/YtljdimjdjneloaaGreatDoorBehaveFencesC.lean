/-
  The law BehaveFences at some of its cases: the run over the program ends in true. Conditions: none; these are closed facts.
-/
import Derived.Test.YtljdimjdjneloaaGreatDoorBehaveFencesA
namespace Go.Proofs.YtljdimjdjneloaaGreatDoor.behaveFencesq
open Go.Rn YtljdimjdjneloaaGreatDoor.txt
set_option maxHeartbeats 400000000 in
theorem c0_1 : run 0 1 = .yes := by kernel_rfl
set_option maxHeartbeats 400000000 in
theorem c1_3 : run 1 3 = .yes := by kernel_rfl
end Go.Proofs.YtljdimjdjneloaaGreatDoor.behaveFencesq
