/-
  The law BehaveFences at some of its cases: the run over the program ends in true. Conditions: none; these are closed facts.
-/
import Derived.Test.YtljdimjdjneloaaGreatDoorBehaveFencesA
namespace Go.Proofs.YtljdimjdjneloaaGreatDoor.behaveFencesq
open Go.Rn YtljdimjdjneloaaGreatDoor.txt
set_option maxHeartbeats 400000000 in
theorem c1_1 : run 1 1 = .yes := by kernel_rfl
set_option maxHeartbeats 400000000 in
theorem c2_3 : run 2 3 = .yes := by kernel_rfl
end Go.Proofs.YtljdimjdjneloaaGreatDoor.behaveFencesq
