/-
  The law BehaveFences at some of its cases: the run over the program ends in true. Conditions: none; these are closed facts.
-/
import Derived.Test.YtljdimjdjneloaaGreatDoorBehaveFencesA
namespace Go.Proofs.YtljdimjdjneloaaGreatDoor.behaveFencesq
open Go.Rn YtljdimjdjneloaaGreatDoor.txt
set_option maxHeartbeats 400000000 in
theorem c0_2 : run 0 2 = .yes := by kernel_rfl
set_option maxHeartbeats 400000000 in
theorem c2_0 : run 2 0 = .yes := by kernel_rfl
end Go.Proofs.YtljdimjdjneloaaGreatDoor.behaveFencesq
