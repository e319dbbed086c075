/-
  The law ImmFences at some of its cases: the run over the program ends in true. Conditions: none; these are closed facts.
-/
import Derived.Test.YtjhknkpkihpknaaGreatDoorImmFencesA
namespace Go.Proofs.YtjhknkpkihpknaaGreatDoor.immFencesq
open Go.Rn YtjhknkpkihpknaaGreatDoor.txt
theorem c0_0 : run 0 0 = .yes := by kernel_rfl
theorem c0_2 : run 0 2 = .yes := by kernel_rfl
theorem c0_4 : run 0 4 = .yes := by kernel_rfl
theorem c1_1 : run 1 1 = .yes := by kernel_rfl
theorem c1_3 : run 1 3 = .yes := by kernel_rfl
theorem c2_0 : run 2 0 = .yes := by kernel_rfl
theorem c2_2 : run 2 2 = .yes := by kernel_rfl
theorem c2_4 : run 2 4 = .yes := by kernel_rfl
theorem c3_1 : run 3 1 = .yes := by kernel_rfl
theorem c3_3 : run 3 3 = .yes := by kernel_rfl
theorem c4_0 : run 4 0 = .yes := by kernel_rfl
theorem c4_2 : run 4 2 = .yes := by kernel_rfl
theorem c4_4 : run 4 4 = .yes := by kernel_rfl
end Go.Proofs.YtjhknkpkihpknaaGreatDoor.immFencesq
