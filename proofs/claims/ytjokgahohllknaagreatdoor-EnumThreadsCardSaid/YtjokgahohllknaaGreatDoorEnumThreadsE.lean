/-
  The law EnumThreads at some of its cases: the run over the program ends in true. Conditions: none; these are closed facts.
-/
import Derived.Test.YtjokgahohllknaaGreatDoorEnumThreadsA
namespace Go.Proofs.YtjokgahohllknaaGreatDoor.enumThreadsq
open Go.Rn YtjokgahohllknaaGreatDoor.txt
theorem c0_1_0 : run 0 1 0 = .yes := by kernel_rfl
theorem c0_2_1 : run 0 2 1 = .yes := by kernel_rfl
theorem c1_0_2 : run 1 0 2 = .yes := by kernel_rfl
theorem c1_2_0 : run 1 2 0 = .yes := by kernel_rfl
theorem c2_0_1 : run 2 0 1 = .yes := by kernel_rfl
theorem c2_1_2 : run 2 1 2 = .yes := by kernel_rfl
theorem c3_0_0 : run 3 0 0 = .yes := by kernel_rfl
theorem c3_1_1 : run 3 1 1 = .yes := by kernel_rfl
theorem c3_2_2 : run 3 2 2 = .yes := by kernel_rfl
end Go.Proofs.YtjokgahohllknaaGreatDoor.enumThreadsq
