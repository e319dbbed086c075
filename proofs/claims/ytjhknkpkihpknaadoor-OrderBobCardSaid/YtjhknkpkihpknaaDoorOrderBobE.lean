/-
  The law OrderBob at some of its cases: the run over the program ends in true. Conditions: none; these are closed facts.
-/
import Derived.Test.YtjhknkpkihpknaaDoorOrderBobA
namespace Go.Proofs.YtjhknkpkihpknaaDoor.orderBobq
open Go.Rn YtjhknkpkihpknaaDoor.txt
theorem c0_0_3 : run 0 0 3 = .yes := by kernel_rfl
theorem c0_1_2 : run 0 1 2 = .yes := by kernel_rfl
theorem c0_2_1 : run 0 2 1 = .yes := by kernel_rfl
theorem c0_3_0 : run 0 3 0 = .yes := by kernel_rfl
theorem c0_3_4 : run 0 3 4 = .yes := by kernel_rfl
theorem c1_0_3 : run 1 0 3 = .yes := by kernel_rfl
theorem c1_1_2 : run 1 1 2 = .yes := by kernel_rfl
theorem c1_2_1 : run 1 2 1 = .yes := by kernel_rfl
theorem c1_3_0 : run 1 3 0 = .yes := by kernel_rfl
theorem c1_3_4 : run 1 3 4 = .yes := by kernel_rfl
theorem c2_0_3 : run 2 0 3 = .yes := by kernel_rfl
theorem c2_1_2 : run 2 1 2 = .yes := by kernel_rfl
theorem c2_2_1 : run 2 2 1 = .yes := by kernel_rfl
theorem c2_3_0 : run 2 3 0 = .yes := by kernel_rfl
theorem c2_3_4 : run 2 3 4 = .yes := by kernel_rfl
theorem c3_0_3 : run 3 0 3 = .yes := by kernel_rfl
theorem c3_1_2 : run 3 1 2 = .yes := by kernel_rfl
theorem c3_2_1 : run 3 2 1 = .yes := by kernel_rfl
theorem c3_3_0 : run 3 3 0 = .yes := by kernel_rfl
theorem c3_3_4 : run 3 3 4 = .yes := by kernel_rfl
end Go.Proofs.YtjhknkpkihpknaaDoor.orderBobq
