/-
  The law PowerCoherent at some of its cases: the run over the program ends in true. Conditions: none; these are closed facts.
-/
import Derived.Test.YtjhknkpkihpknaaDoorPowerCoherentA
namespace Go.Proofs.YtjhknkpkihpknaaDoor.powerCoherentq
open Go.Rn YtjhknkpkihpknaaDoor.txt
theorem c0_0_2 : run 0 0 2 = .yes := by kernel_rfl
theorem c0_1_1 : run 0 1 1 = .yes := by kernel_rfl
theorem c0_2_0 : run 0 2 0 = .yes := by kernel_rfl
theorem c0_2_4 : run 0 2 4 = .yes := by kernel_rfl
theorem c1_0_3 : run 1 0 3 = .yes := by kernel_rfl
theorem c1_1_2 : run 1 1 2 = .yes := by kernel_rfl
theorem c1_2_1 : run 1 2 1 = .yes := by kernel_rfl
theorem c2_0_0 : run 2 0 0 = .yes := by kernel_rfl
theorem c2_0_4 : run 2 0 4 = .yes := by kernel_rfl
theorem c2_1_3 : run 2 1 3 = .yes := by kernel_rfl
theorem c2_2_2 : run 2 2 2 = .yes := by kernel_rfl
end Go.Proofs.YtjhknkpkihpknaaDoor.powerCoherentq
