/-
  The law PowerKnown at some of its cases: the run over the program ends in true. Conditions: none; these are closed facts.
-/
import Derived.Test.YtjhknkpkihpknaaDoorPowerKnownA
namespace Go.Proofs.YtjhknkpkihpknaaDoor.powerKnownq
open Go.Rn YtjhknkpkihpknaaDoor.txt
theorem c0_1 : run 0 1 = .yes := by kernel_rfl
theorem c1_0 : run 1 0 = .yes := by kernel_rfl
theorem c1_3 : run 1 3 = .yes := by kernel_rfl
theorem c2_2 : run 2 2 = .yes := by kernel_rfl
end Go.Proofs.YtjhknkpkihpknaaDoor.powerKnownq
