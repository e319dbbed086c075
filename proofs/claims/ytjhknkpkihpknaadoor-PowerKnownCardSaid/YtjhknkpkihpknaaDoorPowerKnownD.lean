/-
  The law PowerKnown at some of its cases: the run over the program ends in true. Conditions: none; these are closed facts.
-/
import Derived.Test.YtjhknkpkihpknaaDoorPowerKnownA
namespace Go.Proofs.YtjhknkpkihpknaaDoor.powerKnownq
open Go.Rn YtjhknkpkihpknaaDoor.txt
theorem c0_2 : run 0 2 = .yes := by kernel_rfl
theorem c1_1 : run 1 1 = .yes := by kernel_rfl
theorem c2_0 : run 2 0 = .yes := by kernel_rfl
theorem c2_3 : run 2 3 = .yes := by kernel_rfl
end Go.Proofs.YtjhknkpkihpknaaDoor.powerKnownq
