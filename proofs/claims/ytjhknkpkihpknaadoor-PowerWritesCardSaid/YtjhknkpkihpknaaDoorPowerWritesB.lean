/-
  The law PowerWrites at some of its cases: the run over the program ends in true. Conditions: none; these are closed facts.
-/
import Derived.Test.YtjhknkpkihpknaaDoorPowerWritesA
namespace Go.Proofs.YtjhknkpkihpknaaDoor.powerWritesq
open Go.Rn YtjhknkpkihpknaaDoor.txt
theorem c_t_t_t : run true true true = .yes := by kernel_rfl
theorem c_t_f_t : run true false true = .yes := by kernel_rfl
theorem c_f_t_t : run false true true = .yes := by kernel_rfl
theorem c_f_f_t : run false false true = .yes := by kernel_rfl
end Go.Proofs.YtjhknkpkihpknaaDoor.powerWritesq
