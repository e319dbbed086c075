/-
  The law PowerWrites at some of its cases: the run over the program ends in true. Conditions: none; these are closed facts.
-/
import Derived.Test.YtjhknkpkihpknaaDoorPowerWritesA
namespace Go.Proofs.YtjhknkpkihpknaaDoor.powerWritesq
open Go.Rn YtjhknkpkihpknaaDoor.txt
theorem c_t_t_f : run true true false = .yes := by kernel_rfl
theorem c_t_f_f : run true false false = .yes := by kernel_rfl
theorem c_f_t_f : run false true false = .yes := by kernel_rfl
theorem c_f_f_f : run false false false = .yes := by kernel_rfl
end Go.Proofs.YtjhknkpkihpknaaDoor.powerWritesq
