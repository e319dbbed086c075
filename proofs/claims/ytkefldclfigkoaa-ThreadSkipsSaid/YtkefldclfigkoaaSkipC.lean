/-
  The law ThreadSkips at some of its cases: the evaluator's run over the program ends in true. Conditions: none; these are closed facts.
-/
import Derived.Test.YtkefldclfigkoaaSkipA
namespace Go.Proofs.Ytkefldclfigkoaa.threadSkips
open Go.Rn
theorem c0_0_f : isB (run 0 0 false) = true := by kernel_rfl
theorem c2_0_f : isB (run 2 0 false) = true := by kernel_rfl
theorem c2_2_f : isB (run 2 2 false) = true := by kernel_rfl
theorem c3_0_f : isB (run 3 0 false) = true := by kernel_rfl
theorem c3_2_f : isB (run 3 2 false) = true := by kernel_rfl
theorem c4_0_f : isB (run 4 0 false) = true := by kernel_rfl
theorem c4_1_f : isB (run 4 1 false) = true := by kernel_rfl
theorem c4_3_f : isB (run 4 3 false) = true := by kernel_rfl
theorem c5_2_f : isB (run 5 2 false) = true := by kernel_rfl
theorem c5_4_f : isB (run 5 4 false) = true := by kernel_rfl
theorem c6_0_f : isB (run 6 0 false) = true := by kernel_rfl
theorem c6_2_f : isB (run 6 2 false) = true := by kernel_rfl
theorem c6_4_f : isB (run 6 4 false) = true := by kernel_rfl
theorem c6_6_f : isB (run 6 6 false) = true := by kernel_rfl
theorem c7_0_f : isB (run 7 0 false) = true := by kernel_rfl
theorem c7_2_f : isB (run 7 2 false) = true := by kernel_rfl
theorem c7_4_f : isB (run 7 4 false) = true := by kernel_rfl
theorem c7_6_f : isB (run 7 6 false) = true := by kernel_rfl
theorem c8_0_f : isB (run 8 0 false) = true := by kernel_rfl
theorem c8_1_f : isB (run 8 1 false) = true := by kernel_rfl
theorem c8_3_f : isB (run 8 3 false) = true := by kernel_rfl
theorem c8_5_f : isB (run 8 5 false) = true := by kernel_rfl
theorem c8_7_f : isB (run 8 7 false) = true := by kernel_rfl
theorem c9_2_f : isB (run 9 2 false) = true := by kernel_rfl
theorem c9_4_f : isB (run 9 4 false) = true := by kernel_rfl
theorem c9_6_f : isB (run 9 6 false) = true := by kernel_rfl
theorem c9_8_f : isB (run 9 8 false) = true := by kernel_rfl
theorem c10_0_f : isB (run 10 0 false) = true := by kernel_rfl
theorem c10_2_f : isB (run 10 2 false) = true := by kernel_rfl
theorem c10_4_f : isB (run 10 4 false) = true := by kernel_rfl
theorem c10_6_f : isB (run 10 6 false) = true := by kernel_rfl
theorem c10_8_f : isB (run 10 8 false) = true := by kernel_rfl
theorem c10_10_f : isB (run 10 10 false) = true := by kernel_rfl
end Go.Proofs.Ytkefldclfigkoaa.threadSkips
