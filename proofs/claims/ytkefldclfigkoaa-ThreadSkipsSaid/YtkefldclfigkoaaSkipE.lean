/-
  The law ThreadSkips at some of its cases: the evaluator's run over the program ends in true. Conditions: none; these are closed facts.
-/
import Derived.Test.YtkefldclfigkoaaSkipA
namespace Go.Proofs.Ytkefldclfigkoaa.threadSkips
open Go.Rn
theorem c1_0_f : isB (run 1 0 false) = true := by kernel_rfl
theorem c1_1_f : isB (run 1 1 false) = true := by kernel_rfl
theorem c2_1_f : isB (run 2 1 false) = true := by kernel_rfl
theorem c3_1_f : isB (run 3 1 false) = true := by kernel_rfl
theorem c3_3_f : isB (run 3 3 false) = true := by kernel_rfl
theorem c4_2_f : isB (run 4 2 false) = true := by kernel_rfl
theorem c4_4_f : isB (run 4 4 false) = true := by kernel_rfl
theorem c5_0_f : isB (run 5 0 false) = true := by kernel_rfl
theorem c5_1_f : isB (run 5 1 false) = true := by kernel_rfl
theorem c5_3_f : isB (run 5 3 false) = true := by kernel_rfl
theorem c5_5_f : isB (run 5 5 false) = true := by kernel_rfl
theorem c6_1_f : isB (run 6 1 false) = true := by kernel_rfl
theorem c6_3_f : isB (run 6 3 false) = true := by kernel_rfl
theorem c6_5_f : isB (run 6 5 false) = true := by kernel_rfl
theorem c7_1_f : isB (run 7 1 false) = true := by kernel_rfl
theorem c7_3_f : isB (run 7 3 false) = true := by kernel_rfl
theorem c7_5_f : isB (run 7 5 false) = true := by kernel_rfl
theorem c7_7_f : isB (run 7 7 false) = true := by kernel_rfl
theorem c8_2_f : isB (run 8 2 false) = true := by kernel_rfl
theorem c8_4_f : isB (run 8 4 false) = true := by kernel_rfl
theorem c8_6_f : isB (run 8 6 false) = true := by kernel_rfl
theorem c8_8_f : isB (run 8 8 false) = true := by kernel_rfl
theorem c9_0_f : isB (run 9 0 false) = true := by kernel_rfl
theorem c9_1_f : isB (run 9 1 false) = true := by kernel_rfl
theorem c9_3_f : isB (run 9 3 false) = true := by kernel_rfl
theorem c9_5_f : isB (run 9 5 false) = true := by kernel_rfl
theorem c9_7_f : isB (run 9 7 false) = true := by kernel_rfl
theorem c9_9_f : isB (run 9 9 false) = true := by kernel_rfl
theorem c10_1_f : isB (run 10 1 false) = true := by kernel_rfl
theorem c10_3_f : isB (run 10 3 false) = true := by kernel_rfl
theorem c10_5_f : isB (run 10 5 false) = true := by kernel_rfl
theorem c10_7_f : isB (run 10 7 false) = true := by kernel_rfl
theorem c10_9_f : isB (run 10 9 false) = true := by kernel_rfl
end Go.Proofs.Ytkefldclfigkoaa.threadSkips
