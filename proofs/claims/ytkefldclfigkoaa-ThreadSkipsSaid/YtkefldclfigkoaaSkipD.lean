/-
  The law ThreadSkips at some of its cases: the evaluator's run over the program ends in true. Conditions: none; these are closed facts.
-/
import Derived.Test.YtkefldclfigkoaaSkipA
namespace Go.Proofs.Ytkefldclfigkoaa.threadSkips
open Go.Rn
theorem c1_0_t : isB (run 1 0 true) = true := by kernel_rfl
theorem c1_1_t : isB (run 1 1 true) = true := by kernel_rfl
theorem c2_1_t : isB (run 2 1 true) = true := by kernel_rfl
theorem c3_1_t : isB (run 3 1 true) = true := by kernel_rfl
theorem c3_3_t : isB (run 3 3 true) = true := by kernel_rfl
theorem c4_2_t : isB (run 4 2 true) = true := by kernel_rfl
theorem c4_4_t : isB (run 4 4 true) = true := by kernel_rfl
theorem c5_0_t : isB (run 5 0 true) = true := by kernel_rfl
theorem c5_1_t : isB (run 5 1 true) = true := by kernel_rfl
theorem c5_3_t : isB (run 5 3 true) = true := by kernel_rfl
theorem c5_5_t : isB (run 5 5 true) = true := by kernel_rfl
theorem c6_1_t : isB (run 6 1 true) = true := by kernel_rfl
theorem c6_3_t : isB (run 6 3 true) = true := by kernel_rfl
theorem c6_5_t : isB (run 6 5 true) = true := by kernel_rfl
theorem c7_1_t : isB (run 7 1 true) = true := by kernel_rfl
theorem c7_3_t : isB (run 7 3 true) = true := by kernel_rfl
theorem c7_5_t : isB (run 7 5 true) = true := by kernel_rfl
theorem c7_7_t : isB (run 7 7 true) = true := by kernel_rfl
theorem c8_2_t : isB (run 8 2 true) = true := by kernel_rfl
theorem c8_4_t : isB (run 8 4 true) = true := by kernel_rfl
theorem c8_6_t : isB (run 8 6 true) = true := by kernel_rfl
theorem c8_8_t : isB (run 8 8 true) = true := by kernel_rfl
theorem c9_0_t : isB (run 9 0 true) = true := by kernel_rfl
theorem c9_1_t : isB (run 9 1 true) = true := by kernel_rfl
theorem c9_3_t : isB (run 9 3 true) = true := by kernel_rfl
theorem c9_5_t : isB (run 9 5 true) = true := by kernel_rfl
theorem c9_7_t : isB (run 9 7 true) = true := by kernel_rfl
theorem c9_9_t : isB (run 9 9 true) = true := by kernel_rfl
theorem c10_1_t : isB (run 10 1 true) = true := by kernel_rfl
theorem c10_3_t : isB (run 10 3 true) = true := by kernel_rfl
theorem c10_5_t : isB (run 10 5 true) = true := by kernel_rfl
theorem c10_7_t : isB (run 10 7 true) = true := by kernel_rfl
theorem c10_9_t : isB (run 10 9 true) = true := by kernel_rfl
end Go.Proofs.Ytkefldclfigkoaa.threadSkips
