/-
  The law ThreadSkips at some of its cases: the evaluator's run over the program ends in true. Conditions: none; these are closed facts.
-/
import Derived.Test.YtkefldclfigkoaaSkipA
namespace Go.Proofs.Ytkefldclfigkoaa.threadSkips
open Go.Rn
theorem c0_0_t : isB (run 0 0 true) = true := by kernel_rfl
theorem c2_0_t : isB (run 2 0 true) = true := by kernel_rfl
theorem c2_2_t : isB (run 2 2 true) = true := by kernel_rfl
theorem c3_0_t : isB (run 3 0 true) = true := by kernel_rfl
theorem c3_2_t : isB (run 3 2 true) = true := by kernel_rfl
theorem c4_0_t : isB (run 4 0 true) = true := by kernel_rfl
theorem c4_1_t : isB (run 4 1 true) = true := by kernel_rfl
theorem c4_3_t : isB (run 4 3 true) = true := by kernel_rfl
theorem c5_2_t : isB (run 5 2 true) = true := by kernel_rfl
theorem c5_4_t : isB (run 5 4 true) = true := by kernel_rfl
theorem c6_0_t : isB (run 6 0 true) = true := by kernel_rfl
theorem c6_2_t : isB (run 6 2 true) = true := by kernel_rfl
theorem c6_4_t : isB (run 6 4 true) = true := by kernel_rfl
theorem c6_6_t : isB (run 6 6 true) = true := by kernel_rfl
theorem c7_0_t : isB (run 7 0 true) = true := by kernel_rfl
theorem c7_2_t : isB (run 7 2 true) = true := by kernel_rfl
theorem c7_4_t : isB (run 7 4 true) = true := by kernel_rfl
theorem c7_6_t : isB (run 7 6 true) = true := by kernel_rfl
theorem c8_0_t : isB (run 8 0 true) = true := by kernel_rfl
theorem c8_1_t : isB (run 8 1 true) = true := by kernel_rfl
theorem c8_3_t : isB (run 8 3 true) = true := by kernel_rfl
theorem c8_5_t : isB (run 8 5 true) = true := by kernel_rfl
theorem c8_7_t : isB (run 8 7 true) = true := by kernel_rfl
theorem c9_2_t : isB (run 9 2 true) = true := by kernel_rfl
theorem c9_4_t : isB (run 9 4 true) = true := by kernel_rfl
theorem c9_6_t : isB (run 9 6 true) = true := by kernel_rfl
theorem c9_8_t : isB (run 9 8 true) = true := by kernel_rfl
theorem c10_0_t : isB (run 10 0 true) = true := by kernel_rfl
theorem c10_2_t : isB (run 10 2 true) = true := by kernel_rfl
theorem c10_4_t : isB (run 10 4 true) = true := by kernel_rfl
theorem c10_6_t : isB (run 10 6 true) = true := by kernel_rfl
theorem c10_8_t : isB (run 10 8 true) = true := by kernel_rfl
theorem c10_10_t : isB (run 10 10 true) = true := by kernel_rfl
end Go.Proofs.Ytkefldclfigkoaa.threadSkips
