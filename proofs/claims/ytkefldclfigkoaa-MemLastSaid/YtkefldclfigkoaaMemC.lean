/-
  The law MemLast at some of its numbers of writes and turns: the evaluator's run over the program ends in true. Conditions: none; these are closed facts.
-/
import Derived.Test.YtkefldclfigkoaaMemA
namespace Go.Proofs.Ytkefldclfigkoaa.memLast
open Go.Rn
theorem c0_0 : isB (run 0 0) = true := by kernel_rfl
theorem c3_1 : isB (run 3 1) = true := by kernel_rfl
theorem c4_1 : isB (run 4 1) = true := by kernel_rfl
theorem c5_2 : isB (run 5 2) = true := by kernel_rfl
theorem c6_0 : isB (run 6 0) = true := by kernel_rfl
theorem c6_3 : isB (run 6 3) = true := by kernel_rfl
theorem c7_1 : isB (run 7 1) = true := by kernel_rfl
theorem c7_3 : isB (run 7 3) = true := by kernel_rfl
theorem c8_5 : isB (run 8 5) = true := by kernel_rfl
theorem c9_1 : isB (run 9 1) = true := by kernel_rfl
theorem c9_4 : isB (run 9 4) = true := by kernel_rfl
theorem c9_8 : isB (run 9 8) = true := by kernel_rfl
theorem c10_3 : isB (run 10 3) = true := by kernel_rfl
theorem c10_7 : isB (run 10 7) = true := by kernel_rfl
theorem c11_1 : isB (run 11 1) = true := by kernel_rfl
theorem c11_5 : isB (run 11 5) = true := by kernel_rfl
theorem c11_9 : isB (run 11 9) = true := by kernel_rfl
theorem c12_1 : isB (run 12 1) = true := by kernel_rfl
theorem c12_5 : isB (run 12 5) = true := by kernel_rfl
theorem c12_9 : isB (run 12 9) = true := by kernel_rfl
theorem c13_2 : isB (run 13 2) = true := by kernel_rfl
theorem c13_6 : isB (run 13 6) = true := by kernel_rfl
theorem c13_10 : isB (run 13 10) = true := by kernel_rfl
theorem c14_0 : isB (run 14 0) = true := by kernel_rfl
theorem c14_3 : isB (run 14 3) = true := by kernel_rfl
theorem c14_7 : isB (run 14 7) = true := by kernel_rfl
theorem c14_11 : isB (run 14 11) = true := by kernel_rfl
theorem c15_1 : isB (run 15 1) = true := by kernel_rfl
theorem c15_3 : isB (run 15 3) = true := by kernel_rfl
theorem c15_7 : isB (run 15 7) = true := by kernel_rfl
theorem c15_11 : isB (run 15 11) = true := by kernel_rfl
theorem c16_5 : isB (run 16 5) = true := by kernel_rfl
theorem c16_9 : isB (run 16 9) = true := by kernel_rfl
theorem c16_13 : isB (run 16 13) = true := by kernel_rfl
theorem c17_1 : isB (run 17 1) = true := by kernel_rfl
theorem c17_4 : isB (run 17 4) = true := by kernel_rfl
theorem c17_8 : isB (run 17 8) = true := by kernel_rfl
theorem c17_12 : isB (run 17 12) = true := by kernel_rfl
theorem c17_16 : isB (run 17 16) = true := by kernel_rfl
theorem c18_3 : isB (run 18 3) = true := by kernel_rfl
theorem c18_7 : isB (run 18 7) = true := by kernel_rfl
theorem c18_11 : isB (run 18 11) = true := by kernel_rfl
theorem c18_15 : isB (run 18 15) = true := by kernel_rfl
theorem c19_1 : isB (run 19 1) = true := by kernel_rfl
theorem c19_5 : isB (run 19 5) = true := by kernel_rfl
theorem c19_9 : isB (run 19 9) = true := by kernel_rfl
theorem c19_13 : isB (run 19 13) = true := by kernel_rfl
theorem c19_17 : isB (run 19 17) = true := by kernel_rfl
end Go.Proofs.Ytkefldclfigkoaa.memLast
