/-
  The law MemLast at some of its numbers of writes and turns: the evaluator's run over the program ends in true. Conditions: none; these are closed facts.
-/
import Derived.Test.YtkefldclfigkoaaMemA
namespace Go.Proofs.Ytkefldclfigkoaa.memLast
open Go.Rn
theorem c2_0 : isB (run 2 0) = true := by kernel_rfl
theorem c2_1 : isB (run 2 1) = true := by kernel_rfl
theorem c4_3 : isB (run 4 3) = true := by kernel_rfl
theorem c5_4 : isB (run 5 4) = true := by kernel_rfl
theorem c6_2 : isB (run 6 2) = true := by kernel_rfl
theorem c6_5 : isB (run 6 5) = true := by kernel_rfl
theorem c7_5 : isB (run 7 5) = true := by kernel_rfl
theorem c8_1 : isB (run 8 1) = true := by kernel_rfl
theorem c8_3 : isB (run 8 3) = true := by kernel_rfl
theorem c8_7 : isB (run 8 7) = true := by kernel_rfl
theorem c9_6 : isB (run 9 6) = true := by kernel_rfl
theorem c10_0 : isB (run 10 0) = true := by kernel_rfl
theorem c10_1 : isB (run 10 1) = true := by kernel_rfl
theorem c10_5 : isB (run 10 5) = true := by kernel_rfl
theorem c10_9 : isB (run 10 9) = true := by kernel_rfl
theorem c11_3 : isB (run 11 3) = true := by kernel_rfl
theorem c11_7 : isB (run 11 7) = true := by kernel_rfl
theorem c12_3 : isB (run 12 3) = true := by kernel_rfl
theorem c12_7 : isB (run 12 7) = true := by kernel_rfl
theorem c12_11 : isB (run 12 11) = true := by kernel_rfl
theorem c13_4 : isB (run 13 4) = true := by kernel_rfl
theorem c13_8 : isB (run 13 8) = true := by kernel_rfl
theorem c13_12 : isB (run 13 12) = true := by kernel_rfl
theorem c14_2 : isB (run 14 2) = true := by kernel_rfl
theorem c14_5 : isB (run 14 5) = true := by kernel_rfl
theorem c14_9 : isB (run 14 9) = true := by kernel_rfl
theorem c14_13 : isB (run 14 13) = true := by kernel_rfl
theorem c15_5 : isB (run 15 5) = true := by kernel_rfl
theorem c15_9 : isB (run 15 9) = true := by kernel_rfl
theorem c15_13 : isB (run 15 13) = true := by kernel_rfl
theorem c16_1 : isB (run 16 1) = true := by kernel_rfl
theorem c16_3 : isB (run 16 3) = true := by kernel_rfl
theorem c16_7 : isB (run 16 7) = true := by kernel_rfl
theorem c16_11 : isB (run 16 11) = true := by kernel_rfl
theorem c16_15 : isB (run 16 15) = true := by kernel_rfl
theorem c17_6 : isB (run 17 6) = true := by kernel_rfl
theorem c17_10 : isB (run 17 10) = true := by kernel_rfl
theorem c17_14 : isB (run 17 14) = true := by kernel_rfl
theorem c18_0 : isB (run 18 0) = true := by kernel_rfl
theorem c18_1 : isB (run 18 1) = true := by kernel_rfl
theorem c18_5 : isB (run 18 5) = true := by kernel_rfl
theorem c18_9 : isB (run 18 9) = true := by kernel_rfl
theorem c18_13 : isB (run 18 13) = true := by kernel_rfl
theorem c18_17 : isB (run 18 17) = true := by kernel_rfl
theorem c19_3 : isB (run 19 3) = true := by kernel_rfl
theorem c19_7 : isB (run 19 7) = true := by kernel_rfl
theorem c19_11 : isB (run 19 11) = true := by kernel_rfl
theorem c19_15 : isB (run 19 15) = true := by kernel_rfl
end Go.Proofs.Ytkefldclfigkoaa.memLast
