/-
  The law MemLast at some of its numbers of writes and turns: the evaluator's run over the program ends in true. Conditions: none; these are closed facts.
-/
import Derived.Test.YtkefldclfigkoaaMemA
namespace Go.Proofs.Ytkefldclfigkoaa.memLast
open Go.Rn
theorem c3_2 : isB (run 3 2) = true := by kernel_rfl
theorem c4_2 : isB (run 4 2) = true := by kernel_rfl
theorem c5_3 : isB (run 5 3) = true := by kernel_rfl
theorem c6_1 : isB (run 6 1) = true := by kernel_rfl
theorem c6_4 : isB (run 6 4) = true := by kernel_rfl
theorem c7_4 : isB (run 7 4) = true := by kernel_rfl
theorem c8_0 : isB (run 8 0) = true := by kernel_rfl
theorem c8_2 : isB (run 8 2) = true := by kernel_rfl
theorem c8_6 : isB (run 8 6) = true := by kernel_rfl
theorem c9_2 : isB (run 9 2) = true := by kernel_rfl
theorem c9_5 : isB (run 9 5) = true := by kernel_rfl
theorem c10_4 : isB (run 10 4) = true := by kernel_rfl
theorem c10_8 : isB (run 10 8) = true := by kernel_rfl
theorem c11_2 : isB (run 11 2) = true := by kernel_rfl
theorem c11_6 : isB (run 11 6) = true := by kernel_rfl
theorem c11_10 : isB (run 11 10) = true := by kernel_rfl
theorem c12_2 : isB (run 12 2) = true := by kernel_rfl
theorem c12_6 : isB (run 12 6) = true := by kernel_rfl
theorem c12_10 : isB (run 12 10) = true := by kernel_rfl
theorem c13_3 : isB (run 13 3) = true := by kernel_rfl
theorem c13_7 : isB (run 13 7) = true := by kernel_rfl
theorem c13_11 : isB (run 13 11) = true := by kernel_rfl
theorem c14_1 : isB (run 14 1) = true := by kernel_rfl
theorem c14_4 : isB (run 14 4) = true := by kernel_rfl
theorem c14_8 : isB (run 14 8) = true := by kernel_rfl
theorem c14_12 : isB (run 14 12) = true := by kernel_rfl
theorem c15_4 : isB (run 15 4) = true := by kernel_rfl
theorem c15_8 : isB (run 15 8) = true := by kernel_rfl
theorem c15_12 : isB (run 15 12) = true := by kernel_rfl
theorem c16_0 : isB (run 16 0) = true := by kernel_rfl
theorem c16_2 : isB (run 16 2) = true := by kernel_rfl
theorem c16_6 : isB (run 16 6) = true := by kernel_rfl
theorem c16_10 : isB (run 16 10) = true := by kernel_rfl
theorem c16_14 : isB (run 16 14) = true := by kernel_rfl
theorem c17_2 : isB (run 17 2) = true := by kernel_rfl
theorem c17_5 : isB (run 17 5) = true := by kernel_rfl
theorem c17_9 : isB (run 17 9) = true := by kernel_rfl
theorem c17_13 : isB (run 17 13) = true := by kernel_rfl
theorem c18_4 : isB (run 18 4) = true := by kernel_rfl
theorem c18_8 : isB (run 18 8) = true := by kernel_rfl
theorem c18_12 : isB (run 18 12) = true := by kernel_rfl
theorem c18_16 : isB (run 18 16) = true := by kernel_rfl
theorem c19_2 : isB (run 19 2) = true := by kernel_rfl
theorem c19_6 : isB (run 19 6) = true := by kernel_rfl
theorem c19_10 : isB (run 19 10) = true := by kernel_rfl
theorem c19_14 : isB (run 19 14) = true := by kernel_rfl
theorem c19_18 : isB (run 19 18) = true := by kernel_rfl
end Go.Proofs.Ytkefldclfigkoaa.memLast
