/-
  The law MemLast at some of its numbers of writes and turns: the evaluator's run over the program ends in true. Conditions: none; these are closed facts.
-/
import Derived.Test.YtkefldclfigkoaaMemA
namespace Go.Proofs.Ytkefldclfigkoaa.memLast
open Go.Rn
theorem c1_0 : isB (run 1 0) = true := by kernel_rfl
theorem c3_0 : isB (run 3 0) = true := by kernel_rfl
theorem c4_0 : isB (run 4 0) = true := by kernel_rfl
theorem c5_0 : isB (run 5 0) = true := by kernel_rfl
theorem c5_1 : isB (run 5 1) = true := by kernel_rfl
theorem c7_0 : isB (run 7 0) = true := by kernel_rfl
theorem c7_2 : isB (run 7 2) = true := by kernel_rfl
theorem c7_6 : isB (run 7 6) = true := by kernel_rfl
theorem c8_4 : isB (run 8 4) = true := by kernel_rfl
theorem c9_0 : isB (run 9 0) = true := by kernel_rfl
theorem c9_3 : isB (run 9 3) = true := by kernel_rfl
theorem c9_7 : isB (run 9 7) = true := by kernel_rfl
theorem c10_2 : isB (run 10 2) = true := by kernel_rfl
theorem c10_6 : isB (run 10 6) = true := by kernel_rfl
theorem c11_0 : isB (run 11 0) = true := by kernel_rfl
theorem c11_4 : isB (run 11 4) = true := by kernel_rfl
theorem c11_8 : isB (run 11 8) = true := by kernel_rfl
theorem c12_0 : isB (run 12 0) = true := by kernel_rfl
theorem c12_4 : isB (run 12 4) = true := by kernel_rfl
theorem c12_8 : isB (run 12 8) = true := by kernel_rfl
theorem c13_0 : isB (run 13 0) = true := by kernel_rfl
theorem c13_1 : isB (run 13 1) = true := by kernel_rfl
theorem c13_5 : isB (run 13 5) = true := by kernel_rfl
theorem c13_9 : isB (run 13 9) = true := by kernel_rfl
theorem c14_6 : isB (run 14 6) = true := by kernel_rfl
theorem c14_10 : isB (run 14 10) = true := by kernel_rfl
theorem c15_0 : isB (run 15 0) = true := by kernel_rfl
theorem c15_2 : isB (run 15 2) = true := by kernel_rfl
theorem c15_6 : isB (run 15 6) = true := by kernel_rfl
theorem c15_10 : isB (run 15 10) = true := by kernel_rfl
theorem c15_14 : isB (run 15 14) = true := by kernel_rfl
theorem c16_4 : isB (run 16 4) = true := by kernel_rfl
theorem c16_8 : isB (run 16 8) = true := by kernel_rfl
theorem c16_12 : isB (run 16 12) = true := by kernel_rfl
theorem c17_0 : isB (run 17 0) = true := by kernel_rfl
theorem c17_3 : isB (run 17 3) = true := by kernel_rfl
theorem c17_7 : isB (run 17 7) = true := by kernel_rfl
theorem c17_11 : isB (run 17 11) = true := by kernel_rfl
theorem c17_15 : isB (run 17 15) = true := by kernel_rfl
theorem c18_2 : isB (run 18 2) = true := by kernel_rfl
theorem c18_6 : isB (run 18 6) = true := by kernel_rfl
theorem c18_10 : isB (run 18 10) = true := by kernel_rfl
theorem c18_14 : isB (run 18 14) = true := by kernel_rfl
theorem c19_0 : isB (run 19 0) = true := by kernel_rfl
theorem c19_4 : isB (run 19 4) = true := by kernel_rfl
theorem c19_8 : isB (run 19 8) = true := by kernel_rfl
theorem c19_12 : isB (run 19 12) = true := by kernel_rfl
theorem c19_16 : isB (run 19 16) = true := by kernel_rfl
end Go.Proofs.Ytkefldclfigkoaa.memLast
