/-
  The law PthreadSettles at some of its cases: the run over the program ends in true. Conditions: none; these are closed facts.
-/
import Derived.Test.YtbpfdennglbeeaaPthreadSettlesA
namespace Go.Proofs.Ytbpfdennglbeeaa.pthreadSettlesq
open Go.Rn Ytbpfdennglbeeaa.txt
theorem p8_127_0 (L c : Nat) : seg (runS [T,T,T,T,T,T,T] 7 (L + 8) c 15) 0 4 = .yes := by kernel_rfl
theorem p8_127_1 (L c : Nat) : seg (runS [T,T,T,T,T,T,T] 7 (L + 8) c 15) 4 4 = .yes := by kernel_rfl
theorem p8_127_2 (L c : Nat) : seg (runS [T,T,T,T,T,T,T] 7 (L + 8) c 15) 8 4 = .yes := by kernel_rfl
theorem p8_127_3 (L c : Nat) : seg (runS [T,T,T,T,T,T,T] 7 (L + 8) c 15) 12 3 = .yes := by kernel_rfl
theorem p8_111_0 (L c : Nat) : seg (runS [T,T,F,T,T,T,T] 7 (L + 8) c 14) 0 4 = .yes := by kernel_rfl
theorem p8_111_1 (L c : Nat) : seg (runS [T,T,F,T,T,T,T] 7 (L + 8) c 14) 4 4 = .yes := by kernel_rfl
theorem p8_111_2 (L c : Nat) : seg (runS [T,T,F,T,T,T,T] 7 (L + 8) c 14) 8 4 = .yes := by kernel_rfl
theorem p8_111_3 (L c : Nat) : seg (runS [T,T,F,T,T,T,T] 7 (L + 8) c 14) 12 2 = .yes := by kernel_rfl
theorem p7_107_0 (c : Nat) : seg (runS [T,T,F,T,F,T,T] 7 7 c 13) 0 4 = .yes := by kernel_rfl
theorem p7_107_1 (c : Nat) : seg (runS [T,T,F,T,F,T,T] 7 7 c 13) 4 4 = .yes := by kernel_rfl
theorem p7_107_2 (c : Nat) : seg (runS [T,T,F,T,F,T,T] 7 7 c 13) 8 4 = .yes := by kernel_rfl
theorem p7_107_3 (c : Nat) : seg (runS [T,T,F,T,F,T,T] 7 7 c 13) 12 1 = .yes := by kernel_rfl
theorem p7_31_0 (c : Nat) : seg (runS [F,F,T,T,T,T,T] 7 7 c 13) 0 4 = .yes := by kernel_rfl
theorem p7_31_1 (c : Nat) : seg (runS [F,F,T,T,T,T,T] 7 7 c 13) 4 4 = .yes := by kernel_rfl
theorem p7_31_2 (c : Nat) : seg (runS [F,F,T,T,T,T,T] 7 7 c 13) 8 4 = .yes := by kernel_rfl
theorem p7_31_3 (c : Nat) : seg (runS [F,F,T,T,T,T,T] 7 7 c 13) 12 1 = .yes := by kernel_rfl
theorem p8_93_0 (L c : Nat) : seg (runS [T,F,T,T,T,F,T] 7 (L + 8) c 13) 0 4 = .yes := by kernel_rfl
theorem p8_93_1 (L c : Nat) : seg (runS [T,F,T,T,T,F,T] 7 (L + 8) c 13) 4 4 = .yes := by kernel_rfl
theorem p8_93_2 (L c : Nat) : seg (runS [T,F,T,T,T,F,T] 7 (L + 8) c 13) 8 4 = .yes := by kernel_rfl
theorem p8_93_3 (L c : Nat) : seg (runS [T,F,T,T,T,F,T] 7 (L + 8) c 13) 12 1 = .yes := by kernel_rfl
theorem p6_59_0 (c : Nat) : seg (runS [T,T,T,F,T,T] 6 6 c 12) 0 4 = .yes := by kernel_rfl
theorem p6_59_1 (c : Nat) : seg (runS [T,T,T,F,T,T] 6 6 c 12) 4 4 = .yes := by kernel_rfl
theorem p6_59_2 (c : Nat) : seg (runS [T,T,T,F,T,T] 6 6 c 12) 8 4 = .yes := by kernel_rfl
theorem p7_101_0 (c : Nat) : seg (runS [T,T,F,F,T,F,T] 7 7 c 12) 0 4 = .yes := by kernel_rfl
theorem p7_101_1 (c : Nat) : seg (runS [T,T,F,F,T,F,T] 7 7 c 12) 4 4 = .yes := by kernel_rfl
theorem p7_101_2 (c : Nat) : seg (runS [T,T,F,F,T,F,T] 7 7 c 12) 8 4 = .yes := by kernel_rfl
theorem p7_60_0 (c : Nat) : seg (runS [F,T,T,T,T,F,F] 7 7 c 12) 0 4 = .yes := by kernel_rfl
theorem p7_60_1 (c : Nat) : seg (runS [F,T,T,T,T,F,F] 7 7 c 12) 4 4 = .yes := by kernel_rfl
theorem p7_60_2 (c : Nat) : seg (runS [F,T,T,T,T,F,F] 7 7 c 12) 8 4 = .yes := by kernel_rfl
theorem p7_27_0 (c : Nat) : seg (runS [F,F,T,T,F,T,T] 7 7 c 12) 0 4 = .yes := by kernel_rfl
theorem p7_27_1 (c : Nat) : seg (runS [F,F,T,T,F,T,T] 7 7 c 12) 4 4 = .yes := by kernel_rfl
theorem p7_27_2 (c : Nat) : seg (runS [F,F,T,T,F,T,T] 7 7 c 12) 8 4 = .yes := by kernel_rfl
theorem p8_99_0 (L c : Nat) : seg (runS [T,T,F,F,F,T,T] 7 (L + 8) c 12) 0 4 = .yes := by kernel_rfl
theorem p8_99_1 (L c : Nat) : seg (runS [T,T,F,F,F,T,T] 7 (L + 8) c 12) 4 4 = .yes := by kernel_rfl
theorem p8_99_2 (L c : Nat) : seg (runS [T,T,F,F,F,T,T] 7 (L + 8) c 12) 8 4 = .yes := by kernel_rfl
theorem p8_58_0 (L c : Nat) : seg (runS [F,T,T,T,F,T,F] 7 (L + 8) c 12) 0 4 = .yes := by kernel_rfl
theorem p8_58_1 (L c : Nat) : seg (runS [F,T,T,T,F,T,F] 7 (L + 8) c 12) 4 4 = .yes := by kernel_rfl
theorem p8_58_2 (L c : Nat) : seg (runS [F,T,T,T,F,T,F] 7 (L + 8) c 12) 8 4 = .yes := by kernel_rfl
theorem p8_23_0 (L c : Nat) : seg (runS [F,F,T,F,T,T,T] 7 (L + 8) c 12) 0 4 = .yes := by kernel_rfl
theorem p8_23_1 (L c : Nat) : seg (runS [F,F,T,F,T,T,T] 7 (L + 8) c 12) 4 4 = .yes := by kernel_rfl
theorem p8_23_2 (L c : Nat) : seg (runS [F,F,T,F,T,T,T] 7 (L + 8) c 12) 8 4 = .yes := by kernel_rfl
theorem p6_39_0 (c : Nat) : seg (runS [T,F,F,T,T,T] 6 6 c 11) 0 4 = .yes := by kernel_rfl
theorem p6_39_1 (c : Nat) : seg (runS [T,F,F,T,T,T] 6 6 c 11) 4 4 = .yes := by kernel_rfl
theorem p6_39_2 (c : Nat) : seg (runS [T,F,F,T,T,T] 6 6 c 11) 8 3 = .yes := by kernel_rfl
theorem p7_84_0 (c : Nat) : seg (runS [T,F,T,F,T,F,F] 7 7 c 11) 0 4 = .yes := by kernel_rfl
theorem p7_84_1 (c : Nat) : seg (runS [T,F,T,F,T,F,F] 7 7 c 11) 4 4 = .yes := by kernel_rfl
theorem p7_84_2 (c : Nat) : seg (runS [T,F,T,F,T,F,F] 7 7 c 11) 8 3 = .yes := by kernel_rfl
theorem p7_49_0 (c : Nat) : seg (runS [F,T,T,F,F,F,T] 7 7 c 11) 0 4 = .yes := by kernel_rfl
theorem p7_49_1 (c : Nat) : seg (runS [F,T,T,F,F,F,T] 7 7 c 11) 4 4 = .yes := by kernel_rfl
theorem p7_49_2 (c : Nat) : seg (runS [F,T,T,F,F,F,T] 7 7 c 11) 8 3 = .yes := by kernel_rfl
theorem p7_19_0 (c : Nat) : seg (runS [F,F,T,F,F,T,T] 7 7 c 11) 0 4 = .yes := by kernel_rfl
theorem p7_19_1 (c : Nat) : seg (runS [F,F,T,F,F,T,T] 7 7 c 11) 4 4 = .yes := by kernel_rfl
theorem p7_19_2 (c : Nat) : seg (runS [F,F,T,F,F,T,T] 7 7 c 11) 8 3 = .yes := by kernel_rfl
theorem p8_82_0 (L c : Nat) : seg (runS [T,F,T,F,F,T,F] 7 (L + 8) c 11) 0 4 = .yes := by kernel_rfl
theorem p8_82_1 (L c : Nat) : seg (runS [T,F,T,F,F,T,F] 7 (L + 8) c 11) 4 4 = .yes := by kernel_rfl
theorem p8_82_2 (L c : Nat) : seg (runS [T,F,T,F,F,T,F] 7 (L + 8) c 11) 8 3 = .yes := by kernel_rfl
theorem p8_44_0 (L c : Nat) : seg (runS [F,T,F,T,T,F,F] 7 (L + 8) c 11) 0 4 = .yes := by kernel_rfl
theorem p8_44_1 (L c : Nat) : seg (runS [F,T,F,T,T,F,F] 7 (L + 8) c 11) 4 4 = .yes := by kernel_rfl
theorem p8_44_2 (L c : Nat) : seg (runS [F,T,F,T,T,F,F] 7 (L + 8) c 11) 8 3 = .yes := by kernel_rfl
theorem p8_14_0 (L c : Nat) : seg (runS [F,F,F,T,T,T,F] 7 (L + 8) c 11) 0 4 = .yes := by kernel_rfl
theorem p8_14_1 (L c : Nat) : seg (runS [F,F,F,T,T,T,F] 7 (L + 8) c 11) 4 4 = .yes := by kernel_rfl
theorem p8_14_2 (L c : Nat) : seg (runS [F,F,F,T,T,T,F] 7 (L + 8) c 11) 8 3 = .yes := by kernel_rfl
theorem p6_49_0 (c : Nat) : seg (runS [T,T,F,F,F,T] 6 6 c 10) 0 4 = .yes := by kernel_rfl
theorem p6_49_1 (c : Nat) : seg (runS [T,T,F,F,F,T] 6 6 c 10) 4 4 = .yes := by kernel_rfl
theorem p6_49_2 (c : Nat) : seg (runS [T,T,F,F,F,T] 6 6 c 10) 8 2 = .yes := by kernel_rfl
theorem p6_19_0 (c : Nat) : seg (runS [F,T,F,F,T,T] 6 6 c 10) 0 4 = .yes := by kernel_rfl
theorem p6_19_1 (c : Nat) : seg (runS [F,T,F,F,T,T] 6 6 c 10) 4 4 = .yes := by kernel_rfl
theorem p6_19_2 (c : Nat) : seg (runS [F,T,F,F,T,T] 6 6 c 10) 8 2 = .yes := by kernel_rfl
theorem p7_40_0 (c : Nat) : seg (runS [F,T,F,T,F,F,F] 7 7 c 10) 0 4 = .yes := by kernel_rfl
theorem p7_40_1 (c : Nat) : seg (runS [F,T,F,T,F,F,F] 7 7 c 10) 4 4 = .yes := by kernel_rfl
theorem p7_40_2 (c : Nat) : seg (runS [F,T,F,T,F,F,F] 7 7 c 10) 8 2 = .yes := by kernel_rfl
theorem p7_5_0 (c : Nat) : seg (runS [F,F,F,F,T,F,T] 7 7 c 10) 0 4 = .yes := by kernel_rfl
theorem p7_5_1 (c : Nat) : seg (runS [F,F,F,F,T,F,T] 7 7 c 10) 4 4 = .yes := by kernel_rfl
theorem p7_5_2 (c : Nat) : seg (runS [F,F,F,F,T,F,T] 7 7 c 10) 8 2 = .yes := by kernel_rfl
theorem p8_33_0 (L c : Nat) : seg (runS [F,T,F,F,F,F,T] 7 (L + 8) c 10) 0 4 = .yes := by kernel_rfl
theorem p8_33_1 (L c : Nat) : seg (runS [F,T,F,F,F,F,T] 7 (L + 8) c 10) 4 4 = .yes := by kernel_rfl
theorem p8_33_2 (L c : Nat) : seg (runS [F,T,F,F,F,F,T] 7 (L + 8) c 10) 8 2 = .yes := by kernel_rfl
theorem p5_28_0 (c : Nat) : seg (runS [T,T,T,F,F] 5 5 c 9) 0 4 = .yes := by kernel_rfl
theorem p5_28_1 (c : Nat) : seg (runS [T,T,T,F,F] 5 5 c 9) 4 4 = .yes := by kernel_rfl
theorem p5_28_2 (c : Nat) : seg (runS [T,T,T,F,F] 5 5 c 9) 8 1 = .yes := by kernel_rfl
theorem p6_36_0 (c : Nat) : seg (runS [T,F,F,T,F,F] 6 6 c 9) 0 4 = .yes := by kernel_rfl
theorem p6_36_1 (c : Nat) : seg (runS [T,F,F,T,F,F] 6 6 c 9) 4 4 = .yes := by kernel_rfl
theorem p6_36_2 (c : Nat) : seg (runS [T,F,F,T,F,F] 6 6 c 9) 8 1 = .yes := by kernel_rfl
theorem p6_3_0 (c : Nat) : seg (runS [F,F,F,F,T,T] 6 6 c 9) 0 4 = .yes := by kernel_rfl
theorem p6_3_1 (c : Nat) : seg (runS [F,F,F,F,T,T] 6 6 c 9) 4 4 = .yes := by kernel_rfl
theorem p6_3_2 (c : Nat) : seg (runS [F,F,F,F,T,T] 6 6 c 9) 8 1 = .yes := by kernel_rfl
theorem p8_4_0 (L c : Nat) : seg (runS [F,F,F,F,T,F,F] 7 (L + 8) c 9) 0 4 = .yes := by kernel_rfl
theorem p8_4_1 (L c : Nat) : seg (runS [F,F,F,F,T,F,F] 7 (L + 8) c 9) 4 4 = .yes := by kernel_rfl
theorem p8_4_2 (L c : Nat) : seg (runS [F,F,F,F,T,F,F] 7 (L + 8) c 9) 8 1 = .yes := by kernel_rfl
theorem p5_10_0 (c : Nat) : seg (runS [F,T,F,T,F] 5 5 c 8) 0 4 = .yes := by kernel_rfl
theorem p5_10_1 (c : Nat) : seg (runS [F,T,F,T,F] 5 5 c 8) 4 4 = .yes := by kernel_rfl
theorem p8_0_0 (L c : Nat) : seg (runS [F,F,F,F,F,F,F] 7 (L + 8) c 8) 0 4 = .yes := by kernel_rfl
theorem p8_0_1 (L c : Nat) : seg (runS [F,F,F,F,F,F,F] 7 (L + 8) c 8) 4 4 = .yes := by kernel_rfl
theorem p5_1_0 (c : Nat) : seg (runS [F,F,F,F,T] 5 5 c 7) 0 4 = .yes := by kernel_rfl
theorem p5_1_1 (c : Nat) : seg (runS [F,F,F,F,T] 5 5 c 7) 4 3 = .yes := by kernel_rfl
theorem p3_2_0 (c : Nat) : seg (runS [F,T,F] 3 3 c 5) 0 4 = .yes := by kernel_rfl
theorem p3_2_1 (c : Nat) : seg (runS [F,T,F] 3 3 c 5) 4 1 = .yes := by kernel_rfl
end Go.Proofs.Ytbpfdennglbeeaa.pthreadSettlesq
