/-
  The law PthreadSettles at some of its cases: the run over the program ends in true. Conditions: none; these are closed facts.
-/
import Derived.Test.YtbpfdennglbeeaaPthreadSettlesA
namespace Go.Proofs.Ytbpfdennglbeeaa.pthreadSettlesq
open Go.Rn Ytbpfdennglbeeaa.txt
theorem p7_126_0 (c : Nat) : seg (runS [T,T,T,T,T,T,F] 7 7 c 14) 0 4 = .yes := by kernel_rfl
theorem p7_126_1 (c : Nat) : seg (runS [T,T,T,T,T,T,F] 7 7 c 14) 4 4 = .yes := by kernel_rfl
theorem p7_126_2 (c : Nat) : seg (runS [T,T,T,T,T,T,F] 7 7 c 14) 8 4 = .yes := by kernel_rfl
theorem p7_126_3 (c : Nat) : seg (runS [T,T,T,T,T,T,F] 7 7 c 14) 12 2 = .yes := by kernel_rfl
theorem p8_95_0 (L c : Nat) : seg (runS [T,F,T,T,T,T,T] 7 (L + 8) c 14) 0 4 = .yes := by kernel_rfl
theorem p8_95_1 (L c : Nat) : seg (runS [T,F,T,T,T,T,T] 7 (L + 8) c 14) 4 4 = .yes := by kernel_rfl
theorem p8_95_2 (L c : Nat) : seg (runS [T,F,T,T,T,T,T] 7 (L + 8) c 14) 8 4 = .yes := by kernel_rfl
theorem p8_95_3 (L c : Nat) : seg (runS [T,F,T,T,T,T,T] 7 (L + 8) c 14) 12 2 = .yes := by kernel_rfl
theorem p7_103_0 (c : Nat) : seg (runS [T,T,F,F,T,T,T] 7 7 c 13) 0 4 = .yes := by kernel_rfl
theorem p7_103_1 (c : Nat) : seg (runS [T,T,F,F,T,T,T] 7 7 c 13) 4 4 = .yes := by kernel_rfl
theorem p7_103_2 (c : Nat) : seg (runS [T,T,F,F,T,T,T] 7 7 c 13) 8 4 = .yes := by kernel_rfl
theorem p7_103_3 (c : Nat) : seg (runS [T,T,F,F,T,T,T] 7 7 c 13) 12 1 = .yes := by kernel_rfl
theorem p8_124_0 (L c : Nat) : seg (runS [T,T,T,T,T,F,F] 7 (L + 8) c 13) 0 4 = .yes := by kernel_rfl
theorem p8_124_1 (L c : Nat) : seg (runS [T,T,T,T,T,F,F] 7 (L + 8) c 13) 4 4 = .yes := by kernel_rfl
theorem p8_124_2 (L c : Nat) : seg (runS [T,T,T,T,T,F,F] 7 (L + 8) c 13) 8 4 = .yes := by kernel_rfl
theorem p8_124_3 (L c : Nat) : seg (runS [T,T,T,T,T,F,F] 7 (L + 8) c 13) 12 1 = .yes := by kernel_rfl
theorem p8_91_0 (L c : Nat) : seg (runS [T,F,T,T,F,T,T] 7 (L + 8) c 13) 0 4 = .yes := by kernel_rfl
theorem p8_91_1 (L c : Nat) : seg (runS [T,F,T,T,F,T,T] 7 (L + 8) c 13) 4 4 = .yes := by kernel_rfl
theorem p8_91_2 (L c : Nat) : seg (runS [T,F,T,T,F,T,T] 7 (L + 8) c 13) 8 4 = .yes := by kernel_rfl
theorem p8_91_3 (L c : Nat) : seg (runS [T,F,T,T,F,T,T] 7 (L + 8) c 13) 12 1 = .yes := by kernel_rfl
theorem p6_55_0 (c : Nat) : seg (runS [T,T,F,T,T,T] 6 6 c 12) 0 4 = .yes := by kernel_rfl
theorem p6_55_1 (c : Nat) : seg (runS [T,T,F,T,T,T] 6 6 c 12) 4 4 = .yes := by kernel_rfl
theorem p6_55_2 (c : Nat) : seg (runS [T,T,F,T,T,T] 6 6 c 12) 8 4 = .yes := by kernel_rfl
theorem p7_99_0 (c : Nat) : seg (runS [T,T,F,F,F,T,T] 7 7 c 12) 0 4 = .yes := by kernel_rfl
theorem p7_99_1 (c : Nat) : seg (runS [T,T,F,F,F,T,T] 7 7 c 12) 4 4 = .yes := by kernel_rfl
theorem p7_99_2 (c : Nat) : seg (runS [T,T,F,F,F,T,T] 7 7 c 12) 8 4 = .yes := by kernel_rfl
theorem p7_58_0 (c : Nat) : seg (runS [F,T,T,T,F,T,F] 7 7 c 12) 0 4 = .yes := by kernel_rfl
theorem p7_58_1 (c : Nat) : seg (runS [F,T,T,T,F,T,F] 7 7 c 12) 4 4 = .yes := by kernel_rfl
theorem p7_58_2 (c : Nat) : seg (runS [F,T,T,T,F,T,F] 7 7 c 12) 8 4 = .yes := by kernel_rfl
theorem p7_23_0 (c : Nat) : seg (runS [F,F,T,F,T,T,T] 7 7 c 12) 0 4 = .yes := by kernel_rfl
theorem p7_23_1 (c : Nat) : seg (runS [F,F,T,F,T,T,T] 7 7 c 12) 4 4 = .yes := by kernel_rfl
theorem p7_23_2 (c : Nat) : seg (runS [F,F,T,F,T,T,T] 7 7 c 12) 8 4 = .yes := by kernel_rfl
theorem p8_92_0 (L c : Nat) : seg (runS [T,F,T,T,T,F,F] 7 (L + 8) c 12) 0 4 = .yes := by kernel_rfl
theorem p8_92_1 (L c : Nat) : seg (runS [T,F,T,T,T,F,F] 7 (L + 8) c 12) 4 4 = .yes := by kernel_rfl
theorem p8_92_2 (L c : Nat) : seg (runS [T,F,T,T,T,F,F] 7 (L + 8) c 12) 8 4 = .yes := by kernel_rfl
theorem p8_57_0 (L c : Nat) : seg (runS [F,T,T,T,F,F,T] 7 (L + 8) c 12) 0 4 = .yes := by kernel_rfl
theorem p8_57_1 (L c : Nat) : seg (runS [F,T,T,T,F,F,T] 7 (L + 8) c 12) 4 4 = .yes := by kernel_rfl
theorem p8_57_2 (L c : Nat) : seg (runS [F,T,T,T,F,F,T] 7 (L + 8) c 12) 8 4 = .yes := by kernel_rfl
theorem p8_15_0 (L c : Nat) : seg (runS [F,F,F,T,T,T,T] 7 (L + 8) c 12) 0 4 = .yes := by kernel_rfl
theorem p8_15_1 (L c : Nat) : seg (runS [F,F,F,T,T,T,T] 7 (L + 8) c 12) 4 4 = .yes := by kernel_rfl
theorem p8_15_2 (L c : Nat) : seg (runS [F,F,F,T,T,T,T] 7 (L + 8) c 12) 8 4 = .yes := by kernel_rfl
theorem p6_30_0 (c : Nat) : seg (runS [F,T,T,T,T,F] 6 6 c 11) 0 4 = .yes := by kernel_rfl
theorem p6_30_1 (c : Nat) : seg (runS [F,T,T,T,T,F] 6 6 c 11) 4 4 = .yes := by kernel_rfl
theorem p6_30_2 (c : Nat) : seg (runS [F,T,T,T,T,F] 6 6 c 11) 8 3 = .yes := by kernel_rfl
theorem p7_82_0 (c : Nat) : seg (runS [T,F,T,F,F,T,F] 7 7 c 11) 0 4 = .yes := by kernel_rfl
theorem p7_82_1 (c : Nat) : seg (runS [T,F,T,F,F,T,F] 7 7 c 11) 4 4 = .yes := by kernel_rfl
theorem p7_82_2 (c : Nat) : seg (runS [T,F,T,F,F,T,F] 7 7 c 11) 8 3 = .yes := by kernel_rfl
theorem p7_44_0 (c : Nat) : seg (runS [F,T,F,T,T,F,F] 7 7 c 11) 0 4 = .yes := by kernel_rfl
theorem p7_44_1 (c : Nat) : seg (runS [F,T,F,T,T,F,F] 7 7 c 11) 4 4 = .yes := by kernel_rfl
theorem p7_44_2 (c : Nat) : seg (runS [F,T,F,T,T,F,F] 7 7 c 11) 8 3 = .yes := by kernel_rfl
theorem p7_14_0 (c : Nat) : seg (runS [F,F,F,T,T,T,F] 7 7 c 11) 0 4 = .yes := by kernel_rfl
theorem p7_14_1 (c : Nat) : seg (runS [F,F,F,T,T,T,F] 7 7 c 11) 4 4 = .yes := by kernel_rfl
theorem p7_14_2 (c : Nat) : seg (runS [F,F,F,T,T,T,F] 7 7 c 11) 8 3 = .yes := by kernel_rfl
theorem p8_81_0 (L c : Nat) : seg (runS [T,F,T,F,F,F,T] 7 (L + 8) c 11) 0 4 = .yes := by kernel_rfl
theorem p8_81_1 (L c : Nat) : seg (runS [T,F,T,F,F,F,T] 7 (L + 8) c 11) 4 4 = .yes := by kernel_rfl
theorem p8_81_2 (L c : Nat) : seg (runS [T,F,T,F,F,F,T] 7 (L + 8) c 11) 8 3 = .yes := by kernel_rfl
theorem p8_42_0 (L c : Nat) : seg (runS [F,T,F,T,F,T,F] 7 (L + 8) c 11) 0 4 = .yes := by kernel_rfl
theorem p8_42_1 (L c : Nat) : seg (runS [F,T,F,T,F,T,F] 7 (L + 8) c 11) 4 4 = .yes := by kernel_rfl
theorem p8_42_2 (L c : Nat) : seg (runS [F,T,F,T,F,T,F] 7 (L + 8) c 11) 8 3 = .yes := by kernel_rfl
theorem p8_13_0 (L c : Nat) : seg (runS [F,F,F,T,T,F,T] 7 (L + 8) c 11) 0 4 = .yes := by kernel_rfl
theorem p8_13_1 (L c : Nat) : seg (runS [F,F,F,T,T,F,T] 7 (L + 8) c 11) 4 4 = .yes := by kernel_rfl
theorem p8_13_2 (L c : Nat) : seg (runS [F,F,F,T,T,F,T] 7 (L + 8) c 11) 8 3 = .yes := by kernel_rfl
theorem p6_44_0 (c : Nat) : seg (runS [T,F,T,T,F,F] 6 6 c 10) 0 4 = .yes := by kernel_rfl
theorem p6_44_1 (c : Nat) : seg (runS [T,F,T,T,F,F] 6 6 c 10) 4 4 = .yes := by kernel_rfl
theorem p6_44_2 (c : Nat) : seg (runS [T,F,T,T,F,F] 6 6 c 10) 8 2 = .yes := by kernel_rfl
theorem p6_14_0 (c : Nat) : seg (runS [F,F,T,T,T,F] 6 6 c 10) 0 4 = .yes := by kernel_rfl
theorem p6_14_1 (c : Nat) : seg (runS [F,F,T,T,T,F] 6 6 c 10) 4 4 = .yes := by kernel_rfl
theorem p6_14_2 (c : Nat) : seg (runS [F,F,T,T,T,F] 6 6 c 10) 8 2 = .yes := by kernel_rfl
theorem p7_36_0 (c : Nat) : seg (runS [F,T,F,F,T,F,F] 7 7 c 10) 0 4 = .yes := by kernel_rfl
theorem p7_36_1 (c : Nat) : seg (runS [F,T,F,F,T,F,F] 7 7 c 10) 4 4 = .yes := by kernel_rfl
theorem p7_36_2 (c : Nat) : seg (runS [F,T,F,F,T,F,F] 7 7 c 10) 8 2 = .yes := by kernel_rfl
theorem p7_3_0 (c : Nat) : seg (runS [F,F,F,F,F,T,T] 7 7 c 10) 0 4 = .yes := by kernel_rfl
theorem p7_3_1 (c : Nat) : seg (runS [F,F,F,F,F,T,T] 7 7 c 10) 4 4 = .yes := by kernel_rfl
theorem p7_3_2 (c : Nat) : seg (runS [F,F,F,F,F,T,T] 7 7 c 10) 8 2 = .yes := by kernel_rfl
theorem p8_24_0 (L c : Nat) : seg (runS [F,F,T,T,F,F,F] 7 (L + 8) c 10) 0 4 = .yes := by kernel_rfl
theorem p8_24_1 (L c : Nat) : seg (runS [F,F,T,T,F,F,F] 7 (L + 8) c 10) 4 4 = .yes := by kernel_rfl
theorem p8_24_2 (L c : Nat) : seg (runS [F,F,T,T,F,F,F] 7 (L + 8) c 10) 8 2 = .yes := by kernel_rfl
theorem p5_26_0 (c : Nat) : seg (runS [T,T,F,T,F] 5 5 c 9) 0 4 = .yes := by kernel_rfl
theorem p5_26_1 (c : Nat) : seg (runS [T,T,F,T,F] 5 5 c 9) 4 4 = .yes := by kernel_rfl
theorem p5_26_2 (c : Nat) : seg (runS [T,T,F,T,F] 5 5 c 9) 8 1 = .yes := by kernel_rfl
theorem p6_34_0 (c : Nat) : seg (runS [T,F,F,F,T,F] 6 6 c 9) 0 4 = .yes := by kernel_rfl
theorem p6_34_1 (c : Nat) : seg (runS [T,F,F,F,T,F] 6 6 c 9) 4 4 = .yes := by kernel_rfl
theorem p6_34_2 (c : Nat) : seg (runS [T,F,F,F,T,F] 6 6 c 9) 8 1 = .yes := by kernel_rfl
theorem p7_64_0 (c : Nat) : seg (runS [T,F,F,F,F,F,F] 7 7 c 9) 0 4 = .yes := by kernel_rfl
theorem p7_64_1 (c : Nat) : seg (runS [T,F,F,F,F,F,F] 7 7 c 9) 4 4 = .yes := by kernel_rfl
theorem p7_64_2 (c : Nat) : seg (runS [T,F,F,F,F,F,F] 7 7 c 9) 8 1 = .yes := by kernel_rfl
theorem p8_2_0 (L c : Nat) : seg (runS [F,F,F,F,F,T,F] 7 (L + 8) c 9) 0 4 = .yes := by kernel_rfl
theorem p8_2_1 (L c : Nat) : seg (runS [F,F,F,F,F,T,F] 7 (L + 8) c 9) 4 4 = .yes := by kernel_rfl
theorem p8_2_2 (L c : Nat) : seg (runS [F,F,F,F,F,T,F] 7 (L + 8) c 9) 8 1 = .yes := by kernel_rfl
theorem p5_9_0 (c : Nat) : seg (runS [F,T,F,F,T] 5 5 c 8) 0 4 = .yes := by kernel_rfl
theorem p5_9_1 (c : Nat) : seg (runS [F,T,F,F,T] 5 5 c 8) 4 4 = .yes := by kernel_rfl
theorem p3_7_0 (c : Nat) : seg (runS [T,T,T] 3 3 c 7) 0 4 = .yes := by kernel_rfl
theorem p3_7_1 (c : Nat) : seg (runS [T,T,T] 3 3 c 7) 4 3 = .yes := by kernel_rfl
theorem p6_0_0 (c : Nat) : seg (runS [F,F,F,F,F,F] 6 6 c 7) 0 4 = .yes := by kernel_rfl
theorem p6_0_1 (c : Nat) : seg (runS [F,F,F,F,F,F] 6 6 c 7) 4 3 = .yes := by kernel_rfl
theorem p3_1_0 (c : Nat) : seg (runS [F,F,T] 3 3 c 5) 0 4 = .yes := by kernel_rfl
theorem p3_1_1 (c : Nat) : seg (runS [F,F,T] 3 3 c 5) 4 1 = .yes := by kernel_rfl
end Go.Proofs.Ytbpfdennglbeeaa.pthreadSettlesq
