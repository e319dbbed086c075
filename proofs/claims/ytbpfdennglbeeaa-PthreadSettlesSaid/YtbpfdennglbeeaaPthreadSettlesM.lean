/-
  The law PthreadSettles at some of its cases: the run over the program ends in true. Conditions: none; these are closed facts.
-/
import Derived.Test.YtbpfdennglbeeaaPthreadSettlesA
namespace Go.Proofs.Ytbpfdennglbeeaa.pthreadSettlesq
open Go.Rn Ytbpfdennglbeeaa.txt
theorem p8_125_0 (L c : Nat) : seg (runS [T,T,T,T,T,F,T] 7 (L + 8) c 14) 0 4 = .yes := by kernel_rfl
theorem p8_125_1 (L c : Nat) : seg (runS [T,T,T,T,T,F,T] 7 (L + 8) c 14) 4 4 = .yes := by kernel_rfl
theorem p8_125_2 (L c : Nat) : seg (runS [T,T,T,T,T,F,T] 7 (L + 8) c 14) 8 4 = .yes := by kernel_rfl
theorem p8_125_3 (L c : Nat) : seg (runS [T,T,T,T,T,F,T] 7 (L + 8) c 14) 12 2 = .yes := by kernel_rfl
theorem p7_115_0 (c : Nat) : seg (runS [T,T,T,F,F,T,T] 7 7 c 13) 0 4 = .yes := by kernel_rfl
theorem p7_115_1 (c : Nat) : seg (runS [T,T,T,F,F,T,T] 7 7 c 13) 4 4 = .yes := by kernel_rfl
theorem p7_115_2 (c : Nat) : seg (runS [T,T,T,F,F,T,T] 7 7 c 13) 8 4 = .yes := by kernel_rfl
theorem p7_115_3 (c : Nat) : seg (runS [T,T,T,F,F,T,T] 7 7 c 13) 12 1 = .yes := by kernel_rfl
theorem p7_59_0 (c : Nat) : seg (runS [F,T,T,T,F,T,T] 7 7 c 13) 0 4 = .yes := by kernel_rfl
theorem p7_59_1 (c : Nat) : seg (runS [F,T,T,T,F,T,T] 7 7 c 13) 4 4 = .yes := by kernel_rfl
theorem p7_59_2 (c : Nat) : seg (runS [F,T,T,T,F,T,T] 7 7 c 13) 8 4 = .yes := by kernel_rfl
theorem p7_59_3 (c : Nat) : seg (runS [F,T,T,T,F,T,T] 7 7 c 13) 12 1 = .yes := by kernel_rfl
theorem p8_107_0 (L c : Nat) : seg (runS [T,T,F,T,F,T,T] 7 (L + 8) c 13) 0 4 = .yes := by kernel_rfl
theorem p8_107_1 (L c : Nat) : seg (runS [T,T,F,T,F,T,T] 7 (L + 8) c 13) 4 4 = .yes := by kernel_rfl
theorem p8_107_2 (L c : Nat) : seg (runS [T,T,F,T,F,T,T] 7 (L + 8) c 13) 8 4 = .yes := by kernel_rfl
theorem p8_107_3 (L c : Nat) : seg (runS [T,T,F,T,F,T,T] 7 (L + 8) c 13) 12 1 = .yes := by kernel_rfl
theorem p8_31_0 (L c : Nat) : seg (runS [F,F,T,T,T,T,T] 7 (L + 8) c 13) 0 4 = .yes := by kernel_rfl
theorem p8_31_1 (L c : Nat) : seg (runS [F,F,T,T,T,T,T] 7 (L + 8) c 13) 4 4 = .yes := by kernel_rfl
theorem p8_31_2 (L c : Nat) : seg (runS [F,F,T,T,T,T,T] 7 (L + 8) c 13) 8 4 = .yes := by kernel_rfl
theorem p8_31_3 (L c : Nat) : seg (runS [F,F,T,T,T,T,T] 7 (L + 8) c 13) 12 1 = .yes := by kernel_rfl
theorem p7_106_0 (c : Nat) : seg (runS [T,T,F,T,F,T,F] 7 7 c 12) 0 4 = .yes := by kernel_rfl
theorem p7_106_1 (c : Nat) : seg (runS [T,T,F,T,F,T,F] 7 7 c 12) 4 4 = .yes := by kernel_rfl
theorem p7_106_2 (c : Nat) : seg (runS [T,T,F,T,F,T,F] 7 7 c 12) 8 4 = .yes := by kernel_rfl
theorem p7_77_0 (c : Nat) : seg (runS [T,F,F,T,T,F,T] 7 7 c 12) 0 4 = .yes := by kernel_rfl
theorem p7_77_1 (c : Nat) : seg (runS [T,F,F,T,T,F,T] 7 7 c 12) 4 4 = .yes := by kernel_rfl
theorem p7_77_2 (c : Nat) : seg (runS [T,F,F,T,T,F,T] 7 7 c 12) 8 4 = .yes := by kernel_rfl
theorem p7_39_0 (c : Nat) : seg (runS [F,T,F,F,T,T,T] 7 7 c 12) 0 4 = .yes := by kernel_rfl
theorem p7_39_1 (c : Nat) : seg (runS [F,T,F,F,T,T,T] 7 7 c 12) 4 4 = .yes := by kernel_rfl
theorem p7_39_2 (c : Nat) : seg (runS [F,T,F,F,T,T,T] 7 7 c 12) 8 4 = .yes := by kernel_rfl
theorem p8_105_0 (L c : Nat) : seg (runS [T,T,F,T,F,F,T] 7 (L + 8) c 12) 0 4 = .yes := by kernel_rfl
theorem p8_105_1 (L c : Nat) : seg (runS [T,T,F,T,F,F,T] 7 (L + 8) c 12) 4 4 = .yes := by kernel_rfl
theorem p8_105_2 (L c : Nat) : seg (runS [T,T,F,T,F,F,T] 7 (L + 8) c 12) 8 4 = .yes := by kernel_rfl
theorem p8_75_0 (L c : Nat) : seg (runS [T,F,F,T,F,T,T] 7 (L + 8) c 12) 0 4 = .yes := by kernel_rfl
theorem p8_75_1 (L c : Nat) : seg (runS [T,F,F,T,F,T,T] 7 (L + 8) c 12) 4 4 = .yes := by kernel_rfl
theorem p8_75_2 (L c : Nat) : seg (runS [T,F,F,T,F,T,T] 7 (L + 8) c 12) 8 4 = .yes := by kernel_rfl
theorem p8_30_0 (L c : Nat) : seg (runS [F,F,T,T,T,T,F] 7 (L + 8) c 12) 0 4 = .yes := by kernel_rfl
theorem p8_30_1 (L c : Nat) : seg (runS [F,F,T,T,T,T,F] 7 (L + 8) c 12) 4 4 = .yes := by kernel_rfl
theorem p8_30_2 (L c : Nat) : seg (runS [F,F,T,T,T,T,F] 7 (L + 8) c 12) 8 4 = .yes := by kernel_rfl
theorem p6_46_0 (c : Nat) : seg (runS [T,F,T,T,T,F] 6 6 c 11) 0 4 = .yes := by kernel_rfl
theorem p6_46_1 (c : Nat) : seg (runS [T,F,T,T,T,F] 6 6 c 11) 4 4 = .yes := by kernel_rfl
theorem p6_46_2 (c : Nat) : seg (runS [T,F,T,T,T,F] 6 6 c 11) 8 3 = .yes := by kernel_rfl
theorem p7_98_0 (c : Nat) : seg (runS [T,T,F,F,F,T,F] 7 7 c 11) 0 4 = .yes := by kernel_rfl
theorem p7_98_1 (c : Nat) : seg (runS [T,T,F,F,F,T,F] 7 7 c 11) 4 4 = .yes := by kernel_rfl
theorem p7_98_2 (c : Nat) : seg (runS [T,T,F,F,F,T,F] 7 7 c 11) 8 3 = .yes := by kernel_rfl
theorem p7_56_0 (c : Nat) : seg (runS [F,T,T,T,F,F,F] 7 7 c 11) 0 4 = .yes := by kernel_rfl
theorem p7_56_1 (c : Nat) : seg (runS [F,T,T,T,F,F,F] 7 7 c 11) 4 4 = .yes := by kernel_rfl
theorem p7_56_2 (c : Nat) : seg (runS [F,T,T,T,F,F,F] 7 7 c 11) 8 3 = .yes := by kernel_rfl
theorem p7_25_0 (c : Nat) : seg (runS [F,F,T,T,F,F,T] 7 7 c 11) 0 4 = .yes := by kernel_rfl
theorem p7_25_1 (c : Nat) : seg (runS [F,F,T,T,F,F,T] 7 7 c 11) 4 4 = .yes := by kernel_rfl
theorem p7_25_2 (c : Nat) : seg (runS [F,F,T,T,F,F,T] 7 7 c 11) 8 3 = .yes := by kernel_rfl
theorem p8_97_0 (L c : Nat) : seg (runS [T,T,F,F,F,F,T] 7 (L + 8) c 11) 0 4 = .yes := by kernel_rfl
theorem p8_97_1 (L c : Nat) : seg (runS [T,T,F,F,F,F,T] 7 (L + 8) c 11) 4 4 = .yes := by kernel_rfl
theorem p8_97_2 (L c : Nat) : seg (runS [T,T,F,F,F,F,T] 7 (L + 8) c 11) 8 3 = .yes := by kernel_rfl
theorem p8_52_0 (L c : Nat) : seg (runS [F,T,T,F,T,F,F] 7 (L + 8) c 11) 0 4 = .yes := by kernel_rfl
theorem p8_52_1 (L c : Nat) : seg (runS [F,T,T,F,T,F,F] 7 (L + 8) c 11) 4 4 = .yes := by kernel_rfl
theorem p8_52_2 (L c : Nat) : seg (runS [F,T,T,F,T,F,F] 7 (L + 8) c 11) 8 3 = .yes := by kernel_rfl
theorem p8_22_0 (L c : Nat) : seg (runS [F,F,T,F,T,T,F] 7 (L + 8) c 11) 0 4 = .yes := by kernel_rfl
theorem p8_22_1 (L c : Nat) : seg (runS [F,F,T,F,T,T,F] 7 (L + 8) c 11) 4 4 = .yes := by kernel_rfl
theorem p8_22_2 (L c : Nat) : seg (runS [F,F,T,F,T,T,F] 7 (L + 8) c 11) 8 3 = .yes := by kernel_rfl
theorem p6_56_0 (c : Nat) : seg (runS [T,T,T,F,F,F] 6 6 c 10) 0 4 = .yes := by kernel_rfl
theorem p6_56_1 (c : Nat) : seg (runS [T,T,T,F,F,F] 6 6 c 10) 4 4 = .yes := by kernel_rfl
theorem p6_56_2 (c : Nat) : seg (runS [T,T,T,F,F,F] 6 6 c 10) 8 2 = .yes := by kernel_rfl
theorem p6_25_0 (c : Nat) : seg (runS [F,T,T,F,F,T] 6 6 c 10) 0 4 = .yes := by kernel_rfl
theorem p6_25_1 (c : Nat) : seg (runS [F,T,T,F,F,T] 6 6 c 10) 4 4 = .yes := by kernel_rfl
theorem p6_25_2 (c : Nat) : seg (runS [F,T,T,F,F,T] 6 6 c 10) 8 2 = .yes := by kernel_rfl
theorem p7_66_0 (c : Nat) : seg (runS [T,F,F,F,F,T,F] 7 7 c 10) 0 4 = .yes := by kernel_rfl
theorem p7_66_1 (c : Nat) : seg (runS [T,F,F,F,F,T,F] 7 7 c 10) 4 4 = .yes := by kernel_rfl
theorem p7_66_2 (c : Nat) : seg (runS [T,F,F,F,F,T,F] 7 7 c 10) 8 2 = .yes := by kernel_rfl
theorem p7_10_0 (c : Nat) : seg (runS [F,F,F,T,F,T,F] 7 7 c 10) 0 4 = .yes := by kernel_rfl
theorem p7_10_1 (c : Nat) : seg (runS [F,F,F,T,F,T,F] 7 7 c 10) 4 4 = .yes := by kernel_rfl
theorem p7_10_2 (c : Nat) : seg (runS [F,F,F,T,F,T,F] 7 7 c 10) 8 2 = .yes := by kernel_rfl
theorem p8_40_0 (L c : Nat) : seg (runS [F,T,F,T,F,F,F] 7 (L + 8) c 10) 0 4 = .yes := by kernel_rfl
theorem p8_40_1 (L c : Nat) : seg (runS [F,T,F,T,F,F,F] 7 (L + 8) c 10) 4 4 = .yes := by kernel_rfl
theorem p8_40_2 (L c : Nat) : seg (runS [F,T,F,T,F,F,F] 7 (L + 8) c 10) 8 2 = .yes := by kernel_rfl
theorem p8_5_0 (L c : Nat) : seg (runS [F,F,F,F,T,F,T] 7 (L + 8) c 10) 0 4 = .yes := by kernel_rfl
theorem p8_5_1 (L c : Nat) : seg (runS [F,F,F,F,T,F,T] 7 (L + 8) c 10) 4 4 = .yes := by kernel_rfl
theorem p8_5_2 (L c : Nat) : seg (runS [F,F,F,F,T,F,T] 7 (L + 8) c 10) 8 2 = .yes := by kernel_rfl
theorem p5_7_0 (c : Nat) : seg (runS [F,F,T,T,T] 5 5 c 9) 0 4 = .yes := by kernel_rfl
theorem p5_7_1 (c : Nat) : seg (runS [F,F,T,T,T] 5 5 c 9) 4 4 = .yes := by kernel_rfl
theorem p5_7_2 (c : Nat) : seg (runS [F,F,T,T,T] 5 5 c 9) 8 1 = .yes := by kernel_rfl
theorem p6_9_0 (c : Nat) : seg (runS [F,F,T,F,F,T] 6 6 c 9) 0 4 = .yes := by kernel_rfl
theorem p6_9_1 (c : Nat) : seg (runS [F,F,T,F,F,T] 6 6 c 9) 4 4 = .yes := by kernel_rfl
theorem p6_9_2 (c : Nat) : seg (runS [F,F,T,F,F,T] 6 6 c 9) 8 1 = .yes := by kernel_rfl
theorem p8_32_0 (L c : Nat) : seg (runS [F,T,F,F,F,F,F] 7 (L + 8) c 9) 0 4 = .yes := by kernel_rfl
theorem p8_32_1 (L c : Nat) : seg (runS [F,T,F,F,F,F,F] 7 (L + 8) c 9) 4 4 = .yes := by kernel_rfl
theorem p8_32_2 (L c : Nat) : seg (runS [F,T,F,F,F,F,F] 7 (L + 8) c 9) 8 1 = .yes := by kernel_rfl
theorem p5_18_0 (c : Nat) : seg (runS [T,F,F,T,F] 5 5 c 8) 0 4 = .yes := by kernel_rfl
theorem p5_18_1 (c : Nat) : seg (runS [T,F,F,T,F] 5 5 c 8) 4 4 = .yes := by kernel_rfl
theorem p6_2_0 (c : Nat) : seg (runS [F,F,F,F,T,F] 6 6 c 8) 0 4 = .yes := by kernel_rfl
theorem p6_2_1 (c : Nat) : seg (runS [F,F,F,F,T,F] 6 6 c 8) 4 4 = .yes := by kernel_rfl
theorem p5_8_0 (c : Nat) : seg (runS [F,T,F,F,F] 5 5 c 7) 0 4 = .yes := by kernel_rfl
theorem p5_8_1 (c : Nat) : seg (runS [F,T,F,F,F] 5 5 c 7) 4 3 = .yes := by kernel_rfl
theorem p5_0_0 (c : Nat) : seg (runS [F,F,F,F,F] 5 5 c 6) 0 4 = .yes := by kernel_rfl
theorem p5_0_1 (c : Nat) : seg (runS [F,F,F,F,F] 5 5 c 6) 4 2 = .yes := by kernel_rfl
end Go.Proofs.Ytbpfdennglbeeaa.pthreadSettlesq
