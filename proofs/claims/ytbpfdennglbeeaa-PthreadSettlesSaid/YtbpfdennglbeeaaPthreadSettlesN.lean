/-
  The law PthreadSettles at some of its cases: the run over the program ends in true. Conditions: none; these are closed facts.
-/
import Derived.Test.YtbpfdennglbeeaaPthreadSettlesA
namespace Go.Proofs.Ytbpfdennglbeeaa.pthreadSettlesq
open Go.Rn Ytbpfdennglbeeaa.txt
theorem p8_123_0 (L c : Nat) : seg (runS [T,T,T,T,F,T,T] 7 (L + 8) c 14) 0 4 = .yes := by kernel_rfl
theorem p8_123_1 (L c : Nat) : seg (runS [T,T,T,T,F,T,T] 7 (L + 8) c 14) 4 4 = .yes := by kernel_rfl
theorem p8_123_2 (L c : Nat) : seg (runS [T,T,T,T,F,T,T] 7 (L + 8) c 14) 8 4 = .yes := by kernel_rfl
theorem p8_123_3 (L c : Nat) : seg (runS [T,T,T,T,F,T,T] 7 (L + 8) c 14) 12 2 = .yes := by kernel_rfl
theorem p7_110_0 (c : Nat) : seg (runS [T,T,F,T,T,T,F] 7 7 c 13) 0 4 = .yes := by kernel_rfl
theorem p7_110_1 (c : Nat) : seg (runS [T,T,F,T,T,T,F] 7 7 c 13) 4 4 = .yes := by kernel_rfl
theorem p7_110_2 (c : Nat) : seg (runS [T,T,F,T,T,T,F] 7 7 c 13) 8 4 = .yes := by kernel_rfl
theorem p7_110_3 (c : Nat) : seg (runS [T,T,F,T,T,T,F] 7 7 c 13) 12 1 = .yes := by kernel_rfl
theorem p7_55_0 (c : Nat) : seg (runS [F,T,T,F,T,T,T] 7 7 c 13) 0 4 = .yes := by kernel_rfl
theorem p7_55_1 (c : Nat) : seg (runS [F,T,T,F,T,T,T] 7 7 c 13) 4 4 = .yes := by kernel_rfl
theorem p7_55_2 (c : Nat) : seg (runS [F,T,T,F,T,T,T] 7 7 c 13) 8 4 = .yes := by kernel_rfl
theorem p7_55_3 (c : Nat) : seg (runS [F,T,T,F,T,T,T] 7 7 c 13) 12 1 = .yes := by kernel_rfl
theorem p8_103_0 (L c : Nat) : seg (runS [T,T,F,F,T,T,T] 7 (L + 8) c 13) 0 4 = .yes := by kernel_rfl
theorem p8_103_1 (L c : Nat) : seg (runS [T,T,F,F,T,T,T] 7 (L + 8) c 13) 4 4 = .yes := by kernel_rfl
theorem p8_103_2 (L c : Nat) : seg (runS [T,T,F,F,T,T,T] 7 (L + 8) c 13) 8 4 = .yes := by kernel_rfl
theorem p8_103_3 (L c : Nat) : seg (runS [T,T,F,F,T,T,T] 7 (L + 8) c 13) 12 1 = .yes := by kernel_rfl
theorem p6_62_0 (c : Nat) : seg (runS [T,T,T,T,T,F] 6 6 c 12) 0 4 = .yes := by kernel_rfl
theorem p6_62_1 (c : Nat) : seg (runS [T,T,T,T,T,F] 6 6 c 12) 4 4 = .yes := by kernel_rfl
theorem p6_62_2 (c : Nat) : seg (runS [T,T,T,T,T,F] 6 6 c 12) 8 4 = .yes := by kernel_rfl
theorem p7_105_0 (c : Nat) : seg (runS [T,T,F,T,F,F,T] 7 7 c 12) 0 4 = .yes := by kernel_rfl
theorem p7_105_1 (c : Nat) : seg (runS [T,T,F,T,F,F,T] 7 7 c 12) 4 4 = .yes := by kernel_rfl
theorem p7_105_2 (c : Nat) : seg (runS [T,T,F,T,F,F,T] 7 7 c 12) 8 4 = .yes := by kernel_rfl
theorem p7_75_0 (c : Nat) : seg (runS [T,F,F,T,F,T,T] 7 7 c 12) 0 4 = .yes := by kernel_rfl
theorem p7_75_1 (c : Nat) : seg (runS [T,F,F,T,F,T,T] 7 7 c 12) 4 4 = .yes := by kernel_rfl
theorem p7_75_2 (c : Nat) : seg (runS [T,F,F,T,F,T,T] 7 7 c 12) 8 4 = .yes := by kernel_rfl
theorem p7_30_0 (c : Nat) : seg (runS [F,F,T,T,T,T,F] 7 7 c 12) 0 4 = .yes := by kernel_rfl
theorem p7_30_1 (c : Nat) : seg (runS [F,F,T,T,T,T,F] 7 7 c 12) 4 4 = .yes := by kernel_rfl
theorem p7_30_2 (c : Nat) : seg (runS [F,F,T,T,T,T,F] 7 7 c 12) 8 4 = .yes := by kernel_rfl
theorem p8_102_0 (L c : Nat) : seg (runS [T,T,F,F,T,T,F] 7 (L + 8) c 12) 0 4 = .yes := by kernel_rfl
theorem p8_102_1 (L c : Nat) : seg (runS [T,T,F,F,T,T,F] 7 (L + 8) c 12) 4 4 = .yes := by kernel_rfl
theorem p8_102_2 (L c : Nat) : seg (runS [T,T,F,F,T,T,F] 7 (L + 8) c 12) 8 4 = .yes := by kernel_rfl
theorem p8_71_0 (L c : Nat) : seg (runS [T,F,F,F,T,T,T] 7 (L + 8) c 12) 0 4 = .yes := by kernel_rfl
theorem p8_71_1 (L c : Nat) : seg (runS [T,F,F,F,T,T,T] 7 (L + 8) c 12) 4 4 = .yes := by kernel_rfl
theorem p8_71_2 (L c : Nat) : seg (runS [T,F,F,F,T,T,T] 7 (L + 8) c 12) 8 4 = .yes := by kernel_rfl
theorem p8_29_0 (L c : Nat) : seg (runS [F,F,T,T,T,F,T] 7 (L + 8) c 12) 0 4 = .yes := by kernel_rfl
theorem p8_29_1 (L c : Nat) : seg (runS [F,F,T,T,T,F,T] 7 (L + 8) c 12) 4 4 = .yes := by kernel_rfl
theorem p8_29_2 (L c : Nat) : seg (runS [F,F,T,T,T,F,T] 7 (L + 8) c 12) 8 4 = .yes := by kernel_rfl
theorem p6_45_0 (c : Nat) : seg (runS [T,F,T,T,F,T] 6 6 c 11) 0 4 = .yes := by kernel_rfl
theorem p6_45_1 (c : Nat) : seg (runS [T,F,T,T,F,T] 6 6 c 11) 4 4 = .yes := by kernel_rfl
theorem p6_45_2 (c : Nat) : seg (runS [T,F,T,T,F,T] 6 6 c 11) 8 3 = .yes := by kernel_rfl
theorem p7_97_0 (c : Nat) : seg (runS [T,T,F,F,F,F,T] 7 7 c 11) 0 4 = .yes := by kernel_rfl
theorem p7_97_1 (c : Nat) : seg (runS [T,T,F,F,F,F,T] 7 7 c 11) 4 4 = .yes := by kernel_rfl
theorem p7_97_2 (c : Nat) : seg (runS [T,T,F,F,F,F,T] 7 7 c 11) 8 3 = .yes := by kernel_rfl
theorem p7_52_0 (c : Nat) : seg (runS [F,T,T,F,T,F,F] 7 7 c 11) 0 4 = .yes := by kernel_rfl
theorem p7_52_1 (c : Nat) : seg (runS [F,T,T,F,T,F,F] 7 7 c 11) 4 4 = .yes := by kernel_rfl
theorem p7_52_2 (c : Nat) : seg (runS [F,T,T,F,T,F,F] 7 7 c 11) 8 3 = .yes := by kernel_rfl
theorem p7_22_0 (c : Nat) : seg (runS [F,F,T,F,T,T,F] 7 7 c 11) 0 4 = .yes := by kernel_rfl
theorem p7_22_1 (c : Nat) : seg (runS [F,F,T,F,T,T,F] 7 7 c 11) 4 4 = .yes := by kernel_rfl
theorem p7_22_2 (c : Nat) : seg (runS [F,F,T,F,T,T,F] 7 7 c 11) 8 3 = .yes := by kernel_rfl
theorem p8_88_0 (L c : Nat) : seg (runS [T,F,T,T,F,F,F] 7 (L + 8) c 11) 0 4 = .yes := by kernel_rfl
theorem p8_88_1 (L c : Nat) : seg (runS [T,F,T,T,F,F,F] 7 (L + 8) c 11) 4 4 = .yes := by kernel_rfl
theorem p8_88_2 (L c : Nat) : seg (runS [T,F,T,T,F,F,F] 7 (L + 8) c 11) 8 3 = .yes := by kernel_rfl
theorem p8_50_0 (L c : Nat) : seg (runS [F,T,T,F,F,T,F] 7 (L + 8) c 11) 0 4 = .yes := by kernel_rfl
theorem p8_50_1 (L c : Nat) : seg (runS [F,T,T,F,F,T,F] 7 (L + 8) c 11) 4 4 = .yes := by kernel_rfl
theorem p8_50_2 (L c : Nat) : seg (runS [F,T,T,F,F,T,F] 7 (L + 8) c 11) 8 3 = .yes := by kernel_rfl
theorem p8_21_0 (L c : Nat) : seg (runS [F,F,T,F,T,F,T] 7 (L + 8) c 11) 0 4 = .yes := by kernel_rfl
theorem p8_21_1 (L c : Nat) : seg (runS [F,F,T,F,T,F,T] 7 (L + 8) c 11) 4 4 = .yes := by kernel_rfl
theorem p8_21_2 (L c : Nat) : seg (runS [F,F,T,F,T,F,T] 7 (L + 8) c 11) 8 3 = .yes := by kernel_rfl
theorem p6_52_0 (c : Nat) : seg (runS [T,T,F,T,F,F] 6 6 c 10) 0 4 = .yes := by kernel_rfl
theorem p6_52_1 (c : Nat) : seg (runS [T,T,F,T,F,F] 6 6 c 10) 4 4 = .yes := by kernel_rfl
theorem p6_52_2 (c : Nat) : seg (runS [T,T,F,T,F,F] 6 6 c 10) 8 2 = .yes := by kernel_rfl
theorem p6_22_0 (c : Nat) : seg (runS [F,T,F,T,T,F] 6 6 c 10) 0 4 = .yes := by kernel_rfl
theorem p6_22_1 (c : Nat) : seg (runS [F,T,F,T,T,F] 6 6 c 10) 4 4 = .yes := by kernel_rfl
theorem p6_22_2 (c : Nat) : seg (runS [F,T,F,T,T,F] 6 6 c 10) 8 2 = .yes := by kernel_rfl
theorem p7_65_0 (c : Nat) : seg (runS [T,F,F,F,F,F,T] 7 7 c 10) 0 4 = .yes := by kernel_rfl
theorem p7_65_1 (c : Nat) : seg (runS [T,F,F,F,F,F,T] 7 7 c 10) 4 4 = .yes := by kernel_rfl
theorem p7_65_2 (c : Nat) : seg (runS [T,F,F,F,F,F,T] 7 7 c 10) 8 2 = .yes := by kernel_rfl
theorem p7_9_0 (c : Nat) : seg (runS [F,F,F,T,F,F,T] 7 7 c 10) 0 4 = .yes := by kernel_rfl
theorem p7_9_1 (c : Nat) : seg (runS [F,F,F,T,F,F,T] 7 7 c 10) 4 4 = .yes := by kernel_rfl
theorem p7_9_2 (c : Nat) : seg (runS [F,F,F,T,F,F,T] 7 7 c 10) 8 2 = .yes := by kernel_rfl
theorem p8_36_0 (L c : Nat) : seg (runS [F,T,F,F,T,F,F] 7 (L + 8) c 10) 0 4 = .yes := by kernel_rfl
theorem p8_36_1 (L c : Nat) : seg (runS [F,T,F,F,T,F,F] 7 (L + 8) c 10) 4 4 = .yes := by kernel_rfl
theorem p8_36_2 (L c : Nat) : seg (runS [F,T,F,F,T,F,F] 7 (L + 8) c 10) 8 2 = .yes := by kernel_rfl
theorem p8_3_0 (L c : Nat) : seg (runS [F,F,F,F,F,T,T] 7 (L + 8) c 10) 0 4 = .yes := by kernel_rfl
theorem p8_3_1 (L c : Nat) : seg (runS [F,F,F,F,F,T,T] 7 (L + 8) c 10) 4 4 = .yes := by kernel_rfl
theorem p8_3_2 (L c : Nat) : seg (runS [F,F,F,F,F,T,T] 7 (L + 8) c 10) 8 2 = .yes := by kernel_rfl
theorem p6_48_0 (c : Nat) : seg (runS [T,T,F,F,F,F] 6 6 c 9) 0 4 = .yes := by kernel_rfl
theorem p6_48_1 (c : Nat) : seg (runS [T,T,F,F,F,F] 6 6 c 9) 4 4 = .yes := by kernel_rfl
theorem p6_48_2 (c : Nat) : seg (runS [T,T,F,F,F,F] 6 6 c 9) 8 1 = .yes := by kernel_rfl
theorem p6_6_0 (c : Nat) : seg (runS [F,F,F,T,T,F] 6 6 c 9) 0 4 = .yes := by kernel_rfl
theorem p6_6_1 (c : Nat) : seg (runS [F,F,F,T,T,F] 6 6 c 9) 4 4 = .yes := by kernel_rfl
theorem p6_6_2 (c : Nat) : seg (runS [F,F,F,T,T,F] 6 6 c 9) 8 1 = .yes := by kernel_rfl
theorem p8_16_0 (L c : Nat) : seg (runS [F,F,T,F,F,F,F] 7 (L + 8) c 9) 0 4 = .yes := by kernel_rfl
theorem p8_16_1 (L c : Nat) : seg (runS [F,F,T,F,F,F,F] 7 (L + 8) c 9) 4 4 = .yes := by kernel_rfl
theorem p8_16_2 (L c : Nat) : seg (runS [F,F,T,F,F,F,F] 7 (L + 8) c 9) 8 1 = .yes := by kernel_rfl
theorem p5_17_0 (c : Nat) : seg (runS [T,F,F,F,T] 5 5 c 8) 0 4 = .yes := by kernel_rfl
theorem p5_17_1 (c : Nat) : seg (runS [T,F,F,F,T] 5 5 c 8) 4 4 = .yes := by kernel_rfl
theorem p6_1_0 (c : Nat) : seg (runS [F,F,F,F,F,T] 6 6 c 8) 0 4 = .yes := by kernel_rfl
theorem p6_1_1 (c : Nat) : seg (runS [F,F,F,F,F,T] 6 6 c 8) 4 4 = .yes := by kernel_rfl
theorem p5_4_0 (c : Nat) : seg (runS [F,F,T,F,F] 5 5 c 7) 0 4 = .yes := by kernel_rfl
theorem p5_4_1 (c : Nat) : seg (runS [F,F,T,F,F] 5 5 c 7) 4 3 = .yes := by kernel_rfl
theorem p2_3_0 (c : Nat) : seg (runS [T,T] 2 2 c 5) 0 4 = .yes := by kernel_rfl
theorem p2_3_1 (c : Nat) : seg (runS [T,T] 2 2 c 5) 4 1 = .yes := by kernel_rfl
end Go.Proofs.Ytbpfdennglbeeaa.pthreadSettlesq
