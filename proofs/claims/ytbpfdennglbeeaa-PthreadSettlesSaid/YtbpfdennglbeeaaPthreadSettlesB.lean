/-
  The law PthreadSettles at some of its cases: the run over the program ends in true. Conditions: none; these are closed facts.
-/
import Derived.Test.YtbpfdennglbeeaaPthreadSettlesA
namespace Go.Proofs.Ytbpfdennglbeeaa.pthreadSettlesq
open Go.Rn Ytbpfdennglbeeaa.txt
theorem p7_127_0 (c : Nat) : seg (runS [T,T,T,T,T,T,T] 7 7 c 15) 0 4 = .yes := by kernel_rfl
theorem p7_127_1 (c : Nat) : seg (runS [T,T,T,T,T,T,T] 7 7 c 15) 4 4 = .yes := by kernel_rfl
theorem p7_127_2 (c : Nat) : seg (runS [T,T,T,T,T,T,T] 7 7 c 15) 8 4 = .yes := by kernel_rfl
theorem p7_127_3 (c : Nat) : seg (runS [T,T,T,T,T,T,T] 7 7 c 15) 12 3 = .yes := by kernel_rfl
theorem p8_119_0 (L c : Nat) : seg (runS [T,T,T,F,T,T,T] 7 (L + 8) c 14) 0 4 = .yes := by kernel_rfl
theorem p8_119_1 (L c : Nat) : seg (runS [T,T,T,F,T,T,T] 7 (L + 8) c 14) 4 4 = .yes := by kernel_rfl
theorem p8_119_2 (L c : Nat) : seg (runS [T,T,T,F,T,T,T] 7 (L + 8) c 14) 8 4 = .yes := by kernel_rfl
theorem p8_119_3 (L c : Nat) : seg (runS [T,T,T,F,T,T,T] 7 (L + 8) c 14) 12 2 = .yes := by kernel_rfl
theorem p7_109_0 (c : Nat) : seg (runS [T,T,F,T,T,F,T] 7 7 c 13) 0 4 = .yes := by kernel_rfl
theorem p7_109_1 (c : Nat) : seg (runS [T,T,F,T,T,F,T] 7 7 c 13) 4 4 = .yes := by kernel_rfl
theorem p7_109_2 (c : Nat) : seg (runS [T,T,F,T,T,F,T] 7 7 c 13) 8 4 = .yes := by kernel_rfl
theorem p7_109_3 (c : Nat) : seg (runS [T,T,F,T,T,F,T] 7 7 c 13) 12 1 = .yes := by kernel_rfl
theorem p7_47_0 (c : Nat) : seg (runS [F,T,F,T,T,T,T] 7 7 c 13) 0 4 = .yes := by kernel_rfl
theorem p7_47_1 (c : Nat) : seg (runS [F,T,F,T,T,T,T] 7 7 c 13) 4 4 = .yes := by kernel_rfl
theorem p7_47_2 (c : Nat) : seg (runS [F,T,F,T,T,T,T] 7 7 c 13) 8 4 = .yes := by kernel_rfl
theorem p7_47_3 (c : Nat) : seg (runS [F,T,F,T,T,T,T] 7 7 c 13) 12 1 = .yes := by kernel_rfl
theorem p8_94_0 (L c : Nat) : seg (runS [T,F,T,T,T,T,F] 7 (L + 8) c 13) 0 4 = .yes := by kernel_rfl
theorem p8_94_1 (L c : Nat) : seg (runS [T,F,T,T,T,T,F] 7 (L + 8) c 13) 4 4 = .yes := by kernel_rfl
theorem p8_94_2 (L c : Nat) : seg (runS [T,F,T,T,T,T,F] 7 (L + 8) c 13) 8 4 = .yes := by kernel_rfl
theorem p8_94_3 (L c : Nat) : seg (runS [T,F,T,T,T,T,F] 7 (L + 8) c 13) 12 1 = .yes := by kernel_rfl
theorem p6_61_0 (c : Nat) : seg (runS [T,T,T,T,F,T] 6 6 c 12) 0 4 = .yes := by kernel_rfl
theorem p6_61_1 (c : Nat) : seg (runS [T,T,T,T,F,T] 6 6 c 12) 4 4 = .yes := by kernel_rfl
theorem p6_61_2 (c : Nat) : seg (runS [T,T,T,T,F,T] 6 6 c 12) 8 4 = .yes := by kernel_rfl
theorem p7_102_0 (c : Nat) : seg (runS [T,T,F,F,T,T,F] 7 7 c 12) 0 4 = .yes := by kernel_rfl
theorem p7_102_1 (c : Nat) : seg (runS [T,T,F,F,T,T,F] 7 7 c 12) 4 4 = .yes := by kernel_rfl
theorem p7_102_2 (c : Nat) : seg (runS [T,T,F,F,T,T,F] 7 7 c 12) 8 4 = .yes := by kernel_rfl
theorem p7_71_0 (c : Nat) : seg (runS [T,F,F,F,T,T,T] 7 7 c 12) 0 4 = .yes := by kernel_rfl
theorem p7_71_1 (c : Nat) : seg (runS [T,F,F,F,T,T,T] 7 7 c 12) 4 4 = .yes := by kernel_rfl
theorem p7_71_2 (c : Nat) : seg (runS [T,F,F,F,T,T,T] 7 7 c 12) 8 4 = .yes := by kernel_rfl
theorem p7_29_0 (c : Nat) : seg (runS [F,F,T,T,T,F,T] 7 7 c 12) 0 4 = .yes := by kernel_rfl
theorem p7_29_1 (c : Nat) : seg (runS [F,F,T,T,T,F,T] 7 7 c 12) 4 4 = .yes := by kernel_rfl
theorem p7_29_2 (c : Nat) : seg (runS [F,F,T,T,T,F,T] 7 7 c 12) 8 4 = .yes := by kernel_rfl
theorem p8_101_0 (L c : Nat) : seg (runS [T,T,F,F,T,F,T] 7 (L + 8) c 12) 0 4 = .yes := by kernel_rfl
theorem p8_101_1 (L c : Nat) : seg (runS [T,T,F,F,T,F,T] 7 (L + 8) c 12) 4 4 = .yes := by kernel_rfl
theorem p8_101_2 (L c : Nat) : seg (runS [T,T,F,F,T,F,T] 7 (L + 8) c 12) 8 4 = .yes := by kernel_rfl
theorem p8_60_0 (L c : Nat) : seg (runS [F,T,T,T,T,F,F] 7 (L + 8) c 12) 0 4 = .yes := by kernel_rfl
theorem p8_60_1 (L c : Nat) : seg (runS [F,T,T,T,T,F,F] 7 (L + 8) c 12) 4 4 = .yes := by kernel_rfl
theorem p8_60_2 (L c : Nat) : seg (runS [F,T,T,T,T,F,F] 7 (L + 8) c 12) 8 4 = .yes := by kernel_rfl
theorem p8_27_0 (L c : Nat) : seg (runS [F,F,T,T,F,T,T] 7 (L + 8) c 12) 0 4 = .yes := by kernel_rfl
theorem p8_27_1 (L c : Nat) : seg (runS [F,F,T,T,F,T,T] 7 (L + 8) c 12) 4 4 = .yes := by kernel_rfl
theorem p8_27_2 (L c : Nat) : seg (runS [F,F,T,T,F,T,T] 7 (L + 8) c 12) 8 4 = .yes := by kernel_rfl
theorem p6_43_0 (c : Nat) : seg (runS [T,F,T,F,T,T] 6 6 c 11) 0 4 = .yes := by kernel_rfl
theorem p6_43_1 (c : Nat) : seg (runS [T,F,T,F,T,T] 6 6 c 11) 4 4 = .yes := by kernel_rfl
theorem p6_43_2 (c : Nat) : seg (runS [T,F,T,F,T,T] 6 6 c 11) 8 3 = .yes := by kernel_rfl
theorem p7_88_0 (c : Nat) : seg (runS [T,F,T,T,F,F,F] 7 7 c 11) 0 4 = .yes := by kernel_rfl
theorem p7_88_1 (c : Nat) : seg (runS [T,F,T,T,F,F,F] 7 7 c 11) 4 4 = .yes := by kernel_rfl
theorem p7_88_2 (c : Nat) : seg (runS [T,F,T,T,F,F,F] 7 7 c 11) 8 3 = .yes := by kernel_rfl
theorem p7_50_0 (c : Nat) : seg (runS [F,T,T,F,F,T,F] 7 7 c 11) 0 4 = .yes := by kernel_rfl
theorem p7_50_1 (c : Nat) : seg (runS [F,T,T,F,F,T,F] 7 7 c 11) 4 4 = .yes := by kernel_rfl
theorem p7_50_2 (c : Nat) : seg (runS [F,T,T,F,F,T,F] 7 7 c 11) 8 3 = .yes := by kernel_rfl
theorem p7_21_0 (c : Nat) : seg (runS [F,F,T,F,T,F,T] 7 7 c 11) 0 4 = .yes := by kernel_rfl
theorem p7_21_1 (c : Nat) : seg (runS [F,F,T,F,T,F,T] 7 7 c 11) 4 4 = .yes := by kernel_rfl
theorem p7_21_2 (c : Nat) : seg (runS [F,F,T,F,T,F,T] 7 7 c 11) 8 3 = .yes := by kernel_rfl
theorem p8_84_0 (L c : Nat) : seg (runS [T,F,T,F,T,F,F] 7 (L + 8) c 11) 0 4 = .yes := by kernel_rfl
theorem p8_84_1 (L c : Nat) : seg (runS [T,F,T,F,T,F,F] 7 (L + 8) c 11) 4 4 = .yes := by kernel_rfl
theorem p8_84_2 (L c : Nat) : seg (runS [T,F,T,F,T,F,F] 7 (L + 8) c 11) 8 3 = .yes := by kernel_rfl
theorem p8_49_0 (L c : Nat) : seg (runS [F,T,T,F,F,F,T] 7 (L + 8) c 11) 0 4 = .yes := by kernel_rfl
theorem p8_49_1 (L c : Nat) : seg (runS [F,T,T,F,F,F,T] 7 (L + 8) c 11) 4 4 = .yes := by kernel_rfl
theorem p8_49_2 (L c : Nat) : seg (runS [F,T,T,F,F,F,T] 7 (L + 8) c 11) 8 3 = .yes := by kernel_rfl
theorem p8_19_0 (L c : Nat) : seg (runS [F,F,T,F,F,T,T] 7 (L + 8) c 11) 0 4 = .yes := by kernel_rfl
theorem p8_19_1 (L c : Nat) : seg (runS [F,F,T,F,F,T,T] 7 (L + 8) c 11) 4 4 = .yes := by kernel_rfl
theorem p8_19_2 (L c : Nat) : seg (runS [F,F,T,F,F,T,T] 7 (L + 8) c 11) 8 3 = .yes := by kernel_rfl
theorem p6_50_0 (c : Nat) : seg (runS [T,T,F,F,T,F] 6 6 c 10) 0 4 = .yes := by kernel_rfl
theorem p6_50_1 (c : Nat) : seg (runS [T,T,F,F,T,F] 6 6 c 10) 4 4 = .yes := by kernel_rfl
theorem p6_50_2 (c : Nat) : seg (runS [T,T,F,F,T,F] 6 6 c 10) 8 2 = .yes := by kernel_rfl
theorem p6_21_0 (c : Nat) : seg (runS [F,T,F,T,F,T] 6 6 c 10) 0 4 = .yes := by kernel_rfl
theorem p6_21_1 (c : Nat) : seg (runS [F,T,F,T,F,T] 6 6 c 10) 4 4 = .yes := by kernel_rfl
theorem p6_21_2 (c : Nat) : seg (runS [F,T,F,T,F,T] 6 6 c 10) 8 2 = .yes := by kernel_rfl
theorem p7_48_0 (c : Nat) : seg (runS [F,T,T,F,F,F,F] 7 7 c 10) 0 4 = .yes := by kernel_rfl
theorem p7_48_1 (c : Nat) : seg (runS [F,T,T,F,F,F,F] 7 7 c 10) 4 4 = .yes := by kernel_rfl
theorem p7_48_2 (c : Nat) : seg (runS [F,T,T,F,F,F,F] 7 7 c 10) 8 2 = .yes := by kernel_rfl
theorem p7_6_0 (c : Nat) : seg (runS [F,F,F,F,T,T,F] 7 7 c 10) 0 4 = .yes := by kernel_rfl
theorem p7_6_1 (c : Nat) : seg (runS [F,F,F,F,T,T,F] 7 7 c 10) 4 4 = .yes := by kernel_rfl
theorem p7_6_2 (c : Nat) : seg (runS [F,F,F,F,T,T,F] 7 7 c 10) 8 2 = .yes := by kernel_rfl
theorem p8_34_0 (L c : Nat) : seg (runS [F,T,F,F,F,T,F] 7 (L + 8) c 10) 0 4 = .yes := by kernel_rfl
theorem p8_34_1 (L c : Nat) : seg (runS [F,T,F,F,F,T,F] 7 (L + 8) c 10) 4 4 = .yes := by kernel_rfl
theorem p8_34_2 (L c : Nat) : seg (runS [F,T,F,F,F,T,F] 7 (L + 8) c 10) 8 2 = .yes := by kernel_rfl
theorem p4_15_0 (c : Nat) : seg (runS [T,T,T,T] 4 4 c 9) 0 4 = .yes := by kernel_rfl
theorem p4_15_1 (c : Nat) : seg (runS [T,T,T,T] 4 4 c 9) 4 4 = .yes := by kernel_rfl
theorem p4_15_2 (c : Nat) : seg (runS [T,T,T,T] 4 4 c 9) 8 1 = .yes := by kernel_rfl
theorem p6_40_0 (c : Nat) : seg (runS [T,F,T,F,F,F] 6 6 c 9) 0 4 = .yes := by kernel_rfl
theorem p6_40_1 (c : Nat) : seg (runS [T,F,T,F,F,F] 6 6 c 9) 4 4 = .yes := by kernel_rfl
theorem p6_40_2 (c : Nat) : seg (runS [T,F,T,F,F,F] 6 6 c 9) 8 1 = .yes := by kernel_rfl
theorem p6_5_0 (c : Nat) : seg (runS [F,F,F,T,F,T] 6 6 c 9) 0 4 = .yes := by kernel_rfl
theorem p6_5_1 (c : Nat) : seg (runS [F,F,F,T,F,T] 6 6 c 9) 4 4 = .yes := by kernel_rfl
theorem p6_5_2 (c : Nat) : seg (runS [F,F,F,T,F,T] 6 6 c 9) 8 1 = .yes := by kernel_rfl
theorem p8_8_0 (L c : Nat) : seg (runS [F,F,F,T,F,F,F] 7 (L + 8) c 9) 0 4 = .yes := by kernel_rfl
theorem p8_8_1 (L c : Nat) : seg (runS [F,F,F,T,F,F,F] 7 (L + 8) c 9) 4 4 = .yes := by kernel_rfl
theorem p8_8_2 (L c : Nat) : seg (runS [F,F,F,T,F,F,F] 7 (L + 8) c 9) 8 1 = .yes := by kernel_rfl
theorem p5_12_0 (c : Nat) : seg (runS [F,T,T,F,F] 5 5 c 8) 0 4 = .yes := by kernel_rfl
theorem p5_12_1 (c : Nat) : seg (runS [F,T,T,F,F] 5 5 c 8) 4 4 = .yes := by kernel_rfl
theorem p7_0_0 (c : Nat) : seg (runS [F,F,F,F,F,F,F] 7 7 c 8) 0 4 = .yes := by kernel_rfl
theorem p7_0_1 (c : Nat) : seg (runS [F,F,F,F,F,F,F] 7 7 c 8) 4 4 = .yes := by kernel_rfl
theorem p5_2_0 (c : Nat) : seg (runS [F,F,F,T,F] 5 5 c 7) 0 4 = .yes := by kernel_rfl
theorem p5_2_1 (c : Nat) : seg (runS [F,F,F,T,F] 5 5 c 7) 4 3 = .yes := by kernel_rfl
theorem p3_4_0 (c : Nat) : seg (runS [T,F,F] 3 3 c 5) 0 4 = .yes := by kernel_rfl
theorem p3_4_1 (c : Nat) : seg (runS [T,F,F] 3 3 c 5) 4 1 = .yes := by kernel_rfl
end Go.Proofs.Ytbpfdennglbeeaa.pthreadSettlesq
