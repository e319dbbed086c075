/-
  The law PthreadSettles at some of its cases: the run over the program ends in true. Conditions: none; these are closed facts.
-/
import Derived.Test.YtbpfdennglbeeaaPthreadSettlesA
namespace Go.Proofs.Ytbpfdennglbeeaa.pthreadSettlesq
open Go.Rn Ytbpfdennglbeeaa.txt
theorem p7_125_0 (c : Nat) : seg (runS [T,T,T,T,T,F,T] 7 7 c 14) 0 4 = .yes := by kernel_rfl
theorem p7_125_1 (c : Nat) : seg (runS [T,T,T,T,T,F,T] 7 7 c 14) 4 4 = .yes := by kernel_rfl
theorem p7_125_2 (c : Nat) : seg (runS [T,T,T,T,T,F,T] 7 7 c 14) 8 4 = .yes := by kernel_rfl
theorem p7_125_3 (c : Nat) : seg (runS [T,T,T,T,T,F,T] 7 7 c 14) 12 2 = .yes := by kernel_rfl
theorem p8_63_0 (L c : Nat) : seg (runS [F,T,T,T,T,T,T] 7 (L + 8) c 14) 0 4 = .yes := by kernel_rfl
theorem p8_63_1 (L c : Nat) : seg (runS [F,T,T,T,T,T,T] 7 (L + 8) c 14) 4 4 = .yes := by kernel_rfl
theorem p8_63_2 (L c : Nat) : seg (runS [F,T,T,T,T,T,T] 7 (L + 8) c 14) 8 4 = .yes := by kernel_rfl
theorem p8_63_3 (L c : Nat) : seg (runS [F,T,T,T,T,T,T] 7 (L + 8) c 14) 12 2 = .yes := by kernel_rfl
theorem p7_94_0 (c : Nat) : seg (runS [T,F,T,T,T,T,F] 7 7 c 13) 0 4 = .yes := by kernel_rfl
theorem p7_94_1 (c : Nat) : seg (runS [T,F,T,T,T,T,F] 7 7 c 13) 4 4 = .yes := by kernel_rfl
theorem p7_94_2 (c : Nat) : seg (runS [T,F,T,T,T,T,F] 7 7 c 13) 8 4 = .yes := by kernel_rfl
theorem p7_94_3 (c : Nat) : seg (runS [T,F,T,T,T,T,F] 7 7 c 13) 12 1 = .yes := by kernel_rfl
theorem p8_122_0 (L c : Nat) : seg (runS [T,T,T,T,F,T,F] 7 (L + 8) c 13) 0 4 = .yes := by kernel_rfl
theorem p8_122_1 (L c : Nat) : seg (runS [T,T,T,T,F,T,F] 7 (L + 8) c 13) 4 4 = .yes := by kernel_rfl
theorem p8_122_2 (L c : Nat) : seg (runS [T,T,T,T,F,T,F] 7 (L + 8) c 13) 8 4 = .yes := by kernel_rfl
theorem p8_122_3 (L c : Nat) : seg (runS [T,T,T,T,F,T,F] 7 (L + 8) c 13) 12 1 = .yes := by kernel_rfl
theorem p8_87_0 (L c : Nat) : seg (runS [T,F,T,F,T,T,T] 7 (L + 8) c 13) 0 4 = .yes := by kernel_rfl
theorem p8_87_1 (L c : Nat) : seg (runS [T,F,T,F,T,T,T] 7 (L + 8) c 13) 4 4 = .yes := by kernel_rfl
theorem p8_87_2 (L c : Nat) : seg (runS [T,F,T,F,T,T,T] 7 (L + 8) c 13) 8 4 = .yes := by kernel_rfl
theorem p8_87_3 (L c : Nat) : seg (runS [T,F,T,F,T,T,T] 7 (L + 8) c 13) 12 1 = .yes := by kernel_rfl
theorem p6_47_0 (c : Nat) : seg (runS [T,F,T,T,T,T] 6 6 c 12) 0 4 = .yes := by kernel_rfl
theorem p6_47_1 (c : Nat) : seg (runS [T,F,T,T,T,T] 6 6 c 12) 4 4 = .yes := by kernel_rfl
theorem p6_47_2 (c : Nat) : seg (runS [T,F,T,T,T,T] 6 6 c 12) 8 4 = .yes := by kernel_rfl
theorem p7_92_0 (c : Nat) : seg (runS [T,F,T,T,T,F,F] 7 7 c 12) 0 4 = .yes := by kernel_rfl
theorem p7_92_1 (c : Nat) : seg (runS [T,F,T,T,T,F,F] 7 7 c 12) 4 4 = .yes := by kernel_rfl
theorem p7_92_2 (c : Nat) : seg (runS [T,F,T,T,T,F,F] 7 7 c 12) 8 4 = .yes := by kernel_rfl
theorem p7_57_0 (c : Nat) : seg (runS [F,T,T,T,F,F,T] 7 7 c 12) 0 4 = .yes := by kernel_rfl
theorem p7_57_1 (c : Nat) : seg (runS [F,T,T,T,F,F,T] 7 7 c 12) 4 4 = .yes := by kernel_rfl
theorem p7_57_2 (c : Nat) : seg (runS [F,T,T,T,F,F,T] 7 7 c 12) 8 4 = .yes := by kernel_rfl
theorem p7_15_0 (c : Nat) : seg (runS [F,F,F,T,T,T,T] 7 7 c 12) 0 4 = .yes := by kernel_rfl
theorem p7_15_1 (c : Nat) : seg (runS [F,F,F,T,T,T,T] 7 7 c 12) 4 4 = .yes := by kernel_rfl
theorem p7_15_2 (c : Nat) : seg (runS [F,F,F,T,T,T,T] 7 7 c 12) 8 4 = .yes := by kernel_rfl
theorem p8_90_0 (L c : Nat) : seg (runS [T,F,T,T,F,T,F] 7 (L + 8) c 12) 0 4 = .yes := by kernel_rfl
theorem p8_90_1 (L c : Nat) : seg (runS [T,F,T,T,F,T,F] 7 (L + 8) c 12) 4 4 = .yes := by kernel_rfl
theorem p8_90_2 (L c : Nat) : seg (runS [T,F,T,T,F,T,F] 7 (L + 8) c 12) 8 4 = .yes := by kernel_rfl
theorem p8_54_0 (L c : Nat) : seg (runS [F,T,T,F,T,T,F] 7 (L + 8) c 12) 0 4 = .yes := by kernel_rfl
theorem p8_54_1 (L c : Nat) : seg (runS [F,T,T,F,T,T,F] 7 (L + 8) c 12) 4 4 = .yes := by kernel_rfl
theorem p8_54_2 (L c : Nat) : seg (runS [F,T,T,F,T,T,F] 7 (L + 8) c 12) 8 4 = .yes := by kernel_rfl
theorem p5_31_0 (c : Nat) : seg (runS [T,T,T,T,T] 5 5 c 11) 0 4 = .yes := by kernel_rfl
theorem p5_31_1 (c : Nat) : seg (runS [T,T,T,T,T] 5 5 c 11) 4 4 = .yes := by kernel_rfl
theorem p5_31_2 (c : Nat) : seg (runS [T,T,T,T,T] 5 5 c 11) 8 3 = .yes := by kernel_rfl
theorem p6_29_0 (c : Nat) : seg (runS [F,T,T,T,F,T] 6 6 c 11) 0 4 = .yes := by kernel_rfl
theorem p6_29_1 (c : Nat) : seg (runS [F,T,T,T,F,T] 6 6 c 11) 4 4 = .yes := by kernel_rfl
theorem p6_29_2 (c : Nat) : seg (runS [F,T,T,T,F,T] 6 6 c 11) 8 3 = .yes := by kernel_rfl
theorem p7_81_0 (c : Nat) : seg (runS [T,F,T,F,F,F,T] 7 7 c 11) 0 4 = .yes := by kernel_rfl
theorem p7_81_1 (c : Nat) : seg (runS [T,F,T,F,F,F,T] 7 7 c 11) 4 4 = .yes := by kernel_rfl
theorem p7_81_2 (c : Nat) : seg (runS [T,F,T,F,F,F,T] 7 7 c 11) 8 3 = .yes := by kernel_rfl
theorem p7_42_0 (c : Nat) : seg (runS [F,T,F,T,F,T,F] 7 7 c 11) 0 4 = .yes := by kernel_rfl
theorem p7_42_1 (c : Nat) : seg (runS [F,T,F,T,F,T,F] 7 7 c 11) 4 4 = .yes := by kernel_rfl
theorem p7_42_2 (c : Nat) : seg (runS [F,T,F,T,F,T,F] 7 7 c 11) 8 3 = .yes := by kernel_rfl
theorem p7_13_0 (c : Nat) : seg (runS [F,F,F,T,T,F,T] 7 7 c 11) 0 4 = .yes := by kernel_rfl
theorem p7_13_1 (c : Nat) : seg (runS [F,F,F,T,T,F,T] 7 7 c 11) 4 4 = .yes := by kernel_rfl
theorem p7_13_2 (c : Nat) : seg (runS [F,F,F,T,T,F,T] 7 7 c 11) 8 3 = .yes := by kernel_rfl
theorem p8_76_0 (L c : Nat) : seg (runS [T,F,F,T,T,F,F] 7 (L + 8) c 11) 0 4 = .yes := by kernel_rfl
theorem p8_76_1 (L c : Nat) : seg (runS [T,F,F,T,T,F,F] 7 (L + 8) c 11) 4 4 = .yes := by kernel_rfl
theorem p8_76_2 (L c : Nat) : seg (runS [T,F,F,T,T,F,F] 7 (L + 8) c 11) 8 3 = .yes := by kernel_rfl
theorem p8_41_0 (L c : Nat) : seg (runS [F,T,F,T,F,F,T] 7 (L + 8) c 11) 0 4 = .yes := by kernel_rfl
theorem p8_41_1 (L c : Nat) : seg (runS [F,T,F,T,F,F,T] 7 (L + 8) c 11) 4 4 = .yes := by kernel_rfl
theorem p8_41_2 (L c : Nat) : seg (runS [F,T,F,T,F,F,T] 7 (L + 8) c 11) 8 3 = .yes := by kernel_rfl
theorem p8_11_0 (L c : Nat) : seg (runS [F,F,F,T,F,T,T] 7 (L + 8) c 11) 0 4 = .yes := by kernel_rfl
theorem p8_11_1 (L c : Nat) : seg (runS [F,F,F,T,F,T,T] 7 (L + 8) c 11) 4 4 = .yes := by kernel_rfl
theorem p8_11_2 (L c : Nat) : seg (runS [F,F,F,T,F,T,T] 7 (L + 8) c 11) 8 3 = .yes := by kernel_rfl
theorem p6_42_0 (c : Nat) : seg (runS [T,F,T,F,T,F] 6 6 c 10) 0 4 = .yes := by kernel_rfl
theorem p6_42_1 (c : Nat) : seg (runS [T,F,T,F,T,F] 6 6 c 10) 4 4 = .yes := by kernel_rfl
theorem p6_42_2 (c : Nat) : seg (runS [T,F,T,F,T,F] 6 6 c 10) 8 2 = .yes := by kernel_rfl
theorem p6_13_0 (c : Nat) : seg (runS [F,F,T,T,F,T] 6 6 c 10) 0 4 = .yes := by kernel_rfl
theorem p6_13_1 (c : Nat) : seg (runS [F,F,T,T,F,T] 6 6 c 10) 4 4 = .yes := by kernel_rfl
theorem p6_13_2 (c : Nat) : seg (runS [F,F,T,T,F,T] 6 6 c 10) 8 2 = .yes := by kernel_rfl
theorem p7_34_0 (c : Nat) : seg (runS [F,T,F,F,F,T,F] 7 7 c 10) 0 4 = .yes := by kernel_rfl
theorem p7_34_1 (c : Nat) : seg (runS [F,T,F,F,F,T,F] 7 7 c 10) 4 4 = .yes := by kernel_rfl
theorem p7_34_2 (c : Nat) : seg (runS [F,T,F,F,F,T,F] 7 7 c 10) 8 2 = .yes := by kernel_rfl
theorem p8_96_0 (L c : Nat) : seg (runS [T,T,F,F,F,F,F] 7 (L + 8) c 10) 0 4 = .yes := by kernel_rfl
theorem p8_96_1 (L c : Nat) : seg (runS [T,T,F,F,F,F,F] 7 (L + 8) c 10) 4 4 = .yes := by kernel_rfl
theorem p8_96_2 (L c : Nat) : seg (runS [T,T,F,F,F,F,F] 7 (L + 8) c 10) 8 2 = .yes := by kernel_rfl
theorem p8_20_0 (L c : Nat) : seg (runS [F,F,T,F,T,F,F] 7 (L + 8) c 10) 0 4 = .yes := by kernel_rfl
theorem p8_20_1 (L c : Nat) : seg (runS [F,F,T,F,T,F,F] 7 (L + 8) c 10) 4 4 = .yes := by kernel_rfl
theorem p8_20_2 (L c : Nat) : seg (runS [F,F,T,F,T,F,F] 7 (L + 8) c 10) 8 2 = .yes := by kernel_rfl
theorem p5_25_0 (c : Nat) : seg (runS [T,T,F,F,T] 5 5 c 9) 0 4 = .yes := by kernel_rfl
theorem p5_25_1 (c : Nat) : seg (runS [T,T,F,F,T] 5 5 c 9) 4 4 = .yes := by kernel_rfl
theorem p5_25_2 (c : Nat) : seg (runS [T,T,F,F,T] 5 5 c 9) 8 1 = .yes := by kernel_rfl
theorem p6_33_0 (c : Nat) : seg (runS [T,F,F,F,F,T] 6 6 c 9) 0 4 = .yes := by kernel_rfl
theorem p6_33_1 (c : Nat) : seg (runS [T,F,F,F,F,T] 6 6 c 9) 4 4 = .yes := by kernel_rfl
theorem p6_33_2 (c : Nat) : seg (runS [T,F,F,F,F,T] 6 6 c 9) 8 1 = .yes := by kernel_rfl
theorem p7_32_0 (c : Nat) : seg (runS [F,T,F,F,F,F,F] 7 7 c 9) 0 4 = .yes := by kernel_rfl
theorem p7_32_1 (c : Nat) : seg (runS [F,T,F,F,F,F,F] 7 7 c 9) 4 4 = .yes := by kernel_rfl
theorem p7_32_2 (c : Nat) : seg (runS [F,T,F,F,F,F,F] 7 7 c 9) 8 1 = .yes := by kernel_rfl
theorem p8_1_0 (L c : Nat) : seg (runS [F,F,F,F,F,F,T] 7 (L + 8) c 9) 0 4 = .yes := by kernel_rfl
theorem p8_1_1 (L c : Nat) : seg (runS [F,F,F,F,F,F,T] 7 (L + 8) c 9) 4 4 = .yes := by kernel_rfl
theorem p8_1_2 (L c : Nat) : seg (runS [F,F,F,F,F,F,T] 7 (L + 8) c 9) 8 1 = .yes := by kernel_rfl
theorem p5_6_0 (c : Nat) : seg (runS [F,F,T,T,F] 5 5 c 8) 0 4 = .yes := by kernel_rfl
theorem p5_6_1 (c : Nat) : seg (runS [F,F,T,T,F] 5 5 c 8) 4 4 = .yes := by kernel_rfl
theorem p4_12_0 (c : Nat) : seg (runS [T,T,F,F] 4 4 c 7) 0 4 = .yes := by kernel_rfl
theorem p4_12_1 (c : Nat) : seg (runS [T,T,F,F] 4 4 c 7) 4 3 = .yes := by kernel_rfl
theorem p3_6_0 (c : Nat) : seg (runS [T,T,F] 3 3 c 6) 0 4 = .yes := by kernel_rfl
theorem p3_6_1 (c : Nat) : seg (runS [T,T,F] 3 3 c 6) 4 2 = .yes := by kernel_rfl
theorem p4_0_0 (c : Nat) : seg (runS [F,F,F,F] 4 4 c 5) 0 4 = .yes := by kernel_rfl
theorem p4_0_1 (c : Nat) : seg (runS [F,F,F,F] 4 4 c 5) 4 1 = .yes := by kernel_rfl
end Go.Proofs.Ytbpfdennglbeeaa.pthreadSettlesq
