/-
  The law PthreadSettles at some of its cases: the run over the program ends in true. Conditions: none; these are closed facts.
-/
import Derived.Test.YtbpfdennglbeeaaPthreadSettlesA
namespace Go.Proofs.Ytbpfdennglbeeaa.pthreadSettlesq
open Go.Rn Ytbpfdennglbeeaa.txt
theorem p7_95_0 (c : Nat) : seg (runS [T,F,T,T,T,T,T] 7 7 c 14) 0 4 = .yes := by kernel_rfl
theorem p7_95_1 (c : Nat) : seg (runS [T,F,T,T,T,T,T] 7 7 c 14) 4 4 = .yes := by kernel_rfl
theorem p7_95_2 (c : Nat) : seg (runS [T,F,T,T,T,T,T] 7 7 c 14) 8 4 = .yes := by kernel_rfl
theorem p7_95_3 (c : Nat) : seg (runS [T,F,T,T,T,T,T] 7 7 c 14) 12 2 = .yes := by kernel_rfl
theorem p7_121_0 (c : Nat) : seg (runS [T,T,T,T,F,F,T] 7 7 c 13) 0 4 = .yes := by kernel_rfl
theorem p7_121_1 (c : Nat) : seg (runS [T,T,T,T,F,F,T] 7 7 c 13) 4 4 = .yes := by kernel_rfl
theorem p7_121_2 (c : Nat) : seg (runS [T,T,T,T,F,F,T] 7 7 c 13) 8 4 = .yes := by kernel_rfl
theorem p7_121_3 (c : Nat) : seg (runS [T,T,T,T,F,F,T] 7 7 c 13) 12 1 = .yes := by kernel_rfl
theorem p7_79_0 (c : Nat) : seg (runS [T,F,F,T,T,T,T] 7 7 c 13) 0 4 = .yes := by kernel_rfl
theorem p7_79_1 (c : Nat) : seg (runS [T,F,F,T,T,T,T] 7 7 c 13) 4 4 = .yes := by kernel_rfl
theorem p7_79_2 (c : Nat) : seg (runS [T,F,F,T,T,T,T] 7 7 c 13) 8 4 = .yes := by kernel_rfl
theorem p7_79_3 (c : Nat) : seg (runS [T,F,F,T,T,T,T] 7 7 c 13) 12 1 = .yes := by kernel_rfl
theorem p8_115_0 (L c : Nat) : seg (runS [T,T,T,F,F,T,T] 7 (L + 8) c 13) 0 4 = .yes := by kernel_rfl
theorem p8_115_1 (L c : Nat) : seg (runS [T,T,T,F,F,T,T] 7 (L + 8) c 13) 4 4 = .yes := by kernel_rfl
theorem p8_115_2 (L c : Nat) : seg (runS [T,T,T,F,F,T,T] 7 (L + 8) c 13) 8 4 = .yes := by kernel_rfl
theorem p8_115_3 (L c : Nat) : seg (runS [T,T,T,F,F,T,T] 7 (L + 8) c 13) 12 1 = .yes := by kernel_rfl
theorem p8_59_0 (L c : Nat) : seg (runS [F,T,T,T,F,T,T] 7 (L + 8) c 13) 0 4 = .yes := by kernel_rfl
theorem p8_59_1 (L c : Nat) : seg (runS [F,T,T,T,F,T,T] 7 (L + 8) c 13) 4 4 = .yes := by kernel_rfl
theorem p8_59_2 (L c : Nat) : seg (runS [F,T,T,T,F,T,T] 7 (L + 8) c 13) 8 4 = .yes := by kernel_rfl
theorem p8_59_3 (L c : Nat) : seg (runS [F,T,T,T,F,T,T] 7 (L + 8) c 13) 12 1 = .yes := by kernel_rfl
theorem p7_114_0 (c : Nat) : seg (runS [T,T,T,F,F,T,F] 7 7 c 12) 0 4 = .yes := by kernel_rfl
theorem p7_114_1 (c : Nat) : seg (runS [T,T,T,F,F,T,F] 7 7 c 12) 4 4 = .yes := by kernel_rfl
theorem p7_114_2 (c : Nat) : seg (runS [T,T,T,F,F,T,F] 7 7 c 12) 8 4 = .yes := by kernel_rfl
theorem p7_85_0 (c : Nat) : seg (runS [T,F,T,F,T,F,T] 7 7 c 12) 0 4 = .yes := by kernel_rfl
theorem p7_85_1 (c : Nat) : seg (runS [T,F,T,F,T,F,T] 7 7 c 12) 4 4 = .yes := by kernel_rfl
theorem p7_85_2 (c : Nat) : seg (runS [T,F,T,F,T,F,T] 7 7 c 12) 8 4 = .yes := by kernel_rfl
theorem p7_46_0 (c : Nat) : seg (runS [F,T,F,T,T,T,F] 7 7 c 12) 0 4 = .yes := by kernel_rfl
theorem p7_46_1 (c : Nat) : seg (runS [F,T,F,T,T,T,F] 7 7 c 12) 4 4 = .yes := by kernel_rfl
theorem p7_46_2 (c : Nat) : seg (runS [F,T,F,T,T,T,F] 7 7 c 12) 8 4 = .yes := by kernel_rfl
theorem p8_113_0 (L c : Nat) : seg (runS [T,T,T,F,F,F,T] 7 (L + 8) c 12) 0 4 = .yes := by kernel_rfl
theorem p8_113_1 (L c : Nat) : seg (runS [T,T,T,F,F,F,T] 7 (L + 8) c 12) 4 4 = .yes := by kernel_rfl
theorem p8_113_2 (L c : Nat) : seg (runS [T,T,T,F,F,F,T] 7 (L + 8) c 12) 8 4 = .yes := by kernel_rfl
theorem p8_83_0 (L c : Nat) : seg (runS [T,F,T,F,F,T,T] 7 (L + 8) c 12) 0 4 = .yes := by kernel_rfl
theorem p8_83_1 (L c : Nat) : seg (runS [T,F,T,F,F,T,T] 7 (L + 8) c 12) 4 4 = .yes := by kernel_rfl
theorem p8_83_2 (L c : Nat) : seg (runS [T,F,T,F,F,T,T] 7 (L + 8) c 12) 8 4 = .yes := by kernel_rfl
theorem p8_45_0 (L c : Nat) : seg (runS [F,T,F,T,T,F,T] 7 (L + 8) c 12) 0 4 = .yes := by kernel_rfl
theorem p8_45_1 (L c : Nat) : seg (runS [F,T,F,T,T,F,T] 7 (L + 8) c 12) 4 4 = .yes := by kernel_rfl
theorem p8_45_2 (L c : Nat) : seg (runS [F,T,F,T,T,F,T] 7 (L + 8) c 12) 8 4 = .yes := by kernel_rfl
theorem p6_54_0 (c : Nat) : seg (runS [T,T,F,T,T,F] 6 6 c 11) 0 4 = .yes := by kernel_rfl
theorem p6_54_1 (c : Nat) : seg (runS [T,T,F,T,T,F] 6 6 c 11) 4 4 = .yes := by kernel_rfl
theorem p6_54_2 (c : Nat) : seg (runS [T,T,F,T,T,F] 6 6 c 11) 8 3 = .yes := by kernel_rfl
theorem p7_112_0 (c : Nat) : seg (runS [T,T,T,F,F,F,F] 7 7 c 11) 0 4 = .yes := by kernel_rfl
theorem p7_112_1 (c : Nat) : seg (runS [T,T,T,F,F,F,F] 7 7 c 11) 4 4 = .yes := by kernel_rfl
theorem p7_112_2 (c : Nat) : seg (runS [T,T,T,F,F,F,F] 7 7 c 11) 8 3 = .yes := by kernel_rfl
theorem p7_70_0 (c : Nat) : seg (runS [T,F,F,F,T,T,F] 7 7 c 11) 0 4 = .yes := by kernel_rfl
theorem p7_70_1 (c : Nat) : seg (runS [T,F,F,F,T,T,F] 7 7 c 11) 4 4 = .yes := by kernel_rfl
theorem p7_70_2 (c : Nat) : seg (runS [T,F,F,F,T,T,F] 7 7 c 11) 8 3 = .yes := by kernel_rfl
theorem p7_35_0 (c : Nat) : seg (runS [F,T,F,F,F,T,T] 7 7 c 11) 0 4 = .yes := by kernel_rfl
theorem p7_35_1 (c : Nat) : seg (runS [F,T,F,F,F,T,T] 7 7 c 11) 4 4 = .yes := by kernel_rfl
theorem p7_35_2 (c : Nat) : seg (runS [F,T,F,F,F,T,T] 7 7 c 11) 8 3 = .yes := by kernel_rfl
theorem p8_104_0 (L c : Nat) : seg (runS [T,T,F,T,F,F,F] 7 (L + 8) c 11) 0 4 = .yes := by kernel_rfl
theorem p8_104_1 (L c : Nat) : seg (runS [T,T,F,T,F,F,F] 7 (L + 8) c 11) 4 4 = .yes := by kernel_rfl
theorem p8_104_2 (L c : Nat) : seg (runS [T,T,F,T,F,F,F] 7 (L + 8) c 11) 8 3 = .yes := by kernel_rfl
theorem p8_69_0 (L c : Nat) : seg (runS [T,F,F,F,T,F,T] 7 (L + 8) c 11) 0 4 = .yes := by kernel_rfl
theorem p8_69_1 (L c : Nat) : seg (runS [T,F,F,F,T,F,T] 7 (L + 8) c 11) 4 4 = .yes := by kernel_rfl
theorem p8_69_2 (L c : Nat) : seg (runS [T,F,F,F,T,F,T] 7 (L + 8) c 11) 8 3 = .yes := by kernel_rfl
theorem p8_28_0 (L c : Nat) : seg (runS [F,F,T,T,T,F,F] 7 (L + 8) c 11) 0 4 = .yes := by kernel_rfl
theorem p8_28_1 (L c : Nat) : seg (runS [F,F,T,T,T,F,F] 7 (L + 8) c 11) 4 4 = .yes := by kernel_rfl
theorem p8_28_2 (L c : Nat) : seg (runS [F,F,T,T,T,F,F] 7 (L + 8) c 11) 8 3 = .yes := by kernel_rfl
theorem p5_27_0 (c : Nat) : seg (runS [T,T,F,T,T] 5 5 c 10) 0 4 = .yes := by kernel_rfl
theorem p5_27_1 (c : Nat) : seg (runS [T,T,F,T,T] 5 5 c 10) 4 4 = .yes := by kernel_rfl
theorem p5_27_2 (c : Nat) : seg (runS [T,T,F,T,T] 5 5 c 10) 8 2 = .yes := by kernel_rfl
theorem p6_35_0 (c : Nat) : seg (runS [T,F,F,F,T,T] 6 6 c 10) 0 4 = .yes := by kernel_rfl
theorem p6_35_1 (c : Nat) : seg (runS [T,F,F,F,T,T] 6 6 c 10) 4 4 = .yes := by kernel_rfl
theorem p6_35_2 (c : Nat) : seg (runS [T,F,F,F,T,T] 6 6 c 10) 8 2 = .yes := by kernel_rfl
theorem p7_80_0 (c : Nat) : seg (runS [T,F,T,F,F,F,F] 7 7 c 10) 0 4 = .yes := by kernel_rfl
theorem p7_80_1 (c : Nat) : seg (runS [T,F,T,F,F,F,F] 7 7 c 10) 4 4 = .yes := by kernel_rfl
theorem p7_80_2 (c : Nat) : seg (runS [T,F,T,F,F,F,F] 7 7 c 10) 8 2 = .yes := by kernel_rfl
theorem p7_18_0 (c : Nat) : seg (runS [F,F,T,F,F,T,F] 7 7 c 10) 0 4 = .yes := by kernel_rfl
theorem p7_18_1 (c : Nat) : seg (runS [F,F,T,F,F,T,F] 7 7 c 10) 4 4 = .yes := by kernel_rfl
theorem p7_18_2 (c : Nat) : seg (runS [F,F,T,F,F,T,F] 7 7 c 10) 8 2 = .yes := by kernel_rfl
theorem p8_66_0 (L c : Nat) : seg (runS [T,F,F,F,F,T,F] 7 (L + 8) c 10) 0 4 = .yes := by kernel_rfl
theorem p8_66_1 (L c : Nat) : seg (runS [T,F,F,F,F,T,F] 7 (L + 8) c 10) 4 4 = .yes := by kernel_rfl
theorem p8_66_2 (L c : Nat) : seg (runS [T,F,F,F,F,T,F] 7 (L + 8) c 10) 8 2 = .yes := by kernel_rfl
theorem p8_10_0 (L c : Nat) : seg (runS [F,F,F,T,F,T,F] 7 (L + 8) c 10) 0 4 = .yes := by kernel_rfl
theorem p8_10_1 (L c : Nat) : seg (runS [F,F,F,T,F,T,F] 7 (L + 8) c 10) 4 4 = .yes := by kernel_rfl
theorem p8_10_2 (L c : Nat) : seg (runS [F,F,F,T,F,T,F] 7 (L + 8) c 10) 8 2 = .yes := by kernel_rfl
theorem p5_14_0 (c : Nat) : seg (runS [F,T,T,T,F] 5 5 c 9) 0 4 = .yes := by kernel_rfl
theorem p5_14_1 (c : Nat) : seg (runS [F,T,T,T,F] 5 5 c 9) 4 4 = .yes := by kernel_rfl
theorem p5_14_2 (c : Nat) : seg (runS [F,T,T,T,F] 5 5 c 9) 8 1 = .yes := by kernel_rfl
theorem p6_17_0 (c : Nat) : seg (runS [F,T,F,F,F,T] 6 6 c 9) 0 4 = .yes := by kernel_rfl
theorem p6_17_1 (c : Nat) : seg (runS [F,T,F,F,F,T] 6 6 c 9) 4 4 = .yes := by kernel_rfl
theorem p6_17_2 (c : Nat) : seg (runS [F,T,F,F,F,T] 6 6 c 9) 8 1 = .yes := by kernel_rfl
theorem p7_2_0 (c : Nat) : seg (runS [F,F,F,F,F,T,F] 7 7 c 9) 0 4 = .yes := by kernel_rfl
theorem p7_2_1 (c : Nat) : seg (runS [F,F,F,F,F,T,F] 7 7 c 9) 4 4 = .yes := by kernel_rfl
theorem p7_2_2 (c : Nat) : seg (runS [F,F,F,F,F,T,F] 7 7 c 9) 8 1 = .yes := by kernel_rfl
theorem p4_7_0 (c : Nat) : seg (runS [F,T,T,T] 4 4 c 8) 0 4 = .yes := by kernel_rfl
theorem p4_7_1 (c : Nat) : seg (runS [F,T,T,T] 4 4 c 8) 4 4 = .yes := by kernel_rfl
theorem p6_16_0 (c : Nat) : seg (runS [F,T,F,F,F,F] 6 6 c 8) 0 4 = .yes := by kernel_rfl
theorem p6_16_1 (c : Nat) : seg (runS [F,T,F,F,F,F] 6 6 c 8) 4 4 = .yes := by kernel_rfl
theorem p4_5_0 (c : Nat) : seg (runS [F,T,F,T] 4 4 c 7) 0 4 = .yes := by kernel_rfl
theorem p4_5_1 (c : Nat) : seg (runS [F,T,F,T] 4 4 c 7) 4 3 = .yes := by kernel_rfl
theorem p4_4_0 (c : Nat) : seg (runS [F,T,F,F] 4 4 c 6) 0 4 = .yes := by kernel_rfl
theorem p4_4_1 (c : Nat) : seg (runS [F,T,F,F] 4 4 c 6) 4 2 = .yes := by kernel_rfl
theorem p1_1_0 (c : Nat) : seg (runS [T] 1 1 c 3) 0 3 = .yes := by kernel_rfl
end Go.Proofs.Ytbpfdennglbeeaa.pthreadSettlesq
