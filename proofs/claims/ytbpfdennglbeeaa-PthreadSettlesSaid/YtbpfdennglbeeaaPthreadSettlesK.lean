/-
  The law PthreadSettles at some of its cases: the run over the program ends in true. Conditions: none; these are closed facts.
-/
import Derived.Test.YtbpfdennglbeeaaPthreadSettlesA
namespace Go.Proofs.Ytbpfdennglbeeaa.pthreadSettlesq
open Go.Rn Ytbpfdennglbeeaa.txt
theorem p7_63_0 (c : Nat) : seg (runS [F,T,T,T,T,T,T] 7 7 c 14) 0 4 = .yes := by kernel_rfl
theorem p7_63_1 (c : Nat) : seg (runS [F,T,T,T,T,T,T] 7 7 c 14) 4 4 = .yes := by kernel_rfl
theorem p7_63_2 (c : Nat) : seg (runS [F,T,T,T,T,T,T] 7 7 c 14) 8 4 = .yes := by kernel_rfl
theorem p7_63_3 (c : Nat) : seg (runS [F,T,T,T,T,T,T] 7 7 c 14) 12 2 = .yes := by kernel_rfl
theorem p7_118_0 (c : Nat) : seg (runS [T,T,T,F,T,T,F] 7 7 c 13) 0 4 = .yes := by kernel_rfl
theorem p7_118_1 (c : Nat) : seg (runS [T,T,T,F,T,T,F] 7 7 c 13) 4 4 = .yes := by kernel_rfl
theorem p7_118_2 (c : Nat) : seg (runS [T,T,T,F,T,T,F] 7 7 c 13) 8 4 = .yes := by kernel_rfl
theorem p7_118_3 (c : Nat) : seg (runS [T,T,T,F,T,T,F] 7 7 c 13) 12 1 = .yes := by kernel_rfl
theorem p7_62_0 (c : Nat) : seg (runS [F,T,T,T,T,T,F] 7 7 c 13) 0 4 = .yes := by kernel_rfl
theorem p7_62_1 (c : Nat) : seg (runS [F,T,T,T,T,T,F] 7 7 c 13) 4 4 = .yes := by kernel_rfl
theorem p7_62_2 (c : Nat) : seg (runS [F,T,T,T,T,T,F] 7 7 c 13) 8 4 = .yes := by kernel_rfl
theorem p7_62_3 (c : Nat) : seg (runS [F,T,T,T,T,T,F] 7 7 c 13) 12 1 = .yes := by kernel_rfl
theorem p8_110_0 (L c : Nat) : seg (runS [T,T,F,T,T,T,F] 7 (L + 8) c 13) 0 4 = .yes := by kernel_rfl
theorem p8_110_1 (L c : Nat) : seg (runS [T,T,F,T,T,T,F] 7 (L + 8) c 13) 4 4 = .yes := by kernel_rfl
theorem p8_110_2 (L c : Nat) : seg (runS [T,T,F,T,T,T,F] 7 (L + 8) c 13) 8 4 = .yes := by kernel_rfl
theorem p8_110_3 (L c : Nat) : seg (runS [T,T,F,T,T,T,F] 7 (L + 8) c 13) 12 1 = .yes := by kernel_rfl
theorem p8_55_0 (L c : Nat) : seg (runS [F,T,T,F,T,T,T] 7 (L + 8) c 13) 0 4 = .yes := by kernel_rfl
theorem p8_55_1 (L c : Nat) : seg (runS [F,T,T,F,T,T,T] 7 (L + 8) c 13) 4 4 = .yes := by kernel_rfl
theorem p8_55_2 (L c : Nat) : seg (runS [F,T,T,F,T,T,T] 7 (L + 8) c 13) 8 4 = .yes := by kernel_rfl
theorem p8_55_3 (L c : Nat) : seg (runS [F,T,T,F,T,T,T] 7 (L + 8) c 13) 12 1 = .yes := by kernel_rfl
theorem p7_113_0 (c : Nat) : seg (runS [T,T,T,F,F,F,T] 7 7 c 12) 0 4 = .yes := by kernel_rfl
theorem p7_113_1 (c : Nat) : seg (runS [T,T,T,F,F,F,T] 7 7 c 12) 4 4 = .yes := by kernel_rfl
theorem p7_113_2 (c : Nat) : seg (runS [T,T,T,F,F,F,T] 7 7 c 12) 8 4 = .yes := by kernel_rfl
theorem p7_83_0 (c : Nat) : seg (runS [T,F,T,F,F,T,T] 7 7 c 12) 0 4 = .yes := by kernel_rfl
theorem p7_83_1 (c : Nat) : seg (runS [T,F,T,F,F,T,T] 7 7 c 12) 4 4 = .yes := by kernel_rfl
theorem p7_83_2 (c : Nat) : seg (runS [T,F,T,F,F,T,T] 7 7 c 12) 8 4 = .yes := by kernel_rfl
theorem p7_45_0 (c : Nat) : seg (runS [F,T,F,T,T,F,T] 7 7 c 12) 0 4 = .yes := by kernel_rfl
theorem p7_45_1 (c : Nat) : seg (runS [F,T,F,T,T,F,T] 7 7 c 12) 4 4 = .yes := by kernel_rfl
theorem p7_45_2 (c : Nat) : seg (runS [F,T,F,T,T,F,T] 7 7 c 12) 8 4 = .yes := by kernel_rfl
theorem p8_108_0 (L c : Nat) : seg (runS [T,T,F,T,T,F,F] 7 (L + 8) c 12) 0 4 = .yes := by kernel_rfl
theorem p8_108_1 (L c : Nat) : seg (runS [T,T,F,T,T,F,F] 7 (L + 8) c 12) 4 4 = .yes := by kernel_rfl
theorem p8_108_2 (L c : Nat) : seg (runS [T,T,F,T,T,F,F] 7 (L + 8) c 12) 8 4 = .yes := by kernel_rfl
theorem p8_78_0 (L c : Nat) : seg (runS [T,F,F,T,T,T,F] 7 (L + 8) c 12) 0 4 = .yes := by kernel_rfl
theorem p8_78_1 (L c : Nat) : seg (runS [T,F,F,T,T,T,F] 7 (L + 8) c 12) 4 4 = .yes := by kernel_rfl
theorem p8_78_2 (L c : Nat) : seg (runS [T,F,F,T,T,T,F] 7 (L + 8) c 12) 8 4 = .yes := by kernel_rfl
theorem p8_43_0 (L c : Nat) : seg (runS [F,T,F,T,F,T,T] 7 (L + 8) c 12) 0 4 = .yes := by kernel_rfl
theorem p8_43_1 (L c : Nat) : seg (runS [F,T,F,T,F,T,T] 7 (L + 8) c 12) 4 4 = .yes := by kernel_rfl
theorem p8_43_2 (L c : Nat) : seg (runS [F,T,F,T,F,T,T] 7 (L + 8) c 12) 8 4 = .yes := by kernel_rfl
theorem p6_53_0 (c : Nat) : seg (runS [T,T,F,T,F,T] 6 6 c 11) 0 4 = .yes := by kernel_rfl
theorem p6_53_1 (c : Nat) : seg (runS [T,T,F,T,F,T] 6 6 c 11) 4 4 = .yes := by kernel_rfl
theorem p6_53_2 (c : Nat) : seg (runS [T,T,F,T,F,T] 6 6 c 11) 8 3 = .yes := by kernel_rfl
theorem p7_104_0 (c : Nat) : seg (runS [T,T,F,T,F,F,F] 7 7 c 11) 0 4 = .yes := by kernel_rfl
theorem p7_104_1 (c : Nat) : seg (runS [T,T,F,T,F,F,F] 7 7 c 11) 4 4 = .yes := by kernel_rfl
theorem p7_104_2 (c : Nat) : seg (runS [T,T,F,T,F,F,F] 7 7 c 11) 8 3 = .yes := by kernel_rfl
theorem p7_69_0 (c : Nat) : seg (runS [T,F,F,F,T,F,T] 7 7 c 11) 0 4 = .yes := by kernel_rfl
theorem p7_69_1 (c : Nat) : seg (runS [T,F,F,F,T,F,T] 7 7 c 11) 4 4 = .yes := by kernel_rfl
theorem p7_69_2 (c : Nat) : seg (runS [T,F,F,F,T,F,T] 7 7 c 11) 8 3 = .yes := by kernel_rfl
theorem p7_28_0 (c : Nat) : seg (runS [F,F,T,T,T,F,F] 7 7 c 11) 0 4 = .yes := by kernel_rfl
theorem p7_28_1 (c : Nat) : seg (runS [F,F,T,T,T,F,F] 7 7 c 11) 4 4 = .yes := by kernel_rfl
theorem p7_28_2 (c : Nat) : seg (runS [F,F,T,T,T,F,F] 7 7 c 11) 8 3 = .yes := by kernel_rfl
theorem p8_100_0 (L c : Nat) : seg (runS [T,T,F,F,T,F,F] 7 (L + 8) c 11) 0 4 = .yes := by kernel_rfl
theorem p8_100_1 (L c : Nat) : seg (runS [T,T,F,F,T,F,F] 7 (L + 8) c 11) 4 4 = .yes := by kernel_rfl
theorem p8_100_2 (L c : Nat) : seg (runS [T,T,F,F,T,F,F] 7 (L + 8) c 11) 8 3 = .yes := by kernel_rfl
theorem p8_67_0 (L c : Nat) : seg (runS [T,F,F,F,F,T,T] 7 (L + 8) c 11) 0 4 = .yes := by kernel_rfl
theorem p8_67_1 (L c : Nat) : seg (runS [T,F,F,F,F,T,T] 7 (L + 8) c 11) 4 4 = .yes := by kernel_rfl
theorem p8_67_2 (L c : Nat) : seg (runS [T,F,F,F,F,T,T] 7 (L + 8) c 11) 8 3 = .yes := by kernel_rfl
theorem p8_26_0 (L c : Nat) : seg (runS [F,F,T,T,F,T,F] 7 (L + 8) c 11) 0 4 = .yes := by kernel_rfl
theorem p8_26_1 (L c : Nat) : seg (runS [F,F,T,T,F,T,F] 7 (L + 8) c 11) 4 4 = .yes := by kernel_rfl
theorem p8_26_2 (L c : Nat) : seg (runS [F,F,T,T,F,T,F] 7 (L + 8) c 11) 8 3 = .yes := by kernel_rfl
theorem p5_23_0 (c : Nat) : seg (runS [T,F,T,T,T] 5 5 c 10) 0 4 = .yes := by kernel_rfl
theorem p5_23_1 (c : Nat) : seg (runS [T,F,T,T,T] 5 5 c 10) 4 4 = .yes := by kernel_rfl
theorem p5_23_2 (c : Nat) : seg (runS [T,F,T,T,T] 5 5 c 10) 8 2 = .yes := by kernel_rfl
theorem p6_28_0 (c : Nat) : seg (runS [F,T,T,T,F,F] 6 6 c 10) 0 4 = .yes := by kernel_rfl
theorem p6_28_1 (c : Nat) : seg (runS [F,T,T,T,F,F] 6 6 c 10) 4 4 = .yes := by kernel_rfl
theorem p6_28_2 (c : Nat) : seg (runS [F,T,T,T,F,F] 6 6 c 10) 8 2 = .yes := by kernel_rfl
theorem p7_72_0 (c : Nat) : seg (runS [T,F,F,T,F,F,F] 7 7 c 10) 0 4 = .yes := by kernel_rfl
theorem p7_72_1 (c : Nat) : seg (runS [T,F,F,T,F,F,F] 7 7 c 10) 4 4 = .yes := by kernel_rfl
theorem p7_72_2 (c : Nat) : seg (runS [T,F,F,T,F,F,F] 7 7 c 10) 8 2 = .yes := by kernel_rfl
theorem p7_17_0 (c : Nat) : seg (runS [F,F,T,F,F,F,T] 7 7 c 10) 0 4 = .yes := by kernel_rfl
theorem p7_17_1 (c : Nat) : seg (runS [F,F,T,F,F,F,T] 7 7 c 10) 4 4 = .yes := by kernel_rfl
theorem p7_17_2 (c : Nat) : seg (runS [F,F,T,F,F,F,T] 7 7 c 10) 8 2 = .yes := by kernel_rfl
theorem p8_65_0 (L c : Nat) : seg (runS [T,F,F,F,F,F,T] 7 (L + 8) c 10) 0 4 = .yes := by kernel_rfl
theorem p8_65_1 (L c : Nat) : seg (runS [T,F,F,F,F,F,T] 7 (L + 8) c 10) 4 4 = .yes := by kernel_rfl
theorem p8_65_2 (L c : Nat) : seg (runS [T,F,F,F,F,F,T] 7 (L + 8) c 10) 8 2 = .yes := by kernel_rfl
theorem p8_9_0 (L c : Nat) : seg (runS [F,F,F,T,F,F,T] 7 (L + 8) c 10) 0 4 = .yes := by kernel_rfl
theorem p8_9_1 (L c : Nat) : seg (runS [F,F,F,T,F,F,T] 7 (L + 8) c 10) 4 4 = .yes := by kernel_rfl
theorem p8_9_2 (L c : Nat) : seg (runS [F,F,F,T,F,F,T] 7 (L + 8) c 10) 8 2 = .yes := by kernel_rfl
theorem p5_13_0 (c : Nat) : seg (runS [F,T,T,F,T] 5 5 c 9) 0 4 = .yes := by kernel_rfl
theorem p5_13_1 (c : Nat) : seg (runS [F,T,T,F,T] 5 5 c 9) 4 4 = .yes := by kernel_rfl
theorem p5_13_2 (c : Nat) : seg (runS [F,T,T,F,T] 5 5 c 9) 8 1 = .yes := by kernel_rfl
theorem p6_12_0 (c : Nat) : seg (runS [F,F,T,T,F,F] 6 6 c 9) 0 4 = .yes := by kernel_rfl
theorem p6_12_1 (c : Nat) : seg (runS [F,F,T,T,F,F] 6 6 c 9) 4 4 = .yes := by kernel_rfl
theorem p6_12_2 (c : Nat) : seg (runS [F,F,T,T,F,F] 6 6 c 9) 8 1 = .yes := by kernel_rfl
theorem p7_1_0 (c : Nat) : seg (runS [F,F,F,F,F,F,T] 7 7 c 9) 0 4 = .yes := by kernel_rfl
theorem p7_1_1 (c : Nat) : seg (runS [F,F,F,F,F,F,T] 7 7 c 9) 4 4 = .yes := by kernel_rfl
theorem p7_1_2 (c : Nat) : seg (runS [F,F,F,F,F,F,T] 7 7 c 9) 8 1 = .yes := by kernel_rfl
theorem p5_24_0 (c : Nat) : seg (runS [T,T,F,F,F] 5 5 c 8) 0 4 = .yes := by kernel_rfl
theorem p5_24_1 (c : Nat) : seg (runS [T,T,F,F,F] 5 5 c 8) 4 4 = .yes := by kernel_rfl
theorem p6_8_0 (c : Nat) : seg (runS [F,F,T,F,F,F] 6 6 c 8) 0 4 = .yes := by kernel_rfl
theorem p6_8_1 (c : Nat) : seg (runS [F,F,T,F,F,F] 6 6 c 8) 4 4 = .yes := by kernel_rfl
theorem p4_3_0 (c : Nat) : seg (runS [F,F,T,T] 4 4 c 7) 0 4 = .yes := by kernel_rfl
theorem p4_3_1 (c : Nat) : seg (runS [F,F,T,T] 4 4 c 7) 4 3 = .yes := by kernel_rfl
theorem p4_2_0 (c : Nat) : seg (runS [F,F,T,F] 4 4 c 6) 0 4 = .yes := by kernel_rfl
theorem p4_2_1 (c : Nat) : seg (runS [F,F,T,F] 4 4 c 6) 4 2 = .yes := by kernel_rfl
theorem p2_0_0 (c : Nat) : seg (runS [F,F] 2 2 c 3) 0 3 = .yes := by kernel_rfl
end Go.Proofs.Ytbpfdennglbeeaa.pthreadSettlesq
