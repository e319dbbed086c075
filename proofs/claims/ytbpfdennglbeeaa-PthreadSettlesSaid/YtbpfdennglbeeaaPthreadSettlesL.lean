/-
  The law PthreadSettles at some of its cases: the run over the program ends in true. Conditions: none; these are closed facts.
-/
import Derived.Test.YtbpfdennglbeeaaPthreadSettlesA
namespace Go.Proofs.Ytbpfdennglbeeaa.pthreadSettlesq
open Go.Rn Ytbpfdennglbeeaa.txt
theorem p8_126_0 (L c : Nat) : seg (runS [T,T,T,T,T,T,F] 7 (L + 8) c 14) 0 4 = .yes := by kernel_rfl
theorem p8_126_1 (L c : Nat) : seg (runS [T,T,T,T,T,T,F] 7 (L + 8) c 14) 4 4 = .yes := by kernel_rfl
theorem p8_126_2 (L c : Nat) : seg (runS [T,T,T,T,T,T,F] 7 (L + 8) c 14) 8 4 = .yes := by kernel_rfl
theorem p8_126_3 (L c : Nat) : seg (runS [T,T,T,T,T,T,F] 7 (L + 8) c 14) 12 2 = .yes := by kernel_rfl
theorem p7_117_0 (c : Nat) : seg (runS [T,T,T,F,T,F,T] 7 7 c 13) 0 4 = .yes := by kernel_rfl
theorem p7_117_1 (c : Nat) : seg (runS [T,T,T,F,T,F,T] 7 7 c 13) 4 4 = .yes := by kernel_rfl
theorem p7_117_2 (c : Nat) : seg (runS [T,T,T,F,T,F,T] 7 7 c 13) 8 4 = .yes := by kernel_rfl
theorem p7_117_3 (c : Nat) : seg (runS [T,T,T,F,T,F,T] 7 7 c 13) 12 1 = .yes := by kernel_rfl
theorem p7_61_0 (c : Nat) : seg (runS [F,T,T,T,T,F,T] 7 7 c 13) 0 4 = .yes := by kernel_rfl
theorem p7_61_1 (c : Nat) : seg (runS [F,T,T,T,T,F,T] 7 7 c 13) 4 4 = .yes := by kernel_rfl
theorem p7_61_2 (c : Nat) : seg (runS [F,T,T,T,T,F,T] 7 7 c 13) 8 4 = .yes := by kernel_rfl
theorem p7_61_3 (c : Nat) : seg (runS [F,T,T,T,T,F,T] 7 7 c 13) 12 1 = .yes := by kernel_rfl
theorem p8_109_0 (L c : Nat) : seg (runS [T,T,F,T,T,F,T] 7 (L + 8) c 13) 0 4 = .yes := by kernel_rfl
theorem p8_109_1 (L c : Nat) : seg (runS [T,T,F,T,T,F,T] 7 (L + 8) c 13) 4 4 = .yes := by kernel_rfl
theorem p8_109_2 (L c : Nat) : seg (runS [T,T,F,T,T,F,T] 7 (L + 8) c 13) 8 4 = .yes := by kernel_rfl
theorem p8_109_3 (L c : Nat) : seg (runS [T,T,F,T,T,F,T] 7 (L + 8) c 13) 12 1 = .yes := by kernel_rfl
theorem p8_47_0 (L c : Nat) : seg (runS [F,T,F,T,T,T,T] 7 (L + 8) c 13) 0 4 = .yes := by kernel_rfl
theorem p8_47_1 (L c : Nat) : seg (runS [F,T,F,T,T,T,T] 7 (L + 8) c 13) 4 4 = .yes := by kernel_rfl
theorem p8_47_2 (L c : Nat) : seg (runS [F,T,F,T,T,T,T] 7 (L + 8) c 13) 8 4 = .yes := by kernel_rfl
theorem p8_47_3 (L c : Nat) : seg (runS [F,T,F,T,T,T,T] 7 (L + 8) c 13) 12 1 = .yes := by kernel_rfl
theorem p7_108_0 (c : Nat) : seg (runS [T,T,F,T,T,F,F] 7 7 c 12) 0 4 = .yes := by kernel_rfl
theorem p7_108_1 (c : Nat) : seg (runS [T,T,F,T,T,F,F] 7 7 c 12) 4 4 = .yes := by kernel_rfl
theorem p7_108_2 (c : Nat) : seg (runS [T,T,F,T,T,F,F] 7 7 c 12) 8 4 = .yes := by kernel_rfl
theorem p7_78_0 (c : Nat) : seg (runS [T,F,F,T,T,T,F] 7 7 c 12) 0 4 = .yes := by kernel_rfl
theorem p7_78_1 (c : Nat) : seg (runS [T,F,F,T,T,T,F] 7 7 c 12) 4 4 = .yes := by kernel_rfl
theorem p7_78_2 (c : Nat) : seg (runS [T,F,F,T,T,T,F] 7 7 c 12) 8 4 = .yes := by kernel_rfl
theorem p7_43_0 (c : Nat) : seg (runS [F,T,F,T,F,T,T] 7 7 c 12) 0 4 = .yes := by kernel_rfl
theorem p7_43_1 (c : Nat) : seg (runS [F,T,F,T,F,T,T] 7 7 c 12) 4 4 = .yes := by kernel_rfl
theorem p7_43_2 (c : Nat) : seg (runS [F,T,F,T,F,T,T] 7 7 c 12) 8 4 = .yes := by kernel_rfl
theorem p8_106_0 (L c : Nat) : seg (runS [T,T,F,T,F,T,F] 7 (L + 8) c 12) 0 4 = .yes := by kernel_rfl
theorem p8_106_1 (L c : Nat) : seg (runS [T,T,F,T,F,T,F] 7 (L + 8) c 12) 4 4 = .yes := by kernel_rfl
theorem p8_106_2 (L c : Nat) : seg (runS [T,T,F,T,F,T,F] 7 (L + 8) c 12) 8 4 = .yes := by kernel_rfl
theorem p8_77_0 (L c : Nat) : seg (runS [T,F,F,T,T,F,T] 7 (L + 8) c 12) 0 4 = .yes := by kernel_rfl
theorem p8_77_1 (L c : Nat) : seg (runS [T,F,F,T,T,F,T] 7 (L + 8) c 12) 4 4 = .yes := by kernel_rfl
theorem p8_77_2 (L c : Nat) : seg (runS [T,F,F,T,T,F,T] 7 (L + 8) c 12) 8 4 = .yes := by kernel_rfl
theorem p8_39_0 (L c : Nat) : seg (runS [F,T,F,F,T,T,T] 7 (L + 8) c 12) 0 4 = .yes := by kernel_rfl
theorem p8_39_1 (L c : Nat) : seg (runS [F,T,F,F,T,T,T] 7 (L + 8) c 12) 4 4 = .yes := by kernel_rfl
theorem p8_39_2 (L c : Nat) : seg (runS [F,T,F,F,T,T,T] 7 (L + 8) c 12) 8 4 = .yes := by kernel_rfl
theorem p6_51_0 (c : Nat) : seg (runS [T,T,F,F,T,T] 6 6 c 11) 0 4 = .yes := by kernel_rfl
theorem p6_51_1 (c : Nat) : seg (runS [T,T,F,F,T,T] 6 6 c 11) 4 4 = .yes := by kernel_rfl
theorem p6_51_2 (c : Nat) : seg (runS [T,T,F,F,T,T] 6 6 c 11) 8 3 = .yes := by kernel_rfl
theorem p7_100_0 (c : Nat) : seg (runS [T,T,F,F,T,F,F] 7 7 c 11) 0 4 = .yes := by kernel_rfl
theorem p7_100_1 (c : Nat) : seg (runS [T,T,F,F,T,F,F] 7 7 c 11) 4 4 = .yes := by kernel_rfl
theorem p7_100_2 (c : Nat) : seg (runS [T,T,F,F,T,F,F] 7 7 c 11) 8 3 = .yes := by kernel_rfl
theorem p7_67_0 (c : Nat) : seg (runS [T,F,F,F,F,T,T] 7 7 c 11) 0 4 = .yes := by kernel_rfl
theorem p7_67_1 (c : Nat) : seg (runS [T,F,F,F,F,T,T] 7 7 c 11) 4 4 = .yes := by kernel_rfl
theorem p7_67_2 (c : Nat) : seg (runS [T,F,F,F,F,T,T] 7 7 c 11) 8 3 = .yes := by kernel_rfl
theorem p7_26_0 (c : Nat) : seg (runS [F,F,T,T,F,T,F] 7 7 c 11) 0 4 = .yes := by kernel_rfl
theorem p7_26_1 (c : Nat) : seg (runS [F,F,T,T,F,T,F] 7 7 c 11) 4 4 = .yes := by kernel_rfl
theorem p7_26_2 (c : Nat) : seg (runS [F,F,T,T,F,T,F] 7 7 c 11) 8 3 = .yes := by kernel_rfl
theorem p8_98_0 (L c : Nat) : seg (runS [T,T,F,F,F,T,F] 7 (L + 8) c 11) 0 4 = .yes := by kernel_rfl
theorem p8_98_1 (L c : Nat) : seg (runS [T,T,F,F,F,T,F] 7 (L + 8) c 11) 4 4 = .yes := by kernel_rfl
theorem p8_98_2 (L c : Nat) : seg (runS [T,T,F,F,F,T,F] 7 (L + 8) c 11) 8 3 = .yes := by kernel_rfl
theorem p8_56_0 (L c : Nat) : seg (runS [F,T,T,T,F,F,F] 7 (L + 8) c 11) 0 4 = .yes := by kernel_rfl
theorem p8_56_1 (L c : Nat) : seg (runS [F,T,T,T,F,F,F] 7 (L + 8) c 11) 4 4 = .yes := by kernel_rfl
theorem p8_56_2 (L c : Nat) : seg (runS [F,T,T,T,F,F,F] 7 (L + 8) c 11) 8 3 = .yes := by kernel_rfl
theorem p8_25_0 (L c : Nat) : seg (runS [F,F,T,T,F,F,T] 7 (L + 8) c 11) 0 4 = .yes := by kernel_rfl
theorem p8_25_1 (L c : Nat) : seg (runS [F,F,T,T,F,F,T] 7 (L + 8) c 11) 4 4 = .yes := by kernel_rfl
theorem p8_25_2 (L c : Nat) : seg (runS [F,F,T,T,F,F,T] 7 (L + 8) c 11) 8 3 = .yes := by kernel_rfl
theorem p5_15_0 (c : Nat) : seg (runS [F,T,T,T,T] 5 5 c 10) 0 4 = .yes := by kernel_rfl
theorem p5_15_1 (c : Nat) : seg (runS [F,T,T,T,T] 5 5 c 10) 4 4 = .yes := by kernel_rfl
theorem p5_15_2 (c : Nat) : seg (runS [F,T,T,T,T] 5 5 c 10) 8 2 = .yes := by kernel_rfl
theorem p6_26_0 (c : Nat) : seg (runS [F,T,T,F,T,F] 6 6 c 10) 0 4 = .yes := by kernel_rfl
theorem p6_26_1 (c : Nat) : seg (runS [F,T,T,F,T,F] 6 6 c 10) 4 4 = .yes := by kernel_rfl
theorem p6_26_2 (c : Nat) : seg (runS [F,T,T,F,T,F] 6 6 c 10) 8 2 = .yes := by kernel_rfl
theorem p7_68_0 (c : Nat) : seg (runS [T,F,F,F,T,F,F] 7 7 c 10) 0 4 = .yes := by kernel_rfl
theorem p7_68_1 (c : Nat) : seg (runS [T,F,F,F,T,F,F] 7 7 c 10) 4 4 = .yes := by kernel_rfl
theorem p7_68_2 (c : Nat) : seg (runS [T,F,F,F,T,F,F] 7 7 c 10) 8 2 = .yes := by kernel_rfl
theorem p7_12_0 (c : Nat) : seg (runS [F,F,F,T,T,F,F] 7 7 c 10) 0 4 = .yes := by kernel_rfl
theorem p7_12_1 (c : Nat) : seg (runS [F,F,F,T,T,F,F] 7 7 c 10) 4 4 = .yes := by kernel_rfl
theorem p7_12_2 (c : Nat) : seg (runS [F,F,F,T,T,F,F] 7 7 c 10) 8 2 = .yes := by kernel_rfl
theorem p8_48_0 (L c : Nat) : seg (runS [F,T,T,F,F,F,F] 7 (L + 8) c 10) 0 4 = .yes := by kernel_rfl
theorem p8_48_1 (L c : Nat) : seg (runS [F,T,T,F,F,F,F] 7 (L + 8) c 10) 4 4 = .yes := by kernel_rfl
theorem p8_48_2 (L c : Nat) : seg (runS [F,T,T,F,F,F,F] 7 (L + 8) c 10) 8 2 = .yes := by kernel_rfl
theorem p8_6_0 (L c : Nat) : seg (runS [F,F,F,F,T,T,F] 7 (L + 8) c 10) 0 4 = .yes := by kernel_rfl
theorem p8_6_1 (L c : Nat) : seg (runS [F,F,F,F,T,T,F] 7 (L + 8) c 10) 4 4 = .yes := by kernel_rfl
theorem p8_6_2 (L c : Nat) : seg (runS [F,F,F,F,T,T,F] 7 (L + 8) c 10) 8 2 = .yes := by kernel_rfl
theorem p5_11_0 (c : Nat) : seg (runS [F,T,F,T,T] 5 5 c 9) 0 4 = .yes := by kernel_rfl
theorem p5_11_1 (c : Nat) : seg (runS [F,T,F,T,T] 5 5 c 9) 4 4 = .yes := by kernel_rfl
theorem p5_11_2 (c : Nat) : seg (runS [F,T,F,T,T] 5 5 c 9) 8 1 = .yes := by kernel_rfl
theorem p6_10_0 (c : Nat) : seg (runS [F,F,T,F,T,F] 6 6 c 9) 0 4 = .yes := by kernel_rfl
theorem p6_10_1 (c : Nat) : seg (runS [F,F,T,F,T,F] 6 6 c 9) 4 4 = .yes := by kernel_rfl
theorem p6_10_2 (c : Nat) : seg (runS [F,F,T,F,T,F] 6 6 c 9) 8 1 = .yes := by kernel_rfl
theorem p8_64_0 (L c : Nat) : seg (runS [T,F,F,F,F,F,F] 7 (L + 8) c 9) 0 4 = .yes := by kernel_rfl
theorem p8_64_1 (L c : Nat) : seg (runS [T,F,F,F,F,F,F] 7 (L + 8) c 9) 4 4 = .yes := by kernel_rfl
theorem p8_64_2 (L c : Nat) : seg (runS [T,F,F,F,F,F,F] 7 (L + 8) c 9) 8 1 = .yes := by kernel_rfl
theorem p5_20_0 (c : Nat) : seg (runS [T,F,T,F,F] 5 5 c 8) 0 4 = .yes := by kernel_rfl
theorem p5_20_1 (c : Nat) : seg (runS [T,F,T,F,F] 5 5 c 8) 4 4 = .yes := by kernel_rfl
theorem p6_4_0 (c : Nat) : seg (runS [F,F,F,T,F,F] 6 6 c 8) 0 4 = .yes := by kernel_rfl
theorem p6_4_1 (c : Nat) : seg (runS [F,F,F,T,F,F] 6 6 c 8) 4 4 = .yes := by kernel_rfl
theorem p5_16_0 (c : Nat) : seg (runS [T,F,F,F,F] 5 5 c 7) 0 4 = .yes := by kernel_rfl
theorem p5_16_1 (c : Nat) : seg (runS [T,F,F,F,F] 5 5 c 7) 4 3 = .yes := by kernel_rfl
theorem p4_1_0 (c : Nat) : seg (runS [F,F,F,T] 4 4 c 6) 0 4 = .yes := by kernel_rfl
theorem p4_1_1 (c : Nat) : seg (runS [F,F,F,T] 4 4 c 6) 4 2 = .yes := by kernel_rfl
theorem p1_0_0 (c : Nat) : seg (runS [F] 1 1 c 2) 0 2 = .yes := by kernel_rfl
end Go.Proofs.Ytbpfdennglbeeaa.pthreadSettlesq
