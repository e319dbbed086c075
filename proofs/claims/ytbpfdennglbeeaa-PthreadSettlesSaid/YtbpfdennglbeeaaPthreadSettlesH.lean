/-
  The law PthreadSettles at some of its cases: the run over the program ends in true. Conditions: none; these are closed facts.
-/
import Derived.Test.YtbpfdennglbeeaaPthreadSettlesA
namespace Go.Proofs.Ytbpfdennglbeeaa.pthreadSettlesq
open Go.Rn Ytbpfdennglbeeaa.txt
theorem p7_119_0 (c : Nat) : seg (runS [T,T,T,F,T,T,T] 7 7 c 14) 0 4 = .yes := by kernel_rfl
theorem p7_119_1 (c : Nat) : seg (runS [T,T,T,F,T,T,T] 7 7 c 14) 4 4 = .yes := by kernel_rfl
theorem p7_119_2 (c : Nat) : seg (runS [T,T,T,F,T,T,T] 7 7 c 14) 8 4 = .yes := by kernel_rfl
theorem p7_119_3 (c : Nat) : seg (runS [T,T,T,F,T,T,T] 7 7 c 14) 12 2 = .yes := by kernel_rfl
theorem p7_124_0 (c : Nat) : seg (runS [T,T,T,T,T,F,F] 7 7 c 13) 0 4 = .yes := by kernel_rfl
theorem p7_124_1 (c : Nat) : seg (runS [T,T,T,T,T,F,F] 7 7 c 13) 4 4 = .yes := by kernel_rfl
theorem p7_124_2 (c : Nat) : seg (runS [T,T,T,T,T,F,F] 7 7 c 13) 8 4 = .yes := by kernel_rfl
theorem p7_124_3 (c : Nat) : seg (runS [T,T,T,T,T,F,F] 7 7 c 13) 12 1 = .yes := by kernel_rfl
theorem p7_91_0 (c : Nat) : seg (runS [T,F,T,T,F,T,T] 7 7 c 13) 0 4 = .yes := by kernel_rfl
theorem p7_91_1 (c : Nat) : seg (runS [T,F,T,T,F,T,T] 7 7 c 13) 4 4 = .yes := by kernel_rfl
theorem p7_91_2 (c : Nat) : seg (runS [T,F,T,T,F,T,T] 7 7 c 13) 8 4 = .yes := by kernel_rfl
theorem p7_91_3 (c : Nat) : seg (runS [T,F,T,T,F,T,T] 7 7 c 13) 12 1 = .yes := by kernel_rfl
theorem p8_118_0 (L c : Nat) : seg (runS [T,T,T,F,T,T,F] 7 (L + 8) c 13) 0 4 = .yes := by kernel_rfl
theorem p8_118_1 (L c : Nat) : seg (runS [T,T,T,F,T,T,F] 7 (L + 8) c 13) 4 4 = .yes := by kernel_rfl
theorem p8_118_2 (L c : Nat) : seg (runS [T,T,T,F,T,T,F] 7 (L + 8) c 13) 8 4 = .yes := by kernel_rfl
theorem p8_118_3 (L c : Nat) : seg (runS [T,T,T,F,T,T,F] 7 (L + 8) c 13) 12 1 = .yes := by kernel_rfl
theorem p8_62_0 (L c : Nat) : seg (runS [F,T,T,T,T,T,F] 7 (L + 8) c 13) 0 4 = .yes := by kernel_rfl
theorem p8_62_1 (L c : Nat) : seg (runS [F,T,T,T,T,T,F] 7 (L + 8) c 13) 4 4 = .yes := by kernel_rfl
theorem p8_62_2 (L c : Nat) : seg (runS [F,T,T,T,T,T,F] 7 (L + 8) c 13) 8 4 = .yes := by kernel_rfl
theorem p8_62_3 (L c : Nat) : seg (runS [F,T,T,T,T,T,F] 7 (L + 8) c 13) 12 1 = .yes := by kernel_rfl
theorem p7_120_0 (c : Nat) : seg (runS [T,T,T,T,F,F,F] 7 7 c 12) 0 4 = .yes := by kernel_rfl
theorem p7_120_1 (c : Nat) : seg (runS [T,T,T,T,F,F,F] 7 7 c 12) 4 4 = .yes := by kernel_rfl
theorem p7_120_2 (c : Nat) : seg (runS [T,T,T,T,F,F,F] 7 7 c 12) 8 4 = .yes := by kernel_rfl
theorem p7_89_0 (c : Nat) : seg (runS [T,F,T,T,F,F,T] 7 7 c 12) 0 4 = .yes := by kernel_rfl
theorem p7_89_1 (c : Nat) : seg (runS [T,F,T,T,F,F,T] 7 7 c 12) 4 4 = .yes := by kernel_rfl
theorem p7_89_2 (c : Nat) : seg (runS [T,F,T,T,F,F,T] 7 7 c 12) 8 4 = .yes := by kernel_rfl
theorem p7_53_0 (c : Nat) : seg (runS [F,T,T,F,T,F,T] 7 7 c 12) 0 4 = .yes := by kernel_rfl
theorem p7_53_1 (c : Nat) : seg (runS [F,T,T,F,T,F,T] 7 7 c 12) 4 4 = .yes := by kernel_rfl
theorem p7_53_2 (c : Nat) : seg (runS [F,T,T,F,T,F,T] 7 7 c 12) 8 4 = .yes := by kernel_rfl
theorem p8_116_0 (L c : Nat) : seg (runS [T,T,T,F,T,F,F] 7 (L + 8) c 12) 0 4 = .yes := by kernel_rfl
theorem p8_116_1 (L c : Nat) : seg (runS [T,T,T,F,T,F,F] 7 (L + 8) c 12) 4 4 = .yes := by kernel_rfl
theorem p8_116_2 (L c : Nat) : seg (runS [T,T,T,F,T,F,F] 7 (L + 8) c 12) 8 4 = .yes := by kernel_rfl
theorem p8_86_0 (L c : Nat) : seg (runS [T,F,T,F,T,T,F] 7 (L + 8) c 12) 0 4 = .yes := by kernel_rfl
theorem p8_86_1 (L c : Nat) : seg (runS [T,F,T,F,T,T,F] 7 (L + 8) c 12) 4 4 = .yes := by kernel_rfl
theorem p8_86_2 (L c : Nat) : seg (runS [T,F,T,F,T,T,F] 7 (L + 8) c 12) 8 4 = .yes := by kernel_rfl
theorem p8_51_0 (L c : Nat) : seg (runS [F,T,T,F,F,T,T] 7 (L + 8) c 12) 0 4 = .yes := by kernel_rfl
theorem p8_51_1 (L c : Nat) : seg (runS [F,T,T,F,F,T,T] 7 (L + 8) c 12) 4 4 = .yes := by kernel_rfl
theorem p8_51_2 (L c : Nat) : seg (runS [F,T,T,F,F,T,T] 7 (L + 8) c 12) 8 4 = .yes := by kernel_rfl
theorem p6_58_0 (c : Nat) : seg (runS [T,T,T,F,T,F] 6 6 c 11) 0 4 = .yes := by kernel_rfl
theorem p6_58_1 (c : Nat) : seg (runS [T,T,T,F,T,F] 6 6 c 11) 4 4 = .yes := by kernel_rfl
theorem p6_58_2 (c : Nat) : seg (runS [T,T,T,F,T,F] 6 6 c 11) 8 3 = .yes := by kernel_rfl
theorem p6_23_0 (c : Nat) : seg (runS [F,T,F,T,T,T] 6 6 c 11) 0 4 = .yes := by kernel_rfl
theorem p6_23_1 (c : Nat) : seg (runS [F,T,F,T,T,T] 6 6 c 11) 4 4 = .yes := by kernel_rfl
theorem p6_23_2 (c : Nat) : seg (runS [F,T,F,T,T,T] 6 6 c 11) 8 3 = .yes := by kernel_rfl
theorem p7_74_0 (c : Nat) : seg (runS [T,F,F,T,F,T,F] 7 7 c 11) 0 4 = .yes := by kernel_rfl
theorem p7_74_1 (c : Nat) : seg (runS [T,F,F,T,F,T,F] 7 7 c 11) 4 4 = .yes := by kernel_rfl
theorem p7_74_2 (c : Nat) : seg (runS [T,F,F,T,F,T,F] 7 7 c 11) 8 3 = .yes := by kernel_rfl
theorem p7_38_0 (c : Nat) : seg (runS [F,T,F,F,T,T,F] 7 7 c 11) 0 4 = .yes := by kernel_rfl
theorem p7_38_1 (c : Nat) : seg (runS [F,T,F,F,T,T,F] 7 7 c 11) 4 4 = .yes := by kernel_rfl
theorem p7_38_2 (c : Nat) : seg (runS [F,T,F,F,T,T,F] 7 7 c 11) 8 3 = .yes := by kernel_rfl
theorem p7_7_0 (c : Nat) : seg (runS [F,F,F,F,T,T,T] 7 7 c 11) 0 4 = .yes := by kernel_rfl
theorem p7_7_1 (c : Nat) : seg (runS [F,F,F,F,T,T,T] 7 7 c 11) 4 4 = .yes := by kernel_rfl
theorem p7_7_2 (c : Nat) : seg (runS [F,F,F,F,T,T,T] 7 7 c 11) 8 3 = .yes := by kernel_rfl
theorem p8_73_0 (L c : Nat) : seg (runS [T,F,F,T,F,F,T] 7 (L + 8) c 11) 0 4 = .yes := by kernel_rfl
theorem p8_73_1 (L c : Nat) : seg (runS [T,F,F,T,F,F,T] 7 (L + 8) c 11) 4 4 = .yes := by kernel_rfl
theorem p8_73_2 (L c : Nat) : seg (runS [T,F,F,T,F,F,T] 7 (L + 8) c 11) 8 3 = .yes := by kernel_rfl
theorem p8_37_0 (L c : Nat) : seg (runS [F,T,F,F,T,F,T] 7 (L + 8) c 11) 0 4 = .yes := by kernel_rfl
theorem p8_37_1 (L c : Nat) : seg (runS [F,T,F,F,T,F,T] 7 (L + 8) c 11) 4 4 = .yes := by kernel_rfl
theorem p8_37_2 (L c : Nat) : seg (runS [F,T,F,F,T,F,T] 7 (L + 8) c 11) 8 3 = .yes := by kernel_rfl
theorem p5_30_0 (c : Nat) : seg (runS [T,T,T,T,F] 5 5 c 10) 0 4 = .yes := by kernel_rfl
theorem p5_30_1 (c : Nat) : seg (runS [T,T,T,T,F] 5 5 c 10) 4 4 = .yes := by kernel_rfl
theorem p5_30_2 (c : Nat) : seg (runS [T,T,T,T,F] 5 5 c 10) 8 2 = .yes := by kernel_rfl
theorem p6_38_0 (c : Nat) : seg (runS [T,F,F,T,T,F] 6 6 c 10) 0 4 = .yes := by kernel_rfl
theorem p6_38_1 (c : Nat) : seg (runS [T,F,F,T,T,F] 6 6 c 10) 4 4 = .yes := by kernel_rfl
theorem p6_38_2 (c : Nat) : seg (runS [T,F,F,T,T,F] 6 6 c 10) 8 2 = .yes := by kernel_rfl
theorem p6_7_0 (c : Nat) : seg (runS [F,F,F,T,T,T] 6 6 c 10) 0 4 = .yes := by kernel_rfl
theorem p6_7_1 (c : Nat) : seg (runS [F,F,F,T,T,T] 6 6 c 10) 4 4 = .yes := by kernel_rfl
theorem p6_7_2 (c : Nat) : seg (runS [F,F,F,T,T,T] 6 6 c 10) 8 2 = .yes := by kernel_rfl
theorem p7_24_0 (c : Nat) : seg (runS [F,F,T,T,F,F,F] 7 7 c 10) 0 4 = .yes := by kernel_rfl
theorem p7_24_1 (c : Nat) : seg (runS [F,F,T,T,F,F,F] 7 7 c 10) 4 4 = .yes := by kernel_rfl
theorem p7_24_2 (c : Nat) : seg (runS [F,F,T,T,F,F,F] 7 7 c 10) 8 2 = .yes := by kernel_rfl
theorem p8_72_0 (L c : Nat) : seg (runS [T,F,F,T,F,F,F] 7 (L + 8) c 10) 0 4 = .yes := by kernel_rfl
theorem p8_72_1 (L c : Nat) : seg (runS [T,F,F,T,F,F,F] 7 (L + 8) c 10) 4 4 = .yes := by kernel_rfl
theorem p8_72_2 (L c : Nat) : seg (runS [T,F,F,T,F,F,F] 7 (L + 8) c 10) 8 2 = .yes := by kernel_rfl
theorem p8_17_0 (L c : Nat) : seg (runS [F,F,T,F,F,F,T] 7 (L + 8) c 10) 0 4 = .yes := by kernel_rfl
theorem p8_17_1 (L c : Nat) : seg (runS [F,F,T,F,F,F,T] 7 (L + 8) c 10) 4 4 = .yes := by kernel_rfl
theorem p8_17_2 (L c : Nat) : seg (runS [F,F,T,F,F,F,T] 7 (L + 8) c 10) 8 2 = .yes := by kernel_rfl
theorem p5_21_0 (c : Nat) : seg (runS [T,F,T,F,T] 5 5 c 9) 0 4 = .yes := by kernel_rfl
theorem p5_21_1 (c : Nat) : seg (runS [T,F,T,F,T] 5 5 c 9) 4 4 = .yes := by kernel_rfl
theorem p5_21_2 (c : Nat) : seg (runS [T,F,T,F,T] 5 5 c 9) 8 1 = .yes := by kernel_rfl
theorem p6_20_0 (c : Nat) : seg (runS [F,T,F,T,F,F] 6 6 c 9) 0 4 = .yes := by kernel_rfl
theorem p6_20_1 (c : Nat) : seg (runS [F,T,F,T,F,F] 6 6 c 9) 4 4 = .yes := by kernel_rfl
theorem p6_20_2 (c : Nat) : seg (runS [F,T,F,T,F,F] 6 6 c 9) 8 1 = .yes := by kernel_rfl
theorem p7_8_0 (c : Nat) : seg (runS [F,F,F,T,F,F,F] 7 7 c 9) 0 4 = .yes := by kernel_rfl
theorem p7_8_1 (c : Nat) : seg (runS [F,F,F,T,F,F,F] 7 7 c 9) 4 4 = .yes := by kernel_rfl
theorem p7_8_2 (c : Nat) : seg (runS [F,F,F,T,F,F,F] 7 7 c 9) 8 1 = .yes := by kernel_rfl
theorem p4_13_0 (c : Nat) : seg (runS [T,T,F,T] 4 4 c 8) 0 4 = .yes := by kernel_rfl
theorem p4_13_1 (c : Nat) : seg (runS [T,T,F,T] 4 4 c 8) 4 4 = .yes := by kernel_rfl
theorem p5_3_0 (c : Nat) : seg (runS [F,F,F,T,T] 5 5 c 8) 0 4 = .yes := by kernel_rfl
theorem p5_3_1 (c : Nat) : seg (runS [F,F,F,T,T] 5 5 c 8) 4 4 = .yes := by kernel_rfl
theorem p4_9_0 (c : Nat) : seg (runS [T,F,F,T] 4 4 c 7) 0 4 = .yes := by kernel_rfl
theorem p4_9_1 (c : Nat) : seg (runS [T,F,F,T] 4 4 c 7) 4 3 = .yes := by kernel_rfl
theorem p3_3_0 (c : Nat) : seg (runS [F,T,T] 3 3 c 6) 0 4 = .yes := by kernel_rfl
theorem p3_3_1 (c : Nat) : seg (runS [F,T,T] 3 3 c 6) 4 2 = .yes := by kernel_rfl
theorem p2_1_0 (c : Nat) : seg (runS [F,T] 2 2 c 4) 0 4 = .yes := by kernel_rfl
end Go.Proofs.Ytbpfdennglbeeaa.pthreadSettlesq
