/-
  The law PthreadSettles at some of its cases: the run over the program ends in true. Conditions: none; these are closed facts.
-/
import Derived.Test.YtbpfdennglbeeaaPthreadSettlesA
namespace Go.Proofs.Ytbpfdennglbeeaa.pthreadSettlesq
open Go.Rn Ytbpfdennglbeeaa.txt
theorem p7_123_0 (c : Nat) : seg (runS [T,T,T,T,F,T,T] 7 7 c 14) 0 4 = .yes := by kernel_rfl
theorem p7_123_1 (c : Nat) : seg (runS [T,T,T,T,F,T,T] 7 7 c 14) 4 4 = .yes := by kernel_rfl
theorem p7_123_2 (c : Nat) : seg (runS [T,T,T,T,F,T,T] 7 7 c 14) 8 4 = .yes := by kernel_rfl
theorem p7_123_3 (c : Nat) : seg (runS [T,T,T,T,F,T,T] 7 7 c 14) 12 2 = .yes := by kernel_rfl
theorem p6_63_0 (c : Nat) : seg (runS [T,T,T,T,T,T] 6 6 c 13) 0 4 = .yes := by kernel_rfl
theorem p6_63_1 (c : Nat) : seg (runS [T,T,T,T,T,T] 6 6 c 13) 4 4 = .yes := by kernel_rfl
theorem p6_63_2 (c : Nat) : seg (runS [T,T,T,T,T,T] 6 6 c 13) 8 4 = .yes := by kernel_rfl
theorem p6_63_3 (c : Nat) : seg (runS [T,T,T,T,T,T] 6 6 c 13) 12 1 = .yes := by kernel_rfl
theorem p7_93_0 (c : Nat) : seg (runS [T,F,T,T,T,F,T] 7 7 c 13) 0 4 = .yes := by kernel_rfl
theorem p7_93_1 (c : Nat) : seg (runS [T,F,T,T,T,F,T] 7 7 c 13) 4 4 = .yes := by kernel_rfl
theorem p7_93_2 (c : Nat) : seg (runS [T,F,T,T,T,F,T] 7 7 c 13) 8 4 = .yes := by kernel_rfl
theorem p7_93_3 (c : Nat) : seg (runS [T,F,T,T,T,F,T] 7 7 c 13) 12 1 = .yes := by kernel_rfl
theorem p8_121_0 (L c : Nat) : seg (runS [T,T,T,T,F,F,T] 7 (L + 8) c 13) 0 4 = .yes := by kernel_rfl
theorem p8_121_1 (L c : Nat) : seg (runS [T,T,T,T,F,F,T] 7 (L + 8) c 13) 4 4 = .yes := by kernel_rfl
theorem p8_121_2 (L c : Nat) : seg (runS [T,T,T,T,F,F,T] 7 (L + 8) c 13) 8 4 = .yes := by kernel_rfl
theorem p8_121_3 (L c : Nat) : seg (runS [T,T,T,T,F,F,T] 7 (L + 8) c 13) 12 1 = .yes := by kernel_rfl
theorem p8_79_0 (L c : Nat) : seg (runS [T,F,F,T,T,T,T] 7 (L + 8) c 13) 0 4 = .yes := by kernel_rfl
theorem p8_79_1 (L c : Nat) : seg (runS [T,F,F,T,T,T,T] 7 (L + 8) c 13) 4 4 = .yes := by kernel_rfl
theorem p8_79_2 (L c : Nat) : seg (runS [T,F,F,T,T,T,T] 7 (L + 8) c 13) 8 4 = .yes := by kernel_rfl
theorem p8_79_3 (L c : Nat) : seg (runS [T,F,F,T,T,T,T] 7 (L + 8) c 13) 12 1 = .yes := by kernel_rfl
theorem p6_31_0 (c : Nat) : seg (runS [F,T,T,T,T,T] 6 6 c 12) 0 4 = .yes := by kernel_rfl
theorem p6_31_1 (c : Nat) : seg (runS [F,T,T,T,T,T] 6 6 c 12) 4 4 = .yes := by kernel_rfl
theorem p6_31_2 (c : Nat) : seg (runS [F,T,T,T,T,T] 6 6 c 12) 8 4 = .yes := by kernel_rfl
theorem p7_90_0 (c : Nat) : seg (runS [T,F,T,T,F,T,F] 7 7 c 12) 0 4 = .yes := by kernel_rfl
theorem p7_90_1 (c : Nat) : seg (runS [T,F,T,T,F,T,F] 7 7 c 12) 4 4 = .yes := by kernel_rfl
theorem p7_90_2 (c : Nat) : seg (runS [T,F,T,T,F,T,F] 7 7 c 12) 8 4 = .yes := by kernel_rfl
theorem p7_54_0 (c : Nat) : seg (runS [F,T,T,F,T,T,F] 7 7 c 12) 0 4 = .yes := by kernel_rfl
theorem p7_54_1 (c : Nat) : seg (runS [F,T,T,F,T,T,F] 7 7 c 12) 4 4 = .yes := by kernel_rfl
theorem p7_54_2 (c : Nat) : seg (runS [F,T,T,F,T,T,F] 7 7 c 12) 8 4 = .yes := by kernel_rfl
theorem p8_120_0 (L c : Nat) : seg (runS [T,T,T,T,F,F,F] 7 (L + 8) c 12) 0 4 = .yes := by kernel_rfl
theorem p8_120_1 (L c : Nat) : seg (runS [T,T,T,T,F,F,F] 7 (L + 8) c 12) 4 4 = .yes := by kernel_rfl
theorem p8_120_2 (L c : Nat) : seg (runS [T,T,T,T,F,F,F] 7 (L + 8) c 12) 8 4 = .yes := by kernel_rfl
theorem p8_89_0 (L c : Nat) : seg (runS [T,F,T,T,F,F,T] 7 (L + 8) c 12) 0 4 = .yes := by kernel_rfl
theorem p8_89_1 (L c : Nat) : seg (runS [T,F,T,T,F,F,T] 7 (L + 8) c 12) 4 4 = .yes := by kernel_rfl
theorem p8_89_2 (L c : Nat) : seg (runS [T,F,T,T,F,F,T] 7 (L + 8) c 12) 8 4 = .yes := by kernel_rfl
theorem p8_53_0 (L c : Nat) : seg (runS [F,T,T,F,T,F,T] 7 (L + 8) c 12) 0 4 = .yes := by kernel_rfl
theorem p8_53_1 (L c : Nat) : seg (runS [F,T,T,F,T,F,T] 7 (L + 8) c 12) 4 4 = .yes := by kernel_rfl
theorem p8_53_2 (L c : Nat) : seg (runS [F,T,T,F,T,F,T] 7 (L + 8) c 12) 8 4 = .yes := by kernel_rfl
theorem p6_60_0 (c : Nat) : seg (runS [T,T,T,T,F,F] 6 6 c 11) 0 4 = .yes := by kernel_rfl
theorem p6_60_1 (c : Nat) : seg (runS [T,T,T,T,F,F] 6 6 c 11) 4 4 = .yes := by kernel_rfl
theorem p6_60_2 (c : Nat) : seg (runS [T,T,T,T,F,F] 6 6 c 11) 8 3 = .yes := by kernel_rfl
theorem p6_27_0 (c : Nat) : seg (runS [F,T,T,F,T,T] 6 6 c 11) 0 4 = .yes := by kernel_rfl
theorem p6_27_1 (c : Nat) : seg (runS [F,T,T,F,T,T] 6 6 c 11) 4 4 = .yes := by kernel_rfl
theorem p6_27_2 (c : Nat) : seg (runS [F,T,T,F,T,T] 6 6 c 11) 8 3 = .yes := by kernel_rfl
theorem p7_76_0 (c : Nat) : seg (runS [T,F,F,T,T,F,F] 7 7 c 11) 0 4 = .yes := by kernel_rfl
theorem p7_76_1 (c : Nat) : seg (runS [T,F,F,T,T,F,F] 7 7 c 11) 4 4 = .yes := by kernel_rfl
theorem p7_76_2 (c : Nat) : seg (runS [T,F,F,T,T,F,F] 7 7 c 11) 8 3 = .yes := by kernel_rfl
theorem p7_41_0 (c : Nat) : seg (runS [F,T,F,T,F,F,T] 7 7 c 11) 0 4 = .yes := by kernel_rfl
theorem p7_41_1 (c : Nat) : seg (runS [F,T,F,T,F,F,T] 7 7 c 11) 4 4 = .yes := by kernel_rfl
theorem p7_41_2 (c : Nat) : seg (runS [F,T,F,T,F,F,T] 7 7 c 11) 8 3 = .yes := by kernel_rfl
theorem p7_11_0 (c : Nat) : seg (runS [F,F,F,T,F,T,T] 7 7 c 11) 0 4 = .yes := by kernel_rfl
theorem p7_11_1 (c : Nat) : seg (runS [F,F,F,T,F,T,T] 7 7 c 11) 4 4 = .yes := by kernel_rfl
theorem p7_11_2 (c : Nat) : seg (runS [F,F,F,T,F,T,T] 7 7 c 11) 8 3 = .yes := by kernel_rfl
theorem p8_74_0 (L c : Nat) : seg (runS [T,F,F,T,F,T,F] 7 (L + 8) c 11) 0 4 = .yes := by kernel_rfl
theorem p8_74_1 (L c : Nat) : seg (runS [T,F,F,T,F,T,F] 7 (L + 8) c 11) 4 4 = .yes := by kernel_rfl
theorem p8_74_2 (L c : Nat) : seg (runS [T,F,F,T,F,T,F] 7 (L + 8) c 11) 8 3 = .yes := by kernel_rfl
theorem p8_38_0 (L c : Nat) : seg (runS [F,T,F,F,T,T,F] 7 (L + 8) c 11) 0 4 = .yes := by kernel_rfl
theorem p8_38_1 (L c : Nat) : seg (runS [F,T,F,F,T,T,F] 7 (L + 8) c 11) 4 4 = .yes := by kernel_rfl
theorem p8_38_2 (L c : Nat) : seg (runS [F,T,F,F,T,T,F] 7 (L + 8) c 11) 8 3 = .yes := by kernel_rfl
theorem p8_7_0 (L c : Nat) : seg (runS [F,F,F,F,T,T,T] 7 (L + 8) c 11) 0 4 = .yes := by kernel_rfl
theorem p8_7_1 (L c : Nat) : seg (runS [F,F,F,F,T,T,T] 7 (L + 8) c 11) 4 4 = .yes := by kernel_rfl
theorem p8_7_2 (L c : Nat) : seg (runS [F,F,F,F,T,T,T] 7 (L + 8) c 11) 8 3 = .yes := by kernel_rfl
theorem p6_41_0 (c : Nat) : seg (runS [T,F,T,F,F,T] 6 6 c 10) 0 4 = .yes := by kernel_rfl
theorem p6_41_1 (c : Nat) : seg (runS [T,F,T,F,F,T] 6 6 c 10) 4 4 = .yes := by kernel_rfl
theorem p6_41_2 (c : Nat) : seg (runS [T,F,T,F,F,T] 6 6 c 10) 8 2 = .yes := by kernel_rfl
theorem p6_11_0 (c : Nat) : seg (runS [F,F,T,F,T,T] 6 6 c 10) 0 4 = .yes := by kernel_rfl
theorem p6_11_1 (c : Nat) : seg (runS [F,F,T,F,T,T] 6 6 c 10) 4 4 = .yes := by kernel_rfl
theorem p6_11_2 (c : Nat) : seg (runS [F,F,T,F,T,T] 6 6 c 10) 8 2 = .yes := by kernel_rfl
theorem p7_33_0 (c : Nat) : seg (runS [F,T,F,F,F,F,T] 7 7 c 10) 0 4 = .yes := by kernel_rfl
theorem p7_33_1 (c : Nat) : seg (runS [F,T,F,F,F,F,T] 7 7 c 10) 4 4 = .yes := by kernel_rfl
theorem p7_33_2 (c : Nat) : seg (runS [F,T,F,F,F,F,T] 7 7 c 10) 8 2 = .yes := by kernel_rfl
theorem p8_80_0 (L c : Nat) : seg (runS [T,F,T,F,F,F,F] 7 (L + 8) c 10) 0 4 = .yes := by kernel_rfl
theorem p8_80_1 (L c : Nat) : seg (runS [T,F,T,F,F,F,F] 7 (L + 8) c 10) 4 4 = .yes := by kernel_rfl
theorem p8_80_2 (L c : Nat) : seg (runS [T,F,T,F,F,F,F] 7 (L + 8) c 10) 8 2 = .yes := by kernel_rfl
theorem p8_18_0 (L c : Nat) : seg (runS [F,F,T,F,F,T,F] 7 (L + 8) c 10) 0 4 = .yes := by kernel_rfl
theorem p8_18_1 (L c : Nat) : seg (runS [F,F,T,F,F,T,F] 7 (L + 8) c 10) 4 4 = .yes := by kernel_rfl
theorem p8_18_2 (L c : Nat) : seg (runS [F,F,T,F,F,T,F] 7 (L + 8) c 10) 8 2 = .yes := by kernel_rfl
theorem p5_22_0 (c : Nat) : seg (runS [T,F,T,T,F] 5 5 c 9) 0 4 = .yes := by kernel_rfl
theorem p5_22_1 (c : Nat) : seg (runS [T,F,T,T,F] 5 5 c 9) 4 4 = .yes := by kernel_rfl
theorem p5_22_2 (c : Nat) : seg (runS [T,F,T,T,F] 5 5 c 9) 8 1 = .yes := by kernel_rfl
theorem p6_24_0 (c : Nat) : seg (runS [F,T,T,F,F,F] 6 6 c 9) 0 4 = .yes := by kernel_rfl
theorem p6_24_1 (c : Nat) : seg (runS [F,T,T,F,F,F] 6 6 c 9) 4 4 = .yes := by kernel_rfl
theorem p6_24_2 (c : Nat) : seg (runS [F,T,T,F,F,F] 6 6 c 9) 8 1 = .yes := by kernel_rfl
theorem p7_16_0 (c : Nat) : seg (runS [F,F,T,F,F,F,F] 7 7 c 9) 0 4 = .yes := by kernel_rfl
theorem p7_16_1 (c : Nat) : seg (runS [F,F,T,F,F,F,F] 7 7 c 9) 4 4 = .yes := by kernel_rfl
theorem p7_16_2 (c : Nat) : seg (runS [F,F,T,F,F,F,F] 7 7 c 9) 8 1 = .yes := by kernel_rfl
theorem p4_14_0 (c : Nat) : seg (runS [T,T,T,F] 4 4 c 8) 0 4 = .yes := by kernel_rfl
theorem p4_14_1 (c : Nat) : seg (runS [T,T,T,F] 4 4 c 8) 4 4 = .yes := by kernel_rfl
theorem p5_5_0 (c : Nat) : seg (runS [F,F,T,F,T] 5 5 c 8) 0 4 = .yes := by kernel_rfl
theorem p5_5_1 (c : Nat) : seg (runS [F,F,T,F,T] 5 5 c 8) 4 4 = .yes := by kernel_rfl
theorem p4_10_0 (c : Nat) : seg (runS [T,F,T,F] 4 4 c 7) 0 4 = .yes := by kernel_rfl
theorem p4_10_1 (c : Nat) : seg (runS [T,F,T,F] 4 4 c 7) 4 3 = .yes := by kernel_rfl
theorem p3_5_0 (c : Nat) : seg (runS [T,F,T] 3 3 c 6) 0 4 = .yes := by kernel_rfl
theorem p3_5_1 (c : Nat) : seg (runS [T,F,T] 3 3 c 6) 4 2 = .yes := by kernel_rfl
theorem p2_2_0 (c : Nat) : seg (runS [T,F] 2 2 c 4) 0 4 = .yes := by kernel_rfl
end Go.Proofs.Ytbpfdennglbeeaa.pthreadSettlesq
