/-
  The law PthreadSettles at some of its cases: the run over the program ends in true. Conditions: none; these are closed facts.
-/
import Derived.Test.YtbpfdennglbeeaaPthreadSettlesA
namespace Go.Proofs.Ytbpfdennglbeeaa.pthreadSettlesq
open Go.Rn Ytbpfdennglbeeaa.txt
theorem p7_111_0 (c : Nat) : seg (runS [T,T,F,T,T,T,T] 7 7 c 14) 0 4 = .yes := by kernel_rfl
theorem p7_111_1 (c : Nat) : seg (runS [T,T,F,T,T,T,T] 7 7 c 14) 4 4 = .yes := by kernel_rfl
theorem p7_111_2 (c : Nat) : seg (runS [T,T,F,T,T,T,T] 7 7 c 14) 8 4 = .yes := by kernel_rfl
theorem p7_111_3 (c : Nat) : seg (runS [T,T,F,T,T,T,T] 7 7 c 14) 12 2 = .yes := by kernel_rfl
theorem p7_122_0 (c : Nat) : seg (runS [T,T,T,T,F,T,F] 7 7 c 13) 0 4 = .yes := by kernel_rfl
theorem p7_122_1 (c : Nat) : seg (runS [T,T,T,T,F,T,F] 7 7 c 13) 4 4 = .yes := by kernel_rfl
theorem p7_122_2 (c : Nat) : seg (runS [T,T,T,T,F,T,F] 7 7 c 13) 8 4 = .yes := by kernel_rfl
theorem p7_122_3 (c : Nat) : seg (runS [T,T,T,T,F,T,F] 7 7 c 13) 12 1 = .yes := by kernel_rfl
theorem p7_87_0 (c : Nat) : seg (runS [T,F,T,F,T,T,T] 7 7 c 13) 0 4 = .yes := by kernel_rfl
theorem p7_87_1 (c : Nat) : seg (runS [T,F,T,F,T,T,T] 7 7 c 13) 4 4 = .yes := by kernel_rfl
theorem p7_87_2 (c : Nat) : seg (runS [T,F,T,F,T,T,T] 7 7 c 13) 8 4 = .yes := by kernel_rfl
theorem p7_87_3 (c : Nat) : seg (runS [T,F,T,F,T,T,T] 7 7 c 13) 12 1 = .yes := by kernel_rfl
theorem p8_117_0 (L c : Nat) : seg (runS [T,T,T,F,T,F,T] 7 (L + 8) c 13) 0 4 = .yes := by kernel_rfl
theorem p8_117_1 (L c : Nat) : seg (runS [T,T,T,F,T,F,T] 7 (L + 8) c 13) 4 4 = .yes := by kernel_rfl
theorem p8_117_2 (L c : Nat) : seg (runS [T,T,T,F,T,F,T] 7 (L + 8) c 13) 8 4 = .yes := by kernel_rfl
theorem p8_117_3 (L c : Nat) : seg (runS [T,T,T,F,T,F,T] 7 (L + 8) c 13) 12 1 = .yes := by kernel_rfl
theorem p8_61_0 (L c : Nat) : seg (runS [F,T,T,T,T,F,T] 7 (L + 8) c 13) 0 4 = .yes := by kernel_rfl
theorem p8_61_1 (L c : Nat) : seg (runS [F,T,T,T,T,F,T] 7 (L + 8) c 13) 4 4 = .yes := by kernel_rfl
theorem p8_61_2 (L c : Nat) : seg (runS [F,T,T,T,T,F,T] 7 (L + 8) c 13) 8 4 = .yes := by kernel_rfl
theorem p8_61_3 (L c : Nat) : seg (runS [F,T,T,T,T,F,T] 7 (L + 8) c 13) 12 1 = .yes := by kernel_rfl
theorem p7_116_0 (c : Nat) : seg (runS [T,T,T,F,T,F,F] 7 7 c 12) 0 4 = .yes := by kernel_rfl
theorem p7_116_1 (c : Nat) : seg (runS [T,T,T,F,T,F,F] 7 7 c 12) 4 4 = .yes := by kernel_rfl
theorem p7_116_2 (c : Nat) : seg (runS [T,T,T,F,T,F,F] 7 7 c 12) 8 4 = .yes := by kernel_rfl
theorem p7_86_0 (c : Nat) : seg (runS [T,F,T,F,T,T,F] 7 7 c 12) 0 4 = .yes := by kernel_rfl
theorem p7_86_1 (c : Nat) : seg (runS [T,F,T,F,T,T,F] 7 7 c 12) 4 4 = .yes := by kernel_rfl
theorem p7_86_2 (c : Nat) : seg (runS [T,F,T,F,T,T,F] 7 7 c 12) 8 4 = .yes := by kernel_rfl
theorem p7_51_0 (c : Nat) : seg (runS [F,T,T,F,F,T,T] 7 7 c 12) 0 4 = .yes := by kernel_rfl
theorem p7_51_1 (c : Nat) : seg (runS [F,T,T,F,F,T,T] 7 7 c 12) 4 4 = .yes := by kernel_rfl
theorem p7_51_2 (c : Nat) : seg (runS [F,T,T,F,F,T,T] 7 7 c 12) 8 4 = .yes := by kernel_rfl
theorem p8_114_0 (L c : Nat) : seg (runS [T,T,T,F,F,T,F] 7 (L + 8) c 12) 0 4 = .yes := by kernel_rfl
theorem p8_114_1 (L c : Nat) : seg (runS [T,T,T,F,F,T,F] 7 (L + 8) c 12) 4 4 = .yes := by kernel_rfl
theorem p8_114_2 (L c : Nat) : seg (runS [T,T,T,F,F,T,F] 7 (L + 8) c 12) 8 4 = .yes := by kernel_rfl
theorem p8_85_0 (L c : Nat) : seg (runS [T,F,T,F,T,F,T] 7 (L + 8) c 12) 0 4 = .yes := by kernel_rfl
theorem p8_85_1 (L c : Nat) : seg (runS [T,F,T,F,T,F,T] 7 (L + 8) c 12) 4 4 = .yes := by kernel_rfl
theorem p8_85_2 (L c : Nat) : seg (runS [T,F,T,F,T,F,T] 7 (L + 8) c 12) 8 4 = .yes := by kernel_rfl
theorem p8_46_0 (L c : Nat) : seg (runS [F,T,F,T,T,T,F] 7 (L + 8) c 12) 0 4 = .yes := by kernel_rfl
theorem p8_46_1 (L c : Nat) : seg (runS [F,T,F,T,T,T,F] 7 (L + 8) c 12) 4 4 = .yes := by kernel_rfl
theorem p8_46_2 (L c : Nat) : seg (runS [F,T,F,T,T,T,F] 7 (L + 8) c 12) 8 4 = .yes := by kernel_rfl
theorem p6_57_0 (c : Nat) : seg (runS [T,T,T,F,F,T] 6 6 c 11) 0 4 = .yes := by kernel_rfl
theorem p6_57_1 (c : Nat) : seg (runS [T,T,T,F,F,T] 6 6 c 11) 4 4 = .yes := by kernel_rfl
theorem p6_57_2 (c : Nat) : seg (runS [T,T,T,F,F,T] 6 6 c 11) 8 3 = .yes := by kernel_rfl
theorem p6_15_0 (c : Nat) : seg (runS [F,F,T,T,T,T] 6 6 c 11) 0 4 = .yes := by kernel_rfl
theorem p6_15_1 (c : Nat) : seg (runS [F,F,T,T,T,T] 6 6 c 11) 4 4 = .yes := by kernel_rfl
theorem p6_15_2 (c : Nat) : seg (runS [F,F,T,T,T,T] 6 6 c 11) 8 3 = .yes := by kernel_rfl
theorem p7_73_0 (c : Nat) : seg (runS [T,F,F,T,F,F,T] 7 7 c 11) 0 4 = .yes := by kernel_rfl
theorem p7_73_1 (c : Nat) : seg (runS [T,F,F,T,F,F,T] 7 7 c 11) 4 4 = .yes := by kernel_rfl
theorem p7_73_2 (c : Nat) : seg (runS [T,F,F,T,F,F,T] 7 7 c 11) 8 3 = .yes := by kernel_rfl
theorem p7_37_0 (c : Nat) : seg (runS [F,T,F,F,T,F,T] 7 7 c 11) 0 4 = .yes := by kernel_rfl
theorem p7_37_1 (c : Nat) : seg (runS [F,T,F,F,T,F,T] 7 7 c 11) 4 4 = .yes := by kernel_rfl
theorem p7_37_2 (c : Nat) : seg (runS [F,T,F,F,T,F,T] 7 7 c 11) 8 3 = .yes := by kernel_rfl
theorem p8_112_0 (L c : Nat) : seg (runS [T,T,T,F,F,F,F] 7 (L + 8) c 11) 0 4 = .yes := by kernel_rfl
theorem p8_112_1 (L c : Nat) : seg (runS [T,T,T,F,F,F,F] 7 (L + 8) c 11) 4 4 = .yes := by kernel_rfl
theorem p8_112_2 (L c : Nat) : seg (runS [T,T,T,F,F,F,F] 7 (L + 8) c 11) 8 3 = .yes := by kernel_rfl
theorem p8_70_0 (L c : Nat) : seg (runS [T,F,F,F,T,T,F] 7 (L + 8) c 11) 0 4 = .yes := by kernel_rfl
theorem p8_70_1 (L c : Nat) : seg (runS [T,F,F,F,T,T,F] 7 (L + 8) c 11) 4 4 = .yes := by kernel_rfl
theorem p8_70_2 (L c : Nat) : seg (runS [T,F,F,F,T,T,F] 7 (L + 8) c 11) 8 3 = .yes := by kernel_rfl
theorem p8_35_0 (L c : Nat) : seg (runS [F,T,F,F,F,T,T] 7 (L + 8) c 11) 0 4 = .yes := by kernel_rfl
theorem p8_35_1 (L c : Nat) : seg (runS [F,T,F,F,F,T,T] 7 (L + 8) c 11) 4 4 = .yes := by kernel_rfl
theorem p8_35_2 (L c : Nat) : seg (runS [F,T,F,F,F,T,T] 7 (L + 8) c 11) 8 3 = .yes := by kernel_rfl
theorem p5_29_0 (c : Nat) : seg (runS [T,T,T,F,T] 5 5 c 10) 0 4 = .yes := by kernel_rfl
theorem p5_29_1 (c : Nat) : seg (runS [T,T,T,F,T] 5 5 c 10) 4 4 = .yes := by kernel_rfl
theorem p5_29_2 (c : Nat) : seg (runS [T,T,T,F,T] 5 5 c 10) 8 2 = .yes := by kernel_rfl
theorem p6_37_0 (c : Nat) : seg (runS [T,F,F,T,F,T] 6 6 c 10) 0 4 = .yes := by kernel_rfl
theorem p6_37_1 (c : Nat) : seg (runS [T,F,F,T,F,T] 6 6 c 10) 4 4 = .yes := by kernel_rfl
theorem p6_37_2 (c : Nat) : seg (runS [T,F,F,T,F,T] 6 6 c 10) 8 2 = .yes := by kernel_rfl
theorem p7_96_0 (c : Nat) : seg (runS [T,T,F,F,F,F,F] 7 7 c 10) 0 4 = .yes := by kernel_rfl
theorem p7_96_1 (c : Nat) : seg (runS [T,T,F,F,F,F,F] 7 7 c 10) 4 4 = .yes := by kernel_rfl
theorem p7_96_2 (c : Nat) : seg (runS [T,T,F,F,F,F,F] 7 7 c 10) 8 2 = .yes := by kernel_rfl
theorem p7_20_0 (c : Nat) : seg (runS [F,F,T,F,T,F,F] 7 7 c 10) 0 4 = .yes := by kernel_rfl
theorem p7_20_1 (c : Nat) : seg (runS [F,F,T,F,T,F,F] 7 7 c 10) 4 4 = .yes := by kernel_rfl
theorem p7_20_2 (c : Nat) : seg (runS [F,F,T,F,T,F,F] 7 7 c 10) 8 2 = .yes := by kernel_rfl
theorem p8_68_0 (L c : Nat) : seg (runS [T,F,F,F,T,F,F] 7 (L + 8) c 10) 0 4 = .yes := by kernel_rfl
theorem p8_68_1 (L c : Nat) : seg (runS [T,F,F,F,T,F,F] 7 (L + 8) c 10) 4 4 = .yes := by kernel_rfl
theorem p8_68_2 (L c : Nat) : seg (runS [T,F,F,F,T,F,F] 7 (L + 8) c 10) 8 2 = .yes := by kernel_rfl
theorem p8_12_0 (L c : Nat) : seg (runS [F,F,F,T,T,F,F] 7 (L + 8) c 10) 0 4 = .yes := by kernel_rfl
theorem p8_12_1 (L c : Nat) : seg (runS [F,F,F,T,T,F,F] 7 (L + 8) c 10) 4 4 = .yes := by kernel_rfl
theorem p8_12_2 (L c : Nat) : seg (runS [F,F,F,T,T,F,F] 7 (L + 8) c 10) 8 2 = .yes := by kernel_rfl
theorem p5_19_0 (c : Nat) : seg (runS [T,F,F,T,T] 5 5 c 9) 0 4 = .yes := by kernel_rfl
theorem p5_19_1 (c : Nat) : seg (runS [T,F,F,T,T] 5 5 c 9) 4 4 = .yes := by kernel_rfl
theorem p5_19_2 (c : Nat) : seg (runS [T,F,F,T,T] 5 5 c 9) 8 1 = .yes := by kernel_rfl
theorem p6_18_0 (c : Nat) : seg (runS [F,T,F,F,T,F] 6 6 c 9) 0 4 = .yes := by kernel_rfl
theorem p6_18_1 (c : Nat) : seg (runS [F,T,F,F,T,F] 6 6 c 9) 4 4 = .yes := by kernel_rfl
theorem p6_18_2 (c : Nat) : seg (runS [F,T,F,F,T,F] 6 6 c 9) 8 1 = .yes := by kernel_rfl
theorem p7_4_0 (c : Nat) : seg (runS [F,F,F,F,T,F,F] 7 7 c 9) 0 4 = .yes := by kernel_rfl
theorem p7_4_1 (c : Nat) : seg (runS [F,F,F,F,T,F,F] 7 7 c 9) 4 4 = .yes := by kernel_rfl
theorem p7_4_2 (c : Nat) : seg (runS [F,F,F,F,T,F,F] 7 7 c 9) 8 1 = .yes := by kernel_rfl
theorem p4_11_0 (c : Nat) : seg (runS [T,F,T,T] 4 4 c 8) 0 4 = .yes := by kernel_rfl
theorem p4_11_1 (c : Nat) : seg (runS [T,F,T,T] 4 4 c 8) 4 4 = .yes := by kernel_rfl
theorem p6_32_0 (c : Nat) : seg (runS [T,F,F,F,F,F] 6 6 c 8) 0 4 = .yes := by kernel_rfl
theorem p6_32_1 (c : Nat) : seg (runS [T,F,F,F,F,F] 6 6 c 8) 4 4 = .yes := by kernel_rfl
theorem p4_6_0 (c : Nat) : seg (runS [F,T,T,F] 4 4 c 7) 0 4 = .yes := by kernel_rfl
theorem p4_6_1 (c : Nat) : seg (runS [F,T,T,F] 4 4 c 7) 4 3 = .yes := by kernel_rfl
theorem p4_8_0 (c : Nat) : seg (runS [T,F,F,F] 4 4 c 6) 0 4 = .yes := by kernel_rfl
theorem p4_8_1 (c : Nat) : seg (runS [T,F,F,F] 4 4 c 6) 4 2 = .yes := by kernel_rfl
theorem p3_0_0 (c : Nat) : seg (runS [F,F,F] 3 3 c 4) 0 4 = .yes := by kernel_rfl
end Go.Proofs.Ytbpfdennglbeeaa.pthreadSettlesq
