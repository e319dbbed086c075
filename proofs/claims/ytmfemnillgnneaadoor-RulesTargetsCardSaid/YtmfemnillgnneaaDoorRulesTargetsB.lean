/-
  The law RulesTargets at some of its cases: the run over the program ends in true. Conditions: none; these are closed facts.
-/
import Derived.Test.YtmfemnillgnneaaDoorRulesTargetsA
namespace Go.Proofs.YtmfemnillgnneaaDoor.rulesTargetsq
open Go.Rn YtmfemnillgnneaaDoor.txt
theorem c0_0_0 : run 0 0 0 = .yes := by kernel_rfl
theorem c1_0_0 : run 1 0 0 = .yes := by kernel_rfl
theorem c1_1_1 : run 1 1 1 = .yes := by kernel_rfl
theorem c1_3_0 : run 1 3 0 = .yes := by kernel_rfl
theorem c2_0_1 : run 2 0 1 = .yes := by kernel_rfl
theorem c2_1_1 : run 2 1 1 = .yes := by kernel_rfl
theorem c2_2_1 : run 2 2 1 = .yes := by kernel_rfl
theorem c2_3_1 : run 2 3 1 = .yes := by kernel_rfl
theorem c2_4_1 : run 2 4 1 = .yes := by kernel_rfl
theorem c3_0_1 : run 3 0 1 = .yes := by kernel_rfl
theorem c3_1_0 : run 3 1 0 = .yes := by kernel_rfl
theorem c3_1_3 : run 3 1 3 = .yes := by kernel_rfl
theorem c3_2_2 : run 3 2 2 = .yes := by kernel_rfl
theorem c3_3_1 : run 3 3 1 = .yes := by kernel_rfl
theorem c3_4_0 : run 3 4 0 = .yes := by kernel_rfl
theorem c3_4_3 : run 3 4 3 = .yes := by kernel_rfl
theorem c3_5_2 : run 3 5 2 = .yes := by kernel_rfl
theorem c4_0_1 : run 4 0 1 = .yes := by kernel_rfl
theorem c4_0_4 : run 4 0 4 = .yes := by kernel_rfl
theorem c4_1_2 : run 4 1 2 = .yes := by kernel_rfl
theorem c4_2_0 : run 4 2 0 = .yes := by kernel_rfl
theorem c4_2_3 : run 4 2 3 = .yes := by kernel_rfl
theorem c4_3_1 : run 4 3 1 = .yes := by kernel_rfl
theorem c4_3_4 : run 4 3 4 = .yes := by kernel_rfl
theorem c4_4_2 : run 4 4 2 = .yes := by kernel_rfl
theorem c4_5_0 : run 4 5 0 = .yes := by kernel_rfl
theorem c4_5_3 : run 4 5 3 = .yes := by kernel_rfl
theorem c4_6_1 : run 4 6 1 = .yes := by kernel_rfl
theorem c4_6_4 : run 4 6 4 = .yes := by kernel_rfl
theorem c5_0_2 : run 5 0 2 = .yes := by kernel_rfl
theorem c5_0_5 : run 5 0 5 = .yes := by kernel_rfl
theorem c5_1_2 : run 5 1 2 = .yes := by kernel_rfl
theorem c5_1_5 : run 5 1 5 = .yes := by kernel_rfl
theorem c5_2_2 : run 5 2 2 = .yes := by kernel_rfl
theorem c5_2_5 : run 5 2 5 = .yes := by kernel_rfl
theorem c5_3_2 : run 5 3 2 = .yes := by kernel_rfl
theorem c5_3_5 : run 5 3 5 = .yes := by kernel_rfl
theorem c5_4_2 : run 5 4 2 = .yes := by kernel_rfl
theorem c5_4_5 : run 5 4 5 = .yes := by kernel_rfl
theorem c5_5_2 : run 5 5 2 = .yes := by kernel_rfl
theorem c5_5_5 : run 5 5 5 = .yes := by kernel_rfl
theorem c5_6_2 : run 5 6 2 = .yes := by kernel_rfl
theorem c5_6_5 : run 5 6 5 = .yes := by kernel_rfl
theorem c5_7_2 : run 5 7 2 = .yes := by kernel_rfl
theorem c5_7_5 : run 5 7 5 = .yes := by kernel_rfl
end Go.Proofs.YtmfemnillgnneaaDoor.rulesTargetsq
