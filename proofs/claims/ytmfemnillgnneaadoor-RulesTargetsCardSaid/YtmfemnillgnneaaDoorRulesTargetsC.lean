/-
  The law RulesTargets at some of its cases: the run over the program ends in true. Conditions: none; these are closed facts.
-/
import Derived.Test.YtmfemnillgnneaaDoorRulesTargetsA
namespace Go.Proofs.YtmfemnillgnneaaDoor.rulesTargetsq
open Go.Rn YtmfemnillgnneaaDoor.txt
theorem c0_1_0 : run 0 1 0 = .yes := by kernel_rfl
theorem c1_0_1 : run 1 0 1 = .yes := by kernel_rfl
theorem c1_2_0 : run 1 2 0 = .yes := by kernel_rfl
theorem c1_3_1 : run 1 3 1 = .yes := by kernel_rfl
theorem c2_0_2 : run 2 0 2 = .yes := by kernel_rfl
theorem c2_1_2 : run 2 1 2 = .yes := by kernel_rfl
theorem c2_2_2 : run 2 2 2 = .yes := by kernel_rfl
theorem c2_3_2 : run 2 3 2 = .yes := by kernel_rfl
theorem c2_4_2 : run 2 4 2 = .yes := by kernel_rfl
theorem c3_0_2 : run 3 0 2 = .yes := by kernel_rfl
theorem c3_1_1 : run 3 1 1 = .yes := by kernel_rfl
theorem c3_2_0 : run 3 2 0 = .yes := by kernel_rfl
theorem c3_2_3 : run 3 2 3 = .yes := by kernel_rfl
theorem c3_3_2 : run 3 3 2 = .yes := by kernel_rfl
theorem c3_4_1 : run 3 4 1 = .yes := by kernel_rfl
theorem c3_5_0 : run 3 5 0 = .yes := by kernel_rfl
theorem c3_5_3 : run 3 5 3 = .yes := by kernel_rfl
theorem c4_0_2 : run 4 0 2 = .yes := by kernel_rfl
theorem c4_1_0 : run 4 1 0 = .yes := by kernel_rfl
theorem c4_1_3 : run 4 1 3 = .yes := by kernel_rfl
theorem c4_2_1 : run 4 2 1 = .yes := by kernel_rfl
theorem c4_2_4 : run 4 2 4 = .yes := by kernel_rfl
theorem c4_3_2 : run 4 3 2 = .yes := by kernel_rfl
theorem c4_4_0 : run 4 4 0 = .yes := by kernel_rfl
theorem c4_4_3 : run 4 4 3 = .yes := by kernel_rfl
theorem c4_5_1 : run 4 5 1 = .yes := by kernel_rfl
theorem c4_5_4 : run 4 5 4 = .yes := by kernel_rfl
theorem c4_6_2 : run 4 6 2 = .yes := by kernel_rfl
theorem c5_0_0 : run 5 0 0 = .yes := by kernel_rfl
theorem c5_0_3 : run 5 0 3 = .yes := by kernel_rfl
theorem c5_1_0 : run 5 1 0 = .yes := by kernel_rfl
theorem c5_1_3 : run 5 1 3 = .yes := by kernel_rfl
theorem c5_2_0 : run 5 2 0 = .yes := by kernel_rfl
theorem c5_2_3 : run 5 2 3 = .yes := by kernel_rfl
theorem c5_3_0 : run 5 3 0 = .yes := by kernel_rfl
theorem c5_3_3 : run 5 3 3 = .yes := by kernel_rfl
theorem c5_4_0 : run 5 4 0 = .yes := by kernel_rfl
theorem c5_4_3 : run 5 4 3 = .yes := by kernel_rfl
theorem c5_5_0 : run 5 5 0 = .yes := by kernel_rfl
theorem c5_5_3 : run 5 5 3 = .yes := by kernel_rfl
theorem c5_6_0 : run 5 6 0 = .yes := by kernel_rfl
theorem c5_6_3 : run 5 6 3 = .yes := by kernel_rfl
theorem c5_7_0 : run 5 7 0 = .yes := by kernel_rfl
theorem c5_7_3 : run 5 7 3 = .yes := by kernel_rfl
end Go.Proofs.YtmfemnillgnneaaDoor.rulesTargetsq
