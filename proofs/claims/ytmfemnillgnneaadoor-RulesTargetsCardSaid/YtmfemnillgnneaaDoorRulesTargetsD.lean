/-
  The law RulesTargets at some of its cases: the run over the program ends in true. Conditions: none; these are closed facts.
-/
import Derived.Test.YtmfemnillgnneaaDoorRulesTargetsA
namespace Go.Proofs.YtmfemnillgnneaaDoor.rulesTargetsq
open Go.Rn YtmfemnillgnneaaDoor.txt
theorem c0_2_0 : run 0 2 0 = .yes := by kernel_rfl
theorem c1_1_0 : run 1 1 0 = .yes := by kernel_rfl
theorem c1_2_1 : run 1 2 1 = .yes := by kernel_rfl
theorem c2_0_0 : run 2 0 0 = .yes := by kernel_rfl
theorem c2_1_0 : run 2 1 0 = .yes := by kernel_rfl
theorem c2_2_0 : run 2 2 0 = .yes := by kernel_rfl
theorem c2_3_0 : run 2 3 0 = .yes := by kernel_rfl
theorem c2_4_0 : run 2 4 0 = .yes := by kernel_rfl
theorem c3_0_0 : run 3 0 0 = .yes := by kernel_rfl
theorem c3_0_3 : run 3 0 3 = .yes := by kernel_rfl
theorem c3_1_2 : run 3 1 2 = .yes := by kernel_rfl
theorem c3_2_1 : run 3 2 1 = .yes := by kernel_rfl
theorem c3_3_0 : run 3 3 0 = .yes := by kernel_rfl
theorem c3_3_3 : run 3 3 3 = .yes := by kernel_rfl
theorem c3_4_2 : run 3 4 2 = .yes := by kernel_rfl
theorem c3_5_1 : run 3 5 1 = .yes := by kernel_rfl
theorem c4_0_0 : run 4 0 0 = .yes := by kernel_rfl
theorem c4_0_3 : run 4 0 3 = .yes := by kernel_rfl
theorem c4_1_1 : run 4 1 1 = .yes := by kernel_rfl
theorem c4_1_4 : run 4 1 4 = .yes := by kernel_rfl
theorem c4_2_2 : run 4 2 2 = .yes := by kernel_rfl
theorem c4_3_0 : run 4 3 0 = .yes := by kernel_rfl
theorem c4_3_3 : run 4 3 3 = .yes := by kernel_rfl
theorem c4_4_1 : run 4 4 1 = .yes := by kernel_rfl
theorem c4_4_4 : run 4 4 4 = .yes := by kernel_rfl
theorem c4_5_2 : run 4 5 2 = .yes := by kernel_rfl
theorem c4_6_0 : run 4 6 0 = .yes := by kernel_rfl
theorem c4_6_3 : run 4 6 3 = .yes := by kernel_rfl
theorem c5_0_1 : run 5 0 1 = .yes := by kernel_rfl
theorem c5_0_4 : run 5 0 4 = .yes := by kernel_rfl
theorem c5_1_1 : run 5 1 1 = .yes := by kernel_rfl
theorem c5_1_4 : run 5 1 4 = .yes := by kernel_rfl
theorem c5_2_1 : run 5 2 1 = .yes := by kernel_rfl
theorem c5_2_4 : run 5 2 4 = .yes := by kernel_rfl
theorem c5_3_1 : run 5 3 1 = .yes := by kernel_rfl
theorem c5_3_4 : run 5 3 4 = .yes := by kernel_rfl
theorem c5_4_1 : run 5 4 1 = .yes := by kernel_rfl
theorem c5_4_4 : run 5 4 4 = .yes := by kernel_rfl
theorem c5_5_1 : run 5 5 1 = .yes := by kernel_rfl
theorem c5_5_4 : run 5 5 4 = .yes := by kernel_rfl
theorem c5_6_1 : run 5 6 1 = .yes := by kernel_rfl
theorem c5_6_4 : run 5 6 4 = .yes := by kernel_rfl
theorem c5_7_1 : run 5 7 1 = .yes := by kernel_rfl
theorem c5_7_4 : run 5 7 4 = .yes := by kernel_rfl
end Go.Proofs.YtmfemnillgnneaaDoor.rulesTargetsq
