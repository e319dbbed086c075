/-
  The law CertStops at some of its cases: the run over the program ends in true. Conditions: none; these are closed facts.
-/
import Derived.Test.YtmfemnillgnneaaGreatDoorCertStopsA
namespace Go.Proofs.YtmfemnillgnneaaGreatDoor.certStopsq
open Go.Rn YtmfemnillgnneaaGreatDoor.txt
theorem c0_1 : run 0 1 = .yes := by kernel_rfl
theorem c1_0 : run 1 0 = .yes := by kernel_rfl
theorem c1_3 : run 1 3 = .yes := by kernel_rfl
theorem c2_2 : run 2 2 = .yes := by kernel_rfl
theorem c3_1 : run 3 1 = .yes := by kernel_rfl
theorem c4_0 : run 4 0 = .yes := by kernel_rfl
theorem c4_3 : run 4 3 = .yes := by kernel_rfl
theorem c5_2 : run 5 2 = .yes := by kernel_rfl
theorem c6_1 : run 6 1 = .yes := by kernel_rfl
theorem c7_0 : run 7 0 = .yes := by kernel_rfl
theorem c7_3 : run 7 3 = .yes := by kernel_rfl
theorem c8_2 : run 8 2 = .yes := by kernel_rfl
end Go.Proofs.YtmfemnillgnneaaGreatDoor.certStopsq
