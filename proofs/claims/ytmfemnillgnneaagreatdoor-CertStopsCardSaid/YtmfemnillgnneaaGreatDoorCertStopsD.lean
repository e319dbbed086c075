/-
  The law CertStops at some of its cases: the run over the program ends in true. Conditions: none; these are closed facts.
-/
import Derived.Test.YtmfemnillgnneaaGreatDoorCertStopsA
namespace Go.Proofs.YtmfemnillgnneaaGreatDoor.certStopsq
open Go.Rn YtmfemnillgnneaaGreatDoor.txt
theorem c0_2 : run 0 2 = .yes := by kernel_rfl
theorem c1_1 : run 1 1 = .yes := by kernel_rfl
theorem c2_0 : run 2 0 = .yes := by kernel_rfl
theorem c2_3 : run 2 3 = .yes := by kernel_rfl
theorem c3_2 : run 3 2 = .yes := by kernel_rfl
theorem c4_1 : run 4 1 = .yes := by kernel_rfl
theorem c5_0 : run 5 0 = .yes := by kernel_rfl
theorem c5_3 : run 5 3 = .yes := by kernel_rfl
theorem c6_2 : run 6 2 = .yes := by kernel_rfl
theorem c7_1 : run 7 1 = .yes := by kernel_rfl
theorem c8_0 : run 8 0 = .yes := by kernel_rfl
theorem c8_3 : run 8 3 = .yes := by kernel_rfl
end Go.Proofs.YtmfemnillgnneaaGreatDoor.certStopsq
