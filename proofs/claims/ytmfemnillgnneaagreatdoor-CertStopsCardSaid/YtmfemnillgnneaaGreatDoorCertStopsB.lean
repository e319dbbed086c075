/-
  The law CertStops at some of its cases: the run over the program ends in true. Conditions: none; these are closed facts.
-/
import Derived.Test.YtmfemnillgnneaaGreatDoorCertStopsA
namespace Go.Proofs.YtmfemnillgnneaaGreatDoor.certStopsq
open Go.Rn YtmfemnillgnneaaGreatDoor.txt
theorem c0_0 : run 0 0 = .yes := by kernel_rfl
theorem c0_3 : run 0 3 = .yes := by kernel_rfl
theorem c1_2 : run 1 2 = .yes := by kernel_rfl
theorem c2_1 : run 2 1 = .yes := by kernel_rfl
theorem c3_0 : run 3 0 = .yes := by kernel_rfl
theorem c3_3 : run 3 3 = .yes := by kernel_rfl
theorem c4_2 : run 4 2 = .yes := by kernel_rfl
theorem c5_1 : run 5 1 = .yes := by kernel_rfl
theorem c6_0 : run 6 0 = .yes := by kernel_rfl
theorem c6_3 : run 6 3 = .yes := by kernel_rfl
theorem c7_2 : run 7 2 = .yes := by kernel_rfl
theorem c8_1 : run 8 1 = .yes := by kernel_rfl
end Go.Proofs.YtmfemnillgnneaaGreatDoor.certStopsq
