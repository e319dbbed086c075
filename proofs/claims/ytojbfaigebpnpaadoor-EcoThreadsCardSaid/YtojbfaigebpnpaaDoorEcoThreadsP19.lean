/-
  The law EcoThreads at some of its cases: the run over the program ends in true. Conditions: none; these are closed facts.
-/
import Derived.Test.YtojbfaigebpnpaaDoorEcoThreadsA
namespace Go.Proofs.YtojbfaigebpnpaaDoor.ecoThreadsq
open Go.Rn Go.RowKit YtojbfaigebpnpaaDoor.txt
set_option maxHeartbeats 400000000
theorem x1400 (c : Nat) : run4 0 c 1 4 0 0 = .yes := by kernel_rfl
theorem y1400 (L c : Nat) : run4 (L + 1) c 1 4 0 0 = .yes := by kernel_rfl
theorem g1400 : ∀ (L c : Nat), run4 L c 1 4 0 0 = .yes
  | 0, c => x1400 c
  | L + 1, c => y1400 L c
theorem x1401 (c : Nat) : run4 0 c 1 4 0 1 = .yes := by kernel_rfl
theorem y1401 (L c : Nat) : run4 (L + 1) c 1 4 0 1 = .yes := by kernel_rfl
theorem g1401 : ∀ (L c : Nat), run4 L c 1 4 0 1 = .yes
  | 0, c => x1401 c
  | L + 1, c => y1401 L c
theorem x1402 (c : Nat) : run4 0 c 1 4 0 2 = .yes := by kernel_rfl
theorem y1402 (L c : Nat) : run4 (L + 1) c 1 4 0 2 = .yes := by kernel_rfl
theorem g1402 : ∀ (L c : Nat), run4 L c 1 4 0 2 = .yes
  | 0, c => x1402 c
  | L + 1, c => y1402 L c
theorem x1403 (c : Nat) : run4 0 c 1 4 0 3 = .yes := by kernel_rfl
theorem y1403 (L c : Nat) : run4 (L + 1) c 1 4 0 3 = .yes := by kernel_rfl
theorem g1403 : ∀ (L c : Nat), run4 L c 1 4 0 3 = .yes
  | 0, c => x1403 c
  | L + 1, c => y1403 L c
theorem x1404 (c : Nat) : run4 0 c 1 4 0 4 = .yes := by kernel_rfl
theorem y1404 (L c : Nat) : run4 (L + 1) c 1 4 0 4 = .yes := by kernel_rfl
theorem g1404 : ∀ (L c : Nat), run4 L c 1 4 0 4 = .yes
  | 0, c => x1404 c
  | L + 1, c => y1404 L c
theorem x1405 (c : Nat) : run4 0 c 1 4 0 5 = .yes := by kernel_rfl
theorem y1405 (L c : Nat) : run4 (L + 1) c 1 4 0 5 = .yes := by kernel_rfl
theorem g1405 : ∀ (L c : Nat), run4 L c 1 4 0 5 = .yes
  | 0, c => x1405 c
  | L + 1, c => y1405 L c
theorem h140 (L c : Nat) : ∀ x, x < 6 → run4 L c 1 4 0 x = .yes
  | 0, _ => g1400 L c
  | 1, _ => g1401 L c
  | 2, _ => g1402 L c
  | 3, _ => g1403 L c
  | 4, _ => g1404 L c
  | 5, _ => g1405 L c
  | x + 6, h => absurd h (by omega)
theorem x1410 (c : Nat) : run4 0 c 1 4 1 0 = .yes := by kernel_rfl
theorem y1410 (L c : Nat) : run4 (L + 1) c 1 4 1 0 = .yes := by kernel_rfl
theorem g1410 : ∀ (L c : Nat), run4 L c 1 4 1 0 = .yes
  | 0, c => x1410 c
  | L + 1, c => y1410 L c
theorem x1411 (c : Nat) : run4 0 c 1 4 1 1 = .yes := by kernel_rfl
theorem y1411 (L c : Nat) : run4 (L + 1) c 1 4 1 1 = .yes := by kernel_rfl
theorem g1411 : ∀ (L c : Nat), run4 L c 1 4 1 1 = .yes
  | 0, c => x1411 c
  | L + 1, c => y1411 L c
theorem x1412 (c : Nat) : run4 0 c 1 4 1 2 = .yes := by kernel_rfl
theorem y1412 (L c : Nat) : run4 (L + 1) c 1 4 1 2 = .yes := by kernel_rfl
theorem g1412 : ∀ (L c : Nat), run4 L c 1 4 1 2 = .yes
  | 0, c => x1412 c
  | L + 1, c => y1412 L c
theorem x1413 (c : Nat) : run4 0 c 1 4 1 3 = .yes := by kernel_rfl
theorem y1413 (L c : Nat) : run4 (L + 1) c 1 4 1 3 = .yes := by kernel_rfl
theorem g1413 : ∀ (L c : Nat), run4 L c 1 4 1 3 = .yes
  | 0, c => x1413 c
  | L + 1, c => y1413 L c
theorem x1414 (c : Nat) : run4 0 c 1 4 1 4 = .yes := by kernel_rfl
theorem y1414 (L c : Nat) : run4 (L + 1) c 1 4 1 4 = .yes := by kernel_rfl
theorem g1414 : ∀ (L c : Nat), run4 L c 1 4 1 4 = .yes
  | 0, c => x1414 c
  | L + 1, c => y1414 L c
theorem x1415 (c : Nat) : run4 0 c 1 4 1 5 = .yes := by kernel_rfl
theorem y1415 (L c : Nat) : run4 (L + 1) c 1 4 1 5 = .yes := by kernel_rfl
theorem g1415 : ∀ (L c : Nat), run4 L c 1 4 1 5 = .yes
  | 0, c => x1415 c
  | L + 1, c => y1415 L c
theorem h141 (L c : Nat) : ∀ x, x < 6 → run4 L c 1 4 1 x = .yes
  | 0, _ => g1410 L c
  | 1, _ => g1411 L c
  | 2, _ => g1412 L c
  | 3, _ => g1413 L c
  | 4, _ => g1414 L c
  | 5, _ => g1415 L c
  | x + 6, h => absurd h (by omega)
theorem x1420 (c : Nat) : run4 0 c 1 4 2 0 = .yes := by kernel_rfl
theorem y1420 (L c : Nat) : run4 (L + 1) c 1 4 2 0 = .yes := by kernel_rfl
theorem g1420 : ∀ (L c : Nat), run4 L c 1 4 2 0 = .yes
  | 0, c => x1420 c
  | L + 1, c => y1420 L c
theorem x1421 (c : Nat) : run4 0 c 1 4 2 1 = .yes := by kernel_rfl
theorem y1421 (L c : Nat) : run4 (L + 1) c 1 4 2 1 = .yes := by kernel_rfl
theorem g1421 : ∀ (L c : Nat), run4 L c 1 4 2 1 = .yes
  | 0, c => x1421 c
  | L + 1, c => y1421 L c
theorem x1422 (c : Nat) : run4 0 c 1 4 2 2 = .yes := by kernel_rfl
theorem y1422 (L c : Nat) : run4 (L + 1) c 1 4 2 2 = .yes := by kernel_rfl
theorem g1422 : ∀ (L c : Nat), run4 L c 1 4 2 2 = .yes
  | 0, c => x1422 c
  | L + 1, c => y1422 L c
theorem x1423 (c : Nat) : run4 0 c 1 4 2 3 = .yes := by kernel_rfl
theorem y1423 (L c : Nat) : run4 (L + 1) c 1 4 2 3 = .yes := by kernel_rfl
theorem g1423 : ∀ (L c : Nat), run4 L c 1 4 2 3 = .yes
  | 0, c => x1423 c
  | L + 1, c => y1423 L c
theorem x1424 (c : Nat) : run4 0 c 1 4 2 4 = .yes := by kernel_rfl
theorem y1424 (L c : Nat) : run4 (L + 1) c 1 4 2 4 = .yes := by kernel_rfl
theorem g1424 : ∀ (L c : Nat), run4 L c 1 4 2 4 = .yes
  | 0, c => x1424 c
  | L + 1, c => y1424 L c
theorem x1425 (c : Nat) : run4 0 c 1 4 2 5 = .yes := by kernel_rfl
theorem y1425 (L c : Nat) : run4 (L + 1) c 1 4 2 5 = .yes := by kernel_rfl
theorem g1425 : ∀ (L c : Nat), run4 L c 1 4 2 5 = .yes
  | 0, c => x1425 c
  | L + 1, c => y1425 L c
theorem h142 (L c : Nat) : ∀ x, x < 6 → run4 L c 1 4 2 x = .yes
  | 0, _ => g1420 L c
  | 1, _ => g1421 L c
  | 2, _ => g1422 L c
  | 3, _ => g1423 L c
  | 4, _ => g1424 L c
  | 5, _ => g1425 L c
  | x + 6, h => absurd h (by omega)
theorem x1430 (c : Nat) : run4 0 c 1 4 3 0 = .yes := by kernel_rfl
theorem y1430 (L c : Nat) : run4 (L + 1) c 1 4 3 0 = .yes := by kernel_rfl
theorem g1430 : ∀ (L c : Nat), run4 L c 1 4 3 0 = .yes
  | 0, c => x1430 c
  | L + 1, c => y1430 L c
theorem x1431 (c : Nat) : run4 0 c 1 4 3 1 = .yes := by kernel_rfl
theorem y1431 (L c : Nat) : run4 (L + 1) c 1 4 3 1 = .yes := by kernel_rfl
theorem g1431 : ∀ (L c : Nat), run4 L c 1 4 3 1 = .yes
  | 0, c => x1431 c
  | L + 1, c => y1431 L c
theorem x1432 (c : Nat) : run4 0 c 1 4 3 2 = .yes := by kernel_rfl
theorem y1432 (L c : Nat) : run4 (L + 1) c 1 4 3 2 = .yes := by kernel_rfl
theorem g1432 : ∀ (L c : Nat), run4 L c 1 4 3 2 = .yes
  | 0, c => x1432 c
  | L + 1, c => y1432 L c
theorem x1433 (c : Nat) : run4 0 c 1 4 3 3 = .yes := by kernel_rfl
theorem y1433 (L c : Nat) : run4 (L + 1) c 1 4 3 3 = .yes := by kernel_rfl
theorem g1433 : ∀ (L c : Nat), run4 L c 1 4 3 3 = .yes
  | 0, c => x1433 c
  | L + 1, c => y1433 L c
theorem x1434 (c : Nat) : run4 0 c 1 4 3 4 = .yes := by kernel_rfl
theorem y1434 (L c : Nat) : run4 (L + 1) c 1 4 3 4 = .yes := by kernel_rfl
theorem g1434 : ∀ (L c : Nat), run4 L c 1 4 3 4 = .yes
  | 0, c => x1434 c
  | L + 1, c => y1434 L c
theorem x1435 (c : Nat) : run4 0 c 1 4 3 5 = .yes := by kernel_rfl
theorem y1435 (L c : Nat) : run4 (L + 1) c 1 4 3 5 = .yes := by kernel_rfl
theorem g1435 : ∀ (L c : Nat), run4 L c 1 4 3 5 = .yes
  | 0, c => x1435 c
  | L + 1, c => y1435 L c
theorem h143 (L c : Nat) : ∀ x, x < 6 → run4 L c 1 4 3 x = .yes
  | 0, _ => g1430 L c
  | 1, _ => g1431 L c
  | 2, _ => g1432 L c
  | 3, _ => g1433 L c
  | 4, _ => g1434 L c
  | 5, _ => g1435 L c
  | x + 6, h => absurd h (by omega)
theorem x1440 (c : Nat) : run4 0 c 1 4 4 0 = .yes := by kernel_rfl
theorem y1440 (L c : Nat) : run4 (L + 1) c 1 4 4 0 = .yes := by kernel_rfl
theorem g1440 : ∀ (L c : Nat), run4 L c 1 4 4 0 = .yes
  | 0, c => x1440 c
  | L + 1, c => y1440 L c
theorem x1441 (c : Nat) : run4 0 c 1 4 4 1 = .yes := by kernel_rfl
theorem y1441 (L c : Nat) : run4 (L + 1) c 1 4 4 1 = .yes := by kernel_rfl
theorem g1441 : ∀ (L c : Nat), run4 L c 1 4 4 1 = .yes
  | 0, c => x1441 c
  | L + 1, c => y1441 L c
theorem x1442 (c : Nat) : run4 0 c 1 4 4 2 = .yes := by kernel_rfl
theorem y1442 (L c : Nat) : run4 (L + 1) c 1 4 4 2 = .yes := by kernel_rfl
theorem g1442 : ∀ (L c : Nat), run4 L c 1 4 4 2 = .yes
  | 0, c => x1442 c
  | L + 1, c => y1442 L c
theorem x1443 (c : Nat) : run4 0 c 1 4 4 3 = .yes := by kernel_rfl
theorem y1443 (L c : Nat) : run4 (L + 1) c 1 4 4 3 = .yes := by kernel_rfl
theorem g1443 : ∀ (L c : Nat), run4 L c 1 4 4 3 = .yes
  | 0, c => x1443 c
  | L + 1, c => y1443 L c
theorem x1444 (c : Nat) : run4 0 c 1 4 4 4 = .yes := by kernel_rfl
theorem y1444 (L c : Nat) : run4 (L + 1) c 1 4 4 4 = .yes := by kernel_rfl
theorem g1444 : ∀ (L c : Nat), run4 L c 1 4 4 4 = .yes
  | 0, c => x1444 c
  | L + 1, c => y1444 L c
theorem x1445 (c : Nat) : run4 0 c 1 4 4 5 = .yes := by kernel_rfl
theorem y1445 (L c : Nat) : run4 (L + 1) c 1 4 4 5 = .yes := by kernel_rfl
theorem g1445 : ∀ (L c : Nat), run4 L c 1 4 4 5 = .yes
  | 0, c => x1445 c
  | L + 1, c => y1445 L c
theorem h144 (L c : Nat) : ∀ x, x < 6 → run4 L c 1 4 4 x = .yes
  | 0, _ => g1440 L c
  | 1, _ => g1441 L c
  | 2, _ => g1442 L c
  | 3, _ => g1443 L c
  | 4, _ => g1444 L c
  | 5, _ => g1445 L c
  | x + 6, h => absurd h (by omega)
theorem x1450 (c : Nat) : run4 0 c 1 4 5 0 = .yes := by kernel_rfl
theorem y1450 (L c : Nat) : run4 (L + 1) c 1 4 5 0 = .yes := by kernel_rfl
theorem g1450 : ∀ (L c : Nat), run4 L c 1 4 5 0 = .yes
  | 0, c => x1450 c
  | L + 1, c => y1450 L c
theorem x1451 (c : Nat) : run4 0 c 1 4 5 1 = .yes := by kernel_rfl
theorem y1451 (L c : Nat) : run4 (L + 1) c 1 4 5 1 = .yes := by kernel_rfl
theorem g1451 : ∀ (L c : Nat), run4 L c 1 4 5 1 = .yes
  | 0, c => x1451 c
  | L + 1, c => y1451 L c
theorem x1452 (c : Nat) : run4 0 c 1 4 5 2 = .yes := by kernel_rfl
theorem y1452 (L c : Nat) : run4 (L + 1) c 1 4 5 2 = .yes := by kernel_rfl
theorem g1452 : ∀ (L c : Nat), run4 L c 1 4 5 2 = .yes
  | 0, c => x1452 c
  | L + 1, c => y1452 L c
theorem x1453 (c : Nat) : run4 0 c 1 4 5 3 = .yes := by kernel_rfl
theorem y1453 (L c : Nat) : run4 (L + 1) c 1 4 5 3 = .yes := by kernel_rfl
theorem g1453 : ∀ (L c : Nat), run4 L c 1 4 5 3 = .yes
  | 0, c => x1453 c
  | L + 1, c => y1453 L c
theorem x1454 (c : Nat) : run4 0 c 1 4 5 4 = .yes := by kernel_rfl
theorem y1454 (L c : Nat) : run4 (L + 1) c 1 4 5 4 = .yes := by kernel_rfl
theorem g1454 : ∀ (L c : Nat), run4 L c 1 4 5 4 = .yes
  | 0, c => x1454 c
  | L + 1, c => y1454 L c
theorem x1455 (c : Nat) : run4 0 c 1 4 5 5 = .yes := by kernel_rfl
theorem y1455 (L c : Nat) : run4 (L + 1) c 1 4 5 5 = .yes := by kernel_rfl
theorem g1455 : ∀ (L c : Nat), run4 L c 1 4 5 5 = .yes
  | 0, c => x1455 c
  | L + 1, c => y1455 L c
theorem h145 (L c : Nat) : ∀ x, x < 6 → run4 L c 1 4 5 x = .yes
  | 0, _ => g1450 L c
  | 1, _ => g1451 L c
  | 2, _ => g1452 L c
  | 3, _ => g1453 L c
  | 4, _ => g1454 L c
  | 5, _ => g1455 L c
  | x + 6, h => absurd h (by omega)
theorem hh14 (L c : Nat) : ∀ x, x < 6 → ∀ y, y < 6 → run4 L c 1 4 x y = .yes
  | 0, _ => h140 L c
  | 1, _ => h141 L c
  | 2, _ => h142 L c
  | 3, _ => h143 L c
  | 4, _ => h144 L c
  | 5, _ => h145 L c
  | x + 6, h => absurd h (by omega)
theorem x4100 (c : Nat) : run4 0 c 4 1 0 0 = .yes := by kernel_rfl
theorem y4100 (L c : Nat) : run4 (L + 1) c 4 1 0 0 = .yes := by kernel_rfl
theorem g4100 : ∀ (L c : Nat), run4 L c 4 1 0 0 = .yes
  | 0, c => x4100 c
  | L + 1, c => y4100 L c
theorem x4101 (c : Nat) : run4 0 c 4 1 0 1 = .yes := by kernel_rfl
theorem y4101 (L c : Nat) : run4 (L + 1) c 4 1 0 1 = .yes := by kernel_rfl
theorem g4101 : ∀ (L c : Nat), run4 L c 4 1 0 1 = .yes
  | 0, c => x4101 c
  | L + 1, c => y4101 L c
theorem x4102 (c : Nat) : run4 0 c 4 1 0 2 = .yes := by kernel_rfl
theorem y4102 (L c : Nat) : run4 (L + 1) c 4 1 0 2 = .yes := by kernel_rfl
theorem g4102 : ∀ (L c : Nat), run4 L c 4 1 0 2 = .yes
  | 0, c => x4102 c
  | L + 1, c => y4102 L c
theorem x4103 (c : Nat) : run4 0 c 4 1 0 3 = .yes := by kernel_rfl
theorem y4103 (L c : Nat) : run4 (L + 1) c 4 1 0 3 = .yes := by kernel_rfl
theorem g4103 : ∀ (L c : Nat), run4 L c 4 1 0 3 = .yes
  | 0, c => x4103 c
  | L + 1, c => y4103 L c
theorem x4104 (c : Nat) : run4 0 c 4 1 0 4 = .yes := by kernel_rfl
theorem y4104 (L c : Nat) : run4 (L + 1) c 4 1 0 4 = .yes := by kernel_rfl
theorem g4104 : ∀ (L c : Nat), run4 L c 4 1 0 4 = .yes
  | 0, c => x4104 c
  | L + 1, c => y4104 L c
theorem x4105 (c : Nat) : run4 0 c 4 1 0 5 = .yes := by kernel_rfl
theorem y4105 (L c : Nat) : run4 (L + 1) c 4 1 0 5 = .yes := by kernel_rfl
theorem g4105 : ∀ (L c : Nat), run4 L c 4 1 0 5 = .yes
  | 0, c => x4105 c
  | L + 1, c => y4105 L c
theorem h410 (L c : Nat) : ∀ x, x < 6 → run4 L c 4 1 0 x = .yes
  | 0, _ => g4100 L c
  | 1, _ => g4101 L c
  | 2, _ => g4102 L c
  | 3, _ => g4103 L c
  | 4, _ => g4104 L c
  | 5, _ => g4105 L c
  | x + 6, h => absurd h (by omega)
theorem x4110 (c : Nat) : run4 0 c 4 1 1 0 = .yes := by kernel_rfl
theorem y4110 (L c : Nat) : run4 (L + 1) c 4 1 1 0 = .yes := by kernel_rfl
theorem g4110 : ∀ (L c : Nat), run4 L c 4 1 1 0 = .yes
  | 0, c => x4110 c
  | L + 1, c => y4110 L c
theorem x4111 (c : Nat) : run4 0 c 4 1 1 1 = .yes := by kernel_rfl
theorem y4111 (L c : Nat) : run4 (L + 1) c 4 1 1 1 = .yes := by kernel_rfl
theorem g4111 : ∀ (L c : Nat), run4 L c 4 1 1 1 = .yes
  | 0, c => x4111 c
  | L + 1, c => y4111 L c
theorem x4112 (c : Nat) : run4 0 c 4 1 1 2 = .yes := by kernel_rfl
theorem y4112 (L c : Nat) : run4 (L + 1) c 4 1 1 2 = .yes := by kernel_rfl
theorem g4112 : ∀ (L c : Nat), run4 L c 4 1 1 2 = .yes
  | 0, c => x4112 c
  | L + 1, c => y4112 L c
theorem x4113 (c : Nat) : run4 0 c 4 1 1 3 = .yes := by kernel_rfl
theorem y4113 (L c : Nat) : run4 (L + 1) c 4 1 1 3 = .yes := by kernel_rfl
theorem g4113 : ∀ (L c : Nat), run4 L c 4 1 1 3 = .yes
  | 0, c => x4113 c
  | L + 1, c => y4113 L c
theorem x4114 (c : Nat) : run4 0 c 4 1 1 4 = .yes := by kernel_rfl
theorem y4114 (L c : Nat) : run4 (L + 1) c 4 1 1 4 = .yes := by kernel_rfl
theorem g4114 : ∀ (L c : Nat), run4 L c 4 1 1 4 = .yes
  | 0, c => x4114 c
  | L + 1, c => y4114 L c
theorem x4115 (c : Nat) : run4 0 c 4 1 1 5 = .yes := by kernel_rfl
theorem y4115 (L c : Nat) : run4 (L + 1) c 4 1 1 5 = .yes := by kernel_rfl
theorem g4115 : ∀ (L c : Nat), run4 L c 4 1 1 5 = .yes
  | 0, c => x4115 c
  | L + 1, c => y4115 L c
theorem h411 (L c : Nat) : ∀ x, x < 6 → run4 L c 4 1 1 x = .yes
  | 0, _ => g4110 L c
  | 1, _ => g4111 L c
  | 2, _ => g4112 L c
  | 3, _ => g4113 L c
  | 4, _ => g4114 L c
  | 5, _ => g4115 L c
  | x + 6, h => absurd h (by omega)
theorem x4120 (c : Nat) : run4 0 c 4 1 2 0 = .yes := by kernel_rfl
theorem y4120 (L c : Nat) : run4 (L + 1) c 4 1 2 0 = .yes := by kernel_rfl
theorem g4120 : ∀ (L c : Nat), run4 L c 4 1 2 0 = .yes
  | 0, c => x4120 c
  | L + 1, c => y4120 L c
theorem x4121 (c : Nat) : run4 0 c 4 1 2 1 = .yes := by kernel_rfl
theorem y4121 (L c : Nat) : run4 (L + 1) c 4 1 2 1 = .yes := by kernel_rfl
theorem g4121 : ∀ (L c : Nat), run4 L c 4 1 2 1 = .yes
  | 0, c => x4121 c
  | L + 1, c => y4121 L c
theorem x4122 (c : Nat) : run4 0 c 4 1 2 2 = .yes := by kernel_rfl
theorem y4122 (L c : Nat) : run4 (L + 1) c 4 1 2 2 = .yes := by kernel_rfl
theorem g4122 : ∀ (L c : Nat), run4 L c 4 1 2 2 = .yes
  | 0, c => x4122 c
  | L + 1, c => y4122 L c
theorem x4123 (c : Nat) : run4 0 c 4 1 2 3 = .yes := by kernel_rfl
theorem y4123 (L c : Nat) : run4 (L + 1) c 4 1 2 3 = .yes := by kernel_rfl
theorem g4123 : ∀ (L c : Nat), run4 L c 4 1 2 3 = .yes
  | 0, c => x4123 c
  | L + 1, c => y4123 L c
theorem x4124 (c : Nat) : run4 0 c 4 1 2 4 = .yes := by kernel_rfl
theorem y4124 (L c : Nat) : run4 (L + 1) c 4 1 2 4 = .yes := by kernel_rfl
theorem g4124 : ∀ (L c : Nat), run4 L c 4 1 2 4 = .yes
  | 0, c => x4124 c
  | L + 1, c => y4124 L c
theorem x4125 (c : Nat) : run4 0 c 4 1 2 5 = .yes := by kernel_rfl
theorem y4125 (L c : Nat) : run4 (L + 1) c 4 1 2 5 = .yes := by kernel_rfl
theorem g4125 : ∀ (L c : Nat), run4 L c 4 1 2 5 = .yes
  | 0, c => x4125 c
  | L + 1, c => y4125 L c
theorem h412 (L c : Nat) : ∀ x, x < 6 → run4 L c 4 1 2 x = .yes
  | 0, _ => g4120 L c
  | 1, _ => g4121 L c
  | 2, _ => g4122 L c
  | 3, _ => g4123 L c
  | 4, _ => g4124 L c
  | 5, _ => g4125 L c
  | x + 6, h => absurd h (by omega)
theorem x4130 (c : Nat) : run4 0 c 4 1 3 0 = .yes := by kernel_rfl
theorem y4130 (L c : Nat) : run4 (L + 1) c 4 1 3 0 = .yes := by kernel_rfl
theorem g4130 : ∀ (L c : Nat), run4 L c 4 1 3 0 = .yes
  | 0, c => x4130 c
  | L + 1, c => y4130 L c
theorem x4131 (c : Nat) : run4 0 c 4 1 3 1 = .yes := by kernel_rfl
theorem y4131 (L c : Nat) : run4 (L + 1) c 4 1 3 1 = .yes := by kernel_rfl
theorem g4131 : ∀ (L c : Nat), run4 L c 4 1 3 1 = .yes
  | 0, c => x4131 c
  | L + 1, c => y4131 L c
theorem x4132 (c : Nat) : run4 0 c 4 1 3 2 = .yes := by kernel_rfl
theorem y4132 (L c : Nat) : run4 (L + 1) c 4 1 3 2 = .yes := by kernel_rfl
theorem g4132 : ∀ (L c : Nat), run4 L c 4 1 3 2 = .yes
  | 0, c => x4132 c
  | L + 1, c => y4132 L c
theorem x4133 (c : Nat) : run4 0 c 4 1 3 3 = .yes := by kernel_rfl
theorem y4133 (L c : Nat) : run4 (L + 1) c 4 1 3 3 = .yes := by kernel_rfl
theorem g4133 : ∀ (L c : Nat), run4 L c 4 1 3 3 = .yes
  | 0, c => x4133 c
  | L + 1, c => y4133 L c
theorem x4134 (c : Nat) : run4 0 c 4 1 3 4 = .yes := by kernel_rfl
theorem y4134 (L c : Nat) : run4 (L + 1) c 4 1 3 4 = .yes := by kernel_rfl
theorem g4134 : ∀ (L c : Nat), run4 L c 4 1 3 4 = .yes
  | 0, c => x4134 c
  | L + 1, c => y4134 L c
theorem x4135 (c : Nat) : run4 0 c 4 1 3 5 = .yes := by kernel_rfl
theorem y4135 (L c : Nat) : run4 (L + 1) c 4 1 3 5 = .yes := by kernel_rfl
theorem g4135 : ∀ (L c : Nat), run4 L c 4 1 3 5 = .yes
  | 0, c => x4135 c
  | L + 1, c => y4135 L c
theorem h413 (L c : Nat) : ∀ x, x < 6 → run4 L c 4 1 3 x = .yes
  | 0, _ => g4130 L c
  | 1, _ => g4131 L c
  | 2, _ => g4132 L c
  | 3, _ => g4133 L c
  | 4, _ => g4134 L c
  | 5, _ => g4135 L c
  | x + 6, h => absurd h (by omega)
theorem x4140 (c : Nat) : run4 0 c 4 1 4 0 = .yes := by kernel_rfl
theorem y4140 (L c : Nat) : run4 (L + 1) c 4 1 4 0 = .yes := by kernel_rfl
theorem g4140 : ∀ (L c : Nat), run4 L c 4 1 4 0 = .yes
  | 0, c => x4140 c
  | L + 1, c => y4140 L c
theorem x4141 (c : Nat) : run4 0 c 4 1 4 1 = .yes := by kernel_rfl
theorem y4141 (L c : Nat) : run4 (L + 1) c 4 1 4 1 = .yes := by kernel_rfl
theorem g4141 : ∀ (L c : Nat), run4 L c 4 1 4 1 = .yes
  | 0, c => x4141 c
  | L + 1, c => y4141 L c
theorem x4142 (c : Nat) : run4 0 c 4 1 4 2 = .yes := by kernel_rfl
theorem y4142 (L c : Nat) : run4 (L + 1) c 4 1 4 2 = .yes := by kernel_rfl
theorem g4142 : ∀ (L c : Nat), run4 L c 4 1 4 2 = .yes
  | 0, c => x4142 c
  | L + 1, c => y4142 L c
theorem x4143 (c : Nat) : run4 0 c 4 1 4 3 = .yes := by kernel_rfl
theorem y4143 (L c : Nat) : run4 (L + 1) c 4 1 4 3 = .yes := by kernel_rfl
theorem g4143 : ∀ (L c : Nat), run4 L c 4 1 4 3 = .yes
  | 0, c => x4143 c
  | L + 1, c => y4143 L c
theorem x4144 (c : Nat) : run4 0 c 4 1 4 4 = .yes := by kernel_rfl
theorem y4144 (L c : Nat) : run4 (L + 1) c 4 1 4 4 = .yes := by kernel_rfl
theorem g4144 : ∀ (L c : Nat), run4 L c 4 1 4 4 = .yes
  | 0, c => x4144 c
  | L + 1, c => y4144 L c
theorem x4145 (c : Nat) : run4 0 c 4 1 4 5 = .yes := by kernel_rfl
theorem y4145 (L c : Nat) : run4 (L + 1) c 4 1 4 5 = .yes := by kernel_rfl
theorem g4145 : ∀ (L c : Nat), run4 L c 4 1 4 5 = .yes
  | 0, c => x4145 c
  | L + 1, c => y4145 L c
theorem h414 (L c : Nat) : ∀ x, x < 6 → run4 L c 4 1 4 x = .yes
  | 0, _ => g4140 L c
  | 1, _ => g4141 L c
  | 2, _ => g4142 L c
  | 3, _ => g4143 L c
  | 4, _ => g4144 L c
  | 5, _ => g4145 L c
  | x + 6, h => absurd h (by omega)
theorem x4150 (c : Nat) : run4 0 c 4 1 5 0 = .yes := by kernel_rfl
theorem y4150 (L c : Nat) : run4 (L + 1) c 4 1 5 0 = .yes := by kernel_rfl
theorem g4150 : ∀ (L c : Nat), run4 L c 4 1 5 0 = .yes
  | 0, c => x4150 c
  | L + 1, c => y4150 L c
theorem x4151 (c : Nat) : run4 0 c 4 1 5 1 = .yes := by kernel_rfl
theorem y4151 (L c : Nat) : run4 (L + 1) c 4 1 5 1 = .yes := by kernel_rfl
theorem g4151 : ∀ (L c : Nat), run4 L c 4 1 5 1 = .yes
  | 0, c => x4151 c
  | L + 1, c => y4151 L c
theorem x4152 (c : Nat) : run4 0 c 4 1 5 2 = .yes := by kernel_rfl
theorem y4152 (L c : Nat) : run4 (L + 1) c 4 1 5 2 = .yes := by kernel_rfl
theorem g4152 : ∀ (L c : Nat), run4 L c 4 1 5 2 = .yes
  | 0, c => x4152 c
  | L + 1, c => y4152 L c
theorem x4153 (c : Nat) : run4 0 c 4 1 5 3 = .yes := by kernel_rfl
theorem y4153 (L c : Nat) : run4 (L + 1) c 4 1 5 3 = .yes := by kernel_rfl
theorem g4153 : ∀ (L c : Nat), run4 L c 4 1 5 3 = .yes
  | 0, c => x4153 c
  | L + 1, c => y4153 L c
theorem x4154 (c : Nat) : run4 0 c 4 1 5 4 = .yes := by kernel_rfl
theorem y4154 (L c : Nat) : run4 (L + 1) c 4 1 5 4 = .yes := by kernel_rfl
theorem g4154 : ∀ (L c : Nat), run4 L c 4 1 5 4 = .yes
  | 0, c => x4154 c
  | L + 1, c => y4154 L c
theorem x4155 (c : Nat) : run4 0 c 4 1 5 5 = .yes := by kernel_rfl
theorem y4155 (L c : Nat) : run4 (L + 1) c 4 1 5 5 = .yes := by kernel_rfl
theorem g4155 : ∀ (L c : Nat), run4 L c 4 1 5 5 = .yes
  | 0, c => x4155 c
  | L + 1, c => y4155 L c
theorem h415 (L c : Nat) : ∀ x, x < 6 → run4 L c 4 1 5 x = .yes
  | 0, _ => g4150 L c
  | 1, _ => g4151 L c
  | 2, _ => g4152 L c
  | 3, _ => g4153 L c
  | 4, _ => g4154 L c
  | 5, _ => g4155 L c
  | x + 6, h => absurd h (by omega)
theorem hh41 (L c : Nat) : ∀ x, x < 6 → ∀ y, y < 6 → run4 L c 4 1 x y = .yes
  | 0, _ => h410 L c
  | 1, _ => h411 L c
  | 2, _ => h412 L c
  | 3, _ => h413 L c
  | 4, _ => h414 L c
  | 5, _ => h415 L c
  | x + 6, h => absurd h (by omega)
end Go.Proofs.YtojbfaigebpnpaaDoor.ecoThreadsq
