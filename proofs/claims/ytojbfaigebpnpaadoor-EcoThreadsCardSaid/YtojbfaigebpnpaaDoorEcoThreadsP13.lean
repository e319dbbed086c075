/-
  The law EcoThreads at some of its cases: the run over the program ends in true. Conditions: none; these are closed facts.
-/
import Derived.Test.YtojbfaigebpnpaaDoorEcoThreadsA
namespace Go.Proofs.YtojbfaigebpnpaaDoor.ecoThreadsq
open Go.Rn Go.RowKit YtojbfaigebpnpaaDoor.txt
set_option maxHeartbeats 400000000
theorem x1500 (c : Nat) : run4 0 c 1 5 0 0 = .yes := by kernel_rfl
theorem y1500 (L c : Nat) : run4 (L + 1) c 1 5 0 0 = .yes := by kernel_rfl
theorem g1500 : ∀ (L c : Nat), run4 L c 1 5 0 0 = .yes
  | 0, c => x1500 c
  | L + 1, c => y1500 L c
theorem x1501 (c : Nat) : run4 0 c 1 5 0 1 = .yes := by kernel_rfl
theorem y1501 (L c : Nat) : run4 (L + 1) c 1 5 0 1 = .yes := by kernel_rfl
theorem g1501 : ∀ (L c : Nat), run4 L c 1 5 0 1 = .yes
  | 0, c => x1501 c
  | L + 1, c => y1501 L c
theorem x1502 (c : Nat) : run4 0 c 1 5 0 2 = .yes := by kernel_rfl
theorem y1502 (L c : Nat) : run4 (L + 1) c 1 5 0 2 = .yes := by kernel_rfl
theorem g1502 : ∀ (L c : Nat), run4 L c 1 5 0 2 = .yes
  | 0, c => x1502 c
  | L + 1, c => y1502 L c
theorem x1503 (c : Nat) : run4 0 c 1 5 0 3 = .yes := by kernel_rfl
theorem y1503 (L c : Nat) : run4 (L + 1) c 1 5 0 3 = .yes := by kernel_rfl
theorem g1503 : ∀ (L c : Nat), run4 L c 1 5 0 3 = .yes
  | 0, c => x1503 c
  | L + 1, c => y1503 L c
theorem x1504 (c : Nat) : run4 0 c 1 5 0 4 = .yes := by kernel_rfl
theorem y1504 (L c : Nat) : run4 (L + 1) c 1 5 0 4 = .yes := by kernel_rfl
theorem g1504 : ∀ (L c : Nat), run4 L c 1 5 0 4 = .yes
  | 0, c => x1504 c
  | L + 1, c => y1504 L c
theorem x1505 (c : Nat) : run4 0 c 1 5 0 5 = .yes := by kernel_rfl
theorem y1505 (L c : Nat) : run4 (L + 1) c 1 5 0 5 = .yes := by kernel_rfl
theorem g1505 : ∀ (L c : Nat), run4 L c 1 5 0 5 = .yes
  | 0, c => x1505 c
  | L + 1, c => y1505 L c
theorem h150 (L c : Nat) : ∀ x, x < 6 → run4 L c 1 5 0 x = .yes
  | 0, _ => g1500 L c
  | 1, _ => g1501 L c
  | 2, _ => g1502 L c
  | 3, _ => g1503 L c
  | 4, _ => g1504 L c
  | 5, _ => g1505 L c
  | x + 6, h => absurd h (by omega)
theorem x1510 (c : Nat) : run4 0 c 1 5 1 0 = .yes := by kernel_rfl
theorem y1510 (L c : Nat) : run4 (L + 1) c 1 5 1 0 = .yes := by kernel_rfl
theorem g1510 : ∀ (L c : Nat), run4 L c 1 5 1 0 = .yes
  | 0, c => x1510 c
  | L + 1, c => y1510 L c
theorem x1511 (c : Nat) : run4 0 c 1 5 1 1 = .yes := by kernel_rfl
theorem y1511 (L c : Nat) : run4 (L + 1) c 1 5 1 1 = .yes := by kernel_rfl
theorem g1511 : ∀ (L c : Nat), run4 L c 1 5 1 1 = .yes
  | 0, c => x1511 c
  | L + 1, c => y1511 L c
theorem x1512 (c : Nat) : run4 0 c 1 5 1 2 = .yes := by kernel_rfl
theorem y1512 (L c : Nat) : run4 (L + 1) c 1 5 1 2 = .yes := by kernel_rfl
theorem g1512 : ∀ (L c : Nat), run4 L c 1 5 1 2 = .yes
  | 0, c => x1512 c
  | L + 1, c => y1512 L c
theorem x1513 (c : Nat) : run4 0 c 1 5 1 3 = .yes := by kernel_rfl
theorem y1513 (L c : Nat) : run4 (L + 1) c 1 5 1 3 = .yes := by kernel_rfl
theorem g1513 : ∀ (L c : Nat), run4 L c 1 5 1 3 = .yes
  | 0, c => x1513 c
  | L + 1, c => y1513 L c
theorem x1514 (c : Nat) : run4 0 c 1 5 1 4 = .yes := by kernel_rfl
theorem y1514 (L c : Nat) : run4 (L + 1) c 1 5 1 4 = .yes := by kernel_rfl
theorem g1514 : ∀ (L c : Nat), run4 L c 1 5 1 4 = .yes
  | 0, c => x1514 c
  | L + 1, c => y1514 L c
theorem x1515 (c : Nat) : run4 0 c 1 5 1 5 = .yes := by kernel_rfl
theorem y1515 (L c : Nat) : run4 (L + 1) c 1 5 1 5 = .yes := by kernel_rfl
theorem g1515 : ∀ (L c : Nat), run4 L c 1 5 1 5 = .yes
  | 0, c => x1515 c
  | L + 1, c => y1515 L c
theorem h151 (L c : Nat) : ∀ x, x < 6 → run4 L c 1 5 1 x = .yes
  | 0, _ => g1510 L c
  | 1, _ => g1511 L c
  | 2, _ => g1512 L c
  | 3, _ => g1513 L c
  | 4, _ => g1514 L c
  | 5, _ => g1515 L c
  | x + 6, h => absurd h (by omega)
theorem x1520 (c : Nat) : run4 0 c 1 5 2 0 = .yes := by kernel_rfl
theorem y1520 (L c : Nat) : run4 (L + 1) c 1 5 2 0 = .yes := by kernel_rfl
theorem g1520 : ∀ (L c : Nat), run4 L c 1 5 2 0 = .yes
  | 0, c => x1520 c
  | L + 1, c => y1520 L c
theorem x1521 (c : Nat) : run4 0 c 1 5 2 1 = .yes := by kernel_rfl
theorem y1521 (L c : Nat) : run4 (L + 1) c 1 5 2 1 = .yes := by kernel_rfl
theorem g1521 : ∀ (L c : Nat), run4 L c 1 5 2 1 = .yes
  | 0, c => x1521 c
  | L + 1, c => y1521 L c
theorem x1522 (c : Nat) : run4 0 c 1 5 2 2 = .yes := by kernel_rfl
theorem y1522 (L c : Nat) : run4 (L + 1) c 1 5 2 2 = .yes := by kernel_rfl
theorem g1522 : ∀ (L c : Nat), run4 L c 1 5 2 2 = .yes
  | 0, c => x1522 c
  | L + 1, c => y1522 L c
theorem x1523 (c : Nat) : run4 0 c 1 5 2 3 = .yes := by kernel_rfl
theorem y1523 (L c : Nat) : run4 (L + 1) c 1 5 2 3 = .yes := by kernel_rfl
theorem g1523 : ∀ (L c : Nat), run4 L c 1 5 2 3 = .yes
  | 0, c => x1523 c
  | L + 1, c => y1523 L c
theorem x1524 (c : Nat) : run4 0 c 1 5 2 4 = .yes := by kernel_rfl
theorem y1524 (L c : Nat) : run4 (L + 1) c 1 5 2 4 = .yes := by kernel_rfl
theorem g1524 : ∀ (L c : Nat), run4 L c 1 5 2 4 = .yes
  | 0, c => x1524 c
  | L + 1, c => y1524 L c
theorem x1525 (c : Nat) : run4 0 c 1 5 2 5 = .yes := by kernel_rfl
theorem y1525 (L c : Nat) : run4 (L + 1) c 1 5 2 5 = .yes := by kernel_rfl
theorem g1525 : ∀ (L c : Nat), run4 L c 1 5 2 5 = .yes
  | 0, c => x1525 c
  | L + 1, c => y1525 L c
theorem h152 (L c : Nat) : ∀ x, x < 6 → run4 L c 1 5 2 x = .yes
  | 0, _ => g1520 L c
  | 1, _ => g1521 L c
  | 2, _ => g1522 L c
  | 3, _ => g1523 L c
  | 4, _ => g1524 L c
  | 5, _ => g1525 L c
  | x + 6, h => absurd h (by omega)
theorem x1530 (c : Nat) : run4 0 c 1 5 3 0 = .yes := by kernel_rfl
theorem y1530 (L c : Nat) : run4 (L + 1) c 1 5 3 0 = .yes := by kernel_rfl
theorem g1530 : ∀ (L c : Nat), run4 L c 1 5 3 0 = .yes
  | 0, c => x1530 c
  | L + 1, c => y1530 L c
theorem x1531 (c : Nat) : run4 0 c 1 5 3 1 = .yes := by kernel_rfl
theorem y1531 (L c : Nat) : run4 (L + 1) c 1 5 3 1 = .yes := by kernel_rfl
theorem g1531 : ∀ (L c : Nat), run4 L c 1 5 3 1 = .yes
  | 0, c => x1531 c
  | L + 1, c => y1531 L c
theorem x1532 (c : Nat) : run4 0 c 1 5 3 2 = .yes := by kernel_rfl
theorem y1532 (L c : Nat) : run4 (L + 1) c 1 5 3 2 = .yes := by kernel_rfl
theorem g1532 : ∀ (L c : Nat), run4 L c 1 5 3 2 = .yes
  | 0, c => x1532 c
  | L + 1, c => y1532 L c
theorem x1533 (c : Nat) : run4 0 c 1 5 3 3 = .yes := by kernel_rfl
theorem y1533 (L c : Nat) : run4 (L + 1) c 1 5 3 3 = .yes := by kernel_rfl
theorem g1533 : ∀ (L c : Nat), run4 L c 1 5 3 3 = .yes
  | 0, c => x1533 c
  | L + 1, c => y1533 L c
theorem x1534 (c : Nat) : run4 0 c 1 5 3 4 = .yes := by kernel_rfl
theorem y1534 (L c : Nat) : run4 (L + 1) c 1 5 3 4 = .yes := by kernel_rfl
theorem g1534 : ∀ (L c : Nat), run4 L c 1 5 3 4 = .yes
  | 0, c => x1534 c
  | L + 1, c => y1534 L c
theorem x1535 (c : Nat) : run4 0 c 1 5 3 5 = .yes := by kernel_rfl
theorem y1535 (L c : Nat) : run4 (L + 1) c 1 5 3 5 = .yes := by kernel_rfl
theorem g1535 : ∀ (L c : Nat), run4 L c 1 5 3 5 = .yes
  | 0, c => x1535 c
  | L + 1, c => y1535 L c
theorem h153 (L c : Nat) : ∀ x, x < 6 → run4 L c 1 5 3 x = .yes
  | 0, _ => g1530 L c
  | 1, _ => g1531 L c
  | 2, _ => g1532 L c
  | 3, _ => g1533 L c
  | 4, _ => g1534 L c
  | 5, _ => g1535 L c
  | x + 6, h => absurd h (by omega)
theorem x1540 (c : Nat) : run4 0 c 1 5 4 0 = .yes := by kernel_rfl
theorem y1540 (L c : Nat) : run4 (L + 1) c 1 5 4 0 = .yes := by kernel_rfl
theorem g1540 : ∀ (L c : Nat), run4 L c 1 5 4 0 = .yes
  | 0, c => x1540 c
  | L + 1, c => y1540 L c
theorem x1541 (c : Nat) : run4 0 c 1 5 4 1 = .yes := by kernel_rfl
theorem y1541 (L c : Nat) : run4 (L + 1) c 1 5 4 1 = .yes := by kernel_rfl
theorem g1541 : ∀ (L c : Nat), run4 L c 1 5 4 1 = .yes
  | 0, c => x1541 c
  | L + 1, c => y1541 L c
theorem x1542 (c : Nat) : run4 0 c 1 5 4 2 = .yes := by kernel_rfl
theorem y1542 (L c : Nat) : run4 (L + 1) c 1 5 4 2 = .yes := by kernel_rfl
theorem g1542 : ∀ (L c : Nat), run4 L c 1 5 4 2 = .yes
  | 0, c => x1542 c
  | L + 1, c => y1542 L c
theorem x1543 (c : Nat) : run4 0 c 1 5 4 3 = .yes := by kernel_rfl
theorem y1543 (L c : Nat) : run4 (L + 1) c 1 5 4 3 = .yes := by kernel_rfl
theorem g1543 : ∀ (L c : Nat), run4 L c 1 5 4 3 = .yes
  | 0, c => x1543 c
  | L + 1, c => y1543 L c
theorem x1544 (c : Nat) : run4 0 c 1 5 4 4 = .yes := by kernel_rfl
theorem y1544 (L c : Nat) : run4 (L + 1) c 1 5 4 4 = .yes := by kernel_rfl
theorem g1544 : ∀ (L c : Nat), run4 L c 1 5 4 4 = .yes
  | 0, c => x1544 c
  | L + 1, c => y1544 L c
theorem x1545 (c : Nat) : run4 0 c 1 5 4 5 = .yes := by kernel_rfl
theorem y1545 (L c : Nat) : run4 (L + 1) c 1 5 4 5 = .yes := by kernel_rfl
theorem g1545 : ∀ (L c : Nat), run4 L c 1 5 4 5 = .yes
  | 0, c => x1545 c
  | L + 1, c => y1545 L c
theorem h154 (L c : Nat) : ∀ x, x < 6 → run4 L c 1 5 4 x = .yes
  | 0, _ => g1540 L c
  | 1, _ => g1541 L c
  | 2, _ => g1542 L c
  | 3, _ => g1543 L c
  | 4, _ => g1544 L c
  | 5, _ => g1545 L c
  | x + 6, h => absurd h (by omega)
theorem x1550 (c : Nat) : run4 0 c 1 5 5 0 = .yes := by kernel_rfl
theorem y1550 (L c : Nat) : run4 (L + 1) c 1 5 5 0 = .yes := by kernel_rfl
theorem g1550 : ∀ (L c : Nat), run4 L c 1 5 5 0 = .yes
  | 0, c => x1550 c
  | L + 1, c => y1550 L c
theorem x1551 (c : Nat) : run4 0 c 1 5 5 1 = .yes := by kernel_rfl
theorem y1551 (L c : Nat) : run4 (L + 1) c 1 5 5 1 = .yes := by kernel_rfl
theorem g1551 : ∀ (L c : Nat), run4 L c 1 5 5 1 = .yes
  | 0, c => x1551 c
  | L + 1, c => y1551 L c
theorem x1552 (c : Nat) : run4 0 c 1 5 5 2 = .yes := by kernel_rfl
theorem y1552 (L c : Nat) : run4 (L + 1) c 1 5 5 2 = .yes := by kernel_rfl
theorem g1552 : ∀ (L c : Nat), run4 L c 1 5 5 2 = .yes
  | 0, c => x1552 c
  | L + 1, c => y1552 L c
theorem x1553 (c : Nat) : run4 0 c 1 5 5 3 = .yes := by kernel_rfl
theorem y1553 (L c : Nat) : run4 (L + 1) c 1 5 5 3 = .yes := by kernel_rfl
theorem g1553 : ∀ (L c : Nat), run4 L c 1 5 5 3 = .yes
  | 0, c => x1553 c
  | L + 1, c => y1553 L c
theorem x1554 (c : Nat) : run4 0 c 1 5 5 4 = .yes := by kernel_rfl
theorem y1554 (L c : Nat) : run4 (L + 1) c 1 5 5 4 = .yes := by kernel_rfl
theorem g1554 : ∀ (L c : Nat), run4 L c 1 5 5 4 = .yes
  | 0, c => x1554 c
  | L + 1, c => y1554 L c
theorem x1555 (c : Nat) : run4 0 c 1 5 5 5 = .yes := by kernel_rfl
theorem y1555 (L c : Nat) : run4 (L + 1) c 1 5 5 5 = .yes := by kernel_rfl
theorem g1555 : ∀ (L c : Nat), run4 L c 1 5 5 5 = .yes
  | 0, c => x1555 c
  | L + 1, c => y1555 L c
theorem h155 (L c : Nat) : ∀ x, x < 6 → run4 L c 1 5 5 x = .yes
  | 0, _ => g1550 L c
  | 1, _ => g1551 L c
  | 2, _ => g1552 L c
  | 3, _ => g1553 L c
  | 4, _ => g1554 L c
  | 5, _ => g1555 L c
  | x + 6, h => absurd h (by omega)
theorem hh15 (L c : Nat) : ∀ x, x < 6 → ∀ y, y < 6 → run4 L c 1 5 x y = .yes
  | 0, _ => h150 L c
  | 1, _ => h151 L c
  | 2, _ => h152 L c
  | 3, _ => h153 L c
  | 4, _ => h154 L c
  | 5, _ => h155 L c
  | x + 6, h => absurd h (by omega)
theorem x4000 (c : Nat) : run4 0 c 4 0 0 0 = .yes := by kernel_rfl
theorem y4000 (L c : Nat) : run4 (L + 1) c 4 0 0 0 = .yes := by kernel_rfl
theorem g4000 : ∀ (L c : Nat), run4 L c 4 0 0 0 = .yes
  | 0, c => x4000 c
  | L + 1, c => y4000 L c
theorem x4001 (c : Nat) : run4 0 c 4 0 0 1 = .yes := by kernel_rfl
theorem y4001 (L c : Nat) : run4 (L + 1) c 4 0 0 1 = .yes := by kernel_rfl
theorem g4001 : ∀ (L c : Nat), run4 L c 4 0 0 1 = .yes
  | 0, c => x4001 c
  | L + 1, c => y4001 L c
theorem x4002 (c : Nat) : run4 0 c 4 0 0 2 = .yes := by kernel_rfl
theorem y4002 (L c : Nat) : run4 (L + 1) c 4 0 0 2 = .yes := by kernel_rfl
theorem g4002 : ∀ (L c : Nat), run4 L c 4 0 0 2 = .yes
  | 0, c => x4002 c
  | L + 1, c => y4002 L c
theorem x4003 (c : Nat) : run4 0 c 4 0 0 3 = .yes := by kernel_rfl
theorem y4003 (L c : Nat) : run4 (L + 1) c 4 0 0 3 = .yes := by kernel_rfl
theorem g4003 : ∀ (L c : Nat), run4 L c 4 0 0 3 = .yes
  | 0, c => x4003 c
  | L + 1, c => y4003 L c
theorem x4004 (c : Nat) : run4 0 c 4 0 0 4 = .yes := by kernel_rfl
theorem y4004 (L c : Nat) : run4 (L + 1) c 4 0 0 4 = .yes := by kernel_rfl
theorem g4004 : ∀ (L c : Nat), run4 L c 4 0 0 4 = .yes
  | 0, c => x4004 c
  | L + 1, c => y4004 L c
theorem x4005 (c : Nat) : run4 0 c 4 0 0 5 = .yes := by kernel_rfl
theorem y4005 (L c : Nat) : run4 (L + 1) c 4 0 0 5 = .yes := by kernel_rfl
theorem g4005 : ∀ (L c : Nat), run4 L c 4 0 0 5 = .yes
  | 0, c => x4005 c
  | L + 1, c => y4005 L c
theorem h400 (L c : Nat) : ∀ x, x < 6 → run4 L c 4 0 0 x = .yes
  | 0, _ => g4000 L c
  | 1, _ => g4001 L c
  | 2, _ => g4002 L c
  | 3, _ => g4003 L c
  | 4, _ => g4004 L c
  | 5, _ => g4005 L c
  | x + 6, h => absurd h (by omega)
theorem x4010 (c : Nat) : run4 0 c 4 0 1 0 = .yes := by kernel_rfl
theorem y4010 (L c : Nat) : run4 (L + 1) c 4 0 1 0 = .yes := by kernel_rfl
theorem g4010 : ∀ (L c : Nat), run4 L c 4 0 1 0 = .yes
  | 0, c => x4010 c
  | L + 1, c => y4010 L c
theorem x4011 (c : Nat) : run4 0 c 4 0 1 1 = .yes := by kernel_rfl
theorem y4011 (L c : Nat) : run4 (L + 1) c 4 0 1 1 = .yes := by kernel_rfl
theorem g4011 : ∀ (L c : Nat), run4 L c 4 0 1 1 = .yes
  | 0, c => x4011 c
  | L + 1, c => y4011 L c
theorem x4012 (c : Nat) : run4 0 c 4 0 1 2 = .yes := by kernel_rfl
theorem y4012 (L c : Nat) : run4 (L + 1) c 4 0 1 2 = .yes := by kernel_rfl
theorem g4012 : ∀ (L c : Nat), run4 L c 4 0 1 2 = .yes
  | 0, c => x4012 c
  | L + 1, c => y4012 L c
theorem x4013 (c : Nat) : run4 0 c 4 0 1 3 = .yes := by kernel_rfl
theorem y4013 (L c : Nat) : run4 (L + 1) c 4 0 1 3 = .yes := by kernel_rfl
theorem g4013 : ∀ (L c : Nat), run4 L c 4 0 1 3 = .yes
  | 0, c => x4013 c
  | L + 1, c => y4013 L c
theorem x4014 (c : Nat) : run4 0 c 4 0 1 4 = .yes := by kernel_rfl
theorem y4014 (L c : Nat) : run4 (L + 1) c 4 0 1 4 = .yes := by kernel_rfl
theorem g4014 : ∀ (L c : Nat), run4 L c 4 0 1 4 = .yes
  | 0, c => x4014 c
  | L + 1, c => y4014 L c
theorem x4015 (c : Nat) : run4 0 c 4 0 1 5 = .yes := by kernel_rfl
theorem y4015 (L c : Nat) : run4 (L + 1) c 4 0 1 5 = .yes := by kernel_rfl
theorem g4015 : ∀ (L c : Nat), run4 L c 4 0 1 5 = .yes
  | 0, c => x4015 c
  | L + 1, c => y4015 L c
theorem h401 (L c : Nat) : ∀ x, x < 6 → run4 L c 4 0 1 x = .yes
  | 0, _ => g4010 L c
  | 1, _ => g4011 L c
  | 2, _ => g4012 L c
  | 3, _ => g4013 L c
  | 4, _ => g4014 L c
  | 5, _ => g4015 L c
  | x + 6, h => absurd h (by omega)
theorem x4020 (c : Nat) : run4 0 c 4 0 2 0 = .yes := by kernel_rfl
theorem y4020 (L c : Nat) : run4 (L + 1) c 4 0 2 0 = .yes := by kernel_rfl
theorem g4020 : ∀ (L c : Nat), run4 L c 4 0 2 0 = .yes
  | 0, c => x4020 c
  | L + 1, c => y4020 L c
theorem x4021 (c : Nat) : run4 0 c 4 0 2 1 = .yes := by kernel_rfl
theorem y4021 (L c : Nat) : run4 (L + 1) c 4 0 2 1 = .yes := by kernel_rfl
theorem g4021 : ∀ (L c : Nat), run4 L c 4 0 2 1 = .yes
  | 0, c => x4021 c
  | L + 1, c => y4021 L c
theorem x4022 (c : Nat) : run4 0 c 4 0 2 2 = .yes := by kernel_rfl
theorem y4022 (L c : Nat) : run4 (L + 1) c 4 0 2 2 = .yes := by kernel_rfl
theorem g4022 : ∀ (L c : Nat), run4 L c 4 0 2 2 = .yes
  | 0, c => x4022 c
  | L + 1, c => y4022 L c
theorem x4023 (c : Nat) : run4 0 c 4 0 2 3 = .yes := by kernel_rfl
theorem y4023 (L c : Nat) : run4 (L + 1) c 4 0 2 3 = .yes := by kernel_rfl
theorem g4023 : ∀ (L c : Nat), run4 L c 4 0 2 3 = .yes
  | 0, c => x4023 c
  | L + 1, c => y4023 L c
theorem x4024 (c : Nat) : run4 0 c 4 0 2 4 = .yes := by kernel_rfl
theorem y4024 (L c : Nat) : run4 (L + 1) c 4 0 2 4 = .yes := by kernel_rfl
theorem g4024 : ∀ (L c : Nat), run4 L c 4 0 2 4 = .yes
  | 0, c => x4024 c
  | L + 1, c => y4024 L c
theorem x4025 (c : Nat) : run4 0 c 4 0 2 5 = .yes := by kernel_rfl
theorem y4025 (L c : Nat) : run4 (L + 1) c 4 0 2 5 = .yes := by kernel_rfl
theorem g4025 : ∀ (L c : Nat), run4 L c 4 0 2 5 = .yes
  | 0, c => x4025 c
  | L + 1, c => y4025 L c
theorem h402 (L c : Nat) : ∀ x, x < 6 → run4 L c 4 0 2 x = .yes
  | 0, _ => g4020 L c
  | 1, _ => g4021 L c
  | 2, _ => g4022 L c
  | 3, _ => g4023 L c
  | 4, _ => g4024 L c
  | 5, _ => g4025 L c
  | x + 6, h => absurd h (by omega)
theorem x4030 (c : Nat) : run4 0 c 4 0 3 0 = .yes := by kernel_rfl
theorem y4030 (L c : Nat) : run4 (L + 1) c 4 0 3 0 = .yes := by kernel_rfl
theorem g4030 : ∀ (L c : Nat), run4 L c 4 0 3 0 = .yes
  | 0, c => x4030 c
  | L + 1, c => y4030 L c
theorem x4031 (c : Nat) : run4 0 c 4 0 3 1 = .yes := by kernel_rfl
theorem y4031 (L c : Nat) : run4 (L + 1) c 4 0 3 1 = .yes := by kernel_rfl
theorem g4031 : ∀ (L c : Nat), run4 L c 4 0 3 1 = .yes
  | 0, c => x4031 c
  | L + 1, c => y4031 L c
theorem x4032 (c : Nat) : run4 0 c 4 0 3 2 = .yes := by kernel_rfl
theorem y4032 (L c : Nat) : run4 (L + 1) c 4 0 3 2 = .yes := by kernel_rfl
theorem g4032 : ∀ (L c : Nat), run4 L c 4 0 3 2 = .yes
  | 0, c => x4032 c
  | L + 1, c => y4032 L c
theorem x4033 (c : Nat) : run4 0 c 4 0 3 3 = .yes := by kernel_rfl
theorem y4033 (L c : Nat) : run4 (L + 1) c 4 0 3 3 = .yes := by kernel_rfl
theorem g4033 : ∀ (L c : Nat), run4 L c 4 0 3 3 = .yes
  | 0, c => x4033 c
  | L + 1, c => y4033 L c
theorem x4034 (c : Nat) : run4 0 c 4 0 3 4 = .yes := by kernel_rfl
theorem y4034 (L c : Nat) : run4 (L + 1) c 4 0 3 4 = .yes := by kernel_rfl
theorem g4034 : ∀ (L c : Nat), run4 L c 4 0 3 4 = .yes
  | 0, c => x4034 c
  | L + 1, c => y4034 L c
theorem x4035 (c : Nat) : run4 0 c 4 0 3 5 = .yes := by kernel_rfl
theorem y4035 (L c : Nat) : run4 (L + 1) c 4 0 3 5 = .yes := by kernel_rfl
theorem g4035 : ∀ (L c : Nat), run4 L c 4 0 3 5 = .yes
  | 0, c => x4035 c
  | L + 1, c => y4035 L c
theorem h403 (L c : Nat) : ∀ x, x < 6 → run4 L c 4 0 3 x = .yes
  | 0, _ => g4030 L c
  | 1, _ => g4031 L c
  | 2, _ => g4032 L c
  | 3, _ => g4033 L c
  | 4, _ => g4034 L c
  | 5, _ => g4035 L c
  | x + 6, h => absurd h (by omega)
theorem x4040 (c : Nat) : run4 0 c 4 0 4 0 = .yes := by kernel_rfl
theorem y4040 (L c : Nat) : run4 (L + 1) c 4 0 4 0 = .yes := by kernel_rfl
theorem g4040 : ∀ (L c : Nat), run4 L c 4 0 4 0 = .yes
  | 0, c => x4040 c
  | L + 1, c => y4040 L c
theorem x4041 (c : Nat) : run4 0 c 4 0 4 1 = .yes := by kernel_rfl
theorem y4041 (L c : Nat) : run4 (L + 1) c 4 0 4 1 = .yes := by kernel_rfl
theorem g4041 : ∀ (L c : Nat), run4 L c 4 0 4 1 = .yes
  | 0, c => x4041 c
  | L + 1, c => y4041 L c
theorem x4042 (c : Nat) : run4 0 c 4 0 4 2 = .yes := by kernel_rfl
theorem y4042 (L c : Nat) : run4 (L + 1) c 4 0 4 2 = .yes := by kernel_rfl
theorem g4042 : ∀ (L c : Nat), run4 L c 4 0 4 2 = .yes
  | 0, c => x4042 c
  | L + 1, c => y4042 L c
theorem x4043 (c : Nat) : run4 0 c 4 0 4 3 = .yes := by kernel_rfl
theorem y4043 (L c : Nat) : run4 (L + 1) c 4 0 4 3 = .yes := by kernel_rfl
theorem g4043 : ∀ (L c : Nat), run4 L c 4 0 4 3 = .yes
  | 0, c => x4043 c
  | L + 1, c => y4043 L c
theorem x4044 (c : Nat) : run4 0 c 4 0 4 4 = .yes := by kernel_rfl
theorem y4044 (L c : Nat) : run4 (L + 1) c 4 0 4 4 = .yes := by kernel_rfl
theorem g4044 : ∀ (L c : Nat), run4 L c 4 0 4 4 = .yes
  | 0, c => x4044 c
  | L + 1, c => y4044 L c
theorem x4045 (c : Nat) : run4 0 c 4 0 4 5 = .yes := by kernel_rfl
theorem y4045 (L c : Nat) : run4 (L + 1) c 4 0 4 5 = .yes := by kernel_rfl
theorem g4045 : ∀ (L c : Nat), run4 L c 4 0 4 5 = .yes
  | 0, c => x4045 c
  | L + 1, c => y4045 L c
theorem h404 (L c : Nat) : ∀ x, x < 6 → run4 L c 4 0 4 x = .yes
  | 0, _ => g4040 L c
  | 1, _ => g4041 L c
  | 2, _ => g4042 L c
  | 3, _ => g4043 L c
  | 4, _ => g4044 L c
  | 5, _ => g4045 L c
  | x + 6, h => absurd h (by omega)
theorem x4050 (c : Nat) : run4 0 c 4 0 5 0 = .yes := by kernel_rfl
theorem y4050 (L c : Nat) : run4 (L + 1) c 4 0 5 0 = .yes := by kernel_rfl
theorem g4050 : ∀ (L c : Nat), run4 L c 4 0 5 0 = .yes
  | 0, c => x4050 c
  | L + 1, c => y4050 L c
theorem x4051 (c : Nat) : run4 0 c 4 0 5 1 = .yes := by kernel_rfl
theorem y4051 (L c : Nat) : run4 (L + 1) c 4 0 5 1 = .yes := by kernel_rfl
theorem g4051 : ∀ (L c : Nat), run4 L c 4 0 5 1 = .yes
  | 0, c => x4051 c
  | L + 1, c => y4051 L c
theorem x4052 (c : Nat) : run4 0 c 4 0 5 2 = .yes := by kernel_rfl
theorem y4052 (L c : Nat) : run4 (L + 1) c 4 0 5 2 = .yes := by kernel_rfl
theorem g4052 : ∀ (L c : Nat), run4 L c 4 0 5 2 = .yes
  | 0, c => x4052 c
  | L + 1, c => y4052 L c
theorem x4053 (c : Nat) : run4 0 c 4 0 5 3 = .yes := by kernel_rfl
theorem y4053 (L c : Nat) : run4 (L + 1) c 4 0 5 3 = .yes := by kernel_rfl
theorem g4053 : ∀ (L c : Nat), run4 L c 4 0 5 3 = .yes
  | 0, c => x4053 c
  | L + 1, c => y4053 L c
theorem x4054 (c : Nat) : run4 0 c 4 0 5 4 = .yes := by kernel_rfl
theorem y4054 (L c : Nat) : run4 (L + 1) c 4 0 5 4 = .yes := by kernel_rfl
theorem g4054 : ∀ (L c : Nat), run4 L c 4 0 5 4 = .yes
  | 0, c => x4054 c
  | L + 1, c => y4054 L c
theorem x4055 (c : Nat) : run4 0 c 4 0 5 5 = .yes := by kernel_rfl
theorem y4055 (L c : Nat) : run4 (L + 1) c 4 0 5 5 = .yes := by kernel_rfl
theorem g4055 : ∀ (L c : Nat), run4 L c 4 0 5 5 = .yes
  | 0, c => x4055 c
  | L + 1, c => y4055 L c
theorem h405 (L c : Nat) : ∀ x, x < 6 → run4 L c 4 0 5 x = .yes
  | 0, _ => g4050 L c
  | 1, _ => g4051 L c
  | 2, _ => g4052 L c
  | 3, _ => g4053 L c
  | 4, _ => g4054 L c
  | 5, _ => g4055 L c
  | x + 6, h => absurd h (by omega)
theorem hh40 (L c : Nat) : ∀ x, x < 6 → ∀ y, y < 6 → run4 L c 4 0 x y = .yes
  | 0, _ => h400 L c
  | 1, _ => h401 L c
  | 2, _ => h402 L c
  | 3, _ => h403 L c
  | 4, _ => h404 L c
  | 5, _ => h405 L c
  | x + 6, h => absurd h (by omega)
end Go.Proofs.YtojbfaigebpnpaaDoor.ecoThreadsq
