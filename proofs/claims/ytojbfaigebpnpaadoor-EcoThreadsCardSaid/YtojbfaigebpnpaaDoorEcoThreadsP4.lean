/-
  The law EcoThreads at some of its cases: the run over the program ends in true. Conditions: none; these are closed facts.
-/
import Derived.Test.YtojbfaigebpnpaaDoorEcoThreadsA
namespace Go.Proofs.YtojbfaigebpnpaaDoor.ecoThreadsq
open Go.Rn Go.RowKit YtojbfaigebpnpaaDoor.txt
set_option maxHeartbeats 400000000
theorem x4500 (c : Nat) : run4 0 c 4 5 0 0 = .yes := by kernel_rfl
theorem y4500 (L c : Nat) : run4 (L + 1) c 4 5 0 0 = .yes := by kernel_rfl
theorem g4500 : ∀ (L c : Nat), run4 L c 4 5 0 0 = .yes
  | 0, c => x4500 c
  | L + 1, c => y4500 L c
theorem x4501 (c : Nat) : run4 0 c 4 5 0 1 = .yes := by kernel_rfl
theorem y4501 (L c : Nat) : run4 (L + 1) c 4 5 0 1 = .yes := by kernel_rfl
theorem g4501 : ∀ (L c : Nat), run4 L c 4 5 0 1 = .yes
  | 0, c => x4501 c
  | L + 1, c => y4501 L c
theorem x4502 (c : Nat) : run4 0 c 4 5 0 2 = .yes := by kernel_rfl
theorem y4502 (L c : Nat) : run4 (L + 1) c 4 5 0 2 = .yes := by kernel_rfl
theorem g4502 : ∀ (L c : Nat), run4 L c 4 5 0 2 = .yes
  | 0, c => x4502 c
  | L + 1, c => y4502 L c
theorem x4503 (c : Nat) : run4 0 c 4 5 0 3 = .yes := by kernel_rfl
theorem y4503 (L c : Nat) : run4 (L + 1) c 4 5 0 3 = .yes := by kernel_rfl
theorem g4503 : ∀ (L c : Nat), run4 L c 4 5 0 3 = .yes
  | 0, c => x4503 c
  | L + 1, c => y4503 L c
theorem x4504 (c : Nat) : run4 0 c 4 5 0 4 = .yes := by kernel_rfl
theorem y4504 (L c : Nat) : run4 (L + 1) c 4 5 0 4 = .yes := by kernel_rfl
theorem g4504 : ∀ (L c : Nat), run4 L c 4 5 0 4 = .yes
  | 0, c => x4504 c
  | L + 1, c => y4504 L c
theorem x4505 (c : Nat) : run4 0 c 4 5 0 5 = .yes := by kernel_rfl
theorem y4505 (L c : Nat) : run4 (L + 1) c 4 5 0 5 = .yes := by kernel_rfl
theorem g4505 : ∀ (L c : Nat), run4 L c 4 5 0 5 = .yes
  | 0, c => x4505 c
  | L + 1, c => y4505 L c
theorem h450 (L c : Nat) : ∀ x, x < 6 → run4 L c 4 5 0 x = .yes
  | 0, _ => g4500 L c
  | 1, _ => g4501 L c
  | 2, _ => g4502 L c
  | 3, _ => g4503 L c
  | 4, _ => g4504 L c
  | 5, _ => g4505 L c
  | x + 6, h => absurd h (by omega)
theorem x4510 (c : Nat) : run4 0 c 4 5 1 0 = .yes := by kernel_rfl
theorem y4510 (L c : Nat) : run4 (L + 1) c 4 5 1 0 = .yes := by kernel_rfl
theorem g4510 : ∀ (L c : Nat), run4 L c 4 5 1 0 = .yes
  | 0, c => x4510 c
  | L + 1, c => y4510 L c
theorem x4511 (c : Nat) : run4 0 c 4 5 1 1 = .yes := by kernel_rfl
theorem y4511 (L c : Nat) : run4 (L + 1) c 4 5 1 1 = .yes := by kernel_rfl
theorem g4511 : ∀ (L c : Nat), run4 L c 4 5 1 1 = .yes
  | 0, c => x4511 c
  | L + 1, c => y4511 L c
theorem x4512 (c : Nat) : run4 0 c 4 5 1 2 = .yes := by kernel_rfl
theorem y4512 (L c : Nat) : run4 (L + 1) c 4 5 1 2 = .yes := by kernel_rfl
theorem g4512 : ∀ (L c : Nat), run4 L c 4 5 1 2 = .yes
  | 0, c => x4512 c
  | L + 1, c => y4512 L c
theorem x4513 (c : Nat) : run4 0 c 4 5 1 3 = .yes := by kernel_rfl
theorem y4513 (L c : Nat) : run4 (L + 1) c 4 5 1 3 = .yes := by kernel_rfl
theorem g4513 : ∀ (L c : Nat), run4 L c 4 5 1 3 = .yes
  | 0, c => x4513 c
  | L + 1, c => y4513 L c
theorem x4514 (c : Nat) : run4 0 c 4 5 1 4 = .yes := by kernel_rfl
theorem y4514 (L c : Nat) : run4 (L + 1) c 4 5 1 4 = .yes := by kernel_rfl
theorem g4514 : ∀ (L c : Nat), run4 L c 4 5 1 4 = .yes
  | 0, c => x4514 c
  | L + 1, c => y4514 L c
theorem x4515 (c : Nat) : run4 0 c 4 5 1 5 = .yes := by kernel_rfl
theorem y4515 (L c : Nat) : run4 (L + 1) c 4 5 1 5 = .yes := by kernel_rfl
theorem g4515 : ∀ (L c : Nat), run4 L c 4 5 1 5 = .yes
  | 0, c => x4515 c
  | L + 1, c => y4515 L c
theorem h451 (L c : Nat) : ∀ x, x < 6 → run4 L c 4 5 1 x = .yes
  | 0, _ => g4510 L c
  | 1, _ => g4511 L c
  | 2, _ => g4512 L c
  | 3, _ => g4513 L c
  | 4, _ => g4514 L c
  | 5, _ => g4515 L c
  | x + 6, h => absurd h (by omega)
theorem x4520 (c : Nat) : run4 0 c 4 5 2 0 = .yes := by kernel_rfl
theorem y4520 (L c : Nat) : run4 (L + 1) c 4 5 2 0 = .yes := by kernel_rfl
theorem g4520 : ∀ (L c : Nat), run4 L c 4 5 2 0 = .yes
  | 0, c => x4520 c
  | L + 1, c => y4520 L c
theorem x4521 (c : Nat) : run4 0 c 4 5 2 1 = .yes := by kernel_rfl
theorem y4521 (L c : Nat) : run4 (L + 1) c 4 5 2 1 = .yes := by kernel_rfl
theorem g4521 : ∀ (L c : Nat), run4 L c 4 5 2 1 = .yes
  | 0, c => x4521 c
  | L + 1, c => y4521 L c
theorem x4522 (c : Nat) : run4 0 c 4 5 2 2 = .yes := by kernel_rfl
theorem y4522 (L c : Nat) : run4 (L + 1) c 4 5 2 2 = .yes := by kernel_rfl
theorem g4522 : ∀ (L c : Nat), run4 L c 4 5 2 2 = .yes
  | 0, c => x4522 c
  | L + 1, c => y4522 L c
theorem x4523 (c : Nat) : run4 0 c 4 5 2 3 = .yes := by kernel_rfl
theorem y4523 (L c : Nat) : run4 (L + 1) c 4 5 2 3 = .yes := by kernel_rfl
theorem g4523 : ∀ (L c : Nat), run4 L c 4 5 2 3 = .yes
  | 0, c => x4523 c
  | L + 1, c => y4523 L c
theorem x4524 (c : Nat) : run4 0 c 4 5 2 4 = .yes := by kernel_rfl
theorem y4524 (L c : Nat) : run4 (L + 1) c 4 5 2 4 = .yes := by kernel_rfl
theorem g4524 : ∀ (L c : Nat), run4 L c 4 5 2 4 = .yes
  | 0, c => x4524 c
  | L + 1, c => y4524 L c
theorem x4525 (c : Nat) : run4 0 c 4 5 2 5 = .yes := by kernel_rfl
theorem y4525 (L c : Nat) : run4 (L + 1) c 4 5 2 5 = .yes := by kernel_rfl
theorem g4525 : ∀ (L c : Nat), run4 L c 4 5 2 5 = .yes
  | 0, c => x4525 c
  | L + 1, c => y4525 L c
theorem h452 (L c : Nat) : ∀ x, x < 6 → run4 L c 4 5 2 x = .yes
  | 0, _ => g4520 L c
  | 1, _ => g4521 L c
  | 2, _ => g4522 L c
  | 3, _ => g4523 L c
  | 4, _ => g4524 L c
  | 5, _ => g4525 L c
  | x + 6, h => absurd h (by omega)
theorem x4530 (c : Nat) : run4 0 c 4 5 3 0 = .yes := by kernel_rfl
theorem y4530 (L c : Nat) : run4 (L + 1) c 4 5 3 0 = .yes := by kernel_rfl
theorem g4530 : ∀ (L c : Nat), run4 L c 4 5 3 0 = .yes
  | 0, c => x4530 c
  | L + 1, c => y4530 L c
theorem x4531 (c : Nat) : run4 0 c 4 5 3 1 = .yes := by kernel_rfl
theorem y4531 (L c : Nat) : run4 (L + 1) c 4 5 3 1 = .yes := by kernel_rfl
theorem g4531 : ∀ (L c : Nat), run4 L c 4 5 3 1 = .yes
  | 0, c => x4531 c
  | L + 1, c => y4531 L c
theorem x4532 (c : Nat) : run4 0 c 4 5 3 2 = .yes := by kernel_rfl
theorem y4532 (L c : Nat) : run4 (L + 1) c 4 5 3 2 = .yes := by kernel_rfl
theorem g4532 : ∀ (L c : Nat), run4 L c 4 5 3 2 = .yes
  | 0, c => x4532 c
  | L + 1, c => y4532 L c
theorem x4533 (c : Nat) : run4 0 c 4 5 3 3 = .yes := by kernel_rfl
theorem y4533 (L c : Nat) : run4 (L + 1) c 4 5 3 3 = .yes := by kernel_rfl
theorem g4533 : ∀ (L c : Nat), run4 L c 4 5 3 3 = .yes
  | 0, c => x4533 c
  | L + 1, c => y4533 L c
theorem x4534 (c : Nat) : run4 0 c 4 5 3 4 = .yes := by kernel_rfl
theorem y4534 (L c : Nat) : run4 (L + 1) c 4 5 3 4 = .yes := by kernel_rfl
theorem g4534 : ∀ (L c : Nat), run4 L c 4 5 3 4 = .yes
  | 0, c => x4534 c
  | L + 1, c => y4534 L c
theorem x4535 (c : Nat) : run4 0 c 4 5 3 5 = .yes := by kernel_rfl
theorem y4535 (L c : Nat) : run4 (L + 1) c 4 5 3 5 = .yes := by kernel_rfl
theorem g4535 : ∀ (L c : Nat), run4 L c 4 5 3 5 = .yes
  | 0, c => x4535 c
  | L + 1, c => y4535 L c
theorem h453 (L c : Nat) : ∀ x, x < 6 → run4 L c 4 5 3 x = .yes
  | 0, _ => g4530 L c
  | 1, _ => g4531 L c
  | 2, _ => g4532 L c
  | 3, _ => g4533 L c
  | 4, _ => g4534 L c
  | 5, _ => g4535 L c
  | x + 6, h => absurd h (by omega)
theorem x4540 (c : Nat) : run4 0 c 4 5 4 0 = .yes := by kernel_rfl
theorem y4540 (L c : Nat) : run4 (L + 1) c 4 5 4 0 = .yes := by kernel_rfl
theorem g4540 : ∀ (L c : Nat), run4 L c 4 5 4 0 = .yes
  | 0, c => x4540 c
  | L + 1, c => y4540 L c
theorem x4541 (c : Nat) : run4 0 c 4 5 4 1 = .yes := by kernel_rfl
theorem y4541 (L c : Nat) : run4 (L + 1) c 4 5 4 1 = .yes := by kernel_rfl
theorem g4541 : ∀ (L c : Nat), run4 L c 4 5 4 1 = .yes
  | 0, c => x4541 c
  | L + 1, c => y4541 L c
theorem x4542 (c : Nat) : run4 0 c 4 5 4 2 = .yes := by kernel_rfl
theorem y4542 (L c : Nat) : run4 (L + 1) c 4 5 4 2 = .yes := by kernel_rfl
theorem g4542 : ∀ (L c : Nat), run4 L c 4 5 4 2 = .yes
  | 0, c => x4542 c
  | L + 1, c => y4542 L c
theorem x4543 (c : Nat) : run4 0 c 4 5 4 3 = .yes := by kernel_rfl
theorem y4543 (L c : Nat) : run4 (L + 1) c 4 5 4 3 = .yes := by kernel_rfl
theorem g4543 : ∀ (L c : Nat), run4 L c 4 5 4 3 = .yes
  | 0, c => x4543 c
  | L + 1, c => y4543 L c
theorem x4544 (c : Nat) : run4 0 c 4 5 4 4 = .yes := by kernel_rfl
theorem y4544 (L c : Nat) : run4 (L + 1) c 4 5 4 4 = .yes := by kernel_rfl
theorem g4544 : ∀ (L c : Nat), run4 L c 4 5 4 4 = .yes
  | 0, c => x4544 c
  | L + 1, c => y4544 L c
theorem x4545 (c : Nat) : run4 0 c 4 5 4 5 = .yes := by kernel_rfl
theorem y4545 (L c : Nat) : run4 (L + 1) c 4 5 4 5 = .yes := by kernel_rfl
theorem g4545 : ∀ (L c : Nat), run4 L c 4 5 4 5 = .yes
  | 0, c => x4545 c
  | L + 1, c => y4545 L c
theorem h454 (L c : Nat) : ∀ x, x < 6 → run4 L c 4 5 4 x = .yes
  | 0, _ => g4540 L c
  | 1, _ => g4541 L c
  | 2, _ => g4542 L c
  | 3, _ => g4543 L c
  | 4, _ => g4544 L c
  | 5, _ => g4545 L c
  | x + 6, h => absurd h (by omega)
theorem x4550 (c : Nat) : run4 0 c 4 5 5 0 = .yes := by kernel_rfl
theorem y4550 (L c : Nat) : run4 (L + 1) c 4 5 5 0 = .yes := by kernel_rfl
theorem g4550 : ∀ (L c : Nat), run4 L c 4 5 5 0 = .yes
  | 0, c => x4550 c
  | L + 1, c => y4550 L c
theorem x4551 (c : Nat) : run4 0 c 4 5 5 1 = .yes := by kernel_rfl
theorem y4551 (L c : Nat) : run4 (L + 1) c 4 5 5 1 = .yes := by kernel_rfl
theorem g4551 : ∀ (L c : Nat), run4 L c 4 5 5 1 = .yes
  | 0, c => x4551 c
  | L + 1, c => y4551 L c
theorem x4552 (c : Nat) : run4 0 c 4 5 5 2 = .yes := by kernel_rfl
theorem y4552 (L c : Nat) : run4 (L + 1) c 4 5 5 2 = .yes := by kernel_rfl
theorem g4552 : ∀ (L c : Nat), run4 L c 4 5 5 2 = .yes
  | 0, c => x4552 c
  | L + 1, c => y4552 L c
theorem x4553 (c : Nat) : run4 0 c 4 5 5 3 = .yes := by kernel_rfl
theorem y4553 (L c : Nat) : run4 (L + 1) c 4 5 5 3 = .yes := by kernel_rfl
theorem g4553 : ∀ (L c : Nat), run4 L c 4 5 5 3 = .yes
  | 0, c => x4553 c
  | L + 1, c => y4553 L c
theorem x4554 (c : Nat) : run4 0 c 4 5 5 4 = .yes := by kernel_rfl
theorem y4554 (L c : Nat) : run4 (L + 1) c 4 5 5 4 = .yes := by kernel_rfl
theorem g4554 : ∀ (L c : Nat), run4 L c 4 5 5 4 = .yes
  | 0, c => x4554 c
  | L + 1, c => y4554 L c
theorem x4555 (c : Nat) : run4 0 c 4 5 5 5 = .yes := by kernel_rfl
theorem y4555 (L c : Nat) : run4 (L + 1) c 4 5 5 5 = .yes := by kernel_rfl
theorem g4555 : ∀ (L c : Nat), run4 L c 4 5 5 5 = .yes
  | 0, c => x4555 c
  | L + 1, c => y4555 L c
theorem h455 (L c : Nat) : ∀ x, x < 6 → run4 L c 4 5 5 x = .yes
  | 0, _ => g4550 L c
  | 1, _ => g4551 L c
  | 2, _ => g4552 L c
  | 3, _ => g4553 L c
  | 4, _ => g4554 L c
  | 5, _ => g4555 L c
  | x + 6, h => absurd h (by omega)
theorem hh45 (L c : Nat) : ∀ x, x < 6 → ∀ y, y < 6 → run4 L c 4 5 x y = .yes
  | 0, _ => h450 L c
  | 1, _ => h451 L c
  | 2, _ => h452 L c
  | 3, _ => h453 L c
  | 4, _ => h454 L c
  | 5, _ => h455 L c
  | x + 6, h => absurd h (by omega)
theorem x1000 (c : Nat) : run4 0 c 1 0 0 0 = .yes := by kernel_rfl
theorem y1000 (L c : Nat) : run4 (L + 1) c 1 0 0 0 = .yes := by kernel_rfl
theorem g1000 : ∀ (L c : Nat), run4 L c 1 0 0 0 = .yes
  | 0, c => x1000 c
  | L + 1, c => y1000 L c
theorem x1001 (c : Nat) : run4 0 c 1 0 0 1 = .yes := by kernel_rfl
theorem y1001 (L c : Nat) : run4 (L + 1) c 1 0 0 1 = .yes := by kernel_rfl
theorem g1001 : ∀ (L c : Nat), run4 L c 1 0 0 1 = .yes
  | 0, c => x1001 c
  | L + 1, c => y1001 L c
theorem x1002 (c : Nat) : run4 0 c 1 0 0 2 = .yes := by kernel_rfl
theorem y1002 (L c : Nat) : run4 (L + 1) c 1 0 0 2 = .yes := by kernel_rfl
theorem g1002 : ∀ (L c : Nat), run4 L c 1 0 0 2 = .yes
  | 0, c => x1002 c
  | L + 1, c => y1002 L c
theorem x1003 (c : Nat) : run4 0 c 1 0 0 3 = .yes := by kernel_rfl
theorem y1003 (L c : Nat) : run4 (L + 1) c 1 0 0 3 = .yes := by kernel_rfl
theorem g1003 : ∀ (L c : Nat), run4 L c 1 0 0 3 = .yes
  | 0, c => x1003 c
  | L + 1, c => y1003 L c
theorem x1004 (c : Nat) : run4 0 c 1 0 0 4 = .yes := by kernel_rfl
theorem y1004 (L c : Nat) : run4 (L + 1) c 1 0 0 4 = .yes := by kernel_rfl
theorem g1004 : ∀ (L c : Nat), run4 L c 1 0 0 4 = .yes
  | 0, c => x1004 c
  | L + 1, c => y1004 L c
theorem x1005 (c : Nat) : run4 0 c 1 0 0 5 = .yes := by kernel_rfl
theorem y1005 (L c : Nat) : run4 (L + 1) c 1 0 0 5 = .yes := by kernel_rfl
theorem g1005 : ∀ (L c : Nat), run4 L c 1 0 0 5 = .yes
  | 0, c => x1005 c
  | L + 1, c => y1005 L c
theorem h100 (L c : Nat) : ∀ x, x < 6 → run4 L c 1 0 0 x = .yes
  | 0, _ => g1000 L c
  | 1, _ => g1001 L c
  | 2, _ => g1002 L c
  | 3, _ => g1003 L c
  | 4, _ => g1004 L c
  | 5, _ => g1005 L c
  | x + 6, h => absurd h (by omega)
theorem x1010 (c : Nat) : run4 0 c 1 0 1 0 = .yes := by kernel_rfl
theorem y1010 (L c : Nat) : run4 (L + 1) c 1 0 1 0 = .yes := by kernel_rfl
theorem g1010 : ∀ (L c : Nat), run4 L c 1 0 1 0 = .yes
  | 0, c => x1010 c
  | L + 1, c => y1010 L c
theorem x1011 (c : Nat) : run4 0 c 1 0 1 1 = .yes := by kernel_rfl
theorem y1011 (L c : Nat) : run4 (L + 1) c 1 0 1 1 = .yes := by kernel_rfl
theorem g1011 : ∀ (L c : Nat), run4 L c 1 0 1 1 = .yes
  | 0, c => x1011 c
  | L + 1, c => y1011 L c
theorem x1012 (c : Nat) : run4 0 c 1 0 1 2 = .yes := by kernel_rfl
theorem y1012 (L c : Nat) : run4 (L + 1) c 1 0 1 2 = .yes := by kernel_rfl
theorem g1012 : ∀ (L c : Nat), run4 L c 1 0 1 2 = .yes
  | 0, c => x1012 c
  | L + 1, c => y1012 L c
theorem x1013 (c : Nat) : run4 0 c 1 0 1 3 = .yes := by kernel_rfl
theorem y1013 (L c : Nat) : run4 (L + 1) c 1 0 1 3 = .yes := by kernel_rfl
theorem g1013 : ∀ (L c : Nat), run4 L c 1 0 1 3 = .yes
  | 0, c => x1013 c
  | L + 1, c => y1013 L c
theorem x1014 (c : Nat) : run4 0 c 1 0 1 4 = .yes := by kernel_rfl
theorem y1014 (L c : Nat) : run4 (L + 1) c 1 0 1 4 = .yes := by kernel_rfl
theorem g1014 : ∀ (L c : Nat), run4 L c 1 0 1 4 = .yes
  | 0, c => x1014 c
  | L + 1, c => y1014 L c
theorem x1015 (c : Nat) : run4 0 c 1 0 1 5 = .yes := by kernel_rfl
theorem y1015 (L c : Nat) : run4 (L + 1) c 1 0 1 5 = .yes := by kernel_rfl
theorem g1015 : ∀ (L c : Nat), run4 L c 1 0 1 5 = .yes
  | 0, c => x1015 c
  | L + 1, c => y1015 L c
theorem h101 (L c : Nat) : ∀ x, x < 6 → run4 L c 1 0 1 x = .yes
  | 0, _ => g1010 L c
  | 1, _ => g1011 L c
  | 2, _ => g1012 L c
  | 3, _ => g1013 L c
  | 4, _ => g1014 L c
  | 5, _ => g1015 L c
  | x + 6, h => absurd h (by omega)
theorem x1020 (c : Nat) : run4 0 c 1 0 2 0 = .yes := by kernel_rfl
theorem y1020 (L c : Nat) : run4 (L + 1) c 1 0 2 0 = .yes := by kernel_rfl
theorem g1020 : ∀ (L c : Nat), run4 L c 1 0 2 0 = .yes
  | 0, c => x1020 c
  | L + 1, c => y1020 L c
theorem x1021 (c : Nat) : run4 0 c 1 0 2 1 = .yes := by kernel_rfl
theorem y1021 (L c : Nat) : run4 (L + 1) c 1 0 2 1 = .yes := by kernel_rfl
theorem g1021 : ∀ (L c : Nat), run4 L c 1 0 2 1 = .yes
  | 0, c => x1021 c
  | L + 1, c => y1021 L c
theorem x1022 (c : Nat) : run4 0 c 1 0 2 2 = .yes := by kernel_rfl
theorem y1022 (L c : Nat) : run4 (L + 1) c 1 0 2 2 = .yes := by kernel_rfl
theorem g1022 : ∀ (L c : Nat), run4 L c 1 0 2 2 = .yes
  | 0, c => x1022 c
  | L + 1, c => y1022 L c
theorem x1023 (c : Nat) : run4 0 c 1 0 2 3 = .yes := by kernel_rfl
theorem y1023 (L c : Nat) : run4 (L + 1) c 1 0 2 3 = .yes := by kernel_rfl
theorem g1023 : ∀ (L c : Nat), run4 L c 1 0 2 3 = .yes
  | 0, c => x1023 c
  | L + 1, c => y1023 L c
theorem x1024 (c : Nat) : run4 0 c 1 0 2 4 = .yes := by kernel_rfl
theorem y1024 (L c : Nat) : run4 (L + 1) c 1 0 2 4 = .yes := by kernel_rfl
theorem g1024 : ∀ (L c : Nat), run4 L c 1 0 2 4 = .yes
  | 0, c => x1024 c
  | L + 1, c => y1024 L c
theorem x1025 (c : Nat) : run4 0 c 1 0 2 5 = .yes := by kernel_rfl
theorem y1025 (L c : Nat) : run4 (L + 1) c 1 0 2 5 = .yes := by kernel_rfl
theorem g1025 : ∀ (L c : Nat), run4 L c 1 0 2 5 = .yes
  | 0, c => x1025 c
  | L + 1, c => y1025 L c
theorem h102 (L c : Nat) : ∀ x, x < 6 → run4 L c 1 0 2 x = .yes
  | 0, _ => g1020 L c
  | 1, _ => g1021 L c
  | 2, _ => g1022 L c
  | 3, _ => g1023 L c
  | 4, _ => g1024 L c
  | 5, _ => g1025 L c
  | x + 6, h => absurd h (by omega)
theorem x1030 (c : Nat) : run4 0 c 1 0 3 0 = .yes := by kernel_rfl
theorem y1030 (L c : Nat) : run4 (L + 1) c 1 0 3 0 = .yes := by kernel_rfl
theorem g1030 : ∀ (L c : Nat), run4 L c 1 0 3 0 = .yes
  | 0, c => x1030 c
  | L + 1, c => y1030 L c
theorem x1031 (c : Nat) : run4 0 c 1 0 3 1 = .yes := by kernel_rfl
theorem y1031 (L c : Nat) : run4 (L + 1) c 1 0 3 1 = .yes := by kernel_rfl
theorem g1031 : ∀ (L c : Nat), run4 L c 1 0 3 1 = .yes
  | 0, c => x1031 c
  | L + 1, c => y1031 L c
theorem x1032 (c : Nat) : run4 0 c 1 0 3 2 = .yes := by kernel_rfl
theorem y1032 (L c : Nat) : run4 (L + 1) c 1 0 3 2 = .yes := by kernel_rfl
theorem g1032 : ∀ (L c : Nat), run4 L c 1 0 3 2 = .yes
  | 0, c => x1032 c
  | L + 1, c => y1032 L c
theorem x1033 (c : Nat) : run4 0 c 1 0 3 3 = .yes := by kernel_rfl
theorem y1033 (L c : Nat) : run4 (L + 1) c 1 0 3 3 = .yes := by kernel_rfl
theorem g1033 : ∀ (L c : Nat), run4 L c 1 0 3 3 = .yes
  | 0, c => x1033 c
  | L + 1, c => y1033 L c
theorem x1034 (c : Nat) : run4 0 c 1 0 3 4 = .yes := by kernel_rfl
theorem y1034 (L c : Nat) : run4 (L + 1) c 1 0 3 4 = .yes := by kernel_rfl
theorem g1034 : ∀ (L c : Nat), run4 L c 1 0 3 4 = .yes
  | 0, c => x1034 c
  | L + 1, c => y1034 L c
theorem x1035 (c : Nat) : run4 0 c 1 0 3 5 = .yes := by kernel_rfl
theorem y1035 (L c : Nat) : run4 (L + 1) c 1 0 3 5 = .yes := by kernel_rfl
theorem g1035 : ∀ (L c : Nat), run4 L c 1 0 3 5 = .yes
  | 0, c => x1035 c
  | L + 1, c => y1035 L c
theorem h103 (L c : Nat) : ∀ x, x < 6 → run4 L c 1 0 3 x = .yes
  | 0, _ => g1030 L c
  | 1, _ => g1031 L c
  | 2, _ => g1032 L c
  | 3, _ => g1033 L c
  | 4, _ => g1034 L c
  | 5, _ => g1035 L c
  | x + 6, h => absurd h (by omega)
theorem x1040 (c : Nat) : run4 0 c 1 0 4 0 = .yes := by kernel_rfl
theorem y1040 (L c : Nat) : run4 (L + 1) c 1 0 4 0 = .yes := by kernel_rfl
theorem g1040 : ∀ (L c : Nat), run4 L c 1 0 4 0 = .yes
  | 0, c => x1040 c
  | L + 1, c => y1040 L c
theorem x1041 (c : Nat) : run4 0 c 1 0 4 1 = .yes := by kernel_rfl
theorem y1041 (L c : Nat) : run4 (L + 1) c 1 0 4 1 = .yes := by kernel_rfl
theorem g1041 : ∀ (L c : Nat), run4 L c 1 0 4 1 = .yes
  | 0, c => x1041 c
  | L + 1, c => y1041 L c
theorem x1042 (c : Nat) : run4 0 c 1 0 4 2 = .yes := by kernel_rfl
theorem y1042 (L c : Nat) : run4 (L + 1) c 1 0 4 2 = .yes := by kernel_rfl
theorem g1042 : ∀ (L c : Nat), run4 L c 1 0 4 2 = .yes
  | 0, c => x1042 c
  | L + 1, c => y1042 L c
theorem x1043 (c : Nat) : run4 0 c 1 0 4 3 = .yes := by kernel_rfl
theorem y1043 (L c : Nat) : run4 (L + 1) c 1 0 4 3 = .yes := by kernel_rfl
theorem g1043 : ∀ (L c : Nat), run4 L c 1 0 4 3 = .yes
  | 0, c => x1043 c
  | L + 1, c => y1043 L c
theorem x1044 (c : Nat) : run4 0 c 1 0 4 4 = .yes := by kernel_rfl
theorem y1044 (L c : Nat) : run4 (L + 1) c 1 0 4 4 = .yes := by kernel_rfl
theorem g1044 : ∀ (L c : Nat), run4 L c 1 0 4 4 = .yes
  | 0, c => x1044 c
  | L + 1, c => y1044 L c
theorem x1045 (c : Nat) : run4 0 c 1 0 4 5 = .yes := by kernel_rfl
theorem y1045 (L c : Nat) : run4 (L + 1) c 1 0 4 5 = .yes := by kernel_rfl
theorem g1045 : ∀ (L c : Nat), run4 L c 1 0 4 5 = .yes
  | 0, c => x1045 c
  | L + 1, c => y1045 L c
theorem h104 (L c : Nat) : ∀ x, x < 6 → run4 L c 1 0 4 x = .yes
  | 0, _ => g1040 L c
  | 1, _ => g1041 L c
  | 2, _ => g1042 L c
  | 3, _ => g1043 L c
  | 4, _ => g1044 L c
  | 5, _ => g1045 L c
  | x + 6, h => absurd h (by omega)
theorem x1050 (c : Nat) : run4 0 c 1 0 5 0 = .yes := by kernel_rfl
theorem y1050 (L c : Nat) : run4 (L + 1) c 1 0 5 0 = .yes := by kernel_rfl
theorem g1050 : ∀ (L c : Nat), run4 L c 1 0 5 0 = .yes
  | 0, c => x1050 c
  | L + 1, c => y1050 L c
theorem x1051 (c : Nat) : run4 0 c 1 0 5 1 = .yes := by kernel_rfl
theorem y1051 (L c : Nat) : run4 (L + 1) c 1 0 5 1 = .yes := by kernel_rfl
theorem g1051 : ∀ (L c : Nat), run4 L c 1 0 5 1 = .yes
  | 0, c => x1051 c
  | L + 1, c => y1051 L c
theorem x1052 (c : Nat) : run4 0 c 1 0 5 2 = .yes := by kernel_rfl
theorem y1052 (L c : Nat) : run4 (L + 1) c 1 0 5 2 = .yes := by kernel_rfl
theorem g1052 : ∀ (L c : Nat), run4 L c 1 0 5 2 = .yes
  | 0, c => x1052 c
  | L + 1, c => y1052 L c
theorem x1053 (c : Nat) : run4 0 c 1 0 5 3 = .yes := by kernel_rfl
theorem y1053 (L c : Nat) : run4 (L + 1) c 1 0 5 3 = .yes := by kernel_rfl
theorem g1053 : ∀ (L c : Nat), run4 L c 1 0 5 3 = .yes
  | 0, c => x1053 c
  | L + 1, c => y1053 L c
theorem x1054 (c : Nat) : run4 0 c 1 0 5 4 = .yes := by kernel_rfl
theorem y1054 (L c : Nat) : run4 (L + 1) c 1 0 5 4 = .yes := by kernel_rfl
theorem g1054 : ∀ (L c : Nat), run4 L c 1 0 5 4 = .yes
  | 0, c => x1054 c
  | L + 1, c => y1054 L c
theorem x1055 (c : Nat) : run4 0 c 1 0 5 5 = .yes := by kernel_rfl
theorem y1055 (L c : Nat) : run4 (L + 1) c 1 0 5 5 = .yes := by kernel_rfl
theorem g1055 : ∀ (L c : Nat), run4 L c 1 0 5 5 = .yes
  | 0, c => x1055 c
  | L + 1, c => y1055 L c
theorem h105 (L c : Nat) : ∀ x, x < 6 → run4 L c 1 0 5 x = .yes
  | 0, _ => g1050 L c
  | 1, _ => g1051 L c
  | 2, _ => g1052 L c
  | 3, _ => g1053 L c
  | 4, _ => g1054 L c
  | 5, _ => g1055 L c
  | x + 6, h => absurd h (by omega)
theorem hh10 (L c : Nat) : ∀ x, x < 6 → ∀ y, y < 6 → run4 L c 1 0 x y = .yes
  | 0, _ => h100 L c
  | 1, _ => h101 L c
  | 2, _ => h102 L c
  | 3, _ => h103 L c
  | 4, _ => h104 L c
  | 5, _ => h105 L c
  | x + 6, h => absurd h (by omega)
end Go.Proofs.YtojbfaigebpnpaaDoor.ecoThreadsq
