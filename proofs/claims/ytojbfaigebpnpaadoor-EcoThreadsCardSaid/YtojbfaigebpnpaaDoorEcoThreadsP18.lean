/-
  The law EcoThreads at some of its cases: the run over the program ends in true. Conditions: none; these are closed facts.
-/
import Derived.Test.YtojbfaigebpnpaaDoorEcoThreadsA
namespace Go.Proofs.YtojbfaigebpnpaaDoor.ecoThreadsq
open Go.Rn Go.RowKit YtojbfaigebpnpaaDoor.txt
set_option maxHeartbeats 400000000
theorem x0500 (c : Nat) : run4 0 c 0 5 0 0 = .yes := by kernel_rfl
theorem y0500 (L c : Nat) : run4 (L + 1) c 0 5 0 0 = .yes := by kernel_rfl
theorem g0500 : ∀ (L c : Nat), run4 L c 0 5 0 0 = .yes
  | 0, c => x0500 c
  | L + 1, c => y0500 L c
theorem x0501 (c : Nat) : run4 0 c 0 5 0 1 = .yes := by kernel_rfl
theorem y0501 (L c : Nat) : run4 (L + 1) c 0 5 0 1 = .yes := by kernel_rfl
theorem g0501 : ∀ (L c : Nat), run4 L c 0 5 0 1 = .yes
  | 0, c => x0501 c
  | L + 1, c => y0501 L c
theorem x0502 (c : Nat) : run4 0 c 0 5 0 2 = .yes := by kernel_rfl
theorem y0502 (L c : Nat) : run4 (L + 1) c 0 5 0 2 = .yes := by kernel_rfl
theorem g0502 : ∀ (L c : Nat), run4 L c 0 5 0 2 = .yes
  | 0, c => x0502 c
  | L + 1, c => y0502 L c
theorem x0503 (c : Nat) : run4 0 c 0 5 0 3 = .yes := by kernel_rfl
theorem y0503 (L c : Nat) : run4 (L + 1) c 0 5 0 3 = .yes := by kernel_rfl
theorem g0503 : ∀ (L c : Nat), run4 L c 0 5 0 3 = .yes
  | 0, c => x0503 c
  | L + 1, c => y0503 L c
theorem x0504 (c : Nat) : run4 0 c 0 5 0 4 = .yes := by kernel_rfl
theorem y0504 (L c : Nat) : run4 (L + 1) c 0 5 0 4 = .yes := by kernel_rfl
theorem g0504 : ∀ (L c : Nat), run4 L c 0 5 0 4 = .yes
  | 0, c => x0504 c
  | L + 1, c => y0504 L c
theorem x0505 (c : Nat) : run4 0 c 0 5 0 5 = .yes := by kernel_rfl
theorem y0505 (L c : Nat) : run4 (L + 1) c 0 5 0 5 = .yes := by kernel_rfl
theorem g0505 : ∀ (L c : Nat), run4 L c 0 5 0 5 = .yes
  | 0, c => x0505 c
  | L + 1, c => y0505 L c
theorem h050 (L c : Nat) : ∀ x, x < 6 → run4 L c 0 5 0 x = .yes
  | 0, _ => g0500 L c
  | 1, _ => g0501 L c
  | 2, _ => g0502 L c
  | 3, _ => g0503 L c
  | 4, _ => g0504 L c
  | 5, _ => g0505 L c
  | x + 6, h => absurd h (by omega)
theorem x0510 (c : Nat) : run4 0 c 0 5 1 0 = .yes := by kernel_rfl
theorem y0510 (L c : Nat) : run4 (L + 1) c 0 5 1 0 = .yes := by kernel_rfl
theorem g0510 : ∀ (L c : Nat), run4 L c 0 5 1 0 = .yes
  | 0, c => x0510 c
  | L + 1, c => y0510 L c
theorem x0511 (c : Nat) : run4 0 c 0 5 1 1 = .yes := by kernel_rfl
theorem y0511 (L c : Nat) : run4 (L + 1) c 0 5 1 1 = .yes := by kernel_rfl
theorem g0511 : ∀ (L c : Nat), run4 L c 0 5 1 1 = .yes
  | 0, c => x0511 c
  | L + 1, c => y0511 L c
theorem x0512 (c : Nat) : run4 0 c 0 5 1 2 = .yes := by kernel_rfl
theorem y0512 (L c : Nat) : run4 (L + 1) c 0 5 1 2 = .yes := by kernel_rfl
theorem g0512 : ∀ (L c : Nat), run4 L c 0 5 1 2 = .yes
  | 0, c => x0512 c
  | L + 1, c => y0512 L c
theorem x0513 (c : Nat) : run4 0 c 0 5 1 3 = .yes := by kernel_rfl
theorem y0513 (L c : Nat) : run4 (L + 1) c 0 5 1 3 = .yes := by kernel_rfl
theorem g0513 : ∀ (L c : Nat), run4 L c 0 5 1 3 = .yes
  | 0, c => x0513 c
  | L + 1, c => y0513 L c
theorem x0514 (c : Nat) : run4 0 c 0 5 1 4 = .yes := by kernel_rfl
theorem y0514 (L c : Nat) : run4 (L + 1) c 0 5 1 4 = .yes := by kernel_rfl
theorem g0514 : ∀ (L c : Nat), run4 L c 0 5 1 4 = .yes
  | 0, c => x0514 c
  | L + 1, c => y0514 L c
theorem x0515 (c : Nat) : run4 0 c 0 5 1 5 = .yes := by kernel_rfl
theorem y0515 (L c : Nat) : run4 (L + 1) c 0 5 1 5 = .yes := by kernel_rfl
theorem g0515 : ∀ (L c : Nat), run4 L c 0 5 1 5 = .yes
  | 0, c => x0515 c
  | L + 1, c => y0515 L c
theorem h051 (L c : Nat) : ∀ x, x < 6 → run4 L c 0 5 1 x = .yes
  | 0, _ => g0510 L c
  | 1, _ => g0511 L c
  | 2, _ => g0512 L c
  | 3, _ => g0513 L c
  | 4, _ => g0514 L c
  | 5, _ => g0515 L c
  | x + 6, h => absurd h (by omega)
theorem x0520 (c : Nat) : run4 0 c 0 5 2 0 = .yes := by kernel_rfl
theorem y0520 (L c : Nat) : run4 (L + 1) c 0 5 2 0 = .yes := by kernel_rfl
theorem g0520 : ∀ (L c : Nat), run4 L c 0 5 2 0 = .yes
  | 0, c => x0520 c
  | L + 1, c => y0520 L c
theorem x0521 (c : Nat) : run4 0 c 0 5 2 1 = .yes := by kernel_rfl
theorem y0521 (L c : Nat) : run4 (L + 1) c 0 5 2 1 = .yes := by kernel_rfl
theorem g0521 : ∀ (L c : Nat), run4 L c 0 5 2 1 = .yes
  | 0, c => x0521 c
  | L + 1, c => y0521 L c
theorem x0522 (c : Nat) : run4 0 c 0 5 2 2 = .yes := by kernel_rfl
theorem y0522 (L c : Nat) : run4 (L + 1) c 0 5 2 2 = .yes := by kernel_rfl
theorem g0522 : ∀ (L c : Nat), run4 L c 0 5 2 2 = .yes
  | 0, c => x0522 c
  | L + 1, c => y0522 L c
theorem x0523 (c : Nat) : run4 0 c 0 5 2 3 = .yes := by kernel_rfl
theorem y0523 (L c : Nat) : run4 (L + 1) c 0 5 2 3 = .yes := by kernel_rfl
theorem g0523 : ∀ (L c : Nat), run4 L c 0 5 2 3 = .yes
  | 0, c => x0523 c
  | L + 1, c => y0523 L c
theorem x0524 (c : Nat) : run4 0 c 0 5 2 4 = .yes := by kernel_rfl
theorem y0524 (L c : Nat) : run4 (L + 1) c 0 5 2 4 = .yes := by kernel_rfl
theorem g0524 : ∀ (L c : Nat), run4 L c 0 5 2 4 = .yes
  | 0, c => x0524 c
  | L + 1, c => y0524 L c
theorem x0525 (c : Nat) : run4 0 c 0 5 2 5 = .yes := by kernel_rfl
theorem y0525 (L c : Nat) : run4 (L + 1) c 0 5 2 5 = .yes := by kernel_rfl
theorem g0525 : ∀ (L c : Nat), run4 L c 0 5 2 5 = .yes
  | 0, c => x0525 c
  | L + 1, c => y0525 L c
theorem h052 (L c : Nat) : ∀ x, x < 6 → run4 L c 0 5 2 x = .yes
  | 0, _ => g0520 L c
  | 1, _ => g0521 L c
  | 2, _ => g0522 L c
  | 3, _ => g0523 L c
  | 4, _ => g0524 L c
  | 5, _ => g0525 L c
  | x + 6, h => absurd h (by omega)
theorem x0530 (c : Nat) : run4 0 c 0 5 3 0 = .yes := by kernel_rfl
theorem y0530 (L c : Nat) : run4 (L + 1) c 0 5 3 0 = .yes := by kernel_rfl
theorem g0530 : ∀ (L c : Nat), run4 L c 0 5 3 0 = .yes
  | 0, c => x0530 c
  | L + 1, c => y0530 L c
theorem x0531 (c : Nat) : run4 0 c 0 5 3 1 = .yes := by kernel_rfl
theorem y0531 (L c : Nat) : run4 (L + 1) c 0 5 3 1 = .yes := by kernel_rfl
theorem g0531 : ∀ (L c : Nat), run4 L c 0 5 3 1 = .yes
  | 0, c => x0531 c
  | L + 1, c => y0531 L c
theorem x0532 (c : Nat) : run4 0 c 0 5 3 2 = .yes := by kernel_rfl
theorem y0532 (L c : Nat) : run4 (L + 1) c 0 5 3 2 = .yes := by kernel_rfl
theorem g0532 : ∀ (L c : Nat), run4 L c 0 5 3 2 = .yes
  | 0, c => x0532 c
  | L + 1, c => y0532 L c
theorem x0533 (c : Nat) : run4 0 c 0 5 3 3 = .yes := by kernel_rfl
theorem y0533 (L c : Nat) : run4 (L + 1) c 0 5 3 3 = .yes := by kernel_rfl
theorem g0533 : ∀ (L c : Nat), run4 L c 0 5 3 3 = .yes
  | 0, c => x0533 c
  | L + 1, c => y0533 L c
theorem x0534 (c : Nat) : run4 0 c 0 5 3 4 = .yes := by kernel_rfl
theorem y0534 (L c : Nat) : run4 (L + 1) c 0 5 3 4 = .yes := by kernel_rfl
theorem g0534 : ∀ (L c : Nat), run4 L c 0 5 3 4 = .yes
  | 0, c => x0534 c
  | L + 1, c => y0534 L c
theorem x0535 (c : Nat) : run4 0 c 0 5 3 5 = .yes := by kernel_rfl
theorem y0535 (L c : Nat) : run4 (L + 1) c 0 5 3 5 = .yes := by kernel_rfl
theorem g0535 : ∀ (L c : Nat), run4 L c 0 5 3 5 = .yes
  | 0, c => x0535 c
  | L + 1, c => y0535 L c
theorem h053 (L c : Nat) : ∀ x, x < 6 → run4 L c 0 5 3 x = .yes
  | 0, _ => g0530 L c
  | 1, _ => g0531 L c
  | 2, _ => g0532 L c
  | 3, _ => g0533 L c
  | 4, _ => g0534 L c
  | 5, _ => g0535 L c
  | x + 6, h => absurd h (by omega)
theorem x0540 (c : Nat) : run4 0 c 0 5 4 0 = .yes := by kernel_rfl
theorem y0540 (L c : Nat) : run4 (L + 1) c 0 5 4 0 = .yes := by kernel_rfl
theorem g0540 : ∀ (L c : Nat), run4 L c 0 5 4 0 = .yes
  | 0, c => x0540 c
  | L + 1, c => y0540 L c
theorem x0541 (c : Nat) : run4 0 c 0 5 4 1 = .yes := by kernel_rfl
theorem y0541 (L c : Nat) : run4 (L + 1) c 0 5 4 1 = .yes := by kernel_rfl
theorem g0541 : ∀ (L c : Nat), run4 L c 0 5 4 1 = .yes
  | 0, c => x0541 c
  | L + 1, c => y0541 L c
theorem x0542 (c : Nat) : run4 0 c 0 5 4 2 = .yes := by kernel_rfl
theorem y0542 (L c : Nat) : run4 (L + 1) c 0 5 4 2 = .yes := by kernel_rfl
theorem g0542 : ∀ (L c : Nat), run4 L c 0 5 4 2 = .yes
  | 0, c => x0542 c
  | L + 1, c => y0542 L c
theorem x0543 (c : Nat) : run4 0 c 0 5 4 3 = .yes := by kernel_rfl
theorem y0543 (L c : Nat) : run4 (L + 1) c 0 5 4 3 = .yes := by kernel_rfl
theorem g0543 : ∀ (L c : Nat), run4 L c 0 5 4 3 = .yes
  | 0, c => x0543 c
  | L + 1, c => y0543 L c
theorem x0544 (c : Nat) : run4 0 c 0 5 4 4 = .yes := by kernel_rfl
theorem y0544 (L c : Nat) : run4 (L + 1) c 0 5 4 4 = .yes := by kernel_rfl
theorem g0544 : ∀ (L c : Nat), run4 L c 0 5 4 4 = .yes
  | 0, c => x0544 c
  | L + 1, c => y0544 L c
theorem x0545 (c : Nat) : run4 0 c 0 5 4 5 = .yes := by kernel_rfl
theorem y0545 (L c : Nat) : run4 (L + 1) c 0 5 4 5 = .yes := by kernel_rfl
theorem g0545 : ∀ (L c : Nat), run4 L c 0 5 4 5 = .yes
  | 0, c => x0545 c
  | L + 1, c => y0545 L c
theorem h054 (L c : Nat) : ∀ x, x < 6 → run4 L c 0 5 4 x = .yes
  | 0, _ => g0540 L c
  | 1, _ => g0541 L c
  | 2, _ => g0542 L c
  | 3, _ => g0543 L c
  | 4, _ => g0544 L c
  | 5, _ => g0545 L c
  | x + 6, h => absurd h (by omega)
theorem x0550 (c : Nat) : run4 0 c 0 5 5 0 = .yes := by kernel_rfl
theorem y0550 (L c : Nat) : run4 (L + 1) c 0 5 5 0 = .yes := by kernel_rfl
theorem g0550 : ∀ (L c : Nat), run4 L c 0 5 5 0 = .yes
  | 0, c => x0550 c
  | L + 1, c => y0550 L c
theorem x0551 (c : Nat) : run4 0 c 0 5 5 1 = .yes := by kernel_rfl
theorem y0551 (L c : Nat) : run4 (L + 1) c 0 5 5 1 = .yes := by kernel_rfl
theorem g0551 : ∀ (L c : Nat), run4 L c 0 5 5 1 = .yes
  | 0, c => x0551 c
  | L + 1, c => y0551 L c
theorem x0552 (c : Nat) : run4 0 c 0 5 5 2 = .yes := by kernel_rfl
theorem y0552 (L c : Nat) : run4 (L + 1) c 0 5 5 2 = .yes := by kernel_rfl
theorem g0552 : ∀ (L c : Nat), run4 L c 0 5 5 2 = .yes
  | 0, c => x0552 c
  | L + 1, c => y0552 L c
theorem x0553 (c : Nat) : run4 0 c 0 5 5 3 = .yes := by kernel_rfl
theorem y0553 (L c : Nat) : run4 (L + 1) c 0 5 5 3 = .yes := by kernel_rfl
theorem g0553 : ∀ (L c : Nat), run4 L c 0 5 5 3 = .yes
  | 0, c => x0553 c
  | L + 1, c => y0553 L c
theorem x0554 (c : Nat) : run4 0 c 0 5 5 4 = .yes := by kernel_rfl
theorem y0554 (L c : Nat) : run4 (L + 1) c 0 5 5 4 = .yes := by kernel_rfl
theorem g0554 : ∀ (L c : Nat), run4 L c 0 5 5 4 = .yes
  | 0, c => x0554 c
  | L + 1, c => y0554 L c
theorem x0555 (c : Nat) : run4 0 c 0 5 5 5 = .yes := by kernel_rfl
theorem y0555 (L c : Nat) : run4 (L + 1) c 0 5 5 5 = .yes := by kernel_rfl
theorem g0555 : ∀ (L c : Nat), run4 L c 0 5 5 5 = .yes
  | 0, c => x0555 c
  | L + 1, c => y0555 L c
theorem h055 (L c : Nat) : ∀ x, x < 6 → run4 L c 0 5 5 x = .yes
  | 0, _ => g0550 L c
  | 1, _ => g0551 L c
  | 2, _ => g0552 L c
  | 3, _ => g0553 L c
  | 4, _ => g0554 L c
  | 5, _ => g0555 L c
  | x + 6, h => absurd h (by omega)
theorem hh05 (L c : Nat) : ∀ x, x < 6 → ∀ y, y < 6 → run4 L c 0 5 x y = .yes
  | 0, _ => h050 L c
  | 1, _ => h051 L c
  | 2, _ => h052 L c
  | 3, _ => h053 L c
  | 4, _ => h054 L c
  | 5, _ => h055 L c
  | x + 6, h => absurd h (by omega)
theorem x5000 (c : Nat) : run4 0 c 5 0 0 0 = .yes := by kernel_rfl
theorem y5000 (L c : Nat) : run4 (L + 1) c 5 0 0 0 = .yes := by kernel_rfl
theorem g5000 : ∀ (L c : Nat), run4 L c 5 0 0 0 = .yes
  | 0, c => x5000 c
  | L + 1, c => y5000 L c
theorem x5001 (c : Nat) : run4 0 c 5 0 0 1 = .yes := by kernel_rfl
theorem y5001 (L c : Nat) : run4 (L + 1) c 5 0 0 1 = .yes := by kernel_rfl
theorem g5001 : ∀ (L c : Nat), run4 L c 5 0 0 1 = .yes
  | 0, c => x5001 c
  | L + 1, c => y5001 L c
theorem x5002 (c : Nat) : run4 0 c 5 0 0 2 = .yes := by kernel_rfl
theorem y5002 (L c : Nat) : run4 (L + 1) c 5 0 0 2 = .yes := by kernel_rfl
theorem g5002 : ∀ (L c : Nat), run4 L c 5 0 0 2 = .yes
  | 0, c => x5002 c
  | L + 1, c => y5002 L c
theorem x5003 (c : Nat) : run4 0 c 5 0 0 3 = .yes := by kernel_rfl
theorem y5003 (L c : Nat) : run4 (L + 1) c 5 0 0 3 = .yes := by kernel_rfl
theorem g5003 : ∀ (L c : Nat), run4 L c 5 0 0 3 = .yes
  | 0, c => x5003 c
  | L + 1, c => y5003 L c
theorem x5004 (c : Nat) : run4 0 c 5 0 0 4 = .yes := by kernel_rfl
theorem y5004 (L c : Nat) : run4 (L + 1) c 5 0 0 4 = .yes := by kernel_rfl
theorem g5004 : ∀ (L c : Nat), run4 L c 5 0 0 4 = .yes
  | 0, c => x5004 c
  | L + 1, c => y5004 L c
theorem x5005 (c : Nat) : run4 0 c 5 0 0 5 = .yes := by kernel_rfl
theorem y5005 (L c : Nat) : run4 (L + 1) c 5 0 0 5 = .yes := by kernel_rfl
theorem g5005 : ∀ (L c : Nat), run4 L c 5 0 0 5 = .yes
  | 0, c => x5005 c
  | L + 1, c => y5005 L c
theorem h500 (L c : Nat) : ∀ x, x < 6 → run4 L c 5 0 0 x = .yes
  | 0, _ => g5000 L c
  | 1, _ => g5001 L c
  | 2, _ => g5002 L c
  | 3, _ => g5003 L c
  | 4, _ => g5004 L c
  | 5, _ => g5005 L c
  | x + 6, h => absurd h (by omega)
theorem x5010 (c : Nat) : run4 0 c 5 0 1 0 = .yes := by kernel_rfl
theorem y5010 (L c : Nat) : run4 (L + 1) c 5 0 1 0 = .yes := by kernel_rfl
theorem g5010 : ∀ (L c : Nat), run4 L c 5 0 1 0 = .yes
  | 0, c => x5010 c
  | L + 1, c => y5010 L c
theorem x5011 (c : Nat) : run4 0 c 5 0 1 1 = .yes := by kernel_rfl
theorem y5011 (L c : Nat) : run4 (L + 1) c 5 0 1 1 = .yes := by kernel_rfl
theorem g5011 : ∀ (L c : Nat), run4 L c 5 0 1 1 = .yes
  | 0, c => x5011 c
  | L + 1, c => y5011 L c
theorem x5012 (c : Nat) : run4 0 c 5 0 1 2 = .yes := by kernel_rfl
theorem y5012 (L c : Nat) : run4 (L + 1) c 5 0 1 2 = .yes := by kernel_rfl
theorem g5012 : ∀ (L c : Nat), run4 L c 5 0 1 2 = .yes
  | 0, c => x5012 c
  | L + 1, c => y5012 L c
theorem x5013 (c : Nat) : run4 0 c 5 0 1 3 = .yes := by kernel_rfl
theorem y5013 (L c : Nat) : run4 (L + 1) c 5 0 1 3 = .yes := by kernel_rfl
theorem g5013 : ∀ (L c : Nat), run4 L c 5 0 1 3 = .yes
  | 0, c => x5013 c
  | L + 1, c => y5013 L c
theorem x5014 (c : Nat) : run4 0 c 5 0 1 4 = .yes := by kernel_rfl
theorem y5014 (L c : Nat) : run4 (L + 1) c 5 0 1 4 = .yes := by kernel_rfl
theorem g5014 : ∀ (L c : Nat), run4 L c 5 0 1 4 = .yes
  | 0, c => x5014 c
  | L + 1, c => y5014 L c
theorem x5015 (c : Nat) : run4 0 c 5 0 1 5 = .yes := by kernel_rfl
theorem y5015 (L c : Nat) : run4 (L + 1) c 5 0 1 5 = .yes := by kernel_rfl
theorem g5015 : ∀ (L c : Nat), run4 L c 5 0 1 5 = .yes
  | 0, c => x5015 c
  | L + 1, c => y5015 L c
theorem h501 (L c : Nat) : ∀ x, x < 6 → run4 L c 5 0 1 x = .yes
  | 0, _ => g5010 L c
  | 1, _ => g5011 L c
  | 2, _ => g5012 L c
  | 3, _ => g5013 L c
  | 4, _ => g5014 L c
  | 5, _ => g5015 L c
  | x + 6, h => absurd h (by omega)
theorem x5020 (c : Nat) : run4 0 c 5 0 2 0 = .yes := by kernel_rfl
theorem y5020 (L c : Nat) : run4 (L + 1) c 5 0 2 0 = .yes := by kernel_rfl
theorem g5020 : ∀ (L c : Nat), run4 L c 5 0 2 0 = .yes
  | 0, c => x5020 c
  | L + 1, c => y5020 L c
theorem x5021 (c : Nat) : run4 0 c 5 0 2 1 = .yes := by kernel_rfl
theorem y5021 (L c : Nat) : run4 (L + 1) c 5 0 2 1 = .yes := by kernel_rfl
theorem g5021 : ∀ (L c : Nat), run4 L c 5 0 2 1 = .yes
  | 0, c => x5021 c
  | L + 1, c => y5021 L c
theorem x5022 (c : Nat) : run4 0 c 5 0 2 2 = .yes := by kernel_rfl
theorem y5022 (L c : Nat) : run4 (L + 1) c 5 0 2 2 = .yes := by kernel_rfl
theorem g5022 : ∀ (L c : Nat), run4 L c 5 0 2 2 = .yes
  | 0, c => x5022 c
  | L + 1, c => y5022 L c
theorem x5023 (c : Nat) : run4 0 c 5 0 2 3 = .yes := by kernel_rfl
theorem y5023 (L c : Nat) : run4 (L + 1) c 5 0 2 3 = .yes := by kernel_rfl
theorem g5023 : ∀ (L c : Nat), run4 L c 5 0 2 3 = .yes
  | 0, c => x5023 c
  | L + 1, c => y5023 L c
theorem x5024 (c : Nat) : run4 0 c 5 0 2 4 = .yes := by kernel_rfl
theorem y5024 (L c : Nat) : run4 (L + 1) c 5 0 2 4 = .yes := by kernel_rfl
theorem g5024 : ∀ (L c : Nat), run4 L c 5 0 2 4 = .yes
  | 0, c => x5024 c
  | L + 1, c => y5024 L c
theorem x5025 (c : Nat) : run4 0 c 5 0 2 5 = .yes := by kernel_rfl
theorem y5025 (L c : Nat) : run4 (L + 1) c 5 0 2 5 = .yes := by kernel_rfl
theorem g5025 : ∀ (L c : Nat), run4 L c 5 0 2 5 = .yes
  | 0, c => x5025 c
  | L + 1, c => y5025 L c
theorem h502 (L c : Nat) : ∀ x, x < 6 → run4 L c 5 0 2 x = .yes
  | 0, _ => g5020 L c
  | 1, _ => g5021 L c
  | 2, _ => g5022 L c
  | 3, _ => g5023 L c
  | 4, _ => g5024 L c
  | 5, _ => g5025 L c
  | x + 6, h => absurd h (by omega)
theorem x5030 (c : Nat) : run4 0 c 5 0 3 0 = .yes := by kernel_rfl
theorem y5030 (L c : Nat) : run4 (L + 1) c 5 0 3 0 = .yes := by kernel_rfl
theorem g5030 : ∀ (L c : Nat), run4 L c 5 0 3 0 = .yes
  | 0, c => x5030 c
  | L + 1, c => y5030 L c
theorem x5031 (c : Nat) : run4 0 c 5 0 3 1 = .yes := by kernel_rfl
theorem y5031 (L c : Nat) : run4 (L + 1) c 5 0 3 1 = .yes := by kernel_rfl
theorem g5031 : ∀ (L c : Nat), run4 L c 5 0 3 1 = .yes
  | 0, c => x5031 c
  | L + 1, c => y5031 L c
theorem x5032 (c : Nat) : run4 0 c 5 0 3 2 = .yes := by kernel_rfl
theorem y5032 (L c : Nat) : run4 (L + 1) c 5 0 3 2 = .yes := by kernel_rfl
theorem g5032 : ∀ (L c : Nat), run4 L c 5 0 3 2 = .yes
  | 0, c => x5032 c
  | L + 1, c => y5032 L c
theorem x5033 (c : Nat) : run4 0 c 5 0 3 3 = .yes := by kernel_rfl
theorem y5033 (L c : Nat) : run4 (L + 1) c 5 0 3 3 = .yes := by kernel_rfl
theorem g5033 : ∀ (L c : Nat), run4 L c 5 0 3 3 = .yes
  | 0, c => x5033 c
  | L + 1, c => y5033 L c
theorem x5034 (c : Nat) : run4 0 c 5 0 3 4 = .yes := by kernel_rfl
theorem y5034 (L c : Nat) : run4 (L + 1) c 5 0 3 4 = .yes := by kernel_rfl
theorem g5034 : ∀ (L c : Nat), run4 L c 5 0 3 4 = .yes
  | 0, c => x5034 c
  | L + 1, c => y5034 L c
theorem x5035 (c : Nat) : run4 0 c 5 0 3 5 = .yes := by kernel_rfl
theorem y5035 (L c : Nat) : run4 (L + 1) c 5 0 3 5 = .yes := by kernel_rfl
theorem g5035 : ∀ (L c : Nat), run4 L c 5 0 3 5 = .yes
  | 0, c => x5035 c
  | L + 1, c => y5035 L c
theorem h503 (L c : Nat) : ∀ x, x < 6 → run4 L c 5 0 3 x = .yes
  | 0, _ => g5030 L c
  | 1, _ => g5031 L c
  | 2, _ => g5032 L c
  | 3, _ => g5033 L c
  | 4, _ => g5034 L c
  | 5, _ => g5035 L c
  | x + 6, h => absurd h (by omega)
theorem x5040 (c : Nat) : run4 0 c 5 0 4 0 = .yes := by kernel_rfl
theorem y5040 (L c : Nat) : run4 (L + 1) c 5 0 4 0 = .yes := by kernel_rfl
theorem g5040 : ∀ (L c : Nat), run4 L c 5 0 4 0 = .yes
  | 0, c => x5040 c
  | L + 1, c => y5040 L c
theorem x5041 (c : Nat) : run4 0 c 5 0 4 1 = .yes := by kernel_rfl
theorem y5041 (L c : Nat) : run4 (L + 1) c 5 0 4 1 = .yes := by kernel_rfl
theorem g5041 : ∀ (L c : Nat), run4 L c 5 0 4 1 = .yes
  | 0, c => x5041 c
  | L + 1, c => y5041 L c
theorem x5042 (c : Nat) : run4 0 c 5 0 4 2 = .yes := by kernel_rfl
theorem y5042 (L c : Nat) : run4 (L + 1) c 5 0 4 2 = .yes := by kernel_rfl
theorem g5042 : ∀ (L c : Nat), run4 L c 5 0 4 2 = .yes
  | 0, c => x5042 c
  | L + 1, c => y5042 L c
theorem x5043 (c : Nat) : run4 0 c 5 0 4 3 = .yes := by kernel_rfl
theorem y5043 (L c : Nat) : run4 (L + 1) c 5 0 4 3 = .yes := by kernel_rfl
theorem g5043 : ∀ (L c : Nat), run4 L c 5 0 4 3 = .yes
  | 0, c => x5043 c
  | L + 1, c => y5043 L c
theorem x5044 (c : Nat) : run4 0 c 5 0 4 4 = .yes := by kernel_rfl
theorem y5044 (L c : Nat) : run4 (L + 1) c 5 0 4 4 = .yes := by kernel_rfl
theorem g5044 : ∀ (L c : Nat), run4 L c 5 0 4 4 = .yes
  | 0, c => x5044 c
  | L + 1, c => y5044 L c
theorem x5045 (c : Nat) : run4 0 c 5 0 4 5 = .yes := by kernel_rfl
theorem y5045 (L c : Nat) : run4 (L + 1) c 5 0 4 5 = .yes := by kernel_rfl
theorem g5045 : ∀ (L c : Nat), run4 L c 5 0 4 5 = .yes
  | 0, c => x5045 c
  | L + 1, c => y5045 L c
theorem h504 (L c : Nat) : ∀ x, x < 6 → run4 L c 5 0 4 x = .yes
  | 0, _ => g5040 L c
  | 1, _ => g5041 L c
  | 2, _ => g5042 L c
  | 3, _ => g5043 L c
  | 4, _ => g5044 L c
  | 5, _ => g5045 L c
  | x + 6, h => absurd h (by omega)
theorem x5050 (c : Nat) : run4 0 c 5 0 5 0 = .yes := by kernel_rfl
theorem y5050 (L c : Nat) : run4 (L + 1) c 5 0 5 0 = .yes := by kernel_rfl
theorem g5050 : ∀ (L c : Nat), run4 L c 5 0 5 0 = .yes
  | 0, c => x5050 c
  | L + 1, c => y5050 L c
theorem x5051 (c : Nat) : run4 0 c 5 0 5 1 = .yes := by kernel_rfl
theorem y5051 (L c : Nat) : run4 (L + 1) c 5 0 5 1 = .yes := by kernel_rfl
theorem g5051 : ∀ (L c : Nat), run4 L c 5 0 5 1 = .yes
  | 0, c => x5051 c
  | L + 1, c => y5051 L c
theorem x5052 (c : Nat) : run4 0 c 5 0 5 2 = .yes := by kernel_rfl
theorem y5052 (L c : Nat) : run4 (L + 1) c 5 0 5 2 = .yes := by kernel_rfl
theorem g5052 : ∀ (L c : Nat), run4 L c 5 0 5 2 = .yes
  | 0, c => x5052 c
  | L + 1, c => y5052 L c
theorem x5053 (c : Nat) : run4 0 c 5 0 5 3 = .yes := by kernel_rfl
theorem y5053 (L c : Nat) : run4 (L + 1) c 5 0 5 3 = .yes := by kernel_rfl
theorem g5053 : ∀ (L c : Nat), run4 L c 5 0 5 3 = .yes
  | 0, c => x5053 c
  | L + 1, c => y5053 L c
theorem x5054 (c : Nat) : run4 0 c 5 0 5 4 = .yes := by kernel_rfl
theorem y5054 (L c : Nat) : run4 (L + 1) c 5 0 5 4 = .yes := by kernel_rfl
theorem g5054 : ∀ (L c : Nat), run4 L c 5 0 5 4 = .yes
  | 0, c => x5054 c
  | L + 1, c => y5054 L c
theorem x5055 (c : Nat) : run4 0 c 5 0 5 5 = .yes := by kernel_rfl
theorem y5055 (L c : Nat) : run4 (L + 1) c 5 0 5 5 = .yes := by kernel_rfl
theorem g5055 : ∀ (L c : Nat), run4 L c 5 0 5 5 = .yes
  | 0, c => x5055 c
  | L + 1, c => y5055 L c
theorem h505 (L c : Nat) : ∀ x, x < 6 → run4 L c 5 0 5 x = .yes
  | 0, _ => g5050 L c
  | 1, _ => g5051 L c
  | 2, _ => g5052 L c
  | 3, _ => g5053 L c
  | 4, _ => g5054 L c
  | 5, _ => g5055 L c
  | x + 6, h => absurd h (by omega)
theorem hh50 (L c : Nat) : ∀ x, x < 6 → ∀ y, y < 6 → run4 L c 5 0 x y = .yes
  | 0, _ => h500 L c
  | 1, _ => h501 L c
  | 2, _ => h502 L c
  | 3, _ => h503 L c
  | 4, _ => h504 L c
  | 5, _ => h505 L c
  | x + 6, h => absurd h (by omega)
end Go.Proofs.YtojbfaigebpnpaaDoor.ecoThreadsq
