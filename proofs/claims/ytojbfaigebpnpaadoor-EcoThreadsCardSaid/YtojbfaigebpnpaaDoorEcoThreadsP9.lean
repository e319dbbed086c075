/-
  The law EcoThreads at some of its cases: the run over the program ends in true. Conditions: none; these are closed facts.
-/
import Derived.Test.YtojbfaigebpnpaaDoorEcoThreadsA
namespace Go.Proofs.YtojbfaigebpnpaaDoor.ecoThreadsq
open Go.Rn Go.RowKit YtojbfaigebpnpaaDoor.txt
set_option maxHeartbeats 400000000
theorem x2500 (c : Nat) : run4 0 c 2 5 0 0 = .yes := by kernel_rfl
theorem y2500 (L c : Nat) : run4 (L + 1) c 2 5 0 0 = .yes := by kernel_rfl
theorem g2500 : ∀ (L c : Nat), run4 L c 2 5 0 0 = .yes
  | 0, c => x2500 c
  | L + 1, c => y2500 L c
theorem x2501 (c : Nat) : run4 0 c 2 5 0 1 = .yes := by kernel_rfl
theorem y2501 (L c : Nat) : run4 (L + 1) c 2 5 0 1 = .yes := by kernel_rfl
theorem g2501 : ∀ (L c : Nat), run4 L c 2 5 0 1 = .yes
  | 0, c => x2501 c
  | L + 1, c => y2501 L c
theorem x2502 (c : Nat) : run4 0 c 2 5 0 2 = .yes := by kernel_rfl
theorem y2502 (L c : Nat) : run4 (L + 1) c 2 5 0 2 = .yes := by kernel_rfl
theorem g2502 : ∀ (L c : Nat), run4 L c 2 5 0 2 = .yes
  | 0, c => x2502 c
  | L + 1, c => y2502 L c
theorem x2503 (c : Nat) : run4 0 c 2 5 0 3 = .yes := by kernel_rfl
theorem y2503 (L c : Nat) : run4 (L + 1) c 2 5 0 3 = .yes := by kernel_rfl
theorem g2503 : ∀ (L c : Nat), run4 L c 2 5 0 3 = .yes
  | 0, c => x2503 c
  | L + 1, c => y2503 L c
theorem x2504 (c : Nat) : run4 0 c 2 5 0 4 = .yes := by kernel_rfl
theorem y2504 (L c : Nat) : run4 (L + 1) c 2 5 0 4 = .yes := by kernel_rfl
theorem g2504 : ∀ (L c : Nat), run4 L c 2 5 0 4 = .yes
  | 0, c => x2504 c
  | L + 1, c => y2504 L c
theorem x2505 (c : Nat) : run4 0 c 2 5 0 5 = .yes := by kernel_rfl
theorem y2505 (L c : Nat) : run4 (L + 1) c 2 5 0 5 = .yes := by kernel_rfl
theorem g2505 : ∀ (L c : Nat), run4 L c 2 5 0 5 = .yes
  | 0, c => x2505 c
  | L + 1, c => y2505 L c
theorem h250 (L c : Nat) : ∀ x, x < 6 → run4 L c 2 5 0 x = .yes
  | 0, _ => g2500 L c
  | 1, _ => g2501 L c
  | 2, _ => g2502 L c
  | 3, _ => g2503 L c
  | 4, _ => g2504 L c
  | 5, _ => g2505 L c
  | x + 6, h => absurd h (by omega)
theorem x2510 (c : Nat) : run4 0 c 2 5 1 0 = .yes := by kernel_rfl
theorem y2510 (L c : Nat) : run4 (L + 1) c 2 5 1 0 = .yes := by kernel_rfl
theorem g2510 : ∀ (L c : Nat), run4 L c 2 5 1 0 = .yes
  | 0, c => x2510 c
  | L + 1, c => y2510 L c
theorem x2511 (c : Nat) : run4 0 c 2 5 1 1 = .yes := by kernel_rfl
theorem y2511 (L c : Nat) : run4 (L + 1) c 2 5 1 1 = .yes := by kernel_rfl
theorem g2511 : ∀ (L c : Nat), run4 L c 2 5 1 1 = .yes
  | 0, c => x2511 c
  | L + 1, c => y2511 L c
theorem x2512 (c : Nat) : run4 0 c 2 5 1 2 = .yes := by kernel_rfl
theorem y2512 (L c : Nat) : run4 (L + 1) c 2 5 1 2 = .yes := by kernel_rfl
theorem g2512 : ∀ (L c : Nat), run4 L c 2 5 1 2 = .yes
  | 0, c => x2512 c
  | L + 1, c => y2512 L c
theorem x2513 (c : Nat) : run4 0 c 2 5 1 3 = .yes := by kernel_rfl
theorem y2513 (L c : Nat) : run4 (L + 1) c 2 5 1 3 = .yes := by kernel_rfl
theorem g2513 : ∀ (L c : Nat), run4 L c 2 5 1 3 = .yes
  | 0, c => x2513 c
  | L + 1, c => y2513 L c
theorem x2514 (c : Nat) : run4 0 c 2 5 1 4 = .yes := by kernel_rfl
theorem y2514 (L c : Nat) : run4 (L + 1) c 2 5 1 4 = .yes := by kernel_rfl
theorem g2514 : ∀ (L c : Nat), run4 L c 2 5 1 4 = .yes
  | 0, c => x2514 c
  | L + 1, c => y2514 L c
theorem x2515 (c : Nat) : run4 0 c 2 5 1 5 = .yes := by kernel_rfl
theorem y2515 (L c : Nat) : run4 (L + 1) c 2 5 1 5 = .yes := by kernel_rfl
theorem g2515 : ∀ (L c : Nat), run4 L c 2 5 1 5 = .yes
  | 0, c => x2515 c
  | L + 1, c => y2515 L c
theorem h251 (L c : Nat) : ∀ x, x < 6 → run4 L c 2 5 1 x = .yes
  | 0, _ => g2510 L c
  | 1, _ => g2511 L c
  | 2, _ => g2512 L c
  | 3, _ => g2513 L c
  | 4, _ => g2514 L c
  | 5, _ => g2515 L c
  | x + 6, h => absurd h (by omega)
theorem x2520 (c : Nat) : run4 0 c 2 5 2 0 = .yes := by kernel_rfl
theorem y2520 (L c : Nat) : run4 (L + 1) c 2 5 2 0 = .yes := by kernel_rfl
theorem g2520 : ∀ (L c : Nat), run4 L c 2 5 2 0 = .yes
  | 0, c => x2520 c
  | L + 1, c => y2520 L c
theorem x2521 (c : Nat) : run4 0 c 2 5 2 1 = .yes := by kernel_rfl
theorem y2521 (L c : Nat) : run4 (L + 1) c 2 5 2 1 = .yes := by kernel_rfl
theorem g2521 : ∀ (L c : Nat), run4 L c 2 5 2 1 = .yes
  | 0, c => x2521 c
  | L + 1, c => y2521 L c
theorem x2522 (c : Nat) : run4 0 c 2 5 2 2 = .yes := by kernel_rfl
theorem y2522 (L c : Nat) : run4 (L + 1) c 2 5 2 2 = .yes := by kernel_rfl
theorem g2522 : ∀ (L c : Nat), run4 L c 2 5 2 2 = .yes
  | 0, c => x2522 c
  | L + 1, c => y2522 L c
theorem x2523 (c : Nat) : run4 0 c 2 5 2 3 = .yes := by kernel_rfl
theorem y2523 (L c : Nat) : run4 (L + 1) c 2 5 2 3 = .yes := by kernel_rfl
theorem g2523 : ∀ (L c : Nat), run4 L c 2 5 2 3 = .yes
  | 0, c => x2523 c
  | L + 1, c => y2523 L c
theorem x2524 (c : Nat) : run4 0 c 2 5 2 4 = .yes := by kernel_rfl
theorem y2524 (L c : Nat) : run4 (L + 1) c 2 5 2 4 = .yes := by kernel_rfl
theorem g2524 : ∀ (L c : Nat), run4 L c 2 5 2 4 = .yes
  | 0, c => x2524 c
  | L + 1, c => y2524 L c
theorem x2525 (c : Nat) : run4 0 c 2 5 2 5 = .yes := by kernel_rfl
theorem y2525 (L c : Nat) : run4 (L + 1) c 2 5 2 5 = .yes := by kernel_rfl
theorem g2525 : ∀ (L c : Nat), run4 L c 2 5 2 5 = .yes
  | 0, c => x2525 c
  | L + 1, c => y2525 L c
theorem h252 (L c : Nat) : ∀ x, x < 6 → run4 L c 2 5 2 x = .yes
  | 0, _ => g2520 L c
  | 1, _ => g2521 L c
  | 2, _ => g2522 L c
  | 3, _ => g2523 L c
  | 4, _ => g2524 L c
  | 5, _ => g2525 L c
  | x + 6, h => absurd h (by omega)
theorem x2530 (c : Nat) : run4 0 c 2 5 3 0 = .yes := by kernel_rfl
theorem y2530 (L c : Nat) : run4 (L + 1) c 2 5 3 0 = .yes := by kernel_rfl
theorem g2530 : ∀ (L c : Nat), run4 L c 2 5 3 0 = .yes
  | 0, c => x2530 c
  | L + 1, c => y2530 L c
theorem x2531 (c : Nat) : run4 0 c 2 5 3 1 = .yes := by kernel_rfl
theorem y2531 (L c : Nat) : run4 (L + 1) c 2 5 3 1 = .yes := by kernel_rfl
theorem g2531 : ∀ (L c : Nat), run4 L c 2 5 3 1 = .yes
  | 0, c => x2531 c
  | L + 1, c => y2531 L c
theorem x2532 (c : Nat) : run4 0 c 2 5 3 2 = .yes := by kernel_rfl
theorem y2532 (L c : Nat) : run4 (L + 1) c 2 5 3 2 = .yes := by kernel_rfl
theorem g2532 : ∀ (L c : Nat), run4 L c 2 5 3 2 = .yes
  | 0, c => x2532 c
  | L + 1, c => y2532 L c
theorem x2533 (c : Nat) : run4 0 c 2 5 3 3 = .yes := by kernel_rfl
theorem y2533 (L c : Nat) : run4 (L + 1) c 2 5 3 3 = .yes := by kernel_rfl
theorem g2533 : ∀ (L c : Nat), run4 L c 2 5 3 3 = .yes
  | 0, c => x2533 c
  | L + 1, c => y2533 L c
theorem x2534 (c : Nat) : run4 0 c 2 5 3 4 = .yes := by kernel_rfl
theorem y2534 (L c : Nat) : run4 (L + 1) c 2 5 3 4 = .yes := by kernel_rfl
theorem g2534 : ∀ (L c : Nat), run4 L c 2 5 3 4 = .yes
  | 0, c => x2534 c
  | L + 1, c => y2534 L c
theorem x2535 (c : Nat) : run4 0 c 2 5 3 5 = .yes := by kernel_rfl
theorem y2535 (L c : Nat) : run4 (L + 1) c 2 5 3 5 = .yes := by kernel_rfl
theorem g2535 : ∀ (L c : Nat), run4 L c 2 5 3 5 = .yes
  | 0, c => x2535 c
  | L + 1, c => y2535 L c
theorem h253 (L c : Nat) : ∀ x, x < 6 → run4 L c 2 5 3 x = .yes
  | 0, _ => g2530 L c
  | 1, _ => g2531 L c
  | 2, _ => g2532 L c
  | 3, _ => g2533 L c
  | 4, _ => g2534 L c
  | 5, _ => g2535 L c
  | x + 6, h => absurd h (by omega)
theorem x2540 (c : Nat) : run4 0 c 2 5 4 0 = .yes := by kernel_rfl
theorem y2540 (L c : Nat) : run4 (L + 1) c 2 5 4 0 = .yes := by kernel_rfl
theorem g2540 : ∀ (L c : Nat), run4 L c 2 5 4 0 = .yes
  | 0, c => x2540 c
  | L + 1, c => y2540 L c
theorem x2541 (c : Nat) : run4 0 c 2 5 4 1 = .yes := by kernel_rfl
theorem y2541 (L c : Nat) : run4 (L + 1) c 2 5 4 1 = .yes := by kernel_rfl
theorem g2541 : ∀ (L c : Nat), run4 L c 2 5 4 1 = .yes
  | 0, c => x2541 c
  | L + 1, c => y2541 L c
theorem x2542 (c : Nat) : run4 0 c 2 5 4 2 = .yes := by kernel_rfl
theorem y2542 (L c : Nat) : run4 (L + 1) c 2 5 4 2 = .yes := by kernel_rfl
theorem g2542 : ∀ (L c : Nat), run4 L c 2 5 4 2 = .yes
  | 0, c => x2542 c
  | L + 1, c => y2542 L c
theorem x2543 (c : Nat) : run4 0 c 2 5 4 3 = .yes := by kernel_rfl
theorem y2543 (L c : Nat) : run4 (L + 1) c 2 5 4 3 = .yes := by kernel_rfl
theorem g2543 : ∀ (L c : Nat), run4 L c 2 5 4 3 = .yes
  | 0, c => x2543 c
  | L + 1, c => y2543 L c
theorem x2544 (c : Nat) : run4 0 c 2 5 4 4 = .yes := by kernel_rfl
theorem y2544 (L c : Nat) : run4 (L + 1) c 2 5 4 4 = .yes := by kernel_rfl
theorem g2544 : ∀ (L c : Nat), run4 L c 2 5 4 4 = .yes
  | 0, c => x2544 c
  | L + 1, c => y2544 L c
theorem x2545 (c : Nat) : run4 0 c 2 5 4 5 = .yes := by kernel_rfl
theorem y2545 (L c : Nat) : run4 (L + 1) c 2 5 4 5 = .yes := by kernel_rfl
theorem g2545 : ∀ (L c : Nat), run4 L c 2 5 4 5 = .yes
  | 0, c => x2545 c
  | L + 1, c => y2545 L c
theorem h254 (L c : Nat) : ∀ x, x < 6 → run4 L c 2 5 4 x = .yes
  | 0, _ => g2540 L c
  | 1, _ => g2541 L c
  | 2, _ => g2542 L c
  | 3, _ => g2543 L c
  | 4, _ => g2544 L c
  | 5, _ => g2545 L c
  | x + 6, h => absurd h (by omega)
theorem x2550 (c : Nat) : run4 0 c 2 5 5 0 = .yes := by kernel_rfl
theorem y2550 (L c : Nat) : run4 (L + 1) c 2 5 5 0 = .yes := by kernel_rfl
theorem g2550 : ∀ (L c : Nat), run4 L c 2 5 5 0 = .yes
  | 0, c => x2550 c
  | L + 1, c => y2550 L c
theorem x2551 (c : Nat) : run4 0 c 2 5 5 1 = .yes := by kernel_rfl
theorem y2551 (L c : Nat) : run4 (L + 1) c 2 5 5 1 = .yes := by kernel_rfl
theorem g2551 : ∀ (L c : Nat), run4 L c 2 5 5 1 = .yes
  | 0, c => x2551 c
  | L + 1, c => y2551 L c
theorem x2552 (c : Nat) : run4 0 c 2 5 5 2 = .yes := by kernel_rfl
theorem y2552 (L c : Nat) : run4 (L + 1) c 2 5 5 2 = .yes := by kernel_rfl
theorem g2552 : ∀ (L c : Nat), run4 L c 2 5 5 2 = .yes
  | 0, c => x2552 c
  | L + 1, c => y2552 L c
theorem x2553 (c : Nat) : run4 0 c 2 5 5 3 = .yes := by kernel_rfl
theorem y2553 (L c : Nat) : run4 (L + 1) c 2 5 5 3 = .yes := by kernel_rfl
theorem g2553 : ∀ (L c : Nat), run4 L c 2 5 5 3 = .yes
  | 0, c => x2553 c
  | L + 1, c => y2553 L c
theorem x2554 (c : Nat) : run4 0 c 2 5 5 4 = .yes := by kernel_rfl
theorem y2554 (L c : Nat) : run4 (L + 1) c 2 5 5 4 = .yes := by kernel_rfl
theorem g2554 : ∀ (L c : Nat), run4 L c 2 5 5 4 = .yes
  | 0, c => x2554 c
  | L + 1, c => y2554 L c
theorem x2555 (c : Nat) : run4 0 c 2 5 5 5 = .yes := by kernel_rfl
theorem y2555 (L c : Nat) : run4 (L + 1) c 2 5 5 5 = .yes := by kernel_rfl
theorem g2555 : ∀ (L c : Nat), run4 L c 2 5 5 5 = .yes
  | 0, c => x2555 c
  | L + 1, c => y2555 L c
theorem h255 (L c : Nat) : ∀ x, x < 6 → run4 L c 2 5 5 x = .yes
  | 0, _ => g2550 L c
  | 1, _ => g2551 L c
  | 2, _ => g2552 L c
  | 3, _ => g2553 L c
  | 4, _ => g2554 L c
  | 5, _ => g2555 L c
  | x + 6, h => absurd h (by omega)
theorem hh25 (L c : Nat) : ∀ x, x < 6 → ∀ y, y < 6 → run4 L c 2 5 x y = .yes
  | 0, _ => h250 L c
  | 1, _ => h251 L c
  | 2, _ => h252 L c
  | 3, _ => h253 L c
  | 4, _ => h254 L c
  | 5, _ => h255 L c
  | x + 6, h => absurd h (by omega)
theorem x3000 (c : Nat) : run4 0 c 3 0 0 0 = .yes := by kernel_rfl
theorem y3000 (L c : Nat) : run4 (L + 1) c 3 0 0 0 = .yes := by kernel_rfl
theorem g3000 : ∀ (L c : Nat), run4 L c 3 0 0 0 = .yes
  | 0, c => x3000 c
  | L + 1, c => y3000 L c
theorem x3001 (c : Nat) : run4 0 c 3 0 0 1 = .yes := by kernel_rfl
theorem y3001 (L c : Nat) : run4 (L + 1) c 3 0 0 1 = .yes := by kernel_rfl
theorem g3001 : ∀ (L c : Nat), run4 L c 3 0 0 1 = .yes
  | 0, c => x3001 c
  | L + 1, c => y3001 L c
theorem x3002 (c : Nat) : run4 0 c 3 0 0 2 = .yes := by kernel_rfl
theorem y3002 (L c : Nat) : run4 (L + 1) c 3 0 0 2 = .yes := by kernel_rfl
theorem g3002 : ∀ (L c : Nat), run4 L c 3 0 0 2 = .yes
  | 0, c => x3002 c
  | L + 1, c => y3002 L c
theorem x3003 (c : Nat) : run4 0 c 3 0 0 3 = .yes := by kernel_rfl
theorem y3003 (L c : Nat) : run4 (L + 1) c 3 0 0 3 = .yes := by kernel_rfl
theorem g3003 : ∀ (L c : Nat), run4 L c 3 0 0 3 = .yes
  | 0, c => x3003 c
  | L + 1, c => y3003 L c
theorem x3004 (c : Nat) : run4 0 c 3 0 0 4 = .yes := by kernel_rfl
theorem y3004 (L c : Nat) : run4 (L + 1) c 3 0 0 4 = .yes := by kernel_rfl
theorem g3004 : ∀ (L c : Nat), run4 L c 3 0 0 4 = .yes
  | 0, c => x3004 c
  | L + 1, c => y3004 L c
theorem x3005 (c : Nat) : run4 0 c 3 0 0 5 = .yes := by kernel_rfl
theorem y3005 (L c : Nat) : run4 (L + 1) c 3 0 0 5 = .yes := by kernel_rfl
theorem g3005 : ∀ (L c : Nat), run4 L c 3 0 0 5 = .yes
  | 0, c => x3005 c
  | L + 1, c => y3005 L c
theorem h300 (L c : Nat) : ∀ x, x < 6 → run4 L c 3 0 0 x = .yes
  | 0, _ => g3000 L c
  | 1, _ => g3001 L c
  | 2, _ => g3002 L c
  | 3, _ => g3003 L c
  | 4, _ => g3004 L c
  | 5, _ => g3005 L c
  | x + 6, h => absurd h (by omega)
theorem x3010 (c : Nat) : run4 0 c 3 0 1 0 = .yes := by kernel_rfl
theorem y3010 (L c : Nat) : run4 (L + 1) c 3 0 1 0 = .yes := by kernel_rfl
theorem g3010 : ∀ (L c : Nat), run4 L c 3 0 1 0 = .yes
  | 0, c => x3010 c
  | L + 1, c => y3010 L c
theorem x3011 (c : Nat) : run4 0 c 3 0 1 1 = .yes := by kernel_rfl
theorem y3011 (L c : Nat) : run4 (L + 1) c 3 0 1 1 = .yes := by kernel_rfl
theorem g3011 : ∀ (L c : Nat), run4 L c 3 0 1 1 = .yes
  | 0, c => x3011 c
  | L + 1, c => y3011 L c
theorem x3012 (c : Nat) : run4 0 c 3 0 1 2 = .yes := by kernel_rfl
theorem y3012 (L c : Nat) : run4 (L + 1) c 3 0 1 2 = .yes := by kernel_rfl
theorem g3012 : ∀ (L c : Nat), run4 L c 3 0 1 2 = .yes
  | 0, c => x3012 c
  | L + 1, c => y3012 L c
theorem x3013 (c : Nat) : run4 0 c 3 0 1 3 = .yes := by kernel_rfl
theorem y3013 (L c : Nat) : run4 (L + 1) c 3 0 1 3 = .yes := by kernel_rfl
theorem g3013 : ∀ (L c : Nat), run4 L c 3 0 1 3 = .yes
  | 0, c => x3013 c
  | L + 1, c => y3013 L c
theorem x3014 (c : Nat) : run4 0 c 3 0 1 4 = .yes := by kernel_rfl
theorem y3014 (L c : Nat) : run4 (L + 1) c 3 0 1 4 = .yes := by kernel_rfl
theorem g3014 : ∀ (L c : Nat), run4 L c 3 0 1 4 = .yes
  | 0, c => x3014 c
  | L + 1, c => y3014 L c
theorem x3015 (c : Nat) : run4 0 c 3 0 1 5 = .yes := by kernel_rfl
theorem y3015 (L c : Nat) : run4 (L + 1) c 3 0 1 5 = .yes := by kernel_rfl
theorem g3015 : ∀ (L c : Nat), run4 L c 3 0 1 5 = .yes
  | 0, c => x3015 c
  | L + 1, c => y3015 L c
theorem h301 (L c : Nat) : ∀ x, x < 6 → run4 L c 3 0 1 x = .yes
  | 0, _ => g3010 L c
  | 1, _ => g3011 L c
  | 2, _ => g3012 L c
  | 3, _ => g3013 L c
  | 4, _ => g3014 L c
  | 5, _ => g3015 L c
  | x + 6, h => absurd h (by omega)
theorem x3020 (c : Nat) : run4 0 c 3 0 2 0 = .yes := by kernel_rfl
theorem y3020 (L c : Nat) : run4 (L + 1) c 3 0 2 0 = .yes := by kernel_rfl
theorem g3020 : ∀ (L c : Nat), run4 L c 3 0 2 0 = .yes
  | 0, c => x3020 c
  | L + 1, c => y3020 L c
theorem x3021 (c : Nat) : run4 0 c 3 0 2 1 = .yes := by kernel_rfl
theorem y3021 (L c : Nat) : run4 (L + 1) c 3 0 2 1 = .yes := by kernel_rfl
theorem g3021 : ∀ (L c : Nat), run4 L c 3 0 2 1 = .yes
  | 0, c => x3021 c
  | L + 1, c => y3021 L c
theorem x3022 (c : Nat) : run4 0 c 3 0 2 2 = .yes := by kernel_rfl
theorem y3022 (L c : Nat) : run4 (L + 1) c 3 0 2 2 = .yes := by kernel_rfl
theorem g3022 : ∀ (L c : Nat), run4 L c 3 0 2 2 = .yes
  | 0, c => x3022 c
  | L + 1, c => y3022 L c
theorem x3023 (c : Nat) : run4 0 c 3 0 2 3 = .yes := by kernel_rfl
theorem y3023 (L c : Nat) : run4 (L + 1) c 3 0 2 3 = .yes := by kernel_rfl
theorem g3023 : ∀ (L c : Nat), run4 L c 3 0 2 3 = .yes
  | 0, c => x3023 c
  | L + 1, c => y3023 L c
theorem x3024 (c : Nat) : run4 0 c 3 0 2 4 = .yes := by kernel_rfl
theorem y3024 (L c : Nat) : run4 (L + 1) c 3 0 2 4 = .yes := by kernel_rfl
theorem g3024 : ∀ (L c : Nat), run4 L c 3 0 2 4 = .yes
  | 0, c => x3024 c
  | L + 1, c => y3024 L c
theorem x3025 (c : Nat) : run4 0 c 3 0 2 5 = .yes := by kernel_rfl
theorem y3025 (L c : Nat) : run4 (L + 1) c 3 0 2 5 = .yes := by kernel_rfl
theorem g3025 : ∀ (L c : Nat), run4 L c 3 0 2 5 = .yes
  | 0, c => x3025 c
  | L + 1, c => y3025 L c
theorem h302 (L c : Nat) : ∀ x, x < 6 → run4 L c 3 0 2 x = .yes
  | 0, _ => g3020 L c
  | 1, _ => g3021 L c
  | 2, _ => g3022 L c
  | 3, _ => g3023 L c
  | 4, _ => g3024 L c
  | 5, _ => g3025 L c
  | x + 6, h => absurd h (by omega)
theorem x3030 (c : Nat) : run4 0 c 3 0 3 0 = .yes := by kernel_rfl
theorem y3030 (L c : Nat) : run4 (L + 1) c 3 0 3 0 = .yes := by kernel_rfl
theorem g3030 : ∀ (L c : Nat), run4 L c 3 0 3 0 = .yes
  | 0, c => x3030 c
  | L + 1, c => y3030 L c
theorem x3031 (c : Nat) : run4 0 c 3 0 3 1 = .yes := by kernel_rfl
theorem y3031 (L c : Nat) : run4 (L + 1) c 3 0 3 1 = .yes := by kernel_rfl
theorem g3031 : ∀ (L c : Nat), run4 L c 3 0 3 1 = .yes
  | 0, c => x3031 c
  | L + 1, c => y3031 L c
theorem x3032 (c : Nat) : run4 0 c 3 0 3 2 = .yes := by kernel_rfl
theorem y3032 (L c : Nat) : run4 (L + 1) c 3 0 3 2 = .yes := by kernel_rfl
theorem g3032 : ∀ (L c : Nat), run4 L c 3 0 3 2 = .yes
  | 0, c => x3032 c
  | L + 1, c => y3032 L c
theorem x3033 (c : Nat) : run4 0 c 3 0 3 3 = .yes := by kernel_rfl
theorem y3033 (L c : Nat) : run4 (L + 1) c 3 0 3 3 = .yes := by kernel_rfl
theorem g3033 : ∀ (L c : Nat), run4 L c 3 0 3 3 = .yes
  | 0, c => x3033 c
  | L + 1, c => y3033 L c
theorem x3034 (c : Nat) : run4 0 c 3 0 3 4 = .yes := by kernel_rfl
theorem y3034 (L c : Nat) : run4 (L + 1) c 3 0 3 4 = .yes := by kernel_rfl
theorem g3034 : ∀ (L c : Nat), run4 L c 3 0 3 4 = .yes
  | 0, c => x3034 c
  | L + 1, c => y3034 L c
theorem x3035 (c : Nat) : run4 0 c 3 0 3 5 = .yes := by kernel_rfl
theorem y3035 (L c : Nat) : run4 (L + 1) c 3 0 3 5 = .yes := by kernel_rfl
theorem g3035 : ∀ (L c : Nat), run4 L c 3 0 3 5 = .yes
  | 0, c => x3035 c
  | L + 1, c => y3035 L c
theorem h303 (L c : Nat) : ∀ x, x < 6 → run4 L c 3 0 3 x = .yes
  | 0, _ => g3030 L c
  | 1, _ => g3031 L c
  | 2, _ => g3032 L c
  | 3, _ => g3033 L c
  | 4, _ => g3034 L c
  | 5, _ => g3035 L c
  | x + 6, h => absurd h (by omega)
theorem x3040 (c : Nat) : run4 0 c 3 0 4 0 = .yes := by kernel_rfl
theorem y3040 (L c : Nat) : run4 (L + 1) c 3 0 4 0 = .yes := by kernel_rfl
theorem g3040 : ∀ (L c : Nat), run4 L c 3 0 4 0 = .yes
  | 0, c => x3040 c
  | L + 1, c => y3040 L c
theorem x3041 (c : Nat) : run4 0 c 3 0 4 1 = .yes := by kernel_rfl
theorem y3041 (L c : Nat) : run4 (L + 1) c 3 0 4 1 = .yes := by kernel_rfl
theorem g3041 : ∀ (L c : Nat), run4 L c 3 0 4 1 = .yes
  | 0, c => x3041 c
  | L + 1, c => y3041 L c
theorem x3042 (c : Nat) : run4 0 c 3 0 4 2 = .yes := by kernel_rfl
theorem y3042 (L c : Nat) : run4 (L + 1) c 3 0 4 2 = .yes := by kernel_rfl
theorem g3042 : ∀ (L c : Nat), run4 L c 3 0 4 2 = .yes
  | 0, c => x3042 c
  | L + 1, c => y3042 L c
theorem x3043 (c : Nat) : run4 0 c 3 0 4 3 = .yes := by kernel_rfl
theorem y3043 (L c : Nat) : run4 (L + 1) c 3 0 4 3 = .yes := by kernel_rfl
theorem g3043 : ∀ (L c : Nat), run4 L c 3 0 4 3 = .yes
  | 0, c => x3043 c
  | L + 1, c => y3043 L c
theorem x3044 (c : Nat) : run4 0 c 3 0 4 4 = .yes := by kernel_rfl
theorem y3044 (L c : Nat) : run4 (L + 1) c 3 0 4 4 = .yes := by kernel_rfl
theorem g3044 : ∀ (L c : Nat), run4 L c 3 0 4 4 = .yes
  | 0, c => x3044 c
  | L + 1, c => y3044 L c
theorem x3045 (c : Nat) : run4 0 c 3 0 4 5 = .yes := by kernel_rfl
theorem y3045 (L c : Nat) : run4 (L + 1) c 3 0 4 5 = .yes := by kernel_rfl
theorem g3045 : ∀ (L c : Nat), run4 L c 3 0 4 5 = .yes
  | 0, c => x3045 c
  | L + 1, c => y3045 L c
theorem h304 (L c : Nat) : ∀ x, x < 6 → run4 L c 3 0 4 x = .yes
  | 0, _ => g3040 L c
  | 1, _ => g3041 L c
  | 2, _ => g3042 L c
  | 3, _ => g3043 L c
  | 4, _ => g3044 L c
  | 5, _ => g3045 L c
  | x + 6, h => absurd h (by omega)
theorem x3050 (c : Nat) : run4 0 c 3 0 5 0 = .yes := by kernel_rfl
theorem y3050 (L c : Nat) : run4 (L + 1) c 3 0 5 0 = .yes := by kernel_rfl
theorem g3050 : ∀ (L c : Nat), run4 L c 3 0 5 0 = .yes
  | 0, c => x3050 c
  | L + 1, c => y3050 L c
theorem x3051 (c : Nat) : run4 0 c 3 0 5 1 = .yes := by kernel_rfl
theorem y3051 (L c : Nat) : run4 (L + 1) c 3 0 5 1 = .yes := by kernel_rfl
theorem g3051 : ∀ (L c : Nat), run4 L c 3 0 5 1 = .yes
  | 0, c => x3051 c
  | L + 1, c => y3051 L c
theorem x3052 (c : Nat) : run4 0 c 3 0 5 2 = .yes := by kernel_rfl
theorem y3052 (L c : Nat) : run4 (L + 1) c 3 0 5 2 = .yes := by kernel_rfl
theorem g3052 : ∀ (L c : Nat), run4 L c 3 0 5 2 = .yes
  | 0, c => x3052 c
  | L + 1, c => y3052 L c
theorem x3053 (c : Nat) : run4 0 c 3 0 5 3 = .yes := by kernel_rfl
theorem y3053 (L c : Nat) : run4 (L + 1) c 3 0 5 3 = .yes := by kernel_rfl
theorem g3053 : ∀ (L c : Nat), run4 L c 3 0 5 3 = .yes
  | 0, c => x3053 c
  | L + 1, c => y3053 L c
theorem x3054 (c : Nat) : run4 0 c 3 0 5 4 = .yes := by kernel_rfl
theorem y3054 (L c : Nat) : run4 (L + 1) c 3 0 5 4 = .yes := by kernel_rfl
theorem g3054 : ∀ (L c : Nat), run4 L c 3 0 5 4 = .yes
  | 0, c => x3054 c
  | L + 1, c => y3054 L c
theorem x3055 (c : Nat) : run4 0 c 3 0 5 5 = .yes := by kernel_rfl
theorem y3055 (L c : Nat) : run4 (L + 1) c 3 0 5 5 = .yes := by kernel_rfl
theorem g3055 : ∀ (L c : Nat), run4 L c 3 0 5 5 = .yes
  | 0, c => x3055 c
  | L + 1, c => y3055 L c
theorem h305 (L c : Nat) : ∀ x, x < 6 → run4 L c 3 0 5 x = .yes
  | 0, _ => g3050 L c
  | 1, _ => g3051 L c
  | 2, _ => g3052 L c
  | 3, _ => g3053 L c
  | 4, _ => g3054 L c
  | 5, _ => g3055 L c
  | x + 6, h => absurd h (by omega)
theorem hh30 (L c : Nat) : ∀ x, x < 6 → ∀ y, y < 6 → run4 L c 3 0 x y = .yes
  | 0, _ => h300 L c
  | 1, _ => h301 L c
  | 2, _ => h302 L c
  | 3, _ => h303 L c
  | 4, _ => h304 L c
  | 5, _ => h305 L c
  | x + 6, h => absurd h (by omega)
end Go.Proofs.YtojbfaigebpnpaaDoor.ecoThreadsq
