/-
  The law EcoThreads at some of its cases: the run over the program ends in true. Conditions: none; these are closed facts.
-/
import Derived.Test.YtojbfaigebpnpaaDoorEcoThreadsA
namespace Go.Proofs.YtojbfaigebpnpaaDoor.ecoThreadsq
open Go.Rn Go.RowKit YtojbfaigebpnpaaDoor.txt
set_option maxHeartbeats 400000000
theorem x3400 (c : Nat) : run4 0 c 3 4 0 0 = .yes := by kernel_rfl
theorem y3400 (L c : Nat) : run4 (L + 1) c 3 4 0 0 = .yes := by kernel_rfl
theorem g3400 : ∀ (L c : Nat), run4 L c 3 4 0 0 = .yes
  | 0, c => x3400 c
  | L + 1, c => y3400 L c
theorem x3401 (c : Nat) : run4 0 c 3 4 0 1 = .yes := by kernel_rfl
theorem y3401 (L c : Nat) : run4 (L + 1) c 3 4 0 1 = .yes := by kernel_rfl
theorem g3401 : ∀ (L c : Nat), run4 L c 3 4 0 1 = .yes
  | 0, c => x3401 c
  | L + 1, c => y3401 L c
theorem x3402 (c : Nat) : run4 0 c 3 4 0 2 = .yes := by kernel_rfl
theorem y3402 (L c : Nat) : run4 (L + 1) c 3 4 0 2 = .yes := by kernel_rfl
theorem g3402 : ∀ (L c : Nat), run4 L c 3 4 0 2 = .yes
  | 0, c => x3402 c
  | L + 1, c => y3402 L c
theorem x3403 (c : Nat) : run4 0 c 3 4 0 3 = .yes := by kernel_rfl
theorem y3403 (L c : Nat) : run4 (L + 1) c 3 4 0 3 = .yes := by kernel_rfl
theorem g3403 : ∀ (L c : Nat), run4 L c 3 4 0 3 = .yes
  | 0, c => x3403 c
  | L + 1, c => y3403 L c
theorem x3404 (c : Nat) : run4 0 c 3 4 0 4 = .yes := by kernel_rfl
theorem y3404 (L c : Nat) : run4 (L + 1) c 3 4 0 4 = .yes := by kernel_rfl
theorem g3404 : ∀ (L c : Nat), run4 L c 3 4 0 4 = .yes
  | 0, c => x3404 c
  | L + 1, c => y3404 L c
theorem x3405 (c : Nat) : run4 0 c 3 4 0 5 = .yes := by kernel_rfl
theorem y3405 (L c : Nat) : run4 (L + 1) c 3 4 0 5 = .yes := by kernel_rfl
theorem g3405 : ∀ (L c : Nat), run4 L c 3 4 0 5 = .yes
  | 0, c => x3405 c
  | L + 1, c => y3405 L c
theorem h340 (L c : Nat) : ∀ x, x < 6 → run4 L c 3 4 0 x = .yes
  | 0, _ => g3400 L c
  | 1, _ => g3401 L c
  | 2, _ => g3402 L c
  | 3, _ => g3403 L c
  | 4, _ => g3404 L c
  | 5, _ => g3405 L c
  | x + 6, h => absurd h (by omega)
theorem x3410 (c : Nat) : run4 0 c 3 4 1 0 = .yes := by kernel_rfl
theorem y3410 (L c : Nat) : run4 (L + 1) c 3 4 1 0 = .yes := by kernel_rfl
theorem g3410 : ∀ (L c : Nat), run4 L c 3 4 1 0 = .yes
  | 0, c => x3410 c
  | L + 1, c => y3410 L c
theorem x3411 (c : Nat) : run4 0 c 3 4 1 1 = .yes := by kernel_rfl
theorem y3411 (L c : Nat) : run4 (L + 1) c 3 4 1 1 = .yes := by kernel_rfl
theorem g3411 : ∀ (L c : Nat), run4 L c 3 4 1 1 = .yes
  | 0, c => x3411 c
  | L + 1, c => y3411 L c
theorem x3412 (c : Nat) : run4 0 c 3 4 1 2 = .yes := by kernel_rfl
theorem y3412 (L c : Nat) : run4 (L + 1) c 3 4 1 2 = .yes := by kernel_rfl
theorem g3412 : ∀ (L c : Nat), run4 L c 3 4 1 2 = .yes
  | 0, c => x3412 c
  | L + 1, c => y3412 L c
theorem x3413 (c : Nat) : run4 0 c 3 4 1 3 = .yes := by kernel_rfl
theorem y3413 (L c : Nat) : run4 (L + 1) c 3 4 1 3 = .yes := by kernel_rfl
theorem g3413 : ∀ (L c : Nat), run4 L c 3 4 1 3 = .yes
  | 0, c => x3413 c
  | L + 1, c => y3413 L c
theorem x3414 (c : Nat) : run4 0 c 3 4 1 4 = .yes := by kernel_rfl
theorem y3414 (L c : Nat) : run4 (L + 1) c 3 4 1 4 = .yes := by kernel_rfl
theorem g3414 : ∀ (L c : Nat), run4 L c 3 4 1 4 = .yes
  | 0, c => x3414 c
  | L + 1, c => y3414 L c
theorem x3415 (c : Nat) : run4 0 c 3 4 1 5 = .yes := by kernel_rfl
theorem y3415 (L c : Nat) : run4 (L + 1) c 3 4 1 5 = .yes := by kernel_rfl
theorem g3415 : ∀ (L c : Nat), run4 L c 3 4 1 5 = .yes
  | 0, c => x3415 c
  | L + 1, c => y3415 L c
theorem h341 (L c : Nat) : ∀ x, x < 6 → run4 L c 3 4 1 x = .yes
  | 0, _ => g3410 L c
  | 1, _ => g3411 L c
  | 2, _ => g3412 L c
  | 3, _ => g3413 L c
  | 4, _ => g3414 L c
  | 5, _ => g3415 L c
  | x + 6, h => absurd h (by omega)
theorem x3420 (c : Nat) : run4 0 c 3 4 2 0 = .yes := by kernel_rfl
theorem y3420 (L c : Nat) : run4 (L + 1) c 3 4 2 0 = .yes := by kernel_rfl
theorem g3420 : ∀ (L c : Nat), run4 L c 3 4 2 0 = .yes
  | 0, c => x3420 c
  | L + 1, c => y3420 L c
theorem x3421 (c : Nat) : run4 0 c 3 4 2 1 = .yes := by kernel_rfl
theorem y3421 (L c : Nat) : run4 (L + 1) c 3 4 2 1 = .yes := by kernel_rfl
theorem g3421 : ∀ (L c : Nat), run4 L c 3 4 2 1 = .yes
  | 0, c => x3421 c
  | L + 1, c => y3421 L c
theorem x3422 (c : Nat) : run4 0 c 3 4 2 2 = .yes := by kernel_rfl
theorem y3422 (L c : Nat) : run4 (L + 1) c 3 4 2 2 = .yes := by kernel_rfl
theorem g3422 : ∀ (L c : Nat), run4 L c 3 4 2 2 = .yes
  | 0, c => x3422 c
  | L + 1, c => y3422 L c
theorem x3423 (c : Nat) : run4 0 c 3 4 2 3 = .yes := by kernel_rfl
theorem y3423 (L c : Nat) : run4 (L + 1) c 3 4 2 3 = .yes := by kernel_rfl
theorem g3423 : ∀ (L c : Nat), run4 L c 3 4 2 3 = .yes
  | 0, c => x3423 c
  | L + 1, c => y3423 L c
theorem x3424 (c : Nat) : run4 0 c 3 4 2 4 = .yes := by kernel_rfl
theorem y3424 (L c : Nat) : run4 (L + 1) c 3 4 2 4 = .yes := by kernel_rfl
theorem g3424 : ∀ (L c : Nat), run4 L c 3 4 2 4 = .yes
  | 0, c => x3424 c
  | L + 1, c => y3424 L c
theorem x3425 (c : Nat) : run4 0 c 3 4 2 5 = .yes := by kernel_rfl
theorem y3425 (L c : Nat) : run4 (L + 1) c 3 4 2 5 = .yes := by kernel_rfl
theorem g3425 : ∀ (L c : Nat), run4 L c 3 4 2 5 = .yes
  | 0, c => x3425 c
  | L + 1, c => y3425 L c
theorem h342 (L c : Nat) : ∀ x, x < 6 → run4 L c 3 4 2 x = .yes
  | 0, _ => g3420 L c
  | 1, _ => g3421 L c
  | 2, _ => g3422 L c
  | 3, _ => g3423 L c
  | 4, _ => g3424 L c
  | 5, _ => g3425 L c
  | x + 6, h => absurd h (by omega)
theorem x3430 (c : Nat) : run4 0 c 3 4 3 0 = .yes := by kernel_rfl
theorem y3430 (L c : Nat) : run4 (L + 1) c 3 4 3 0 = .yes := by kernel_rfl
theorem g3430 : ∀ (L c : Nat), run4 L c 3 4 3 0 = .yes
  | 0, c => x3430 c
  | L + 1, c => y3430 L c
theorem x3431 (c : Nat) : run4 0 c 3 4 3 1 = .yes := by kernel_rfl
theorem y3431 (L c : Nat) : run4 (L + 1) c 3 4 3 1 = .yes := by kernel_rfl
theorem g3431 : ∀ (L c : Nat), run4 L c 3 4 3 1 = .yes
  | 0, c => x3431 c
  | L + 1, c => y3431 L c
theorem x3432 (c : Nat) : run4 0 c 3 4 3 2 = .yes := by kernel_rfl
theorem y3432 (L c : Nat) : run4 (L + 1) c 3 4 3 2 = .yes := by kernel_rfl
theorem g3432 : ∀ (L c : Nat), run4 L c 3 4 3 2 = .yes
  | 0, c => x3432 c
  | L + 1, c => y3432 L c
theorem x3433 (c : Nat) : run4 0 c 3 4 3 3 = .yes := by kernel_rfl
theorem y3433 (L c : Nat) : run4 (L + 1) c 3 4 3 3 = .yes := by kernel_rfl
theorem g3433 : ∀ (L c : Nat), run4 L c 3 4 3 3 = .yes
  | 0, c => x3433 c
  | L + 1, c => y3433 L c
theorem x3434 (c : Nat) : run4 0 c 3 4 3 4 = .yes := by kernel_rfl
theorem y3434 (L c : Nat) : run4 (L + 1) c 3 4 3 4 = .yes := by kernel_rfl
theorem g3434 : ∀ (L c : Nat), run4 L c 3 4 3 4 = .yes
  | 0, c => x3434 c
  | L + 1, c => y3434 L c
theorem x3435 (c : Nat) : run4 0 c 3 4 3 5 = .yes := by kernel_rfl
theorem y3435 (L c : Nat) : run4 (L + 1) c 3 4 3 5 = .yes := by kernel_rfl
theorem g3435 : ∀ (L c : Nat), run4 L c 3 4 3 5 = .yes
  | 0, c => x3435 c
  | L + 1, c => y3435 L c
theorem h343 (L c : Nat) : ∀ x, x < 6 → run4 L c 3 4 3 x = .yes
  | 0, _ => g3430 L c
  | 1, _ => g3431 L c
  | 2, _ => g3432 L c
  | 3, _ => g3433 L c
  | 4, _ => g3434 L c
  | 5, _ => g3435 L c
  | x + 6, h => absurd h (by omega)
theorem x3440 (c : Nat) : run4 0 c 3 4 4 0 = .yes := by kernel_rfl
theorem y3440 (L c : Nat) : run4 (L + 1) c 3 4 4 0 = .yes := by kernel_rfl
theorem g3440 : ∀ (L c : Nat), run4 L c 3 4 4 0 = .yes
  | 0, c => x3440 c
  | L + 1, c => y3440 L c
theorem x3441 (c : Nat) : run4 0 c 3 4 4 1 = .yes := by kernel_rfl
theorem y3441 (L c : Nat) : run4 (L + 1) c 3 4 4 1 = .yes := by kernel_rfl
theorem g3441 : ∀ (L c : Nat), run4 L c 3 4 4 1 = .yes
  | 0, c => x3441 c
  | L + 1, c => y3441 L c
theorem x3442 (c : Nat) : run4 0 c 3 4 4 2 = .yes := by kernel_rfl
theorem y3442 (L c : Nat) : run4 (L + 1) c 3 4 4 2 = .yes := by kernel_rfl
theorem g3442 : ∀ (L c : Nat), run4 L c 3 4 4 2 = .yes
  | 0, c => x3442 c
  | L + 1, c => y3442 L c
theorem x3443 (c : Nat) : run4 0 c 3 4 4 3 = .yes := by kernel_rfl
theorem y3443 (L c : Nat) : run4 (L + 1) c 3 4 4 3 = .yes := by kernel_rfl
theorem g3443 : ∀ (L c : Nat), run4 L c 3 4 4 3 = .yes
  | 0, c => x3443 c
  | L + 1, c => y3443 L c
theorem x3444 (c : Nat) : run4 0 c 3 4 4 4 = .yes := by kernel_rfl
theorem y3444 (L c : Nat) : run4 (L + 1) c 3 4 4 4 = .yes := by kernel_rfl
theorem g3444 : ∀ (L c : Nat), run4 L c 3 4 4 4 = .yes
  | 0, c => x3444 c
  | L + 1, c => y3444 L c
theorem x3445 (c : Nat) : run4 0 c 3 4 4 5 = .yes := by kernel_rfl
theorem y3445 (L c : Nat) : run4 (L + 1) c 3 4 4 5 = .yes := by kernel_rfl
theorem g3445 : ∀ (L c : Nat), run4 L c 3 4 4 5 = .yes
  | 0, c => x3445 c
  | L + 1, c => y3445 L c
theorem h344 (L c : Nat) : ∀ x, x < 6 → run4 L c 3 4 4 x = .yes
  | 0, _ => g3440 L c
  | 1, _ => g3441 L c
  | 2, _ => g3442 L c
  | 3, _ => g3443 L c
  | 4, _ => g3444 L c
  | 5, _ => g3445 L c
  | x + 6, h => absurd h (by omega)
theorem x3450 (c : Nat) : run4 0 c 3 4 5 0 = .yes := by kernel_rfl
theorem y3450 (L c : Nat) : run4 (L + 1) c 3 4 5 0 = .yes := by kernel_rfl
theorem g3450 : ∀ (L c : Nat), run4 L c 3 4 5 0 = .yes
  | 0, c => x3450 c
  | L + 1, c => y3450 L c
theorem x3451 (c : Nat) : run4 0 c 3 4 5 1 = .yes := by kernel_rfl
theorem y3451 (L c : Nat) : run4 (L + 1) c 3 4 5 1 = .yes := by kernel_rfl
theorem g3451 : ∀ (L c : Nat), run4 L c 3 4 5 1 = .yes
  | 0, c => x3451 c
  | L + 1, c => y3451 L c
theorem x3452 (c : Nat) : run4 0 c 3 4 5 2 = .yes := by kernel_rfl
theorem y3452 (L c : Nat) : run4 (L + 1) c 3 4 5 2 = .yes := by kernel_rfl
theorem g3452 : ∀ (L c : Nat), run4 L c 3 4 5 2 = .yes
  | 0, c => x3452 c
  | L + 1, c => y3452 L c
theorem x3453 (c : Nat) : run4 0 c 3 4 5 3 = .yes := by kernel_rfl
theorem y3453 (L c : Nat) : run4 (L + 1) c 3 4 5 3 = .yes := by kernel_rfl
theorem g3453 : ∀ (L c : Nat), run4 L c 3 4 5 3 = .yes
  | 0, c => x3453 c
  | L + 1, c => y3453 L c
theorem x3454 (c : Nat) : run4 0 c 3 4 5 4 = .yes := by kernel_rfl
theorem y3454 (L c : Nat) : run4 (L + 1) c 3 4 5 4 = .yes := by kernel_rfl
theorem g3454 : ∀ (L c : Nat), run4 L c 3 4 5 4 = .yes
  | 0, c => x3454 c
  | L + 1, c => y3454 L c
theorem x3455 (c : Nat) : run4 0 c 3 4 5 5 = .yes := by kernel_rfl
theorem y3455 (L c : Nat) : run4 (L + 1) c 3 4 5 5 = .yes := by kernel_rfl
theorem g3455 : ∀ (L c : Nat), run4 L c 3 4 5 5 = .yes
  | 0, c => x3455 c
  | L + 1, c => y3455 L c
theorem h345 (L c : Nat) : ∀ x, x < 6 → run4 L c 3 4 5 x = .yes
  | 0, _ => g3450 L c
  | 1, _ => g3451 L c
  | 2, _ => g3452 L c
  | 3, _ => g3453 L c
  | 4, _ => g3454 L c
  | 5, _ => g3455 L c
  | x + 6, h => absurd h (by omega)
theorem hh34 (L c : Nat) : ∀ x, x < 6 → ∀ y, y < 6 → run4 L c 3 4 x y = .yes
  | 0, _ => h340 L c
  | 1, _ => h341 L c
  | 2, _ => h342 L c
  | 3, _ => h343 L c
  | 4, _ => h344 L c
  | 5, _ => h345 L c
  | x + 6, h => absurd h (by omega)
theorem x2100 (c : Nat) : run4 0 c 2 1 0 0 = .yes := by kernel_rfl
theorem y2100 (L c : Nat) : run4 (L + 1) c 2 1 0 0 = .yes := by kernel_rfl
theorem g2100 : ∀ (L c : Nat), run4 L c 2 1 0 0 = .yes
  | 0, c => x2100 c
  | L + 1, c => y2100 L c
theorem x2101 (c : Nat) : run4 0 c 2 1 0 1 = .yes := by kernel_rfl
theorem y2101 (L c : Nat) : run4 (L + 1) c 2 1 0 1 = .yes := by kernel_rfl
theorem g2101 : ∀ (L c : Nat), run4 L c 2 1 0 1 = .yes
  | 0, c => x2101 c
  | L + 1, c => y2101 L c
theorem x2102 (c : Nat) : run4 0 c 2 1 0 2 = .yes := by kernel_rfl
theorem y2102 (L c : Nat) : run4 (L + 1) c 2 1 0 2 = .yes := by kernel_rfl
theorem g2102 : ∀ (L c : Nat), run4 L c 2 1 0 2 = .yes
  | 0, c => x2102 c
  | L + 1, c => y2102 L c
theorem x2103 (c : Nat) : run4 0 c 2 1 0 3 = .yes := by kernel_rfl
theorem y2103 (L c : Nat) : run4 (L + 1) c 2 1 0 3 = .yes := by kernel_rfl
theorem g2103 : ∀ (L c : Nat), run4 L c 2 1 0 3 = .yes
  | 0, c => x2103 c
  | L + 1, c => y2103 L c
theorem x2104 (c : Nat) : run4 0 c 2 1 0 4 = .yes := by kernel_rfl
theorem y2104 (L c : Nat) : run4 (L + 1) c 2 1 0 4 = .yes := by kernel_rfl
theorem g2104 : ∀ (L c : Nat), run4 L c 2 1 0 4 = .yes
  | 0, c => x2104 c
  | L + 1, c => y2104 L c
theorem x2105 (c : Nat) : run4 0 c 2 1 0 5 = .yes := by kernel_rfl
theorem y2105 (L c : Nat) : run4 (L + 1) c 2 1 0 5 = .yes := by kernel_rfl
theorem g2105 : ∀ (L c : Nat), run4 L c 2 1 0 5 = .yes
  | 0, c => x2105 c
  | L + 1, c => y2105 L c
theorem h210 (L c : Nat) : ∀ x, x < 6 → run4 L c 2 1 0 x = .yes
  | 0, _ => g2100 L c
  | 1, _ => g2101 L c
  | 2, _ => g2102 L c
  | 3, _ => g2103 L c
  | 4, _ => g2104 L c
  | 5, _ => g2105 L c
  | x + 6, h => absurd h (by omega)
theorem x2110 (c : Nat) : run4 0 c 2 1 1 0 = .yes := by kernel_rfl
theorem y2110 (L c : Nat) : run4 (L + 1) c 2 1 1 0 = .yes := by kernel_rfl
theorem g2110 : ∀ (L c : Nat), run4 L c 2 1 1 0 = .yes
  | 0, c => x2110 c
  | L + 1, c => y2110 L c
theorem x2111 (c : Nat) : run4 0 c 2 1 1 1 = .yes := by kernel_rfl
theorem y2111 (L c : Nat) : run4 (L + 1) c 2 1 1 1 = .yes := by kernel_rfl
theorem g2111 : ∀ (L c : Nat), run4 L c 2 1 1 1 = .yes
  | 0, c => x2111 c
  | L + 1, c => y2111 L c
theorem x2112 (c : Nat) : run4 0 c 2 1 1 2 = .yes := by kernel_rfl
theorem y2112 (L c : Nat) : run4 (L + 1) c 2 1 1 2 = .yes := by kernel_rfl
theorem g2112 : ∀ (L c : Nat), run4 L c 2 1 1 2 = .yes
  | 0, c => x2112 c
  | L + 1, c => y2112 L c
theorem x2113 (c : Nat) : run4 0 c 2 1 1 3 = .yes := by kernel_rfl
theorem y2113 (L c : Nat) : run4 (L + 1) c 2 1 1 3 = .yes := by kernel_rfl
theorem g2113 : ∀ (L c : Nat), run4 L c 2 1 1 3 = .yes
  | 0, c => x2113 c
  | L + 1, c => y2113 L c
theorem x2114 (c : Nat) : run4 0 c 2 1 1 4 = .yes := by kernel_rfl
theorem y2114 (L c : Nat) : run4 (L + 1) c 2 1 1 4 = .yes := by kernel_rfl
theorem g2114 : ∀ (L c : Nat), run4 L c 2 1 1 4 = .yes
  | 0, c => x2114 c
  | L + 1, c => y2114 L c
theorem x2115 (c : Nat) : run4 0 c 2 1 1 5 = .yes := by kernel_rfl
theorem y2115 (L c : Nat) : run4 (L + 1) c 2 1 1 5 = .yes := by kernel_rfl
theorem g2115 : ∀ (L c : Nat), run4 L c 2 1 1 5 = .yes
  | 0, c => x2115 c
  | L + 1, c => y2115 L c
theorem h211 (L c : Nat) : ∀ x, x < 6 → run4 L c 2 1 1 x = .yes
  | 0, _ => g2110 L c
  | 1, _ => g2111 L c
  | 2, _ => g2112 L c
  | 3, _ => g2113 L c
  | 4, _ => g2114 L c
  | 5, _ => g2115 L c
  | x + 6, h => absurd h (by omega)
theorem x2120 (c : Nat) : run4 0 c 2 1 2 0 = .yes := by kernel_rfl
theorem y2120 (L c : Nat) : run4 (L + 1) c 2 1 2 0 = .yes := by kernel_rfl
theorem g2120 : ∀ (L c : Nat), run4 L c 2 1 2 0 = .yes
  | 0, c => x2120 c
  | L + 1, c => y2120 L c
theorem x2121 (c : Nat) : run4 0 c 2 1 2 1 = .yes := by kernel_rfl
theorem y2121 (L c : Nat) : run4 (L + 1) c 2 1 2 1 = .yes := by kernel_rfl
theorem g2121 : ∀ (L c : Nat), run4 L c 2 1 2 1 = .yes
  | 0, c => x2121 c
  | L + 1, c => y2121 L c
theorem x2122 (c : Nat) : run4 0 c 2 1 2 2 = .yes := by kernel_rfl
theorem y2122 (L c : Nat) : run4 (L + 1) c 2 1 2 2 = .yes := by kernel_rfl
theorem g2122 : ∀ (L c : Nat), run4 L c 2 1 2 2 = .yes
  | 0, c => x2122 c
  | L + 1, c => y2122 L c
theorem x2123 (c : Nat) : run4 0 c 2 1 2 3 = .yes := by kernel_rfl
theorem y2123 (L c : Nat) : run4 (L + 1) c 2 1 2 3 = .yes := by kernel_rfl
theorem g2123 : ∀ (L c : Nat), run4 L c 2 1 2 3 = .yes
  | 0, c => x2123 c
  | L + 1, c => y2123 L c
theorem x2124 (c : Nat) : run4 0 c 2 1 2 4 = .yes := by kernel_rfl
theorem y2124 (L c : Nat) : run4 (L + 1) c 2 1 2 4 = .yes := by kernel_rfl
theorem g2124 : ∀ (L c : Nat), run4 L c 2 1 2 4 = .yes
  | 0, c => x2124 c
  | L + 1, c => y2124 L c
theorem x2125 (c : Nat) : run4 0 c 2 1 2 5 = .yes := by kernel_rfl
theorem y2125 (L c : Nat) : run4 (L + 1) c 2 1 2 5 = .yes := by kernel_rfl
theorem g2125 : ∀ (L c : Nat), run4 L c 2 1 2 5 = .yes
  | 0, c => x2125 c
  | L + 1, c => y2125 L c
theorem h212 (L c : Nat) : ∀ x, x < 6 → run4 L c 2 1 2 x = .yes
  | 0, _ => g2120 L c
  | 1, _ => g2121 L c
  | 2, _ => g2122 L c
  | 3, _ => g2123 L c
  | 4, _ => g2124 L c
  | 5, _ => g2125 L c
  | x + 6, h => absurd h (by omega)
theorem x2130 (c : Nat) : run4 0 c 2 1 3 0 = .yes := by kernel_rfl
theorem y2130 (L c : Nat) : run4 (L + 1) c 2 1 3 0 = .yes := by kernel_rfl
theorem g2130 : ∀ (L c : Nat), run4 L c 2 1 3 0 = .yes
  | 0, c => x2130 c
  | L + 1, c => y2130 L c
theorem x2131 (c : Nat) : run4 0 c 2 1 3 1 = .yes := by kernel_rfl
theorem y2131 (L c : Nat) : run4 (L + 1) c 2 1 3 1 = .yes := by kernel_rfl
theorem g2131 : ∀ (L c : Nat), run4 L c 2 1 3 1 = .yes
  | 0, c => x2131 c
  | L + 1, c => y2131 L c
theorem x2132 (c : Nat) : run4 0 c 2 1 3 2 = .yes := by kernel_rfl
theorem y2132 (L c : Nat) : run4 (L + 1) c 2 1 3 2 = .yes := by kernel_rfl
theorem g2132 : ∀ (L c : Nat), run4 L c 2 1 3 2 = .yes
  | 0, c => x2132 c
  | L + 1, c => y2132 L c
theorem x2133 (c : Nat) : run4 0 c 2 1 3 3 = .yes := by kernel_rfl
theorem y2133 (L c : Nat) : run4 (L + 1) c 2 1 3 3 = .yes := by kernel_rfl
theorem g2133 : ∀ (L c : Nat), run4 L c 2 1 3 3 = .yes
  | 0, c => x2133 c
  | L + 1, c => y2133 L c
theorem x2134 (c : Nat) : run4 0 c 2 1 3 4 = .yes := by kernel_rfl
theorem y2134 (L c : Nat) : run4 (L + 1) c 2 1 3 4 = .yes := by kernel_rfl
theorem g2134 : ∀ (L c : Nat), run4 L c 2 1 3 4 = .yes
  | 0, c => x2134 c
  | L + 1, c => y2134 L c
theorem x2135 (c : Nat) : run4 0 c 2 1 3 5 = .yes := by kernel_rfl
theorem y2135 (L c : Nat) : run4 (L + 1) c 2 1 3 5 = .yes := by kernel_rfl
theorem g2135 : ∀ (L c : Nat), run4 L c 2 1 3 5 = .yes
  | 0, c => x2135 c
  | L + 1, c => y2135 L c
theorem h213 (L c : Nat) : ∀ x, x < 6 → run4 L c 2 1 3 x = .yes
  | 0, _ => g2130 L c
  | 1, _ => g2131 L c
  | 2, _ => g2132 L c
  | 3, _ => g2133 L c
  | 4, _ => g2134 L c
  | 5, _ => g2135 L c
  | x + 6, h => absurd h (by omega)
theorem x2140 (c : Nat) : run4 0 c 2 1 4 0 = .yes := by kernel_rfl
theorem y2140 (L c : Nat) : run4 (L + 1) c 2 1 4 0 = .yes := by kernel_rfl
theorem g2140 : ∀ (L c : Nat), run4 L c 2 1 4 0 = .yes
  | 0, c => x2140 c
  | L + 1, c => y2140 L c
theorem x2141 (c : Nat) : run4 0 c 2 1 4 1 = .yes := by kernel_rfl
theorem y2141 (L c : Nat) : run4 (L + 1) c 2 1 4 1 = .yes := by kernel_rfl
theorem g2141 : ∀ (L c : Nat), run4 L c 2 1 4 1 = .yes
  | 0, c => x2141 c
  | L + 1, c => y2141 L c
theorem x2142 (c : Nat) : run4 0 c 2 1 4 2 = .yes := by kernel_rfl
theorem y2142 (L c : Nat) : run4 (L + 1) c 2 1 4 2 = .yes := by kernel_rfl
theorem g2142 : ∀ (L c : Nat), run4 L c 2 1 4 2 = .yes
  | 0, c => x2142 c
  | L + 1, c => y2142 L c
theorem x2143 (c : Nat) : run4 0 c 2 1 4 3 = .yes := by kernel_rfl
theorem y2143 (L c : Nat) : run4 (L + 1) c 2 1 4 3 = .yes := by kernel_rfl
theorem g2143 : ∀ (L c : Nat), run4 L c 2 1 4 3 = .yes
  | 0, c => x2143 c
  | L + 1, c => y2143 L c
theorem x2144 (c : Nat) : run4 0 c 2 1 4 4 = .yes := by kernel_rfl
theorem y2144 (L c : Nat) : run4 (L + 1) c 2 1 4 4 = .yes := by kernel_rfl
theorem g2144 : ∀ (L c : Nat), run4 L c 2 1 4 4 = .yes
  | 0, c => x2144 c
  | L + 1, c => y2144 L c
theorem x2145 (c : Nat) : run4 0 c 2 1 4 5 = .yes := by kernel_rfl
theorem y2145 (L c : Nat) : run4 (L + 1) c 2 1 4 5 = .yes := by kernel_rfl
theorem g2145 : ∀ (L c : Nat), run4 L c 2 1 4 5 = .yes
  | 0, c => x2145 c
  | L + 1, c => y2145 L c
theorem h214 (L c : Nat) : ∀ x, x < 6 → run4 L c 2 1 4 x = .yes
  | 0, _ => g2140 L c
  | 1, _ => g2141 L c
  | 2, _ => g2142 L c
  | 3, _ => g2143 L c
  | 4, _ => g2144 L c
  | 5, _ => g2145 L c
  | x + 6, h => absurd h (by omega)
theorem x2150 (c : Nat) : run4 0 c 2 1 5 0 = .yes := by kernel_rfl
theorem y2150 (L c : Nat) : run4 (L + 1) c 2 1 5 0 = .yes := by kernel_rfl
theorem g2150 : ∀ (L c : Nat), run4 L c 2 1 5 0 = .yes
  | 0, c => x2150 c
  | L + 1, c => y2150 L c
theorem x2151 (c : Nat) : run4 0 c 2 1 5 1 = .yes := by kernel_rfl
theorem y2151 (L c : Nat) : run4 (L + 1) c 2 1 5 1 = .yes := by kernel_rfl
theorem g2151 : ∀ (L c : Nat), run4 L c 2 1 5 1 = .yes
  | 0, c => x2151 c
  | L + 1, c => y2151 L c
theorem x2152 (c : Nat) : run4 0 c 2 1 5 2 = .yes := by kernel_rfl
theorem y2152 (L c : Nat) : run4 (L + 1) c 2 1 5 2 = .yes := by kernel_rfl
theorem g2152 : ∀ (L c : Nat), run4 L c 2 1 5 2 = .yes
  | 0, c => x2152 c
  | L + 1, c => y2152 L c
theorem x2153 (c : Nat) : run4 0 c 2 1 5 3 = .yes := by kernel_rfl
theorem y2153 (L c : Nat) : run4 (L + 1) c 2 1 5 3 = .yes := by kernel_rfl
theorem g2153 : ∀ (L c : Nat), run4 L c 2 1 5 3 = .yes
  | 0, c => x2153 c
  | L + 1, c => y2153 L c
theorem x2154 (c : Nat) : run4 0 c 2 1 5 4 = .yes := by kernel_rfl
theorem y2154 (L c : Nat) : run4 (L + 1) c 2 1 5 4 = .yes := by kernel_rfl
theorem g2154 : ∀ (L c : Nat), run4 L c 2 1 5 4 = .yes
  | 0, c => x2154 c
  | L + 1, c => y2154 L c
theorem x2155 (c : Nat) : run4 0 c 2 1 5 5 = .yes := by kernel_rfl
theorem y2155 (L c : Nat) : run4 (L + 1) c 2 1 5 5 = .yes := by kernel_rfl
theorem g2155 : ∀ (L c : Nat), run4 L c 2 1 5 5 = .yes
  | 0, c => x2155 c
  | L + 1, c => y2155 L c
theorem h215 (L c : Nat) : ∀ x, x < 6 → run4 L c 2 1 5 x = .yes
  | 0, _ => g2150 L c
  | 1, _ => g2151 L c
  | 2, _ => g2152 L c
  | 3, _ => g2153 L c
  | 4, _ => g2154 L c
  | 5, _ => g2155 L c
  | x + 6, h => absurd h (by omega)
theorem hh21 (L c : Nat) : ∀ x, x < 6 → ∀ y, y < 6 → run4 L c 2 1 x y = .yes
  | 0, _ => h210 L c
  | 1, _ => h211 L c
  | 2, _ => h212 L c
  | 3, _ => h213 L c
  | 4, _ => h214 L c
  | 5, _ => h215 L c
  | x + 6, h => absurd h (by omega)
end Go.Proofs.YtojbfaigebpnpaaDoor.ecoThreadsq
