/-
  The law EcoThreads at some of its cases: the run over the program ends in true. Conditions: none; these are closed facts.
-/
import Derived.Test.YtojbfaigebpnpaaDoorEcoThreadsA
namespace Go.Proofs.YtojbfaigebpnpaaDoor.ecoThreadsq
open Go.Rn Go.RowKit YtojbfaigebpnpaaDoor.txt
set_option maxHeartbeats 400000000
theorem x5400 (c : Nat) : run4 0 c 5 4 0 0 = .yes := by kernel_rfl
theorem y5400 (L c : Nat) : run4 (L + 1) c 5 4 0 0 = .yes := by kernel_rfl
theorem g5400 : ∀ (L c : Nat), run4 L c 5 4 0 0 = .yes
  | 0, c => x5400 c
  | L + 1, c => y5400 L c
theorem x5401 (c : Nat) : run4 0 c 5 4 0 1 = .yes := by kernel_rfl
theorem y5401 (L c : Nat) : run4 (L + 1) c 5 4 0 1 = .yes := by kernel_rfl
theorem g5401 : ∀ (L c : Nat), run4 L c 5 4 0 1 = .yes
  | 0, c => x5401 c
  | L + 1, c => y5401 L c
theorem x5402 (c : Nat) : run4 0 c 5 4 0 2 = .yes := by kernel_rfl
theorem y5402 (L c : Nat) : run4 (L + 1) c 5 4 0 2 = .yes := by kernel_rfl
theorem g5402 : ∀ (L c : Nat), run4 L c 5 4 0 2 = .yes
  | 0, c => x5402 c
  | L + 1, c => y5402 L c
theorem x5403 (c : Nat) : run4 0 c 5 4 0 3 = .yes := by kernel_rfl
theorem y5403 (L c : Nat) : run4 (L + 1) c 5 4 0 3 = .yes := by kernel_rfl
theorem g5403 : ∀ (L c : Nat), run4 L c 5 4 0 3 = .yes
  | 0, c => x5403 c
  | L + 1, c => y5403 L c
theorem x5404 (c : Nat) : run4 0 c 5 4 0 4 = .yes := by kernel_rfl
theorem y5404 (L c : Nat) : run4 (L + 1) c 5 4 0 4 = .yes := by kernel_rfl
theorem g5404 : ∀ (L c : Nat), run4 L c 5 4 0 4 = .yes
  | 0, c => x5404 c
  | L + 1, c => y5404 L c
theorem x5405 (c : Nat) : run4 0 c 5 4 0 5 = .yes := by kernel_rfl
theorem y5405 (L c : Nat) : run4 (L + 1) c 5 4 0 5 = .yes := by kernel_rfl
theorem g5405 : ∀ (L c : Nat), run4 L c 5 4 0 5 = .yes
  | 0, c => x5405 c
  | L + 1, c => y5405 L c
theorem h540 (L c : Nat) : ∀ x, x < 6 → run4 L c 5 4 0 x = .yes
  | 0, _ => g5400 L c
  | 1, _ => g5401 L c
  | 2, _ => g5402 L c
  | 3, _ => g5403 L c
  | 4, _ => g5404 L c
  | 5, _ => g5405 L c
  | x + 6, h => absurd h (by omega)
theorem x5410 (c : Nat) : run4 0 c 5 4 1 0 = .yes := by kernel_rfl
theorem y5410 (L c : Nat) : run4 (L + 1) c 5 4 1 0 = .yes := by kernel_rfl
theorem g5410 : ∀ (L c : Nat), run4 L c 5 4 1 0 = .yes
  | 0, c => x5410 c
  | L + 1, c => y5410 L c
theorem x5411 (c : Nat) : run4 0 c 5 4 1 1 = .yes := by kernel_rfl
theorem y5411 (L c : Nat) : run4 (L + 1) c 5 4 1 1 = .yes := by kernel_rfl
theorem g5411 : ∀ (L c : Nat), run4 L c 5 4 1 1 = .yes
  | 0, c => x5411 c
  | L + 1, c => y5411 L c
theorem x5412 (c : Nat) : run4 0 c 5 4 1 2 = .yes := by kernel_rfl
theorem y5412 (L c : Nat) : run4 (L + 1) c 5 4 1 2 = .yes := by kernel_rfl
theorem g5412 : ∀ (L c : Nat), run4 L c 5 4 1 2 = .yes
  | 0, c => x5412 c
  | L + 1, c => y5412 L c
theorem x5413 (c : Nat) : run4 0 c 5 4 1 3 = .yes := by kernel_rfl
theorem y5413 (L c : Nat) : run4 (L + 1) c 5 4 1 3 = .yes := by kernel_rfl
theorem g5413 : ∀ (L c : Nat), run4 L c 5 4 1 3 = .yes
  | 0, c => x5413 c
  | L + 1, c => y5413 L c
theorem x5414 (c : Nat) : run4 0 c 5 4 1 4 = .yes := by kernel_rfl
theorem y5414 (L c : Nat) : run4 (L + 1) c 5 4 1 4 = .yes := by kernel_rfl
theorem g5414 : ∀ (L c : Nat), run4 L c 5 4 1 4 = .yes
  | 0, c => x5414 c
  | L + 1, c => y5414 L c
theorem x5415 (c : Nat) : run4 0 c 5 4 1 5 = .yes := by kernel_rfl
theorem y5415 (L c : Nat) : run4 (L + 1) c 5 4 1 5 = .yes := by kernel_rfl
theorem g5415 : ∀ (L c : Nat), run4 L c 5 4 1 5 = .yes
  | 0, c => x5415 c
  | L + 1, c => y5415 L c
theorem h541 (L c : Nat) : ∀ x, x < 6 → run4 L c 5 4 1 x = .yes
  | 0, _ => g5410 L c
  | 1, _ => g5411 L c
  | 2, _ => g5412 L c
  | 3, _ => g5413 L c
  | 4, _ => g5414 L c
  | 5, _ => g5415 L c
  | x + 6, h => absurd h (by omega)
theorem x5420 (c : Nat) : run4 0 c 5 4 2 0 = .yes := by kernel_rfl
theorem y5420 (L c : Nat) : run4 (L + 1) c 5 4 2 0 = .yes := by kernel_rfl
theorem g5420 : ∀ (L c : Nat), run4 L c 5 4 2 0 = .yes
  | 0, c => x5420 c
  | L + 1, c => y5420 L c
theorem x5421 (c : Nat) : run4 0 c 5 4 2 1 = .yes := by kernel_rfl
theorem y5421 (L c : Nat) : run4 (L + 1) c 5 4 2 1 = .yes := by kernel_rfl
theorem g5421 : ∀ (L c : Nat), run4 L c 5 4 2 1 = .yes
  | 0, c => x5421 c
  | L + 1, c => y5421 L c
theorem x5422 (c : Nat) : run4 0 c 5 4 2 2 = .yes := by kernel_rfl
theorem y5422 (L c : Nat) : run4 (L + 1) c 5 4 2 2 = .yes := by kernel_rfl
theorem g5422 : ∀ (L c : Nat), run4 L c 5 4 2 2 = .yes
  | 0, c => x5422 c
  | L + 1, c => y5422 L c
theorem x5423 (c : Nat) : run4 0 c 5 4 2 3 = .yes := by kernel_rfl
theorem y5423 (L c : Nat) : run4 (L + 1) c 5 4 2 3 = .yes := by kernel_rfl
theorem g5423 : ∀ (L c : Nat), run4 L c 5 4 2 3 = .yes
  | 0, c => x5423 c
  | L + 1, c => y5423 L c
theorem x5424 (c : Nat) : run4 0 c 5 4 2 4 = .yes := by kernel_rfl
theorem y5424 (L c : Nat) : run4 (L + 1) c 5 4 2 4 = .yes := by kernel_rfl
theorem g5424 : ∀ (L c : Nat), run4 L c 5 4 2 4 = .yes
  | 0, c => x5424 c
  | L + 1, c => y5424 L c
theorem x5425 (c : Nat) : run4 0 c 5 4 2 5 = .yes := by kernel_rfl
theorem y5425 (L c : Nat) : run4 (L + 1) c 5 4 2 5 = .yes := by kernel_rfl
theorem g5425 : ∀ (L c : Nat), run4 L c 5 4 2 5 = .yes
  | 0, c => x5425 c
  | L + 1, c => y5425 L c
theorem h542 (L c : Nat) : ∀ x, x < 6 → run4 L c 5 4 2 x = .yes
  | 0, _ => g5420 L c
  | 1, _ => g5421 L c
  | 2, _ => g5422 L c
  | 3, _ => g5423 L c
  | 4, _ => g5424 L c
  | 5, _ => g5425 L c
  | x + 6, h => absurd h (by omega)
theorem x5430 (c : Nat) : run4 0 c 5 4 3 0 = .yes := by kernel_rfl
theorem y5430 (L c : Nat) : run4 (L + 1) c 5 4 3 0 = .yes := by kernel_rfl
theorem g5430 : ∀ (L c : Nat), run4 L c 5 4 3 0 = .yes
  | 0, c => x5430 c
  | L + 1, c => y5430 L c
theorem x5431 (c : Nat) : run4 0 c 5 4 3 1 = .yes := by kernel_rfl
theorem y5431 (L c : Nat) : run4 (L + 1) c 5 4 3 1 = .yes := by kernel_rfl
theorem g5431 : ∀ (L c : Nat), run4 L c 5 4 3 1 = .yes
  | 0, c => x5431 c
  | L + 1, c => y5431 L c
theorem x5432 (c : Nat) : run4 0 c 5 4 3 2 = .yes := by kernel_rfl
theorem y5432 (L c : Nat) : run4 (L + 1) c 5 4 3 2 = .yes := by kernel_rfl
theorem g5432 : ∀ (L c : Nat), run4 L c 5 4 3 2 = .yes
  | 0, c => x5432 c
  | L + 1, c => y5432 L c
theorem x5433 (c : Nat) : run4 0 c 5 4 3 3 = .yes := by kernel_rfl
theorem y5433 (L c : Nat) : run4 (L + 1) c 5 4 3 3 = .yes := by kernel_rfl
theorem g5433 : ∀ (L c : Nat), run4 L c 5 4 3 3 = .yes
  | 0, c => x5433 c
  | L + 1, c => y5433 L c
theorem x5434 (c : Nat) : run4 0 c 5 4 3 4 = .yes := by kernel_rfl
theorem y5434 (L c : Nat) : run4 (L + 1) c 5 4 3 4 = .yes := by kernel_rfl
theorem g5434 : ∀ (L c : Nat), run4 L c 5 4 3 4 = .yes
  | 0, c => x5434 c
  | L + 1, c => y5434 L c
theorem x5435 (c : Nat) : run4 0 c 5 4 3 5 = .yes := by kernel_rfl
theorem y5435 (L c : Nat) : run4 (L + 1) c 5 4 3 5 = .yes := by kernel_rfl
theorem g5435 : ∀ (L c : Nat), run4 L c 5 4 3 5 = .yes
  | 0, c => x5435 c
  | L + 1, c => y5435 L c
theorem h543 (L c : Nat) : ∀ x, x < 6 → run4 L c 5 4 3 x = .yes
  | 0, _ => g5430 L c
  | 1, _ => g5431 L c
  | 2, _ => g5432 L c
  | 3, _ => g5433 L c
  | 4, _ => g5434 L c
  | 5, _ => g5435 L c
  | x + 6, h => absurd h (by omega)
theorem x5440 (c : Nat) : run4 0 c 5 4 4 0 = .yes := by kernel_rfl
theorem y5440 (L c : Nat) : run4 (L + 1) c 5 4 4 0 = .yes := by kernel_rfl
theorem g5440 : ∀ (L c : Nat), run4 L c 5 4 4 0 = .yes
  | 0, c => x5440 c
  | L + 1, c => y5440 L c
theorem x5441 (c : Nat) : run4 0 c 5 4 4 1 = .yes := by kernel_rfl
theorem y5441 (L c : Nat) : run4 (L + 1) c 5 4 4 1 = .yes := by kernel_rfl
theorem g5441 : ∀ (L c : Nat), run4 L c 5 4 4 1 = .yes
  | 0, c => x5441 c
  | L + 1, c => y5441 L c
theorem x5442 (c : Nat) : run4 0 c 5 4 4 2 = .yes := by kernel_rfl
theorem y5442 (L c : Nat) : run4 (L + 1) c 5 4 4 2 = .yes := by kernel_rfl
theorem g5442 : ∀ (L c : Nat), run4 L c 5 4 4 2 = .yes
  | 0, c => x5442 c
  | L + 1, c => y5442 L c
theorem x5443 (c : Nat) : run4 0 c 5 4 4 3 = .yes := by kernel_rfl
theorem y5443 (L c : Nat) : run4 (L + 1) c 5 4 4 3 = .yes := by kernel_rfl
theorem g5443 : ∀ (L c : Nat), run4 L c 5 4 4 3 = .yes
  | 0, c => x5443 c
  | L + 1, c => y5443 L c
theorem x5444 (c : Nat) : run4 0 c 5 4 4 4 = .yes := by kernel_rfl
theorem y5444 (L c : Nat) : run4 (L + 1) c 5 4 4 4 = .yes := by kernel_rfl
theorem g5444 : ∀ (L c : Nat), run4 L c 5 4 4 4 = .yes
  | 0, c => x5444 c
  | L + 1, c => y5444 L c
theorem x5445 (c : Nat) : run4 0 c 5 4 4 5 = .yes := by kernel_rfl
theorem y5445 (L c : Nat) : run4 (L + 1) c 5 4 4 5 = .yes := by kernel_rfl
theorem g5445 : ∀ (L c : Nat), run4 L c 5 4 4 5 = .yes
  | 0, c => x5445 c
  | L + 1, c => y5445 L c
theorem h544 (L c : Nat) : ∀ x, x < 6 → run4 L c 5 4 4 x = .yes
  | 0, _ => g5440 L c
  | 1, _ => g5441 L c
  | 2, _ => g5442 L c
  | 3, _ => g5443 L c
  | 4, _ => g5444 L c
  | 5, _ => g5445 L c
  | x + 6, h => absurd h (by omega)
theorem x5450 (c : Nat) : run4 0 c 5 4 5 0 = .yes := by kernel_rfl
theorem y5450 (L c : Nat) : run4 (L + 1) c 5 4 5 0 = .yes := by kernel_rfl
theorem g5450 : ∀ (L c : Nat), run4 L c 5 4 5 0 = .yes
  | 0, c => x5450 c
  | L + 1, c => y5450 L c
theorem x5451 (c : Nat) : run4 0 c 5 4 5 1 = .yes := by kernel_rfl
theorem y5451 (L c : Nat) : run4 (L + 1) c 5 4 5 1 = .yes := by kernel_rfl
theorem g5451 : ∀ (L c : Nat), run4 L c 5 4 5 1 = .yes
  | 0, c => x5451 c
  | L + 1, c => y5451 L c
theorem x5452 (c : Nat) : run4 0 c 5 4 5 2 = .yes := by kernel_rfl
theorem y5452 (L c : Nat) : run4 (L + 1) c 5 4 5 2 = .yes := by kernel_rfl
theorem g5452 : ∀ (L c : Nat), run4 L c 5 4 5 2 = .yes
  | 0, c => x5452 c
  | L + 1, c => y5452 L c
theorem x5453 (c : Nat) : run4 0 c 5 4 5 3 = .yes := by kernel_rfl
theorem y5453 (L c : Nat) : run4 (L + 1) c 5 4 5 3 = .yes := by kernel_rfl
theorem g5453 : ∀ (L c : Nat), run4 L c 5 4 5 3 = .yes
  | 0, c => x5453 c
  | L + 1, c => y5453 L c
theorem x5454 (c : Nat) : run4 0 c 5 4 5 4 = .yes := by kernel_rfl
theorem y5454 (L c : Nat) : run4 (L + 1) c 5 4 5 4 = .yes := by kernel_rfl
theorem g5454 : ∀ (L c : Nat), run4 L c 5 4 5 4 = .yes
  | 0, c => x5454 c
  | L + 1, c => y5454 L c
theorem x5455 (c : Nat) : run4 0 c 5 4 5 5 = .yes := by kernel_rfl
theorem y5455 (L c : Nat) : run4 (L + 1) c 5 4 5 5 = .yes := by kernel_rfl
theorem g5455 : ∀ (L c : Nat), run4 L c 5 4 5 5 = .yes
  | 0, c => x5455 c
  | L + 1, c => y5455 L c
theorem h545 (L c : Nat) : ∀ x, x < 6 → run4 L c 5 4 5 x = .yes
  | 0, _ => g5450 L c
  | 1, _ => g5451 L c
  | 2, _ => g5452 L c
  | 3, _ => g5453 L c
  | 4, _ => g5454 L c
  | 5, _ => g5455 L c
  | x + 6, h => absurd h (by omega)
theorem hh54 (L c : Nat) : ∀ x, x < 6 → ∀ y, y < 6 → run4 L c 5 4 x y = .yes
  | 0, _ => h540 L c
  | 1, _ => h541 L c
  | 2, _ => h542 L c
  | 3, _ => h543 L c
  | 4, _ => h544 L c
  | 5, _ => h545 L c
  | x + 6, h => absurd h (by omega)
theorem x0100 (c : Nat) : run4 0 c 0 1 0 0 = .yes := by kernel_rfl
theorem y0100 (L c : Nat) : run4 (L + 1) c 0 1 0 0 = .yes := by kernel_rfl
theorem g0100 : ∀ (L c : Nat), run4 L c 0 1 0 0 = .yes
  | 0, c => x0100 c
  | L + 1, c => y0100 L c
theorem x0101 (c : Nat) : run4 0 c 0 1 0 1 = .yes := by kernel_rfl
theorem y0101 (L c : Nat) : run4 (L + 1) c 0 1 0 1 = .yes := by kernel_rfl
theorem g0101 : ∀ (L c : Nat), run4 L c 0 1 0 1 = .yes
  | 0, c => x0101 c
  | L + 1, c => y0101 L c
theorem x0102 (c : Nat) : run4 0 c 0 1 0 2 = .yes := by kernel_rfl
theorem y0102 (L c : Nat) : run4 (L + 1) c 0 1 0 2 = .yes := by kernel_rfl
theorem g0102 : ∀ (L c : Nat), run4 L c 0 1 0 2 = .yes
  | 0, c => x0102 c
  | L + 1, c => y0102 L c
theorem x0103 (c : Nat) : run4 0 c 0 1 0 3 = .yes := by kernel_rfl
theorem y0103 (L c : Nat) : run4 (L + 1) c 0 1 0 3 = .yes := by kernel_rfl
theorem g0103 : ∀ (L c : Nat), run4 L c 0 1 0 3 = .yes
  | 0, c => x0103 c
  | L + 1, c => y0103 L c
theorem x0104 (c : Nat) : run4 0 c 0 1 0 4 = .yes := by kernel_rfl
theorem y0104 (L c : Nat) : run4 (L + 1) c 0 1 0 4 = .yes := by kernel_rfl
theorem g0104 : ∀ (L c : Nat), run4 L c 0 1 0 4 = .yes
  | 0, c => x0104 c
  | L + 1, c => y0104 L c
theorem x0105 (c : Nat) : run4 0 c 0 1 0 5 = .yes := by kernel_rfl
theorem y0105 (L c : Nat) : run4 (L + 1) c 0 1 0 5 = .yes := by kernel_rfl
theorem g0105 : ∀ (L c : Nat), run4 L c 0 1 0 5 = .yes
  | 0, c => x0105 c
  | L + 1, c => y0105 L c
theorem h010 (L c : Nat) : ∀ x, x < 6 → run4 L c 0 1 0 x = .yes
  | 0, _ => g0100 L c
  | 1, _ => g0101 L c
  | 2, _ => g0102 L c
  | 3, _ => g0103 L c
  | 4, _ => g0104 L c
  | 5, _ => g0105 L c
  | x + 6, h => absurd h (by omega)
theorem x0110 (c : Nat) : run4 0 c 0 1 1 0 = .yes := by kernel_rfl
theorem y0110 (L c : Nat) : run4 (L + 1) c 0 1 1 0 = .yes := by kernel_rfl
theorem g0110 : ∀ (L c : Nat), run4 L c 0 1 1 0 = .yes
  | 0, c => x0110 c
  | L + 1, c => y0110 L c
theorem x0111 (c : Nat) : run4 0 c 0 1 1 1 = .yes := by kernel_rfl
theorem y0111 (L c : Nat) : run4 (L + 1) c 0 1 1 1 = .yes := by kernel_rfl
theorem g0111 : ∀ (L c : Nat), run4 L c 0 1 1 1 = .yes
  | 0, c => x0111 c
  | L + 1, c => y0111 L c
theorem x0112 (c : Nat) : run4 0 c 0 1 1 2 = .yes := by kernel_rfl
theorem y0112 (L c : Nat) : run4 (L + 1) c 0 1 1 2 = .yes := by kernel_rfl
theorem g0112 : ∀ (L c : Nat), run4 L c 0 1 1 2 = .yes
  | 0, c => x0112 c
  | L + 1, c => y0112 L c
theorem x0113 (c : Nat) : run4 0 c 0 1 1 3 = .yes := by kernel_rfl
theorem y0113 (L c : Nat) : run4 (L + 1) c 0 1 1 3 = .yes := by kernel_rfl
theorem g0113 : ∀ (L c : Nat), run4 L c 0 1 1 3 = .yes
  | 0, c => x0113 c
  | L + 1, c => y0113 L c
theorem x0114 (c : Nat) : run4 0 c 0 1 1 4 = .yes := by kernel_rfl
theorem y0114 (L c : Nat) : run4 (L + 1) c 0 1 1 4 = .yes := by kernel_rfl
theorem g0114 : ∀ (L c : Nat), run4 L c 0 1 1 4 = .yes
  | 0, c => x0114 c
  | L + 1, c => y0114 L c
theorem x0115 (c : Nat) : run4 0 c 0 1 1 5 = .yes := by kernel_rfl
theorem y0115 (L c : Nat) : run4 (L + 1) c 0 1 1 5 = .yes := by kernel_rfl
theorem g0115 : ∀ (L c : Nat), run4 L c 0 1 1 5 = .yes
  | 0, c => x0115 c
  | L + 1, c => y0115 L c
theorem h011 (L c : Nat) : ∀ x, x < 6 → run4 L c 0 1 1 x = .yes
  | 0, _ => g0110 L c
  | 1, _ => g0111 L c
  | 2, _ => g0112 L c
  | 3, _ => g0113 L c
  | 4, _ => g0114 L c
  | 5, _ => g0115 L c
  | x + 6, h => absurd h (by omega)
theorem x0120 (c : Nat) : run4 0 c 0 1 2 0 = .yes := by kernel_rfl
theorem y0120 (L c : Nat) : run4 (L + 1) c 0 1 2 0 = .yes := by kernel_rfl
theorem g0120 : ∀ (L c : Nat), run4 L c 0 1 2 0 = .yes
  | 0, c => x0120 c
  | L + 1, c => y0120 L c
theorem x0121 (c : Nat) : run4 0 c 0 1 2 1 = .yes := by kernel_rfl
theorem y0121 (L c : Nat) : run4 (L + 1) c 0 1 2 1 = .yes := by kernel_rfl
theorem g0121 : ∀ (L c : Nat), run4 L c 0 1 2 1 = .yes
  | 0, c => x0121 c
  | L + 1, c => y0121 L c
theorem x0122 (c : Nat) : run4 0 c 0 1 2 2 = .yes := by kernel_rfl
theorem y0122 (L c : Nat) : run4 (L + 1) c 0 1 2 2 = .yes := by kernel_rfl
theorem g0122 : ∀ (L c : Nat), run4 L c 0 1 2 2 = .yes
  | 0, c => x0122 c
  | L + 1, c => y0122 L c
theorem x0123 (c : Nat) : run4 0 c 0 1 2 3 = .yes := by kernel_rfl
theorem y0123 (L c : Nat) : run4 (L + 1) c 0 1 2 3 = .yes := by kernel_rfl
theorem g0123 : ∀ (L c : Nat), run4 L c 0 1 2 3 = .yes
  | 0, c => x0123 c
  | L + 1, c => y0123 L c
theorem x0124 (c : Nat) : run4 0 c 0 1 2 4 = .yes := by kernel_rfl
theorem y0124 (L c : Nat) : run4 (L + 1) c 0 1 2 4 = .yes := by kernel_rfl
theorem g0124 : ∀ (L c : Nat), run4 L c 0 1 2 4 = .yes
  | 0, c => x0124 c
  | L + 1, c => y0124 L c
theorem x0125 (c : Nat) : run4 0 c 0 1 2 5 = .yes := by kernel_rfl
theorem y0125 (L c : Nat) : run4 (L + 1) c 0 1 2 5 = .yes := by kernel_rfl
theorem g0125 : ∀ (L c : Nat), run4 L c 0 1 2 5 = .yes
  | 0, c => x0125 c
  | L + 1, c => y0125 L c
theorem h012 (L c : Nat) : ∀ x, x < 6 → run4 L c 0 1 2 x = .yes
  | 0, _ => g0120 L c
  | 1, _ => g0121 L c
  | 2, _ => g0122 L c
  | 3, _ => g0123 L c
  | 4, _ => g0124 L c
  | 5, _ => g0125 L c
  | x + 6, h => absurd h (by omega)
theorem x0130 (c : Nat) : run4 0 c 0 1 3 0 = .yes := by kernel_rfl
theorem y0130 (L c : Nat) : run4 (L + 1) c 0 1 3 0 = .yes := by kernel_rfl
theorem g0130 : ∀ (L c : Nat), run4 L c 0 1 3 0 = .yes
  | 0, c => x0130 c
  | L + 1, c => y0130 L c
theorem x0131 (c : Nat) : run4 0 c 0 1 3 1 = .yes := by kernel_rfl
theorem y0131 (L c : Nat) : run4 (L + 1) c 0 1 3 1 = .yes := by kernel_rfl
theorem g0131 : ∀ (L c : Nat), run4 L c 0 1 3 1 = .yes
  | 0, c => x0131 c
  | L + 1, c => y0131 L c
theorem x0132 (c : Nat) : run4 0 c 0 1 3 2 = .yes := by kernel_rfl
theorem y0132 (L c : Nat) : run4 (L + 1) c 0 1 3 2 = .yes := by kernel_rfl
theorem g0132 : ∀ (L c : Nat), run4 L c 0 1 3 2 = .yes
  | 0, c => x0132 c
  | L + 1, c => y0132 L c
theorem x0133 (c : Nat) : run4 0 c 0 1 3 3 = .yes := by kernel_rfl
theorem y0133 (L c : Nat) : run4 (L + 1) c 0 1 3 3 = .yes := by kernel_rfl
theorem g0133 : ∀ (L c : Nat), run4 L c 0 1 3 3 = .yes
  | 0, c => x0133 c
  | L + 1, c => y0133 L c
theorem x0134 (c : Nat) : run4 0 c 0 1 3 4 = .yes := by kernel_rfl
theorem y0134 (L c : Nat) : run4 (L + 1) c 0 1 3 4 = .yes := by kernel_rfl
theorem g0134 : ∀ (L c : Nat), run4 L c 0 1 3 4 = .yes
  | 0, c => x0134 c
  | L + 1, c => y0134 L c
theorem x0135 (c : Nat) : run4 0 c 0 1 3 5 = .yes := by kernel_rfl
theorem y0135 (L c : Nat) : run4 (L + 1) c 0 1 3 5 = .yes := by kernel_rfl
theorem g0135 : ∀ (L c : Nat), run4 L c 0 1 3 5 = .yes
  | 0, c => x0135 c
  | L + 1, c => y0135 L c
theorem h013 (L c : Nat) : ∀ x, x < 6 → run4 L c 0 1 3 x = .yes
  | 0, _ => g0130 L c
  | 1, _ => g0131 L c
  | 2, _ => g0132 L c
  | 3, _ => g0133 L c
  | 4, _ => g0134 L c
  | 5, _ => g0135 L c
  | x + 6, h => absurd h (by omega)
theorem x0140 (c : Nat) : run4 0 c 0 1 4 0 = .yes := by kernel_rfl
theorem y0140 (L c : Nat) : run4 (L + 1) c 0 1 4 0 = .yes := by kernel_rfl
theorem g0140 : ∀ (L c : Nat), run4 L c 0 1 4 0 = .yes
  | 0, c => x0140 c
  | L + 1, c => y0140 L c
theorem x0141 (c : Nat) : run4 0 c 0 1 4 1 = .yes := by kernel_rfl
theorem y0141 (L c : Nat) : run4 (L + 1) c 0 1 4 1 = .yes := by kernel_rfl
theorem g0141 : ∀ (L c : Nat), run4 L c 0 1 4 1 = .yes
  | 0, c => x0141 c
  | L + 1, c => y0141 L c
theorem x0142 (c : Nat) : run4 0 c 0 1 4 2 = .yes := by kernel_rfl
theorem y0142 (L c : Nat) : run4 (L + 1) c 0 1 4 2 = .yes := by kernel_rfl
theorem g0142 : ∀ (L c : Nat), run4 L c 0 1 4 2 = .yes
  | 0, c => x0142 c
  | L + 1, c => y0142 L c
theorem x0143 (c : Nat) : run4 0 c 0 1 4 3 = .yes := by kernel_rfl
theorem y0143 (L c : Nat) : run4 (L + 1) c 0 1 4 3 = .yes := by kernel_rfl
theorem g0143 : ∀ (L c : Nat), run4 L c 0 1 4 3 = .yes
  | 0, c => x0143 c
  | L + 1, c => y0143 L c
theorem x0144 (c : Nat) : run4 0 c 0 1 4 4 = .yes := by kernel_rfl
theorem y0144 (L c : Nat) : run4 (L + 1) c 0 1 4 4 = .yes := by kernel_rfl
theorem g0144 : ∀ (L c : Nat), run4 L c 0 1 4 4 = .yes
  | 0, c => x0144 c
  | L + 1, c => y0144 L c
theorem x0145 (c : Nat) : run4 0 c 0 1 4 5 = .yes := by kernel_rfl
theorem y0145 (L c : Nat) : run4 (L + 1) c 0 1 4 5 = .yes := by kernel_rfl
theorem g0145 : ∀ (L c : Nat), run4 L c 0 1 4 5 = .yes
  | 0, c => x0145 c
  | L + 1, c => y0145 L c
theorem h014 (L c : Nat) : ∀ x, x < 6 → run4 L c 0 1 4 x = .yes
  | 0, _ => g0140 L c
  | 1, _ => g0141 L c
  | 2, _ => g0142 L c
  | 3, _ => g0143 L c
  | 4, _ => g0144 L c
  | 5, _ => g0145 L c
  | x + 6, h => absurd h (by omega)
theorem x0150 (c : Nat) : run4 0 c 0 1 5 0 = .yes := by kernel_rfl
theorem y0150 (L c : Nat) : run4 (L + 1) c 0 1 5 0 = .yes := by kernel_rfl
theorem g0150 : ∀ (L c : Nat), run4 L c 0 1 5 0 = .yes
  | 0, c => x0150 c
  | L + 1, c => y0150 L c
theorem x0151 (c : Nat) : run4 0 c 0 1 5 1 = .yes := by kernel_rfl
theorem y0151 (L c : Nat) : run4 (L + 1) c 0 1 5 1 = .yes := by kernel_rfl
theorem g0151 : ∀ (L c : Nat), run4 L c 0 1 5 1 = .yes
  | 0, c => x0151 c
  | L + 1, c => y0151 L c
theorem x0152 (c : Nat) : run4 0 c 0 1 5 2 = .yes := by kernel_rfl
theorem y0152 (L c : Nat) : run4 (L + 1) c 0 1 5 2 = .yes := by kernel_rfl
theorem g0152 : ∀ (L c : Nat), run4 L c 0 1 5 2 = .yes
  | 0, c => x0152 c
  | L + 1, c => y0152 L c
theorem x0153 (c : Nat) : run4 0 c 0 1 5 3 = .yes := by kernel_rfl
theorem y0153 (L c : Nat) : run4 (L + 1) c 0 1 5 3 = .yes := by kernel_rfl
theorem g0153 : ∀ (L c : Nat), run4 L c 0 1 5 3 = .yes
  | 0, c => x0153 c
  | L + 1, c => y0153 L c
theorem x0154 (c : Nat) : run4 0 c 0 1 5 4 = .yes := by kernel_rfl
theorem y0154 (L c : Nat) : run4 (L + 1) c 0 1 5 4 = .yes := by kernel_rfl
theorem g0154 : ∀ (L c : Nat), run4 L c 0 1 5 4 = .yes
  | 0, c => x0154 c
  | L + 1, c => y0154 L c
theorem x0155 (c : Nat) : run4 0 c 0 1 5 5 = .yes := by kernel_rfl
theorem y0155 (L c : Nat) : run4 (L + 1) c 0 1 5 5 = .yes := by kernel_rfl
theorem g0155 : ∀ (L c : Nat), run4 L c 0 1 5 5 = .yes
  | 0, c => x0155 c
  | L + 1, c => y0155 L c
theorem h015 (L c : Nat) : ∀ x, x < 6 → run4 L c 0 1 5 x = .yes
  | 0, _ => g0150 L c
  | 1, _ => g0151 L c
  | 2, _ => g0152 L c
  | 3, _ => g0153 L c
  | 4, _ => g0154 L c
  | 5, _ => g0155 L c
  | x + 6, h => absurd h (by omega)
theorem hh01 (L c : Nat) : ∀ x, x < 6 → ∀ y, y < 6 → run4 L c 0 1 x y = .yes
  | 0, _ => h010 L c
  | 1, _ => h011 L c
  | 2, _ => h012 L c
  | 3, _ => h013 L c
  | 4, _ => h014 L c
  | 5, _ => h015 L c
  | x + 6, h => absurd h (by omega)
end Go.Proofs.YtojbfaigebpnpaaDoor.ecoThreadsq
