/-
  The law EcoThreads at some of its cases: the run over the program ends in true. Conditions: none; these are closed facts.
-/
import Derived.Test.YtojbfaigebpnpaaDoorEcoThreadsA
namespace Go.Proofs.YtojbfaigebpnpaaDoor.ecoThreadsq
open Go.Rn Go.RowKit YtojbfaigebpnpaaDoor.txt
set_option maxHeartbeats 400000000
theorem x2400 (c : Nat) : run4 0 c 2 4 0 0 = .yes := by kernel_rfl
theorem y2400 (L c : Nat) : run4 (L + 1) c 2 4 0 0 = .yes := by kernel_rfl
theorem g2400 : ∀ (L c : Nat), run4 L c 2 4 0 0 = .yes
  | 0, c => x2400 c
  | L + 1, c => y2400 L c
theorem x2401 (c : Nat) : run4 0 c 2 4 0 1 = .yes := by kernel_rfl
theorem y2401 (L c : Nat) : run4 (L + 1) c 2 4 0 1 = .yes := by kernel_rfl
theorem g2401 : ∀ (L c : Nat), run4 L c 2 4 0 1 = .yes
  | 0, c => x2401 c
  | L + 1, c => y2401 L c
theorem x2402 (c : Nat) : run4 0 c 2 4 0 2 = .yes := by kernel_rfl
theorem y2402 (L c : Nat) : run4 (L + 1) c 2 4 0 2 = .yes := by kernel_rfl
theorem g2402 : ∀ (L c : Nat), run4 L c 2 4 0 2 = .yes
  | 0, c => x2402 c
  | L + 1, c => y2402 L c
theorem x2403 (c : Nat) : run4 0 c 2 4 0 3 = .yes := by kernel_rfl
theorem y2403 (L c : Nat) : run4 (L + 1) c 2 4 0 3 = .yes := by kernel_rfl
theorem g2403 : ∀ (L c : Nat), run4 L c 2 4 0 3 = .yes
  | 0, c => x2403 c
  | L + 1, c => y2403 L c
theorem x2404 (c : Nat) : run4 0 c 2 4 0 4 = .yes := by kernel_rfl
theorem y2404 (L c : Nat) : run4 (L + 1) c 2 4 0 4 = .yes := by kernel_rfl
theorem g2404 : ∀ (L c : Nat), run4 L c 2 4 0 4 = .yes
  | 0, c => x2404 c
  | L + 1, c => y2404 L c
theorem x2405 (c : Nat) : run4 0 c 2 4 0 5 = .yes := by kernel_rfl
theorem y2405 (L c : Nat) : run4 (L + 1) c 2 4 0 5 = .yes := by kernel_rfl
theorem g2405 : ∀ (L c : Nat), run4 L c 2 4 0 5 = .yes
  | 0, c => x2405 c
  | L + 1, c => y2405 L c
theorem h240 (L c : Nat) : ∀ x, x < 6 → run4 L c 2 4 0 x = .yes
  | 0, _ => g2400 L c
  | 1, _ => g2401 L c
  | 2, _ => g2402 L c
  | 3, _ => g2403 L c
  | 4, _ => g2404 L c
  | 5, _ => g2405 L c
  | x + 6, h => absurd h (by omega)
theorem x2410 (c : Nat) : run4 0 c 2 4 1 0 = .yes := by kernel_rfl
theorem y2410 (L c : Nat) : run4 (L + 1) c 2 4 1 0 = .yes := by kernel_rfl
theorem g2410 : ∀ (L c : Nat), run4 L c 2 4 1 0 = .yes
  | 0, c => x2410 c
  | L + 1, c => y2410 L c
theorem x2411 (c : Nat) : run4 0 c 2 4 1 1 = .yes := by kernel_rfl
theorem y2411 (L c : Nat) : run4 (L + 1) c 2 4 1 1 = .yes := by kernel_rfl
theorem g2411 : ∀ (L c : Nat), run4 L c 2 4 1 1 = .yes
  | 0, c => x2411 c
  | L + 1, c => y2411 L c
theorem x2412 (c : Nat) : run4 0 c 2 4 1 2 = .yes := by kernel_rfl
theorem y2412 (L c : Nat) : run4 (L + 1) c 2 4 1 2 = .yes := by kernel_rfl
theorem g2412 : ∀ (L c : Nat), run4 L c 2 4 1 2 = .yes
  | 0, c => x2412 c
  | L + 1, c => y2412 L c
theorem x2413 (c : Nat) : run4 0 c 2 4 1 3 = .yes := by kernel_rfl
theorem y2413 (L c : Nat) : run4 (L + 1) c 2 4 1 3 = .yes := by kernel_rfl
theorem g2413 : ∀ (L c : Nat), run4 L c 2 4 1 3 = .yes
  | 0, c => x2413 c
  | L + 1, c => y2413 L c
theorem x2414 (c : Nat) : run4 0 c 2 4 1 4 = .yes := by kernel_rfl
theorem y2414 (L c : Nat) : run4 (L + 1) c 2 4 1 4 = .yes := by kernel_rfl
theorem g2414 : ∀ (L c : Nat), run4 L c 2 4 1 4 = .yes
  | 0, c => x2414 c
  | L + 1, c => y2414 L c
theorem x2415 (c : Nat) : run4 0 c 2 4 1 5 = .yes := by kernel_rfl
theorem y2415 (L c : Nat) : run4 (L + 1) c 2 4 1 5 = .yes := by kernel_rfl
theorem g2415 : ∀ (L c : Nat), run4 L c 2 4 1 5 = .yes
  | 0, c => x2415 c
  | L + 1, c => y2415 L c
theorem h241 (L c : Nat) : ∀ x, x < 6 → run4 L c 2 4 1 x = .yes
  | 0, _ => g2410 L c
  | 1, _ => g2411 L c
  | 2, _ => g2412 L c
  | 3, _ => g2413 L c
  | 4, _ => g2414 L c
  | 5, _ => g2415 L c
  | x + 6, h => absurd h (by omega)
theorem x2420 (c : Nat) : run4 0 c 2 4 2 0 = .yes := by kernel_rfl
theorem y2420 (L c : Nat) : run4 (L + 1) c 2 4 2 0 = .yes := by kernel_rfl
theorem g2420 : ∀ (L c : Nat), run4 L c 2 4 2 0 = .yes
  | 0, c => x2420 c
  | L + 1, c => y2420 L c
theorem x2421 (c : Nat) : run4 0 c 2 4 2 1 = .yes := by kernel_rfl
theorem y2421 (L c : Nat) : run4 (L + 1) c 2 4 2 1 = .yes := by kernel_rfl
theorem g2421 : ∀ (L c : Nat), run4 L c 2 4 2 1 = .yes
  | 0, c => x2421 c
  | L + 1, c => y2421 L c
theorem x2422 (c : Nat) : run4 0 c 2 4 2 2 = .yes := by kernel_rfl
theorem y2422 (L c : Nat) : run4 (L + 1) c 2 4 2 2 = .yes := by kernel_rfl
theorem g2422 : ∀ (L c : Nat), run4 L c 2 4 2 2 = .yes
  | 0, c => x2422 c
  | L + 1, c => y2422 L c
theorem x2423 (c : Nat) : run4 0 c 2 4 2 3 = .yes := by kernel_rfl
theorem y2423 (L c : Nat) : run4 (L + 1) c 2 4 2 3 = .yes := by kernel_rfl
theorem g2423 : ∀ (L c : Nat), run4 L c 2 4 2 3 = .yes
  | 0, c => x2423 c
  | L + 1, c => y2423 L c
theorem x2424 (c : Nat) : run4 0 c 2 4 2 4 = .yes := by kernel_rfl
theorem y2424 (L c : Nat) : run4 (L + 1) c 2 4 2 4 = .yes := by kernel_rfl
theorem g2424 : ∀ (L c : Nat), run4 L c 2 4 2 4 = .yes
  | 0, c => x2424 c
  | L + 1, c => y2424 L c
theorem x2425 (c : Nat) : run4 0 c 2 4 2 5 = .yes := by kernel_rfl
theorem y2425 (L c : Nat) : run4 (L + 1) c 2 4 2 5 = .yes := by kernel_rfl
theorem g2425 : ∀ (L c : Nat), run4 L c 2 4 2 5 = .yes
  | 0, c => x2425 c
  | L + 1, c => y2425 L c
theorem h242 (L c : Nat) : ∀ x, x < 6 → run4 L c 2 4 2 x = .yes
  | 0, _ => g2420 L c
  | 1, _ => g2421 L c
  | 2, _ => g2422 L c
  | 3, _ => g2423 L c
  | 4, _ => g2424 L c
  | 5, _ => g2425 L c
  | x + 6, h => absurd h (by omega)
theorem x2430 (c : Nat) : run4 0 c 2 4 3 0 = .yes := by kernel_rfl
theorem y2430 (L c : Nat) : run4 (L + 1) c 2 4 3 0 = .yes := by kernel_rfl
theorem g2430 : ∀ (L c : Nat), run4 L c 2 4 3 0 = .yes
  | 0, c => x2430 c
  | L + 1, c => y2430 L c
theorem x2431 (c : Nat) : run4 0 c 2 4 3 1 = .yes := by kernel_rfl
theorem y2431 (L c : Nat) : run4 (L + 1) c 2 4 3 1 = .yes := by kernel_rfl
theorem g2431 : ∀ (L c : Nat), run4 L c 2 4 3 1 = .yes
  | 0, c => x2431 c
  | L + 1, c => y2431 L c
theorem x2432 (c : Nat) : run4 0 c 2 4 3 2 = .yes := by kernel_rfl
theorem y2432 (L c : Nat) : run4 (L + 1) c 2 4 3 2 = .yes := by kernel_rfl
theorem g2432 : ∀ (L c : Nat), run4 L c 2 4 3 2 = .yes
  | 0, c => x2432 c
  | L + 1, c => y2432 L c
theorem x2433 (c : Nat) : run4 0 c 2 4 3 3 = .yes := by kernel_rfl
theorem y2433 (L c : Nat) : run4 (L + 1) c 2 4 3 3 = .yes := by kernel_rfl
theorem g2433 : ∀ (L c : Nat), run4 L c 2 4 3 3 = .yes
  | 0, c => x2433 c
  | L + 1, c => y2433 L c
theorem x2434 (c : Nat) : run4 0 c 2 4 3 4 = .yes := by kernel_rfl
theorem y2434 (L c : Nat) : run4 (L + 1) c 2 4 3 4 = .yes := by kernel_rfl
theorem g2434 : ∀ (L c : Nat), run4 L c 2 4 3 4 = .yes
  | 0, c => x2434 c
  | L + 1, c => y2434 L c
theorem x2435 (c : Nat) : run4 0 c 2 4 3 5 = .yes := by kernel_rfl
theorem y2435 (L c : Nat) : run4 (L + 1) c 2 4 3 5 = .yes := by kernel_rfl
theorem g2435 : ∀ (L c : Nat), run4 L c 2 4 3 5 = .yes
  | 0, c => x2435 c
  | L + 1, c => y2435 L c
theorem h243 (L c : Nat) : ∀ x, x < 6 → run4 L c 2 4 3 x = .yes
  | 0, _ => g2430 L c
  | 1, _ => g2431 L c
  | 2, _ => g2432 L c
  | 3, _ => g2433 L c
  | 4, _ => g2434 L c
  | 5, _ => g2435 L c
  | x + 6, h => absurd h (by omega)
theorem x2440 (c : Nat) : run4 0 c 2 4 4 0 = .yes := by kernel_rfl
theorem y2440 (L c : Nat) : run4 (L + 1) c 2 4 4 0 = .yes := by kernel_rfl
theorem g2440 : ∀ (L c : Nat), run4 L c 2 4 4 0 = .yes
  | 0, c => x2440 c
  | L + 1, c => y2440 L c
theorem x2441 (c : Nat) : run4 0 c 2 4 4 1 = .yes := by kernel_rfl
theorem y2441 (L c : Nat) : run4 (L + 1) c 2 4 4 1 = .yes := by kernel_rfl
theorem g2441 : ∀ (L c : Nat), run4 L c 2 4 4 1 = .yes
  | 0, c => x2441 c
  | L + 1, c => y2441 L c
theorem x2442 (c : Nat) : run4 0 c 2 4 4 2 = .yes := by kernel_rfl
theorem y2442 (L c : Nat) : run4 (L + 1) c 2 4 4 2 = .yes := by kernel_rfl
theorem g2442 : ∀ (L c : Nat), run4 L c 2 4 4 2 = .yes
  | 0, c => x2442 c
  | L + 1, c => y2442 L c
theorem x2443 (c : Nat) : run4 0 c 2 4 4 3 = .yes := by kernel_rfl
theorem y2443 (L c : Nat) : run4 (L + 1) c 2 4 4 3 = .yes := by kernel_rfl
theorem g2443 : ∀ (L c : Nat), run4 L c 2 4 4 3 = .yes
  | 0, c => x2443 c
  | L + 1, c => y2443 L c
theorem x2444 (c : Nat) : run4 0 c 2 4 4 4 = .yes := by kernel_rfl
theorem y2444 (L c : Nat) : run4 (L + 1) c 2 4 4 4 = .yes := by kernel_rfl
theorem g2444 : ∀ (L c : Nat), run4 L c 2 4 4 4 = .yes
  | 0, c => x2444 c
  | L + 1, c => y2444 L c
theorem x2445 (c : Nat) : run4 0 c 2 4 4 5 = .yes := by kernel_rfl
theorem y2445 (L c : Nat) : run4 (L + 1) c 2 4 4 5 = .yes := by kernel_rfl
theorem g2445 : ∀ (L c : Nat), run4 L c 2 4 4 5 = .yes
  | 0, c => x2445 c
  | L + 1, c => y2445 L c
theorem h244 (L c : Nat) : ∀ x, x < 6 → run4 L c 2 4 4 x = .yes
  | 0, _ => g2440 L c
  | 1, _ => g2441 L c
  | 2, _ => g2442 L c
  | 3, _ => g2443 L c
  | 4, _ => g2444 L c
  | 5, _ => g2445 L c
  | x + 6, h => absurd h (by omega)
theorem x2450 (c : Nat) : run4 0 c 2 4 5 0 = .yes := by kernel_rfl
theorem y2450 (L c : Nat) : run4 (L + 1) c 2 4 5 0 = .yes := by kernel_rfl
theorem g2450 : ∀ (L c : Nat), run4 L c 2 4 5 0 = .yes
  | 0, c => x2450 c
  | L + 1, c => y2450 L c
theorem x2451 (c : Nat) : run4 0 c 2 4 5 1 = .yes := by kernel_rfl
theorem y2451 (L c : Nat) : run4 (L + 1) c 2 4 5 1 = .yes := by kernel_rfl
theorem g2451 : ∀ (L c : Nat), run4 L c 2 4 5 1 = .yes
  | 0, c => x2451 c
  | L + 1, c => y2451 L c
theorem x2452 (c : Nat) : run4 0 c 2 4 5 2 = .yes := by kernel_rfl
theorem y2452 (L c : Nat) : run4 (L + 1) c 2 4 5 2 = .yes := by kernel_rfl
theorem g2452 : ∀ (L c : Nat), run4 L c 2 4 5 2 = .yes
  | 0, c => x2452 c
  | L + 1, c => y2452 L c
theorem x2453 (c : Nat) : run4 0 c 2 4 5 3 = .yes := by kernel_rfl
theorem y2453 (L c : Nat) : run4 (L + 1) c 2 4 5 3 = .yes := by kernel_rfl
theorem g2453 : ∀ (L c : Nat), run4 L c 2 4 5 3 = .yes
  | 0, c => x2453 c
  | L + 1, c => y2453 L c
theorem x2454 (c : Nat) : run4 0 c 2 4 5 4 = .yes := by kernel_rfl
theorem y2454 (L c : Nat) : run4 (L + 1) c 2 4 5 4 = .yes := by kernel_rfl
theorem g2454 : ∀ (L c : Nat), run4 L c 2 4 5 4 = .yes
  | 0, c => x2454 c
  | L + 1, c => y2454 L c
theorem x2455 (c : Nat) : run4 0 c 2 4 5 5 = .yes := by kernel_rfl
theorem y2455 (L c : Nat) : run4 (L + 1) c 2 4 5 5 = .yes := by kernel_rfl
theorem g2455 : ∀ (L c : Nat), run4 L c 2 4 5 5 = .yes
  | 0, c => x2455 c
  | L + 1, c => y2455 L c
theorem h245 (L c : Nat) : ∀ x, x < 6 → run4 L c 2 4 5 x = .yes
  | 0, _ => g2450 L c
  | 1, _ => g2451 L c
  | 2, _ => g2452 L c
  | 3, _ => g2453 L c
  | 4, _ => g2454 L c
  | 5, _ => g2455 L c
  | x + 6, h => absurd h (by omega)
theorem hh24 (L c : Nat) : ∀ x, x < 6 → ∀ y, y < 6 → run4 L c 2 4 x y = .yes
  | 0, _ => h240 L c
  | 1, _ => h241 L c
  | 2, _ => h242 L c
  | 3, _ => h243 L c
  | 4, _ => h244 L c
  | 5, _ => h245 L c
  | x + 6, h => absurd h (by omega)
theorem x3100 (c : Nat) : run4 0 c 3 1 0 0 = .yes := by kernel_rfl
theorem y3100 (L c : Nat) : run4 (L + 1) c 3 1 0 0 = .yes := by kernel_rfl
theorem g3100 : ∀ (L c : Nat), run4 L c 3 1 0 0 = .yes
  | 0, c => x3100 c
  | L + 1, c => y3100 L c
theorem x3101 (c : Nat) : run4 0 c 3 1 0 1 = .yes := by kernel_rfl
theorem y3101 (L c : Nat) : run4 (L + 1) c 3 1 0 1 = .yes := by kernel_rfl
theorem g3101 : ∀ (L c : Nat), run4 L c 3 1 0 1 = .yes
  | 0, c => x3101 c
  | L + 1, c => y3101 L c
theorem x3102 (c : Nat) : run4 0 c 3 1 0 2 = .yes := by kernel_rfl
theorem y3102 (L c : Nat) : run4 (L + 1) c 3 1 0 2 = .yes := by kernel_rfl
theorem g3102 : ∀ (L c : Nat), run4 L c 3 1 0 2 = .yes
  | 0, c => x3102 c
  | L + 1, c => y3102 L c
theorem x3103 (c : Nat) : run4 0 c 3 1 0 3 = .yes := by kernel_rfl
theorem y3103 (L c : Nat) : run4 (L + 1) c 3 1 0 3 = .yes := by kernel_rfl
theorem g3103 : ∀ (L c : Nat), run4 L c 3 1 0 3 = .yes
  | 0, c => x3103 c
  | L + 1, c => y3103 L c
theorem x3104 (c : Nat) : run4 0 c 3 1 0 4 = .yes := by kernel_rfl
theorem y3104 (L c : Nat) : run4 (L + 1) c 3 1 0 4 = .yes := by kernel_rfl
theorem g3104 : ∀ (L c : Nat), run4 L c 3 1 0 4 = .yes
  | 0, c => x3104 c
  | L + 1, c => y3104 L c
theorem x3105 (c : Nat) : run4 0 c 3 1 0 5 = .yes := by kernel_rfl
theorem y3105 (L c : Nat) : run4 (L + 1) c 3 1 0 5 = .yes := by kernel_rfl
theorem g3105 : ∀ (L c : Nat), run4 L c 3 1 0 5 = .yes
  | 0, c => x3105 c
  | L + 1, c => y3105 L c
theorem h310 (L c : Nat) : ∀ x, x < 6 → run4 L c 3 1 0 x = .yes
  | 0, _ => g3100 L c
  | 1, _ => g3101 L c
  | 2, _ => g3102 L c
  | 3, _ => g3103 L c
  | 4, _ => g3104 L c
  | 5, _ => g3105 L c
  | x + 6, h => absurd h (by omega)
theorem x3110 (c : Nat) : run4 0 c 3 1 1 0 = .yes := by kernel_rfl
theorem y3110 (L c : Nat) : run4 (L + 1) c 3 1 1 0 = .yes := by kernel_rfl
theorem g3110 : ∀ (L c : Nat), run4 L c 3 1 1 0 = .yes
  | 0, c => x3110 c
  | L + 1, c => y3110 L c
theorem x3111 (c : Nat) : run4 0 c 3 1 1 1 = .yes := by kernel_rfl
theorem y3111 (L c : Nat) : run4 (L + 1) c 3 1 1 1 = .yes := by kernel_rfl
theorem g3111 : ∀ (L c : Nat), run4 L c 3 1 1 1 = .yes
  | 0, c => x3111 c
  | L + 1, c => y3111 L c
theorem x3112 (c : Nat) : run4 0 c 3 1 1 2 = .yes := by kernel_rfl
theorem y3112 (L c : Nat) : run4 (L + 1) c 3 1 1 2 = .yes := by kernel_rfl
theorem g3112 : ∀ (L c : Nat), run4 L c 3 1 1 2 = .yes
  | 0, c => x3112 c
  | L + 1, c => y3112 L c
theorem x3113 (c : Nat) : run4 0 c 3 1 1 3 = .yes := by kernel_rfl
theorem y3113 (L c : Nat) : run4 (L + 1) c 3 1 1 3 = .yes := by kernel_rfl
theorem g3113 : ∀ (L c : Nat), run4 L c 3 1 1 3 = .yes
  | 0, c => x3113 c
  | L + 1, c => y3113 L c
theorem x3114 (c : Nat) : run4 0 c 3 1 1 4 = .yes := by kernel_rfl
theorem y3114 (L c : Nat) : run4 (L + 1) c 3 1 1 4 = .yes := by kernel_rfl
theorem g3114 : ∀ (L c : Nat), run4 L c 3 1 1 4 = .yes
  | 0, c => x3114 c
  | L + 1, c => y3114 L c
theorem x3115 (c : Nat) : run4 0 c 3 1 1 5 = .yes := by kernel_rfl
theorem y3115 (L c : Nat) : run4 (L + 1) c 3 1 1 5 = .yes := by kernel_rfl
theorem g3115 : ∀ (L c : Nat), run4 L c 3 1 1 5 = .yes
  | 0, c => x3115 c
  | L + 1, c => y3115 L c
theorem h311 (L c : Nat) : ∀ x, x < 6 → run4 L c 3 1 1 x = .yes
  | 0, _ => g3110 L c
  | 1, _ => g3111 L c
  | 2, _ => g3112 L c
  | 3, _ => g3113 L c
  | 4, _ => g3114 L c
  | 5, _ => g3115 L c
  | x + 6, h => absurd h (by omega)
theorem x3120 (c : Nat) : run4 0 c 3 1 2 0 = .yes := by kernel_rfl
theorem y3120 (L c : Nat) : run4 (L + 1) c 3 1 2 0 = .yes := by kernel_rfl
theorem g3120 : ∀ (L c : Nat), run4 L c 3 1 2 0 = .yes
  | 0, c => x3120 c
  | L + 1, c => y3120 L c
theorem x3121 (c : Nat) : run4 0 c 3 1 2 1 = .yes := by kernel_rfl
theorem y3121 (L c : Nat) : run4 (L + 1) c 3 1 2 1 = .yes := by kernel_rfl
theorem g3121 : ∀ (L c : Nat), run4 L c 3 1 2 1 = .yes
  | 0, c => x3121 c
  | L + 1, c => y3121 L c
theorem x3122 (c : Nat) : run4 0 c 3 1 2 2 = .yes := by kernel_rfl
theorem y3122 (L c : Nat) : run4 (L + 1) c 3 1 2 2 = .yes := by kernel_rfl
theorem g3122 : ∀ (L c : Nat), run4 L c 3 1 2 2 = .yes
  | 0, c => x3122 c
  | L + 1, c => y3122 L c
theorem x3123 (c : Nat) : run4 0 c 3 1 2 3 = .yes := by kernel_rfl
theorem y3123 (L c : Nat) : run4 (L + 1) c 3 1 2 3 = .yes := by kernel_rfl
theorem g3123 : ∀ (L c : Nat), run4 L c 3 1 2 3 = .yes
  | 0, c => x3123 c
  | L + 1, c => y3123 L c
theorem x3124 (c : Nat) : run4 0 c 3 1 2 4 = .yes := by kernel_rfl
theorem y3124 (L c : Nat) : run4 (L + 1) c 3 1 2 4 = .yes := by kernel_rfl
theorem g3124 : ∀ (L c : Nat), run4 L c 3 1 2 4 = .yes
  | 0, c => x3124 c
  | L + 1, c => y3124 L c
theorem x3125 (c : Nat) : run4 0 c 3 1 2 5 = .yes := by kernel_rfl
theorem y3125 (L c : Nat) : run4 (L + 1) c 3 1 2 5 = .yes := by kernel_rfl
theorem g3125 : ∀ (L c : Nat), run4 L c 3 1 2 5 = .yes
  | 0, c => x3125 c
  | L + 1, c => y3125 L c
theorem h312 (L c : Nat) : ∀ x, x < 6 → run4 L c 3 1 2 x = .yes
  | 0, _ => g3120 L c
  | 1, _ => g3121 L c
  | 2, _ => g3122 L c
  | 3, _ => g3123 L c
  | 4, _ => g3124 L c
  | 5, _ => g3125 L c
  | x + 6, h => absurd h (by omega)
theorem x3130 (c : Nat) : run4 0 c 3 1 3 0 = .yes := by kernel_rfl
theorem y3130 (L c : Nat) : run4 (L + 1) c 3 1 3 0 = .yes := by kernel_rfl
theorem g3130 : ∀ (L c : Nat), run4 L c 3 1 3 0 = .yes
  | 0, c => x3130 c
  | L + 1, c => y3130 L c
theorem x3131 (c : Nat) : run4 0 c 3 1 3 1 = .yes := by kernel_rfl
theorem y3131 (L c : Nat) : run4 (L + 1) c 3 1 3 1 = .yes := by kernel_rfl
theorem g3131 : ∀ (L c : Nat), run4 L c 3 1 3 1 = .yes
  | 0, c => x3131 c
  | L + 1, c => y3131 L c
theorem x3132 (c : Nat) : run4 0 c 3 1 3 2 = .yes := by kernel_rfl
theorem y3132 (L c : Nat) : run4 (L + 1) c 3 1 3 2 = .yes := by kernel_rfl
theorem g3132 : ∀ (L c : Nat), run4 L c 3 1 3 2 = .yes
  | 0, c => x3132 c
  | L + 1, c => y3132 L c
theorem x3133 (c : Nat) : run4 0 c 3 1 3 3 = .yes := by kernel_rfl
theorem y3133 (L c : Nat) : run4 (L + 1) c 3 1 3 3 = .yes := by kernel_rfl
theorem g3133 : ∀ (L c : Nat), run4 L c 3 1 3 3 = .yes
  | 0, c => x3133 c
  | L + 1, c => y3133 L c
theorem x3134 (c : Nat) : run4 0 c 3 1 3 4 = .yes := by kernel_rfl
theorem y3134 (L c : Nat) : run4 (L + 1) c 3 1 3 4 = .yes := by kernel_rfl
theorem g3134 : ∀ (L c : Nat), run4 L c 3 1 3 4 = .yes
  | 0, c => x3134 c
  | L + 1, c => y3134 L c
theorem x3135 (c : Nat) : run4 0 c 3 1 3 5 = .yes := by kernel_rfl
theorem y3135 (L c : Nat) : run4 (L + 1) c 3 1 3 5 = .yes := by kernel_rfl
theorem g3135 : ∀ (L c : Nat), run4 L c 3 1 3 5 = .yes
  | 0, c => x3135 c
  | L + 1, c => y3135 L c
theorem h313 (L c : Nat) : ∀ x, x < 6 → run4 L c 3 1 3 x = .yes
  | 0, _ => g3130 L c
  | 1, _ => g3131 L c
  | 2, _ => g3132 L c
  | 3, _ => g3133 L c
  | 4, _ => g3134 L c
  | 5, _ => g3135 L c
  | x + 6, h => absurd h (by omega)
theorem x3140 (c : Nat) : run4 0 c 3 1 4 0 = .yes := by kernel_rfl
theorem y3140 (L c : Nat) : run4 (L + 1) c 3 1 4 0 = .yes := by kernel_rfl
theorem g3140 : ∀ (L c : Nat), run4 L c 3 1 4 0 = .yes
  | 0, c => x3140 c
  | L + 1, c => y3140 L c
theorem x3141 (c : Nat) : run4 0 c 3 1 4 1 = .yes := by kernel_rfl
theorem y3141 (L c : Nat) : run4 (L + 1) c 3 1 4 1 = .yes := by kernel_rfl
theorem g3141 : ∀ (L c : Nat), run4 L c 3 1 4 1 = .yes
  | 0, c => x3141 c
  | L + 1, c => y3141 L c
theorem x3142 (c : Nat) : run4 0 c 3 1 4 2 = .yes := by kernel_rfl
theorem y3142 (L c : Nat) : run4 (L + 1) c 3 1 4 2 = .yes := by kernel_rfl
theorem g3142 : ∀ (L c : Nat), run4 L c 3 1 4 2 = .yes
  | 0, c => x3142 c
  | L + 1, c => y3142 L c
theorem x3143 (c : Nat) : run4 0 c 3 1 4 3 = .yes := by kernel_rfl
theorem y3143 (L c : Nat) : run4 (L + 1) c 3 1 4 3 = .yes := by kernel_rfl
theorem g3143 : ∀ (L c : Nat), run4 L c 3 1 4 3 = .yes
  | 0, c => x3143 c
  | L + 1, c => y3143 L c
theorem x3144 (c : Nat) : run4 0 c 3 1 4 4 = .yes := by kernel_rfl
theorem y3144 (L c : Nat) : run4 (L + 1) c 3 1 4 4 = .yes := by kernel_rfl
theorem g3144 : ∀ (L c : Nat), run4 L c 3 1 4 4 = .yes
  | 0, c => x3144 c
  | L + 1, c => y3144 L c
theorem x3145 (c : Nat) : run4 0 c 3 1 4 5 = .yes := by kernel_rfl
theorem y3145 (L c : Nat) : run4 (L + 1) c 3 1 4 5 = .yes := by kernel_rfl
theorem g3145 : ∀ (L c : Nat), run4 L c 3 1 4 5 = .yes
  | 0, c => x3145 c
  | L + 1, c => y3145 L c
theorem h314 (L c : Nat) : ∀ x, x < 6 → run4 L c 3 1 4 x = .yes
  | 0, _ => g3140 L c
  | 1, _ => g3141 L c
  | 2, _ => g3142 L c
  | 3, _ => g3143 L c
  | 4, _ => g3144 L c
  | 5, _ => g3145 L c
  | x + 6, h => absurd h (by omega)
theorem x3150 (c : Nat) : run4 0 c 3 1 5 0 = .yes := by kernel_rfl
theorem y3150 (L c : Nat) : run4 (L + 1) c 3 1 5 0 = .yes := by kernel_rfl
theorem g3150 : ∀ (L c : Nat), run4 L c 3 1 5 0 = .yes
  | 0, c => x3150 c
  | L + 1, c => y3150 L c
theorem x3151 (c : Nat) : run4 0 c 3 1 5 1 = .yes := by kernel_rfl
theorem y3151 (L c : Nat) : run4 (L + 1) c 3 1 5 1 = .yes := by kernel_rfl
theorem g3151 : ∀ (L c : Nat), run4 L c 3 1 5 1 = .yes
  | 0, c => x3151 c
  | L + 1, c => y3151 L c
theorem x3152 (c : Nat) : run4 0 c 3 1 5 2 = .yes := by kernel_rfl
theorem y3152 (L c : Nat) : run4 (L + 1) c 3 1 5 2 = .yes := by kernel_rfl
theorem g3152 : ∀ (L c : Nat), run4 L c 3 1 5 2 = .yes
  | 0, c => x3152 c
  | L + 1, c => y3152 L c
theorem x3153 (c : Nat) : run4 0 c 3 1 5 3 = .yes := by kernel_rfl
theorem y3153 (L c : Nat) : run4 (L + 1) c 3 1 5 3 = .yes := by kernel_rfl
theorem g3153 : ∀ (L c : Nat), run4 L c 3 1 5 3 = .yes
  | 0, c => x3153 c
  | L + 1, c => y3153 L c
theorem x3154 (c : Nat) : run4 0 c 3 1 5 4 = .yes := by kernel_rfl
theorem y3154 (L c : Nat) : run4 (L + 1) c 3 1 5 4 = .yes := by kernel_rfl
theorem g3154 : ∀ (L c : Nat), run4 L c 3 1 5 4 = .yes
  | 0, c => x3154 c
  | L + 1, c => y3154 L c
theorem x3155 (c : Nat) : run4 0 c 3 1 5 5 = .yes := by kernel_rfl
theorem y3155 (L c : Nat) : run4 (L + 1) c 3 1 5 5 = .yes := by kernel_rfl
theorem g3155 : ∀ (L c : Nat), run4 L c 3 1 5 5 = .yes
  | 0, c => x3155 c
  | L + 1, c => y3155 L c
theorem h315 (L c : Nat) : ∀ x, x < 6 → run4 L c 3 1 5 x = .yes
  | 0, _ => g3150 L c
  | 1, _ => g3151 L c
  | 2, _ => g3152 L c
  | 3, _ => g3153 L c
  | 4, _ => g3154 L c
  | 5, _ => g3155 L c
  | x + 6, h => absurd h (by omega)
theorem hh31 (L c : Nat) : ∀ x, x < 6 → ∀ y, y < 6 → run4 L c 3 1 x y = .yes
  | 0, _ => h310 L c
  | 1, _ => h311 L c
  | 2, _ => h312 L c
  | 3, _ => h313 L c
  | 4, _ => h314 L c
  | 5, _ => h315 L c
  | x + 6, h => absurd h (by omega)
end Go.Proofs.YtojbfaigebpnpaaDoor.ecoThreadsq
