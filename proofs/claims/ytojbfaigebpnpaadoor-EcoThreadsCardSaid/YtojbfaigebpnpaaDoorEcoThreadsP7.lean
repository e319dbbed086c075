/-
  The law EcoThreads at some of its cases: the run over the program ends in true. Conditions: none; these are closed facts.
-/
import Derived.Test.YtojbfaigebpnpaaDoorEcoThreadsA
namespace Go.Proofs.YtojbfaigebpnpaaDoor.ecoThreadsq
open Go.Rn Go.RowKit YtojbfaigebpnpaaDoor.txt
set_option maxHeartbeats 400000000
theorem x4400 (c : Nat) : run4 0 c 4 4 0 0 = .yes := by kernel_rfl
theorem y4400 (L c : Nat) : run4 (L + 1) c 4 4 0 0 = .yes := by kernel_rfl
theorem g4400 : ∀ (L c : Nat), run4 L c 4 4 0 0 = .yes
  | 0, c => x4400 c
  | L + 1, c => y4400 L c
theorem x4401 (c : Nat) : run4 0 c 4 4 0 1 = .yes := by kernel_rfl
theorem y4401 (L c : Nat) : run4 (L + 1) c 4 4 0 1 = .yes := by kernel_rfl
theorem g4401 : ∀ (L c : Nat), run4 L c 4 4 0 1 = .yes
  | 0, c => x4401 c
  | L + 1, c => y4401 L c
theorem x4402 (c : Nat) : run4 0 c 4 4 0 2 = .yes := by kernel_rfl
theorem y4402 (L c : Nat) : run4 (L + 1) c 4 4 0 2 = .yes := by kernel_rfl
theorem g4402 : ∀ (L c : Nat), run4 L c 4 4 0 2 = .yes
  | 0, c => x4402 c
  | L + 1, c => y4402 L c
theorem x4403 (c : Nat) : run4 0 c 4 4 0 3 = .yes := by kernel_rfl
theorem y4403 (L c : Nat) : run4 (L + 1) c 4 4 0 3 = .yes := by kernel_rfl
theorem g4403 : ∀ (L c : Nat), run4 L c 4 4 0 3 = .yes
  | 0, c => x4403 c
  | L + 1, c => y4403 L c
theorem x4404 (c : Nat) : run4 0 c 4 4 0 4 = .yes := by kernel_rfl
theorem y4404 (L c : Nat) : run4 (L + 1) c 4 4 0 4 = .yes := by kernel_rfl
theorem g4404 : ∀ (L c : Nat), run4 L c 4 4 0 4 = .yes
  | 0, c => x4404 c
  | L + 1, c => y4404 L c
theorem x4405 (c : Nat) : run4 0 c 4 4 0 5 = .yes := by kernel_rfl
theorem y4405 (L c : Nat) : run4 (L + 1) c 4 4 0 5 = .yes := by kernel_rfl
theorem g4405 : ∀ (L c : Nat), run4 L c 4 4 0 5 = .yes
  | 0, c => x4405 c
  | L + 1, c => y4405 L c
theorem h440 (L c : Nat) : ∀ x, x < 6 → run4 L c 4 4 0 x = .yes
  | 0, _ => g4400 L c
  | 1, _ => g4401 L c
  | 2, _ => g4402 L c
  | 3, _ => g4403 L c
  | 4, _ => g4404 L c
  | 5, _ => g4405 L c
  | x + 6, h => absurd h (by omega)
theorem x4410 (c : Nat) : run4 0 c 4 4 1 0 = .yes := by kernel_rfl
theorem y4410 (L c : Nat) : run4 (L + 1) c 4 4 1 0 = .yes := by kernel_rfl
theorem g4410 : ∀ (L c : Nat), run4 L c 4 4 1 0 = .yes
  | 0, c => x4410 c
  | L + 1, c => y4410 L c
theorem x4411 (c : Nat) : run4 0 c 4 4 1 1 = .yes := by kernel_rfl
theorem y4411 (L c : Nat) : run4 (L + 1) c 4 4 1 1 = .yes := by kernel_rfl
theorem g4411 : ∀ (L c : Nat), run4 L c 4 4 1 1 = .yes
  | 0, c => x4411 c
  | L + 1, c => y4411 L c
theorem x4412 (c : Nat) : run4 0 c 4 4 1 2 = .yes := by kernel_rfl
theorem y4412 (L c : Nat) : run4 (L + 1) c 4 4 1 2 = .yes := by kernel_rfl
theorem g4412 : ∀ (L c : Nat), run4 L c 4 4 1 2 = .yes
  | 0, c => x4412 c
  | L + 1, c => y4412 L c
theorem x4413 (c : Nat) : run4 0 c 4 4 1 3 = .yes := by kernel_rfl
theorem y4413 (L c : Nat) : run4 (L + 1) c 4 4 1 3 = .yes := by kernel_rfl
theorem g4413 : ∀ (L c : Nat), run4 L c 4 4 1 3 = .yes
  | 0, c => x4413 c
  | L + 1, c => y4413 L c
theorem x4414 (c : Nat) : run4 0 c 4 4 1 4 = .yes := by kernel_rfl
theorem y4414 (L c : Nat) : run4 (L + 1) c 4 4 1 4 = .yes := by kernel_rfl
theorem g4414 : ∀ (L c : Nat), run4 L c 4 4 1 4 = .yes
  | 0, c => x4414 c
  | L + 1, c => y4414 L c
theorem x4415 (c : Nat) : run4 0 c 4 4 1 5 = .yes := by kernel_rfl
theorem y4415 (L c : Nat) : run4 (L + 1) c 4 4 1 5 = .yes := by kernel_rfl
theorem g4415 : ∀ (L c : Nat), run4 L c 4 4 1 5 = .yes
  | 0, c => x4415 c
  | L + 1, c => y4415 L c
theorem h441 (L c : Nat) : ∀ x, x < 6 → run4 L c 4 4 1 x = .yes
  | 0, _ => g4410 L c
  | 1, _ => g4411 L c
  | 2, _ => g4412 L c
  | 3, _ => g4413 L c
  | 4, _ => g4414 L c
  | 5, _ => g4415 L c
  | x + 6, h => absurd h (by omega)
theorem x4420 (c : Nat) : run4 0 c 4 4 2 0 = .yes := by kernel_rfl
theorem y4420 (L c : Nat) : run4 (L + 1) c 4 4 2 0 = .yes := by kernel_rfl
theorem g4420 : ∀ (L c : Nat), run4 L c 4 4 2 0 = .yes
  | 0, c => x4420 c
  | L + 1, c => y4420 L c
theorem x4421 (c : Nat) : run4 0 c 4 4 2 1 = .yes := by kernel_rfl
theorem y4421 (L c : Nat) : run4 (L + 1) c 4 4 2 1 = .yes := by kernel_rfl
theorem g4421 : ∀ (L c : Nat), run4 L c 4 4 2 1 = .yes
  | 0, c => x4421 c
  | L + 1, c => y4421 L c
theorem x4422 (c : Nat) : run4 0 c 4 4 2 2 = .yes := by kernel_rfl
theorem y4422 (L c : Nat) : run4 (L + 1) c 4 4 2 2 = .yes := by kernel_rfl
theorem g4422 : ∀ (L c : Nat), run4 L c 4 4 2 2 = .yes
  | 0, c => x4422 c
  | L + 1, c => y4422 L c
theorem x4423 (c : Nat) : run4 0 c 4 4 2 3 = .yes := by kernel_rfl
theorem y4423 (L c : Nat) : run4 (L + 1) c 4 4 2 3 = .yes := by kernel_rfl
theorem g4423 : ∀ (L c : Nat), run4 L c 4 4 2 3 = .yes
  | 0, c => x4423 c
  | L + 1, c => y4423 L c
theorem x4424 (c : Nat) : run4 0 c 4 4 2 4 = .yes := by kernel_rfl
theorem y4424 (L c : Nat) : run4 (L + 1) c 4 4 2 4 = .yes := by kernel_rfl
theorem g4424 : ∀ (L c : Nat), run4 L c 4 4 2 4 = .yes
  | 0, c => x4424 c
  | L + 1, c => y4424 L c
theorem x4425 (c : Nat) : run4 0 c 4 4 2 5 = .yes := by kernel_rfl
theorem y4425 (L c : Nat) : run4 (L + 1) c 4 4 2 5 = .yes := by kernel_rfl
theorem g4425 : ∀ (L c : Nat), run4 L c 4 4 2 5 = .yes
  | 0, c => x4425 c
  | L + 1, c => y4425 L c
theorem h442 (L c : Nat) : ∀ x, x < 6 → run4 L c 4 4 2 x = .yes
  | 0, _ => g4420 L c
  | 1, _ => g4421 L c
  | 2, _ => g4422 L c
  | 3, _ => g4423 L c
  | 4, _ => g4424 L c
  | 5, _ => g4425 L c
  | x + 6, h => absurd h (by omega)
theorem x4430 (c : Nat) : run4 0 c 4 4 3 0 = .yes := by kernel_rfl
theorem y4430 (L c : Nat) : run4 (L + 1) c 4 4 3 0 = .yes := by kernel_rfl
theorem g4430 : ∀ (L c : Nat), run4 L c 4 4 3 0 = .yes
  | 0, c => x4430 c
  | L + 1, c => y4430 L c
theorem x4431 (c : Nat) : run4 0 c 4 4 3 1 = .yes := by kernel_rfl
theorem y4431 (L c : Nat) : run4 (L + 1) c 4 4 3 1 = .yes := by kernel_rfl
theorem g4431 : ∀ (L c : Nat), run4 L c 4 4 3 1 = .yes
  | 0, c => x4431 c
  | L + 1, c => y4431 L c
theorem x4432 (c : Nat) : run4 0 c 4 4 3 2 = .yes := by kernel_rfl
theorem y4432 (L c : Nat) : run4 (L + 1) c 4 4 3 2 = .yes := by kernel_rfl
theorem g4432 : ∀ (L c : Nat), run4 L c 4 4 3 2 = .yes
  | 0, c => x4432 c
  | L + 1, c => y4432 L c
theorem x4433 (c : Nat) : run4 0 c 4 4 3 3 = .yes := by kernel_rfl
theorem y4433 (L c : Nat) : run4 (L + 1) c 4 4 3 3 = .yes := by kernel_rfl
theorem g4433 : ∀ (L c : Nat), run4 L c 4 4 3 3 = .yes
  | 0, c => x4433 c
  | L + 1, c => y4433 L c
theorem x4434 (c : Nat) : run4 0 c 4 4 3 4 = .yes := by kernel_rfl
theorem y4434 (L c : Nat) : run4 (L + 1) c 4 4 3 4 = .yes := by kernel_rfl
theorem g4434 : ∀ (L c : Nat), run4 L c 4 4 3 4 = .yes
  | 0, c => x4434 c
  | L + 1, c => y4434 L c
theorem x4435 (c : Nat) : run4 0 c 4 4 3 5 = .yes := by kernel_rfl
theorem y4435 (L c : Nat) : run4 (L + 1) c 4 4 3 5 = .yes := by kernel_rfl
theorem g4435 : ∀ (L c : Nat), run4 L c 4 4 3 5 = .yes
  | 0, c => x4435 c
  | L + 1, c => y4435 L c
theorem h443 (L c : Nat) : ∀ x, x < 6 → run4 L c 4 4 3 x = .yes
  | 0, _ => g4430 L c
  | 1, _ => g4431 L c
  | 2, _ => g4432 L c
  | 3, _ => g4433 L c
  | 4, _ => g4434 L c
  | 5, _ => g4435 L c
  | x + 6, h => absurd h (by omega)
theorem x4440 (c : Nat) : run4 0 c 4 4 4 0 = .yes := by kernel_rfl
theorem y4440 (L c : Nat) : run4 (L + 1) c 4 4 4 0 = .yes := by kernel_rfl
theorem g4440 : ∀ (L c : Nat), run4 L c 4 4 4 0 = .yes
  | 0, c => x4440 c
  | L + 1, c => y4440 L c
theorem x4441 (c : Nat) : run4 0 c 4 4 4 1 = .yes := by kernel_rfl
theorem y4441 (L c : Nat) : run4 (L + 1) c 4 4 4 1 = .yes := by kernel_rfl
theorem g4441 : ∀ (L c : Nat), run4 L c 4 4 4 1 = .yes
  | 0, c => x4441 c
  | L + 1, c => y4441 L c
theorem x4442 (c : Nat) : run4 0 c 4 4 4 2 = .yes := by kernel_rfl
theorem y4442 (L c : Nat) : run4 (L + 1) c 4 4 4 2 = .yes := by kernel_rfl
theorem g4442 : ∀ (L c : Nat), run4 L c 4 4 4 2 = .yes
  | 0, c => x4442 c
  | L + 1, c => y4442 L c
theorem x4443 (c : Nat) : run4 0 c 4 4 4 3 = .yes := by kernel_rfl
theorem y4443 (L c : Nat) : run4 (L + 1) c 4 4 4 3 = .yes := by kernel_rfl
theorem g4443 : ∀ (L c : Nat), run4 L c 4 4 4 3 = .yes
  | 0, c => x4443 c
  | L + 1, c => y4443 L c
theorem x4444 (c : Nat) : run4 0 c 4 4 4 4 = .yes := by kernel_rfl
theorem y4444 (L c : Nat) : run4 (L + 1) c 4 4 4 4 = .yes := by kernel_rfl
theorem g4444 : ∀ (L c : Nat), run4 L c 4 4 4 4 = .yes
  | 0, c => x4444 c
  | L + 1, c => y4444 L c
theorem x4445 (c : Nat) : run4 0 c 4 4 4 5 = .yes := by kernel_rfl
theorem y4445 (L c : Nat) : run4 (L + 1) c 4 4 4 5 = .yes := by kernel_rfl
theorem g4445 : ∀ (L c : Nat), run4 L c 4 4 4 5 = .yes
  | 0, c => x4445 c
  | L + 1, c => y4445 L c
theorem h444 (L c : Nat) : ∀ x, x < 6 → run4 L c 4 4 4 x = .yes
  | 0, _ => g4440 L c
  | 1, _ => g4441 L c
  | 2, _ => g4442 L c
  | 3, _ => g4443 L c
  | 4, _ => g4444 L c
  | 5, _ => g4445 L c
  | x + 6, h => absurd h (by omega)
theorem x4450 (c : Nat) : run4 0 c 4 4 5 0 = .yes := by kernel_rfl
theorem y4450 (L c : Nat) : run4 (L + 1) c 4 4 5 0 = .yes := by kernel_rfl
theorem g4450 : ∀ (L c : Nat), run4 L c 4 4 5 0 = .yes
  | 0, c => x4450 c
  | L + 1, c => y4450 L c
theorem x4451 (c : Nat) : run4 0 c 4 4 5 1 = .yes := by kernel_rfl
theorem y4451 (L c : Nat) : run4 (L + 1) c 4 4 5 1 = .yes := by kernel_rfl
theorem g4451 : ∀ (L c : Nat), run4 L c 4 4 5 1 = .yes
  | 0, c => x4451 c
  | L + 1, c => y4451 L c
theorem x4452 (c : Nat) : run4 0 c 4 4 5 2 = .yes := by kernel_rfl
theorem y4452 (L c : Nat) : run4 (L + 1) c 4 4 5 2 = .yes := by kernel_rfl
theorem g4452 : ∀ (L c : Nat), run4 L c 4 4 5 2 = .yes
  | 0, c => x4452 c
  | L + 1, c => y4452 L c
theorem x4453 (c : Nat) : run4 0 c 4 4 5 3 = .yes := by kernel_rfl
theorem y4453 (L c : Nat) : run4 (L + 1) c 4 4 5 3 = .yes := by kernel_rfl
theorem g4453 : ∀ (L c : Nat), run4 L c 4 4 5 3 = .yes
  | 0, c => x4453 c
  | L + 1, c => y4453 L c
theorem x4454 (c : Nat) : run4 0 c 4 4 5 4 = .yes := by kernel_rfl
theorem y4454 (L c : Nat) : run4 (L + 1) c 4 4 5 4 = .yes := by kernel_rfl
theorem g4454 : ∀ (L c : Nat), run4 L c 4 4 5 4 = .yes
  | 0, c => x4454 c
  | L + 1, c => y4454 L c
theorem x4455 (c : Nat) : run4 0 c 4 4 5 5 = .yes := by kernel_rfl
theorem y4455 (L c : Nat) : run4 (L + 1) c 4 4 5 5 = .yes := by kernel_rfl
theorem g4455 : ∀ (L c : Nat), run4 L c 4 4 5 5 = .yes
  | 0, c => x4455 c
  | L + 1, c => y4455 L c
theorem h445 (L c : Nat) : ∀ x, x < 6 → run4 L c 4 4 5 x = .yes
  | 0, _ => g4450 L c
  | 1, _ => g4451 L c
  | 2, _ => g4452 L c
  | 3, _ => g4453 L c
  | 4, _ => g4454 L c
  | 5, _ => g4455 L c
  | x + 6, h => absurd h (by omega)
theorem hh44 (L c : Nat) : ∀ x, x < 6 → ∀ y, y < 6 → run4 L c 4 4 x y = .yes
  | 0, _ => h440 L c
  | 1, _ => h441 L c
  | 2, _ => h442 L c
  | 3, _ => h443 L c
  | 4, _ => h444 L c
  | 5, _ => h445 L c
  | x + 6, h => absurd h (by omega)
theorem x1100 (c : Nat) : run4 0 c 1 1 0 0 = .yes := by kernel_rfl
theorem y1100 (L c : Nat) : run4 (L + 1) c 1 1 0 0 = .yes := by kernel_rfl
theorem g1100 : ∀ (L c : Nat), run4 L c 1 1 0 0 = .yes
  | 0, c => x1100 c
  | L + 1, c => y1100 L c
theorem x1101 (c : Nat) : run4 0 c 1 1 0 1 = .yes := by kernel_rfl
theorem y1101 (L c : Nat) : run4 (L + 1) c 1 1 0 1 = .yes := by kernel_rfl
theorem g1101 : ∀ (L c : Nat), run4 L c 1 1 0 1 = .yes
  | 0, c => x1101 c
  | L + 1, c => y1101 L c
theorem x1102 (c : Nat) : run4 0 c 1 1 0 2 = .yes := by kernel_rfl
theorem y1102 (L c : Nat) : run4 (L + 1) c 1 1 0 2 = .yes := by kernel_rfl
theorem g1102 : ∀ (L c : Nat), run4 L c 1 1 0 2 = .yes
  | 0, c => x1102 c
  | L + 1, c => y1102 L c
theorem x1103 (c : Nat) : run4 0 c 1 1 0 3 = .yes := by kernel_rfl
theorem y1103 (L c : Nat) : run4 (L + 1) c 1 1 0 3 = .yes := by kernel_rfl
theorem g1103 : ∀ (L c : Nat), run4 L c 1 1 0 3 = .yes
  | 0, c => x1103 c
  | L + 1, c => y1103 L c
theorem x1104 (c : Nat) : run4 0 c 1 1 0 4 = .yes := by kernel_rfl
theorem y1104 (L c : Nat) : run4 (L + 1) c 1 1 0 4 = .yes := by kernel_rfl
theorem g1104 : ∀ (L c : Nat), run4 L c 1 1 0 4 = .yes
  | 0, c => x1104 c
  | L + 1, c => y1104 L c
theorem x1105 (c : Nat) : run4 0 c 1 1 0 5 = .yes := by kernel_rfl
theorem y1105 (L c : Nat) : run4 (L + 1) c 1 1 0 5 = .yes := by kernel_rfl
theorem g1105 : ∀ (L c : Nat), run4 L c 1 1 0 5 = .yes
  | 0, c => x1105 c
  | L + 1, c => y1105 L c
theorem h110 (L c : Nat) : ∀ x, x < 6 → run4 L c 1 1 0 x = .yes
  | 0, _ => g1100 L c
  | 1, _ => g1101 L c
  | 2, _ => g1102 L c
  | 3, _ => g1103 L c
  | 4, _ => g1104 L c
  | 5, _ => g1105 L c
  | x + 6, h => absurd h (by omega)
theorem x1110 (c : Nat) : run4 0 c 1 1 1 0 = .yes := by kernel_rfl
theorem y1110 (L c : Nat) : run4 (L + 1) c 1 1 1 0 = .yes := by kernel_rfl
theorem g1110 : ∀ (L c : Nat), run4 L c 1 1 1 0 = .yes
  | 0, c => x1110 c
  | L + 1, c => y1110 L c
theorem x1111 (c : Nat) : run4 0 c 1 1 1 1 = .yes := by kernel_rfl
theorem y1111 (L c : Nat) : run4 (L + 1) c 1 1 1 1 = .yes := by kernel_rfl
theorem g1111 : ∀ (L c : Nat), run4 L c 1 1 1 1 = .yes
  | 0, c => x1111 c
  | L + 1, c => y1111 L c
theorem x1112 (c : Nat) : run4 0 c 1 1 1 2 = .yes := by kernel_rfl
theorem y1112 (L c : Nat) : run4 (L + 1) c 1 1 1 2 = .yes := by kernel_rfl
theorem g1112 : ∀ (L c : Nat), run4 L c 1 1 1 2 = .yes
  | 0, c => x1112 c
  | L + 1, c => y1112 L c
theorem x1113 (c : Nat) : run4 0 c 1 1 1 3 = .yes := by kernel_rfl
theorem y1113 (L c : Nat) : run4 (L + 1) c 1 1 1 3 = .yes := by kernel_rfl
theorem g1113 : ∀ (L c : Nat), run4 L c 1 1 1 3 = .yes
  | 0, c => x1113 c
  | L + 1, c => y1113 L c
theorem x1114 (c : Nat) : run4 0 c 1 1 1 4 = .yes := by kernel_rfl
theorem y1114 (L c : Nat) : run4 (L + 1) c 1 1 1 4 = .yes := by kernel_rfl
theorem g1114 : ∀ (L c : Nat), run4 L c 1 1 1 4 = .yes
  | 0, c => x1114 c
  | L + 1, c => y1114 L c
theorem x1115 (c : Nat) : run4 0 c 1 1 1 5 = .yes := by kernel_rfl
theorem y1115 (L c : Nat) : run4 (L + 1) c 1 1 1 5 = .yes := by kernel_rfl
theorem g1115 : ∀ (L c : Nat), run4 L c 1 1 1 5 = .yes
  | 0, c => x1115 c
  | L + 1, c => y1115 L c
theorem h111 (L c : Nat) : ∀ x, x < 6 → run4 L c 1 1 1 x = .yes
  | 0, _ => g1110 L c
  | 1, _ => g1111 L c
  | 2, _ => g1112 L c
  | 3, _ => g1113 L c
  | 4, _ => g1114 L c
  | 5, _ => g1115 L c
  | x + 6, h => absurd h (by omega)
theorem x1120 (c : Nat) : run4 0 c 1 1 2 0 = .yes := by kernel_rfl
theorem y1120 (L c : Nat) : run4 (L + 1) c 1 1 2 0 = .yes := by kernel_rfl
theorem g1120 : ∀ (L c : Nat), run4 L c 1 1 2 0 = .yes
  | 0, c => x1120 c
  | L + 1, c => y1120 L c
theorem x1121 (c : Nat) : run4 0 c 1 1 2 1 = .yes := by kernel_rfl
theorem y1121 (L c : Nat) : run4 (L + 1) c 1 1 2 1 = .yes := by kernel_rfl
theorem g1121 : ∀ (L c : Nat), run4 L c 1 1 2 1 = .yes
  | 0, c => x1121 c
  | L + 1, c => y1121 L c
theorem x1122 (c : Nat) : run4 0 c 1 1 2 2 = .yes := by kernel_rfl
theorem y1122 (L c : Nat) : run4 (L + 1) c 1 1 2 2 = .yes := by kernel_rfl
theorem g1122 : ∀ (L c : Nat), run4 L c 1 1 2 2 = .yes
  | 0, c => x1122 c
  | L + 1, c => y1122 L c
theorem x1123 (c : Nat) : run4 0 c 1 1 2 3 = .yes := by kernel_rfl
theorem y1123 (L c : Nat) : run4 (L + 1) c 1 1 2 3 = .yes := by kernel_rfl
theorem g1123 : ∀ (L c : Nat), run4 L c 1 1 2 3 = .yes
  | 0, c => x1123 c
  | L + 1, c => y1123 L c
theorem x1124 (c : Nat) : run4 0 c 1 1 2 4 = .yes := by kernel_rfl
theorem y1124 (L c : Nat) : run4 (L + 1) c 1 1 2 4 = .yes := by kernel_rfl
theorem g1124 : ∀ (L c : Nat), run4 L c 1 1 2 4 = .yes
  | 0, c => x1124 c
  | L + 1, c => y1124 L c
theorem x1125 (c : Nat) : run4 0 c 1 1 2 5 = .yes := by kernel_rfl
theorem y1125 (L c : Nat) : run4 (L + 1) c 1 1 2 5 = .yes := by kernel_rfl
theorem g1125 : ∀ (L c : Nat), run4 L c 1 1 2 5 = .yes
  | 0, c => x1125 c
  | L + 1, c => y1125 L c
theorem h112 (L c : Nat) : ∀ x, x < 6 → run4 L c 1 1 2 x = .yes
  | 0, _ => g1120 L c
  | 1, _ => g1121 L c
  | 2, _ => g1122 L c
  | 3, _ => g1123 L c
  | 4, _ => g1124 L c
  | 5, _ => g1125 L c
  | x + 6, h => absurd h (by omega)
theorem x1130 (c : Nat) : run4 0 c 1 1 3 0 = .yes := by kernel_rfl
theorem y1130 (L c : Nat) : run4 (L + 1) c 1 1 3 0 = .yes := by kernel_rfl
theorem g1130 : ∀ (L c : Nat), run4 L c 1 1 3 0 = .yes
  | 0, c => x1130 c
  | L + 1, c => y1130 L c
theorem x1131 (c : Nat) : run4 0 c 1 1 3 1 = .yes := by kernel_rfl
theorem y1131 (L c : Nat) : run4 (L + 1) c 1 1 3 1 = .yes := by kernel_rfl
theorem g1131 : ∀ (L c : Nat), run4 L c 1 1 3 1 = .yes
  | 0, c => x1131 c
  | L + 1, c => y1131 L c
theorem x1132 (c : Nat) : run4 0 c 1 1 3 2 = .yes := by kernel_rfl
theorem y1132 (L c : Nat) : run4 (L + 1) c 1 1 3 2 = .yes := by kernel_rfl
theorem g1132 : ∀ (L c : Nat), run4 L c 1 1 3 2 = .yes
  | 0, c => x1132 c
  | L + 1, c => y1132 L c
theorem x1133 (c : Nat) : run4 0 c 1 1 3 3 = .yes := by kernel_rfl
theorem y1133 (L c : Nat) : run4 (L + 1) c 1 1 3 3 = .yes := by kernel_rfl
theorem g1133 : ∀ (L c : Nat), run4 L c 1 1 3 3 = .yes
  | 0, c => x1133 c
  | L + 1, c => y1133 L c
theorem x1134 (c : Nat) : run4 0 c 1 1 3 4 = .yes := by kernel_rfl
theorem y1134 (L c : Nat) : run4 (L + 1) c 1 1 3 4 = .yes := by kernel_rfl
theorem g1134 : ∀ (L c : Nat), run4 L c 1 1 3 4 = .yes
  | 0, c => x1134 c
  | L + 1, c => y1134 L c
theorem x1135 (c : Nat) : run4 0 c 1 1 3 5 = .yes := by kernel_rfl
theorem y1135 (L c : Nat) : run4 (L + 1) c 1 1 3 5 = .yes := by kernel_rfl
theorem g1135 : ∀ (L c : Nat), run4 L c 1 1 3 5 = .yes
  | 0, c => x1135 c
  | L + 1, c => y1135 L c
theorem h113 (L c : Nat) : ∀ x, x < 6 → run4 L c 1 1 3 x = .yes
  | 0, _ => g1130 L c
  | 1, _ => g1131 L c
  | 2, _ => g1132 L c
  | 3, _ => g1133 L c
  | 4, _ => g1134 L c
  | 5, _ => g1135 L c
  | x + 6, h => absurd h (by omega)
theorem x1140 (c : Nat) : run4 0 c 1 1 4 0 = .yes := by kernel_rfl
theorem y1140 (L c : Nat) : run4 (L + 1) c 1 1 4 0 = .yes := by kernel_rfl
theorem g1140 : ∀ (L c : Nat), run4 L c 1 1 4 0 = .yes
  | 0, c => x1140 c
  | L + 1, c => y1140 L c
theorem x1141 (c : Nat) : run4 0 c 1 1 4 1 = .yes := by kernel_rfl
theorem y1141 (L c : Nat) : run4 (L + 1) c 1 1 4 1 = .yes := by kernel_rfl
theorem g1141 : ∀ (L c : Nat), run4 L c 1 1 4 1 = .yes
  | 0, c => x1141 c
  | L + 1, c => y1141 L c
theorem x1142 (c : Nat) : run4 0 c 1 1 4 2 = .yes := by kernel_rfl
theorem y1142 (L c : Nat) : run4 (L + 1) c 1 1 4 2 = .yes := by kernel_rfl
theorem g1142 : ∀ (L c : Nat), run4 L c 1 1 4 2 = .yes
  | 0, c => x1142 c
  | L + 1, c => y1142 L c
theorem x1143 (c : Nat) : run4 0 c 1 1 4 3 = .yes := by kernel_rfl
theorem y1143 (L c : Nat) : run4 (L + 1) c 1 1 4 3 = .yes := by kernel_rfl
theorem g1143 : ∀ (L c : Nat), run4 L c 1 1 4 3 = .yes
  | 0, c => x1143 c
  | L + 1, c => y1143 L c
theorem x1144 (c : Nat) : run4 0 c 1 1 4 4 = .yes := by kernel_rfl
theorem y1144 (L c : Nat) : run4 (L + 1) c 1 1 4 4 = .yes := by kernel_rfl
theorem g1144 : ∀ (L c : Nat), run4 L c 1 1 4 4 = .yes
  | 0, c => x1144 c
  | L + 1, c => y1144 L c
theorem x1145 (c : Nat) : run4 0 c 1 1 4 5 = .yes := by kernel_rfl
theorem y1145 (L c : Nat) : run4 (L + 1) c 1 1 4 5 = .yes := by kernel_rfl
theorem g1145 : ∀ (L c : Nat), run4 L c 1 1 4 5 = .yes
  | 0, c => x1145 c
  | L + 1, c => y1145 L c
theorem h114 (L c : Nat) : ∀ x, x < 6 → run4 L c 1 1 4 x = .yes
  | 0, _ => g1140 L c
  | 1, _ => g1141 L c
  | 2, _ => g1142 L c
  | 3, _ => g1143 L c
  | 4, _ => g1144 L c
  | 5, _ => g1145 L c
  | x + 6, h => absurd h (by omega)
theorem x1150 (c : Nat) : run4 0 c 1 1 5 0 = .yes := by kernel_rfl
theorem y1150 (L c : Nat) : run4 (L + 1) c 1 1 5 0 = .yes := by kernel_rfl
theorem g1150 : ∀ (L c : Nat), run4 L c 1 1 5 0 = .yes
  | 0, c => x1150 c
  | L + 1, c => y1150 L c
theorem x1151 (c : Nat) : run4 0 c 1 1 5 1 = .yes := by kernel_rfl
theorem y1151 (L c : Nat) : run4 (L + 1) c 1 1 5 1 = .yes := by kernel_rfl
theorem g1151 : ∀ (L c : Nat), run4 L c 1 1 5 1 = .yes
  | 0, c => x1151 c
  | L + 1, c => y1151 L c
theorem x1152 (c : Nat) : run4 0 c 1 1 5 2 = .yes := by kernel_rfl
theorem y1152 (L c : Nat) : run4 (L + 1) c 1 1 5 2 = .yes := by kernel_rfl
theorem g1152 : ∀ (L c : Nat), run4 L c 1 1 5 2 = .yes
  | 0, c => x1152 c
  | L + 1, c => y1152 L c
theorem x1153 (c : Nat) : run4 0 c 1 1 5 3 = .yes := by kernel_rfl
theorem y1153 (L c : Nat) : run4 (L + 1) c 1 1 5 3 = .yes := by kernel_rfl
theorem g1153 : ∀ (L c : Nat), run4 L c 1 1 5 3 = .yes
  | 0, c => x1153 c
  | L + 1, c => y1153 L c
theorem x1154 (c : Nat) : run4 0 c 1 1 5 4 = .yes := by kernel_rfl
theorem y1154 (L c : Nat) : run4 (L + 1) c 1 1 5 4 = .yes := by kernel_rfl
theorem g1154 : ∀ (L c : Nat), run4 L c 1 1 5 4 = .yes
  | 0, c => x1154 c
  | L + 1, c => y1154 L c
theorem x1155 (c : Nat) : run4 0 c 1 1 5 5 = .yes := by kernel_rfl
theorem y1155 (L c : Nat) : run4 (L + 1) c 1 1 5 5 = .yes := by kernel_rfl
theorem g1155 : ∀ (L c : Nat), run4 L c 1 1 5 5 = .yes
  | 0, c => x1155 c
  | L + 1, c => y1155 L c
theorem h115 (L c : Nat) : ∀ x, x < 6 → run4 L c 1 1 5 x = .yes
  | 0, _ => g1150 L c
  | 1, _ => g1151 L c
  | 2, _ => g1152 L c
  | 3, _ => g1153 L c
  | 4, _ => g1154 L c
  | 5, _ => g1155 L c
  | x + 6, h => absurd h (by omega)
theorem hh11 (L c : Nat) : ∀ x, x < 6 → ∀ y, y < 6 → run4 L c 1 1 x y = .yes
  | 0, _ => h110 L c
  | 1, _ => h111 L c
  | 2, _ => h112 L c
  | 3, _ => h113 L c
  | 4, _ => h114 L c
  | 5, _ => h115 L c
  | x + 6, h => absurd h (by omega)
end Go.Proofs.YtojbfaigebpnpaaDoor.ecoThreadsq
