/-
  The law EcoThreads at some of its cases: the run over the program ends in true. Conditions: none; these are closed facts.
-/
import Derived.Test.YtojbfaigebpnpaaDoorEcoThreadsA
namespace Go.Proofs.YtojbfaigebpnpaaDoor.ecoThreadsq
open Go.Rn Go.RowKit YtojbfaigebpnpaaDoor.txt
set_option maxHeartbeats 400000000
theorem x5500 (c : Nat) : run4 0 c 5 5 0 0 = .yes := by kernel_rfl
theorem y5500 (L c : Nat) : run4 (L + 1) c 5 5 0 0 = .yes := by kernel_rfl
theorem g5500 : ∀ (L c : Nat), run4 L c 5 5 0 0 = .yes
  | 0, c => x5500 c
  | L + 1, c => y5500 L c
theorem x5501 (c : Nat) : run4 0 c 5 5 0 1 = .yes := by kernel_rfl
theorem y5501 (L c : Nat) : run4 (L + 1) c 5 5 0 1 = .yes := by kernel_rfl
theorem g5501 : ∀ (L c : Nat), run4 L c 5 5 0 1 = .yes
  | 0, c => x5501 c
  | L + 1, c => y5501 L c
theorem x5502 (c : Nat) : run4 0 c 5 5 0 2 = .yes := by kernel_rfl
theorem y5502 (L c : Nat) : run4 (L + 1) c 5 5 0 2 = .yes := by kernel_rfl
theorem g5502 : ∀ (L c : Nat), run4 L c 5 5 0 2 = .yes
  | 0, c => x5502 c
  | L + 1, c => y5502 L c
theorem x5503 (c : Nat) : run4 0 c 5 5 0 3 = .yes := by kernel_rfl
theorem y5503 (L c : Nat) : run4 (L + 1) c 5 5 0 3 = .yes := by kernel_rfl
theorem g5503 : ∀ (L c : Nat), run4 L c 5 5 0 3 = .yes
  | 0, c => x5503 c
  | L + 1, c => y5503 L c
theorem x5504 (c : Nat) : run4 0 c 5 5 0 4 = .yes := by kernel_rfl
theorem y5504 (L c : Nat) : run4 (L + 1) c 5 5 0 4 = .yes := by kernel_rfl
theorem g5504 : ∀ (L c : Nat), run4 L c 5 5 0 4 = .yes
  | 0, c => x5504 c
  | L + 1, c => y5504 L c
theorem x5505 (c : Nat) : run4 0 c 5 5 0 5 = .yes := by kernel_rfl
theorem y5505 (L c : Nat) : run4 (L + 1) c 5 5 0 5 = .yes := by kernel_rfl
theorem g5505 : ∀ (L c : Nat), run4 L c 5 5 0 5 = .yes
  | 0, c => x5505 c
  | L + 1, c => y5505 L c
theorem h550 (L c : Nat) : ∀ x, x < 6 → run4 L c 5 5 0 x = .yes
  | 0, _ => g5500 L c
  | 1, _ => g5501 L c
  | 2, _ => g5502 L c
  | 3, _ => g5503 L c
  | 4, _ => g5504 L c
  | 5, _ => g5505 L c
  | x + 6, h => absurd h (by omega)
theorem x5510 (c : Nat) : run4 0 c 5 5 1 0 = .yes := by kernel_rfl
theorem y5510 (L c : Nat) : run4 (L + 1) c 5 5 1 0 = .yes := by kernel_rfl
theorem g5510 : ∀ (L c : Nat), run4 L c 5 5 1 0 = .yes
  | 0, c => x5510 c
  | L + 1, c => y5510 L c
theorem x5511 (c : Nat) : run4 0 c 5 5 1 1 = .yes := by kernel_rfl
theorem y5511 (L c : Nat) : run4 (L + 1) c 5 5 1 1 = .yes := by kernel_rfl
theorem g5511 : ∀ (L c : Nat), run4 L c 5 5 1 1 = .yes
  | 0, c => x5511 c
  | L + 1, c => y5511 L c
theorem x5512 (c : Nat) : run4 0 c 5 5 1 2 = .yes := by kernel_rfl
theorem y5512 (L c : Nat) : run4 (L + 1) c 5 5 1 2 = .yes := by kernel_rfl
theorem g5512 : ∀ (L c : Nat), run4 L c 5 5 1 2 = .yes
  | 0, c => x5512 c
  | L + 1, c => y5512 L c
theorem x5513 (c : Nat) : run4 0 c 5 5 1 3 = .yes := by kernel_rfl
theorem y5513 (L c : Nat) : run4 (L + 1) c 5 5 1 3 = .yes := by kernel_rfl
theorem g5513 : ∀ (L c : Nat), run4 L c 5 5 1 3 = .yes
  | 0, c => x5513 c
  | L + 1, c => y5513 L c
theorem x5514 (c : Nat) : run4 0 c 5 5 1 4 = .yes := by kernel_rfl
theorem y5514 (L c : Nat) : run4 (L + 1) c 5 5 1 4 = .yes := by kernel_rfl
theorem g5514 : ∀ (L c : Nat), run4 L c 5 5 1 4 = .yes
  | 0, c => x5514 c
  | L + 1, c => y5514 L c
theorem x5515 (c : Nat) : run4 0 c 5 5 1 5 = .yes := by kernel_rfl
theorem y5515 (L c : Nat) : run4 (L + 1) c 5 5 1 5 = .yes := by kernel_rfl
theorem g5515 : ∀ (L c : Nat), run4 L c 5 5 1 5 = .yes
  | 0, c => x5515 c
  | L + 1, c => y5515 L c
theorem h551 (L c : Nat) : ∀ x, x < 6 → run4 L c 5 5 1 x = .yes
  | 0, _ => g5510 L c
  | 1, _ => g5511 L c
  | 2, _ => g5512 L c
  | 3, _ => g5513 L c
  | 4, _ => g5514 L c
  | 5, _ => g5515 L c
  | x + 6, h => absurd h (by omega)
theorem x5520 (c : Nat) : run4 0 c 5 5 2 0 = .yes := by kernel_rfl
theorem y5520 (L c : Nat) : run4 (L + 1) c 5 5 2 0 = .yes := by kernel_rfl
theorem g5520 : ∀ (L c : Nat), run4 L c 5 5 2 0 = .yes
  | 0, c => x5520 c
  | L + 1, c => y5520 L c
theorem x5521 (c : Nat) : run4 0 c 5 5 2 1 = .yes := by kernel_rfl
theorem y5521 (L c : Nat) : run4 (L + 1) c 5 5 2 1 = .yes := by kernel_rfl
theorem g5521 : ∀ (L c : Nat), run4 L c 5 5 2 1 = .yes
  | 0, c => x5521 c
  | L + 1, c => y5521 L c
theorem x5522 (c : Nat) : run4 0 c 5 5 2 2 = .yes := by kernel_rfl
theorem y5522 (L c : Nat) : run4 (L + 1) c 5 5 2 2 = .yes := by kernel_rfl
theorem g5522 : ∀ (L c : Nat), run4 L c 5 5 2 2 = .yes
  | 0, c => x5522 c
  | L + 1, c => y5522 L c
theorem x5523 (c : Nat) : run4 0 c 5 5 2 3 = .yes := by kernel_rfl
theorem y5523 (L c : Nat) : run4 (L + 1) c 5 5 2 3 = .yes := by kernel_rfl
theorem g5523 : ∀ (L c : Nat), run4 L c 5 5 2 3 = .yes
  | 0, c => x5523 c
  | L + 1, c => y5523 L c
theorem x5524 (c : Nat) : run4 0 c 5 5 2 4 = .yes := by kernel_rfl
theorem y5524 (L c : Nat) : run4 (L + 1) c 5 5 2 4 = .yes := by kernel_rfl
theorem g5524 : ∀ (L c : Nat), run4 L c 5 5 2 4 = .yes
  | 0, c => x5524 c
  | L + 1, c => y5524 L c
theorem x5525 (c : Nat) : run4 0 c 5 5 2 5 = .yes := by kernel_rfl
theorem y5525 (L c : Nat) : run4 (L + 1) c 5 5 2 5 = .yes := by kernel_rfl
theorem g5525 : ∀ (L c : Nat), run4 L c 5 5 2 5 = .yes
  | 0, c => x5525 c
  | L + 1, c => y5525 L c
theorem h552 (L c : Nat) : ∀ x, x < 6 → run4 L c 5 5 2 x = .yes
  | 0, _ => g5520 L c
  | 1, _ => g5521 L c
  | 2, _ => g5522 L c
  | 3, _ => g5523 L c
  | 4, _ => g5524 L c
  | 5, _ => g5525 L c
  | x + 6, h => absurd h (by omega)
theorem x5530 (c : Nat) : run4 0 c 5 5 3 0 = .yes := by kernel_rfl
theorem y5530 (L c : Nat) : run4 (L + 1) c 5 5 3 0 = .yes := by kernel_rfl
theorem g5530 : ∀ (L c : Nat), run4 L c 5 5 3 0 = .yes
  | 0, c => x5530 c
  | L + 1, c => y5530 L c
theorem x5531 (c : Nat) : run4 0 c 5 5 3 1 = .yes := by kernel_rfl
theorem y5531 (L c : Nat) : run4 (L + 1) c 5 5 3 1 = .yes := by kernel_rfl
theorem g5531 : ∀ (L c : Nat), run4 L c 5 5 3 1 = .yes
  | 0, c => x5531 c
  | L + 1, c => y5531 L c
theorem x5532 (c : Nat) : run4 0 c 5 5 3 2 = .yes := by kernel_rfl
theorem y5532 (L c : Nat) : run4 (L + 1) c 5 5 3 2 = .yes := by kernel_rfl
theorem g5532 : ∀ (L c : Nat), run4 L c 5 5 3 2 = .yes
  | 0, c => x5532 c
  | L + 1, c => y5532 L c
theorem x5533 (c : Nat) : run4 0 c 5 5 3 3 = .yes := by kernel_rfl
theorem y5533 (L c : Nat) : run4 (L + 1) c 5 5 3 3 = .yes := by kernel_rfl
theorem g5533 : ∀ (L c : Nat), run4 L c 5 5 3 3 = .yes
  | 0, c => x5533 c
  | L + 1, c => y5533 L c
theorem x5534 (c : Nat) : run4 0 c 5 5 3 4 = .yes := by kernel_rfl
theorem y5534 (L c : Nat) : run4 (L + 1) c 5 5 3 4 = .yes := by kernel_rfl
theorem g5534 : ∀ (L c : Nat), run4 L c 5 5 3 4 = .yes
  | 0, c => x5534 c
  | L + 1, c => y5534 L c
theorem x5535 (c : Nat) : run4 0 c 5 5 3 5 = .yes := by kernel_rfl
theorem y5535 (L c : Nat) : run4 (L + 1) c 5 5 3 5 = .yes := by kernel_rfl
theorem g5535 : ∀ (L c : Nat), run4 L c 5 5 3 5 = .yes
  | 0, c => x5535 c
  | L + 1, c => y5535 L c
theorem h553 (L c : Nat) : ∀ x, x < 6 → run4 L c 5 5 3 x = .yes
  | 0, _ => g5530 L c
  | 1, _ => g5531 L c
  | 2, _ => g5532 L c
  | 3, _ => g5533 L c
  | 4, _ => g5534 L c
  | 5, _ => g5535 L c
  | x + 6, h => absurd h (by omega)
theorem x5540 (c : Nat) : run4 0 c 5 5 4 0 = .yes := by kernel_rfl
theorem y5540 (L c : Nat) : run4 (L + 1) c 5 5 4 0 = .yes := by kernel_rfl
theorem g5540 : ∀ (L c : Nat), run4 L c 5 5 4 0 = .yes
  | 0, c => x5540 c
  | L + 1, c => y5540 L c
theorem x5541 (c : Nat) : run4 0 c 5 5 4 1 = .yes := by kernel_rfl
theorem y5541 (L c : Nat) : run4 (L + 1) c 5 5 4 1 = .yes := by kernel_rfl
theorem g5541 : ∀ (L c : Nat), run4 L c 5 5 4 1 = .yes
  | 0, c => x5541 c
  | L + 1, c => y5541 L c
theorem x5542 (c : Nat) : run4 0 c 5 5 4 2 = .yes := by kernel_rfl
theorem y5542 (L c : Nat) : run4 (L + 1) c 5 5 4 2 = .yes := by kernel_rfl
theorem g5542 : ∀ (L c : Nat), run4 L c 5 5 4 2 = .yes
  | 0, c => x5542 c
  | L + 1, c => y5542 L c
theorem x5543 (c : Nat) : run4 0 c 5 5 4 3 = .yes := by kernel_rfl
theorem y5543 (L c : Nat) : run4 (L + 1) c 5 5 4 3 = .yes := by kernel_rfl
theorem g5543 : ∀ (L c : Nat), run4 L c 5 5 4 3 = .yes
  | 0, c => x5543 c
  | L + 1, c => y5543 L c
theorem x5544 (c : Nat) : run4 0 c 5 5 4 4 = .yes := by kernel_rfl
theorem y5544 (L c : Nat) : run4 (L + 1) c 5 5 4 4 = .yes := by kernel_rfl
theorem g5544 : ∀ (L c : Nat), run4 L c 5 5 4 4 = .yes
  | 0, c => x5544 c
  | L + 1, c => y5544 L c
theorem x5545 (c : Nat) : run4 0 c 5 5 4 5 = .yes := by kernel_rfl
theorem y5545 (L c : Nat) : run4 (L + 1) c 5 5 4 5 = .yes := by kernel_rfl
theorem g5545 : ∀ (L c : Nat), run4 L c 5 5 4 5 = .yes
  | 0, c => x5545 c
  | L + 1, c => y5545 L c
theorem h554 (L c : Nat) : ∀ x, x < 6 → run4 L c 5 5 4 x = .yes
  | 0, _ => g5540 L c
  | 1, _ => g5541 L c
  | 2, _ => g5542 L c
  | 3, _ => g5543 L c
  | 4, _ => g5544 L c
  | 5, _ => g5545 L c
  | x + 6, h => absurd h (by omega)
theorem x5550 (c : Nat) : run4 0 c 5 5 5 0 = .yes := by kernel_rfl
theorem y5550 (L c : Nat) : run4 (L + 1) c 5 5 5 0 = .yes := by kernel_rfl
theorem g5550 : ∀ (L c : Nat), run4 L c 5 5 5 0 = .yes
  | 0, c => x5550 c
  | L + 1, c => y5550 L c
theorem x5551 (c : Nat) : run4 0 c 5 5 5 1 = .yes := by kernel_rfl
theorem y5551 (L c : Nat) : run4 (L + 1) c 5 5 5 1 = .yes := by kernel_rfl
theorem g5551 : ∀ (L c : Nat), run4 L c 5 5 5 1 = .yes
  | 0, c => x5551 c
  | L + 1, c => y5551 L c
theorem x5552 (c : Nat) : run4 0 c 5 5 5 2 = .yes := by kernel_rfl
theorem y5552 (L c : Nat) : run4 (L + 1) c 5 5 5 2 = .yes := by kernel_rfl
theorem g5552 : ∀ (L c : Nat), run4 L c 5 5 5 2 = .yes
  | 0, c => x5552 c
  | L + 1, c => y5552 L c
theorem x5553 (c : Nat) : run4 0 c 5 5 5 3 = .yes := by kernel_rfl
theorem y5553 (L c : Nat) : run4 (L + 1) c 5 5 5 3 = .yes := by kernel_rfl
theorem g5553 : ∀ (L c : Nat), run4 L c 5 5 5 3 = .yes
  | 0, c => x5553 c
  | L + 1, c => y5553 L c
theorem x5554 (c : Nat) : run4 0 c 5 5 5 4 = .yes := by kernel_rfl
theorem y5554 (L c : Nat) : run4 (L + 1) c 5 5 5 4 = .yes := by kernel_rfl
theorem g5554 : ∀ (L c : Nat), run4 L c 5 5 5 4 = .yes
  | 0, c => x5554 c
  | L + 1, c => y5554 L c
theorem x5555 (c : Nat) : run4 0 c 5 5 5 5 = .yes := by kernel_rfl
theorem y5555 (L c : Nat) : run4 (L + 1) c 5 5 5 5 = .yes := by kernel_rfl
theorem g5555 : ∀ (L c : Nat), run4 L c 5 5 5 5 = .yes
  | 0, c => x5555 c
  | L + 1, c => y5555 L c
theorem h555 (L c : Nat) : ∀ x, x < 6 → run4 L c 5 5 5 x = .yes
  | 0, _ => g5550 L c
  | 1, _ => g5551 L c
  | 2, _ => g5552 L c
  | 3, _ => g5553 L c
  | 4, _ => g5554 L c
  | 5, _ => g5555 L c
  | x + 6, h => absurd h (by omega)
theorem hh55 (L c : Nat) : ∀ x, x < 6 → ∀ y, y < 6 → run4 L c 5 5 x y = .yes
  | 0, _ => h550 L c
  | 1, _ => h551 L c
  | 2, _ => h552 L c
  | 3, _ => h553 L c
  | 4, _ => h554 L c
  | 5, _ => h555 L c
  | x + 6, h => absurd h (by omega)
theorem x0000 (c : Nat) : run4 0 c 0 0 0 0 = .yes := by kernel_rfl
theorem y0000 (L c : Nat) : run4 (L + 1) c 0 0 0 0 = .yes := by kernel_rfl
theorem g0000 : ∀ (L c : Nat), run4 L c 0 0 0 0 = .yes
  | 0, c => x0000 c
  | L + 1, c => y0000 L c
theorem x0001 (c : Nat) : run4 0 c 0 0 0 1 = .yes := by kernel_rfl
theorem y0001 (L c : Nat) : run4 (L + 1) c 0 0 0 1 = .yes := by kernel_rfl
theorem g0001 : ∀ (L c : Nat), run4 L c 0 0 0 1 = .yes
  | 0, c => x0001 c
  | L + 1, c => y0001 L c
theorem x0002 (c : Nat) : run4 0 c 0 0 0 2 = .yes := by kernel_rfl
theorem y0002 (L c : Nat) : run4 (L + 1) c 0 0 0 2 = .yes := by kernel_rfl
theorem g0002 : ∀ (L c : Nat), run4 L c 0 0 0 2 = .yes
  | 0, c => x0002 c
  | L + 1, c => y0002 L c
theorem x0003 (c : Nat) : run4 0 c 0 0 0 3 = .yes := by kernel_rfl
theorem y0003 (L c : Nat) : run4 (L + 1) c 0 0 0 3 = .yes := by kernel_rfl
theorem g0003 : ∀ (L c : Nat), run4 L c 0 0 0 3 = .yes
  | 0, c => x0003 c
  | L + 1, c => y0003 L c
theorem x0004 (c : Nat) : run4 0 c 0 0 0 4 = .yes := by kernel_rfl
theorem y0004 (L c : Nat) : run4 (L + 1) c 0 0 0 4 = .yes := by kernel_rfl
theorem g0004 : ∀ (L c : Nat), run4 L c 0 0 0 4 = .yes
  | 0, c => x0004 c
  | L + 1, c => y0004 L c
theorem x0005 (c : Nat) : run4 0 c 0 0 0 5 = .yes := by kernel_rfl
theorem y0005 (L c : Nat) : run4 (L + 1) c 0 0 0 5 = .yes := by kernel_rfl
theorem g0005 : ∀ (L c : Nat), run4 L c 0 0 0 5 = .yes
  | 0, c => x0005 c
  | L + 1, c => y0005 L c
theorem h000 (L c : Nat) : ∀ x, x < 6 → run4 L c 0 0 0 x = .yes
  | 0, _ => g0000 L c
  | 1, _ => g0001 L c
  | 2, _ => g0002 L c
  | 3, _ => g0003 L c
  | 4, _ => g0004 L c
  | 5, _ => g0005 L c
  | x + 6, h => absurd h (by omega)
theorem x0010 (c : Nat) : run4 0 c 0 0 1 0 = .yes := by kernel_rfl
theorem y0010 (L c : Nat) : run4 (L + 1) c 0 0 1 0 = .yes := by kernel_rfl
theorem g0010 : ∀ (L c : Nat), run4 L c 0 0 1 0 = .yes
  | 0, c => x0010 c
  | L + 1, c => y0010 L c
theorem x0011 (c : Nat) : run4 0 c 0 0 1 1 = .yes := by kernel_rfl
theorem y0011 (L c : Nat) : run4 (L + 1) c 0 0 1 1 = .yes := by kernel_rfl
theorem g0011 : ∀ (L c : Nat), run4 L c 0 0 1 1 = .yes
  | 0, c => x0011 c
  | L + 1, c => y0011 L c
theorem x0012 (c : Nat) : run4 0 c 0 0 1 2 = .yes := by kernel_rfl
theorem y0012 (L c : Nat) : run4 (L + 1) c 0 0 1 2 = .yes := by kernel_rfl
theorem g0012 : ∀ (L c : Nat), run4 L c 0 0 1 2 = .yes
  | 0, c => x0012 c
  | L + 1, c => y0012 L c
theorem x0013 (c : Nat) : run4 0 c 0 0 1 3 = .yes := by kernel_rfl
theorem y0013 (L c : Nat) : run4 (L + 1) c 0 0 1 3 = .yes := by kernel_rfl
theorem g0013 : ∀ (L c : Nat), run4 L c 0 0 1 3 = .yes
  | 0, c => x0013 c
  | L + 1, c => y0013 L c
theorem x0014 (c : Nat) : run4 0 c 0 0 1 4 = .yes := by kernel_rfl
theorem y0014 (L c : Nat) : run4 (L + 1) c 0 0 1 4 = .yes := by kernel_rfl
theorem g0014 : ∀ (L c : Nat), run4 L c 0 0 1 4 = .yes
  | 0, c => x0014 c
  | L + 1, c => y0014 L c
theorem x0015 (c : Nat) : run4 0 c 0 0 1 5 = .yes := by kernel_rfl
theorem y0015 (L c : Nat) : run4 (L + 1) c 0 0 1 5 = .yes := by kernel_rfl
theorem g0015 : ∀ (L c : Nat), run4 L c 0 0 1 5 = .yes
  | 0, c => x0015 c
  | L + 1, c => y0015 L c
theorem h001 (L c : Nat) : ∀ x, x < 6 → run4 L c 0 0 1 x = .yes
  | 0, _ => g0010 L c
  | 1, _ => g0011 L c
  | 2, _ => g0012 L c
  | 3, _ => g0013 L c
  | 4, _ => g0014 L c
  | 5, _ => g0015 L c
  | x + 6, h => absurd h (by omega)
theorem x0020 (c : Nat) : run4 0 c 0 0 2 0 = .yes := by kernel_rfl
theorem y0020 (L c : Nat) : run4 (L + 1) c 0 0 2 0 = .yes := by kernel_rfl
theorem g0020 : ∀ (L c : Nat), run4 L c 0 0 2 0 = .yes
  | 0, c => x0020 c
  | L + 1, c => y0020 L c
theorem x0021 (c : Nat) : run4 0 c 0 0 2 1 = .yes := by kernel_rfl
theorem y0021 (L c : Nat) : run4 (L + 1) c 0 0 2 1 = .yes := by kernel_rfl
theorem g0021 : ∀ (L c : Nat), run4 L c 0 0 2 1 = .yes
  | 0, c => x0021 c
  | L + 1, c => y0021 L c
theorem x0022 (c : Nat) : run4 0 c 0 0 2 2 = .yes := by kernel_rfl
theorem y0022 (L c : Nat) : run4 (L + 1) c 0 0 2 2 = .yes := by kernel_rfl
theorem g0022 : ∀ (L c : Nat), run4 L c 0 0 2 2 = .yes
  | 0, c => x0022 c
  | L + 1, c => y0022 L c
theorem x0023 (c : Nat) : run4 0 c 0 0 2 3 = .yes := by kernel_rfl
theorem y0023 (L c : Nat) : run4 (L + 1) c 0 0 2 3 = .yes := by kernel_rfl
theorem g0023 : ∀ (L c : Nat), run4 L c 0 0 2 3 = .yes
  | 0, c => x0023 c
  | L + 1, c => y0023 L c
theorem x0024 (c : Nat) : run4 0 c 0 0 2 4 = .yes := by kernel_rfl
theorem y0024 (L c : Nat) : run4 (L + 1) c 0 0 2 4 = .yes := by kernel_rfl
theorem g0024 : ∀ (L c : Nat), run4 L c 0 0 2 4 = .yes
  | 0, c => x0024 c
  | L + 1, c => y0024 L c
theorem x0025 (c : Nat) : run4 0 c 0 0 2 5 = .yes := by kernel_rfl
theorem y0025 (L c : Nat) : run4 (L + 1) c 0 0 2 5 = .yes := by kernel_rfl
theorem g0025 : ∀ (L c : Nat), run4 L c 0 0 2 5 = .yes
  | 0, c => x0025 c
  | L + 1, c => y0025 L c
theorem h002 (L c : Nat) : ∀ x, x < 6 → run4 L c 0 0 2 x = .yes
  | 0, _ => g0020 L c
  | 1, _ => g0021 L c
  | 2, _ => g0022 L c
  | 3, _ => g0023 L c
  | 4, _ => g0024 L c
  | 5, _ => g0025 L c
  | x + 6, h => absurd h (by omega)
theorem x0030 (c : Nat) : run4 0 c 0 0 3 0 = .yes := by kernel_rfl
theorem y0030 (L c : Nat) : run4 (L + 1) c 0 0 3 0 = .yes := by kernel_rfl
theorem g0030 : ∀ (L c : Nat), run4 L c 0 0 3 0 = .yes
  | 0, c => x0030 c
  | L + 1, c => y0030 L c
theorem x0031 (c : Nat) : run4 0 c 0 0 3 1 = .yes := by kernel_rfl
theorem y0031 (L c : Nat) : run4 (L + 1) c 0 0 3 1 = .yes := by kernel_rfl
theorem g0031 : ∀ (L c : Nat), run4 L c 0 0 3 1 = .yes
  | 0, c => x0031 c
  | L + 1, c => y0031 L c
theorem x0032 (c : Nat) : run4 0 c 0 0 3 2 = .yes := by kernel_rfl
theorem y0032 (L c : Nat) : run4 (L + 1) c 0 0 3 2 = .yes := by kernel_rfl
theorem g0032 : ∀ (L c : Nat), run4 L c 0 0 3 2 = .yes
  | 0, c => x0032 c
  | L + 1, c => y0032 L c
theorem x0033 (c : Nat) : run4 0 c 0 0 3 3 = .yes := by kernel_rfl
theorem y0033 (L c : Nat) : run4 (L + 1) c 0 0 3 3 = .yes := by kernel_rfl
theorem g0033 : ∀ (L c : Nat), run4 L c 0 0 3 3 = .yes
  | 0, c => x0033 c
  | L + 1, c => y0033 L c
theorem x0034 (c : Nat) : run4 0 c 0 0 3 4 = .yes := by kernel_rfl
theorem y0034 (L c : Nat) : run4 (L + 1) c 0 0 3 4 = .yes := by kernel_rfl
theorem g0034 : ∀ (L c : Nat), run4 L c 0 0 3 4 = .yes
  | 0, c => x0034 c
  | L + 1, c => y0034 L c
theorem x0035 (c : Nat) : run4 0 c 0 0 3 5 = .yes := by kernel_rfl
theorem y0035 (L c : Nat) : run4 (L + 1) c 0 0 3 5 = .yes := by kernel_rfl
theorem g0035 : ∀ (L c : Nat), run4 L c 0 0 3 5 = .yes
  | 0, c => x0035 c
  | L + 1, c => y0035 L c
theorem h003 (L c : Nat) : ∀ x, x < 6 → run4 L c 0 0 3 x = .yes
  | 0, _ => g0030 L c
  | 1, _ => g0031 L c
  | 2, _ => g0032 L c
  | 3, _ => g0033 L c
  | 4, _ => g0034 L c
  | 5, _ => g0035 L c
  | x + 6, h => absurd h (by omega)
theorem x0040 (c : Nat) : run4 0 c 0 0 4 0 = .yes := by kernel_rfl
theorem y0040 (L c : Nat) : run4 (L + 1) c 0 0 4 0 = .yes := by kernel_rfl
theorem g0040 : ∀ (L c : Nat), run4 L c 0 0 4 0 = .yes
  | 0, c => x0040 c
  | L + 1, c => y0040 L c
theorem x0041 (c : Nat) : run4 0 c 0 0 4 1 = .yes := by kernel_rfl
theorem y0041 (L c : Nat) : run4 (L + 1) c 0 0 4 1 = .yes := by kernel_rfl
theorem g0041 : ∀ (L c : Nat), run4 L c 0 0 4 1 = .yes
  | 0, c => x0041 c
  | L + 1, c => y0041 L c
theorem x0042 (c : Nat) : run4 0 c 0 0 4 2 = .yes := by kernel_rfl
theorem y0042 (L c : Nat) : run4 (L + 1) c 0 0 4 2 = .yes := by kernel_rfl
theorem g0042 : ∀ (L c : Nat), run4 L c 0 0 4 2 = .yes
  | 0, c => x0042 c
  | L + 1, c => y0042 L c
theorem x0043 (c : Nat) : run4 0 c 0 0 4 3 = .yes := by kernel_rfl
theorem y0043 (L c : Nat) : run4 (L + 1) c 0 0 4 3 = .yes := by kernel_rfl
theorem g0043 : ∀ (L c : Nat), run4 L c 0 0 4 3 = .yes
  | 0, c => x0043 c
  | L + 1, c => y0043 L c
theorem x0044 (c : Nat) : run4 0 c 0 0 4 4 = .yes := by kernel_rfl
theorem y0044 (L c : Nat) : run4 (L + 1) c 0 0 4 4 = .yes := by kernel_rfl
theorem g0044 : ∀ (L c : Nat), run4 L c 0 0 4 4 = .yes
  | 0, c => x0044 c
  | L + 1, c => y0044 L c
theorem x0045 (c : Nat) : run4 0 c 0 0 4 5 = .yes := by kernel_rfl
theorem y0045 (L c : Nat) : run4 (L + 1) c 0 0 4 5 = .yes := by kernel_rfl
theorem g0045 : ∀ (L c : Nat), run4 L c 0 0 4 5 = .yes
  | 0, c => x0045 c
  | L + 1, c => y0045 L c
theorem h004 (L c : Nat) : ∀ x, x < 6 → run4 L c 0 0 4 x = .yes
  | 0, _ => g0040 L c
  | 1, _ => g0041 L c
  | 2, _ => g0042 L c
  | 3, _ => g0043 L c
  | 4, _ => g0044 L c
  | 5, _ => g0045 L c
  | x + 6, h => absurd h (by omega)
theorem x0050 (c : Nat) : run4 0 c 0 0 5 0 = .yes := by kernel_rfl
theorem y0050 (L c : Nat) : run4 (L + 1) c 0 0 5 0 = .yes := by kernel_rfl
theorem g0050 : ∀ (L c : Nat), run4 L c 0 0 5 0 = .yes
  | 0, c => x0050 c
  | L + 1, c => y0050 L c
theorem x0051 (c : Nat) : run4 0 c 0 0 5 1 = .yes := by kernel_rfl
theorem y0051 (L c : Nat) : run4 (L + 1) c 0 0 5 1 = .yes := by kernel_rfl
theorem g0051 : ∀ (L c : Nat), run4 L c 0 0 5 1 = .yes
  | 0, c => x0051 c
  | L + 1, c => y0051 L c
theorem x0052 (c : Nat) : run4 0 c 0 0 5 2 = .yes := by kernel_rfl
theorem y0052 (L c : Nat) : run4 (L + 1) c 0 0 5 2 = .yes := by kernel_rfl
theorem g0052 : ∀ (L c : Nat), run4 L c 0 0 5 2 = .yes
  | 0, c => x0052 c
  | L + 1, c => y0052 L c
theorem x0053 (c : Nat) : run4 0 c 0 0 5 3 = .yes := by kernel_rfl
theorem y0053 (L c : Nat) : run4 (L + 1) c 0 0 5 3 = .yes := by kernel_rfl
theorem g0053 : ∀ (L c : Nat), run4 L c 0 0 5 3 = .yes
  | 0, c => x0053 c
  | L + 1, c => y0053 L c
theorem x0054 (c : Nat) : run4 0 c 0 0 5 4 = .yes := by kernel_rfl
theorem y0054 (L c : Nat) : run4 (L + 1) c 0 0 5 4 = .yes := by kernel_rfl
theorem g0054 : ∀ (L c : Nat), run4 L c 0 0 5 4 = .yes
  | 0, c => x0054 c
  | L + 1, c => y0054 L c
theorem x0055 (c : Nat) : run4 0 c 0 0 5 5 = .yes := by kernel_rfl
theorem y0055 (L c : Nat) : run4 (L + 1) c 0 0 5 5 = .yes := by kernel_rfl
theorem g0055 : ∀ (L c : Nat), run4 L c 0 0 5 5 = .yes
  | 0, c => x0055 c
  | L + 1, c => y0055 L c
theorem h005 (L c : Nat) : ∀ x, x < 6 → run4 L c 0 0 5 x = .yes
  | 0, _ => g0050 L c
  | 1, _ => g0051 L c
  | 2, _ => g0052 L c
  | 3, _ => g0053 L c
  | 4, _ => g0054 L c
  | 5, _ => g0055 L c
  | x + 6, h => absurd h (by omega)
theorem hh00 (L c : Nat) : ∀ x, x < 6 → ∀ y, y < 6 → run4 L c 0 0 x y = .yes
  | 0, _ => h000 L c
  | 1, _ => h001 L c
  | 2, _ => h002 L c
  | 3, _ => h003 L c
  | 4, _ => h004 L c
  | 5, _ => h005 L c
  | x + 6, h => absurd h (by omega)
end Go.Proofs.YtojbfaigebpnpaaDoor.ecoThreadsq
