/-
  The law EcoThreads at some of its cases: the run over the program ends in true. Conditions: none; these are closed facts.
-/
import Derived.Test.YtojbfaigebpnpaaDoorEcoThreadsA
namespace Go.Proofs.YtojbfaigebpnpaaDoor.ecoThreadsq
open Go.Rn Go.RowKit YtojbfaigebpnpaaDoor.txt
set_option maxHeartbeats 400000000
theorem x3500 (c : Nat) : run4 0 c 3 5 0 0 = .yes := by kernel_rfl
theorem y3500 (L c : Nat) : run4 (L + 1) c 3 5 0 0 = .yes := by kernel_rfl
theorem g3500 : ∀ (L c : Nat), run4 L c 3 5 0 0 = .yes
  | 0, c => x3500 c
  | L + 1, c => y3500 L c
theorem x3501 (c : Nat) : run4 0 c 3 5 0 1 = .yes := by kernel_rfl
theorem y3501 (L c : Nat) : run4 (L + 1) c 3 5 0 1 = .yes := by kernel_rfl
theorem g3501 : ∀ (L c : Nat), run4 L c 3 5 0 1 = .yes
  | 0, c => x3501 c
  | L + 1, c => y3501 L c
theorem x3502 (c : Nat) : run4 0 c 3 5 0 2 = .yes := by kernel_rfl
theorem y3502 (L c : Nat) : run4 (L + 1) c 3 5 0 2 = .yes := by kernel_rfl
theorem g3502 : ∀ (L c : Nat), run4 L c 3 5 0 2 = .yes
  | 0, c => x3502 c
  | L + 1, c => y3502 L c
theorem x3503 (c : Nat) : run4 0 c 3 5 0 3 = .yes := by kernel_rfl
theorem y3503 (L c : Nat) : run4 (L + 1) c 3 5 0 3 = .yes := by kernel_rfl
theorem g3503 : ∀ (L c : Nat), run4 L c 3 5 0 3 = .yes
  | 0, c => x3503 c
  | L + 1, c => y3503 L c
theorem x3504 (c : Nat) : run4 0 c 3 5 0 4 = .yes := by kernel_rfl
theorem y3504 (L c : Nat) : run4 (L + 1) c 3 5 0 4 = .yes := by kernel_rfl
theorem g3504 : ∀ (L c : Nat), run4 L c 3 5 0 4 = .yes
  | 0, c => x3504 c
  | L + 1, c => y3504 L c
theorem x3505 (c : Nat) : run4 0 c 3 5 0 5 = .yes := by kernel_rfl
theorem y3505 (L c : Nat) : run4 (L + 1) c 3 5 0 5 = .yes := by kernel_rfl
theorem g3505 : ∀ (L c : Nat), run4 L c 3 5 0 5 = .yes
  | 0, c => x3505 c
  | L + 1, c => y3505 L c
theorem h350 (L c : Nat) : ∀ x, x < 6 → run4 L c 3 5 0 x = .yes
  | 0, _ => g3500 L c
  | 1, _ => g3501 L c
  | 2, _ => g3502 L c
  | 3, _ => g3503 L c
  | 4, _ => g3504 L c
  | 5, _ => g3505 L c
  | x + 6, h => absurd h (by omega)
theorem x3510 (c : Nat) : run4 0 c 3 5 1 0 = .yes := by kernel_rfl
theorem y3510 (L c : Nat) : run4 (L + 1) c 3 5 1 0 = .yes := by kernel_rfl
theorem g3510 : ∀ (L c : Nat), run4 L c 3 5 1 0 = .yes
  | 0, c => x3510 c
  | L + 1, c => y3510 L c
theorem x3511 (c : Nat) : run4 0 c 3 5 1 1 = .yes := by kernel_rfl
theorem y3511 (L c : Nat) : run4 (L + 1) c 3 5 1 1 = .yes := by kernel_rfl
theorem g3511 : ∀ (L c : Nat), run4 L c 3 5 1 1 = .yes
  | 0, c => x3511 c
  | L + 1, c => y3511 L c
theorem x3512 (c : Nat) : run4 0 c 3 5 1 2 = .yes := by kernel_rfl
theorem y3512 (L c : Nat) : run4 (L + 1) c 3 5 1 2 = .yes := by kernel_rfl
theorem g3512 : ∀ (L c : Nat), run4 L c 3 5 1 2 = .yes
  | 0, c => x3512 c
  | L + 1, c => y3512 L c
theorem x3513 (c : Nat) : run4 0 c 3 5 1 3 = .yes := by kernel_rfl
theorem y3513 (L c : Nat) : run4 (L + 1) c 3 5 1 3 = .yes := by kernel_rfl
theorem g3513 : ∀ (L c : Nat), run4 L c 3 5 1 3 = .yes
  | 0, c => x3513 c
  | L + 1, c => y3513 L c
theorem x3514 (c : Nat) : run4 0 c 3 5 1 4 = .yes := by kernel_rfl
theorem y3514 (L c : Nat) : run4 (L + 1) c 3 5 1 4 = .yes := by kernel_rfl
theorem g3514 : ∀ (L c : Nat), run4 L c 3 5 1 4 = .yes
  | 0, c => x3514 c
  | L + 1, c => y3514 L c
theorem x3515 (c : Nat) : run4 0 c 3 5 1 5 = .yes := by kernel_rfl
theorem y3515 (L c : Nat) : run4 (L + 1) c 3 5 1 5 = .yes := by kernel_rfl
theorem g3515 : ∀ (L c : Nat), run4 L c 3 5 1 5 = .yes
  | 0, c => x3515 c
  | L + 1, c => y3515 L c
theorem h351 (L c : Nat) : ∀ x, x < 6 → run4 L c 3 5 1 x = .yes
  | 0, _ => g3510 L c
  | 1, _ => g3511 L c
  | 2, _ => g3512 L c
  | 3, _ => g3513 L c
  | 4, _ => g3514 L c
  | 5, _ => g3515 L c
  | x + 6, h => absurd h (by omega)
theorem x3520 (c : Nat) : run4 0 c 3 5 2 0 = .yes := by kernel_rfl
theorem y3520 (L c : Nat) : run4 (L + 1) c 3 5 2 0 = .yes := by kernel_rfl
theorem g3520 : ∀ (L c : Nat), run4 L c 3 5 2 0 = .yes
  | 0, c => x3520 c
  | L + 1, c => y3520 L c
theorem x3521 (c : Nat) : run4 0 c 3 5 2 1 = .yes := by kernel_rfl
theorem y3521 (L c : Nat) : run4 (L + 1) c 3 5 2 1 = .yes := by kernel_rfl
theorem g3521 : ∀ (L c : Nat), run4 L c 3 5 2 1 = .yes
  | 0, c => x3521 c
  | L + 1, c => y3521 L c
theorem x3522 (c : Nat) : run4 0 c 3 5 2 2 = .yes := by kernel_rfl
theorem y3522 (L c : Nat) : run4 (L + 1) c 3 5 2 2 = .yes := by kernel_rfl
theorem g3522 : ∀ (L c : Nat), run4 L c 3 5 2 2 = .yes
  | 0, c => x3522 c
  | L + 1, c => y3522 L c
theorem x3523 (c : Nat) : run4 0 c 3 5 2 3 = .yes := by kernel_rfl
theorem y3523 (L c : Nat) : run4 (L + 1) c 3 5 2 3 = .yes := by kernel_rfl
theorem g3523 : ∀ (L c : Nat), run4 L c 3 5 2 3 = .yes
  | 0, c => x3523 c
  | L + 1, c => y3523 L c
theorem x3524 (c : Nat) : run4 0 c 3 5 2 4 = .yes := by kernel_rfl
theorem y3524 (L c : Nat) : run4 (L + 1) c 3 5 2 4 = .yes := by kernel_rfl
theorem g3524 : ∀ (L c : Nat), run4 L c 3 5 2 4 = .yes
  | 0, c => x3524 c
  | L + 1, c => y3524 L c
theorem x3525 (c : Nat) : run4 0 c 3 5 2 5 = .yes := by kernel_rfl
theorem y3525 (L c : Nat) : run4 (L + 1) c 3 5 2 5 = .yes := by kernel_rfl
theorem g3525 : ∀ (L c : Nat), run4 L c 3 5 2 5 = .yes
  | 0, c => x3525 c
  | L + 1, c => y3525 L c
theorem h352 (L c : Nat) : ∀ x, x < 6 → run4 L c 3 5 2 x = .yes
  | 0, _ => g3520 L c
  | 1, _ => g3521 L c
  | 2, _ => g3522 L c
  | 3, _ => g3523 L c
  | 4, _ => g3524 L c
  | 5, _ => g3525 L c
  | x + 6, h => absurd h (by omega)
theorem x3530 (c : Nat) : run4 0 c 3 5 3 0 = .yes := by kernel_rfl
theorem y3530 (L c : Nat) : run4 (L + 1) c 3 5 3 0 = .yes := by kernel_rfl
theorem g3530 : ∀ (L c : Nat), run4 L c 3 5 3 0 = .yes
  | 0, c => x3530 c
  | L + 1, c => y3530 L c
theorem x3531 (c : Nat) : run4 0 c 3 5 3 1 = .yes := by kernel_rfl
theorem y3531 (L c : Nat) : run4 (L + 1) c 3 5 3 1 = .yes := by kernel_rfl
theorem g3531 : ∀ (L c : Nat), run4 L c 3 5 3 1 = .yes
  | 0, c => x3531 c
  | L + 1, c => y3531 L c
theorem x3532 (c : Nat) : run4 0 c 3 5 3 2 = .yes := by kernel_rfl
theorem y3532 (L c : Nat) : run4 (L + 1) c 3 5 3 2 = .yes := by kernel_rfl
theorem g3532 : ∀ (L c : Nat), run4 L c 3 5 3 2 = .yes
  | 0, c => x3532 c
  | L + 1, c => y3532 L c
theorem x3533 (c : Nat) : run4 0 c 3 5 3 3 = .yes := by kernel_rfl
theorem y3533 (L c : Nat) : run4 (L + 1) c 3 5 3 3 = .yes := by kernel_rfl
theorem g3533 : ∀ (L c : Nat), run4 L c 3 5 3 3 = .yes
  | 0, c => x3533 c
  | L + 1, c => y3533 L c
theorem x3534 (c : Nat) : run4 0 c 3 5 3 4 = .yes := by kernel_rfl
theorem y3534 (L c : Nat) : run4 (L + 1) c 3 5 3 4 = .yes := by kernel_rfl
theorem g3534 : ∀ (L c : Nat), run4 L c 3 5 3 4 = .yes
  | 0, c => x3534 c
  | L + 1, c => y3534 L c
theorem x3535 (c : Nat) : run4 0 c 3 5 3 5 = .yes := by kernel_rfl
theorem y3535 (L c : Nat) : run4 (L + 1) c 3 5 3 5 = .yes := by kernel_rfl
theorem g3535 : ∀ (L c : Nat), run4 L c 3 5 3 5 = .yes
  | 0, c => x3535 c
  | L + 1, c => y3535 L c
theorem h353 (L c : Nat) : ∀ x, x < 6 → run4 L c 3 5 3 x = .yes
  | 0, _ => g3530 L c
  | 1, _ => g3531 L c
  | 2, _ => g3532 L c
  | 3, _ => g3533 L c
  | 4, _ => g3534 L c
  | 5, _ => g3535 L c
  | x + 6, h => absurd h (by omega)
theorem x3540 (c : Nat) : run4 0 c 3 5 4 0 = .yes := by kernel_rfl
theorem y3540 (L c : Nat) : run4 (L + 1) c 3 5 4 0 = .yes := by kernel_rfl
theorem g3540 : ∀ (L c : Nat), run4 L c 3 5 4 0 = .yes
  | 0, c => x3540 c
  | L + 1, c => y3540 L c
theorem x3541 (c : Nat) : run4 0 c 3 5 4 1 = .yes := by kernel_rfl
theorem y3541 (L c : Nat) : run4 (L + 1) c 3 5 4 1 = .yes := by kernel_rfl
theorem g3541 : ∀ (L c : Nat), run4 L c 3 5 4 1 = .yes
  | 0, c => x3541 c
  | L + 1, c => y3541 L c
theorem x3542 (c : Nat) : run4 0 c 3 5 4 2 = .yes := by kernel_rfl
theorem y3542 (L c : Nat) : run4 (L + 1) c 3 5 4 2 = .yes := by kernel_rfl
theorem g3542 : ∀ (L c : Nat), run4 L c 3 5 4 2 = .yes
  | 0, c => x3542 c
  | L + 1, c => y3542 L c
theorem x3543 (c : Nat) : run4 0 c 3 5 4 3 = .yes := by kernel_rfl
theorem y3543 (L c : Nat) : run4 (L + 1) c 3 5 4 3 = .yes := by kernel_rfl
theorem g3543 : ∀ (L c : Nat), run4 L c 3 5 4 3 = .yes
  | 0, c => x3543 c
  | L + 1, c => y3543 L c
theorem x3544 (c : Nat) : run4 0 c 3 5 4 4 = .yes := by kernel_rfl
theorem y3544 (L c : Nat) : run4 (L + 1) c 3 5 4 4 = .yes := by kernel_rfl
theorem g3544 : ∀ (L c : Nat), run4 L c 3 5 4 4 = .yes
  | 0, c => x3544 c
  | L + 1, c => y3544 L c
theorem x3545 (c : Nat) : run4 0 c 3 5 4 5 = .yes := by kernel_rfl
theorem y3545 (L c : Nat) : run4 (L + 1) c 3 5 4 5 = .yes := by kernel_rfl
theorem g3545 : ∀ (L c : Nat), run4 L c 3 5 4 5 = .yes
  | 0, c => x3545 c
  | L + 1, c => y3545 L c
theorem h354 (L c : Nat) : ∀ x, x < 6 → run4 L c 3 5 4 x = .yes
  | 0, _ => g3540 L c
  | 1, _ => g3541 L c
  | 2, _ => g3542 L c
  | 3, _ => g3543 L c
  | 4, _ => g3544 L c
  | 5, _ => g3545 L c
  | x + 6, h => absurd h (by omega)
theorem x3550 (c : Nat) : run4 0 c 3 5 5 0 = .yes := by kernel_rfl
theorem y3550 (L c : Nat) : run4 (L + 1) c 3 5 5 0 = .yes := by kernel_rfl
theorem g3550 : ∀ (L c : Nat), run4 L c 3 5 5 0 = .yes
  | 0, c => x3550 c
  | L + 1, c => y3550 L c
theorem x3551 (c : Nat) : run4 0 c 3 5 5 1 = .yes := by kernel_rfl
theorem y3551 (L c : Nat) : run4 (L + 1) c 3 5 5 1 = .yes := by kernel_rfl
theorem g3551 : ∀ (L c : Nat), run4 L c 3 5 5 1 = .yes
  | 0, c => x3551 c
  | L + 1, c => y3551 L c
theorem x3552 (c : Nat) : run4 0 c 3 5 5 2 = .yes := by kernel_rfl
theorem y3552 (L c : Nat) : run4 (L + 1) c 3 5 5 2 = .yes := by kernel_rfl
theorem g3552 : ∀ (L c : Nat), run4 L c 3 5 5 2 = .yes
  | 0, c => x3552 c
  | L + 1, c => y3552 L c
theorem x3553 (c : Nat) : run4 0 c 3 5 5 3 = .yes := by kernel_rfl
theorem y3553 (L c : Nat) : run4 (L + 1) c 3 5 5 3 = .yes := by kernel_rfl
theorem g3553 : ∀ (L c : Nat), run4 L c 3 5 5 3 = .yes
  | 0, c => x3553 c
  | L + 1, c => y3553 L c
theorem x3554 (c : Nat) : run4 0 c 3 5 5 4 = .yes := by kernel_rfl
theorem y3554 (L c : Nat) : run4 (L + 1) c 3 5 5 4 = .yes := by kernel_rfl
theorem g3554 : ∀ (L c : Nat), run4 L c 3 5 5 4 = .yes
  | 0, c => x3554 c
  | L + 1, c => y3554 L c
theorem x3555 (c : Nat) : run4 0 c 3 5 5 5 = .yes := by kernel_rfl
theorem y3555 (L c : Nat) : run4 (L + 1) c 3 5 5 5 = .yes := by kernel_rfl
theorem g3555 : ∀ (L c : Nat), run4 L c 3 5 5 5 = .yes
  | 0, c => x3555 c
  | L + 1, c => y3555 L c
theorem h355 (L c : Nat) : ∀ x, x < 6 → run4 L c 3 5 5 x = .yes
  | 0, _ => g3550 L c
  | 1, _ => g3551 L c
  | 2, _ => g3552 L c
  | 3, _ => g3553 L c
  | 4, _ => g3554 L c
  | 5, _ => g3555 L c
  | x + 6, h => absurd h (by omega)
theorem hh35 (L c : Nat) : ∀ x, x < 6 → ∀ y, y < 6 → run4 L c 3 5 x y = .yes
  | 0, _ => h350 L c
  | 1, _ => h351 L c
  | 2, _ => h352 L c
  | 3, _ => h353 L c
  | 4, _ => h354 L c
  | 5, _ => h355 L c
  | x + 6, h => absurd h (by omega)
theorem x2000 (c : Nat) : run4 0 c 2 0 0 0 = .yes := by kernel_rfl
theorem y2000 (L c : Nat) : run4 (L + 1) c 2 0 0 0 = .yes := by kernel_rfl
theorem g2000 : ∀ (L c : Nat), run4 L c 2 0 0 0 = .yes
  | 0, c => x2000 c
  | L + 1, c => y2000 L c
theorem x2001 (c : Nat) : run4 0 c 2 0 0 1 = .yes := by kernel_rfl
theorem y2001 (L c : Nat) : run4 (L + 1) c 2 0 0 1 = .yes := by kernel_rfl
theorem g2001 : ∀ (L c : Nat), run4 L c 2 0 0 1 = .yes
  | 0, c => x2001 c
  | L + 1, c => y2001 L c
theorem x2002 (c : Nat) : run4 0 c 2 0 0 2 = .yes := by kernel_rfl
theorem y2002 (L c : Nat) : run4 (L + 1) c 2 0 0 2 = .yes := by kernel_rfl
theorem g2002 : ∀ (L c : Nat), run4 L c 2 0 0 2 = .yes
  | 0, c => x2002 c
  | L + 1, c => y2002 L c
theorem x2003 (c : Nat) : run4 0 c 2 0 0 3 = .yes := by kernel_rfl
theorem y2003 (L c : Nat) : run4 (L + 1) c 2 0 0 3 = .yes := by kernel_rfl
theorem g2003 : ∀ (L c : Nat), run4 L c 2 0 0 3 = .yes
  | 0, c => x2003 c
  | L + 1, c => y2003 L c
theorem x2004 (c : Nat) : run4 0 c 2 0 0 4 = .yes := by kernel_rfl
theorem y2004 (L c : Nat) : run4 (L + 1) c 2 0 0 4 = .yes := by kernel_rfl
theorem g2004 : ∀ (L c : Nat), run4 L c 2 0 0 4 = .yes
  | 0, c => x2004 c
  | L + 1, c => y2004 L c
theorem x2005 (c : Nat) : run4 0 c 2 0 0 5 = .yes := by kernel_rfl
theorem y2005 (L c : Nat) : run4 (L + 1) c 2 0 0 5 = .yes := by kernel_rfl
theorem g2005 : ∀ (L c : Nat), run4 L c 2 0 0 5 = .yes
  | 0, c => x2005 c
  | L + 1, c => y2005 L c
theorem h200 (L c : Nat) : ∀ x, x < 6 → run4 L c 2 0 0 x = .yes
  | 0, _ => g2000 L c
  | 1, _ => g2001 L c
  | 2, _ => g2002 L c
  | 3, _ => g2003 L c
  | 4, _ => g2004 L c
  | 5, _ => g2005 L c
  | x + 6, h => absurd h (by omega)
theorem x2010 (c : Nat) : run4 0 c 2 0 1 0 = .yes := by kernel_rfl
theorem y2010 (L c : Nat) : run4 (L + 1) c 2 0 1 0 = .yes := by kernel_rfl
theorem g2010 : ∀ (L c : Nat), run4 L c 2 0 1 0 = .yes
  | 0, c => x2010 c
  | L + 1, c => y2010 L c
theorem x2011 (c : Nat) : run4 0 c 2 0 1 1 = .yes := by kernel_rfl
theorem y2011 (L c : Nat) : run4 (L + 1) c 2 0 1 1 = .yes := by kernel_rfl
theorem g2011 : ∀ (L c : Nat), run4 L c 2 0 1 1 = .yes
  | 0, c => x2011 c
  | L + 1, c => y2011 L c
theorem x2012 (c : Nat) : run4 0 c 2 0 1 2 = .yes := by kernel_rfl
theorem y2012 (L c : Nat) : run4 (L + 1) c 2 0 1 2 = .yes := by kernel_rfl
theorem g2012 : ∀ (L c : Nat), run4 L c 2 0 1 2 = .yes
  | 0, c => x2012 c
  | L + 1, c => y2012 L c
theorem x2013 (c : Nat) : run4 0 c 2 0 1 3 = .yes := by kernel_rfl
theorem y2013 (L c : Nat) : run4 (L + 1) c 2 0 1 3 = .yes := by kernel_rfl
theorem g2013 : ∀ (L c : Nat), run4 L c 2 0 1 3 = .yes
  | 0, c => x2013 c
  | L + 1, c => y2013 L c
theorem x2014 (c : Nat) : run4 0 c 2 0 1 4 = .yes := by kernel_rfl
theorem y2014 (L c : Nat) : run4 (L + 1) c 2 0 1 4 = .yes := by kernel_rfl
theorem g2014 : ∀ (L c : Nat), run4 L c 2 0 1 4 = .yes
  | 0, c => x2014 c
  | L + 1, c => y2014 L c
theorem x2015 (c : Nat) : run4 0 c 2 0 1 5 = .yes := by kernel_rfl
theorem y2015 (L c : Nat) : run4 (L + 1) c 2 0 1 5 = .yes := by kernel_rfl
theorem g2015 : ∀ (L c : Nat), run4 L c 2 0 1 5 = .yes
  | 0, c => x2015 c
  | L + 1, c => y2015 L c
theorem h201 (L c : Nat) : ∀ x, x < 6 → run4 L c 2 0 1 x = .yes
  | 0, _ => g2010 L c
  | 1, _ => g2011 L c
  | 2, _ => g2012 L c
  | 3, _ => g2013 L c
  | 4, _ => g2014 L c
  | 5, _ => g2015 L c
  | x + 6, h => absurd h (by omega)
theorem x2020 (c : Nat) : run4 0 c 2 0 2 0 = .yes := by kernel_rfl
theorem y2020 (L c : Nat) : run4 (L + 1) c 2 0 2 0 = .yes := by kernel_rfl
theorem g2020 : ∀ (L c : Nat), run4 L c 2 0 2 0 = .yes
  | 0, c => x2020 c
  | L + 1, c => y2020 L c
theorem x2021 (c : Nat) : run4 0 c 2 0 2 1 = .yes := by kernel_rfl
theorem y2021 (L c : Nat) : run4 (L + 1) c 2 0 2 1 = .yes := by kernel_rfl
theorem g2021 : ∀ (L c : Nat), run4 L c 2 0 2 1 = .yes
  | 0, c => x2021 c
  | L + 1, c => y2021 L c
theorem x2022 (c : Nat) : run4 0 c 2 0 2 2 = .yes := by kernel_rfl
theorem y2022 (L c : Nat) : run4 (L + 1) c 2 0 2 2 = .yes := by kernel_rfl
theorem g2022 : ∀ (L c : Nat), run4 L c 2 0 2 2 = .yes
  | 0, c => x2022 c
  | L + 1, c => y2022 L c
theorem x2023 (c : Nat) : run4 0 c 2 0 2 3 = .yes := by kernel_rfl
theorem y2023 (L c : Nat) : run4 (L + 1) c 2 0 2 3 = .yes := by kernel_rfl
theorem g2023 : ∀ (L c : Nat), run4 L c 2 0 2 3 = .yes
  | 0, c => x2023 c
  | L + 1, c => y2023 L c
theorem x2024 (c : Nat) : run4 0 c 2 0 2 4 = .yes := by kernel_rfl
theorem y2024 (L c : Nat) : run4 (L + 1) c 2 0 2 4 = .yes := by kernel_rfl
theorem g2024 : ∀ (L c : Nat), run4 L c 2 0 2 4 = .yes
  | 0, c => x2024 c
  | L + 1, c => y2024 L c
theorem x2025 (c : Nat) : run4 0 c 2 0 2 5 = .yes := by kernel_rfl
theorem y2025 (L c : Nat) : run4 (L + 1) c 2 0 2 5 = .yes := by kernel_rfl
theorem g2025 : ∀ (L c : Nat), run4 L c 2 0 2 5 = .yes
  | 0, c => x2025 c
  | L + 1, c => y2025 L c
theorem h202 (L c : Nat) : ∀ x, x < 6 → run4 L c 2 0 2 x = .yes
  | 0, _ => g2020 L c
  | 1, _ => g2021 L c
  | 2, _ => g2022 L c
  | 3, _ => g2023 L c
  | 4, _ => g2024 L c
  | 5, _ => g2025 L c
  | x + 6, h => absurd h (by omega)
theorem x2030 (c : Nat) : run4 0 c 2 0 3 0 = .yes := by kernel_rfl
theorem y2030 (L c : Nat) : run4 (L + 1) c 2 0 3 0 = .yes := by kernel_rfl
theorem g2030 : ∀ (L c : Nat), run4 L c 2 0 3 0 = .yes
  | 0, c => x2030 c
  | L + 1, c => y2030 L c
theorem x2031 (c : Nat) : run4 0 c 2 0 3 1 = .yes := by kernel_rfl
theorem y2031 (L c : Nat) : run4 (L + 1) c 2 0 3 1 = .yes := by kernel_rfl
theorem g2031 : ∀ (L c : Nat), run4 L c 2 0 3 1 = .yes
  | 0, c => x2031 c
  | L + 1, c => y2031 L c
theorem x2032 (c : Nat) : run4 0 c 2 0 3 2 = .yes := by kernel_rfl
theorem y2032 (L c : Nat) : run4 (L + 1) c 2 0 3 2 = .yes := by kernel_rfl
theorem g2032 : ∀ (L c : Nat), run4 L c 2 0 3 2 = .yes
  | 0, c => x2032 c
  | L + 1, c => y2032 L c
theorem x2033 (c : Nat) : run4 0 c 2 0 3 3 = .yes := by kernel_rfl
theorem y2033 (L c : Nat) : run4 (L + 1) c 2 0 3 3 = .yes := by kernel_rfl
theorem g2033 : ∀ (L c : Nat), run4 L c 2 0 3 3 = .yes
  | 0, c => x2033 c
  | L + 1, c => y2033 L c
theorem x2034 (c : Nat) : run4 0 c 2 0 3 4 = .yes := by kernel_rfl
theorem y2034 (L c : Nat) : run4 (L + 1) c 2 0 3 4 = .yes := by kernel_rfl
theorem g2034 : ∀ (L c : Nat), run4 L c 2 0 3 4 = .yes
  | 0, c => x2034 c
  | L + 1, c => y2034 L c
theorem x2035 (c : Nat) : run4 0 c 2 0 3 5 = .yes := by kernel_rfl
theorem y2035 (L c : Nat) : run4 (L + 1) c 2 0 3 5 = .yes := by kernel_rfl
theorem g2035 : ∀ (L c : Nat), run4 L c 2 0 3 5 = .yes
  | 0, c => x2035 c
  | L + 1, c => y2035 L c
theorem h203 (L c : Nat) : ∀ x, x < 6 → run4 L c 2 0 3 x = .yes
  | 0, _ => g2030 L c
  | 1, _ => g2031 L c
  | 2, _ => g2032 L c
  | 3, _ => g2033 L c
  | 4, _ => g2034 L c
  | 5, _ => g2035 L c
  | x + 6, h => absurd h (by omega)
theorem x2040 (c : Nat) : run4 0 c 2 0 4 0 = .yes := by kernel_rfl
theorem y2040 (L c : Nat) : run4 (L + 1) c 2 0 4 0 = .yes := by kernel_rfl
theorem g2040 : ∀ (L c : Nat), run4 L c 2 0 4 0 = .yes
  | 0, c => x2040 c
  | L + 1, c => y2040 L c
theorem x2041 (c : Nat) : run4 0 c 2 0 4 1 = .yes := by kernel_rfl
theorem y2041 (L c : Nat) : run4 (L + 1) c 2 0 4 1 = .yes := by kernel_rfl
theorem g2041 : ∀ (L c : Nat), run4 L c 2 0 4 1 = .yes
  | 0, c => x2041 c
  | L + 1, c => y2041 L c
theorem x2042 (c : Nat) : run4 0 c 2 0 4 2 = .yes := by kernel_rfl
theorem y2042 (L c : Nat) : run4 (L + 1) c 2 0 4 2 = .yes := by kernel_rfl
theorem g2042 : ∀ (L c : Nat), run4 L c 2 0 4 2 = .yes
  | 0, c => x2042 c
  | L + 1, c => y2042 L c
theorem x2043 (c : Nat) : run4 0 c 2 0 4 3 = .yes := by kernel_rfl
theorem y2043 (L c : Nat) : run4 (L + 1) c 2 0 4 3 = .yes := by kernel_rfl
theorem g2043 : ∀ (L c : Nat), run4 L c 2 0 4 3 = .yes
  | 0, c => x2043 c
  | L + 1, c => y2043 L c
theorem x2044 (c : Nat) : run4 0 c 2 0 4 4 = .yes := by kernel_rfl
theorem y2044 (L c : Nat) : run4 (L + 1) c 2 0 4 4 = .yes := by kernel_rfl
theorem g2044 : ∀ (L c : Nat), run4 L c 2 0 4 4 = .yes
  | 0, c => x2044 c
  | L + 1, c => y2044 L c
theorem x2045 (c : Nat) : run4 0 c 2 0 4 5 = .yes := by kernel_rfl
theorem y2045 (L c : Nat) : run4 (L + 1) c 2 0 4 5 = .yes := by kernel_rfl
theorem g2045 : ∀ (L c : Nat), run4 L c 2 0 4 5 = .yes
  | 0, c => x2045 c
  | L + 1, c => y2045 L c
theorem h204 (L c : Nat) : ∀ x, x < 6 → run4 L c 2 0 4 x = .yes
  | 0, _ => g2040 L c
  | 1, _ => g2041 L c
  | 2, _ => g2042 L c
  | 3, _ => g2043 L c
  | 4, _ => g2044 L c
  | 5, _ => g2045 L c
  | x + 6, h => absurd h (by omega)
theorem x2050 (c : Nat) : run4 0 c 2 0 5 0 = .yes := by kernel_rfl
theorem y2050 (L c : Nat) : run4 (L + 1) c 2 0 5 0 = .yes := by kernel_rfl
theorem g2050 : ∀ (L c : Nat), run4 L c 2 0 5 0 = .yes
  | 0, c => x2050 c
  | L + 1, c => y2050 L c
theorem x2051 (c : Nat) : run4 0 c 2 0 5 1 = .yes := by kernel_rfl
theorem y2051 (L c : Nat) : run4 (L + 1) c 2 0 5 1 = .yes := by kernel_rfl
theorem g2051 : ∀ (L c : Nat), run4 L c 2 0 5 1 = .yes
  | 0, c => x2051 c
  | L + 1, c => y2051 L c
theorem x2052 (c : Nat) : run4 0 c 2 0 5 2 = .yes := by kernel_rfl
theorem y2052 (L c : Nat) : run4 (L + 1) c 2 0 5 2 = .yes := by kernel_rfl
theorem g2052 : ∀ (L c : Nat), run4 L c 2 0 5 2 = .yes
  | 0, c => x2052 c
  | L + 1, c => y2052 L c
theorem x2053 (c : Nat) : run4 0 c 2 0 5 3 = .yes := by kernel_rfl
theorem y2053 (L c : Nat) : run4 (L + 1) c 2 0 5 3 = .yes := by kernel_rfl
theorem g2053 : ∀ (L c : Nat), run4 L c 2 0 5 3 = .yes
  | 0, c => x2053 c
  | L + 1, c => y2053 L c
theorem x2054 (c : Nat) : run4 0 c 2 0 5 4 = .yes := by kernel_rfl
theorem y2054 (L c : Nat) : run4 (L + 1) c 2 0 5 4 = .yes := by kernel_rfl
theorem g2054 : ∀ (L c : Nat), run4 L c 2 0 5 4 = .yes
  | 0, c => x2054 c
  | L + 1, c => y2054 L c
theorem x2055 (c : Nat) : run4 0 c 2 0 5 5 = .yes := by kernel_rfl
theorem y2055 (L c : Nat) : run4 (L + 1) c 2 0 5 5 = .yes := by kernel_rfl
theorem g2055 : ∀ (L c : Nat), run4 L c 2 0 5 5 = .yes
  | 0, c => x2055 c
  | L + 1, c => y2055 L c
theorem h205 (L c : Nat) : ∀ x, x < 6 → run4 L c 2 0 5 x = .yes
  | 0, _ => g2050 L c
  | 1, _ => g2051 L c
  | 2, _ => g2052 L c
  | 3, _ => g2053 L c
  | 4, _ => g2054 L c
  | 5, _ => g2055 L c
  | x + 6, h => absurd h (by omega)
theorem hh20 (L c : Nat) : ∀ x, x < 6 → ∀ y, y < 6 → run4 L c 2 0 x y = .yes
  | 0, _ => h200 L c
  | 1, _ => h201 L c
  | 2, _ => h202 L c
  | 3, _ => h203 L c
  | 4, _ => h204 L c
  | 5, _ => h205 L c
  | x + 6, h => absurd h (by omega)
end Go.Proofs.YtojbfaigebpnpaaDoor.ecoThreadsq
