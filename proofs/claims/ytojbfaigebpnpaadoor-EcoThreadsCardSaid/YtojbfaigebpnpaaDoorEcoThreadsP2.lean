/-
  The law EcoThreads at some of its cases: the run over the program ends in true. Conditions: none; these are closed facts.
-/
import Derived.Test.YtojbfaigebpnpaaDoorEcoThreadsA
namespace Go.Proofs.YtojbfaigebpnpaaDoor.ecoThreadsq
open Go.Rn Go.RowKit YtojbfaigebpnpaaDoor.txt
set_option maxHeartbeats 400000000
theorem d300 (c : Nat) : run3 c 3 0 0 = .yes := by kernel_rfl
theorem d301 (c : Nat) : run3 c 3 0 1 = .yes := by kernel_rfl
theorem d302 (c : Nat) : run3 c 3 0 2 = .yes := by kernel_rfl
theorem d303 (c : Nat) : run3 c 3 0 3 = .yes := by kernel_rfl
theorem d304 (c : Nat) : run3 c 3 0 4 = .yes := by kernel_rfl
theorem d305 (c : Nat) : run3 c 3 0 5 = .yes := by kernel_rfl
theorem dd30 (c : Nat) : ∀ x, x < 6 → run3 c 3 0 x = .yes
  | 0, _ => d300 c
  | 1, _ => d301 c
  | 2, _ => d302 c
  | 3, _ => d303 c
  | 4, _ => d304 c
  | 5, _ => d305 c
  | x + 6, h => absurd h (by omega)
theorem d310 (c : Nat) : run3 c 3 1 0 = .yes := by kernel_rfl
theorem d311 (c : Nat) : run3 c 3 1 1 = .yes := by kernel_rfl
theorem d312 (c : Nat) : run3 c 3 1 2 = .yes := by kernel_rfl
theorem d313 (c : Nat) : run3 c 3 1 3 = .yes := by kernel_rfl
theorem d314 (c : Nat) : run3 c 3 1 4 = .yes := by kernel_rfl
theorem d315 (c : Nat) : run3 c 3 1 5 = .yes := by kernel_rfl
theorem dd31 (c : Nat) : ∀ x, x < 6 → run3 c 3 1 x = .yes
  | 0, _ => d310 c
  | 1, _ => d311 c
  | 2, _ => d312 c
  | 3, _ => d313 c
  | 4, _ => d314 c
  | 5, _ => d315 c
  | x + 6, h => absurd h (by omega)
theorem d320 (c : Nat) : run3 c 3 2 0 = .yes := by kernel_rfl
theorem d321 (c : Nat) : run3 c 3 2 1 = .yes := by kernel_rfl
theorem d322 (c : Nat) : run3 c 3 2 2 = .yes := by kernel_rfl
theorem d323 (c : Nat) : run3 c 3 2 3 = .yes := by kernel_rfl
theorem d324 (c : Nat) : run3 c 3 2 4 = .yes := by kernel_rfl
theorem d325 (c : Nat) : run3 c 3 2 5 = .yes := by kernel_rfl
theorem dd32 (c : Nat) : ∀ x, x < 6 → run3 c 3 2 x = .yes
  | 0, _ => d320 c
  | 1, _ => d321 c
  | 2, _ => d322 c
  | 3, _ => d323 c
  | 4, _ => d324 c
  | 5, _ => d325 c
  | x + 6, h => absurd h (by omega)
theorem d330 (c : Nat) : run3 c 3 3 0 = .yes := by kernel_rfl
theorem d331 (c : Nat) : run3 c 3 3 1 = .yes := by kernel_rfl
theorem d332 (c : Nat) : run3 c 3 3 2 = .yes := by kernel_rfl
theorem d333 (c : Nat) : run3 c 3 3 3 = .yes := by kernel_rfl
theorem d334 (c : Nat) : run3 c 3 3 4 = .yes := by kernel_rfl
theorem d335 (c : Nat) : run3 c 3 3 5 = .yes := by kernel_rfl
theorem dd33 (c : Nat) : ∀ x, x < 6 → run3 c 3 3 x = .yes
  | 0, _ => d330 c
  | 1, _ => d331 c
  | 2, _ => d332 c
  | 3, _ => d333 c
  | 4, _ => d334 c
  | 5, _ => d335 c
  | x + 6, h => absurd h (by omega)
theorem d340 (c : Nat) : run3 c 3 4 0 = .yes := by kernel_rfl
theorem d341 (c : Nat) : run3 c 3 4 1 = .yes := by kernel_rfl
theorem d342 (c : Nat) : run3 c 3 4 2 = .yes := by kernel_rfl
theorem d343 (c : Nat) : run3 c 3 4 3 = .yes := by kernel_rfl
theorem d344 (c : Nat) : run3 c 3 4 4 = .yes := by kernel_rfl
theorem d345 (c : Nat) : run3 c 3 4 5 = .yes := by kernel_rfl
theorem dd34 (c : Nat) : ∀ x, x < 6 → run3 c 3 4 x = .yes
  | 0, _ => d340 c
  | 1, _ => d341 c
  | 2, _ => d342 c
  | 3, _ => d343 c
  | 4, _ => d344 c
  | 5, _ => d345 c
  | x + 6, h => absurd h (by omega)
theorem d350 (c : Nat) : run3 c 3 5 0 = .yes := by kernel_rfl
theorem d351 (c : Nat) : run3 c 3 5 1 = .yes := by kernel_rfl
theorem d352 (c : Nat) : run3 c 3 5 2 = .yes := by kernel_rfl
theorem d353 (c : Nat) : run3 c 3 5 3 = .yes := by kernel_rfl
theorem d354 (c : Nat) : run3 c 3 5 4 = .yes := by kernel_rfl
theorem d355 (c : Nat) : run3 c 3 5 5 = .yes := by kernel_rfl
theorem dd35 (c : Nat) : ∀ x, x < 6 → run3 c 3 5 x = .yes
  | 0, _ => d350 c
  | 1, _ => d351 c
  | 2, _ => d352 c
  | 3, _ => d353 c
  | 4, _ => d354 c
  | 5, _ => d355 c
  | x + 6, h => absurd h (by omega)
theorem ddd3 (c : Nat) : ∀ x, x < 6 → ∀ y, y < 6 → run3 c 3 x y = .yes
  | 0, _ => dd30 c
  | 1, _ => dd31 c
  | 2, _ => dd32 c
  | 3, _ => dd33 c
  | 4, _ => dd34 c
  | 5, _ => dd35 c
  | x + 6, h => absurd h (by omega)
theorem d400 (c : Nat) : run3 c 4 0 0 = .yes := by kernel_rfl
theorem d401 (c : Nat) : run3 c 4 0 1 = .yes := by kernel_rfl
theorem d402 (c : Nat) : run3 c 4 0 2 = .yes := by kernel_rfl
theorem d403 (c : Nat) : run3 c 4 0 3 = .yes := by kernel_rfl
theorem d404 (c : Nat) : run3 c 4 0 4 = .yes := by kernel_rfl
theorem d405 (c : Nat) : run3 c 4 0 5 = .yes := by kernel_rfl
theorem dd40 (c : Nat) : ∀ x, x < 6 → run3 c 4 0 x = .yes
  | 0, _ => d400 c
  | 1, _ => d401 c
  | 2, _ => d402 c
  | 3, _ => d403 c
  | 4, _ => d404 c
  | 5, _ => d405 c
  | x + 6, h => absurd h (by omega)
theorem d410 (c : Nat) : run3 c 4 1 0 = .yes := by kernel_rfl
theorem d411 (c : Nat) : run3 c 4 1 1 = .yes := by kernel_rfl
theorem d412 (c : Nat) : run3 c 4 1 2 = .yes := by kernel_rfl
theorem d413 (c : Nat) : run3 c 4 1 3 = .yes := by kernel_rfl
theorem d414 (c : Nat) : run3 c 4 1 4 = .yes := by kernel_rfl
theorem d415 (c : Nat) : run3 c 4 1 5 = .yes := by kernel_rfl
theorem dd41 (c : Nat) : ∀ x, x < 6 → run3 c 4 1 x = .yes
  | 0, _ => d410 c
  | 1, _ => d411 c
  | 2, _ => d412 c
  | 3, _ => d413 c
  | 4, _ => d414 c
  | 5, _ => d415 c
  | x + 6, h => absurd h (by omega)
theorem d420 (c : Nat) : run3 c 4 2 0 = .yes := by kernel_rfl
theorem d421 (c : Nat) : run3 c 4 2 1 = .yes := by kernel_rfl
theorem d422 (c : Nat) : run3 c 4 2 2 = .yes := by kernel_rfl
theorem d423 (c : Nat) : run3 c 4 2 3 = .yes := by kernel_rfl
theorem d424 (c : Nat) : run3 c 4 2 4 = .yes := by kernel_rfl
theorem d425 (c : Nat) : run3 c 4 2 5 = .yes := by kernel_rfl
theorem dd42 (c : Nat) : ∀ x, x < 6 → run3 c 4 2 x = .yes
  | 0, _ => d420 c
  | 1, _ => d421 c
  | 2, _ => d422 c
  | 3, _ => d423 c
  | 4, _ => d424 c
  | 5, _ => d425 c
  | x + 6, h => absurd h (by omega)
theorem d430 (c : Nat) : run3 c 4 3 0 = .yes := by kernel_rfl
theorem d431 (c : Nat) : run3 c 4 3 1 = .yes := by kernel_rfl
theorem d432 (c : Nat) : run3 c 4 3 2 = .yes := by kernel_rfl
theorem d433 (c : Nat) : run3 c 4 3 3 = .yes := by kernel_rfl
theorem d434 (c : Nat) : run3 c 4 3 4 = .yes := by kernel_rfl
theorem d435 (c : Nat) : run3 c 4 3 5 = .yes := by kernel_rfl
theorem dd43 (c : Nat) : ∀ x, x < 6 → run3 c 4 3 x = .yes
  | 0, _ => d430 c
  | 1, _ => d431 c
  | 2, _ => d432 c
  | 3, _ => d433 c
  | 4, _ => d434 c
  | 5, _ => d435 c
  | x + 6, h => absurd h (by omega)
theorem d440 (c : Nat) : run3 c 4 4 0 = .yes := by kernel_rfl
theorem d441 (c : Nat) : run3 c 4 4 1 = .yes := by kernel_rfl
theorem d442 (c : Nat) : run3 c 4 4 2 = .yes := by kernel_rfl
theorem d443 (c : Nat) : run3 c 4 4 3 = .yes := by kernel_rfl
theorem d444 (c : Nat) : run3 c 4 4 4 = .yes := by kernel_rfl
theorem d445 (c : Nat) : run3 c 4 4 5 = .yes := by kernel_rfl
theorem dd44 (c : Nat) : ∀ x, x < 6 → run3 c 4 4 x = .yes
  | 0, _ => d440 c
  | 1, _ => d441 c
  | 2, _ => d442 c
  | 3, _ => d443 c
  | 4, _ => d444 c
  | 5, _ => d445 c
  | x + 6, h => absurd h (by omega)
theorem d450 (c : Nat) : run3 c 4 5 0 = .yes := by kernel_rfl
theorem d451 (c : Nat) : run3 c 4 5 1 = .yes := by kernel_rfl
theorem d452 (c : Nat) : run3 c 4 5 2 = .yes := by kernel_rfl
theorem d453 (c : Nat) : run3 c 4 5 3 = .yes := by kernel_rfl
theorem d454 (c : Nat) : run3 c 4 5 4 = .yes := by kernel_rfl
theorem d455 (c : Nat) : run3 c 4 5 5 = .yes := by kernel_rfl
theorem dd45 (c : Nat) : ∀ x, x < 6 → run3 c 4 5 x = .yes
  | 0, _ => d450 c
  | 1, _ => d451 c
  | 2, _ => d452 c
  | 3, _ => d453 c
  | 4, _ => d454 c
  | 5, _ => d455 c
  | x + 6, h => absurd h (by omega)
theorem ddd4 (c : Nat) : ∀ x, x < 6 → ∀ y, y < 6 → run3 c 4 x y = .yes
  | 0, _ => dd40 c
  | 1, _ => dd41 c
  | 2, _ => dd42 c
  | 3, _ => dd43 c
  | 4, _ => dd44 c
  | 5, _ => dd45 c
  | x + 6, h => absurd h (by omega)
theorem d500 (c : Nat) : run3 c 5 0 0 = .yes := by kernel_rfl
theorem d501 (c : Nat) : run3 c 5 0 1 = .yes := by kernel_rfl
theorem d502 (c : Nat) : run3 c 5 0 2 = .yes := by kernel_rfl
theorem d503 (c : Nat) : run3 c 5 0 3 = .yes := by kernel_rfl
theorem d504 (c : Nat) : run3 c 5 0 4 = .yes := by kernel_rfl
theorem d505 (c : Nat) : run3 c 5 0 5 = .yes := by kernel_rfl
theorem dd50 (c : Nat) : ∀ x, x < 6 → run3 c 5 0 x = .yes
  | 0, _ => d500 c
  | 1, _ => d501 c
  | 2, _ => d502 c
  | 3, _ => d503 c
  | 4, _ => d504 c
  | 5, _ => d505 c
  | x + 6, h => absurd h (by omega)
theorem d510 (c : Nat) : run3 c 5 1 0 = .yes := by kernel_rfl
theorem d511 (c : Nat) : run3 c 5 1 1 = .yes := by kernel_rfl
theorem d512 (c : Nat) : run3 c 5 1 2 = .yes := by kernel_rfl
theorem d513 (c : Nat) : run3 c 5 1 3 = .yes := by kernel_rfl
theorem d514 (c : Nat) : run3 c 5 1 4 = .yes := by kernel_rfl
theorem d515 (c : Nat) : run3 c 5 1 5 = .yes := by kernel_rfl
theorem dd51 (c : Nat) : ∀ x, x < 6 → run3 c 5 1 x = .yes
  | 0, _ => d510 c
  | 1, _ => d511 c
  | 2, _ => d512 c
  | 3, _ => d513 c
  | 4, _ => d514 c
  | 5, _ => d515 c
  | x + 6, h => absurd h (by omega)
theorem d520 (c : Nat) : run3 c 5 2 0 = .yes := by kernel_rfl
theorem d521 (c : Nat) : run3 c 5 2 1 = .yes := by kernel_rfl
theorem d522 (c : Nat) : run3 c 5 2 2 = .yes := by kernel_rfl
theorem d523 (c : Nat) : run3 c 5 2 3 = .yes := by kernel_rfl
theorem d524 (c : Nat) : run3 c 5 2 4 = .yes := by kernel_rfl
theorem d525 (c : Nat) : run3 c 5 2 5 = .yes := by kernel_rfl
theorem dd52 (c : Nat) : ∀ x, x < 6 → run3 c 5 2 x = .yes
  | 0, _ => d520 c
  | 1, _ => d521 c
  | 2, _ => d522 c
  | 3, _ => d523 c
  | 4, _ => d524 c
  | 5, _ => d525 c
  | x + 6, h => absurd h (by omega)
theorem d530 (c : Nat) : run3 c 5 3 0 = .yes := by kernel_rfl
theorem d531 (c : Nat) : run3 c 5 3 1 = .yes := by kernel_rfl
theorem d532 (c : Nat) : run3 c 5 3 2 = .yes := by kernel_rfl
theorem d533 (c : Nat) : run3 c 5 3 3 = .yes := by kernel_rfl
theorem d534 (c : Nat) : run3 c 5 3 4 = .yes := by kernel_rfl
theorem d535 (c : Nat) : run3 c 5 3 5 = .yes := by kernel_rfl
theorem dd53 (c : Nat) : ∀ x, x < 6 → run3 c 5 3 x = .yes
  | 0, _ => d530 c
  | 1, _ => d531 c
  | 2, _ => d532 c
  | 3, _ => d533 c
  | 4, _ => d534 c
  | 5, _ => d535 c
  | x + 6, h => absurd h (by omega)
theorem d540 (c : Nat) : run3 c 5 4 0 = .yes := by kernel_rfl
theorem d541 (c : Nat) : run3 c 5 4 1 = .yes := by kernel_rfl
theorem d542 (c : Nat) : run3 c 5 4 2 = .yes := by kernel_rfl
theorem d543 (c : Nat) : run3 c 5 4 3 = .yes := by kernel_rfl
theorem d544 (c : Nat) : run3 c 5 4 4 = .yes := by kernel_rfl
theorem d545 (c : Nat) : run3 c 5 4 5 = .yes := by kernel_rfl
theorem dd54 (c : Nat) : ∀ x, x < 6 → run3 c 5 4 x = .yes
  | 0, _ => d540 c
  | 1, _ => d541 c
  | 2, _ => d542 c
  | 3, _ => d543 c
  | 4, _ => d544 c
  | 5, _ => d545 c
  | x + 6, h => absurd h (by omega)
theorem d550 (c : Nat) : run3 c 5 5 0 = .yes := by kernel_rfl
theorem d551 (c : Nat) : run3 c 5 5 1 = .yes := by kernel_rfl
theorem d552 (c : Nat) : run3 c 5 5 2 = .yes := by kernel_rfl
theorem d553 (c : Nat) : run3 c 5 5 3 = .yes := by kernel_rfl
theorem d554 (c : Nat) : run3 c 5 5 4 = .yes := by kernel_rfl
theorem d555 (c : Nat) : run3 c 5 5 5 = .yes := by kernel_rfl
theorem dd55 (c : Nat) : ∀ x, x < 6 → run3 c 5 5 x = .yes
  | 0, _ => d550 c
  | 1, _ => d551 c
  | 2, _ => d552 c
  | 3, _ => d553 c
  | 4, _ => d554 c
  | 5, _ => d555 c
  | x + 6, h => absurd h (by omega)
theorem ddd5 (c : Nat) : ∀ x, x < 6 → ∀ y, y < 6 → run3 c 5 x y = .yes
  | 0, _ => dd50 c
  | 1, _ => dd51 c
  | 2, _ => dd52 c
  | 3, _ => dd53 c
  | 4, _ => dd54 c
  | 5, _ => dd55 c
  | x + 6, h => absurd h (by omega)
end Go.Proofs.YtojbfaigebpnpaaDoor.ecoThreadsq
