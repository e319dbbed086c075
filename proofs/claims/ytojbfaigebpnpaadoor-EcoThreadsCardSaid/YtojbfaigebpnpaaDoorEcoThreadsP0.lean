/-
  The law EcoThreads at some of its cases: the run over the program ends in true. Conditions: none; these are closed facts.
-/
import Derived.Test.YtojbfaigebpnpaaDoorEcoThreadsA
namespace Go.Proofs.YtojbfaigebpnpaaDoor.ecoThreadsq
open Go.Rn Go.RowKit YtojbfaigebpnpaaDoor.txt
set_option maxHeartbeats 400000000
theorem n : runN = .yes := by kernel_rfl
theorem e : runE = .yes := by kernel_rfl
theorem a0 (c : Nat) : run1 c 0 = .yes := by kernel_rfl
theorem a1 (c : Nat) : run1 c 1 = .yes := by kernel_rfl
theorem a2 (c : Nat) : run1 c 2 = .yes := by kernel_rfl
theorem a3 (c : Nat) : run1 c 3 = .yes := by kernel_rfl
theorem a4 (c : Nat) : run1 c 4 = .yes := by kernel_rfl
theorem a5 (c : Nat) : run1 c 5 = .yes := by kernel_rfl
theorem all1 (c : Nat) : ∀ x, x < 6 → run1 c x = .yes
  | 0, _ => a0 c
  | 1, _ => a1 c
  | 2, _ => a2 c
  | 3, _ => a3 c
  | 4, _ => a4 c
  | 5, _ => a5 c
  | x + 6, h => absurd h (by omega)
theorem b00 (c : Nat) : run2 c 0 0 = .yes := by kernel_rfl
theorem b01 (c : Nat) : run2 c 0 1 = .yes := by kernel_rfl
theorem b02 (c : Nat) : run2 c 0 2 = .yes := by kernel_rfl
theorem b03 (c : Nat) : run2 c 0 3 = .yes := by kernel_rfl
theorem b04 (c : Nat) : run2 c 0 4 = .yes := by kernel_rfl
theorem b05 (c : Nat) : run2 c 0 5 = .yes := by kernel_rfl
theorem bb0 (c : Nat) : ∀ x, x < 6 → run2 c 0 x = .yes
  | 0, _ => b00 c
  | 1, _ => b01 c
  | 2, _ => b02 c
  | 3, _ => b03 c
  | 4, _ => b04 c
  | 5, _ => b05 c
  | x + 6, h => absurd h (by omega)
theorem b10 (c : Nat) : run2 c 1 0 = .yes := by kernel_rfl
theorem b11 (c : Nat) : run2 c 1 1 = .yes := by kernel_rfl
theorem b12 (c : Nat) : run2 c 1 2 = .yes := by kernel_rfl
theorem b13 (c : Nat) : run2 c 1 3 = .yes := by kernel_rfl
theorem b14 (c : Nat) : run2 c 1 4 = .yes := by kernel_rfl
theorem b15 (c : Nat) : run2 c 1 5 = .yes := by kernel_rfl
theorem bb1 (c : Nat) : ∀ x, x < 6 → run2 c 1 x = .yes
  | 0, _ => b10 c
  | 1, _ => b11 c
  | 2, _ => b12 c
  | 3, _ => b13 c
  | 4, _ => b14 c
  | 5, _ => b15 c
  | x + 6, h => absurd h (by omega)
theorem b20 (c : Nat) : run2 c 2 0 = .yes := by kernel_rfl
theorem b21 (c : Nat) : run2 c 2 1 = .yes := by kernel_rfl
theorem b22 (c : Nat) : run2 c 2 2 = .yes := by kernel_rfl
theorem b23 (c : Nat) : run2 c 2 3 = .yes := by kernel_rfl
theorem b24 (c : Nat) : run2 c 2 4 = .yes := by kernel_rfl
theorem b25 (c : Nat) : run2 c 2 5 = .yes := by kernel_rfl
theorem bb2 (c : Nat) : ∀ x, x < 6 → run2 c 2 x = .yes
  | 0, _ => b20 c
  | 1, _ => b21 c
  | 2, _ => b22 c
  | 3, _ => b23 c
  | 4, _ => b24 c
  | 5, _ => b25 c
  | x + 6, h => absurd h (by omega)
theorem b30 (c : Nat) : run2 c 3 0 = .yes := by kernel_rfl
theorem b31 (c : Nat) : run2 c 3 1 = .yes := by kernel_rfl
theorem b32 (c : Nat) : run2 c 3 2 = .yes := by kernel_rfl
theorem b33 (c : Nat) : run2 c 3 3 = .yes := by kernel_rfl
theorem b34 (c : Nat) : run2 c 3 4 = .yes := by kernel_rfl
theorem b35 (c : Nat) : run2 c 3 5 = .yes := by kernel_rfl
theorem bb3 (c : Nat) : ∀ x, x < 6 → run2 c 3 x = .yes
  | 0, _ => b30 c
  | 1, _ => b31 c
  | 2, _ => b32 c
  | 3, _ => b33 c
  | 4, _ => b34 c
  | 5, _ => b35 c
  | x + 6, h => absurd h (by omega)
theorem b40 (c : Nat) : run2 c 4 0 = .yes := by kernel_rfl
theorem b41 (c : Nat) : run2 c 4 1 = .yes := by kernel_rfl
theorem b42 (c : Nat) : run2 c 4 2 = .yes := by kernel_rfl
theorem b43 (c : Nat) : run2 c 4 3 = .yes := by kernel_rfl
theorem b44 (c : Nat) : run2 c 4 4 = .yes := by kernel_rfl
theorem b45 (c : Nat) : run2 c 4 5 = .yes := by kernel_rfl
theorem bb4 (c : Nat) : ∀ x, x < 6 → run2 c 4 x = .yes
  | 0, _ => b40 c
  | 1, _ => b41 c
  | 2, _ => b42 c
  | 3, _ => b43 c
  | 4, _ => b44 c
  | 5, _ => b45 c
  | x + 6, h => absurd h (by omega)
theorem b50 (c : Nat) : run2 c 5 0 = .yes := by kernel_rfl
theorem b51 (c : Nat) : run2 c 5 1 = .yes := by kernel_rfl
theorem b52 (c : Nat) : run2 c 5 2 = .yes := by kernel_rfl
theorem b53 (c : Nat) : run2 c 5 3 = .yes := by kernel_rfl
theorem b54 (c : Nat) : run2 c 5 4 = .yes := by kernel_rfl
theorem b55 (c : Nat) : run2 c 5 5 = .yes := by kernel_rfl
theorem bb5 (c : Nat) : ∀ x, x < 6 → run2 c 5 x = .yes
  | 0, _ => b50 c
  | 1, _ => b51 c
  | 2, _ => b52 c
  | 3, _ => b53 c
  | 4, _ => b54 c
  | 5, _ => b55 c
  | x + 6, h => absurd h (by omega)
theorem all2 (c : Nat) : ∀ x, x < 6 → ∀ y, y < 6 → run2 c x y = .yes
  | 0, _ => bb0 c
  | 1, _ => bb1 c
  | 2, _ => bb2 c
  | 3, _ => bb3 c
  | 4, _ => bb4 c
  | 5, _ => bb5 c
  | x + 6, h => absurd h (by omega)
end Go.Proofs.YtojbfaigebpnpaaDoor.ecoThreadsq
