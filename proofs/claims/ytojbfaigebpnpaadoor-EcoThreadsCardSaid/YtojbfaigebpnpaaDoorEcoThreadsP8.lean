/-
  The law EcoThreads at some of its cases: the run over the program ends in true. Conditions: none; these are closed facts.
-/
import Derived.Test.YtojbfaigebpnpaaDoorEcoThreadsA
namespace Go.Proofs.YtojbfaigebpnpaaDoor.ecoThreadsq
open Go.Rn Go.RowKit YtojbfaigebpnpaaDoor.txt
set_option maxHeartbeats 400000000
theorem x5300 (c : Nat) : run4 0 c 5 3 0 0 = .yes := by kernel_rfl
theorem y5300 (L c : Nat) : run4 (L + 1) c 5 3 0 0 = .yes := by kernel_rfl
theorem g5300 : ∀ (L c : Nat), run4 L c 5 3 0 0 = .yes
  | 0, c => x5300 c
  | L + 1, c => y5300 L c
theorem x5301 (c : Nat) : run4 0 c 5 3 0 1 = .yes := by kernel_rfl
theorem y5301 (L c : Nat) : run4 (L + 1) c 5 3 0 1 = .yes := by kernel_rfl
theorem g5301 : ∀ (L c : Nat), run4 L c 5 3 0 1 = .yes
  | 0, c => x5301 c
  | L + 1, c => y5301 L c
theorem x5302 (c : Nat) : run4 0 c 5 3 0 2 = .yes := by kernel_rfl
theorem y5302 (L c : Nat) : run4 (L + 1) c 5 3 0 2 = .yes := by kernel_rfl
theorem g5302 : ∀ (L c : Nat), run4 L c 5 3 0 2 = .yes
  | 0, c => x5302 c
  | L + 1, c => y5302 L c
theorem x5303 (c : Nat) : run4 0 c 5 3 0 3 = .yes := by kernel_rfl
theorem y5303 (L c : Nat) : run4 (L + 1) c 5 3 0 3 = .yes := by kernel_rfl
theorem g5303 : ∀ (L c : Nat), run4 L c 5 3 0 3 = .yes
  | 0, c => x5303 c
  | L + 1, c => y5303 L c
theorem x5304 (c : Nat) : run4 0 c 5 3 0 4 = .yes := by kernel_rfl
theorem y5304 (L c : Nat) : run4 (L + 1) c 5 3 0 4 = .yes := by kernel_rfl
theorem g5304 : ∀ (L c : Nat), run4 L c 5 3 0 4 = .yes
  | 0, c => x5304 c
  | L + 1, c => y5304 L c
theorem x5305 (c : Nat) : run4 0 c 5 3 0 5 = .yes := by kernel_rfl
theorem y5305 (L c : Nat) : run4 (L + 1) c 5 3 0 5 = .yes := by kernel_rfl
theorem g5305 : ∀ (L c : Nat), run4 L c 5 3 0 5 = .yes
  | 0, c => x5305 c
  | L + 1, c => y5305 L c
theorem h530 (L c : Nat) : ∀ x, x < 6 → run4 L c 5 3 0 x = .yes
  | 0, _ => g5300 L c
  | 1, _ => g5301 L c
  | 2, _ => g5302 L c
  | 3, _ => g5303 L c
  | 4, _ => g5304 L c
  | 5, _ => g5305 L c
  | x + 6, h => absurd h (by omega)
theorem x5310 (c : Nat) : run4 0 c 5 3 1 0 = .yes := by kernel_rfl
theorem y5310 (L c : Nat) : run4 (L + 1) c 5 3 1 0 = .yes := by kernel_rfl
theorem g5310 : ∀ (L c : Nat), run4 L c 5 3 1 0 = .yes
  | 0, c => x5310 c
  | L + 1, c => y5310 L c
theorem x5311 (c : Nat) : run4 0 c 5 3 1 1 = .yes := by kernel_rfl
theorem y5311 (L c : Nat) : run4 (L + 1) c 5 3 1 1 = .yes := by kernel_rfl
theorem g5311 : ∀ (L c : Nat), run4 L c 5 3 1 1 = .yes
  | 0, c => x5311 c
  | L + 1, c => y5311 L c
theorem x5312 (c : Nat) : run4 0 c 5 3 1 2 = .yes := by kernel_rfl
theorem y5312 (L c : Nat) : run4 (L + 1) c 5 3 1 2 = .yes := by kernel_rfl
theorem g5312 : ∀ (L c : Nat), run4 L c 5 3 1 2 = .yes
  | 0, c => x5312 c
  | L + 1, c => y5312 L c
theorem x5313 (c : Nat) : run4 0 c 5 3 1 3 = .yes := by kernel_rfl
theorem y5313 (L c : Nat) : run4 (L + 1) c 5 3 1 3 = .yes := by kernel_rfl
theorem g5313 : ∀ (L c : Nat), run4 L c 5 3 1 3 = .yes
  | 0, c => x5313 c
  | L + 1, c => y5313 L c
theorem x5314 (c : Nat) : run4 0 c 5 3 1 4 = .yes := by kernel_rfl
theorem y5314 (L c : Nat) : run4 (L + 1) c 5 3 1 4 = .yes := by kernel_rfl
theorem g5314 : ∀ (L c : Nat), run4 L c 5 3 1 4 = .yes
  | 0, c => x5314 c
  | L + 1, c => y5314 L c
theorem x5315 (c : Nat) : run4 0 c 5 3 1 5 = .yes := by kernel_rfl
theorem y5315 (L c : Nat) : run4 (L + 1) c 5 3 1 5 = .yes := by kernel_rfl
theorem g5315 : ∀ (L c : Nat), run4 L c 5 3 1 5 = .yes
  | 0, c => x5315 c
  | L + 1, c => y5315 L c
theorem h531 (L c : Nat) : ∀ x, x < 6 → run4 L c 5 3 1 x = .yes
  | 0, _ => g5310 L c
  | 1, _ => g5311 L c
  | 2, _ => g5312 L c
  | 3, _ => g5313 L c
  | 4, _ => g5314 L c
  | 5, _ => g5315 L c
  | x + 6, h => absurd h (by omega)
theorem x5320 (c : Nat) : run4 0 c 5 3 2 0 = .yes := by kernel_rfl
theorem y5320 (L c : Nat) : run4 (L + 1) c 5 3 2 0 = .yes := by kernel_rfl
theorem g5320 : ∀ (L c : Nat), run4 L c 5 3 2 0 = .yes
  | 0, c => x5320 c
  | L + 1, c => y5320 L c
theorem x5321 (c : Nat) : run4 0 c 5 3 2 1 = .yes := by kernel_rfl
theorem y5321 (L c : Nat) : run4 (L + 1) c 5 3 2 1 = .yes := by kernel_rfl
theorem g5321 : ∀ (L c : Nat), run4 L c 5 3 2 1 = .yes
  | 0, c => x5321 c
  | L + 1, c => y5321 L c
theorem x5322 (c : Nat) : run4 0 c 5 3 2 2 = .yes := by kernel_rfl
theorem y5322 (L c : Nat) : run4 (L + 1) c 5 3 2 2 = .yes := by kernel_rfl
theorem g5322 : ∀ (L c : Nat), run4 L c 5 3 2 2 = .yes
  | 0, c => x5322 c
  | L + 1, c => y5322 L c
theorem x5323 (c : Nat) : run4 0 c 5 3 2 3 = .yes := by kernel_rfl
theorem y5323 (L c : Nat) : run4 (L + 1) c 5 3 2 3 = .yes := by kernel_rfl
theorem g5323 : ∀ (L c : Nat), run4 L c 5 3 2 3 = .yes
  | 0, c => x5323 c
  | L + 1, c => y5323 L c
theorem x5324 (c : Nat) : run4 0 c 5 3 2 4 = .yes := by kernel_rfl
theorem y5324 (L c : Nat) : run4 (L + 1) c 5 3 2 4 = .yes := by kernel_rfl
theorem g5324 : ∀ (L c : Nat), run4 L c 5 3 2 4 = .yes
  | 0, c => x5324 c
  | L + 1, c => y5324 L c
theorem x5325 (c : Nat) : run4 0 c 5 3 2 5 = .yes := by kernel_rfl
theorem y5325 (L c : Nat) : run4 (L + 1) c 5 3 2 5 = .yes := by kernel_rfl
theorem g5325 : ∀ (L c : Nat), run4 L c 5 3 2 5 = .yes
  | 0, c => x5325 c
  | L + 1, c => y5325 L c
theorem h532 (L c : Nat) : ∀ x, x < 6 → run4 L c 5 3 2 x = .yes
  | 0, _ => g5320 L c
  | 1, _ => g5321 L c
  | 2, _ => g5322 L c
  | 3, _ => g5323 L c
  | 4, _ => g5324 L c
  | 5, _ => g5325 L c
  | x + 6, h => absurd h (by omega)
theorem x5330 (c : Nat) : run4 0 c 5 3 3 0 = .yes := by kernel_rfl
theorem y5330 (L c : Nat) : run4 (L + 1) c 5 3 3 0 = .yes := by kernel_rfl
theorem g5330 : ∀ (L c : Nat), run4 L c 5 3 3 0 = .yes
  | 0, c => x5330 c
  | L + 1, c => y5330 L c
theorem x5331 (c : Nat) : run4 0 c 5 3 3 1 = .yes := by kernel_rfl
theorem y5331 (L c : Nat) : run4 (L + 1) c 5 3 3 1 = .yes := by kernel_rfl
theorem g5331 : ∀ (L c : Nat), run4 L c 5 3 3 1 = .yes
  | 0, c => x5331 c
  | L + 1, c => y5331 L c
theorem x5332 (c : Nat) : run4 0 c 5 3 3 2 = .yes := by kernel_rfl
theorem y5332 (L c : Nat) : run4 (L + 1) c 5 3 3 2 = .yes := by kernel_rfl
theorem g5332 : ∀ (L c : Nat), run4 L c 5 3 3 2 = .yes
  | 0, c => x5332 c
  | L + 1, c => y5332 L c
theorem x5333 (c : Nat) : run4 0 c 5 3 3 3 = .yes := by kernel_rfl
theorem y5333 (L c : Nat) : run4 (L + 1) c 5 3 3 3 = .yes := by kernel_rfl
theorem g5333 : ∀ (L c : Nat), run4 L c 5 3 3 3 = .yes
  | 0, c => x5333 c
  | L + 1, c => y5333 L c
theorem x5334 (c : Nat) : run4 0 c 5 3 3 4 = .yes := by kernel_rfl
theorem y5334 (L c : Nat) : run4 (L + 1) c 5 3 3 4 = .yes := by kernel_rfl
theorem g5334 : ∀ (L c : Nat), run4 L c 5 3 3 4 = .yes
  | 0, c => x5334 c
  | L + 1, c => y5334 L c
theorem x5335 (c : Nat) : run4 0 c 5 3 3 5 = .yes := by kernel_rfl
theorem y5335 (L c : Nat) : run4 (L + 1) c 5 3 3 5 = .yes := by kernel_rfl
theorem g5335 : ∀ (L c : Nat), run4 L c 5 3 3 5 = .yes
  | 0, c => x5335 c
  | L + 1, c => y5335 L c
theorem h533 (L c : Nat) : ∀ x, x < 6 → run4 L c 5 3 3 x = .yes
  | 0, _ => g5330 L c
  | 1, _ => g5331 L c
  | 2, _ => g5332 L c
  | 3, _ => g5333 L c
  | 4, _ => g5334 L c
  | 5, _ => g5335 L c
  | x + 6, h => absurd h (by omega)
theorem x5340 (c : Nat) : run4 0 c 5 3 4 0 = .yes := by kernel_rfl
theorem y5340 (L c : Nat) : run4 (L + 1) c 5 3 4 0 = .yes := by kernel_rfl
theorem g5340 : ∀ (L c : Nat), run4 L c 5 3 4 0 = .yes
  | 0, c => x5340 c
  | L + 1, c => y5340 L c
theorem x5341 (c : Nat) : run4 0 c 5 3 4 1 = .yes := by kernel_rfl
theorem y5341 (L c : Nat) : run4 (L + 1) c 5 3 4 1 = .yes := by kernel_rfl
theorem g5341 : ∀ (L c : Nat), run4 L c 5 3 4 1 = .yes
  | 0, c => x5341 c
  | L + 1, c => y5341 L c
theorem x5342 (c : Nat) : run4 0 c 5 3 4 2 = .yes := by kernel_rfl
theorem y5342 (L c : Nat) : run4 (L + 1) c 5 3 4 2 = .yes := by kernel_rfl
theorem g5342 : ∀ (L c : Nat), run4 L c 5 3 4 2 = .yes
  | 0, c => x5342 c
  | L + 1, c => y5342 L c
theorem x5343 (c : Nat) : run4 0 c 5 3 4 3 = .yes := by kernel_rfl
theorem y5343 (L c : Nat) : run4 (L + 1) c 5 3 4 3 = .yes := by kernel_rfl
theorem g5343 : ∀ (L c : Nat), run4 L c 5 3 4 3 = .yes
  | 0, c => x5343 c
  | L + 1, c => y5343 L c
theorem x5344 (c : Nat) : run4 0 c 5 3 4 4 = .yes := by kernel_rfl
theorem y5344 (L c : Nat) : run4 (L + 1) c 5 3 4 4 = .yes := by kernel_rfl
theorem g5344 : ∀ (L c : Nat), run4 L c 5 3 4 4 = .yes
  | 0, c => x5344 c
  | L + 1, c => y5344 L c
theorem x5345 (c : Nat) : run4 0 c 5 3 4 5 = .yes := by kernel_rfl
theorem y5345 (L c : Nat) : run4 (L + 1) c 5 3 4 5 = .yes := by kernel_rfl
theorem g5345 : ∀ (L c : Nat), run4 L c 5 3 4 5 = .yes
  | 0, c => x5345 c
  | L + 1, c => y5345 L c
theorem h534 (L c : Nat) : ∀ x, x < 6 → run4 L c 5 3 4 x = .yes
  | 0, _ => g5340 L c
  | 1, _ => g5341 L c
  | 2, _ => g5342 L c
  | 3, _ => g5343 L c
  | 4, _ => g5344 L c
  | 5, _ => g5345 L c
  | x + 6, h => absurd h (by omega)
theorem x5350 (c : Nat) : run4 0 c 5 3 5 0 = .yes := by kernel_rfl
theorem y5350 (L c : Nat) : run4 (L + 1) c 5 3 5 0 = .yes := by kernel_rfl
theorem g5350 : ∀ (L c : Nat), run4 L c 5 3 5 0 = .yes
  | 0, c => x5350 c
  | L + 1, c => y5350 L c
theorem x5351 (c : Nat) : run4 0 c 5 3 5 1 = .yes := by kernel_rfl
theorem y5351 (L c : Nat) : run4 (L + 1) c 5 3 5 1 = .yes := by kernel_rfl
theorem g5351 : ∀ (L c : Nat), run4 L c 5 3 5 1 = .yes
  | 0, c => x5351 c
  | L + 1, c => y5351 L c
theorem x5352 (c : Nat) : run4 0 c 5 3 5 2 = .yes := by kernel_rfl
theorem y5352 (L c : Nat) : run4 (L + 1) c 5 3 5 2 = .yes := by kernel_rfl
theorem g5352 : ∀ (L c : Nat), run4 L c 5 3 5 2 = .yes
  | 0, c => x5352 c
  | L + 1, c => y5352 L c
theorem x5353 (c : Nat) : run4 0 c 5 3 5 3 = .yes := by kernel_rfl
theorem y5353 (L c : Nat) : run4 (L + 1) c 5 3 5 3 = .yes := by kernel_rfl
theorem g5353 : ∀ (L c : Nat), run4 L c 5 3 5 3 = .yes
  | 0, c => x5353 c
  | L + 1, c => y5353 L c
theorem x5354 (c : Nat) : run4 0 c 5 3 5 4 = .yes := by kernel_rfl
theorem y5354 (L c : Nat) : run4 (L + 1) c 5 3 5 4 = .yes := by kernel_rfl
theorem g5354 : ∀ (L c : Nat), run4 L c 5 3 5 4 = .yes
  | 0, c => x5354 c
  | L + 1, c => y5354 L c
theorem x5355 (c : Nat) : run4 0 c 5 3 5 5 = .yes := by kernel_rfl
theorem y5355 (L c : Nat) : run4 (L + 1) c 5 3 5 5 = .yes := by kernel_rfl
theorem g5355 : ∀ (L c : Nat), run4 L c 5 3 5 5 = .yes
  | 0, c => x5355 c
  | L + 1, c => y5355 L c
theorem h535 (L c : Nat) : ∀ x, x < 6 → run4 L c 5 3 5 x = .yes
  | 0, _ => g5350 L c
  | 1, _ => g5351 L c
  | 2, _ => g5352 L c
  | 3, _ => g5353 L c
  | 4, _ => g5354 L c
  | 5, _ => g5355 L c
  | x + 6, h => absurd h (by omega)
theorem hh53 (L c : Nat) : ∀ x, x < 6 → ∀ y, y < 6 → run4 L c 5 3 x y = .yes
  | 0, _ => h530 L c
  | 1, _ => h531 L c
  | 2, _ => h532 L c
  | 3, _ => h533 L c
  | 4, _ => h534 L c
  | 5, _ => h535 L c
  | x + 6, h => absurd h (by omega)
theorem x0200 (c : Nat) : run4 0 c 0 2 0 0 = .yes := by kernel_rfl
theorem y0200 (L c : Nat) : run4 (L + 1) c 0 2 0 0 = .yes := by kernel_rfl
theorem g0200 : ∀ (L c : Nat), run4 L c 0 2 0 0 = .yes
  | 0, c => x0200 c
  | L + 1, c => y0200 L c
theorem x0201 (c : Nat) : run4 0 c 0 2 0 1 = .yes := by kernel_rfl
theorem y0201 (L c : Nat) : run4 (L + 1) c 0 2 0 1 = .yes := by kernel_rfl
theorem g0201 : ∀ (L c : Nat), run4 L c 0 2 0 1 = .yes
  | 0, c => x0201 c
  | L + 1, c => y0201 L c
theorem x0202 (c : Nat) : run4 0 c 0 2 0 2 = .yes := by kernel_rfl
theorem y0202 (L c : Nat) : run4 (L + 1) c 0 2 0 2 = .yes := by kernel_rfl
theorem g0202 : ∀ (L c : Nat), run4 L c 0 2 0 2 = .yes
  | 0, c => x0202 c
  | L + 1, c => y0202 L c
theorem x0203 (c : Nat) : run4 0 c 0 2 0 3 = .yes := by kernel_rfl
theorem y0203 (L c : Nat) : run4 (L + 1) c 0 2 0 3 = .yes := by kernel_rfl
theorem g0203 : ∀ (L c : Nat), run4 L c 0 2 0 3 = .yes
  | 0, c => x0203 c
  | L + 1, c => y0203 L c
theorem x0204 (c : Nat) : run4 0 c 0 2 0 4 = .yes := by kernel_rfl
theorem y0204 (L c : Nat) : run4 (L + 1) c 0 2 0 4 = .yes := by kernel_rfl
theorem g0204 : ∀ (L c : Nat), run4 L c 0 2 0 4 = .yes
  | 0, c => x0204 c
  | L + 1, c => y0204 L c
theorem x0205 (c : Nat) : run4 0 c 0 2 0 5 = .yes := by kernel_rfl
theorem y0205 (L c : Nat) : run4 (L + 1) c 0 2 0 5 = .yes := by kernel_rfl
theorem g0205 : ∀ (L c : Nat), run4 L c 0 2 0 5 = .yes
  | 0, c => x0205 c
  | L + 1, c => y0205 L c
theorem h020 (L c : Nat) : ∀ x, x < 6 → run4 L c 0 2 0 x = .yes
  | 0, _ => g0200 L c
  | 1, _ => g0201 L c
  | 2, _ => g0202 L c
  | 3, _ => g0203 L c
  | 4, _ => g0204 L c
  | 5, _ => g0205 L c
  | x + 6, h => absurd h (by omega)
theorem x0210 (c : Nat) : run4 0 c 0 2 1 0 = .yes := by kernel_rfl
theorem y0210 (L c : Nat) : run4 (L + 1) c 0 2 1 0 = .yes := by kernel_rfl
theorem g0210 : ∀ (L c : Nat), run4 L c 0 2 1 0 = .yes
  | 0, c => x0210 c
  | L + 1, c => y0210 L c
theorem x0211 (c : Nat) : run4 0 c 0 2 1 1 = .yes := by kernel_rfl
theorem y0211 (L c : Nat) : run4 (L + 1) c 0 2 1 1 = .yes := by kernel_rfl
theorem g0211 : ∀ (L c : Nat), run4 L c 0 2 1 1 = .yes
  | 0, c => x0211 c
  | L + 1, c => y0211 L c
theorem x0212 (c : Nat) : run4 0 c 0 2 1 2 = .yes := by kernel_rfl
theorem y0212 (L c : Nat) : run4 (L + 1) c 0 2 1 2 = .yes := by kernel_rfl
theorem g0212 : ∀ (L c : Nat), run4 L c 0 2 1 2 = .yes
  | 0, c => x0212 c
  | L + 1, c => y0212 L c
theorem x0213 (c : Nat) : run4 0 c 0 2 1 3 = .yes := by kernel_rfl
theorem y0213 (L c : Nat) : run4 (L + 1) c 0 2 1 3 = .yes := by kernel_rfl
theorem g0213 : ∀ (L c : Nat), run4 L c 0 2 1 3 = .yes
  | 0, c => x0213 c
  | L + 1, c => y0213 L c
theorem x0214 (c : Nat) : run4 0 c 0 2 1 4 = .yes := by kernel_rfl
theorem y0214 (L c : Nat) : run4 (L + 1) c 0 2 1 4 = .yes := by kernel_rfl
theorem g0214 : ∀ (L c : Nat), run4 L c 0 2 1 4 = .yes
  | 0, c => x0214 c
  | L + 1, c => y0214 L c
theorem x0215 (c : Nat) : run4 0 c 0 2 1 5 = .yes := by kernel_rfl
theorem y0215 (L c : Nat) : run4 (L + 1) c 0 2 1 5 = .yes := by kernel_rfl
theorem g0215 : ∀ (L c : Nat), run4 L c 0 2 1 5 = .yes
  | 0, c => x0215 c
  | L + 1, c => y0215 L c
theorem h021 (L c : Nat) : ∀ x, x < 6 → run4 L c 0 2 1 x = .yes
  | 0, _ => g0210 L c
  | 1, _ => g0211 L c
  | 2, _ => g0212 L c
  | 3, _ => g0213 L c
  | 4, _ => g0214 L c
  | 5, _ => g0215 L c
  | x + 6, h => absurd h (by omega)
theorem x0220 (c : Nat) : run4 0 c 0 2 2 0 = .yes := by kernel_rfl
theorem y0220 (L c : Nat) : run4 (L + 1) c 0 2 2 0 = .yes := by kernel_rfl
theorem g0220 : ∀ (L c : Nat), run4 L c 0 2 2 0 = .yes
  | 0, c => x0220 c
  | L + 1, c => y0220 L c
theorem x0221 (c : Nat) : run4 0 c 0 2 2 1 = .yes := by kernel_rfl
theorem y0221 (L c : Nat) : run4 (L + 1) c 0 2 2 1 = .yes := by kernel_rfl
theorem g0221 : ∀ (L c : Nat), run4 L c 0 2 2 1 = .yes
  | 0, c => x0221 c
  | L + 1, c => y0221 L c
theorem x0222 (c : Nat) : run4 0 c 0 2 2 2 = .yes := by kernel_rfl
theorem y0222 (L c : Nat) : run4 (L + 1) c 0 2 2 2 = .yes := by kernel_rfl
theorem g0222 : ∀ (L c : Nat), run4 L c 0 2 2 2 = .yes
  | 0, c => x0222 c
  | L + 1, c => y0222 L c
theorem x0223 (c : Nat) : run4 0 c 0 2 2 3 = .yes := by kernel_rfl
theorem y0223 (L c : Nat) : run4 (L + 1) c 0 2 2 3 = .yes := by kernel_rfl
theorem g0223 : ∀ (L c : Nat), run4 L c 0 2 2 3 = .yes
  | 0, c => x0223 c
  | L + 1, c => y0223 L c
theorem x0224 (c : Nat) : run4 0 c 0 2 2 4 = .yes := by kernel_rfl
theorem y0224 (L c : Nat) : run4 (L + 1) c 0 2 2 4 = .yes := by kernel_rfl
theorem g0224 : ∀ (L c : Nat), run4 L c 0 2 2 4 = .yes
  | 0, c => x0224 c
  | L + 1, c => y0224 L c
theorem x0225 (c : Nat) : run4 0 c 0 2 2 5 = .yes := by kernel_rfl
theorem y0225 (L c : Nat) : run4 (L + 1) c 0 2 2 5 = .yes := by kernel_rfl
theorem g0225 : ∀ (L c : Nat), run4 L c 0 2 2 5 = .yes
  | 0, c => x0225 c
  | L + 1, c => y0225 L c
theorem h022 (L c : Nat) : ∀ x, x < 6 → run4 L c 0 2 2 x = .yes
  | 0, _ => g0220 L c
  | 1, _ => g0221 L c
  | 2, _ => g0222 L c
  | 3, _ => g0223 L c
  | 4, _ => g0224 L c
  | 5, _ => g0225 L c
  | x + 6, h => absurd h (by omega)
theorem x0230 (c : Nat) : run4 0 c 0 2 3 0 = .yes := by kernel_rfl
theorem y0230 (L c : Nat) : run4 (L + 1) c 0 2 3 0 = .yes := by kernel_rfl
theorem g0230 : ∀ (L c : Nat), run4 L c 0 2 3 0 = .yes
  | 0, c => x0230 c
  | L + 1, c => y0230 L c
theorem x0231 (c : Nat) : run4 0 c 0 2 3 1 = .yes := by kernel_rfl
theorem y0231 (L c : Nat) : run4 (L + 1) c 0 2 3 1 = .yes := by kernel_rfl
theorem g0231 : ∀ (L c : Nat), run4 L c 0 2 3 1 = .yes
  | 0, c => x0231 c
  | L + 1, c => y0231 L c
theorem x0232 (c : Nat) : run4 0 c 0 2 3 2 = .yes := by kernel_rfl
theorem y0232 (L c : Nat) : run4 (L + 1) c 0 2 3 2 = .yes := by kernel_rfl
theorem g0232 : ∀ (L c : Nat), run4 L c 0 2 3 2 = .yes
  | 0, c => x0232 c
  | L + 1, c => y0232 L c
theorem x0233 (c : Nat) : run4 0 c 0 2 3 3 = .yes := by kernel_rfl
theorem y0233 (L c : Nat) : run4 (L + 1) c 0 2 3 3 = .yes := by kernel_rfl
theorem g0233 : ∀ (L c : Nat), run4 L c 0 2 3 3 = .yes
  | 0, c => x0233 c
  | L + 1, c => y0233 L c
theorem x0234 (c : Nat) : run4 0 c 0 2 3 4 = .yes := by kernel_rfl
theorem y0234 (L c : Nat) : run4 (L + 1) c 0 2 3 4 = .yes := by kernel_rfl
theorem g0234 : ∀ (L c : Nat), run4 L c 0 2 3 4 = .yes
  | 0, c => x0234 c
  | L + 1, c => y0234 L c
theorem x0235 (c : Nat) : run4 0 c 0 2 3 5 = .yes := by kernel_rfl
theorem y0235 (L c : Nat) : run4 (L + 1) c 0 2 3 5 = .yes := by kernel_rfl
theorem g0235 : ∀ (L c : Nat), run4 L c 0 2 3 5 = .yes
  | 0, c => x0235 c
  | L + 1, c => y0235 L c
theorem h023 (L c : Nat) : ∀ x, x < 6 → run4 L c 0 2 3 x = .yes
  | 0, _ => g0230 L c
  | 1, _ => g0231 L c
  | 2, _ => g0232 L c
  | 3, _ => g0233 L c
  | 4, _ => g0234 L c
  | 5, _ => g0235 L c
  | x + 6, h => absurd h (by omega)
theorem x0240 (c : Nat) : run4 0 c 0 2 4 0 = .yes := by kernel_rfl
theorem y0240 (L c : Nat) : run4 (L + 1) c 0 2 4 0 = .yes := by kernel_rfl
theorem g0240 : ∀ (L c : Nat), run4 L c 0 2 4 0 = .yes
  | 0, c => x0240 c
  | L + 1, c => y0240 L c
theorem x0241 (c : Nat) : run4 0 c 0 2 4 1 = .yes := by kernel_rfl
theorem y0241 (L c : Nat) : run4 (L + 1) c 0 2 4 1 = .yes := by kernel_rfl
theorem g0241 : ∀ (L c : Nat), run4 L c 0 2 4 1 = .yes
  | 0, c => x0241 c
  | L + 1, c => y0241 L c
theorem x0242 (c : Nat) : run4 0 c 0 2 4 2 = .yes := by kernel_rfl
theorem y0242 (L c : Nat) : run4 (L + 1) c 0 2 4 2 = .yes := by kernel_rfl
theorem g0242 : ∀ (L c : Nat), run4 L c 0 2 4 2 = .yes
  | 0, c => x0242 c
  | L + 1, c => y0242 L c
theorem x0243 (c : Nat) : run4 0 c 0 2 4 3 = .yes := by kernel_rfl
theorem y0243 (L c : Nat) : run4 (L + 1) c 0 2 4 3 = .yes := by kernel_rfl
theorem g0243 : ∀ (L c : Nat), run4 L c 0 2 4 3 = .yes
  | 0, c => x0243 c
  | L + 1, c => y0243 L c
theorem x0244 (c : Nat) : run4 0 c 0 2 4 4 = .yes := by kernel_rfl
theorem y0244 (L c : Nat) : run4 (L + 1) c 0 2 4 4 = .yes := by kernel_rfl
theorem g0244 : ∀ (L c : Nat), run4 L c 0 2 4 4 = .yes
  | 0, c => x0244 c
  | L + 1, c => y0244 L c
theorem x0245 (c : Nat) : run4 0 c 0 2 4 5 = .yes := by kernel_rfl
theorem y0245 (L c : Nat) : run4 (L + 1) c 0 2 4 5 = .yes := by kernel_rfl
theorem g0245 : ∀ (L c : Nat), run4 L c 0 2 4 5 = .yes
  | 0, c => x0245 c
  | L + 1, c => y0245 L c
theorem h024 (L c : Nat) : ∀ x, x < 6 → run4 L c 0 2 4 x = .yes
  | 0, _ => g0240 L c
  | 1, _ => g0241 L c
  | 2, _ => g0242 L c
  | 3, _ => g0243 L c
  | 4, _ => g0244 L c
  | 5, _ => g0245 L c
  | x + 6, h => absurd h (by omega)
theorem x0250 (c : Nat) : run4 0 c 0 2 5 0 = .yes := by kernel_rfl
theorem y0250 (L c : Nat) : run4 (L + 1) c 0 2 5 0 = .yes := by kernel_rfl
theorem g0250 : ∀ (L c : Nat), run4 L c 0 2 5 0 = .yes
  | 0, c => x0250 c
  | L + 1, c => y0250 L c
theorem x0251 (c : Nat) : run4 0 c 0 2 5 1 = .yes := by kernel_rfl
theorem y0251 (L c : Nat) : run4 (L + 1) c 0 2 5 1 = .yes := by kernel_rfl
theorem g0251 : ∀ (L c : Nat), run4 L c 0 2 5 1 = .yes
  | 0, c => x0251 c
  | L + 1, c => y0251 L c
theorem x0252 (c : Nat) : run4 0 c 0 2 5 2 = .yes := by kernel_rfl
theorem y0252 (L c : Nat) : run4 (L + 1) c 0 2 5 2 = .yes := by kernel_rfl
theorem g0252 : ∀ (L c : Nat), run4 L c 0 2 5 2 = .yes
  | 0, c => x0252 c
  | L + 1, c => y0252 L c
theorem x0253 (c : Nat) : run4 0 c 0 2 5 3 = .yes := by kernel_rfl
theorem y0253 (L c : Nat) : run4 (L + 1) c 0 2 5 3 = .yes := by kernel_rfl
theorem g0253 : ∀ (L c : Nat), run4 L c 0 2 5 3 = .yes
  | 0, c => x0253 c
  | L + 1, c => y0253 L c
theorem x0254 (c : Nat) : run4 0 c 0 2 5 4 = .yes := by kernel_rfl
theorem y0254 (L c : Nat) : run4 (L + 1) c 0 2 5 4 = .yes := by kernel_rfl
theorem g0254 : ∀ (L c : Nat), run4 L c 0 2 5 4 = .yes
  | 0, c => x0254 c
  | L + 1, c => y0254 L c
theorem x0255 (c : Nat) : run4 0 c 0 2 5 5 = .yes := by kernel_rfl
theorem y0255 (L c : Nat) : run4 (L + 1) c 0 2 5 5 = .yes := by kernel_rfl
theorem g0255 : ∀ (L c : Nat), run4 L c 0 2 5 5 = .yes
  | 0, c => x0255 c
  | L + 1, c => y0255 L c
theorem h025 (L c : Nat) : ∀ x, x < 6 → run4 L c 0 2 5 x = .yes
  | 0, _ => g0250 L c
  | 1, _ => g0251 L c
  | 2, _ => g0252 L c
  | 3, _ => g0253 L c
  | 4, _ => g0254 L c
  | 5, _ => g0255 L c
  | x + 6, h => absurd h (by omega)
theorem hh02 (L c : Nat) : ∀ x, x < 6 → ∀ y, y < 6 → run4 L c 0 2 x y = .yes
  | 0, _ => h020 L c
  | 1, _ => h021 L c
  | 2, _ => h022 L c
  | 3, _ => h023 L c
  | 4, _ => h024 L c
  | 5, _ => h025 L c
  | x + 6, h => absurd h (by omega)
end Go.Proofs.YtojbfaigebpnpaaDoor.ecoThreadsq
