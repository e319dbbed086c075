/-
  The law EcoThreads at some of its cases: the run over the program ends in true. Conditions: none; these are closed facts.
-/
import Derived.Test.YtojbfaigebpnpaaDoorEcoThreadsA
namespace Go.Proofs.YtojbfaigebpnpaaDoor.ecoThreadsq
open Go.Rn Go.RowKit YtojbfaigebpnpaaDoor.txt
set_option maxHeartbeats 400000000
theorem x3300 (c : Nat) : run4 0 c 3 3 0 0 = .yes := by kernel_rfl
theorem y3300 (L c : Nat) : run4 (L + 1) c 3 3 0 0 = .yes := by kernel_rfl
theorem g3300 : ∀ (L c : Nat), run4 L c 3 3 0 0 = .yes
  | 0, c => x3300 c
  | L + 1, c => y3300 L c
theorem x3301 (c : Nat) : run4 0 c 3 3 0 1 = .yes := by kernel_rfl
theorem y3301 (L c : Nat) : run4 (L + 1) c 3 3 0 1 = .yes := by kernel_rfl
theorem g3301 : ∀ (L c : Nat), run4 L c 3 3 0 1 = .yes
  | 0, c => x3301 c
  | L + 1, c => y3301 L c
theorem x3302 (c : Nat) : run4 0 c 3 3 0 2 = .yes := by kernel_rfl
theorem y3302 (L c : Nat) : run4 (L + 1) c 3 3 0 2 = .yes := by kernel_rfl
theorem g3302 : ∀ (L c : Nat), run4 L c 3 3 0 2 = .yes
  | 0, c => x3302 c
  | L + 1, c => y3302 L c
theorem x3303 (c : Nat) : run4 0 c 3 3 0 3 = .yes := by kernel_rfl
theorem y3303 (L c : Nat) : run4 (L + 1) c 3 3 0 3 = .yes := by kernel_rfl
theorem g3303 : ∀ (L c : Nat), run4 L c 3 3 0 3 = .yes
  | 0, c => x3303 c
  | L + 1, c => y3303 L c
theorem x3304 (c : Nat) : run4 0 c 3 3 0 4 = .yes := by kernel_rfl
theorem y3304 (L c : Nat) : run4 (L + 1) c 3 3 0 4 = .yes := by kernel_rfl
theorem g3304 : ∀ (L c : Nat), run4 L c 3 3 0 4 = .yes
  | 0, c => x3304 c
  | L + 1, c => y3304 L c
theorem x3305 (c : Nat) : run4 0 c 3 3 0 5 = .yes := by kernel_rfl
theorem y3305 (L c : Nat) : run4 (L + 1) c 3 3 0 5 = .yes := by kernel_rfl
theorem g3305 : ∀ (L c : Nat), run4 L c 3 3 0 5 = .yes
  | 0, c => x3305 c
  | L + 1, c => y3305 L c
theorem h330 (L c : Nat) : ∀ x, x < 6 → run4 L c 3 3 0 x = .yes
  | 0, _ => g3300 L c
  | 1, _ => g3301 L c
  | 2, _ => g3302 L c
  | 3, _ => g3303 L c
  | 4, _ => g3304 L c
  | 5, _ => g3305 L c
  | x + 6, h => absurd h (by omega)
theorem x3310 (c : Nat) : run4 0 c 3 3 1 0 = .yes := by kernel_rfl
theorem y3310 (L c : Nat) : run4 (L + 1) c 3 3 1 0 = .yes := by kernel_rfl
theorem g3310 : ∀ (L c : Nat), run4 L c 3 3 1 0 = .yes
  | 0, c => x3310 c
  | L + 1, c => y3310 L c
theorem x3311 (c : Nat) : run4 0 c 3 3 1 1 = .yes := by kernel_rfl
theorem y3311 (L c : Nat) : run4 (L + 1) c 3 3 1 1 = .yes := by kernel_rfl
theorem g3311 : ∀ (L c : Nat), run4 L c 3 3 1 1 = .yes
  | 0, c => x3311 c
  | L + 1, c => y3311 L c
theorem x3312 (c : Nat) : run4 0 c 3 3 1 2 = .yes := by kernel_rfl
theorem y3312 (L c : Nat) : run4 (L + 1) c 3 3 1 2 = .yes := by kernel_rfl
theorem g3312 : ∀ (L c : Nat), run4 L c 3 3 1 2 = .yes
  | 0, c => x3312 c
  | L + 1, c => y3312 L c
theorem x3313 (c : Nat) : run4 0 c 3 3 1 3 = .yes := by kernel_rfl
theorem y3313 (L c : Nat) : run4 (L + 1) c 3 3 1 3 = .yes := by kernel_rfl
theorem g3313 : ∀ (L c : Nat), run4 L c 3 3 1 3 = .yes
  | 0, c => x3313 c
  | L + 1, c => y3313 L c
theorem x3314 (c : Nat) : run4 0 c 3 3 1 4 = .yes := by kernel_rfl
theorem y3314 (L c : Nat) : run4 (L + 1) c 3 3 1 4 = .yes := by kernel_rfl
theorem g3314 : ∀ (L c : Nat), run4 L c 3 3 1 4 = .yes
  | 0, c => x3314 c
  | L + 1, c => y3314 L c
theorem x3315 (c : Nat) : run4 0 c 3 3 1 5 = .yes := by kernel_rfl
theorem y3315 (L c : Nat) : run4 (L + 1) c 3 3 1 5 = .yes := by kernel_rfl
theorem g3315 : ∀ (L c : Nat), run4 L c 3 3 1 5 = .yes
  | 0, c => x3315 c
  | L + 1, c => y3315 L c
theorem h331 (L c : Nat) : ∀ x, x < 6 → run4 L c 3 3 1 x = .yes
  | 0, _ => g3310 L c
  | 1, _ => g3311 L c
  | 2, _ => g3312 L c
  | 3, _ => g3313 L c
  | 4, _ => g3314 L c
  | 5, _ => g3315 L c
  | x + 6, h => absurd h (by omega)
theorem x3320 (c : Nat) : run4 0 c 3 3 2 0 = .yes := by kernel_rfl
theorem y3320 (L c : Nat) : run4 (L + 1) c 3 3 2 0 = .yes := by kernel_rfl
theorem g3320 : ∀ (L c : Nat), run4 L c 3 3 2 0 = .yes
  | 0, c => x3320 c
  | L + 1, c => y3320 L c
theorem x3321 (c : Nat) : run4 0 c 3 3 2 1 = .yes := by kernel_rfl
theorem y3321 (L c : Nat) : run4 (L + 1) c 3 3 2 1 = .yes := by kernel_rfl
theorem g3321 : ∀ (L c : Nat), run4 L c 3 3 2 1 = .yes
  | 0, c => x3321 c
  | L + 1, c => y3321 L c
theorem x3322 (c : Nat) : run4 0 c 3 3 2 2 = .yes := by kernel_rfl
theorem y3322 (L c : Nat) : run4 (L + 1) c 3 3 2 2 = .yes := by kernel_rfl
theorem g3322 : ∀ (L c : Nat), run4 L c 3 3 2 2 = .yes
  | 0, c => x3322 c
  | L + 1, c => y3322 L c
theorem x3323 (c : Nat) : run4 0 c 3 3 2 3 = .yes := by kernel_rfl
theorem y3323 (L c : Nat) : run4 (L + 1) c 3 3 2 3 = .yes := by kernel_rfl
theorem g3323 : ∀ (L c : Nat), run4 L c 3 3 2 3 = .yes
  | 0, c => x3323 c
  | L + 1, c => y3323 L c
theorem x3324 (c : Nat) : run4 0 c 3 3 2 4 = .yes := by kernel_rfl
theorem y3324 (L c : Nat) : run4 (L + 1) c 3 3 2 4 = .yes := by kernel_rfl
theorem g3324 : ∀ (L c : Nat), run4 L c 3 3 2 4 = .yes
  | 0, c => x3324 c
  | L + 1, c => y3324 L c
theorem x3325 (c : Nat) : run4 0 c 3 3 2 5 = .yes := by kernel_rfl
theorem y3325 (L c : Nat) : run4 (L + 1) c 3 3 2 5 = .yes := by kernel_rfl
theorem g3325 : ∀ (L c : Nat), run4 L c 3 3 2 5 = .yes
  | 0, c => x3325 c
  | L + 1, c => y3325 L c
theorem h332 (L c : Nat) : ∀ x, x < 6 → run4 L c 3 3 2 x = .yes
  | 0, _ => g3320 L c
  | 1, _ => g3321 L c
  | 2, _ => g3322 L c
  | 3, _ => g3323 L c
  | 4, _ => g3324 L c
  | 5, _ => g3325 L c
  | x + 6, h => absurd h (by omega)
theorem x3330 (c : Nat) : run4 0 c 3 3 3 0 = .yes := by kernel_rfl
theorem y3330 (L c : Nat) : run4 (L + 1) c 3 3 3 0 = .yes := by kernel_rfl
theorem g3330 : ∀ (L c : Nat), run4 L c 3 3 3 0 = .yes
  | 0, c => x3330 c
  | L + 1, c => y3330 L c
theorem x3331 (c : Nat) : run4 0 c 3 3 3 1 = .yes := by kernel_rfl
theorem y3331 (L c : Nat) : run4 (L + 1) c 3 3 3 1 = .yes := by kernel_rfl
theorem g3331 : ∀ (L c : Nat), run4 L c 3 3 3 1 = .yes
  | 0, c => x3331 c
  | L + 1, c => y3331 L c
theorem x3332 (c : Nat) : run4 0 c 3 3 3 2 = .yes := by kernel_rfl
theorem y3332 (L c : Nat) : run4 (L + 1) c 3 3 3 2 = .yes := by kernel_rfl
theorem g3332 : ∀ (L c : Nat), run4 L c 3 3 3 2 = .yes
  | 0, c => x3332 c
  | L + 1, c => y3332 L c
theorem x3333 (c : Nat) : run4 0 c 3 3 3 3 = .yes := by kernel_rfl
theorem y3333 (L c : Nat) : run4 (L + 1) c 3 3 3 3 = .yes := by kernel_rfl
theorem g3333 : ∀ (L c : Nat), run4 L c 3 3 3 3 = .yes
  | 0, c => x3333 c
  | L + 1, c => y3333 L c
theorem x3334 (c : Nat) : run4 0 c 3 3 3 4 = .yes := by kernel_rfl
theorem y3334 (L c : Nat) : run4 (L + 1) c 3 3 3 4 = .yes := by kernel_rfl
theorem g3334 : ∀ (L c : Nat), run4 L c 3 3 3 4 = .yes
  | 0, c => x3334 c
  | L + 1, c => y3334 L c
theorem x3335 (c : Nat) : run4 0 c 3 3 3 5 = .yes := by kernel_rfl
theorem y3335 (L c : Nat) : run4 (L + 1) c 3 3 3 5 = .yes := by kernel_rfl
theorem g3335 : ∀ (L c : Nat), run4 L c 3 3 3 5 = .yes
  | 0, c => x3335 c
  | L + 1, c => y3335 L c
theorem h333 (L c : Nat) : ∀ x, x < 6 → run4 L c 3 3 3 x = .yes
  | 0, _ => g3330 L c
  | 1, _ => g3331 L c
  | 2, _ => g3332 L c
  | 3, _ => g3333 L c
  | 4, _ => g3334 L c
  | 5, _ => g3335 L c
  | x + 6, h => absurd h (by omega)
theorem x3340 (c : Nat) : run4 0 c 3 3 4 0 = .yes := by kernel_rfl
theorem y3340 (L c : Nat) : run4 (L + 1) c 3 3 4 0 = .yes := by kernel_rfl
theorem g3340 : ∀ (L c : Nat), run4 L c 3 3 4 0 = .yes
  | 0, c => x3340 c
  | L + 1, c => y3340 L c
theorem x3341 (c : Nat) : run4 0 c 3 3 4 1 = .yes := by kernel_rfl
theorem y3341 (L c : Nat) : run4 (L + 1) c 3 3 4 1 = .yes := by kernel_rfl
theorem g3341 : ∀ (L c : Nat), run4 L c 3 3 4 1 = .yes
  | 0, c => x3341 c
  | L + 1, c => y3341 L c
theorem x3342 (c : Nat) : run4 0 c 3 3 4 2 = .yes := by kernel_rfl
theorem y3342 (L c : Nat) : run4 (L + 1) c 3 3 4 2 = .yes := by kernel_rfl
theorem g3342 : ∀ (L c : Nat), run4 L c 3 3 4 2 = .yes
  | 0, c => x3342 c
  | L + 1, c => y3342 L c
theorem x3343 (c : Nat) : run4 0 c 3 3 4 3 = .yes := by kernel_rfl
theorem y3343 (L c : Nat) : run4 (L + 1) c 3 3 4 3 = .yes := by kernel_rfl
theorem g3343 : ∀ (L c : Nat), run4 L c 3 3 4 3 = .yes
  | 0, c => x3343 c
  | L + 1, c => y3343 L c
theorem x3344 (c : Nat) : run4 0 c 3 3 4 4 = .yes := by kernel_rfl
theorem y3344 (L c : Nat) : run4 (L + 1) c 3 3 4 4 = .yes := by kernel_rfl
theorem g3344 : ∀ (L c : Nat), run4 L c 3 3 4 4 = .yes
  | 0, c => x3344 c
  | L + 1, c => y3344 L c
theorem x3345 (c : Nat) : run4 0 c 3 3 4 5 = .yes := by kernel_rfl
theorem y3345 (L c : Nat) : run4 (L + 1) c 3 3 4 5 = .yes := by kernel_rfl
theorem g3345 : ∀ (L c : Nat), run4 L c 3 3 4 5 = .yes
  | 0, c => x3345 c
  | L + 1, c => y3345 L c
theorem h334 (L c : Nat) : ∀ x, x < 6 → run4 L c 3 3 4 x = .yes
  | 0, _ => g3340 L c
  | 1, _ => g3341 L c
  | 2, _ => g3342 L c
  | 3, _ => g3343 L c
  | 4, _ => g3344 L c
  | 5, _ => g3345 L c
  | x + 6, h => absurd h (by omega)
theorem x3350 (c : Nat) : run4 0 c 3 3 5 0 = .yes := by kernel_rfl
theorem y3350 (L c : Nat) : run4 (L + 1) c 3 3 5 0 = .yes := by kernel_rfl
theorem g3350 : ∀ (L c : Nat), run4 L c 3 3 5 0 = .yes
  | 0, c => x3350 c
  | L + 1, c => y3350 L c
theorem x3351 (c : Nat) : run4 0 c 3 3 5 1 = .yes := by kernel_rfl
theorem y3351 (L c : Nat) : run4 (L + 1) c 3 3 5 1 = .yes := by kernel_rfl
theorem g3351 : ∀ (L c : Nat), run4 L c 3 3 5 1 = .yes
  | 0, c => x3351 c
  | L + 1, c => y3351 L c
theorem x3352 (c : Nat) : run4 0 c 3 3 5 2 = .yes := by kernel_rfl
theorem y3352 (L c : Nat) : run4 (L + 1) c 3 3 5 2 = .yes := by kernel_rfl
theorem g3352 : ∀ (L c : Nat), run4 L c 3 3 5 2 = .yes
  | 0, c => x3352 c
  | L + 1, c => y3352 L c
theorem x3353 (c : Nat) : run4 0 c 3 3 5 3 = .yes := by kernel_rfl
theorem y3353 (L c : Nat) : run4 (L + 1) c 3 3 5 3 = .yes := by kernel_rfl
theorem g3353 : ∀ (L c : Nat), run4 L c 3 3 5 3 = .yes
  | 0, c => x3353 c
  | L + 1, c => y3353 L c
theorem x3354 (c : Nat) : run4 0 c 3 3 5 4 = .yes := by kernel_rfl
theorem y3354 (L c : Nat) : run4 (L + 1) c 3 3 5 4 = .yes := by kernel_rfl
theorem g3354 : ∀ (L c : Nat), run4 L c 3 3 5 4 = .yes
  | 0, c => x3354 c
  | L + 1, c => y3354 L c
theorem x3355 (c : Nat) : run4 0 c 3 3 5 5 = .yes := by kernel_rfl
theorem y3355 (L c : Nat) : run4 (L + 1) c 3 3 5 5 = .yes := by kernel_rfl
theorem g3355 : ∀ (L c : Nat), run4 L c 3 3 5 5 = .yes
  | 0, c => x3355 c
  | L + 1, c => y3355 L c
theorem h335 (L c : Nat) : ∀ x, x < 6 → run4 L c 3 3 5 x = .yes
  | 0, _ => g3350 L c
  | 1, _ => g3351 L c
  | 2, _ => g3352 L c
  | 3, _ => g3353 L c
  | 4, _ => g3354 L c
  | 5, _ => g3355 L c
  | x + 6, h => absurd h (by omega)
theorem hh33 (L c : Nat) : ∀ x, x < 6 → ∀ y, y < 6 → run4 L c 3 3 x y = .yes
  | 0, _ => h330 L c
  | 1, _ => h331 L c
  | 2, _ => h332 L c
  | 3, _ => h333 L c
  | 4, _ => h334 L c
  | 5, _ => h335 L c
  | x + 6, h => absurd h (by omega)
theorem x2200 (c : Nat) : run4 0 c 2 2 0 0 = .yes := by kernel_rfl
theorem y2200 (L c : Nat) : run4 (L + 1) c 2 2 0 0 = .yes := by kernel_rfl
theorem g2200 : ∀ (L c : Nat), run4 L c 2 2 0 0 = .yes
  | 0, c => x2200 c
  | L + 1, c => y2200 L c
theorem x2201 (c : Nat) : run4 0 c 2 2 0 1 = .yes := by kernel_rfl
theorem y2201 (L c : Nat) : run4 (L + 1) c 2 2 0 1 = .yes := by kernel_rfl
theorem g2201 : ∀ (L c : Nat), run4 L c 2 2 0 1 = .yes
  | 0, c => x2201 c
  | L + 1, c => y2201 L c
theorem x2202 (c : Nat) : run4 0 c 2 2 0 2 = .yes := by kernel_rfl
theorem y2202 (L c : Nat) : run4 (L + 1) c 2 2 0 2 = .yes := by kernel_rfl
theorem g2202 : ∀ (L c : Nat), run4 L c 2 2 0 2 = .yes
  | 0, c => x2202 c
  | L + 1, c => y2202 L c
theorem x2203 (c : Nat) : run4 0 c 2 2 0 3 = .yes := by kernel_rfl
theorem y2203 (L c : Nat) : run4 (L + 1) c 2 2 0 3 = .yes := by kernel_rfl
theorem g2203 : ∀ (L c : Nat), run4 L c 2 2 0 3 = .yes
  | 0, c => x2203 c
  | L + 1, c => y2203 L c
theorem x2204 (c : Nat) : run4 0 c 2 2 0 4 = .yes := by kernel_rfl
theorem y2204 (L c : Nat) : run4 (L + 1) c 2 2 0 4 = .yes := by kernel_rfl
theorem g2204 : ∀ (L c : Nat), run4 L c 2 2 0 4 = .yes
  | 0, c => x2204 c
  | L + 1, c => y2204 L c
theorem x2205 (c : Nat) : run4 0 c 2 2 0 5 = .yes := by kernel_rfl
theorem y2205 (L c : Nat) : run4 (L + 1) c 2 2 0 5 = .yes := by kernel_rfl
theorem g2205 : ∀ (L c : Nat), run4 L c 2 2 0 5 = .yes
  | 0, c => x2205 c
  | L + 1, c => y2205 L c
theorem h220 (L c : Nat) : ∀ x, x < 6 → run4 L c 2 2 0 x = .yes
  | 0, _ => g2200 L c
  | 1, _ => g2201 L c
  | 2, _ => g2202 L c
  | 3, _ => g2203 L c
  | 4, _ => g2204 L c
  | 5, _ => g2205 L c
  | x + 6, h => absurd h (by omega)
theorem x2210 (c : Nat) : run4 0 c 2 2 1 0 = .yes := by kernel_rfl
theorem y2210 (L c : Nat) : run4 (L + 1) c 2 2 1 0 = .yes := by kernel_rfl
theorem g2210 : ∀ (L c : Nat), run4 L c 2 2 1 0 = .yes
  | 0, c => x2210 c
  | L + 1, c => y2210 L c
theorem x2211 (c : Nat) : run4 0 c 2 2 1 1 = .yes := by kernel_rfl
theorem y2211 (L c : Nat) : run4 (L + 1) c 2 2 1 1 = .yes := by kernel_rfl
theorem g2211 : ∀ (L c : Nat), run4 L c 2 2 1 1 = .yes
  | 0, c => x2211 c
  | L + 1, c => y2211 L c
theorem x2212 (c : Nat) : run4 0 c 2 2 1 2 = .yes := by kernel_rfl
theorem y2212 (L c : Nat) : run4 (L + 1) c 2 2 1 2 = .yes := by kernel_rfl
theorem g2212 : ∀ (L c : Nat), run4 L c 2 2 1 2 = .yes
  | 0, c => x2212 c
  | L + 1, c => y2212 L c
theorem x2213 (c : Nat) : run4 0 c 2 2 1 3 = .yes := by kernel_rfl
theorem y2213 (L c : Nat) : run4 (L + 1) c 2 2 1 3 = .yes := by kernel_rfl
theorem g2213 : ∀ (L c : Nat), run4 L c 2 2 1 3 = .yes
  | 0, c => x2213 c
  | L + 1, c => y2213 L c
theorem x2214 (c : Nat) : run4 0 c 2 2 1 4 = .yes := by kernel_rfl
theorem y2214 (L c : Nat) : run4 (L + 1) c 2 2 1 4 = .yes := by kernel_rfl
theorem g2214 : ∀ (L c : Nat), run4 L c 2 2 1 4 = .yes
  | 0, c => x2214 c
  | L + 1, c => y2214 L c
theorem x2215 (c : Nat) : run4 0 c 2 2 1 5 = .yes := by kernel_rfl
theorem y2215 (L c : Nat) : run4 (L + 1) c 2 2 1 5 = .yes := by kernel_rfl
theorem g2215 : ∀ (L c : Nat), run4 L c 2 2 1 5 = .yes
  | 0, c => x2215 c
  | L + 1, c => y2215 L c
theorem h221 (L c : Nat) : ∀ x, x < 6 → run4 L c 2 2 1 x = .yes
  | 0, _ => g2210 L c
  | 1, _ => g2211 L c
  | 2, _ => g2212 L c
  | 3, _ => g2213 L c
  | 4, _ => g2214 L c
  | 5, _ => g2215 L c
  | x + 6, h => absurd h (by omega)
theorem x2220 (c : Nat) : run4 0 c 2 2 2 0 = .yes := by kernel_rfl
theorem y2220 (L c : Nat) : run4 (L + 1) c 2 2 2 0 = .yes := by kernel_rfl
theorem g2220 : ∀ (L c : Nat), run4 L c 2 2 2 0 = .yes
  | 0, c => x2220 c
  | L + 1, c => y2220 L c
theorem x2221 (c : Nat) : run4 0 c 2 2 2 1 = .yes := by kernel_rfl
theorem y2221 (L c : Nat) : run4 (L + 1) c 2 2 2 1 = .yes := by kernel_rfl
theorem g2221 : ∀ (L c : Nat), run4 L c 2 2 2 1 = .yes
  | 0, c => x2221 c
  | L + 1, c => y2221 L c
theorem x2222 (c : Nat) : run4 0 c 2 2 2 2 = .yes := by kernel_rfl
theorem y2222 (L c : Nat) : run4 (L + 1) c 2 2 2 2 = .yes := by kernel_rfl
theorem g2222 : ∀ (L c : Nat), run4 L c 2 2 2 2 = .yes
  | 0, c => x2222 c
  | L + 1, c => y2222 L c
theorem x2223 (c : Nat) : run4 0 c 2 2 2 3 = .yes := by kernel_rfl
theorem y2223 (L c : Nat) : run4 (L + 1) c 2 2 2 3 = .yes := by kernel_rfl
theorem g2223 : ∀ (L c : Nat), run4 L c 2 2 2 3 = .yes
  | 0, c => x2223 c
  | L + 1, c => y2223 L c
theorem x2224 (c : Nat) : run4 0 c 2 2 2 4 = .yes := by kernel_rfl
theorem y2224 (L c : Nat) : run4 (L + 1) c 2 2 2 4 = .yes := by kernel_rfl
theorem g2224 : ∀ (L c : Nat), run4 L c 2 2 2 4 = .yes
  | 0, c => x2224 c
  | L + 1, c => y2224 L c
theorem x2225 (c : Nat) : run4 0 c 2 2 2 5 = .yes := by kernel_rfl
theorem y2225 (L c : Nat) : run4 (L + 1) c 2 2 2 5 = .yes := by kernel_rfl
theorem g2225 : ∀ (L c : Nat), run4 L c 2 2 2 5 = .yes
  | 0, c => x2225 c
  | L + 1, c => y2225 L c
theorem h222 (L c : Nat) : ∀ x, x < 6 → run4 L c 2 2 2 x = .yes
  | 0, _ => g2220 L c
  | 1, _ => g2221 L c
  | 2, _ => g2222 L c
  | 3, _ => g2223 L c
  | 4, _ => g2224 L c
  | 5, _ => g2225 L c
  | x + 6, h => absurd h (by omega)
theorem x2230 (c : Nat) : run4 0 c 2 2 3 0 = .yes := by kernel_rfl
theorem y2230 (L c : Nat) : run4 (L + 1) c 2 2 3 0 = .yes := by kernel_rfl
theorem g2230 : ∀ (L c : Nat), run4 L c 2 2 3 0 = .yes
  | 0, c => x2230 c
  | L + 1, c => y2230 L c
theorem x2231 (c : Nat) : run4 0 c 2 2 3 1 = .yes := by kernel_rfl
theorem y2231 (L c : Nat) : run4 (L + 1) c 2 2 3 1 = .yes := by kernel_rfl
theorem g2231 : ∀ (L c : Nat), run4 L c 2 2 3 1 = .yes
  | 0, c => x2231 c
  | L + 1, c => y2231 L c
theorem x2232 (c : Nat) : run4 0 c 2 2 3 2 = .yes := by kernel_rfl
theorem y2232 (L c : Nat) : run4 (L + 1) c 2 2 3 2 = .yes := by kernel_rfl
theorem g2232 : ∀ (L c : Nat), run4 L c 2 2 3 2 = .yes
  | 0, c => x2232 c
  | L + 1, c => y2232 L c
theorem x2233 (c : Nat) : run4 0 c 2 2 3 3 = .yes := by kernel_rfl
theorem y2233 (L c : Nat) : run4 (L + 1) c 2 2 3 3 = .yes := by kernel_rfl
theorem g2233 : ∀ (L c : Nat), run4 L c 2 2 3 3 = .yes
  | 0, c => x2233 c
  | L + 1, c => y2233 L c
theorem x2234 (c : Nat) : run4 0 c 2 2 3 4 = .yes := by kernel_rfl
theorem y2234 (L c : Nat) : run4 (L + 1) c 2 2 3 4 = .yes := by kernel_rfl
theorem g2234 : ∀ (L c : Nat), run4 L c 2 2 3 4 = .yes
  | 0, c => x2234 c
  | L + 1, c => y2234 L c
theorem x2235 (c : Nat) : run4 0 c 2 2 3 5 = .yes := by kernel_rfl
theorem y2235 (L c : Nat) : run4 (L + 1) c 2 2 3 5 = .yes := by kernel_rfl
theorem g2235 : ∀ (L c : Nat), run4 L c 2 2 3 5 = .yes
  | 0, c => x2235 c
  | L + 1, c => y2235 L c
theorem h223 (L c : Nat) : ∀ x, x < 6 → run4 L c 2 2 3 x = .yes
  | 0, _ => g2230 L c
  | 1, _ => g2231 L c
  | 2, _ => g2232 L c
  | 3, _ => g2233 L c
  | 4, _ => g2234 L c
  | 5, _ => g2235 L c
  | x + 6, h => absurd h (by omega)
theorem x2240 (c : Nat) : run4 0 c 2 2 4 0 = .yes := by kernel_rfl
theorem y2240 (L c : Nat) : run4 (L + 1) c 2 2 4 0 = .yes := by kernel_rfl
theorem g2240 : ∀ (L c : Nat), run4 L c 2 2 4 0 = .yes
  | 0, c => x2240 c
  | L + 1, c => y2240 L c
theorem x2241 (c : Nat) : run4 0 c 2 2 4 1 = .yes := by kernel_rfl
theorem y2241 (L c : Nat) : run4 (L + 1) c 2 2 4 1 = .yes := by kernel_rfl
theorem g2241 : ∀ (L c : Nat), run4 L c 2 2 4 1 = .yes
  | 0, c => x2241 c
  | L + 1, c => y2241 L c
theorem x2242 (c : Nat) : run4 0 c 2 2 4 2 = .yes := by kernel_rfl
theorem y2242 (L c : Nat) : run4 (L + 1) c 2 2 4 2 = .yes := by kernel_rfl
theorem g2242 : ∀ (L c : Nat), run4 L c 2 2 4 2 = .yes
  | 0, c => x2242 c
  | L + 1, c => y2242 L c
theorem x2243 (c : Nat) : run4 0 c 2 2 4 3 = .yes := by kernel_rfl
theorem y2243 (L c : Nat) : run4 (L + 1) c 2 2 4 3 = .yes := by kernel_rfl
theorem g2243 : ∀ (L c : Nat), run4 L c 2 2 4 3 = .yes
  | 0, c => x2243 c
  | L + 1, c => y2243 L c
theorem x2244 (c : Nat) : run4 0 c 2 2 4 4 = .yes := by kernel_rfl
theorem y2244 (L c : Nat) : run4 (L + 1) c 2 2 4 4 = .yes := by kernel_rfl
theorem g2244 : ∀ (L c : Nat), run4 L c 2 2 4 4 = .yes
  | 0, c => x2244 c
  | L + 1, c => y2244 L c
theorem x2245 (c : Nat) : run4 0 c 2 2 4 5 = .yes := by kernel_rfl
theorem y2245 (L c : Nat) : run4 (L + 1) c 2 2 4 5 = .yes := by kernel_rfl
theorem g2245 : ∀ (L c : Nat), run4 L c 2 2 4 5 = .yes
  | 0, c => x2245 c
  | L + 1, c => y2245 L c
theorem h224 (L c : Nat) : ∀ x, x < 6 → run4 L c 2 2 4 x = .yes
  | 0, _ => g2240 L c
  | 1, _ => g2241 L c
  | 2, _ => g2242 L c
  | 3, _ => g2243 L c
  | 4, _ => g2244 L c
  | 5, _ => g2245 L c
  | x + 6, h => absurd h (by omega)
theorem x2250 (c : Nat) : run4 0 c 2 2 5 0 = .yes := by kernel_rfl
theorem y2250 (L c : Nat) : run4 (L + 1) c 2 2 5 0 = .yes := by kernel_rfl
theorem g2250 : ∀ (L c : Nat), run4 L c 2 2 5 0 = .yes
  | 0, c => x2250 c
  | L + 1, c => y2250 L c
theorem x2251 (c : Nat) : run4 0 c 2 2 5 1 = .yes := by kernel_rfl
theorem y2251 (L c : Nat) : run4 (L + 1) c 2 2 5 1 = .yes := by kernel_rfl
theorem g2251 : ∀ (L c : Nat), run4 L c 2 2 5 1 = .yes
  | 0, c => x2251 c
  | L + 1, c => y2251 L c
theorem x2252 (c : Nat) : run4 0 c 2 2 5 2 = .yes := by kernel_rfl
theorem y2252 (L c : Nat) : run4 (L + 1) c 2 2 5 2 = .yes := by kernel_rfl
theorem g2252 : ∀ (L c : Nat), run4 L c 2 2 5 2 = .yes
  | 0, c => x2252 c
  | L + 1, c => y2252 L c
theorem x2253 (c : Nat) : run4 0 c 2 2 5 3 = .yes := by kernel_rfl
theorem y2253 (L c : Nat) : run4 (L + 1) c 2 2 5 3 = .yes := by kernel_rfl
theorem g2253 : ∀ (L c : Nat), run4 L c 2 2 5 3 = .yes
  | 0, c => x2253 c
  | L + 1, c => y2253 L c
theorem x2254 (c : Nat) : run4 0 c 2 2 5 4 = .yes := by kernel_rfl
theorem y2254 (L c : Nat) : run4 (L + 1) c 2 2 5 4 = .yes := by kernel_rfl
theorem g2254 : ∀ (L c : Nat), run4 L c 2 2 5 4 = .yes
  | 0, c => x2254 c
  | L + 1, c => y2254 L c
theorem x2255 (c : Nat) : run4 0 c 2 2 5 5 = .yes := by kernel_rfl
theorem y2255 (L c : Nat) : run4 (L + 1) c 2 2 5 5 = .yes := by kernel_rfl
theorem g2255 : ∀ (L c : Nat), run4 L c 2 2 5 5 = .yes
  | 0, c => x2255 c
  | L + 1, c => y2255 L c
theorem h225 (L c : Nat) : ∀ x, x < 6 → run4 L c 2 2 5 x = .yes
  | 0, _ => g2250 L c
  | 1, _ => g2251 L c
  | 2, _ => g2252 L c
  | 3, _ => g2253 L c
  | 4, _ => g2254 L c
  | 5, _ => g2255 L c
  | x + 6, h => absurd h (by omega)
theorem hh22 (L c : Nat) : ∀ x, x < 6 → ∀ y, y < 6 → run4 L c 2 2 x y = .yes
  | 0, _ => h220 L c
  | 1, _ => h221 L c
  | 2, _ => h222 L c
  | 3, _ => h223 L c
  | 4, _ => h224 L c
  | 5, _ => h225 L c
  | x + 6, h => absurd h (by omega)
end Go.Proofs.YtojbfaigebpnpaaDoor.ecoThreadsq
