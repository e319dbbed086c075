/-
  The law EcoThreads at some of its cases: the run over the program ends in true. Conditions: none; these are closed facts.
-/
import Derived.Test.YtojbfaigebpnpaaDoorEcoThreadsA
namespace Go.Proofs.YtojbfaigebpnpaaDoor.ecoThreadsq
open Go.Rn Go.RowKit YtojbfaigebpnpaaDoor.txt
set_option maxHeartbeats 400000000
theorem x4300 (c : Nat) : run4 0 c 4 3 0 0 = .yes := by kernel_rfl
theorem y4300 (L c : Nat) : run4 (L + 1) c 4 3 0 0 = .yes := by kernel_rfl
theorem g4300 : ∀ (L c : Nat), run4 L c 4 3 0 0 = .yes
  | 0, c => x4300 c
  | L + 1, c => y4300 L c
theorem x4301 (c : Nat) : run4 0 c 4 3 0 1 = .yes := by kernel_rfl
theorem y4301 (L c : Nat) : run4 (L + 1) c 4 3 0 1 = .yes := by kernel_rfl
theorem g4301 : ∀ (L c : Nat), run4 L c 4 3 0 1 = .yes
  | 0, c => x4301 c
  | L + 1, c => y4301 L c
theorem x4302 (c : Nat) : run4 0 c 4 3 0 2 = .yes := by kernel_rfl
theorem y4302 (L c : Nat) : run4 (L + 1) c 4 3 0 2 = .yes := by kernel_rfl
theorem g4302 : ∀ (L c : Nat), run4 L c 4 3 0 2 = .yes
  | 0, c => x4302 c
  | L + 1, c => y4302 L c
theorem x4303 (c : Nat) : run4 0 c 4 3 0 3 = .yes := by kernel_rfl
theorem y4303 (L c : Nat) : run4 (L + 1) c 4 3 0 3 = .yes := by kernel_rfl
theorem g4303 : ∀ (L c : Nat), run4 L c 4 3 0 3 = .yes
  | 0, c => x4303 c
  | L + 1, c => y4303 L c
theorem x4304 (c : Nat) : run4 0 c 4 3 0 4 = .yes := by kernel_rfl
theorem y4304 (L c : Nat) : run4 (L + 1) c 4 3 0 4 = .yes := by kernel_rfl
theorem g4304 : ∀ (L c : Nat), run4 L c 4 3 0 4 = .yes
  | 0, c => x4304 c
  | L + 1, c => y4304 L c
theorem x4305 (c : Nat) : run4 0 c 4 3 0 5 = .yes := by kernel_rfl
theorem y4305 (L c : Nat) : run4 (L + 1) c 4 3 0 5 = .yes := by kernel_rfl
theorem g4305 : ∀ (L c : Nat), run4 L c 4 3 0 5 = .yes
  | 0, c => x4305 c
  | L + 1, c => y4305 L c
theorem h430 (L c : Nat) : ∀ x, x < 6 → run4 L c 4 3 0 x = .yes
  | 0, _ => g4300 L c
  | 1, _ => g4301 L c
  | 2, _ => g4302 L c
  | 3, _ => g4303 L c
  | 4, _ => g4304 L c
  | 5, _ => g4305 L c
  | x + 6, h => absurd h (by omega)
theorem x4310 (c : Nat) : run4 0 c 4 3 1 0 = .yes := by kernel_rfl
theorem y4310 (L c : Nat) : run4 (L + 1) c 4 3 1 0 = .yes := by kernel_rfl
theorem g4310 : ∀ (L c : Nat), run4 L c 4 3 1 0 = .yes
  | 0, c => x4310 c
  | L + 1, c => y4310 L c
theorem x4311 (c : Nat) : run4 0 c 4 3 1 1 = .yes := by kernel_rfl
theorem y4311 (L c : Nat) : run4 (L + 1) c 4 3 1 1 = .yes := by kernel_rfl
theorem g4311 : ∀ (L c : Nat), run4 L c 4 3 1 1 = .yes
  | 0, c => x4311 c
  | L + 1, c => y4311 L c
theorem x4312 (c : Nat) : run4 0 c 4 3 1 2 = .yes := by kernel_rfl
theorem y4312 (L c : Nat) : run4 (L + 1) c 4 3 1 2 = .yes := by kernel_rfl
theorem g4312 : ∀ (L c : Nat), run4 L c 4 3 1 2 = .yes
  | 0, c => x4312 c
  | L + 1, c => y4312 L c
theorem x4313 (c : Nat) : run4 0 c 4 3 1 3 = .yes := by kernel_rfl
theorem y4313 (L c : Nat) : run4 (L + 1) c 4 3 1 3 = .yes := by kernel_rfl
theorem g4313 : ∀ (L c : Nat), run4 L c 4 3 1 3 = .yes
  | 0, c => x4313 c
  | L + 1, c => y4313 L c
theorem x4314 (c : Nat) : run4 0 c 4 3 1 4 = .yes := by kernel_rfl
theorem y4314 (L c : Nat) : run4 (L + 1) c 4 3 1 4 = .yes := by kernel_rfl
theorem g4314 : ∀ (L c : Nat), run4 L c 4 3 1 4 = .yes
  | 0, c => x4314 c
  | L + 1, c => y4314 L c
theorem x4315 (c : Nat) : run4 0 c 4 3 1 5 = .yes := by kernel_rfl
theorem y4315 (L c : Nat) : run4 (L + 1) c 4 3 1 5 = .yes := by kernel_rfl
theorem g4315 : ∀ (L c : Nat), run4 L c 4 3 1 5 = .yes
  | 0, c => x4315 c
  | L + 1, c => y4315 L c
theorem h431 (L c : Nat) : ∀ x, x < 6 → run4 L c 4 3 1 x = .yes
  | 0, _ => g4310 L c
  | 1, _ => g4311 L c
  | 2, _ => g4312 L c
  | 3, _ => g4313 L c
  | 4, _ => g4314 L c
  | 5, _ => g4315 L c
  | x + 6, h => absurd h (by omega)
theorem x4320 (c : Nat) : run4 0 c 4 3 2 0 = .yes := by kernel_rfl
theorem y4320 (L c : Nat) : run4 (L + 1) c 4 3 2 0 = .yes := by kernel_rfl
theorem g4320 : ∀ (L c : Nat), run4 L c 4 3 2 0 = .yes
  | 0, c => x4320 c
  | L + 1, c => y4320 L c
theorem x4321 (c : Nat) : run4 0 c 4 3 2 1 = .yes := by kernel_rfl
theorem y4321 (L c : Nat) : run4 (L + 1) c 4 3 2 1 = .yes := by kernel_rfl
theorem g4321 : ∀ (L c : Nat), run4 L c 4 3 2 1 = .yes
  | 0, c => x4321 c
  | L + 1, c => y4321 L c
theorem x4322 (c : Nat) : run4 0 c 4 3 2 2 = .yes := by kernel_rfl
theorem y4322 (L c : Nat) : run4 (L + 1) c 4 3 2 2 = .yes := by kernel_rfl
theorem g4322 : ∀ (L c : Nat), run4 L c 4 3 2 2 = .yes
  | 0, c => x4322 c
  | L + 1, c => y4322 L c
theorem x4323 (c : Nat) : run4 0 c 4 3 2 3 = .yes := by kernel_rfl
theorem y4323 (L c : Nat) : run4 (L + 1) c 4 3 2 3 = .yes := by kernel_rfl
theorem g4323 : ∀ (L c : Nat), run4 L c 4 3 2 3 = .yes
  | 0, c => x4323 c
  | L + 1, c => y4323 L c
theorem x4324 (c : Nat) : run4 0 c 4 3 2 4 = .yes := by kernel_rfl
theorem y4324 (L c : Nat) : run4 (L + 1) c 4 3 2 4 = .yes := by kernel_rfl
theorem g4324 : ∀ (L c : Nat), run4 L c 4 3 2 4 = .yes
  | 0, c => x4324 c
  | L + 1, c => y4324 L c
theorem x4325 (c : Nat) : run4 0 c 4 3 2 5 = .yes := by kernel_rfl
theorem y4325 (L c : Nat) : run4 (L + 1) c 4 3 2 5 = .yes := by kernel_rfl
theorem g4325 : ∀ (L c : Nat), run4 L c 4 3 2 5 = .yes
  | 0, c => x4325 c
  | L + 1, c => y4325 L c
theorem h432 (L c : Nat) : ∀ x, x < 6 → run4 L c 4 3 2 x = .yes
  | 0, _ => g4320 L c
  | 1, _ => g4321 L c
  | 2, _ => g4322 L c
  | 3, _ => g4323 L c
  | 4, _ => g4324 L c
  | 5, _ => g4325 L c
  | x + 6, h => absurd h (by omega)
theorem x4330 (c : Nat) : run4 0 c 4 3 3 0 = .yes := by kernel_rfl
theorem y4330 (L c : Nat) : run4 (L + 1) c 4 3 3 0 = .yes := by kernel_rfl
theorem g4330 : ∀ (L c : Nat), run4 L c 4 3 3 0 = .yes
  | 0, c => x4330 c
  | L + 1, c => y4330 L c
theorem x4331 (c : Nat) : run4 0 c 4 3 3 1 = .yes := by kernel_rfl
theorem y4331 (L c : Nat) : run4 (L + 1) c 4 3 3 1 = .yes := by kernel_rfl
theorem g4331 : ∀ (L c : Nat), run4 L c 4 3 3 1 = .yes
  | 0, c => x4331 c
  | L + 1, c => y4331 L c
theorem x4332 (c : Nat) : run4 0 c 4 3 3 2 = .yes := by kernel_rfl
theorem y4332 (L c : Nat) : run4 (L + 1) c 4 3 3 2 = .yes := by kernel_rfl
theorem g4332 : ∀ (L c : Nat), run4 L c 4 3 3 2 = .yes
  | 0, c => x4332 c
  | L + 1, c => y4332 L c
theorem x4333 (c : Nat) : run4 0 c 4 3 3 3 = .yes := by kernel_rfl
theorem y4333 (L c : Nat) : run4 (L + 1) c 4 3 3 3 = .yes := by kernel_rfl
theorem g4333 : ∀ (L c : Nat), run4 L c 4 3 3 3 = .yes
  | 0, c => x4333 c
  | L + 1, c => y4333 L c
theorem x4334 (c : Nat) : run4 0 c 4 3 3 4 = .yes := by kernel_rfl
theorem y4334 (L c : Nat) : run4 (L + 1) c 4 3 3 4 = .yes := by kernel_rfl
theorem g4334 : ∀ (L c : Nat), run4 L c 4 3 3 4 = .yes
  | 0, c => x4334 c
  | L + 1, c => y4334 L c
theorem x4335 (c : Nat) : run4 0 c 4 3 3 5 = .yes := by kernel_rfl
theorem y4335 (L c : Nat) : run4 (L + 1) c 4 3 3 5 = .yes := by kernel_rfl
theorem g4335 : ∀ (L c : Nat), run4 L c 4 3 3 5 = .yes
  | 0, c => x4335 c
  | L + 1, c => y4335 L c
theorem h433 (L c : Nat) : ∀ x, x < 6 → run4 L c 4 3 3 x = .yes
  | 0, _ => g4330 L c
  | 1, _ => g4331 L c
  | 2, _ => g4332 L c
  | 3, _ => g4333 L c
  | 4, _ => g4334 L c
  | 5, _ => g4335 L c
  | x + 6, h => absurd h (by omega)
theorem x4340 (c : Nat) : run4 0 c 4 3 4 0 = .yes := by kernel_rfl
theorem y4340 (L c : Nat) : run4 (L + 1) c 4 3 4 0 = .yes := by kernel_rfl
theorem g4340 : ∀ (L c : Nat), run4 L c 4 3 4 0 = .yes
  | 0, c => x4340 c
  | L + 1, c => y4340 L c
theorem x4341 (c : Nat) : run4 0 c 4 3 4 1 = .yes := by kernel_rfl
theorem y4341 (L c : Nat) : run4 (L + 1) c 4 3 4 1 = .yes := by kernel_rfl
theorem g4341 : ∀ (L c : Nat), run4 L c 4 3 4 1 = .yes
  | 0, c => x4341 c
  | L + 1, c => y4341 L c
theorem x4342 (c : Nat) : run4 0 c 4 3 4 2 = .yes := by kernel_rfl
theorem y4342 (L c : Nat) : run4 (L + 1) c 4 3 4 2 = .yes := by kernel_rfl
theorem g4342 : ∀ (L c : Nat), run4 L c 4 3 4 2 = .yes
  | 0, c => x4342 c
  | L + 1, c => y4342 L c
theorem x4343 (c : Nat) : run4 0 c 4 3 4 3 = .yes := by kernel_rfl
theorem y4343 (L c : Nat) : run4 (L + 1) c 4 3 4 3 = .yes := by kernel_rfl
theorem g4343 : ∀ (L c : Nat), run4 L c 4 3 4 3 = .yes
  | 0, c => x4343 c
  | L + 1, c => y4343 L c
theorem x4344 (c : Nat) : run4 0 c 4 3 4 4 = .yes := by kernel_rfl
theorem y4344 (L c : Nat) : run4 (L + 1) c 4 3 4 4 = .yes := by kernel_rfl
theorem g4344 : ∀ (L c : Nat), run4 L c 4 3 4 4 = .yes
  | 0, c => x4344 c
  | L + 1, c => y4344 L c
theorem x4345 (c : Nat) : run4 0 c 4 3 4 5 = .yes := by kernel_rfl
theorem y4345 (L c : Nat) : run4 (L + 1) c 4 3 4 5 = .yes := by kernel_rfl
theorem g4345 : ∀ (L c : Nat), run4 L c 4 3 4 5 = .yes
  | 0, c => x4345 c
  | L + 1, c => y4345 L c
theorem h434 (L c : Nat) : ∀ x, x < 6 → run4 L c 4 3 4 x = .yes
  | 0, _ => g4340 L c
  | 1, _ => g4341 L c
  | 2, _ => g4342 L c
  | 3, _ => g4343 L c
  | 4, _ => g4344 L c
  | 5, _ => g4345 L c
  | x + 6, h => absurd h (by omega)
theorem x4350 (c : Nat) : run4 0 c 4 3 5 0 = .yes := by kernel_rfl
theorem y4350 (L c : Nat) : run4 (L + 1) c 4 3 5 0 = .yes := by kernel_rfl
theorem g4350 : ∀ (L c : Nat), run4 L c 4 3 5 0 = .yes
  | 0, c => x4350 c
  | L + 1, c => y4350 L c
theorem x4351 (c : Nat) : run4 0 c 4 3 5 1 = .yes := by kernel_rfl
theorem y4351 (L c : Nat) : run4 (L + 1) c 4 3 5 1 = .yes := by kernel_rfl
theorem g4351 : ∀ (L c : Nat), run4 L c 4 3 5 1 = .yes
  | 0, c => x4351 c
  | L + 1, c => y4351 L c
theorem x4352 (c : Nat) : run4 0 c 4 3 5 2 = .yes := by kernel_rfl
theorem y4352 (L c : Nat) : run4 (L + 1) c 4 3 5 2 = .yes := by kernel_rfl
theorem g4352 : ∀ (L c : Nat), run4 L c 4 3 5 2 = .yes
  | 0, c => x4352 c
  | L + 1, c => y4352 L c
theorem x4353 (c : Nat) : run4 0 c 4 3 5 3 = .yes := by kernel_rfl
theorem y4353 (L c : Nat) : run4 (L + 1) c 4 3 5 3 = .yes := by kernel_rfl
theorem g4353 : ∀ (L c : Nat), run4 L c 4 3 5 3 = .yes
  | 0, c => x4353 c
  | L + 1, c => y4353 L c
theorem x4354 (c : Nat) : run4 0 c 4 3 5 4 = .yes := by kernel_rfl
theorem y4354 (L c : Nat) : run4 (L + 1) c 4 3 5 4 = .yes := by kernel_rfl
theorem g4354 : ∀ (L c : Nat), run4 L c 4 3 5 4 = .yes
  | 0, c => x4354 c
  | L + 1, c => y4354 L c
theorem x4355 (c : Nat) : run4 0 c 4 3 5 5 = .yes := by kernel_rfl
theorem y4355 (L c : Nat) : run4 (L + 1) c 4 3 5 5 = .yes := by kernel_rfl
theorem g4355 : ∀ (L c : Nat), run4 L c 4 3 5 5 = .yes
  | 0, c => x4355 c
  | L + 1, c => y4355 L c
theorem h435 (L c : Nat) : ∀ x, x < 6 → run4 L c 4 3 5 x = .yes
  | 0, _ => g4350 L c
  | 1, _ => g4351 L c
  | 2, _ => g4352 L c
  | 3, _ => g4353 L c
  | 4, _ => g4354 L c
  | 5, _ => g4355 L c
  | x + 6, h => absurd h (by omega)
theorem hh43 (L c : Nat) : ∀ x, x < 6 → ∀ y, y < 6 → run4 L c 4 3 x y = .yes
  | 0, _ => h430 L c
  | 1, _ => h431 L c
  | 2, _ => h432 L c
  | 3, _ => h433 L c
  | 4, _ => h434 L c
  | 5, _ => h435 L c
  | x + 6, h => absurd h (by omega)
theorem x1200 (c : Nat) : run4 0 c 1 2 0 0 = .yes := by kernel_rfl
theorem y1200 (L c : Nat) : run4 (L + 1) c 1 2 0 0 = .yes := by kernel_rfl
theorem g1200 : ∀ (L c : Nat), run4 L c 1 2 0 0 = .yes
  | 0, c => x1200 c
  | L + 1, c => y1200 L c
theorem x1201 (c : Nat) : run4 0 c 1 2 0 1 = .yes := by kernel_rfl
theorem y1201 (L c : Nat) : run4 (L + 1) c 1 2 0 1 = .yes := by kernel_rfl
theorem g1201 : ∀ (L c : Nat), run4 L c 1 2 0 1 = .yes
  | 0, c => x1201 c
  | L + 1, c => y1201 L c
theorem x1202 (c : Nat) : run4 0 c 1 2 0 2 = .yes := by kernel_rfl
theorem y1202 (L c : Nat) : run4 (L + 1) c 1 2 0 2 = .yes := by kernel_rfl
theorem g1202 : ∀ (L c : Nat), run4 L c 1 2 0 2 = .yes
  | 0, c => x1202 c
  | L + 1, c => y1202 L c
theorem x1203 (c : Nat) : run4 0 c 1 2 0 3 = .yes := by kernel_rfl
theorem y1203 (L c : Nat) : run4 (L + 1) c 1 2 0 3 = .yes := by kernel_rfl
theorem g1203 : ∀ (L c : Nat), run4 L c 1 2 0 3 = .yes
  | 0, c => x1203 c
  | L + 1, c => y1203 L c
theorem x1204 (c : Nat) : run4 0 c 1 2 0 4 = .yes := by kernel_rfl
theorem y1204 (L c : Nat) : run4 (L + 1) c 1 2 0 4 = .yes := by kernel_rfl
theorem g1204 : ∀ (L c : Nat), run4 L c 1 2 0 4 = .yes
  | 0, c => x1204 c
  | L + 1, c => y1204 L c
theorem x1205 (c : Nat) : run4 0 c 1 2 0 5 = .yes := by kernel_rfl
theorem y1205 (L c : Nat) : run4 (L + 1) c 1 2 0 5 = .yes := by kernel_rfl
theorem g1205 : ∀ (L c : Nat), run4 L c 1 2 0 5 = .yes
  | 0, c => x1205 c
  | L + 1, c => y1205 L c
theorem h120 (L c : Nat) : ∀ x, x < 6 → run4 L c 1 2 0 x = .yes
  | 0, _ => g1200 L c
  | 1, _ => g1201 L c
  | 2, _ => g1202 L c
  | 3, _ => g1203 L c
  | 4, _ => g1204 L c
  | 5, _ => g1205 L c
  | x + 6, h => absurd h (by omega)
theorem x1210 (c : Nat) : run4 0 c 1 2 1 0 = .yes := by kernel_rfl
theorem y1210 (L c : Nat) : run4 (L + 1) c 1 2 1 0 = .yes := by kernel_rfl
theorem g1210 : ∀ (L c : Nat), run4 L c 1 2 1 0 = .yes
  | 0, c => x1210 c
  | L + 1, c => y1210 L c
theorem x1211 (c : Nat) : run4 0 c 1 2 1 1 = .yes := by kernel_rfl
theorem y1211 (L c : Nat) : run4 (L + 1) c 1 2 1 1 = .yes := by kernel_rfl
theorem g1211 : ∀ (L c : Nat), run4 L c 1 2 1 1 = .yes
  | 0, c => x1211 c
  | L + 1, c => y1211 L c
theorem x1212 (c : Nat) : run4 0 c 1 2 1 2 = .yes := by kernel_rfl
theorem y1212 (L c : Nat) : run4 (L + 1) c 1 2 1 2 = .yes := by kernel_rfl
theorem g1212 : ∀ (L c : Nat), run4 L c 1 2 1 2 = .yes
  | 0, c => x1212 c
  | L + 1, c => y1212 L c
theorem x1213 (c : Nat) : run4 0 c 1 2 1 3 = .yes := by kernel_rfl
theorem y1213 (L c : Nat) : run4 (L + 1) c 1 2 1 3 = .yes := by kernel_rfl
theorem g1213 : ∀ (L c : Nat), run4 L c 1 2 1 3 = .yes
  | 0, c => x1213 c
  | L + 1, c => y1213 L c
theorem x1214 (c : Nat) : run4 0 c 1 2 1 4 = .yes := by kernel_rfl
theorem y1214 (L c : Nat) : run4 (L + 1) c 1 2 1 4 = .yes := by kernel_rfl
theorem g1214 : ∀ (L c : Nat), run4 L c 1 2 1 4 = .yes
  | 0, c => x1214 c
  | L + 1, c => y1214 L c
theorem x1215 (c : Nat) : run4 0 c 1 2 1 5 = .yes := by kernel_rfl
theorem y1215 (L c : Nat) : run4 (L + 1) c 1 2 1 5 = .yes := by kernel_rfl
theorem g1215 : ∀ (L c : Nat), run4 L c 1 2 1 5 = .yes
  | 0, c => x1215 c
  | L + 1, c => y1215 L c
theorem h121 (L c : Nat) : ∀ x, x < 6 → run4 L c 1 2 1 x = .yes
  | 0, _ => g1210 L c
  | 1, _ => g1211 L c
  | 2, _ => g1212 L c
  | 3, _ => g1213 L c
  | 4, _ => g1214 L c
  | 5, _ => g1215 L c
  | x + 6, h => absurd h (by omega)
theorem x1220 (c : Nat) : run4 0 c 1 2 2 0 = .yes := by kernel_rfl
theorem y1220 (L c : Nat) : run4 (L + 1) c 1 2 2 0 = .yes := by kernel_rfl
theorem g1220 : ∀ (L c : Nat), run4 L c 1 2 2 0 = .yes
  | 0, c => x1220 c
  | L + 1, c => y1220 L c
theorem x1221 (c : Nat) : run4 0 c 1 2 2 1 = .yes := by kernel_rfl
theorem y1221 (L c : Nat) : run4 (L + 1) c 1 2 2 1 = .yes := by kernel_rfl
theorem g1221 : ∀ (L c : Nat), run4 L c 1 2 2 1 = .yes
  | 0, c => x1221 c
  | L + 1, c => y1221 L c
theorem x1222 (c : Nat) : run4 0 c 1 2 2 2 = .yes := by kernel_rfl
theorem y1222 (L c : Nat) : run4 (L + 1) c 1 2 2 2 = .yes := by kernel_rfl
theorem g1222 : ∀ (L c : Nat), run4 L c 1 2 2 2 = .yes
  | 0, c => x1222 c
  | L + 1, c => y1222 L c
theorem x1223 (c : Nat) : run4 0 c 1 2 2 3 = .yes := by kernel_rfl
theorem y1223 (L c : Nat) : run4 (L + 1) c 1 2 2 3 = .yes := by kernel_rfl
theorem g1223 : ∀ (L c : Nat), run4 L c 1 2 2 3 = .yes
  | 0, c => x1223 c
  | L + 1, c => y1223 L c
theorem x1224 (c : Nat) : run4 0 c 1 2 2 4 = .yes := by kernel_rfl
theorem y1224 (L c : Nat) : run4 (L + 1) c 1 2 2 4 = .yes := by kernel_rfl
theorem g1224 : ∀ (L c : Nat), run4 L c 1 2 2 4 = .yes
  | 0, c => x1224 c
  | L + 1, c => y1224 L c
theorem x1225 (c : Nat) : run4 0 c 1 2 2 5 = .yes := by kernel_rfl
theorem y1225 (L c : Nat) : run4 (L + 1) c 1 2 2 5 = .yes := by kernel_rfl
theorem g1225 : ∀ (L c : Nat), run4 L c 1 2 2 5 = .yes
  | 0, c => x1225 c
  | L + 1, c => y1225 L c
theorem h122 (L c : Nat) : ∀ x, x < 6 → run4 L c 1 2 2 x = .yes
  | 0, _ => g1220 L c
  | 1, _ => g1221 L c
  | 2, _ => g1222 L c
  | 3, _ => g1223 L c
  | 4, _ => g1224 L c
  | 5, _ => g1225 L c
  | x + 6, h => absurd h (by omega)
theorem x1230 (c : Nat) : run4 0 c 1 2 3 0 = .yes := by kernel_rfl
theorem y1230 (L c : Nat) : run4 (L + 1) c 1 2 3 0 = .yes := by kernel_rfl
theorem g1230 : ∀ (L c : Nat), run4 L c 1 2 3 0 = .yes
  | 0, c => x1230 c
  | L + 1, c => y1230 L c
theorem x1231 (c : Nat) : run4 0 c 1 2 3 1 = .yes := by kernel_rfl
theorem y1231 (L c : Nat) : run4 (L + 1) c 1 2 3 1 = .yes := by kernel_rfl
theorem g1231 : ∀ (L c : Nat), run4 L c 1 2 3 1 = .yes
  | 0, c => x1231 c
  | L + 1, c => y1231 L c
theorem x1232 (c : Nat) : run4 0 c 1 2 3 2 = .yes := by kernel_rfl
theorem y1232 (L c : Nat) : run4 (L + 1) c 1 2 3 2 = .yes := by kernel_rfl
theorem g1232 : ∀ (L c : Nat), run4 L c 1 2 3 2 = .yes
  | 0, c => x1232 c
  | L + 1, c => y1232 L c
theorem x1233 (c : Nat) : run4 0 c 1 2 3 3 = .yes := by kernel_rfl
theorem y1233 (L c : Nat) : run4 (L + 1) c 1 2 3 3 = .yes := by kernel_rfl
theorem g1233 : ∀ (L c : Nat), run4 L c 1 2 3 3 = .yes
  | 0, c => x1233 c
  | L + 1, c => y1233 L c
theorem x1234 (c : Nat) : run4 0 c 1 2 3 4 = .yes := by kernel_rfl
theorem y1234 (L c : Nat) : run4 (L + 1) c 1 2 3 4 = .yes := by kernel_rfl
theorem g1234 : ∀ (L c : Nat), run4 L c 1 2 3 4 = .yes
  | 0, c => x1234 c
  | L + 1, c => y1234 L c
theorem x1235 (c : Nat) : run4 0 c 1 2 3 5 = .yes := by kernel_rfl
theorem y1235 (L c : Nat) : run4 (L + 1) c 1 2 3 5 = .yes := by kernel_rfl
theorem g1235 : ∀ (L c : Nat), run4 L c 1 2 3 5 = .yes
  | 0, c => x1235 c
  | L + 1, c => y1235 L c
theorem h123 (L c : Nat) : ∀ x, x < 6 → run4 L c 1 2 3 x = .yes
  | 0, _ => g1230 L c
  | 1, _ => g1231 L c
  | 2, _ => g1232 L c
  | 3, _ => g1233 L c
  | 4, _ => g1234 L c
  | 5, _ => g1235 L c
  | x + 6, h => absurd h (by omega)
theorem x1240 (c : Nat) : run4 0 c 1 2 4 0 = .yes := by kernel_rfl
theorem y1240 (L c : Nat) : run4 (L + 1) c 1 2 4 0 = .yes := by kernel_rfl
theorem g1240 : ∀ (L c : Nat), run4 L c 1 2 4 0 = .yes
  | 0, c => x1240 c
  | L + 1, c => y1240 L c
theorem x1241 (c : Nat) : run4 0 c 1 2 4 1 = .yes := by kernel_rfl
theorem y1241 (L c : Nat) : run4 (L + 1) c 1 2 4 1 = .yes := by kernel_rfl
theorem g1241 : ∀ (L c : Nat), run4 L c 1 2 4 1 = .yes
  | 0, c => x1241 c
  | L + 1, c => y1241 L c
theorem x1242 (c : Nat) : run4 0 c 1 2 4 2 = .yes := by kernel_rfl
theorem y1242 (L c : Nat) : run4 (L + 1) c 1 2 4 2 = .yes := by kernel_rfl
theorem g1242 : ∀ (L c : Nat), run4 L c 1 2 4 2 = .yes
  | 0, c => x1242 c
  | L + 1, c => y1242 L c
theorem x1243 (c : Nat) : run4 0 c 1 2 4 3 = .yes := by kernel_rfl
theorem y1243 (L c : Nat) : run4 (L + 1) c 1 2 4 3 = .yes := by kernel_rfl
theorem g1243 : ∀ (L c : Nat), run4 L c 1 2 4 3 = .yes
  | 0, c => x1243 c
  | L + 1, c => y1243 L c
theorem x1244 (c : Nat) : run4 0 c 1 2 4 4 = .yes := by kernel_rfl
theorem y1244 (L c : Nat) : run4 (L + 1) c 1 2 4 4 = .yes := by kernel_rfl
theorem g1244 : ∀ (L c : Nat), run4 L c 1 2 4 4 = .yes
  | 0, c => x1244 c
  | L + 1, c => y1244 L c
theorem x1245 (c : Nat) : run4 0 c 1 2 4 5 = .yes := by kernel_rfl
theorem y1245 (L c : Nat) : run4 (L + 1) c 1 2 4 5 = .yes := by kernel_rfl
theorem g1245 : ∀ (L c : Nat), run4 L c 1 2 4 5 = .yes
  | 0, c => x1245 c
  | L + 1, c => y1245 L c
theorem h124 (L c : Nat) : ∀ x, x < 6 → run4 L c 1 2 4 x = .yes
  | 0, _ => g1240 L c
  | 1, _ => g1241 L c
  | 2, _ => g1242 L c
  | 3, _ => g1243 L c
  | 4, _ => g1244 L c
  | 5, _ => g1245 L c
  | x + 6, h => absurd h (by omega)
theorem x1250 (c : Nat) : run4 0 c 1 2 5 0 = .yes := by kernel_rfl
theorem y1250 (L c : Nat) : run4 (L + 1) c 1 2 5 0 = .yes := by kernel_rfl
theorem g1250 : ∀ (L c : Nat), run4 L c 1 2 5 0 = .yes
  | 0, c => x1250 c
  | L + 1, c => y1250 L c
theorem x1251 (c : Nat) : run4 0 c 1 2 5 1 = .yes := by kernel_rfl
theorem y1251 (L c : Nat) : run4 (L + 1) c 1 2 5 1 = .yes := by kernel_rfl
theorem g1251 : ∀ (L c : Nat), run4 L c 1 2 5 1 = .yes
  | 0, c => x1251 c
  | L + 1, c => y1251 L c
theorem x1252 (c : Nat) : run4 0 c 1 2 5 2 = .yes := by kernel_rfl
theorem y1252 (L c : Nat) : run4 (L + 1) c 1 2 5 2 = .yes := by kernel_rfl
theorem g1252 : ∀ (L c : Nat), run4 L c 1 2 5 2 = .yes
  | 0, c => x1252 c
  | L + 1, c => y1252 L c
theorem x1253 (c : Nat) : run4 0 c 1 2 5 3 = .yes := by kernel_rfl
theorem y1253 (L c : Nat) : run4 (L + 1) c 1 2 5 3 = .yes := by kernel_rfl
theorem g1253 : ∀ (L c : Nat), run4 L c 1 2 5 3 = .yes
  | 0, c => x1253 c
  | L + 1, c => y1253 L c
theorem x1254 (c : Nat) : run4 0 c 1 2 5 4 = .yes := by kernel_rfl
theorem y1254 (L c : Nat) : run4 (L + 1) c 1 2 5 4 = .yes := by kernel_rfl
theorem g1254 : ∀ (L c : Nat), run4 L c 1 2 5 4 = .yes
  | 0, c => x1254 c
  | L + 1, c => y1254 L c
theorem x1255 (c : Nat) : run4 0 c 1 2 5 5 = .yes := by kernel_rfl
theorem y1255 (L c : Nat) : run4 (L + 1) c 1 2 5 5 = .yes := by kernel_rfl
theorem g1255 : ∀ (L c : Nat), run4 L c 1 2 5 5 = .yes
  | 0, c => x1255 c
  | L + 1, c => y1255 L c
theorem h125 (L c : Nat) : ∀ x, x < 6 → run4 L c 1 2 5 x = .yes
  | 0, _ => g1250 L c
  | 1, _ => g1251 L c
  | 2, _ => g1252 L c
  | 3, _ => g1253 L c
  | 4, _ => g1254 L c
  | 5, _ => g1255 L c
  | x + 6, h => absurd h (by omega)
theorem hh12 (L c : Nat) : ∀ x, x < 6 → ∀ y, y < 6 → run4 L c 1 2 x y = .yes
  | 0, _ => h120 L c
  | 1, _ => h121 L c
  | 2, _ => h122 L c
  | 3, _ => h123 L c
  | 4, _ => h124 L c
  | 5, _ => h125 L c
  | x + 6, h => absurd h (by omega)
end Go.Proofs.YtojbfaigebpnpaaDoor.ecoThreadsq
