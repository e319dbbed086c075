/-
  The law EcoThreads at some of its cases: the run over the program ends in true. Conditions: none; these are closed facts.
-/
import Derived.Test.YtojbfaigebpnpaaDoorEcoThreadsA
namespace Go.Proofs.YtojbfaigebpnpaaDoor.ecoThreadsq
open Go.Rn Go.RowKit YtojbfaigebpnpaaDoor.txt
set_option maxHeartbeats 400000000
theorem x2300 (c : Nat) : run4 0 c 2 3 0 0 = .yes := by kernel_rfl
theorem y2300 (L c : Nat) : run4 (L + 1) c 2 3 0 0 = .yes := by kernel_rfl
theorem g2300 : ∀ (L c : Nat), run4 L c 2 3 0 0 = .yes
  | 0, c => x2300 c
  | L + 1, c => y2300 L c
theorem x2301 (c : Nat) : run4 0 c 2 3 0 1 = .yes := by kernel_rfl
theorem y2301 (L c : Nat) : run4 (L + 1) c 2 3 0 1 = .yes := by kernel_rfl
theorem g2301 : ∀ (L c : Nat), run4 L c 2 3 0 1 = .yes
  | 0, c => x2301 c
  | L + 1, c => y2301 L c
theorem x2302 (c : Nat) : run4 0 c 2 3 0 2 = .yes := by kernel_rfl
theorem y2302 (L c : Nat) : run4 (L + 1) c 2 3 0 2 = .yes := by kernel_rfl
theorem g2302 : ∀ (L c : Nat), run4 L c 2 3 0 2 = .yes
  | 0, c => x2302 c
  | L + 1, c => y2302 L c
theorem x2303 (c : Nat) : run4 0 c 2 3 0 3 = .yes := by kernel_rfl
theorem y2303 (L c : Nat) : run4 (L + 1) c 2 3 0 3 = .yes := by kernel_rfl
theorem g2303 : ∀ (L c : Nat), run4 L c 2 3 0 3 = .yes
  | 0, c => x2303 c
  | L + 1, c => y2303 L c
theorem x2304 (c : Nat) : run4 0 c 2 3 0 4 = .yes := by kernel_rfl
theorem y2304 (L c : Nat) : run4 (L + 1) c 2 3 0 4 = .yes := by kernel_rfl
theorem g2304 : ∀ (L c : Nat), run4 L c 2 3 0 4 = .yes
  | 0, c => x2304 c
  | L + 1, c => y2304 L c
theorem x2305 (c : Nat) : run4 0 c 2 3 0 5 = .yes := by kernel_rfl
theorem y2305 (L c : Nat) : run4 (L + 1) c 2 3 0 5 = .yes := by kernel_rfl
theorem g2305 : ∀ (L c : Nat), run4 L c 2 3 0 5 = .yes
  | 0, c => x2305 c
  | L + 1, c => y2305 L c
theorem h230 (L c : Nat) : ∀ x, x < 6 → run4 L c 2 3 0 x = .yes
  | 0, _ => g2300 L c
  | 1, _ => g2301 L c
  | 2, _ => g2302 L c
  | 3, _ => g2303 L c
  | 4, _ => g2304 L c
  | 5, _ => g2305 L c
  | x + 6, h => absurd h (by omega)
theorem x2310 (c : Nat) : run4 0 c 2 3 1 0 = .yes := by kernel_rfl
theorem y2310 (L c : Nat) : run4 (L + 1) c 2 3 1 0 = .yes := by kernel_rfl
theorem g2310 : ∀ (L c : Nat), run4 L c 2 3 1 0 = .yes
  | 0, c => x2310 c
  | L + 1, c => y2310 L c
theorem x2311 (c : Nat) : run4 0 c 2 3 1 1 = .yes := by kernel_rfl
theorem y2311 (L c : Nat) : run4 (L + 1) c 2 3 1 1 = .yes := by kernel_rfl
theorem g2311 : ∀ (L c : Nat), run4 L c 2 3 1 1 = .yes
  | 0, c => x2311 c
  | L + 1, c => y2311 L c
theorem x2312 (c : Nat) : run4 0 c 2 3 1 2 = .yes := by kernel_rfl
theorem y2312 (L c : Nat) : run4 (L + 1) c 2 3 1 2 = .yes := by kernel_rfl
theorem g2312 : ∀ (L c : Nat), run4 L c 2 3 1 2 = .yes
  | 0, c => x2312 c
  | L + 1, c => y2312 L c
theorem x2313 (c : Nat) : run4 0 c 2 3 1 3 = .yes := by kernel_rfl
theorem y2313 (L c : Nat) : run4 (L + 1) c 2 3 1 3 = .yes := by kernel_rfl
theorem g2313 : ∀ (L c : Nat), run4 L c 2 3 1 3 = .yes
  | 0, c => x2313 c
  | L + 1, c => y2313 L c
theorem x2314 (c : Nat) : run4 0 c 2 3 1 4 = .yes := by kernel_rfl
theorem y2314 (L c : Nat) : run4 (L + 1) c 2 3 1 4 = .yes := by kernel_rfl
theorem g2314 : ∀ (L c : Nat), run4 L c 2 3 1 4 = .yes
  | 0, c => x2314 c
  | L + 1, c => y2314 L c
theorem x2315 (c : Nat) : run4 0 c 2 3 1 5 = .yes := by kernel_rfl
theorem y2315 (L c : Nat) : run4 (L + 1) c 2 3 1 5 = .yes := by kernel_rfl
theorem g2315 : ∀ (L c : Nat), run4 L c 2 3 1 5 = .yes
  | 0, c => x2315 c
  | L + 1, c => y2315 L c
theorem h231 (L c : Nat) : ∀ x, x < 6 → run4 L c 2 3 1 x = .yes
  | 0, _ => g2310 L c
  | 1, _ => g2311 L c
  | 2, _ => g2312 L c
  | 3, _ => g2313 L c
  | 4, _ => g2314 L c
  | 5, _ => g2315 L c
  | x + 6, h => absurd h (by omega)
theorem x2320 (c : Nat) : run4 0 c 2 3 2 0 = .yes := by kernel_rfl
theorem y2320 (L c : Nat) : run4 (L + 1) c 2 3 2 0 = .yes := by kernel_rfl
theorem g2320 : ∀ (L c : Nat), run4 L c 2 3 2 0 = .yes
  | 0, c => x2320 c
  | L + 1, c => y2320 L c
theorem x2321 (c : Nat) : run4 0 c 2 3 2 1 = .yes := by kernel_rfl
theorem y2321 (L c : Nat) : run4 (L + 1) c 2 3 2 1 = .yes := by kernel_rfl
theorem g2321 : ∀ (L c : Nat), run4 L c 2 3 2 1 = .yes
  | 0, c => x2321 c
  | L + 1, c => y2321 L c
theorem x2322 (c : Nat) : run4 0 c 2 3 2 2 = .yes := by kernel_rfl
theorem y2322 (L c : Nat) : run4 (L + 1) c 2 3 2 2 = .yes := by kernel_rfl
theorem g2322 : ∀ (L c : Nat), run4 L c 2 3 2 2 = .yes
  | 0, c => x2322 c
  | L + 1, c => y2322 L c
theorem x2323 (c : Nat) : run4 0 c 2 3 2 3 = .yes := by kernel_rfl
theorem y2323 (L c : Nat) : run4 (L + 1) c 2 3 2 3 = .yes := by kernel_rfl
theorem g2323 : ∀ (L c : Nat), run4 L c 2 3 2 3 = .yes
  | 0, c => x2323 c
  | L + 1, c => y2323 L c
theorem x2324 (c : Nat) : run4 0 c 2 3 2 4 = .yes := by kernel_rfl
theorem y2324 (L c : Nat) : run4 (L + 1) c 2 3 2 4 = .yes := by kernel_rfl
theorem g2324 : ∀ (L c : Nat), run4 L c 2 3 2 4 = .yes
  | 0, c => x2324 c
  | L + 1, c => y2324 L c
theorem x2325 (c : Nat) : run4 0 c 2 3 2 5 = .yes := by kernel_rfl
theorem y2325 (L c : Nat) : run4 (L + 1) c 2 3 2 5 = .yes := by kernel_rfl
theorem g2325 : ∀ (L c : Nat), run4 L c 2 3 2 5 = .yes
  | 0, c => x2325 c
  | L + 1, c => y2325 L c
theorem h232 (L c : Nat) : ∀ x, x < 6 → run4 L c 2 3 2 x = .yes
  | 0, _ => g2320 L c
  | 1, _ => g2321 L c
  | 2, _ => g2322 L c
  | 3, _ => g2323 L c
  | 4, _ => g2324 L c
  | 5, _ => g2325 L c
  | x + 6, h => absurd h (by omega)
theorem x2330 (c : Nat) : run4 0 c 2 3 3 0 = .yes := by kernel_rfl
theorem y2330 (L c : Nat) : run4 (L + 1) c 2 3 3 0 = .yes := by kernel_rfl
theorem g2330 : ∀ (L c : Nat), run4 L c 2 3 3 0 = .yes
  | 0, c => x2330 c
  | L + 1, c => y2330 L c
theorem x2331 (c : Nat) : run4 0 c 2 3 3 1 = .yes := by kernel_rfl
theorem y2331 (L c : Nat) : run4 (L + 1) c 2 3 3 1 = .yes := by kernel_rfl
theorem g2331 : ∀ (L c : Nat), run4 L c 2 3 3 1 = .yes
  | 0, c => x2331 c
  | L + 1, c => y2331 L c
theorem x2332 (c : Nat) : run4 0 c 2 3 3 2 = .yes := by kernel_rfl
theorem y2332 (L c : Nat) : run4 (L + 1) c 2 3 3 2 = .yes := by kernel_rfl
theorem g2332 : ∀ (L c : Nat), run4 L c 2 3 3 2 = .yes
  | 0, c => x2332 c
  | L + 1, c => y2332 L c
theorem x2333 (c : Nat) : run4 0 c 2 3 3 3 = .yes := by kernel_rfl
theorem y2333 (L c : Nat) : run4 (L + 1) c 2 3 3 3 = .yes := by kernel_rfl
theorem g2333 : ∀ (L c : Nat), run4 L c 2 3 3 3 = .yes
  | 0, c => x2333 c
  | L + 1, c => y2333 L c
theorem x2334 (c : Nat) : run4 0 c 2 3 3 4 = .yes := by kernel_rfl
theorem y2334 (L c : Nat) : run4 (L + 1) c 2 3 3 4 = .yes := by kernel_rfl
theorem g2334 : ∀ (L c : Nat), run4 L c 2 3 3 4 = .yes
  | 0, c => x2334 c
  | L + 1, c => y2334 L c
theorem x2335 (c : Nat) : run4 0 c 2 3 3 5 = .yes := by kernel_rfl
theorem y2335 (L c : Nat) : run4 (L + 1) c 2 3 3 5 = .yes := by kernel_rfl
theorem g2335 : ∀ (L c : Nat), run4 L c 2 3 3 5 = .yes
  | 0, c => x2335 c
  | L + 1, c => y2335 L c
theorem h233 (L c : Nat) : ∀ x, x < 6 → run4 L c 2 3 3 x = .yes
  | 0, _ => g2330 L c
  | 1, _ => g2331 L c
  | 2, _ => g2332 L c
  | 3, _ => g2333 L c
  | 4, _ => g2334 L c
  | 5, _ => g2335 L c
  | x + 6, h => absurd h (by omega)
theorem x2340 (c : Nat) : run4 0 c 2 3 4 0 = .yes := by kernel_rfl
theorem y2340 (L c : Nat) : run4 (L + 1) c 2 3 4 0 = .yes := by kernel_rfl
theorem g2340 : ∀ (L c : Nat), run4 L c 2 3 4 0 = .yes
  | 0, c => x2340 c
  | L + 1, c => y2340 L c
theorem x2341 (c : Nat) : run4 0 c 2 3 4 1 = .yes := by kernel_rfl
theorem y2341 (L c : Nat) : run4 (L + 1) c 2 3 4 1 = .yes := by kernel_rfl
theorem g2341 : ∀ (L c : Nat), run4 L c 2 3 4 1 = .yes
  | 0, c => x2341 c
  | L + 1, c => y2341 L c
theorem x2342 (c : Nat) : run4 0 c 2 3 4 2 = .yes := by kernel_rfl
theorem y2342 (L c : Nat) : run4 (L + 1) c 2 3 4 2 = .yes := by kernel_rfl
theorem g2342 : ∀ (L c : Nat), run4 L c 2 3 4 2 = .yes
  | 0, c => x2342 c
  | L + 1, c => y2342 L c
theorem x2343 (c : Nat) : run4 0 c 2 3 4 3 = .yes := by kernel_rfl
theorem y2343 (L c : Nat) : run4 (L + 1) c 2 3 4 3 = .yes := by kernel_rfl
theorem g2343 : ∀ (L c : Nat), run4 L c 2 3 4 3 = .yes
  | 0, c => x2343 c
  | L + 1, c => y2343 L c
theorem x2344 (c : Nat) : run4 0 c 2 3 4 4 = .yes := by kernel_rfl
theorem y2344 (L c : Nat) : run4 (L + 1) c 2 3 4 4 = .yes := by kernel_rfl
theorem g2344 : ∀ (L c : Nat), run4 L c 2 3 4 4 = .yes
  | 0, c => x2344 c
  | L + 1, c => y2344 L c
theorem x2345 (c : Nat) : run4 0 c 2 3 4 5 = .yes := by kernel_rfl
theorem y2345 (L c : Nat) : run4 (L + 1) c 2 3 4 5 = .yes := by kernel_rfl
theorem g2345 : ∀ (L c : Nat), run4 L c 2 3 4 5 = .yes
  | 0, c => x2345 c
  | L + 1, c => y2345 L c
theorem h234 (L c : Nat) : ∀ x, x < 6 → run4 L c 2 3 4 x = .yes
  | 0, _ => g2340 L c
  | 1, _ => g2341 L c
  | 2, _ => g2342 L c
  | 3, _ => g2343 L c
  | 4, _ => g2344 L c
  | 5, _ => g2345 L c
  | x + 6, h => absurd h (by omega)
theorem x2350 (c : Nat) : run4 0 c 2 3 5 0 = .yes := by kernel_rfl
theorem y2350 (L c : Nat) : run4 (L + 1) c 2 3 5 0 = .yes := by kernel_rfl
theorem g2350 : ∀ (L c : Nat), run4 L c 2 3 5 0 = .yes
  | 0, c => x2350 c
  | L + 1, c => y2350 L c
theorem x2351 (c : Nat) : run4 0 c 2 3 5 1 = .yes := by kernel_rfl
theorem y2351 (L c : Nat) : run4 (L + 1) c 2 3 5 1 = .yes := by kernel_rfl
theorem g2351 : ∀ (L c : Nat), run4 L c 2 3 5 1 = .yes
  | 0, c => x2351 c
  | L + 1, c => y2351 L c
theorem x2352 (c : Nat) : run4 0 c 2 3 5 2 = .yes := by kernel_rfl
theorem y2352 (L c : Nat) : run4 (L + 1) c 2 3 5 2 = .yes := by kernel_rfl
theorem g2352 : ∀ (L c : Nat), run4 L c 2 3 5 2 = .yes
  | 0, c => x2352 c
  | L + 1, c => y2352 L c
theorem x2353 (c : Nat) : run4 0 c 2 3 5 3 = .yes := by kernel_rfl
theorem y2353 (L c : Nat) : run4 (L + 1) c 2 3 5 3 = .yes := by kernel_rfl
theorem g2353 : ∀ (L c : Nat), run4 L c 2 3 5 3 = .yes
  | 0, c => x2353 c
  | L + 1, c => y2353 L c
theorem x2354 (c : Nat) : run4 0 c 2 3 5 4 = .yes := by kernel_rfl
theorem y2354 (L c : Nat) : run4 (L + 1) c 2 3 5 4 = .yes := by kernel_rfl
theorem g2354 : ∀ (L c : Nat), run4 L c 2 3 5 4 = .yes
  | 0, c => x2354 c
  | L + 1, c => y2354 L c
theorem x2355 (c : Nat) : run4 0 c 2 3 5 5 = .yes := by kernel_rfl
theorem y2355 (L c : Nat) : run4 (L + 1) c 2 3 5 5 = .yes := by kernel_rfl
theorem g2355 : ∀ (L c : Nat), run4 L c 2 3 5 5 = .yes
  | 0, c => x2355 c
  | L + 1, c => y2355 L c
theorem h235 (L c : Nat) : ∀ x, x < 6 → run4 L c 2 3 5 x = .yes
  | 0, _ => g2350 L c
  | 1, _ => g2351 L c
  | 2, _ => g2352 L c
  | 3, _ => g2353 L c
  | 4, _ => g2354 L c
  | 5, _ => g2355 L c
  | x + 6, h => absurd h (by omega)
theorem hh23 (L c : Nat) : ∀ x, x < 6 → ∀ y, y < 6 → run4 L c 2 3 x y = .yes
  | 0, _ => h230 L c
  | 1, _ => h231 L c
  | 2, _ => h232 L c
  | 3, _ => h233 L c
  | 4, _ => h234 L c
  | 5, _ => h235 L c
  | x + 6, h => absurd h (by omega)
theorem x3200 (c : Nat) : run4 0 c 3 2 0 0 = .yes := by kernel_rfl
theorem y3200 (L c : Nat) : run4 (L + 1) c 3 2 0 0 = .yes := by kernel_rfl
theorem g3200 : ∀ (L c : Nat), run4 L c 3 2 0 0 = .yes
  | 0, c => x3200 c
  | L + 1, c => y3200 L c
theorem x3201 (c : Nat) : run4 0 c 3 2 0 1 = .yes := by kernel_rfl
theorem y3201 (L c : Nat) : run4 (L + 1) c 3 2 0 1 = .yes := by kernel_rfl
theorem g3201 : ∀ (L c : Nat), run4 L c 3 2 0 1 = .yes
  | 0, c => x3201 c
  | L + 1, c => y3201 L c
theorem x3202 (c : Nat) : run4 0 c 3 2 0 2 = .yes := by kernel_rfl
theorem y3202 (L c : Nat) : run4 (L + 1) c 3 2 0 2 = .yes := by kernel_rfl
theorem g3202 : ∀ (L c : Nat), run4 L c 3 2 0 2 = .yes
  | 0, c => x3202 c
  | L + 1, c => y3202 L c
theorem x3203 (c : Nat) : run4 0 c 3 2 0 3 = .yes := by kernel_rfl
theorem y3203 (L c : Nat) : run4 (L + 1) c 3 2 0 3 = .yes := by kernel_rfl
theorem g3203 : ∀ (L c : Nat), run4 L c 3 2 0 3 = .yes
  | 0, c => x3203 c
  | L + 1, c => y3203 L c
theorem x3204 (c : Nat) : run4 0 c 3 2 0 4 = .yes := by kernel_rfl
theorem y3204 (L c : Nat) : run4 (L + 1) c 3 2 0 4 = .yes := by kernel_rfl
theorem g3204 : ∀ (L c : Nat), run4 L c 3 2 0 4 = .yes
  | 0, c => x3204 c
  | L + 1, c => y3204 L c
theorem x3205 (c : Nat) : run4 0 c 3 2 0 5 = .yes := by kernel_rfl
theorem y3205 (L c : Nat) : run4 (L + 1) c 3 2 0 5 = .yes := by kernel_rfl
theorem g3205 : ∀ (L c : Nat), run4 L c 3 2 0 5 = .yes
  | 0, c => x3205 c
  | L + 1, c => y3205 L c
theorem h320 (L c : Nat) : ∀ x, x < 6 → run4 L c 3 2 0 x = .yes
  | 0, _ => g3200 L c
  | 1, _ => g3201 L c
  | 2, _ => g3202 L c
  | 3, _ => g3203 L c
  | 4, _ => g3204 L c
  | 5, _ => g3205 L c
  | x + 6, h => absurd h (by omega)
theorem x3210 (c : Nat) : run4 0 c 3 2 1 0 = .yes := by kernel_rfl
theorem y3210 (L c : Nat) : run4 (L + 1) c 3 2 1 0 = .yes := by kernel_rfl
theorem g3210 : ∀ (L c : Nat), run4 L c 3 2 1 0 = .yes
  | 0, c => x3210 c
  | L + 1, c => y3210 L c
theorem x3211 (c : Nat) : run4 0 c 3 2 1 1 = .yes := by kernel_rfl
theorem y3211 (L c : Nat) : run4 (L + 1) c 3 2 1 1 = .yes := by kernel_rfl
theorem g3211 : ∀ (L c : Nat), run4 L c 3 2 1 1 = .yes
  | 0, c => x3211 c
  | L + 1, c => y3211 L c
theorem x3212 (c : Nat) : run4 0 c 3 2 1 2 = .yes := by kernel_rfl
theorem y3212 (L c : Nat) : run4 (L + 1) c 3 2 1 2 = .yes := by kernel_rfl
theorem g3212 : ∀ (L c : Nat), run4 L c 3 2 1 2 = .yes
  | 0, c => x3212 c
  | L + 1, c => y3212 L c
theorem x3213 (c : Nat) : run4 0 c 3 2 1 3 = .yes := by kernel_rfl
theorem y3213 (L c : Nat) : run4 (L + 1) c 3 2 1 3 = .yes := by kernel_rfl
theorem g3213 : ∀ (L c : Nat), run4 L c 3 2 1 3 = .yes
  | 0, c => x3213 c
  | L + 1, c => y3213 L c
theorem x3214 (c : Nat) : run4 0 c 3 2 1 4 = .yes := by kernel_rfl
theorem y3214 (L c : Nat) : run4 (L + 1) c 3 2 1 4 = .yes := by kernel_rfl
theorem g3214 : ∀ (L c : Nat), run4 L c 3 2 1 4 = .yes
  | 0, c => x3214 c
  | L + 1, c => y3214 L c
theorem x3215 (c : Nat) : run4 0 c 3 2 1 5 = .yes := by kernel_rfl
theorem y3215 (L c : Nat) : run4 (L + 1) c 3 2 1 5 = .yes := by kernel_rfl
theorem g3215 : ∀ (L c : Nat), run4 L c 3 2 1 5 = .yes
  | 0, c => x3215 c
  | L + 1, c => y3215 L c
theorem h321 (L c : Nat) : ∀ x, x < 6 → run4 L c 3 2 1 x = .yes
  | 0, _ => g3210 L c
  | 1, _ => g3211 L c
  | 2, _ => g3212 L c
  | 3, _ => g3213 L c
  | 4, _ => g3214 L c
  | 5, _ => g3215 L c
  | x + 6, h => absurd h (by omega)
theorem x3220 (c : Nat) : run4 0 c 3 2 2 0 = .yes := by kernel_rfl
theorem y3220 (L c : Nat) : run4 (L + 1) c 3 2 2 0 = .yes := by kernel_rfl
theorem g3220 : ∀ (L c : Nat), run4 L c 3 2 2 0 = .yes
  | 0, c => x3220 c
  | L + 1, c => y3220 L c
theorem x3221 (c : Nat) : run4 0 c 3 2 2 1 = .yes := by kernel_rfl
theorem y3221 (L c : Nat) : run4 (L + 1) c 3 2 2 1 = .yes := by kernel_rfl
theorem g3221 : ∀ (L c : Nat), run4 L c 3 2 2 1 = .yes
  | 0, c => x3221 c
  | L + 1, c => y3221 L c
theorem x3222 (c : Nat) : run4 0 c 3 2 2 2 = .yes := by kernel_rfl
theorem y3222 (L c : Nat) : run4 (L + 1) c 3 2 2 2 = .yes := by kernel_rfl
theorem g3222 : ∀ (L c : Nat), run4 L c 3 2 2 2 = .yes
  | 0, c => x3222 c
  | L + 1, c => y3222 L c
theorem x3223 (c : Nat) : run4 0 c 3 2 2 3 = .yes := by kernel_rfl
theorem y3223 (L c : Nat) : run4 (L + 1) c 3 2 2 3 = .yes := by kernel_rfl
theorem g3223 : ∀ (L c : Nat), run4 L c 3 2 2 3 = .yes
  | 0, c => x3223 c
  | L + 1, c => y3223 L c
theorem x3224 (c : Nat) : run4 0 c 3 2 2 4 = .yes := by kernel_rfl
theorem y3224 (L c : Nat) : run4 (L + 1) c 3 2 2 4 = .yes := by kernel_rfl
theorem g3224 : ∀ (L c : Nat), run4 L c 3 2 2 4 = .yes
  | 0, c => x3224 c
  | L + 1, c => y3224 L c
theorem x3225 (c : Nat) : run4 0 c 3 2 2 5 = .yes := by kernel_rfl
theorem y3225 (L c : Nat) : run4 (L + 1) c 3 2 2 5 = .yes := by kernel_rfl
theorem g3225 : ∀ (L c : Nat), run4 L c 3 2 2 5 = .yes
  | 0, c => x3225 c
  | L + 1, c => y3225 L c
theorem h322 (L c : Nat) : ∀ x, x < 6 → run4 L c 3 2 2 x = .yes
  | 0, _ => g3220 L c
  | 1, _ => g3221 L c
  | 2, _ => g3222 L c
  | 3, _ => g3223 L c
  | 4, _ => g3224 L c
  | 5, _ => g3225 L c
  | x + 6, h => absurd h (by omega)
theorem x3230 (c : Nat) : run4 0 c 3 2 3 0 = .yes := by kernel_rfl
theorem y3230 (L c : Nat) : run4 (L + 1) c 3 2 3 0 = .yes := by kernel_rfl
theorem g3230 : ∀ (L c : Nat), run4 L c 3 2 3 0 = .yes
  | 0, c => x3230 c
  | L + 1, c => y3230 L c
theorem x3231 (c : Nat) : run4 0 c 3 2 3 1 = .yes := by kernel_rfl
theorem y3231 (L c : Nat) : run4 (L + 1) c 3 2 3 1 = .yes := by kernel_rfl
theorem g3231 : ∀ (L c : Nat), run4 L c 3 2 3 1 = .yes
  | 0, c => x3231 c
  | L + 1, c => y3231 L c
theorem x3232 (c : Nat) : run4 0 c 3 2 3 2 = .yes := by kernel_rfl
theorem y3232 (L c : Nat) : run4 (L + 1) c 3 2 3 2 = .yes := by kernel_rfl
theorem g3232 : ∀ (L c : Nat), run4 L c 3 2 3 2 = .yes
  | 0, c => x3232 c
  | L + 1, c => y3232 L c
theorem x3233 (c : Nat) : run4 0 c 3 2 3 3 = .yes := by kernel_rfl
theorem y3233 (L c : Nat) : run4 (L + 1) c 3 2 3 3 = .yes := by kernel_rfl
theorem g3233 : ∀ (L c : Nat), run4 L c 3 2 3 3 = .yes
  | 0, c => x3233 c
  | L + 1, c => y3233 L c
theorem x3234 (c : Nat) : run4 0 c 3 2 3 4 = .yes := by kernel_rfl
theorem y3234 (L c : Nat) : run4 (L + 1) c 3 2 3 4 = .yes := by kernel_rfl
theorem g3234 : ∀ (L c : Nat), run4 L c 3 2 3 4 = .yes
  | 0, c => x3234 c
  | L + 1, c => y3234 L c
theorem x3235 (c : Nat) : run4 0 c 3 2 3 5 = .yes := by kernel_rfl
theorem y3235 (L c : Nat) : run4 (L + 1) c 3 2 3 5 = .yes := by kernel_rfl
theorem g3235 : ∀ (L c : Nat), run4 L c 3 2 3 5 = .yes
  | 0, c => x3235 c
  | L + 1, c => y3235 L c
theorem h323 (L c : Nat) : ∀ x, x < 6 → run4 L c 3 2 3 x = .yes
  | 0, _ => g3230 L c
  | 1, _ => g3231 L c
  | 2, _ => g3232 L c
  | 3, _ => g3233 L c
  | 4, _ => g3234 L c
  | 5, _ => g3235 L c
  | x + 6, h => absurd h (by omega)
theorem x3240 (c : Nat) : run4 0 c 3 2 4 0 = .yes := by kernel_rfl
theorem y3240 (L c : Nat) : run4 (L + 1) c 3 2 4 0 = .yes := by kernel_rfl
theorem g3240 : ∀ (L c : Nat), run4 L c 3 2 4 0 = .yes
  | 0, c => x3240 c
  | L + 1, c => y3240 L c
theorem x3241 (c : Nat) : run4 0 c 3 2 4 1 = .yes := by kernel_rfl
theorem y3241 (L c : Nat) : run4 (L + 1) c 3 2 4 1 = .yes := by kernel_rfl
theorem g3241 : ∀ (L c : Nat), run4 L c 3 2 4 1 = .yes
  | 0, c => x3241 c
  | L + 1, c => y3241 L c
theorem x3242 (c : Nat) : run4 0 c 3 2 4 2 = .yes := by kernel_rfl
theorem y3242 (L c : Nat) : run4 (L + 1) c 3 2 4 2 = .yes := by kernel_rfl
theorem g3242 : ∀ (L c : Nat), run4 L c 3 2 4 2 = .yes
  | 0, c => x3242 c
  | L + 1, c => y3242 L c
theorem x3243 (c : Nat) : run4 0 c 3 2 4 3 = .yes := by kernel_rfl
theorem y3243 (L c : Nat) : run4 (L + 1) c 3 2 4 3 = .yes := by kernel_rfl
theorem g3243 : ∀ (L c : Nat), run4 L c 3 2 4 3 = .yes
  | 0, c => x3243 c
  | L + 1, c => y3243 L c
theorem x3244 (c : Nat) : run4 0 c 3 2 4 4 = .yes := by kernel_rfl
theorem y3244 (L c : Nat) : run4 (L + 1) c 3 2 4 4 = .yes := by kernel_rfl
theorem g3244 : ∀ (L c : Nat), run4 L c 3 2 4 4 = .yes
  | 0, c => x3244 c
  | L + 1, c => y3244 L c
theorem x3245 (c : Nat) : run4 0 c 3 2 4 5 = .yes := by kernel_rfl
theorem y3245 (L c : Nat) : run4 (L + 1) c 3 2 4 5 = .yes := by kernel_rfl
theorem g3245 : ∀ (L c : Nat), run4 L c 3 2 4 5 = .yes
  | 0, c => x3245 c
  | L + 1, c => y3245 L c
theorem h324 (L c : Nat) : ∀ x, x < 6 → run4 L c 3 2 4 x = .yes
  | 0, _ => g3240 L c
  | 1, _ => g3241 L c
  | 2, _ => g3242 L c
  | 3, _ => g3243 L c
  | 4, _ => g3244 L c
  | 5, _ => g3245 L c
  | x + 6, h => absurd h (by omega)
theorem x3250 (c : Nat) : run4 0 c 3 2 5 0 = .yes := by kernel_rfl
theorem y3250 (L c : Nat) : run4 (L + 1) c 3 2 5 0 = .yes := by kernel_rfl
theorem g3250 : ∀ (L c : Nat), run4 L c 3 2 5 0 = .yes
  | 0, c => x3250 c
  | L + 1, c => y3250 L c
theorem x3251 (c : Nat) : run4 0 c 3 2 5 1 = .yes := by kernel_rfl
theorem y3251 (L c : Nat) : run4 (L + 1) c 3 2 5 1 = .yes := by kernel_rfl
theorem g3251 : ∀ (L c : Nat), run4 L c 3 2 5 1 = .yes
  | 0, c => x3251 c
  | L + 1, c => y3251 L c
theorem x3252 (c : Nat) : run4 0 c 3 2 5 2 = .yes := by kernel_rfl
theorem y3252 (L c : Nat) : run4 (L + 1) c 3 2 5 2 = .yes := by kernel_rfl
theorem g3252 : ∀ (L c : Nat), run4 L c 3 2 5 2 = .yes
  | 0, c => x3252 c
  | L + 1, c => y3252 L c
theorem x3253 (c : Nat) : run4 0 c 3 2 5 3 = .yes := by kernel_rfl
theorem y3253 (L c : Nat) : run4 (L + 1) c 3 2 5 3 = .yes := by kernel_rfl
theorem g3253 : ∀ (L c : Nat), run4 L c 3 2 5 3 = .yes
  | 0, c => x3253 c
  | L + 1, c => y3253 L c
theorem x3254 (c : Nat) : run4 0 c 3 2 5 4 = .yes := by kernel_rfl
theorem y3254 (L c : Nat) : run4 (L + 1) c 3 2 5 4 = .yes := by kernel_rfl
theorem g3254 : ∀ (L c : Nat), run4 L c 3 2 5 4 = .yes
  | 0, c => x3254 c
  | L + 1, c => y3254 L c
theorem x3255 (c : Nat) : run4 0 c 3 2 5 5 = .yes := by kernel_rfl
theorem y3255 (L c : Nat) : run4 (L + 1) c 3 2 5 5 = .yes := by kernel_rfl
theorem g3255 : ∀ (L c : Nat), run4 L c 3 2 5 5 = .yes
  | 0, c => x3255 c
  | L + 1, c => y3255 L c
theorem h325 (L c : Nat) : ∀ x, x < 6 → run4 L c 3 2 5 x = .yes
  | 0, _ => g3250 L c
  | 1, _ => g3251 L c
  | 2, _ => g3252 L c
  | 3, _ => g3253 L c
  | 4, _ => g3254 L c
  | 5, _ => g3255 L c
  | x + 6, h => absurd h (by omega)
theorem hh32 (L c : Nat) : ∀ x, x < 6 → ∀ y, y < 6 → run4 L c 3 2 x y = .yes
  | 0, _ => h320 L c
  | 1, _ => h321 L c
  | 2, _ => h322 L c
  | 3, _ => h323 L c
  | 4, _ => h324 L c
  | 5, _ => h325 L c
  | x + 6, h => absurd h (by omega)
end Go.Proofs.YtojbfaigebpnpaaDoor.ecoThreadsq
