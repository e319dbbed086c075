/-
  The law EcoThreads at some of its cases: the run over the program ends in true. Conditions: none; these are closed facts.
-/
import Derived.Test.YtojbfaigebpnpaaDoorEcoThreadsA
namespace Go.Proofs.YtojbfaigebpnpaaDoor.ecoThreadsq
open Go.Rn Go.RowKit YtojbfaigebpnpaaDoor.txt
set_option maxHeartbeats 400000000
theorem x5200 (c : Nat) : run4 0 c 5 2 0 0 = .yes := by kernel_rfl
theorem y5200 (L c : Nat) : run4 (L + 1) c 5 2 0 0 = .yes := by kernel_rfl
theorem g5200 : ∀ (L c : Nat), run4 L c 5 2 0 0 = .yes
  | 0, c => x5200 c
  | L + 1, c => y5200 L c
theorem x5201 (c : Nat) : run4 0 c 5 2 0 1 = .yes := by kernel_rfl
theorem y5201 (L c : Nat) : run4 (L + 1) c 5 2 0 1 = .yes := by kernel_rfl
theorem g5201 : ∀ (L c : Nat), run4 L c 5 2 0 1 = .yes
  | 0, c => x5201 c
  | L + 1, c => y5201 L c
theorem x5202 (c : Nat) : run4 0 c 5 2 0 2 = .yes := by kernel_rfl
theorem y5202 (L c : Nat) : run4 (L + 1) c 5 2 0 2 = .yes := by kernel_rfl
theorem g5202 : ∀ (L c : Nat), run4 L c 5 2 0 2 = .yes
  | 0, c => x5202 c
  | L + 1, c => y5202 L c
theorem x5203 (c : Nat) : run4 0 c 5 2 0 3 = .yes := by kernel_rfl
theorem y5203 (L c : Nat) : run4 (L + 1) c 5 2 0 3 = .yes := by kernel_rfl
theorem g5203 : ∀ (L c : Nat), run4 L c 5 2 0 3 = .yes
  | 0, c => x5203 c
  | L + 1, c => y5203 L c
theorem x5204 (c : Nat) : run4 0 c 5 2 0 4 = .yes := by kernel_rfl
theorem y5204 (L c : Nat) : run4 (L + 1) c 5 2 0 4 = .yes := by kernel_rfl
theorem g5204 : ∀ (L c : Nat), run4 L c 5 2 0 4 = .yes
  | 0, c => x5204 c
  | L + 1, c => y5204 L c
theorem x5205 (c : Nat) : run4 0 c 5 2 0 5 = .yes := by kernel_rfl
theorem y5205 (L c : Nat) : run4 (L + 1) c 5 2 0 5 = .yes := by kernel_rfl
theorem g5205 : ∀ (L c : Nat), run4 L c 5 2 0 5 = .yes
  | 0, c => x5205 c
  | L + 1, c => y5205 L c
theorem h520 (L c : Nat) : ∀ x, x < 6 → run4 L c 5 2 0 x = .yes
  | 0, _ => g5200 L c
  | 1, _ => g5201 L c
  | 2, _ => g5202 L c
  | 3, _ => g5203 L c
  | 4, _ => g5204 L c
  | 5, _ => g5205 L c
  | x + 6, h => absurd h (by omega)
theorem x5210 (c : Nat) : run4 0 c 5 2 1 0 = .yes := by kernel_rfl
theorem y5210 (L c : Nat) : run4 (L + 1) c 5 2 1 0 = .yes := by kernel_rfl
theorem g5210 : ∀ (L c : Nat), run4 L c 5 2 1 0 = .yes
  | 0, c => x5210 c
  | L + 1, c => y5210 L c
theorem x5211 (c : Nat) : run4 0 c 5 2 1 1 = .yes := by kernel_rfl
theorem y5211 (L c : Nat) : run4 (L + 1) c 5 2 1 1 = .yes := by kernel_rfl
theorem g5211 : ∀ (L c : Nat), run4 L c 5 2 1 1 = .yes
  | 0, c => x5211 c
  | L + 1, c => y5211 L c
theorem x5212 (c : Nat) : run4 0 c 5 2 1 2 = .yes := by kernel_rfl
theorem y5212 (L c : Nat) : run4 (L + 1) c 5 2 1 2 = .yes := by kernel_rfl
theorem g5212 : ∀ (L c : Nat), run4 L c 5 2 1 2 = .yes
  | 0, c => x5212 c
  | L + 1, c => y5212 L c
theorem x5213 (c : Nat) : run4 0 c 5 2 1 3 = .yes := by kernel_rfl
theorem y5213 (L c : Nat) : run4 (L + 1) c 5 2 1 3 = .yes := by kernel_rfl
theorem g5213 : ∀ (L c : Nat), run4 L c 5 2 1 3 = .yes
  | 0, c => x5213 c
  | L + 1, c => y5213 L c
theorem x5214 (c : Nat) : run4 0 c 5 2 1 4 = .yes := by kernel_rfl
theorem y5214 (L c : Nat) : run4 (L + 1) c 5 2 1 4 = .yes := by kernel_rfl
theorem g5214 : ∀ (L c : Nat), run4 L c 5 2 1 4 = .yes
  | 0, c => x5214 c
  | L + 1, c => y5214 L c
theorem x5215 (c : Nat) : run4 0 c 5 2 1 5 = .yes := by kernel_rfl
theorem y5215 (L c : Nat) : run4 (L + 1) c 5 2 1 5 = .yes := by kernel_rfl
theorem g5215 : ∀ (L c : Nat), run4 L c 5 2 1 5 = .yes
  | 0, c => x5215 c
  | L + 1, c => y5215 L c
theorem h521 (L c : Nat) : ∀ x, x < 6 → run4 L c 5 2 1 x = .yes
  | 0, _ => g5210 L c
  | 1, _ => g5211 L c
  | 2, _ => g5212 L c
  | 3, _ => g5213 L c
  | 4, _ => g5214 L c
  | 5, _ => g5215 L c
  | x + 6, h => absurd h (by omega)
theorem x5220 (c : Nat) : run4 0 c 5 2 2 0 = .yes := by kernel_rfl
theorem y5220 (L c : Nat) : run4 (L + 1) c 5 2 2 0 = .yes := by kernel_rfl
theorem g5220 : ∀ (L c : Nat), run4 L c 5 2 2 0 = .yes
  | 0, c => x5220 c
  | L + 1, c => y5220 L c
theorem x5221 (c : Nat) : run4 0 c 5 2 2 1 = .yes := by kernel_rfl
theorem y5221 (L c : Nat) : run4 (L + 1) c 5 2 2 1 = .yes := by kernel_rfl
theorem g5221 : ∀ (L c : Nat), run4 L c 5 2 2 1 = .yes
  | 0, c => x5221 c
  | L + 1, c => y5221 L c
theorem x5222 (c : Nat) : run4 0 c 5 2 2 2 = .yes := by kernel_rfl
theorem y5222 (L c : Nat) : run4 (L + 1) c 5 2 2 2 = .yes := by kernel_rfl
theorem g5222 : ∀ (L c : Nat), run4 L c 5 2 2 2 = .yes
  | 0, c => x5222 c
  | L + 1, c => y5222 L c
theorem x5223 (c : Nat) : run4 0 c 5 2 2 3 = .yes := by kernel_rfl
theorem y5223 (L c : Nat) : run4 (L + 1) c 5 2 2 3 = .yes := by kernel_rfl
theorem g5223 : ∀ (L c : Nat), run4 L c 5 2 2 3 = .yes
  | 0, c => x5223 c
  | L + 1, c => y5223 L c
theorem x5224 (c : Nat) : run4 0 c 5 2 2 4 = .yes := by kernel_rfl
theorem y5224 (L c : Nat) : run4 (L + 1) c 5 2 2 4 = .yes := by kernel_rfl
theorem g5224 : ∀ (L c : Nat), run4 L c 5 2 2 4 = .yes
  | 0, c => x5224 c
  | L + 1, c => y5224 L c
theorem x5225 (c : Nat) : run4 0 c 5 2 2 5 = .yes := by kernel_rfl
theorem y5225 (L c : Nat) : run4 (L + 1) c 5 2 2 5 = .yes := by kernel_rfl
theorem g5225 : ∀ (L c : Nat), run4 L c 5 2 2 5 = .yes
  | 0, c => x5225 c
  | L + 1, c => y5225 L c
theorem h522 (L c : Nat) : ∀ x, x < 6 → run4 L c 5 2 2 x = .yes
  | 0, _ => g5220 L c
  | 1, _ => g5221 L c
  | 2, _ => g5222 L c
  | 3, _ => g5223 L c
  | 4, _ => g5224 L c
  | 5, _ => g5225 L c
  | x + 6, h => absurd h (by omega)
theorem x5230 (c : Nat) : run4 0 c 5 2 3 0 = .yes := by kernel_rfl
theorem y5230 (L c : Nat) : run4 (L + 1) c 5 2 3 0 = .yes := by kernel_rfl
theorem g5230 : ∀ (L c : Nat), run4 L c 5 2 3 0 = .yes
  | 0, c => x5230 c
  | L + 1, c => y5230 L c
theorem x5231 (c : Nat) : run4 0 c 5 2 3 1 = .yes := by kernel_rfl
theorem y5231 (L c : Nat) : run4 (L + 1) c 5 2 3 1 = .yes := by kernel_rfl
theorem g5231 : ∀ (L c : Nat), run4 L c 5 2 3 1 = .yes
  | 0, c => x5231 c
  | L + 1, c => y5231 L c
theorem x5232 (c : Nat) : run4 0 c 5 2 3 2 = .yes := by kernel_rfl
theorem y5232 (L c : Nat) : run4 (L + 1) c 5 2 3 2 = .yes := by kernel_rfl
theorem g5232 : ∀ (L c : Nat), run4 L c 5 2 3 2 = .yes
  | 0, c => x5232 c
  | L + 1, c => y5232 L c
theorem x5233 (c : Nat) : run4 0 c 5 2 3 3 = .yes := by kernel_rfl
theorem y5233 (L c : Nat) : run4 (L + 1) c 5 2 3 3 = .yes := by kernel_rfl
theorem g5233 : ∀ (L c : Nat), run4 L c 5 2 3 3 = .yes
  | 0, c => x5233 c
  | L + 1, c => y5233 L c
theorem x5234 (c : Nat) : run4 0 c 5 2 3 4 = .yes := by kernel_rfl
theorem y5234 (L c : Nat) : run4 (L + 1) c 5 2 3 4 = .yes := by kernel_rfl
theorem g5234 : ∀ (L c : Nat), run4 L c 5 2 3 4 = .yes
  | 0, c => x5234 c
  | L + 1, c => y5234 L c
theorem x5235 (c : Nat) : run4 0 c 5 2 3 5 = .yes := by kernel_rfl
theorem y5235 (L c : Nat) : run4 (L + 1) c 5 2 3 5 = .yes := by kernel_rfl
theorem g5235 : ∀ (L c : Nat), run4 L c 5 2 3 5 = .yes
  | 0, c => x5235 c
  | L + 1, c => y5235 L c
theorem h523 (L c : Nat) : ∀ x, x < 6 → run4 L c 5 2 3 x = .yes
  | 0, _ => g5230 L c
  | 1, _ => g5231 L c
  | 2, _ => g5232 L c
  | 3, _ => g5233 L c
  | 4, _ => g5234 L c
  | 5, _ => g5235 L c
  | x + 6, h => absurd h (by omega)
theorem x5240 (c : Nat) : run4 0 c 5 2 4 0 = .yes := by kernel_rfl
theorem y5240 (L c : Nat) : run4 (L + 1) c 5 2 4 0 = .yes := by kernel_rfl
theorem g5240 : ∀ (L c : Nat), run4 L c 5 2 4 0 = .yes
  | 0, c => x5240 c
  | L + 1, c => y5240 L c
theorem x5241 (c : Nat) : run4 0 c 5 2 4 1 = .yes := by kernel_rfl
theorem y5241 (L c : Nat) : run4 (L + 1) c 5 2 4 1 = .yes := by kernel_rfl
theorem g5241 : ∀ (L c : Nat), run4 L c 5 2 4 1 = .yes
  | 0, c => x5241 c
  | L + 1, c => y5241 L c
theorem x5242 (c : Nat) : run4 0 c 5 2 4 2 = .yes := by kernel_rfl
theorem y5242 (L c : Nat) : run4 (L + 1) c 5 2 4 2 = .yes := by kernel_rfl
theorem g5242 : ∀ (L c : Nat), run4 L c 5 2 4 2 = .yes
  | 0, c => x5242 c
  | L + 1, c => y5242 L c
theorem x5243 (c : Nat) : run4 0 c 5 2 4 3 = .yes := by kernel_rfl
theorem y5243 (L c : Nat) : run4 (L + 1) c 5 2 4 3 = .yes := by kernel_rfl
theorem g5243 : ∀ (L c : Nat), run4 L c 5 2 4 3 = .yes
  | 0, c => x5243 c
  | L + 1, c => y5243 L c
theorem x5244 (c : Nat) : run4 0 c 5 2 4 4 = .yes := by kernel_rfl
theorem y5244 (L c : Nat) : run4 (L + 1) c 5 2 4 4 = .yes := by kernel_rfl
theorem g5244 : ∀ (L c : Nat), run4 L c 5 2 4 4 = .yes
  | 0, c => x5244 c
  | L + 1, c => y5244 L c
theorem x5245 (c : Nat) : run4 0 c 5 2 4 5 = .yes := by kernel_rfl
theorem y5245 (L c : Nat) : run4 (L + 1) c 5 2 4 5 = .yes := by kernel_rfl
theorem g5245 : ∀ (L c : Nat), run4 L c 5 2 4 5 = .yes
  | 0, c => x5245 c
  | L + 1, c => y5245 L c
theorem h524 (L c : Nat) : ∀ x, x < 6 → run4 L c 5 2 4 x = .yes
  | 0, _ => g5240 L c
  | 1, _ => g5241 L c
  | 2, _ => g5242 L c
  | 3, _ => g5243 L c
  | 4, _ => g5244 L c
  | 5, _ => g5245 L c
  | x + 6, h => absurd h (by omega)
theorem x5250 (c : Nat) : run4 0 c 5 2 5 0 = .yes := by kernel_rfl
theorem y5250 (L c : Nat) : run4 (L + 1) c 5 2 5 0 = .yes := by kernel_rfl
theorem g5250 : ∀ (L c : Nat), run4 L c 5 2 5 0 = .yes
  | 0, c => x5250 c
  | L + 1, c => y5250 L c
theorem x5251 (c : Nat) : run4 0 c 5 2 5 1 = .yes := by kernel_rfl
theorem y5251 (L c : Nat) : run4 (L + 1) c 5 2 5 1 = .yes := by kernel_rfl
theorem g5251 : ∀ (L c : Nat), run4 L c 5 2 5 1 = .yes
  | 0, c => x5251 c
  | L + 1, c => y5251 L c
theorem x5252 (c : Nat) : run4 0 c 5 2 5 2 = .yes := by kernel_rfl
theorem y5252 (L c : Nat) : run4 (L + 1) c 5 2 5 2 = .yes := by kernel_rfl
theorem g5252 : ∀ (L c : Nat), run4 L c 5 2 5 2 = .yes
  | 0, c => x5252 c
  | L + 1, c => y5252 L c
theorem x5253 (c : Nat) : run4 0 c 5 2 5 3 = .yes := by kernel_rfl
theorem y5253 (L c : Nat) : run4 (L + 1) c 5 2 5 3 = .yes := by kernel_rfl
theorem g5253 : ∀ (L c : Nat), run4 L c 5 2 5 3 = .yes
  | 0, c => x5253 c
  | L + 1, c => y5253 L c
theorem x5254 (c : Nat) : run4 0 c 5 2 5 4 = .yes := by kernel_rfl
theorem y5254 (L c : Nat) : run4 (L + 1) c 5 2 5 4 = .yes := by kernel_rfl
theorem g5254 : ∀ (L c : Nat), run4 L c 5 2 5 4 = .yes
  | 0, c => x5254 c
  | L + 1, c => y5254 L c
theorem x5255 (c : Nat) : run4 0 c 5 2 5 5 = .yes := by kernel_rfl
theorem y5255 (L c : Nat) : run4 (L + 1) c 5 2 5 5 = .yes := by kernel_rfl
theorem g5255 : ∀ (L c : Nat), run4 L c 5 2 5 5 = .yes
  | 0, c => x5255 c
  | L + 1, c => y5255 L c
theorem h525 (L c : Nat) : ∀ x, x < 6 → run4 L c 5 2 5 x = .yes
  | 0, _ => g5250 L c
  | 1, _ => g5251 L c
  | 2, _ => g5252 L c
  | 3, _ => g5253 L c
  | 4, _ => g5254 L c
  | 5, _ => g5255 L c
  | x + 6, h => absurd h (by omega)
theorem hh52 (L c : Nat) : ∀ x, x < 6 → ∀ y, y < 6 → run4 L c 5 2 x y = .yes
  | 0, _ => h520 L c
  | 1, _ => h521 L c
  | 2, _ => h522 L c
  | 3, _ => h523 L c
  | 4, _ => h524 L c
  | 5, _ => h525 L c
  | x + 6, h => absurd h (by omega)
theorem x0300 (c : Nat) : run4 0 c 0 3 0 0 = .yes := by kernel_rfl
theorem y0300 (L c : Nat) : run4 (L + 1) c 0 3 0 0 = .yes := by kernel_rfl
theorem g0300 : ∀ (L c : Nat), run4 L c 0 3 0 0 = .yes
  | 0, c => x0300 c
  | L + 1, c => y0300 L c
theorem x0301 (c : Nat) : run4 0 c 0 3 0 1 = .yes := by kernel_rfl
theorem y0301 (L c : Nat) : run4 (L + 1) c 0 3 0 1 = .yes := by kernel_rfl
theorem g0301 : ∀ (L c : Nat), run4 L c 0 3 0 1 = .yes
  | 0, c => x0301 c
  | L + 1, c => y0301 L c
theorem x0302 (c : Nat) : run4 0 c 0 3 0 2 = .yes := by kernel_rfl
theorem y0302 (L c : Nat) : run4 (L + 1) c 0 3 0 2 = .yes := by kernel_rfl
theorem g0302 : ∀ (L c : Nat), run4 L c 0 3 0 2 = .yes
  | 0, c => x0302 c
  | L + 1, c => y0302 L c
theorem x0303 (c : Nat) : run4 0 c 0 3 0 3 = .yes := by kernel_rfl
theorem y0303 (L c : Nat) : run4 (L + 1) c 0 3 0 3 = .yes := by kernel_rfl
theorem g0303 : ∀ (L c : Nat), run4 L c 0 3 0 3 = .yes
  | 0, c => x0303 c
  | L + 1, c => y0303 L c
theorem x0304 (c : Nat) : run4 0 c 0 3 0 4 = .yes := by kernel_rfl
theorem y0304 (L c : Nat) : run4 (L + 1) c 0 3 0 4 = .yes := by kernel_rfl
theorem g0304 : ∀ (L c : Nat), run4 L c 0 3 0 4 = .yes
  | 0, c => x0304 c
  | L + 1, c => y0304 L c
theorem x0305 (c : Nat) : run4 0 c 0 3 0 5 = .yes := by kernel_rfl
theorem y0305 (L c : Nat) : run4 (L + 1) c 0 3 0 5 = .yes := by kernel_rfl
theorem g0305 : ∀ (L c : Nat), run4 L c 0 3 0 5 = .yes
  | 0, c => x0305 c
  | L + 1, c => y0305 L c
theorem h030 (L c : Nat) : ∀ x, x < 6 → run4 L c 0 3 0 x = .yes
  | 0, _ => g0300 L c
  | 1, _ => g0301 L c
  | 2, _ => g0302 L c
  | 3, _ => g0303 L c
  | 4, _ => g0304 L c
  | 5, _ => g0305 L c
  | x + 6, h => absurd h (by omega)
theorem x0310 (c : Nat) : run4 0 c 0 3 1 0 = .yes := by kernel_rfl
theorem y0310 (L c : Nat) : run4 (L + 1) c 0 3 1 0 = .yes := by kernel_rfl
theorem g0310 : ∀ (L c : Nat), run4 L c 0 3 1 0 = .yes
  | 0, c => x0310 c
  | L + 1, c => y0310 L c
theorem x0311 (c : Nat) : run4 0 c 0 3 1 1 = .yes := by kernel_rfl
theorem y0311 (L c : Nat) : run4 (L + 1) c 0 3 1 1 = .yes := by kernel_rfl
theorem g0311 : ∀ (L c : Nat), run4 L c 0 3 1 1 = .yes
  | 0, c => x0311 c
  | L + 1, c => y0311 L c
theorem x0312 (c : Nat) : run4 0 c 0 3 1 2 = .yes := by kernel_rfl
theorem y0312 (L c : Nat) : run4 (L + 1) c 0 3 1 2 = .yes := by kernel_rfl
theorem g0312 : ∀ (L c : Nat), run4 L c 0 3 1 2 = .yes
  | 0, c => x0312 c
  | L + 1, c => y0312 L c
theorem x0313 (c : Nat) : run4 0 c 0 3 1 3 = .yes := by kernel_rfl
theorem y0313 (L c : Nat) : run4 (L + 1) c 0 3 1 3 = .yes := by kernel_rfl
theorem g0313 : ∀ (L c : Nat), run4 L c 0 3 1 3 = .yes
  | 0, c => x0313 c
  | L + 1, c => y0313 L c
theorem x0314 (c : Nat) : run4 0 c 0 3 1 4 = .yes := by kernel_rfl
theorem y0314 (L c : Nat) : run4 (L + 1) c 0 3 1 4 = .yes := by kernel_rfl
theorem g0314 : ∀ (L c : Nat), run4 L c 0 3 1 4 = .yes
  | 0, c => x0314 c
  | L + 1, c => y0314 L c
theorem x0315 (c : Nat) : run4 0 c 0 3 1 5 = .yes := by kernel_rfl
theorem y0315 (L c : Nat) : run4 (L + 1) c 0 3 1 5 = .yes := by kernel_rfl
theorem g0315 : ∀ (L c : Nat), run4 L c 0 3 1 5 = .yes
  | 0, c => x0315 c
  | L + 1, c => y0315 L c
theorem h031 (L c : Nat) : ∀ x, x < 6 → run4 L c 0 3 1 x = .yes
  | 0, _ => g0310 L c
  | 1, _ => g0311 L c
  | 2, _ => g0312 L c
  | 3, _ => g0313 L c
  | 4, _ => g0314 L c
  | 5, _ => g0315 L c
  | x + 6, h => absurd h (by omega)
theorem x0320 (c : Nat) : run4 0 c 0 3 2 0 = .yes := by kernel_rfl
theorem y0320 (L c : Nat) : run4 (L + 1) c 0 3 2 0 = .yes := by kernel_rfl
theorem g0320 : ∀ (L c : Nat), run4 L c 0 3 2 0 = .yes
  | 0, c => x0320 c
  | L + 1, c => y0320 L c
theorem x0321 (c : Nat) : run4 0 c 0 3 2 1 = .yes := by kernel_rfl
theorem y0321 (L c : Nat) : run4 (L + 1) c 0 3 2 1 = .yes := by kernel_rfl
theorem g0321 : ∀ (L c : Nat), run4 L c 0 3 2 1 = .yes
  | 0, c => x0321 c
  | L + 1, c => y0321 L c
theorem x0322 (c : Nat) : run4 0 c 0 3 2 2 = .yes := by kernel_rfl
theorem y0322 (L c : Nat) : run4 (L + 1) c 0 3 2 2 = .yes := by kernel_rfl
theorem g0322 : ∀ (L c : Nat), run4 L c 0 3 2 2 = .yes
  | 0, c => x0322 c
  | L + 1, c => y0322 L c
theorem x0323 (c : Nat) : run4 0 c 0 3 2 3 = .yes := by kernel_rfl
theorem y0323 (L c : Nat) : run4 (L + 1) c 0 3 2 3 = .yes := by kernel_rfl
theorem g0323 : ∀ (L c : Nat), run4 L c 0 3 2 3 = .yes
  | 0, c => x0323 c
  | L + 1, c => y0323 L c
theorem x0324 (c : Nat) : run4 0 c 0 3 2 4 = .yes := by kernel_rfl
theorem y0324 (L c : Nat) : run4 (L + 1) c 0 3 2 4 = .yes := by kernel_rfl
theorem g0324 : ∀ (L c : Nat), run4 L c 0 3 2 4 = .yes
  | 0, c => x0324 c
  | L + 1, c => y0324 L c
theorem x0325 (c : Nat) : run4 0 c 0 3 2 5 = .yes := by kernel_rfl
theorem y0325 (L c : Nat) : run4 (L + 1) c 0 3 2 5 = .yes := by kernel_rfl
theorem g0325 : ∀ (L c : Nat), run4 L c 0 3 2 5 = .yes
  | 0, c => x0325 c
  | L + 1, c => y0325 L c
theorem h032 (L c : Nat) : ∀ x, x < 6 → run4 L c 0 3 2 x = .yes
  | 0, _ => g0320 L c
  | 1, _ => g0321 L c
  | 2, _ => g0322 L c
  | 3, _ => g0323 L c
  | 4, _ => g0324 L c
  | 5, _ => g0325 L c
  | x + 6, h => absurd h (by omega)
theorem x0330 (c : Nat) : run4 0 c 0 3 3 0 = .yes := by kernel_rfl
theorem y0330 (L c : Nat) : run4 (L + 1) c 0 3 3 0 = .yes := by kernel_rfl
theorem g0330 : ∀ (L c : Nat), run4 L c 0 3 3 0 = .yes
  | 0, c => x0330 c
  | L + 1, c => y0330 L c
theorem x0331 (c : Nat) : run4 0 c 0 3 3 1 = .yes := by kernel_rfl
theorem y0331 (L c : Nat) : run4 (L + 1) c 0 3 3 1 = .yes := by kernel_rfl
theorem g0331 : ∀ (L c : Nat), run4 L c 0 3 3 1 = .yes
  | 0, c => x0331 c
  | L + 1, c => y0331 L c
theorem x0332 (c : Nat) : run4 0 c 0 3 3 2 = .yes := by kernel_rfl
theorem y0332 (L c : Nat) : run4 (L + 1) c 0 3 3 2 = .yes := by kernel_rfl
theorem g0332 : ∀ (L c : Nat), run4 L c 0 3 3 2 = .yes
  | 0, c => x0332 c
  | L + 1, c => y0332 L c
theorem x0333 (c : Nat) : run4 0 c 0 3 3 3 = .yes := by kernel_rfl
theorem y0333 (L c : Nat) : run4 (L + 1) c 0 3 3 3 = .yes := by kernel_rfl
theorem g0333 : ∀ (L c : Nat), run4 L c 0 3 3 3 = .yes
  | 0, c => x0333 c
  | L + 1, c => y0333 L c
theorem x0334 (c : Nat) : run4 0 c 0 3 3 4 = .yes := by kernel_rfl
theorem y0334 (L c : Nat) : run4 (L + 1) c 0 3 3 4 = .yes := by kernel_rfl
theorem g0334 : ∀ (L c : Nat), run4 L c 0 3 3 4 = .yes
  | 0, c => x0334 c
  | L + 1, c => y0334 L c
theorem x0335 (c : Nat) : run4 0 c 0 3 3 5 = .yes := by kernel_rfl
theorem y0335 (L c : Nat) : run4 (L + 1) c 0 3 3 5 = .yes := by kernel_rfl
theorem g0335 : ∀ (L c : Nat), run4 L c 0 3 3 5 = .yes
  | 0, c => x0335 c
  | L + 1, c => y0335 L c
theorem h033 (L c : Nat) : ∀ x, x < 6 → run4 L c 0 3 3 x = .yes
  | 0, _ => g0330 L c
  | 1, _ => g0331 L c
  | 2, _ => g0332 L c
  | 3, _ => g0333 L c
  | 4, _ => g0334 L c
  | 5, _ => g0335 L c
  | x + 6, h => absurd h (by omega)
theorem x0340 (c : Nat) : run4 0 c 0 3 4 0 = .yes := by kernel_rfl
theorem y0340 (L c : Nat) : run4 (L + 1) c 0 3 4 0 = .yes := by kernel_rfl
theorem g0340 : ∀ (L c : Nat), run4 L c 0 3 4 0 = .yes
  | 0, c => x0340 c
  | L + 1, c => y0340 L c
theorem x0341 (c : Nat) : run4 0 c 0 3 4 1 = .yes := by kernel_rfl
theorem y0341 (L c : Nat) : run4 (L + 1) c 0 3 4 1 = .yes := by kernel_rfl
theorem g0341 : ∀ (L c : Nat), run4 L c 0 3 4 1 = .yes
  | 0, c => x0341 c
  | L + 1, c => y0341 L c
theorem x0342 (c : Nat) : run4 0 c 0 3 4 2 = .yes := by kernel_rfl
theorem y0342 (L c : Nat) : run4 (L + 1) c 0 3 4 2 = .yes := by kernel_rfl
theorem g0342 : ∀ (L c : Nat), run4 L c 0 3 4 2 = .yes
  | 0, c => x0342 c
  | L + 1, c => y0342 L c
theorem x0343 (c : Nat) : run4 0 c 0 3 4 3 = .yes := by kernel_rfl
theorem y0343 (L c : Nat) : run4 (L + 1) c 0 3 4 3 = .yes := by kernel_rfl
theorem g0343 : ∀ (L c : Nat), run4 L c 0 3 4 3 = .yes
  | 0, c => x0343 c
  | L + 1, c => y0343 L c
theorem x0344 (c : Nat) : run4 0 c 0 3 4 4 = .yes := by kernel_rfl
theorem y0344 (L c : Nat) : run4 (L + 1) c 0 3 4 4 = .yes := by kernel_rfl
theorem g0344 : ∀ (L c : Nat), run4 L c 0 3 4 4 = .yes
  | 0, c => x0344 c
  | L + 1, c => y0344 L c
theorem x0345 (c : Nat) : run4 0 c 0 3 4 5 = .yes := by kernel_rfl
theorem y0345 (L c : Nat) : run4 (L + 1) c 0 3 4 5 = .yes := by kernel_rfl
theorem g0345 : ∀ (L c : Nat), run4 L c 0 3 4 5 = .yes
  | 0, c => x0345 c
  | L + 1, c => y0345 L c
theorem h034 (L c : Nat) : ∀ x, x < 6 → run4 L c 0 3 4 x = .yes
  | 0, _ => g0340 L c
  | 1, _ => g0341 L c
  | 2, _ => g0342 L c
  | 3, _ => g0343 L c
  | 4, _ => g0344 L c
  | 5, _ => g0345 L c
  | x + 6, h => absurd h (by omega)
theorem x0350 (c : Nat) : run4 0 c 0 3 5 0 = .yes := by kernel_rfl
theorem y0350 (L c : Nat) : run4 (L + 1) c 0 3 5 0 = .yes := by kernel_rfl
theorem g0350 : ∀ (L c : Nat), run4 L c 0 3 5 0 = .yes
  | 0, c => x0350 c
  | L + 1, c => y0350 L c
theorem x0351 (c : Nat) : run4 0 c 0 3 5 1 = .yes := by kernel_rfl
theorem y0351 (L c : Nat) : run4 (L + 1) c 0 3 5 1 = .yes := by kernel_rfl
theorem g0351 : ∀ (L c : Nat), run4 L c 0 3 5 1 = .yes
  | 0, c => x0351 c
  | L + 1, c => y0351 L c
theorem x0352 (c : Nat) : run4 0 c 0 3 5 2 = .yes := by kernel_rfl
theorem y0352 (L c : Nat) : run4 (L + 1) c 0 3 5 2 = .yes := by kernel_rfl
theorem g0352 : ∀ (L c : Nat), run4 L c 0 3 5 2 = .yes
  | 0, c => x0352 c
  | L + 1, c => y0352 L c
theorem x0353 (c : Nat) : run4 0 c 0 3 5 3 = .yes := by kernel_rfl
theorem y0353 (L c : Nat) : run4 (L + 1) c 0 3 5 3 = .yes := by kernel_rfl
theorem g0353 : ∀ (L c : Nat), run4 L c 0 3 5 3 = .yes
  | 0, c => x0353 c
  | L + 1, c => y0353 L c
theorem x0354 (c : Nat) : run4 0 c 0 3 5 4 = .yes := by kernel_rfl
theorem y0354 (L c : Nat) : run4 (L + 1) c 0 3 5 4 = .yes := by kernel_rfl
theorem g0354 : ∀ (L c : Nat), run4 L c 0 3 5 4 = .yes
  | 0, c => x0354 c
  | L + 1, c => y0354 L c
theorem x0355 (c : Nat) : run4 0 c 0 3 5 5 = .yes := by kernel_rfl
theorem y0355 (L c : Nat) : run4 (L + 1) c 0 3 5 5 = .yes := by kernel_rfl
theorem g0355 : ∀ (L c : Nat), run4 L c 0 3 5 5 = .yes
  | 0, c => x0355 c
  | L + 1, c => y0355 L c
theorem h035 (L c : Nat) : ∀ x, x < 6 → run4 L c 0 3 5 x = .yes
  | 0, _ => g0350 L c
  | 1, _ => g0351 L c
  | 2, _ => g0352 L c
  | 3, _ => g0353 L c
  | 4, _ => g0354 L c
  | 5, _ => g0355 L c
  | x + 6, h => absurd h (by omega)
theorem hh03 (L c : Nat) : ∀ x, x < 6 → ∀ y, y < 6 → run4 L c 0 3 x y = .yes
  | 0, _ => h030 L c
  | 1, _ => h031 L c
  | 2, _ => h032 L c
  | 3, _ => h033 L c
  | 4, _ => h034 L c
  | 5, _ => h035 L c
  | x + 6, h => absurd h (by omega)
end Go.Proofs.YtojbfaigebpnpaaDoor.ecoThreadsq
