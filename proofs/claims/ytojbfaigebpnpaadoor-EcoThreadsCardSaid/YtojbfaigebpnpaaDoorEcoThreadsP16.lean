/-
  The law EcoThreads at some of its cases: the run over the program ends in true. Conditions: none; these are closed facts.
-/
import Derived.Test.YtojbfaigebpnpaaDoorEcoThreadsA
namespace Go.Proofs.YtojbfaigebpnpaaDoor.ecoThreadsq
open Go.Rn Go.RowKit YtojbfaigebpnpaaDoor.txt
set_option maxHeartbeats 400000000
theorem x4200 (c : Nat) : run4 0 c 4 2 0 0 = .yes := by kernel_rfl
theorem y4200 (L c : Nat) : run4 (L + 1) c 4 2 0 0 = .yes := by kernel_rfl
theorem g4200 : ∀ (L c : Nat), run4 L c 4 2 0 0 = .yes
  | 0, c => x4200 c
  | L + 1, c => y4200 L c
theorem x4201 (c : Nat) : run4 0 c 4 2 0 1 = .yes := by kernel_rfl
theorem y4201 (L c : Nat) : run4 (L + 1) c 4 2 0 1 = .yes := by kernel_rfl
theorem g4201 : ∀ (L c : Nat), run4 L c 4 2 0 1 = .yes
  | 0, c => x4201 c
  | L + 1, c => y4201 L c
theorem x4202 (c : Nat) : run4 0 c 4 2 0 2 = .yes := by kernel_rfl
theorem y4202 (L c : Nat) : run4 (L + 1) c 4 2 0 2 = .yes := by kernel_rfl
theorem g4202 : ∀ (L c : Nat), run4 L c 4 2 0 2 = .yes
  | 0, c => x4202 c
  | L + 1, c => y4202 L c
theorem x4203 (c : Nat) : run4 0 c 4 2 0 3 = .yes := by kernel_rfl
theorem y4203 (L c : Nat) : run4 (L + 1) c 4 2 0 3 = .yes := by kernel_rfl
theorem g4203 : ∀ (L c : Nat), run4 L c 4 2 0 3 = .yes
  | 0, c => x4203 c
  | L + 1, c => y4203 L c
theorem x4204 (c : Nat) : run4 0 c 4 2 0 4 = .yes := by kernel_rfl
theorem y4204 (L c : Nat) : run4 (L + 1) c 4 2 0 4 = .yes := by kernel_rfl
theorem g4204 : ∀ (L c : Nat), run4 L c 4 2 0 4 = .yes
  | 0, c => x4204 c
  | L + 1, c => y4204 L c
theorem x4205 (c : Nat) : run4 0 c 4 2 0 5 = .yes := by kernel_rfl
theorem y4205 (L c : Nat) : run4 (L + 1) c 4 2 0 5 = .yes := by kernel_rfl
theorem g4205 : ∀ (L c : Nat), run4 L c 4 2 0 5 = .yes
  | 0, c => x4205 c
  | L + 1, c => y4205 L c
theorem h420 (L c : Nat) : ∀ x, x < 6 → run4 L c 4 2 0 x = .yes
  | 0, _ => g4200 L c
  | 1, _ => g4201 L c
  | 2, _ => g4202 L c
  | 3, _ => g4203 L c
  | 4, _ => g4204 L c
  | 5, _ => g4205 L c
  | x + 6, h => absurd h (by omega)
theorem x4210 (c : Nat) : run4 0 c 4 2 1 0 = .yes := by kernel_rfl
theorem y4210 (L c : Nat) : run4 (L + 1) c 4 2 1 0 = .yes := by kernel_rfl
theorem g4210 : ∀ (L c : Nat), run4 L c 4 2 1 0 = .yes
  | 0, c => x4210 c
  | L + 1, c => y4210 L c
theorem x4211 (c : Nat) : run4 0 c 4 2 1 1 = .yes := by kernel_rfl
theorem y4211 (L c : Nat) : run4 (L + 1) c 4 2 1 1 = .yes := by kernel_rfl
theorem g4211 : ∀ (L c : Nat), run4 L c 4 2 1 1 = .yes
  | 0, c => x4211 c
  | L + 1, c => y4211 L c
theorem x4212 (c : Nat) : run4 0 c 4 2 1 2 = .yes := by kernel_rfl
theorem y4212 (L c : Nat) : run4 (L + 1) c 4 2 1 2 = .yes := by kernel_rfl
theorem g4212 : ∀ (L c : Nat), run4 L c 4 2 1 2 = .yes
  | 0, c => x4212 c
  | L + 1, c => y4212 L c
theorem x4213 (c : Nat) : run4 0 c 4 2 1 3 = .yes := by kernel_rfl
theorem y4213 (L c : Nat) : run4 (L + 1) c 4 2 1 3 = .yes := by kernel_rfl
theorem g4213 : ∀ (L c : Nat), run4 L c 4 2 1 3 = .yes
  | 0, c => x4213 c
  | L + 1, c => y4213 L c
theorem x4214 (c : Nat) : run4 0 c 4 2 1 4 = .yes := by kernel_rfl
theorem y4214 (L c : Nat) : run4 (L + 1) c 4 2 1 4 = .yes := by kernel_rfl
theorem g4214 : ∀ (L c : Nat), run4 L c 4 2 1 4 = .yes
  | 0, c => x4214 c
  | L + 1, c => y4214 L c
theorem x4215 (c : Nat) : run4 0 c 4 2 1 5 = .yes := by kernel_rfl
theorem y4215 (L c : Nat) : run4 (L + 1) c 4 2 1 5 = .yes := by kernel_rfl
theorem g4215 : ∀ (L c : Nat), run4 L c 4 2 1 5 = .yes
  | 0, c => x4215 c
  | L + 1, c => y4215 L c
theorem h421 (L c : Nat) : ∀ x, x < 6 → run4 L c 4 2 1 x = .yes
  | 0, _ => g4210 L c
  | 1, _ => g4211 L c
  | 2, _ => g4212 L c
  | 3, _ => g4213 L c
  | 4, _ => g4214 L c
  | 5, _ => g4215 L c
  | x + 6, h => absurd h (by omega)
theorem x4220 (c : Nat) : run4 0 c 4 2 2 0 = .yes := by kernel_rfl
theorem y4220 (L c : Nat) : run4 (L + 1) c 4 2 2 0 = .yes := by kernel_rfl
theorem g4220 : ∀ (L c : Nat), run4 L c 4 2 2 0 = .yes
  | 0, c => x4220 c
  | L + 1, c => y4220 L c
theorem x4221 (c : Nat) : run4 0 c 4 2 2 1 = .yes := by kernel_rfl
theorem y4221 (L c : Nat) : run4 (L + 1) c 4 2 2 1 = .yes := by kernel_rfl
theorem g4221 : ∀ (L c : Nat), run4 L c 4 2 2 1 = .yes
  | 0, c => x4221 c
  | L + 1, c => y4221 L c
theorem x4222 (c : Nat) : run4 0 c 4 2 2 2 = .yes := by kernel_rfl
theorem y4222 (L c : Nat) : run4 (L + 1) c 4 2 2 2 = .yes := by kernel_rfl
theorem g4222 : ∀ (L c : Nat), run4 L c 4 2 2 2 = .yes
  | 0, c => x4222 c
  | L + 1, c => y4222 L c
theorem x4223 (c : Nat) : run4 0 c 4 2 2 3 = .yes := by kernel_rfl
theorem y4223 (L c : Nat) : run4 (L + 1) c 4 2 2 3 = .yes := by kernel_rfl
theorem g4223 : ∀ (L c : Nat), run4 L c 4 2 2 3 = .yes
  | 0, c => x4223 c
  | L + 1, c => y4223 L c
theorem x4224 (c : Nat) : run4 0 c 4 2 2 4 = .yes := by kernel_rfl
theorem y4224 (L c : Nat) : run4 (L + 1) c 4 2 2 4 = .yes := by kernel_rfl
theorem g4224 : ∀ (L c : Nat), run4 L c 4 2 2 4 = .yes
  | 0, c => x4224 c
  | L + 1, c => y4224 L c
theorem x4225 (c : Nat) : run4 0 c 4 2 2 5 = .yes := by kernel_rfl
theorem y4225 (L c : Nat) : run4 (L + 1) c 4 2 2 5 = .yes := by kernel_rfl
theorem g4225 : ∀ (L c : Nat), run4 L c 4 2 2 5 = .yes
  | 0, c => x4225 c
  | L + 1, c => y4225 L c
theorem h422 (L c : Nat) : ∀ x, x < 6 → run4 L c 4 2 2 x = .yes
  | 0, _ => g4220 L c
  | 1, _ => g4221 L c
  | 2, _ => g4222 L c
  | 3, _ => g4223 L c
  | 4, _ => g4224 L c
  | 5, _ => g4225 L c
  | x + 6, h => absurd h (by omega)
theorem x4230 (c : Nat) : run4 0 c 4 2 3 0 = .yes := by kernel_rfl
theorem y4230 (L c : Nat) : run4 (L + 1) c 4 2 3 0 = .yes := by kernel_rfl
theorem g4230 : ∀ (L c : Nat), run4 L c 4 2 3 0 = .yes
  | 0, c => x4230 c
  | L + 1, c => y4230 L c
theorem x4231 (c : Nat) : run4 0 c 4 2 3 1 = .yes := by kernel_rfl
theorem y4231 (L c : Nat) : run4 (L + 1) c 4 2 3 1 = .yes := by kernel_rfl
theorem g4231 : ∀ (L c : Nat), run4 L c 4 2 3 1 = .yes
  | 0, c => x4231 c
  | L + 1, c => y4231 L c
theorem x4232 (c : Nat) : run4 0 c 4 2 3 2 = .yes := by kernel_rfl
theorem y4232 (L c : Nat) : run4 (L + 1) c 4 2 3 2 = .yes := by kernel_rfl
theorem g4232 : ∀ (L c : Nat), run4 L c 4 2 3 2 = .yes
  | 0, c => x4232 c
  | L + 1, c => y4232 L c
theorem x4233 (c : Nat) : run4 0 c 4 2 3 3 = .yes := by kernel_rfl
theorem y4233 (L c : Nat) : run4 (L + 1) c 4 2 3 3 = .yes := by kernel_rfl
theorem g4233 : ∀ (L c : Nat), run4 L c 4 2 3 3 = .yes
  | 0, c => x4233 c
  | L + 1, c => y4233 L c
theorem x4234 (c : Nat) : run4 0 c 4 2 3 4 = .yes := by kernel_rfl
theorem y4234 (L c : Nat) : run4 (L + 1) c 4 2 3 4 = .yes := by kernel_rfl
theorem g4234 : ∀ (L c : Nat), run4 L c 4 2 3 4 = .yes
  | 0, c => x4234 c
  | L + 1, c => y4234 L c
theorem x4235 (c : Nat) : run4 0 c 4 2 3 5 = .yes := by kernel_rfl
theorem y4235 (L c : Nat) : run4 (L + 1) c 4 2 3 5 = .yes := by kernel_rfl
theorem g4235 : ∀ (L c : Nat), run4 L c 4 2 3 5 = .yes
  | 0, c => x4235 c
  | L + 1, c => y4235 L c
theorem h423 (L c : Nat) : ∀ x, x < 6 → run4 L c 4 2 3 x = .yes
  | 0, _ => g4230 L c
  | 1, _ => g4231 L c
  | 2, _ => g4232 L c
  | 3, _ => g4233 L c
  | 4, _ => g4234 L c
  | 5, _ => g4235 L c
  | x + 6, h => absurd h (by omega)
theorem x4240 (c : Nat) : run4 0 c 4 2 4 0 = .yes := by kernel_rfl
theorem y4240 (L c : Nat) : run4 (L + 1) c 4 2 4 0 = .yes := by kernel_rfl
theorem g4240 : ∀ (L c : Nat), run4 L c 4 2 4 0 = .yes
  | 0, c => x4240 c
  | L + 1, c => y4240 L c
theorem x4241 (c : Nat) : run4 0 c 4 2 4 1 = .yes := by kernel_rfl
theorem y4241 (L c : Nat) : run4 (L + 1) c 4 2 4 1 = .yes := by kernel_rfl
theorem g4241 : ∀ (L c : Nat), run4 L c 4 2 4 1 = .yes
  | 0, c => x4241 c
  | L + 1, c => y4241 L c
theorem x4242 (c : Nat) : run4 0 c 4 2 4 2 = .yes := by kernel_rfl
theorem y4242 (L c : Nat) : run4 (L + 1) c 4 2 4 2 = .yes := by kernel_rfl
theorem g4242 : ∀ (L c : Nat), run4 L c 4 2 4 2 = .yes
  | 0, c => x4242 c
  | L + 1, c => y4242 L c
theorem x4243 (c : Nat) : run4 0 c 4 2 4 3 = .yes := by kernel_rfl
theorem y4243 (L c : Nat) : run4 (L + 1) c 4 2 4 3 = .yes := by kernel_rfl
theorem g4243 : ∀ (L c : Nat), run4 L c 4 2 4 3 = .yes
  | 0, c => x4243 c
  | L + 1, c => y4243 L c
theorem x4244 (c : Nat) : run4 0 c 4 2 4 4 = .yes := by kernel_rfl
theorem y4244 (L c : Nat) : run4 (L + 1) c 4 2 4 4 = .yes := by kernel_rfl
theorem g4244 : ∀ (L c : Nat), run4 L c 4 2 4 4 = .yes
  | 0, c => x4244 c
  | L + 1, c => y4244 L c
theorem x4245 (c : Nat) : run4 0 c 4 2 4 5 = .yes := by kernel_rfl
theorem y4245 (L c : Nat) : run4 (L + 1) c 4 2 4 5 = .yes := by kernel_rfl
theorem g4245 : ∀ (L c : Nat), run4 L c 4 2 4 5 = .yes
  | 0, c => x4245 c
  | L + 1, c => y4245 L c
theorem h424 (L c : Nat) : ∀ x, x < 6 → run4 L c 4 2 4 x = .yes
  | 0, _ => g4240 L c
  | 1, _ => g4241 L c
  | 2, _ => g4242 L c
  | 3, _ => g4243 L c
  | 4, _ => g4244 L c
  | 5, _ => g4245 L c
  | x + 6, h => absurd h (by omega)
theorem x4250 (c : Nat) : run4 0 c 4 2 5 0 = .yes := by kernel_rfl
theorem y4250 (L c : Nat) : run4 (L + 1) c 4 2 5 0 = .yes := by kernel_rfl
theorem g4250 : ∀ (L c : Nat), run4 L c 4 2 5 0 = .yes
  | 0, c => x4250 c
  | L + 1, c => y4250 L c
theorem x4251 (c : Nat) : run4 0 c 4 2 5 1 = .yes := by kernel_rfl
theorem y4251 (L c : Nat) : run4 (L + 1) c 4 2 5 1 = .yes := by kernel_rfl
theorem g4251 : ∀ (L c : Nat), run4 L c 4 2 5 1 = .yes
  | 0, c => x4251 c
  | L + 1, c => y4251 L c
theorem x4252 (c : Nat) : run4 0 c 4 2 5 2 = .yes := by kernel_rfl
theorem y4252 (L c : Nat) : run4 (L + 1) c 4 2 5 2 = .yes := by kernel_rfl
theorem g4252 : ∀ (L c : Nat), run4 L c 4 2 5 2 = .yes
  | 0, c => x4252 c
  | L + 1, c => y4252 L c
theorem x4253 (c : Nat) : run4 0 c 4 2 5 3 = .yes := by kernel_rfl
theorem y4253 (L c : Nat) : run4 (L + 1) c 4 2 5 3 = .yes := by kernel_rfl
theorem g4253 : ∀ (L c : Nat), run4 L c 4 2 5 3 = .yes
  | 0, c => x4253 c
  | L + 1, c => y4253 L c
theorem x4254 (c : Nat) : run4 0 c 4 2 5 4 = .yes := by kernel_rfl
theorem y4254 (L c : Nat) : run4 (L + 1) c 4 2 5 4 = .yes := by kernel_rfl
theorem g4254 : ∀ (L c : Nat), run4 L c 4 2 5 4 = .yes
  | 0, c => x4254 c
  | L + 1, c => y4254 L c
theorem x4255 (c : Nat) : run4 0 c 4 2 5 5 = .yes := by kernel_rfl
theorem y4255 (L c : Nat) : run4 (L + 1) c 4 2 5 5 = .yes := by kernel_rfl
theorem g4255 : ∀ (L c : Nat), run4 L c 4 2 5 5 = .yes
  | 0, c => x4255 c
  | L + 1, c => y4255 L c
theorem h425 (L c : Nat) : ∀ x, x < 6 → run4 L c 4 2 5 x = .yes
  | 0, _ => g4250 L c
  | 1, _ => g4251 L c
  | 2, _ => g4252 L c
  | 3, _ => g4253 L c
  | 4, _ => g4254 L c
  | 5, _ => g4255 L c
  | x + 6, h => absurd h (by omega)
theorem hh42 (L c : Nat) : ∀ x, x < 6 → ∀ y, y < 6 → run4 L c 4 2 x y = .yes
  | 0, _ => h420 L c
  | 1, _ => h421 L c
  | 2, _ => h422 L c
  | 3, _ => h423 L c
  | 4, _ => h424 L c
  | 5, _ => h425 L c
  | x + 6, h => absurd h (by omega)
theorem x1300 (c : Nat) : run4 0 c 1 3 0 0 = .yes := by kernel_rfl
theorem y1300 (L c : Nat) : run4 (L + 1) c 1 3 0 0 = .yes := by kernel_rfl
theorem g1300 : ∀ (L c : Nat), run4 L c 1 3 0 0 = .yes
  | 0, c => x1300 c
  | L + 1, c => y1300 L c
theorem x1301 (c : Nat) : run4 0 c 1 3 0 1 = .yes := by kernel_rfl
theorem y1301 (L c : Nat) : run4 (L + 1) c 1 3 0 1 = .yes := by kernel_rfl
theorem g1301 : ∀ (L c : Nat), run4 L c 1 3 0 1 = .yes
  | 0, c => x1301 c
  | L + 1, c => y1301 L c
theorem x1302 (c : Nat) : run4 0 c 1 3 0 2 = .yes := by kernel_rfl
theorem y1302 (L c : Nat) : run4 (L + 1) c 1 3 0 2 = .yes := by kernel_rfl
theorem g1302 : ∀ (L c : Nat), run4 L c 1 3 0 2 = .yes
  | 0, c => x1302 c
  | L + 1, c => y1302 L c
theorem x1303 (c : Nat) : run4 0 c 1 3 0 3 = .yes := by kernel_rfl
theorem y1303 (L c : Nat) : run4 (L + 1) c 1 3 0 3 = .yes := by kernel_rfl
theorem g1303 : ∀ (L c : Nat), run4 L c 1 3 0 3 = .yes
  | 0, c => x1303 c
  | L + 1, c => y1303 L c
theorem x1304 (c : Nat) : run4 0 c 1 3 0 4 = .yes := by kernel_rfl
theorem y1304 (L c : Nat) : run4 (L + 1) c 1 3 0 4 = .yes := by kernel_rfl
theorem g1304 : ∀ (L c : Nat), run4 L c 1 3 0 4 = .yes
  | 0, c => x1304 c
  | L + 1, c => y1304 L c
theorem x1305 (c : Nat) : run4 0 c 1 3 0 5 = .yes := by kernel_rfl
theorem y1305 (L c : Nat) : run4 (L + 1) c 1 3 0 5 = .yes := by kernel_rfl
theorem g1305 : ∀ (L c : Nat), run4 L c 1 3 0 5 = .yes
  | 0, c => x1305 c
  | L + 1, c => y1305 L c
theorem h130 (L c : Nat) : ∀ x, x < 6 → run4 L c 1 3 0 x = .yes
  | 0, _ => g1300 L c
  | 1, _ => g1301 L c
  | 2, _ => g1302 L c
  | 3, _ => g1303 L c
  | 4, _ => g1304 L c
  | 5, _ => g1305 L c
  | x + 6, h => absurd h (by omega)
theorem x1310 (c : Nat) : run4 0 c 1 3 1 0 = .yes := by kernel_rfl
theorem y1310 (L c : Nat) : run4 (L + 1) c 1 3 1 0 = .yes := by kernel_rfl
theorem g1310 : ∀ (L c : Nat), run4 L c 1 3 1 0 = .yes
  | 0, c => x1310 c
  | L + 1, c => y1310 L c
theorem x1311 (c : Nat) : run4 0 c 1 3 1 1 = .yes := by kernel_rfl
theorem y1311 (L c : Nat) : run4 (L + 1) c 1 3 1 1 = .yes := by kernel_rfl
theorem g1311 : ∀ (L c : Nat), run4 L c 1 3 1 1 = .yes
  | 0, c => x1311 c
  | L + 1, c => y1311 L c
theorem x1312 (c : Nat) : run4 0 c 1 3 1 2 = .yes := by kernel_rfl
theorem y1312 (L c : Nat) : run4 (L + 1) c 1 3 1 2 = .yes := by kernel_rfl
theorem g1312 : ∀ (L c : Nat), run4 L c 1 3 1 2 = .yes
  | 0, c => x1312 c
  | L + 1, c => y1312 L c
theorem x1313 (c : Nat) : run4 0 c 1 3 1 3 = .yes := by kernel_rfl
theorem y1313 (L c : Nat) : run4 (L + 1) c 1 3 1 3 = .yes := by kernel_rfl
theorem g1313 : ∀ (L c : Nat), run4 L c 1 3 1 3 = .yes
  | 0, c => x1313 c
  | L + 1, c => y1313 L c
theorem x1314 (c : Nat) : run4 0 c 1 3 1 4 = .yes := by kernel_rfl
theorem y1314 (L c : Nat) : run4 (L + 1) c 1 3 1 4 = .yes := by kernel_rfl
theorem g1314 : ∀ (L c : Nat), run4 L c 1 3 1 4 = .yes
  | 0, c => x1314 c
  | L + 1, c => y1314 L c
theorem x1315 (c : Nat) : run4 0 c 1 3 1 5 = .yes := by kernel_rfl
theorem y1315 (L c : Nat) : run4 (L + 1) c 1 3 1 5 = .yes := by kernel_rfl
theorem g1315 : ∀ (L c : Nat), run4 L c 1 3 1 5 = .yes
  | 0, c => x1315 c
  | L + 1, c => y1315 L c
theorem h131 (L c : Nat) : ∀ x, x < 6 → run4 L c 1 3 1 x = .yes
  | 0, _ => g1310 L c
  | 1, _ => g1311 L c
  | 2, _ => g1312 L c
  | 3, _ => g1313 L c
  | 4, _ => g1314 L c
  | 5, _ => g1315 L c
  | x + 6, h => absurd h (by omega)
theorem x1320 (c : Nat) : run4 0 c 1 3 2 0 = .yes := by kernel_rfl
theorem y1320 (L c : Nat) : run4 (L + 1) c 1 3 2 0 = .yes := by kernel_rfl
theorem g1320 : ∀ (L c : Nat), run4 L c 1 3 2 0 = .yes
  | 0, c => x1320 c
  | L + 1, c => y1320 L c
theorem x1321 (c : Nat) : run4 0 c 1 3 2 1 = .yes := by kernel_rfl
theorem y1321 (L c : Nat) : run4 (L + 1) c 1 3 2 1 = .yes := by kernel_rfl
theorem g1321 : ∀ (L c : Nat), run4 L c 1 3 2 1 = .yes
  | 0, c => x1321 c
  | L + 1, c => y1321 L c
theorem x1322 (c : Nat) : run4 0 c 1 3 2 2 = .yes := by kernel_rfl
theorem y1322 (L c : Nat) : run4 (L + 1) c 1 3 2 2 = .yes := by kernel_rfl
theorem g1322 : ∀ (L c : Nat), run4 L c 1 3 2 2 = .yes
  | 0, c => x1322 c
  | L + 1, c => y1322 L c
theorem x1323 (c : Nat) : run4 0 c 1 3 2 3 = .yes := by kernel_rfl
theorem y1323 (L c : Nat) : run4 (L + 1) c 1 3 2 3 = .yes := by kernel_rfl
theorem g1323 : ∀ (L c : Nat), run4 L c 1 3 2 3 = .yes
  | 0, c => x1323 c
  | L + 1, c => y1323 L c
theorem x1324 (c : Nat) : run4 0 c 1 3 2 4 = .yes := by kernel_rfl
theorem y1324 (L c : Nat) : run4 (L + 1) c 1 3 2 4 = .yes := by kernel_rfl
theorem g1324 : ∀ (L c : Nat), run4 L c 1 3 2 4 = .yes
  | 0, c => x1324 c
  | L + 1, c => y1324 L c
theorem x1325 (c : Nat) : run4 0 c 1 3 2 5 = .yes := by kernel_rfl
theorem y1325 (L c : Nat) : run4 (L + 1) c 1 3 2 5 = .yes := by kernel_rfl
theorem g1325 : ∀ (L c : Nat), run4 L c 1 3 2 5 = .yes
  | 0, c => x1325 c
  | L + 1, c => y1325 L c
theorem h132 (L c : Nat) : ∀ x, x < 6 → run4 L c 1 3 2 x = .yes
  | 0, _ => g1320 L c
  | 1, _ => g1321 L c
  | 2, _ => g1322 L c
  | 3, _ => g1323 L c
  | 4, _ => g1324 L c
  | 5, _ => g1325 L c
  | x + 6, h => absurd h (by omega)
theorem x1330 (c : Nat) : run4 0 c 1 3 3 0 = .yes := by kernel_rfl
theorem y1330 (L c : Nat) : run4 (L + 1) c 1 3 3 0 = .yes := by kernel_rfl
theorem g1330 : ∀ (L c : Nat), run4 L c 1 3 3 0 = .yes
  | 0, c => x1330 c
  | L + 1, c => y1330 L c
theorem x1331 (c : Nat) : run4 0 c 1 3 3 1 = .yes := by kernel_rfl
theorem y1331 (L c : Nat) : run4 (L + 1) c 1 3 3 1 = .yes := by kernel_rfl
theorem g1331 : ∀ (L c : Nat), run4 L c 1 3 3 1 = .yes
  | 0, c => x1331 c
  | L + 1, c => y1331 L c
theorem x1332 (c : Nat) : run4 0 c 1 3 3 2 = .yes := by kernel_rfl
theorem y1332 (L c : Nat) : run4 (L + 1) c 1 3 3 2 = .yes := by kernel_rfl
theorem g1332 : ∀ (L c : Nat), run4 L c 1 3 3 2 = .yes
  | 0, c => x1332 c
  | L + 1, c => y1332 L c
theorem x1333 (c : Nat) : run4 0 c 1 3 3 3 = .yes := by kernel_rfl
theorem y1333 (L c : Nat) : run4 (L + 1) c 1 3 3 3 = .yes := by kernel_rfl
theorem g1333 : ∀ (L c : Nat), run4 L c 1 3 3 3 = .yes
  | 0, c => x1333 c
  | L + 1, c => y1333 L c
theorem x1334 (c : Nat) : run4 0 c 1 3 3 4 = .yes := by kernel_rfl
theorem y1334 (L c : Nat) : run4 (L + 1) c 1 3 3 4 = .yes := by kernel_rfl
theorem g1334 : ∀ (L c : Nat), run4 L c 1 3 3 4 = .yes
  | 0, c => x1334 c
  | L + 1, c => y1334 L c
theorem x1335 (c : Nat) : run4 0 c 1 3 3 5 = .yes := by kernel_rfl
theorem y1335 (L c : Nat) : run4 (L + 1) c 1 3 3 5 = .yes := by kernel_rfl
theorem g1335 : ∀ (L c : Nat), run4 L c 1 3 3 5 = .yes
  | 0, c => x1335 c
  | L + 1, c => y1335 L c
theorem h133 (L c : Nat) : ∀ x, x < 6 → run4 L c 1 3 3 x = .yes
  | 0, _ => g1330 L c
  | 1, _ => g1331 L c
  | 2, _ => g1332 L c
  | 3, _ => g1333 L c
  | 4, _ => g1334 L c
  | 5, _ => g1335 L c
  | x + 6, h => absurd h (by omega)
theorem x1340 (c : Nat) : run4 0 c 1 3 4 0 = .yes := by kernel_rfl
theorem y1340 (L c : Nat) : run4 (L + 1) c 1 3 4 0 = .yes := by kernel_rfl
theorem g1340 : ∀ (L c : Nat), run4 L c 1 3 4 0 = .yes
  | 0, c => x1340 c
  | L + 1, c => y1340 L c
theorem x1341 (c : Nat) : run4 0 c 1 3 4 1 = .yes := by kernel_rfl
theorem y1341 (L c : Nat) : run4 (L + 1) c 1 3 4 1 = .yes := by kernel_rfl
theorem g1341 : ∀ (L c : Nat), run4 L c 1 3 4 1 = .yes
  | 0, c => x1341 c
  | L + 1, c => y1341 L c
theorem x1342 (c : Nat) : run4 0 c 1 3 4 2 = .yes := by kernel_rfl
theorem y1342 (L c : Nat) : run4 (L + 1) c 1 3 4 2 = .yes := by kernel_rfl
theorem g1342 : ∀ (L c : Nat), run4 L c 1 3 4 2 = .yes
  | 0, c => x1342 c
  | L + 1, c => y1342 L c
theorem x1343 (c : Nat) : run4 0 c 1 3 4 3 = .yes := by kernel_rfl
theorem y1343 (L c : Nat) : run4 (L + 1) c 1 3 4 3 = .yes := by kernel_rfl
theorem g1343 : ∀ (L c : Nat), run4 L c 1 3 4 3 = .yes
  | 0, c => x1343 c
  | L + 1, c => y1343 L c
theorem x1344 (c : Nat) : run4 0 c 1 3 4 4 = .yes := by kernel_rfl
theorem y1344 (L c : Nat) : run4 (L + 1) c 1 3 4 4 = .yes := by kernel_rfl
theorem g1344 : ∀ (L c : Nat), run4 L c 1 3 4 4 = .yes
  | 0, c => x1344 c
  | L + 1, c => y1344 L c
theorem x1345 (c : Nat) : run4 0 c 1 3 4 5 = .yes := by kernel_rfl
theorem y1345 (L c : Nat) : run4 (L + 1) c 1 3 4 5 = .yes := by kernel_rfl
theorem g1345 : ∀ (L c : Nat), run4 L c 1 3 4 5 = .yes
  | 0, c => x1345 c
  | L + 1, c => y1345 L c
theorem h134 (L c : Nat) : ∀ x, x < 6 → run4 L c 1 3 4 x = .yes
  | 0, _ => g1340 L c
  | 1, _ => g1341 L c
  | 2, _ => g1342 L c
  | 3, _ => g1343 L c
  | 4, _ => g1344 L c
  | 5, _ => g1345 L c
  | x + 6, h => absurd h (by omega)
theorem x1350 (c : Nat) : run4 0 c 1 3 5 0 = .yes := by kernel_rfl
theorem y1350 (L c : Nat) : run4 (L + 1) c 1 3 5 0 = .yes := by kernel_rfl
theorem g1350 : ∀ (L c : Nat), run4 L c 1 3 5 0 = .yes
  | 0, c => x1350 c
  | L + 1, c => y1350 L c
theorem x1351 (c : Nat) : run4 0 c 1 3 5 1 = .yes := by kernel_rfl
theorem y1351 (L c : Nat) : run4 (L + 1) c 1 3 5 1 = .yes := by kernel_rfl
theorem g1351 : ∀ (L c : Nat), run4 L c 1 3 5 1 = .yes
  | 0, c => x1351 c
  | L + 1, c => y1351 L c
theorem x1352 (c : Nat) : run4 0 c 1 3 5 2 = .yes := by kernel_rfl
theorem y1352 (L c : Nat) : run4 (L + 1) c 1 3 5 2 = .yes := by kernel_rfl
theorem g1352 : ∀ (L c : Nat), run4 L c 1 3 5 2 = .yes
  | 0, c => x1352 c
  | L + 1, c => y1352 L c
theorem x1353 (c : Nat) : run4 0 c 1 3 5 3 = .yes := by kernel_rfl
theorem y1353 (L c : Nat) : run4 (L + 1) c 1 3 5 3 = .yes := by kernel_rfl
theorem g1353 : ∀ (L c : Nat), run4 L c 1 3 5 3 = .yes
  | 0, c => x1353 c
  | L + 1, c => y1353 L c
theorem x1354 (c : Nat) : run4 0 c 1 3 5 4 = .yes := by kernel_rfl
theorem y1354 (L c : Nat) : run4 (L + 1) c 1 3 5 4 = .yes := by kernel_rfl
theorem g1354 : ∀ (L c : Nat), run4 L c 1 3 5 4 = .yes
  | 0, c => x1354 c
  | L + 1, c => y1354 L c
theorem x1355 (c : Nat) : run4 0 c 1 3 5 5 = .yes := by kernel_rfl
theorem y1355 (L c : Nat) : run4 (L + 1) c 1 3 5 5 = .yes := by kernel_rfl
theorem g1355 : ∀ (L c : Nat), run4 L c 1 3 5 5 = .yes
  | 0, c => x1355 c
  | L + 1, c => y1355 L c
theorem h135 (L c : Nat) : ∀ x, x < 6 → run4 L c 1 3 5 x = .yes
  | 0, _ => g1350 L c
  | 1, _ => g1351 L c
  | 2, _ => g1352 L c
  | 3, _ => g1353 L c
  | 4, _ => g1354 L c
  | 5, _ => g1355 L c
  | x + 6, h => absurd h (by omega)
theorem hh13 (L c : Nat) : ∀ x, x < 6 → ∀ y, y < 6 → run4 L c 1 3 x y = .yes
  | 0, _ => h130 L c
  | 1, _ => h131 L c
  | 2, _ => h132 L c
  | 3, _ => h133 L c
  | 4, _ => h134 L c
  | 5, _ => h135 L c
  | x + 6, h => absurd h (by omega)
end Go.Proofs.YtojbfaigebpnpaaDoor.ecoThreadsq
