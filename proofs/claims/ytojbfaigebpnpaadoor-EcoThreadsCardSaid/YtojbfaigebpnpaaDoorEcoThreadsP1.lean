/-
  The law EcoThreads at some of its cases: the run over the program ends in true. Conditions: none; these are closed facts.
-/
import Derived.Test.YtojbfaigebpnpaaDoorEcoThreadsA
namespace Go.Proofs.YtojbfaigebpnpaaDoor.ecoThreadsq
open Go.Rn Go.RowKit YtojbfaigebpnpaaDoor.txt
set_option maxHeartbeats 400000000
theorem d000 (c : Nat) : run3 c 0 0 0 = .yes := by kernel_rfl
theorem d001 (c : Nat) : run3 c 0 0 1 = .yes := by kernel_rfl
theorem d002 (c : Nat) : run3 c 0 0 2 = .yes := by kernel_rfl
theorem d003 (c : Nat) : run3 c 0 0 3 = .yes := by kernel_rfl
theorem d004 (c : Nat) : run3 c 0 0 4 = .yes := by kernel_rfl
theorem d005 (c : Nat) : run3 c 0 0 5 = .yes := by kernel_rfl
theorem dd00 (c : Nat) : ∀ x, x < 6 → run3 c 0 0 x = .yes
  | 0, _ => d000 c
  | 1, _ => d001 c
  | 2, _ => d002 c
  | 3, _ => d003 c
  | 4, _ => d004 c
  | 5, _ => d005 c
  | x + 6, h => absurd h (by omega)
theorem d010 (c : Nat) : run3 c 0 1 0 = .yes := by kernel_rfl
theorem d011 (c : Nat) : run3 c 0 1 1 = .yes := by kernel_rfl
theorem d012 (c : Nat) : run3 c 0 1 2 = .yes := by kernel_rfl
theorem d013 (c : Nat) : run3 c 0 1 3 = .yes := by kernel_rfl
theorem d014 (c : Nat) : run3 c 0 1 4 = .yes := by kernel_rfl
theorem d015 (c : Nat) : run3 c 0 1 5 = .yes := by kernel_rfl
theorem dd01 (c : Nat) : ∀ x, x < 6 → run3 c 0 1 x = .yes
  | 0, _ => d010 c
  | 1, _ => d011 c
  | 2, _ => d012 c
  | 3, _ => d013 c
  | 4, _ => d014 c
  | 5, _ => d015 c
  | x + 6, h => absurd h (by omega)
theorem d020 (c : Nat) : run3 c 0 2 0 = .yes := by kernel_rfl
theorem d021 (c : Nat) : run3 c 0 2 1 = .yes := by kernel_rfl
theorem d022 (c : Nat) : run3 c 0 2 2 = .yes := by kernel_rfl
theorem d023 (c : Nat) : run3 c 0 2 3 = .yes := by kernel_rfl
theorem d024 (c : Nat) : run3 c 0 2 4 = .yes := by kernel_rfl
theorem d025 (c : Nat) : run3 c 0 2 5 = .yes := by kernel_rfl
theorem dd02 (c : Nat) : ∀ x, x < 6 → run3 c 0 2 x = .yes
  | 0, _ => d020 c
  | 1, _ => d021 c
  | 2, _ => d022 c
  | 3, _ => d023 c
  | 4, _ => d024 c
  | 5, _ => d025 c
  | x + 6, h => absurd h (by omega)
theorem d030 (c : Nat) : run3 c 0 3 0 = .yes := by kernel_rfl
theorem d031 (c : Nat) : run3 c 0 3 1 = .yes := by kernel_rfl
theorem d032 (c : Nat) : run3 c 0 3 2 = .yes := by kernel_rfl
theorem d033 (c : Nat) : run3 c 0 3 3 = .yes := by kernel_rfl
theorem d034 (c : Nat) : run3 c 0 3 4 = .yes := by kernel_rfl
theorem d035 (c : Nat) : run3 c 0 3 5 = .yes := by kernel_rfl
theorem dd03 (c : Nat) : ∀ x, x < 6 → run3 c 0 3 x = .yes
  | 0, _ => d030 c
  | 1, _ => d031 c
  | 2, _ => d032 c
  | 3, _ => d033 c
  | 4, _ => d034 c
  | 5, _ => d035 c
  | x + 6, h => absurd h (by omega)
theorem d040 (c : Nat) : run3 c 0 4 0 = .yes := by kernel_rfl
theorem d041 (c : Nat) : run3 c 0 4 1 = .yes := by kernel_rfl
theorem d042 (c : Nat) : run3 c 0 4 2 = .yes := by kernel_rfl
theorem d043 (c : Nat) : run3 c 0 4 3 = .yes := by kernel_rfl
theorem d044 (c : Nat) : run3 c 0 4 4 = .yes := by kernel_rfl
theorem d045 (c : Nat) : run3 c 0 4 5 = .yes := by kernel_rfl
theorem dd04 (c : Nat) : ∀ x, x < 6 → run3 c 0 4 x = .yes
  | 0, _ => d040 c
  | 1, _ => d041 c
  | 2, _ => d042 c
  | 3, _ => d043 c
  | 4, _ => d044 c
  | 5, _ => d045 c
  | x + 6, h => absurd h (by omega)
theorem d050 (c : Nat) : run3 c 0 5 0 = .yes := by kernel_rfl
theorem d051 (c : Nat) : run3 c 0 5 1 = .yes := by kernel_rfl
theorem d052 (c : Nat) : run3 c 0 5 2 = .yes := by kernel_rfl
theorem d053 (c : Nat) : run3 c 0 5 3 = .yes := by kernel_rfl
theorem d054 (c : Nat) : run3 c 0 5 4 = .yes := by kernel_rfl
theorem d055 (c : Nat) : run3 c 0 5 5 = .yes := by kernel_rfl
theorem dd05 (c : Nat) : ∀ x, x < 6 → run3 c 0 5 x = .yes
  | 0, _ => d050 c
  | 1, _ => d051 c
  | 2, _ => d052 c
  | 3, _ => d053 c
  | 4, _ => d054 c
  | 5, _ => d055 c
  | x + 6, h => absurd h (by omega)
theorem ddd0 (c : Nat) : ∀ x, x < 6 → ∀ y, y < 6 → run3 c 0 x y = .yes
  | 0, _ => dd00 c
  | 1, _ => dd01 c
  | 2, _ => dd02 c
  | 3, _ => dd03 c
  | 4, _ => dd04 c
  | 5, _ => dd05 c
  | x + 6, h => absurd h (by omega)
theorem d100 (c : Nat) : run3 c 1 0 0 = .yes := by kernel_rfl
theorem d101 (c : Nat) : run3 c 1 0 1 = .yes := by kernel_rfl
theorem d102 (c : Nat) : run3 c 1 0 2 = .yes := by kernel_rfl
theorem d103 (c : Nat) : run3 c 1 0 3 = .yes := by kernel_rfl
theorem d104 (c : Nat) : run3 c 1 0 4 = .yes := by kernel_rfl
theorem d105 (c : Nat) : run3 c 1 0 5 = .yes := by kernel_rfl
theorem dd10 (c : Nat) : ∀ x, x < 6 → run3 c 1 0 x = .yes
  | 0, _ => d100 c
  | 1, _ => d101 c
  | 2, _ => d102 c
  | 3, _ => d103 c
  | 4, _ => d104 c
  | 5, _ => d105 c
  | x + 6, h => absurd h (by omega)
theorem d110 (c : Nat) : run3 c 1 1 0 = .yes := by kernel_rfl
theorem d111 (c : Nat) : run3 c 1 1 1 = .yes := by kernel_rfl
theorem d112 (c : Nat) : run3 c 1 1 2 = .yes := by kernel_rfl
theorem d113 (c : Nat) : run3 c 1 1 3 = .yes := by kernel_rfl
theorem d114 (c : Nat) : run3 c 1 1 4 = .yes := by kernel_rfl
theorem d115 (c : Nat) : run3 c 1 1 5 = .yes := by kernel_rfl
theorem dd11 (c : Nat) : ∀ x, x < 6 → run3 c 1 1 x = .yes
  | 0, _ => d110 c
  | 1, _ => d111 c
  | 2, _ => d112 c
  | 3, _ => d113 c
  | 4, _ => d114 c
  | 5, _ => d115 c
  | x + 6, h => absurd h (by omega)
theorem d120 (c : Nat) : run3 c 1 2 0 = .yes := by kernel_rfl
theorem d121 (c : Nat) : run3 c 1 2 1 = .yes := by kernel_rfl
theorem d122 (c : Nat) : run3 c 1 2 2 = .yes := by kernel_rfl
theorem d123 (c : Nat) : run3 c 1 2 3 = .yes := by kernel_rfl
theorem d124 (c : Nat) : run3 c 1 2 4 = .yes := by kernel_rfl
theorem d125 (c : Nat) : run3 c 1 2 5 = .yes := by kernel_rfl
theorem dd12 (c : Nat) : ∀ x, x < 6 → run3 c 1 2 x = .yes
  | 0, _ => d120 c
  | 1, _ => d121 c
  | 2, _ => d122 c
  | 3, _ => d123 c
  | 4, _ => d124 c
  | 5, _ => d125 c
  | x + 6, h => absurd h (by omega)
theorem d130 (c : Nat) : run3 c 1 3 0 = .yes := by kernel_rfl
theorem d131 (c : Nat) : run3 c 1 3 1 = .yes := by kernel_rfl
theorem d132 (c : Nat) : run3 c 1 3 2 = .yes := by kernel_rfl
theorem d133 (c : Nat) : run3 c 1 3 3 = .yes := by kernel_rfl
theorem d134 (c : Nat) : run3 c 1 3 4 = .yes := by kernel_rfl
theorem d135 (c : Nat) : run3 c 1 3 5 = .yes := by kernel_rfl
theorem dd13 (c : Nat) : ∀ x, x < 6 → run3 c 1 3 x = .yes
  | 0, _ => d130 c
  | 1, _ => d131 c
  | 2, _ => d132 c
  | 3, _ => d133 c
  | 4, _ => d134 c
  | 5, _ => d135 c
  | x + 6, h => absurd h (by omega)
theorem d140 (c : Nat) : run3 c 1 4 0 = .yes := by kernel_rfl
theorem d141 (c : Nat) : run3 c 1 4 1 = .yes := by kernel_rfl
theorem d142 (c : Nat) : run3 c 1 4 2 = .yes := by kernel_rfl
theorem d143 (c : Nat) : run3 c 1 4 3 = .yes := by kernel_rfl
theorem d144 (c : Nat) : run3 c 1 4 4 = .yes := by kernel_rfl
theorem d145 (c : Nat) : run3 c 1 4 5 = .yes := by kernel_rfl
theorem dd14 (c : Nat) : ∀ x, x < 6 → run3 c 1 4 x = .yes
  | 0, _ => d140 c
  | 1, _ => d141 c
  | 2, _ => d142 c
  | 3, _ => d143 c
  | 4, _ => d144 c
  | 5, _ => d145 c
  | x + 6, h => absurd h (by omega)
theorem d150 (c : Nat) : run3 c 1 5 0 = .yes := by kernel_rfl
theorem d151 (c : Nat) : run3 c 1 5 1 = .yes := by kernel_rfl
theorem d152 (c : Nat) : run3 c 1 5 2 = .yes := by kernel_rfl
theorem d153 (c : Nat) : run3 c 1 5 3 = .yes := by kernel_rfl
theorem d154 (c : Nat) : run3 c 1 5 4 = .yes := by kernel_rfl
theorem d155 (c : Nat) : run3 c 1 5 5 = .yes := by kernel_rfl
theorem dd15 (c : Nat) : ∀ x, x < 6 → run3 c 1 5 x = .yes
  | 0, _ => d150 c
  | 1, _ => d151 c
  | 2, _ => d152 c
  | 3, _ => d153 c
  | 4, _ => d154 c
  | 5, _ => d155 c
  | x + 6, h => absurd h (by omega)
theorem ddd1 (c : Nat) : ∀ x, x < 6 → ∀ y, y < 6 → run3 c 1 x y = .yes
  | 0, _ => dd10 c
  | 1, _ => dd11 c
  | 2, _ => dd12 c
  | 3, _ => dd13 c
  | 4, _ => dd14 c
  | 5, _ => dd15 c
  | x + 6, h => absurd h (by omega)
theorem d200 (c : Nat) : run3 c 2 0 0 = .yes := by kernel_rfl
theorem d201 (c : Nat) : run3 c 2 0 1 = .yes := by kernel_rfl
theorem d202 (c : Nat) : run3 c 2 0 2 = .yes := by kernel_rfl
theorem d203 (c : Nat) : run3 c 2 0 3 = .yes := by kernel_rfl
theorem d204 (c : Nat) : run3 c 2 0 4 = .yes := by kernel_rfl
theorem d205 (c : Nat) : run3 c 2 0 5 = .yes := by kernel_rfl
theorem dd20 (c : Nat) : ∀ x, x < 6 → run3 c 2 0 x = .yes
  | 0, _ => d200 c
  | 1, _ => d201 c
  | 2, _ => d202 c
  | 3, _ => d203 c
  | 4, _ => d204 c
  | 5, _ => d205 c
  | x + 6, h => absurd h (by omega)
theorem d210 (c : Nat) : run3 c 2 1 0 = .yes := by kernel_rfl
theorem d211 (c : Nat) : run3 c 2 1 1 = .yes := by kernel_rfl
theorem d212 (c : Nat) : run3 c 2 1 2 = .yes := by kernel_rfl
theorem d213 (c : Nat) : run3 c 2 1 3 = .yes := by kernel_rfl
theorem d214 (c : Nat) : run3 c 2 1 4 = .yes := by kernel_rfl
theorem d215 (c : Nat) : run3 c 2 1 5 = .yes := by kernel_rfl
theorem dd21 (c : Nat) : ∀ x, x < 6 → run3 c 2 1 x = .yes
  | 0, _ => d210 c
  | 1, _ => d211 c
  | 2, _ => d212 c
  | 3, _ => d213 c
  | 4, _ => d214 c
  | 5, _ => d215 c
  | x + 6, h => absurd h (by omega)
theorem d220 (c : Nat) : run3 c 2 2 0 = .yes := by kernel_rfl
theorem d221 (c : Nat) : run3 c 2 2 1 = .yes := by kernel_rfl
theorem d222 (c : Nat) : run3 c 2 2 2 = .yes := by kernel_rfl
theorem d223 (c : Nat) : run3 c 2 2 3 = .yes := by kernel_rfl
theorem d224 (c : Nat) : run3 c 2 2 4 = .yes := by kernel_rfl
theorem d225 (c : Nat) : run3 c 2 2 5 = .yes := by kernel_rfl
theorem dd22 (c : Nat) : ∀ x, x < 6 → run3 c 2 2 x = .yes
  | 0, _ => d220 c
  | 1, _ => d221 c
  | 2, _ => d222 c
  | 3, _ => d223 c
  | 4, _ => d224 c
  | 5, _ => d225 c
  | x + 6, h => absurd h (by omega)
theorem d230 (c : Nat) : run3 c 2 3 0 = .yes := by kernel_rfl
theorem d231 (c : Nat) : run3 c 2 3 1 = .yes := by kernel_rfl
theorem d232 (c : Nat) : run3 c 2 3 2 = .yes := by kernel_rfl
theorem d233 (c : Nat) : run3 c 2 3 3 = .yes := by kernel_rfl
theorem d234 (c : Nat) : run3 c 2 3 4 = .yes := by kernel_rfl
theorem d235 (c : Nat) : run3 c 2 3 5 = .yes := by kernel_rfl
theorem dd23 (c : Nat) : ∀ x, x < 6 → run3 c 2 3 x = .yes
  | 0, _ => d230 c
  | 1, _ => d231 c
  | 2, _ => d232 c
  | 3, _ => d233 c
  | 4, _ => d234 c
  | 5, _ => d235 c
  | x + 6, h => absurd h (by omega)
theorem d240 (c : Nat) : run3 c 2 4 0 = .yes := by kernel_rfl
theorem d241 (c : Nat) : run3 c 2 4 1 = .yes := by kernel_rfl
theorem d242 (c : Nat) : run3 c 2 4 2 = .yes := by kernel_rfl
theorem d243 (c : Nat) : run3 c 2 4 3 = .yes := by kernel_rfl
theorem d244 (c : Nat) : run3 c 2 4 4 = .yes := by kernel_rfl
theorem d245 (c : Nat) : run3 c 2 4 5 = .yes := by kernel_rfl
theorem dd24 (c : Nat) : ∀ x, x < 6 → run3 c 2 4 x = .yes
  | 0, _ => d240 c
  | 1, _ => d241 c
  | 2, _ => d242 c
  | 3, _ => d243 c
  | 4, _ => d244 c
  | 5, _ => d245 c
  | x + 6, h => absurd h (by omega)
theorem d250 (c : Nat) : run3 c 2 5 0 = .yes := by kernel_rfl
theorem d251 (c : Nat) : run3 c 2 5 1 = .yes := by kernel_rfl
theorem d252 (c : Nat) : run3 c 2 5 2 = .yes := by kernel_rfl
theorem d253 (c : Nat) : run3 c 2 5 3 = .yes := by kernel_rfl
theorem d254 (c : Nat) : run3 c 2 5 4 = .yes := by kernel_rfl
theorem d255 (c : Nat) : run3 c 2 5 5 = .yes := by kernel_rfl
theorem dd25 (c : Nat) : ∀ x, x < 6 → run3 c 2 5 x = .yes
  | 0, _ => d250 c
  | 1, _ => d251 c
  | 2, _ => d252 c
  | 3, _ => d253 c
  | 4, _ => d254 c
  | 5, _ => d255 c
  | x + 6, h => absurd h (by omega)
theorem ddd2 (c : Nat) : ∀ x, x < 6 → ∀ y, y < 6 → run3 c 2 x y = .yes
  | 0, _ => dd20 c
  | 1, _ => dd21 c
  | 2, _ => dd22 c
  | 3, _ => dd23 c
  | 4, _ => dd24 c
  | 5, _ => dd25 c
  | x + 6, h => absurd h (by omega)
end Go.Proofs.YtojbfaigebpnpaaDoor.ecoThreadsq
