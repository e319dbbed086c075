/-
  The law LiftOther at some of its cases: the run over the program ends in true. Conditions: none; these are closed facts.
-/
import Derived.Test.YtmebdcipijgcnaaGreatDoorLiftOtherA
namespace Go.Proofs.YtmebdcipijgcnaaGreatDoor.liftOtherq
open Go.Rn YtmebdcipijgcnaaGreatDoor.txt
set_option maxHeartbeats 400000000
theorem e0 : runE 0 = .yes := by kernel_rfl
theorem e1 : runE 1 = .yes := by kernel_rfl
theorem e2 : runE 2 = .yes := by kernel_rfl
theorem e3 : runE 3 = .yes := by kernel_rfl
theorem e4 : runE 4 = .yes := by kernel_rfl
theorem e5 : runE 5 = .yes := by kernel_rfl
theorem e6 : runE 6 = .yes := by kernel_rfl
theorem e7 : runE 7 = .yes := by kernel_rfl
theorem e8 : runE 8 = .yes := by kernel_rfl
theorem e9 : runE 9 = .yes := by kernel_rfl
theorem e10 : runE 10 = .yes := by kernel_rfl
theorem e11 : runE 11 = .yes := by kernel_rfl
theorem e12 : runE 12 = .yes := by kernel_rfl
theorem e13 : runE 13 = .yes := by kernel_rfl
theorem e14 : runE 14 = .yes := by kernel_rfl
theorem e15 : runE 15 = .yes := by kernel_rfl
theorem e16 : runE 16 = .yes := by kernel_rfl
theorem e17 : runE 17 = .yes := by kernel_rfl
theorem e18 : runE 18 = .yes := by kernel_rfl
theorem e19 : runE 19 = .yes := by kernel_rfl
theorem e20 : runE 20 = .yes := by kernel_rfl
theorem e21 : runE 21 = .yes := by kernel_rfl
theorem e22 : runE 22 = .yes := by kernel_rfl
theorem e23 : runE 23 = .yes := by kernel_rfl
theorem e24 : runE 24 = .yes := by kernel_rfl
theorem e25 : runE 25 = .yes := by kernel_rfl
theorem e26 : runE 26 = .yes := by kernel_rfl
theorem e27 : runE 27 = .yes := by kernel_rfl
theorem e28 : runE 28 = .yes := by kernel_rfl
theorem e29 : runE 29 = .yes := by kernel_rfl
theorem e30 : runE 30 = .yes := by kernel_rfl
theorem e31 : runE 31 = .yes := by kernel_rfl
theorem e32 : runE 32 = .yes := by kernel_rfl
theorem e33 : runE 33 = .yes := by kernel_rfl
theorem e34 : runE 34 = .yes := by kernel_rfl
theorem e35 : runE 35 = .yes := by kernel_rfl
theorem e36 : runE 36 = .yes := by kernel_rfl
theorem e37 : runE 37 = .yes := by kernel_rfl
theorem e38 : runE 38 = .yes := by kernel_rfl
theorem e39 : runE 39 = .yes := by kernel_rfl
theorem e40 : runE 40 = .yes := by kernel_rfl
theorem e41 : runE 41 = .yes := by kernel_rfl
theorem e42 : runE 42 = .yes := by kernel_rfl
theorem e43 : runE 43 = .yes := by kernel_rfl
theorem e44 : runE 44 = .yes := by kernel_rfl
theorem e45 : runE 45 = .yes := by kernel_rfl
theorem e46 : runE 46 = .yes := by kernel_rfl
theorem e47 : runE 47 = .yes := by kernel_rfl
theorem e48 : runE 48 = .yes := by kernel_rfl
theorem e49 : runE 49 = .yes := by kernel_rfl
theorem e50 : runE 50 = .yes := by kernel_rfl
theorem e51 : runE 51 = .yes := by kernel_rfl
theorem e52 : runE 52 = .yes := by kernel_rfl
theorem e53 : runE 53 = .yes := by kernel_rfl
theorem e54 : runE 54 = .yes := by kernel_rfl
theorem e55 : runE 55 = .yes := by kernel_rfl
theorem e56 : runE 56 = .yes := by kernel_rfl
theorem e57 : runE 57 = .yes := by kernel_rfl
theorem e58 : runE 58 = .yes := by kernel_rfl
theorem e59 : runE 59 = .yes := by kernel_rfl
theorem e60 : runE 60 = .yes := by kernel_rfl
theorem e61 : runE 61 = .yes := by kernel_rfl
theorem e62 : runE 62 = .yes := by kernel_rfl
theorem e63 : runE 63 = .yes := by kernel_rfl
theorem e64 : runE 64 = .yes := by kernel_rfl
theorem e65 : runE 65 = .yes := by kernel_rfl
theorem e66 : runE 66 = .yes := by kernel_rfl
theorem e67 : runE 67 = .yes := by kernel_rfl
theorem e68 : runE 68 = .yes := by kernel_rfl
theorem e69 : runE 69 = .yes := by kernel_rfl
theorem e70 : runE 70 = .yes := by kernel_rfl
theorem e71 : runE 71 = .yes := by kernel_rfl
theorem e72 : runE 72 = .yes := by kernel_rfl
theorem e73 : runE 73 = .yes := by kernel_rfl
theorem e74 : runE 74 = .yes := by kernel_rfl
theorem e75 : runE 75 = .yes := by kernel_rfl
theorem e76 : runE 76 = .yes := by kernel_rfl
theorem e77 : runE 77 = .yes := by kernel_rfl
theorem e78 : runE 78 = .yes := by kernel_rfl
theorem e79 : runE 79 = .yes := by kernel_rfl
theorem e80 : runE 80 = .yes := by kernel_rfl
theorem e81 : runE 81 = .yes := by kernel_rfl
theorem e82 : runE 82 = .yes := by kernel_rfl
theorem e83 : runE 83 = .yes := by kernel_rfl
theorem e84 : runE 84 = .yes := by kernel_rfl
theorem e85 : runE 85 = .yes := by kernel_rfl
theorem e86 : runE 86 = .yes := by kernel_rfl
theorem e87 : runE 87 = .yes := by kernel_rfl
theorem e88 : runE 88 = .yes := by kernel_rfl
theorem e89 : runE 89 = .yes := by kernel_rfl
theorem e90 : runE 90 = .yes := by kernel_rfl
theorem e91 : runE 91 = .yes := by kernel_rfl
theorem e92 : runE 92 = .yes := by kernel_rfl
theorem e93 : runE 93 = .yes := by kernel_rfl
theorem e94 : runE 94 = .yes := by kernel_rfl
theorem e95 : runE 95 = .yes := by kernel_rfl
theorem e96 : runE 96 = .yes := by kernel_rfl
theorem e97 : runE 97 = .yes := by kernel_rfl
theorem e98 : runE 98 = .yes := by kernel_rfl
theorem e99 : runE 99 = .yes := by kernel_rfl
theorem eb0_0 : ∀ c, c < 10 → runE (0 + c) = .yes
  | 0, _ => e0
  | 1, _ => e1
  | 2, _ => e2
  | 3, _ => e3
  | 4, _ => e4
  | 5, _ => e5
  | 6, _ => e6
  | 7, _ => e7
  | 8, _ => e8
  | 9, _ => e9
  | c + 10, h => absurd h (by omega)
theorem eb0_1 : ∀ c, c < 10 → runE (10 + c) = .yes
  | 0, _ => e10
  | 1, _ => e11
  | 2, _ => e12
  | 3, _ => e13
  | 4, _ => e14
  | 5, _ => e15
  | 6, _ => e16
  | 7, _ => e17
  | 8, _ => e18
  | 9, _ => e19
  | c + 10, h => absurd h (by omega)
theorem eb0_2 : ∀ c, c < 10 → runE (20 + c) = .yes
  | 0, _ => e20
  | 1, _ => e21
  | 2, _ => e22
  | 3, _ => e23
  | 4, _ => e24
  | 5, _ => e25
  | 6, _ => e26
  | 7, _ => e27
  | 8, _ => e28
  | 9, _ => e29
  | c + 10, h => absurd h (by omega)
theorem eb0_3 : ∀ c, c < 10 → runE (30 + c) = .yes
  | 0, _ => e30
  | 1, _ => e31
  | 2, _ => e32
  | 3, _ => e33
  | 4, _ => e34
  | 5, _ => e35
  | 6, _ => e36
  | 7, _ => e37
  | 8, _ => e38
  | 9, _ => e39
  | c + 10, h => absurd h (by omega)
theorem eb0_4 : ∀ c, c < 10 → runE (40 + c) = .yes
  | 0, _ => e40
  | 1, _ => e41
  | 2, _ => e42
  | 3, _ => e43
  | 4, _ => e44
  | 5, _ => e45
  | 6, _ => e46
  | 7, _ => e47
  | 8, _ => e48
  | 9, _ => e49
  | c + 10, h => absurd h (by omega)
theorem eb0_5 : ∀ c, c < 10 → runE (50 + c) = .yes
  | 0, _ => e50
  | 1, _ => e51
  | 2, _ => e52
  | 3, _ => e53
  | 4, _ => e54
  | 5, _ => e55
  | 6, _ => e56
  | 7, _ => e57
  | 8, _ => e58
  | 9, _ => e59
  | c + 10, h => absurd h (by omega)
theorem eb0_6 : ∀ c, c < 10 → runE (60 + c) = .yes
  | 0, _ => e60
  | 1, _ => e61
  | 2, _ => e62
  | 3, _ => e63
  | 4, _ => e64
  | 5, _ => e65
  | 6, _ => e66
  | 7, _ => e67
  | 8, _ => e68
  | 9, _ => e69
  | c + 10, h => absurd h (by omega)
theorem eb0_7 : ∀ c, c < 10 → runE (70 + c) = .yes
  | 0, _ => e70
  | 1, _ => e71
  | 2, _ => e72
  | 3, _ => e73
  | 4, _ => e74
  | 5, _ => e75
  | 6, _ => e76
  | 7, _ => e77
  | 8, _ => e78
  | 9, _ => e79
  | c + 10, h => absurd h (by omega)
theorem eb0_8 : ∀ c, c < 10 → runE (80 + c) = .yes
  | 0, _ => e80
  | 1, _ => e81
  | 2, _ => e82
  | 3, _ => e83
  | 4, _ => e84
  | 5, _ => e85
  | 6, _ => e86
  | 7, _ => e87
  | 8, _ => e88
  | 9, _ => e89
  | c + 10, h => absurd h (by omega)
theorem eb0_9 : ∀ c, c < 10 → runE (90 + c) = .yes
  | 0, _ => e90
  | 1, _ => e91
  | 2, _ => e92
  | 3, _ => e93
  | 4, _ => e94
  | 5, _ => e95
  | 6, _ => e96
  | 7, _ => e97
  | 8, _ => e98
  | 9, _ => e99
  | c + 10, h => absurd h (by omega)
theorem ea0 : ∀ b, b < 10 → ∀ c, c < 10 → runE (0 + 10 * b + c) = .yes
  | 0, _ => eb0_0
  | 1, _ => eb0_1
  | 2, _ => eb0_2
  | 3, _ => eb0_3
  | 4, _ => eb0_4
  | 5, _ => eb0_5
  | 6, _ => eb0_6
  | 7, _ => eb0_7
  | 8, _ => eb0_8
  | 9, _ => eb0_9
  | b + 10, h => absurd h (by omega)
end Go.Proofs.YtmebdcipijgcnaaGreatDoor.liftOtherq
