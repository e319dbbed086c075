/-
  The law LiftOther at some of its cases: the run over the program ends in true. Conditions: none; these are closed facts.
-/
import Derived.Test.YtmebdcipijgcnaaGreatDoorLiftOtherA
namespace Go.Proofs.YtmebdcipijgcnaaGreatDoor.liftOtherq
open Go.Rn YtmebdcipijgcnaaGreatDoor.txt
set_option maxHeartbeats 400000000
theorem n0 : run 0 = .yes := by kernel_rfl
theorem n1 : run 1 = .yes := by kernel_rfl
theorem n2 : run 2 = .yes := by kernel_rfl
theorem n3 : run 3 = .yes := by kernel_rfl
theorem n4 : run 4 = .yes := by kernel_rfl
theorem n5 : run 5 = .yes := by kernel_rfl
theorem n6 : run 6 = .yes := by kernel_rfl
theorem n7 : run 7 = .yes := by kernel_rfl
theorem n8 : run 8 = .yes := by kernel_rfl
theorem n9 : run 9 = .yes := by kernel_rfl
theorem n10 : run 10 = .yes := by kernel_rfl
theorem n11 : run 11 = .yes := by kernel_rfl
theorem n12 : run 12 = .yes := by kernel_rfl
theorem n13 : run 13 = .yes := by kernel_rfl
theorem n14 : run 14 = .yes := by kernel_rfl
theorem n15 : run 15 = .yes := by kernel_rfl
theorem n16 : run 16 = .yes := by kernel_rfl
theorem n17 : run 17 = .yes := by kernel_rfl
theorem n18 : run 18 = .yes := by kernel_rfl
theorem n19 : run 19 = .yes := by kernel_rfl
theorem n20 : run 20 = .yes := by kernel_rfl
theorem n21 : run 21 = .yes := by kernel_rfl
theorem n22 : run 22 = .yes := by kernel_rfl
theorem n23 : run 23 = .yes := by kernel_rfl
theorem n24 : run 24 = .yes := by kernel_rfl
theorem n25 : run 25 = .yes := by kernel_rfl
theorem n26 : run 26 = .yes := by kernel_rfl
theorem n27 : run 27 = .yes := by kernel_rfl
theorem n28 : run 28 = .yes := by kernel_rfl
theorem n29 : run 29 = .yes := by kernel_rfl
theorem n30 : run 30 = .yes := by kernel_rfl
theorem n31 : run 31 = .yes := by kernel_rfl
theorem n32 : run 32 = .yes := by kernel_rfl
theorem n33 : run 33 = .yes := by kernel_rfl
theorem n34 : run 34 = .yes := by kernel_rfl
theorem n35 : run 35 = .yes := by kernel_rfl
theorem n36 : run 36 = .yes := by kernel_rfl
theorem n37 : run 37 = .yes := by kernel_rfl
theorem n38 : run 38 = .yes := by kernel_rfl
theorem n39 : run 39 = .yes := by kernel_rfl
theorem n40 : run 40 = .yes := by kernel_rfl
theorem n41 : run 41 = .yes := by kernel_rfl
theorem n42 : run 42 = .yes := by kernel_rfl
theorem n43 : run 43 = .yes := by kernel_rfl
theorem n44 : run 44 = .yes := by kernel_rfl
theorem n45 : run 45 = .yes := by kernel_rfl
theorem n46 : run 46 = .yes := by kernel_rfl
theorem n47 : run 47 = .yes := by kernel_rfl
theorem n48 : run 48 = .yes := by kernel_rfl
theorem n49 : run 49 = .yes := by kernel_rfl
theorem n50 : run 50 = .yes := by kernel_rfl
theorem n51 : run 51 = .yes := by kernel_rfl
theorem n52 : run 52 = .yes := by kernel_rfl
theorem n53 : run 53 = .yes := by kernel_rfl
theorem n54 : run 54 = .yes := by kernel_rfl
theorem n55 : run 55 = .yes := by kernel_rfl
theorem n56 : run 56 = .yes := by kernel_rfl
theorem n57 : run 57 = .yes := by kernel_rfl
theorem n58 : run 58 = .yes := by kernel_rfl
theorem n59 : run 59 = .yes := by kernel_rfl
theorem n60 : run 60 = .yes := by kernel_rfl
theorem n61 : run 61 = .yes := by kernel_rfl
theorem n62 : run 62 = .yes := by kernel_rfl
theorem n63 : run 63 = .yes := by kernel_rfl
theorem n64 : run 64 = .yes := by kernel_rfl
theorem n65 : run 65 = .yes := by kernel_rfl
theorem n66 : run 66 = .yes := by kernel_rfl
theorem n67 : run 67 = .yes := by kernel_rfl
theorem n68 : run 68 = .yes := by kernel_rfl
theorem n69 : run 69 = .yes := by kernel_rfl
theorem n70 : run 70 = .yes := by kernel_rfl
theorem n71 : run 71 = .yes := by kernel_rfl
theorem n72 : run 72 = .yes := by kernel_rfl
theorem n73 : run 73 = .yes := by kernel_rfl
theorem n74 : run 74 = .yes := by kernel_rfl
theorem n75 : run 75 = .yes := by kernel_rfl
theorem n76 : run 76 = .yes := by kernel_rfl
theorem n77 : run 77 = .yes := by kernel_rfl
theorem n78 : run 78 = .yes := by kernel_rfl
theorem n79 : run 79 = .yes := by kernel_rfl
theorem n80 : run 80 = .yes := by kernel_rfl
theorem n81 : run 81 = .yes := by kernel_rfl
theorem n82 : run 82 = .yes := by kernel_rfl
theorem n83 : run 83 = .yes := by kernel_rfl
theorem n84 : run 84 = .yes := by kernel_rfl
theorem n85 : run 85 = .yes := by kernel_rfl
theorem n86 : run 86 = .yes := by kernel_rfl
theorem n87 : run 87 = .yes := by kernel_rfl
theorem n88 : run 88 = .yes := by kernel_rfl
theorem n89 : run 89 = .yes := by kernel_rfl
theorem n90 : run 90 = .yes := by kernel_rfl
theorem n91 : run 91 = .yes := by kernel_rfl
theorem n92 : run 92 = .yes := by kernel_rfl
theorem n93 : run 93 = .yes := by kernel_rfl
theorem n94 : run 94 = .yes := by kernel_rfl
theorem n95 : run 95 = .yes := by kernel_rfl
theorem n96 : run 96 = .yes := by kernel_rfl
theorem n97 : run 97 = .yes := by kernel_rfl
theorem n98 : run 98 = .yes := by kernel_rfl
theorem n99 : run 99 = .yes := by kernel_rfl
theorem nb0_0 : ∀ c, c < 10 → run (0 + c) = .yes
  | 0, _ => n0
  | 1, _ => n1
  | 2, _ => n2
  | 3, _ => n3
  | 4, _ => n4
  | 5, _ => n5
  | 6, _ => n6
  | 7, _ => n7
  | 8, _ => n8
  | 9, _ => n9
  | c + 10, h => absurd h (by omega)
theorem nb0_1 : ∀ c, c < 10 → run (10 + c) = .yes
  | 0, _ => n10
  | 1, _ => n11
  | 2, _ => n12
  | 3, _ => n13
  | 4, _ => n14
  | 5, _ => n15
  | 6, _ => n16
  | 7, _ => n17
  | 8, _ => n18
  | 9, _ => n19
  | c + 10, h => absurd h (by omega)
theorem nb0_2 : ∀ c, c < 10 → run (20 + c) = .yes
  | 0, _ => n20
  | 1, _ => n21
  | 2, _ => n22
  | 3, _ => n23
  | 4, _ => n24
  | 5, _ => n25
  | 6, _ => n26
  | 7, _ => n27
  | 8, _ => n28
  | 9, _ => n29
  | c + 10, h => absurd h (by omega)
theorem nb0_3 : ∀ c, c < 10 → run (30 + c) = .yes
  | 0, _ => n30
  | 1, _ => n31
  | 2, _ => n32
  | 3, _ => n33
  | 4, _ => n34
  | 5, _ => n35
  | 6, _ => n36
  | 7, _ => n37
  | 8, _ => n38
  | 9, _ => n39
  | c + 10, h => absurd h (by omega)
theorem nb0_4 : ∀ c, c < 10 → run (40 + c) = .yes
  | 0, _ => n40
  | 1, _ => n41
  | 2, _ => n42
  | 3, _ => n43
  | 4, _ => n44
  | 5, _ => n45
  | 6, _ => n46
  | 7, _ => n47
  | 8, _ => n48
  | 9, _ => n49
  | c + 10, h => absurd h (by omega)
theorem nb0_5 : ∀ c, c < 10 → run (50 + c) = .yes
  | 0, _ => n50
  | 1, _ => n51
  | 2, _ => n52
  | 3, _ => n53
  | 4, _ => n54
  | 5, _ => n55
  | 6, _ => n56
  | 7, _ => n57
  | 8, _ => n58
  | 9, _ => n59
  | c + 10, h => absurd h (by omega)
theorem nb0_6 : ∀ c, c < 10 → run (60 + c) = .yes
  | 0, _ => n60
  | 1, _ => n61
  | 2, _ => n62
  | 3, _ => n63
  | 4, _ => n64
  | 5, _ => n65
  | 6, _ => n66
  | 7, _ => n67
  | 8, _ => n68
  | 9, _ => n69
  | c + 10, h => absurd h (by omega)
theorem nb0_7 : ∀ c, c < 10 → run (70 + c) = .yes
  | 0, _ => n70
  | 1, _ => n71
  | 2, _ => n72
  | 3, _ => n73
  | 4, _ => n74
  | 5, _ => n75
  | 6, _ => n76
  | 7, _ => n77
  | 8, _ => n78
  | 9, _ => n79
  | c + 10, h => absurd h (by omega)
theorem nb0_8 : ∀ c, c < 10 → run (80 + c) = .yes
  | 0, _ => n80
  | 1, _ => n81
  | 2, _ => n82
  | 3, _ => n83
  | 4, _ => n84
  | 5, _ => n85
  | 6, _ => n86
  | 7, _ => n87
  | 8, _ => n88
  | 9, _ => n89
  | c + 10, h => absurd h (by omega)
theorem nb0_9 : ∀ c, c < 10 → run (90 + c) = .yes
  | 0, _ => n90
  | 1, _ => n91
  | 2, _ => n92
  | 3, _ => n93
  | 4, _ => n94
  | 5, _ => n95
  | 6, _ => n96
  | 7, _ => n97
  | 8, _ => n98
  | 9, _ => n99
  | c + 10, h => absurd h (by omega)
theorem na0 : ∀ b, b < 10 → ∀ c, c < 10 → run (0 + 10 * b + c) = .yes
  | 0, _ => nb0_0
  | 1, _ => nb0_1
  | 2, _ => nb0_2
  | 3, _ => nb0_3
  | 4, _ => nb0_4
  | 5, _ => nb0_5
  | 6, _ => nb0_6
  | 7, _ => nb0_7
  | 8, _ => nb0_8
  | 9, _ => nb0_9
  | b + 10, h => absurd h (by omega)
end Go.Proofs.YtmebdcipijgcnaaGreatDoor.liftOtherq
