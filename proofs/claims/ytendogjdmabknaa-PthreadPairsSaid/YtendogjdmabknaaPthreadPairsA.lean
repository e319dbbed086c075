/-
  The law PthreadPairs by the evaluator: each of its cases ends in true, whatever the slice that comes in holds. Conditions: none but those that the theorems print.
-/
import Derived.Test.YtendogjdmabknaaTxtA
import Derived.Test.YtendogjdmabknaaRqN
import Derived.WalkKit
import Derived.ProofKit
import Derived.Lib.Hide
namespace Go.Proofs.Ytendogjdmabknaa.pthreadPairsq
open Go.Rn Go.RowKit Ytendogjdmabknaa.txt
noncomputable def tab (k0 : Nat) : List (Nat × Nat × Nat) := [(0, 8, k0)]
noncomputable def taby : List (Nat × Nat × Nat) := []
noncomputable def orc (k0 : Nat) : Nat → RV → Option RV := orO (orO (placeO 8 (tab k0)) (placeY 8 taby)) (constO 12)
/-- no slice; one of no length; q elements known of it -/
noncomputable def runN (k0 : Nat) (b2 : Bool) : A := call3 (ysR []) 100 (inL fsL) (orc k0) noKc 60 5 (.cons (.y .i64 (.v 0)) (.cons .ns (.cons (.b b2) .nil))) he3 100 isT
noncomputable def runE (k0 : Nat) (b2 : Bool) : A := call3 (ysR []) 100 (inL fsL) (orc k0) noKc 60 5 (.cons (.y .i64 (.v 0)) (.cons (.sx 0 1) (.cons (.b b2) .nil))) he3 100 isT
noncomputable def runS (q L c : Nat) (k0 : Nat) (b2 : Bool) : A := start3 (letters q 0) 0 q fun h => call3 (ysR []) 100 (inL fsL) (orc k0) noKc 60 5 (.cons (.y .i64 (.v 0)) (.cons (.sl 0 0 L c) (.cons (.b b2) .nil))) h 100 isT
theorem globs : Try.prog.globals.size = 0 := of_decide_eq_true (by kernel_rfl)
theorem knownP : known Try.prog 8 = true := by kernel_rfl
theorem knownA : known Try.prog 12 = true := by kernel_rfl
theorem awake_run : call3 (fun _ _ _ => none) 0 (inL fsL) (fun _ _ => none) noKc 60 12 .nil he3 100 isT = .yes := by kernel_rfl
theorem awake_ok (w : World) : Calls Try.prog 12 #[] w fun e w' => e = .returned (.bool true) ∧ Old w w' :=
  law_quick (ρ := fun _ => 0) no_ys (inL_ok fsL_ok) none_ok (n := 100) (by rw [globs]; omega) awake_run (vs := []) (fun _ => denC_nil.2 rfl) w
set_option maxRecDepth 100000 in
set_option maxHeartbeats 400000 in
theorem place_any (n : Int) (k : Nat) (w : World) (hk : 0 < k) (hk2 : k ≤ 1000000) :
    Calls Try.prog 8 #[.int .i64 n, .int .i64 k] w fun e w' => e = .returned (.int .i64 (n % k)) ∧ w = w' := by
  by_cases hz : n.tmod k < 0
  · have HM := Lib.hid (place_neg n k hk hz)
    have hlow : -(k : Int) < n.tmod k := by
      have := HM.out
      have h1 := Int.emod_nonneg n (show (k : Int) ≠ 0 by omega)
      by_cases he : n % (k : Int) = 0
      · have h0 : n.tmod k = 0 := Int.tmod_eq_zero_of_dvd (Int.dvd_of_emod_eq_zero he)
        omega
      · omega
    go_enter Try.func8, Try.ntmps8
    go_wp2_with fail
    go_ret
    exact ⟨by rw [← HM.out]; rfl, rfl⟩
  · have HM := Lib.hid (place_pos n k hk hz)
    go_enter Try.func8, Try.ntmps8
    go_wp2_with fail
    go_ret
    exact ⟨by rw [← HM.out]; rfl, rfl⟩
theorem cN0_t : runN 0 true = .yes := by kernel_rfl
theorem cN0_f : runN 0 false = .yes := by kernel_rfl
theorem cN1_t : runN 1 true = .yes := by kernel_rfl
theorem cN1_f : runN 1 false = .yes := by kernel_rfl
theorem cN2_t : runN 2 true = .yes := by kernel_rfl
theorem cN2_f : runN 2 false = .yes := by kernel_rfl
theorem cN3_t : runN 3 true = .yes := by kernel_rfl
theorem cN3_f : runN 3 false = .yes := by kernel_rfl
theorem cN4_t : runN 4 true = .yes := by kernel_rfl
theorem cN4_f : runN 4 false = .yes := by kernel_rfl
theorem cN5_t : runN 5 true = .yes := by kernel_rfl
theorem cN5_f : runN 5 false = .yes := by kernel_rfl
theorem cN6_t : runN 6 true = .yes := by kernel_rfl
theorem cN6_f : runN 6 false = .yes := by kernel_rfl
theorem cN7_t : runN 7 true = .yes := by kernel_rfl
theorem cN7_f : runN 7 false = .yes := by kernel_rfl
theorem cE0_t : runE 0 true = .yes := by kernel_rfl
theorem cE0_f : runE 0 false = .yes := by kernel_rfl
theorem cE1_t : runE 1 true = .yes := by kernel_rfl
theorem cE1_f : runE 1 false = .yes := by kernel_rfl
theorem cE2_t : runE 2 true = .yes := by kernel_rfl
theorem cE2_f : runE 2 false = .yes := by kernel_rfl
theorem cE3_t : runE 3 true = .yes := by kernel_rfl
theorem cE3_f : runE 3 false = .yes := by kernel_rfl
theorem cE4_t : runE 4 true = .yes := by kernel_rfl
theorem cE4_f : runE 4 false = .yes := by kernel_rfl
theorem cE5_t : runE 5 true = .yes := by kernel_rfl
theorem cE5_f : runE 5 false = .yes := by kernel_rfl
theorem cE6_t : runE 6 true = .yes := by kernel_rfl
theorem cE6_f : runE 6 false = .yes := by kernel_rfl
theorem cE7_t : runE 7 true = .yes := by kernel_rfl
theorem cE7_f : runE 7 false = .yes := by kernel_rfl
theorem cS1_0_t (c : Nat) : runS 1 1 c 0 true = .yes := by kernel_rfl
theorem cS1_0_f (c : Nat) : runS 1 1 c 0 false = .yes := by kernel_rfl
theorem cS1_1_t (c : Nat) : runS 1 1 c 1 true = .yes := by kernel_rfl
theorem cS1_1_f (c : Nat) : runS 1 1 c 1 false = .yes := by kernel_rfl
theorem cS1_2_t (c : Nat) : runS 1 1 c 2 true = .yes := by kernel_rfl
theorem cS1_2_f (c : Nat) : runS 1 1 c 2 false = .yes := by kernel_rfl
theorem cS1_3_t (c : Nat) : runS 1 1 c 3 true = .yes := by kernel_rfl
theorem cS1_3_f (c : Nat) : runS 1 1 c 3 false = .yes := by kernel_rfl
theorem cS1_4_t (c : Nat) : runS 1 1 c 4 true = .yes := by kernel_rfl
theorem cS1_4_f (c : Nat) : runS 1 1 c 4 false = .yes := by kernel_rfl
theorem cS1_5_t (c : Nat) : runS 1 1 c 5 true = .yes := by kernel_rfl
theorem cS1_5_f (c : Nat) : runS 1 1 c 5 false = .yes := by kernel_rfl
theorem cS1_6_t (c : Nat) : runS 1 1 c 6 true = .yes := by kernel_rfl
theorem cS1_6_f (c : Nat) : runS 1 1 c 6 false = .yes := by kernel_rfl
theorem cS1_7_t (c : Nat) : runS 1 1 c 7 true = .yes := by kernel_rfl
theorem cS1_7_f (c : Nat) : runS 1 1 c 7 false = .yes := by kernel_rfl
theorem cS2_0_t (c : Nat) : runS 2 2 c 0 true = .yes := by kernel_rfl
theorem cS2_0_f (c : Nat) : runS 2 2 c 0 false = .yes := by kernel_rfl
theorem cS2_1_t (c : Nat) : runS 2 2 c 1 true = .yes := by kernel_rfl
theorem cS2_1_f (c : Nat) : runS 2 2 c 1 false = .yes := by kernel_rfl
theorem cS2_2_t (c : Nat) : runS 2 2 c 2 true = .yes := by kernel_rfl
theorem cS2_2_f (c : Nat) : runS 2 2 c 2 false = .yes := by kernel_rfl
theorem cS2_3_t (c : Nat) : runS 2 2 c 3 true = .yes := by kernel_rfl
theorem cS2_3_f (c : Nat) : runS 2 2 c 3 false = .yes := by kernel_rfl
theorem cS2_4_t (c : Nat) : runS 2 2 c 4 true = .yes := by kernel_rfl
theorem cS2_4_f (c : Nat) : runS 2 2 c 4 false = .yes := by kernel_rfl
theorem cS2_5_t (c : Nat) : runS 2 2 c 5 true = .yes := by kernel_rfl
theorem cS2_5_f (c : Nat) : runS 2 2 c 5 false = .yes := by kernel_rfl
theorem cS2_6_t (c : Nat) : runS 2 2 c 6 true = .yes := by kernel_rfl
theorem cS2_6_f (c : Nat) : runS 2 2 c 6 false = .yes := by kernel_rfl
theorem cS2_7_t (c : Nat) : runS 2 2 c 7 true = .yes := by kernel_rfl
theorem cS2_7_f (c : Nat) : runS 2 2 c 7 false = .yes := by kernel_rfl
theorem cS3_0_t (c : Nat) : runS 3 3 c 0 true = .yes := by kernel_rfl
theorem cS3_0_f (c : Nat) : runS 3 3 c 0 false = .yes := by kernel_rfl
theorem cS3_1_t (c : Nat) : runS 3 3 c 1 true = .yes := by kernel_rfl
theorem cS3_1_f (c : Nat) : runS 3 3 c 1 false = .yes := by kernel_rfl
theorem cS3_2_t (c : Nat) : runS 3 3 c 2 true = .yes := by kernel_rfl
theorem cS3_2_f (c : Nat) : runS 3 3 c 2 false = .yes := by kernel_rfl
theorem cS3_3_t (c : Nat) : runS 3 3 c 3 true = .yes := by kernel_rfl
theorem cS3_3_f (c : Nat) : runS 3 3 c 3 false = .yes := by kernel_rfl
theorem cS3_4_t (c : Nat) : runS 3 3 c 4 true = .yes := by kernel_rfl
theorem cS3_4_f (c : Nat) : runS 3 3 c 4 false = .yes := by kernel_rfl
theorem cS3_5_t (c : Nat) : runS 3 3 c 5 true = .yes := by kernel_rfl
theorem cS3_5_f (c : Nat) : runS 3 3 c 5 false = .yes := by kernel_rfl
theorem cS3_6_t (c : Nat) : runS 3 3 c 6 true = .yes := by kernel_rfl
theorem cS3_6_f (c : Nat) : runS 3 3 c 6 false = .yes := by kernel_rfl
theorem cS3_7_t (c : Nat) : runS 3 3 c 7 true = .yes := by kernel_rfl
theorem cS3_7_f (c : Nat) : runS 3 3 c 7 false = .yes := by kernel_rfl
theorem cS4_0_t (c : Nat) : runS 4 4 c 0 true = .yes := by kernel_rfl
theorem cS4_0_f (c : Nat) : runS 4 4 c 0 false = .yes := by kernel_rfl
theorem cS4_1_t (c : Nat) : runS 4 4 c 1 true = .yes := by kernel_rfl
theorem cS4_1_f (c : Nat) : runS 4 4 c 1 false = .yes := by kernel_rfl
theorem cS4_2_t (c : Nat) : runS 4 4 c 2 true = .yes := by kernel_rfl
theorem cS4_2_f (c : Nat) : runS 4 4 c 2 false = .yes := by kernel_rfl
theorem cS4_3_t (c : Nat) : runS 4 4 c 3 true = .yes := by kernel_rfl
theorem cS4_3_f (c : Nat) : runS 4 4 c 3 false = .yes := by kernel_rfl
theorem cS4_4_t (c : Nat) : runS 4 4 c 4 true = .yes := by kernel_rfl
theorem cS4_4_f (c : Nat) : runS 4 4 c 4 false = .yes := by kernel_rfl
theorem cS4_5_t (c : Nat) : runS 4 4 c 5 true = .yes := by kernel_rfl
theorem cS4_5_f (c : Nat) : runS 4 4 c 5 false = .yes := by kernel_rfl
theorem cS4_6_t (c : Nat) : runS 4 4 c 6 true = .yes := by kernel_rfl
theorem cS4_6_f (c : Nat) : runS 4 4 c 6 false = .yes := by kernel_rfl
theorem cS4_7_t (c : Nat) : runS 4 4 c 7 true = .yes := by kernel_rfl
theorem cS4_7_f (c : Nat) : runS 4 4 c 7 false = .yes := by kernel_rfl
theorem cS5_0_t (c : Nat) : runS 5 5 c 0 true = .yes := by kernel_rfl
theorem cS5_0_f (c : Nat) : runS 5 5 c 0 false = .yes := by kernel_rfl
theorem cS5_1_t (c : Nat) : runS 5 5 c 1 true = .yes := by kernel_rfl
theorem cS5_1_f (c : Nat) : runS 5 5 c 1 false = .yes := by kernel_rfl
theorem cS5_2_t (c : Nat) : runS 5 5 c 2 true = .yes := by kernel_rfl
theorem cS5_2_f (c : Nat) : runS 5 5 c 2 false = .yes := by kernel_rfl
theorem cS5_3_t (c : Nat) : runS 5 5 c 3 true = .yes := by kernel_rfl
theorem cS5_3_f (c : Nat) : runS 5 5 c 3 false = .yes := by kernel_rfl
theorem cS5_4_t (c : Nat) : runS 5 5 c 4 true = .yes := by kernel_rfl
theorem cS5_4_f (c : Nat) : runS 5 5 c 4 false = .yes := by kernel_rfl
theorem cS5_5_t (c : Nat) : runS 5 5 c 5 true = .yes := by kernel_rfl
theorem cS5_5_f (c : Nat) : runS 5 5 c 5 false = .yes := by kernel_rfl
theorem cS5_6_t (c : Nat) : runS 5 5 c 6 true = .yes := by kernel_rfl
theorem cS5_6_f (c : Nat) : runS 5 5 c 6 false = .yes := by kernel_rfl
theorem cS5_7_t (c : Nat) : runS 5 5 c 7 true = .yes := by kernel_rfl
theorem cS5_7_f (c : Nat) : runS 5 5 c 7 false = .yes := by kernel_rfl
theorem cS6_0_t (c : Nat) : runS 6 6 c 0 true = .yes := by kernel_rfl
theorem cS6_0_f (c : Nat) : runS 6 6 c 0 false = .yes := by kernel_rfl
theorem cS6_1_t (c : Nat) : runS 6 6 c 1 true = .yes := by kernel_rfl
theorem cS6_1_f (c : Nat) : runS 6 6 c 1 false = .yes := by kernel_rfl
theorem cS6_2_t (c : Nat) : runS 6 6 c 2 true = .yes := by kernel_rfl
theorem cS6_2_f (c : Nat) : runS 6 6 c 2 false = .yes := by kernel_rfl
theorem cS6_3_t (c : Nat) : runS 6 6 c 3 true = .yes := by kernel_rfl
theorem cS6_3_f (c : Nat) : runS 6 6 c 3 false = .yes := by kernel_rfl
theorem cS6_4_t (c : Nat) : runS 6 6 c 4 true = .yes := by kernel_rfl
theorem cS6_4_f (c : Nat) : runS 6 6 c 4 false = .yes := by kernel_rfl
theorem cS6_5_t (c : Nat) : runS 6 6 c 5 true = .yes := by kernel_rfl
theorem cS6_5_f (c : Nat) : runS 6 6 c 5 false = .yes := by kernel_rfl
theorem cS6_6_t (c : Nat) : runS 6 6 c 6 true = .yes := by kernel_rfl
theorem cS6_6_f (c : Nat) : runS 6 6 c 6 false = .yes := by kernel_rfl
theorem cS6_7_t (c : Nat) : runS 6 6 c 7 true = .yes := by kernel_rfl
theorem cS6_7_f (c : Nat) : runS 6 6 c 7 false = .yes := by kernel_rfl
theorem cG0_t (L c : Nat) : runS 7 (L + 7) c 0 true = .yes := by kernel_rfl
theorem cG0_f (L c : Nat) : runS 7 (L + 7) c 0 false = .yes := by kernel_rfl
theorem cG1_t (L c : Nat) : runS 7 (L + 7) c 1 true = .yes := by kernel_rfl
theorem cG1_f (L c : Nat) : runS 7 (L + 7) c 1 false = .yes := by kernel_rfl
theorem cG2_t (L c : Nat) : runS 7 (L + 7) c 2 true = .yes := by kernel_rfl
theorem cG2_f (L c : Nat) : runS 7 (L + 7) c 2 false = .yes := by kernel_rfl
theorem cG3_t (L c : Nat) : runS 7 (L + 7) c 3 true = .yes := by kernel_rfl
theorem cG3_f (L c : Nat) : runS 7 (L + 7) c 3 false = .yes := by kernel_rfl
theorem cG4_t (L c : Nat) : runS 7 (L + 7) c 4 true = .yes := by kernel_rfl
theorem cG4_f (L c : Nat) : runS 7 (L + 7) c 4 false = .yes := by kernel_rfl
theorem cG5_t (L c : Nat) : runS 7 (L + 7) c 5 true = .yes := by kernel_rfl
theorem cG5_f (L c : Nat) : runS 7 (L + 7) c 5 false = .yes := by kernel_rfl
theorem cG6_t (L c : Nat) : runS 7 (L + 7) c 6 true = .yes := by kernel_rfl
theorem cG6_f (L c : Nat) : runS 7 (L + 7) c 6 false = .yes := by kernel_rfl
theorem cG7_t (L c : Nat) : runS 7 (L + 7) c 7 true = .yes := by kernel_rfl
theorem cG7_f (L c : Nat) : runS 7 (L + 7) c 7 false = .yes := by kernel_rfl
theorem allN : ∀ k0, k0 < 8 → ∀ b2 : Bool, runN k0 b2 = .yes
  | 0, _, true => cN0_t
  | 0, _, false => cN0_f
  | 1, _, true => cN1_t
  | 1, _, false => cN1_f
  | 2, _, true => cN2_t
  | 2, _, false => cN2_f
  | 3, _, true => cN3_t
  | 3, _, false => cN3_f
  | 4, _, true => cN4_t
  | 4, _, false => cN4_f
  | 5, _, true => cN5_t
  | 5, _, false => cN5_f
  | 6, _, true => cN6_t
  | 6, _, false => cN6_f
  | 7, _, true => cN7_t
  | 7, _, false => cN7_f
  | k + 8, h, _ => absurd h (by omega)
theorem allE : ∀ k0, k0 < 8 → ∀ b2 : Bool, runE k0 b2 = .yes
  | 0, _, true => cE0_t
  | 0, _, false => cE0_f
  | 1, _, true => cE1_t
  | 1, _, false => cE1_f
  | 2, _, true => cE2_t
  | 2, _, false => cE2_f
  | 3, _, true => cE3_t
  | 3, _, false => cE3_f
  | 4, _, true => cE4_t
  | 4, _, false => cE4_f
  | 5, _, true => cE5_t
  | 5, _, false => cE5_f
  | 6, _, true => cE6_t
  | 6, _, false => cE6_f
  | 7, _, true => cE7_t
  | 7, _, false => cE7_f
  | k + 8, h, _ => absurd h (by omega)
theorem allS1_ (c : Nat) : ∀ k0, k0 < 8 → ∀ b2 : Bool, runS 1 1 c k0 b2 = .yes
  | 0, _, true => cS1_0_t c
  | 0, _, false => cS1_0_f c
  | 1, _, true => cS1_1_t c
  | 1, _, false => cS1_1_f c
  | 2, _, true => cS1_2_t c
  | 2, _, false => cS1_2_f c
  | 3, _, true => cS1_3_t c
  | 3, _, false => cS1_3_f c
  | 4, _, true => cS1_4_t c
  | 4, _, false => cS1_4_f c
  | 5, _, true => cS1_5_t c
  | 5, _, false => cS1_5_f c
  | 6, _, true => cS1_6_t c
  | 6, _, false => cS1_6_f c
  | 7, _, true => cS1_7_t c
  | 7, _, false => cS1_7_f c
  | k + 8, h, _ => absurd h (by omega)
theorem allS2_ (c : Nat) : ∀ k0, k0 < 8 → ∀ b2 : Bool, runS 2 2 c k0 b2 = .yes
  | 0, _, true => cS2_0_t c
  | 0, _, false => cS2_0_f c
  | 1, _, true => cS2_1_t c
  | 1, _, false => cS2_1_f c
  | 2, _, true => cS2_2_t c
  | 2, _, false => cS2_2_f c
  | 3, _, true => cS2_3_t c
  | 3, _, false => cS2_3_f c
  | 4, _, true => cS2_4_t c
  | 4, _, false => cS2_4_f c
  | 5, _, true => cS2_5_t c
  | 5, _, false => cS2_5_f c
  | 6, _, true => cS2_6_t c
  | 6, _, false => cS2_6_f c
  | 7, _, true => cS2_7_t c
  | 7, _, false => cS2_7_f c
  | k + 8, h, _ => absurd h (by omega)
theorem allS3_ (c : Nat) : ∀ k0, k0 < 8 → ∀ b2 : Bool, runS 3 3 c k0 b2 = .yes
  | 0, _, true => cS3_0_t c
  | 0, _, false => cS3_0_f c
  | 1, _, true => cS3_1_t c
  | 1, _, false => cS3_1_f c
  | 2, _, true => cS3_2_t c
  | 2, _, false => cS3_2_f c
  | 3, _, true => cS3_3_t c
  | 3, _, false => cS3_3_f c
  | 4, _, true => cS3_4_t c
  | 4, _, false => cS3_4_f c
  | 5, _, true => cS3_5_t c
  | 5, _, false => cS3_5_f c
  | 6, _, true => cS3_6_t c
  | 6, _, false => cS3_6_f c
  | 7, _, true => cS3_7_t c
  | 7, _, false => cS3_7_f c
  | k + 8, h, _ => absurd h (by omega)
theorem allS4_ (c : Nat) : ∀ k0, k0 < 8 → ∀ b2 : Bool, runS 4 4 c k0 b2 = .yes
  | 0, _, true => cS4_0_t c
  | 0, _, false => cS4_0_f c
  | 1, _, true => cS4_1_t c
  | 1, _, false => cS4_1_f c
  | 2, _, true => cS4_2_t c
  | 2, _, false => cS4_2_f c
  | 3, _, true => cS4_3_t c
  | 3, _, false => cS4_3_f c
  | 4, _, true => cS4_4_t c
  | 4, _, false => cS4_4_f c
  | 5, _, true => cS4_5_t c
  | 5, _, false => cS4_5_f c
  | 6, _, true => cS4_6_t c
  | 6, _, false => cS4_6_f c
  | 7, _, true => cS4_7_t c
  | 7, _, false => cS4_7_f c
  | k + 8, h, _ => absurd h (by omega)
theorem allS5_ (c : Nat) : ∀ k0, k0 < 8 → ∀ b2 : Bool, runS 5 5 c k0 b2 = .yes
  | 0, _, true => cS5_0_t c
  | 0, _, false => cS5_0_f c
  | 1, _, true => cS5_1_t c
  | 1, _, false => cS5_1_f c
  | 2, _, true => cS5_2_t c
  | 2, _, false => cS5_2_f c
  | 3, _, true => cS5_3_t c
  | 3, _, false => cS5_3_f c
  | 4, _, true => cS5_4_t c
  | 4, _, false => cS5_4_f c
  | 5, _, true => cS5_5_t c
  | 5, _, false => cS5_5_f c
  | 6, _, true => cS5_6_t c
  | 6, _, false => cS5_6_f c
  | 7, _, true => cS5_7_t c
  | 7, _, false => cS5_7_f c
  | k + 8, h, _ => absurd h (by omega)
theorem allS6_ (c : Nat) : ∀ k0, k0 < 8 → ∀ b2 : Bool, runS 6 6 c k0 b2 = .yes
  | 0, _, true => cS6_0_t c
  | 0, _, false => cS6_0_f c
  | 1, _, true => cS6_1_t c
  | 1, _, false => cS6_1_f c
  | 2, _, true => cS6_2_t c
  | 2, _, false => cS6_2_f c
  | 3, _, true => cS6_3_t c
  | 3, _, false => cS6_3_f c
  | 4, _, true => cS6_4_t c
  | 4, _, false => cS6_4_f c
  | 5, _, true => cS6_5_t c
  | 5, _, false => cS6_5_f c
  | 6, _, true => cS6_6_t c
  | 6, _, false => cS6_6_f c
  | 7, _, true => cS6_7_t c
  | 7, _, false => cS6_7_f c
  | k + 8, h, _ => absurd h (by omega)
theorem allG (L c : Nat) : ∀ k0, k0 < 8 → ∀ b2 : Bool, runS 7 (L + 7) c k0 b2 = .yes
  | 0, _, true => cG0_t L c
  | 0, _, false => cG0_f L c
  | 1, _, true => cG1_t L c
  | 1, _, false => cG1_f L c
  | 2, _, true => cG2_t L c
  | 2, _, false => cG2_f L c
  | 3, _, true => cG3_t L c
  | 3, _, false => cG3_f L c
  | 4, _, true => cG4_t L c
  | 4, _, false => cG4_f L c
  | 5, _, true => cG5_t L c
  | 5, _, false => cG5_f L c
  | 6, _, true => cG6_t L c
  | 6, _, false => cG6_f L c
  | 7, _, true => cG7_t L c
  | 7, _, false => cG7_f L c
  | k + 8, h, _ => absurd h (by omega)
/-- what is asked of the slice that comes in -/
def In (w : World) (A : Option Addr) (L c : Nat) : Prop := (A = none ∧ L = 0 ∧ c = 0) ∨ ∃ B, A = some B ∧ L ≤ c ∧ (c ≠ 0 → ∃ b o, B = ⟨b, o, none⟩ ∧ ∀ i, i < L → ∃ z, w.cell? ⟨b, o + i, none⟩ = some (.int .i64 z))
theorem walk (a0 : Int) (A : Option Addr) (L c : Nat) (b2 : Bool) (w : World) (hI : In w A L c) :
    Calls Try.prog 5 #[.int .i64 a0, .slice A L c, .bool b2] w fun e w' => e = .returned (.bool true) ∧ Below w.heap.size w w' := by
  have hk0 : (a0 % 8).toNat < 8 := by omega
  have ek0 : ((a0 % 8).toNat : Int) = a0 % 8 := by omega
  generalize (a0 % 8).toNat = k0 at hk0 ek0
  have ho : ∀ Z : Nat → Int, OrcOk Try.prog (fun x => if x = 0 then a0 else if 100 ≤ x then Z (x - 100) else 0) (orc k0) := fun Z => or_ok (or_ok (place_ok knownP (fun n k w h1 h2 => place_any n k w h1 h2) (fun e he h0 => by
    simp only [tab, List.mem_cons, List.not_mem_nil, or_false] at he
    rcases he with rfl
    · exact ⟨by show 8 ≤ 1000000; omega, by simpa using ek0.symm⟩)) (placeY_ok knownP (fun n k w h1 h2 => place_any n k w h1 h2) (fun e he h0 => by
    simp [taby] at he))) (const_ok knownA awake_ok)
  have hy : ∀ Z : Nat → Int, YsOk (fun x => if x = 0 then a0 else if 100 ≤ x then Z (x - 100) else 0) (ysR []) := fun Z => ysR_ok (fun e he => by
    simp at he)
  have end1 : (Calls Try.prog 5 #[.int .i64 a0, .slice A L c, .bool b2] w fun e w' => e = .returned (.bool true) ∧ Old w w') → Calls Try.prog 5 #[.int .i64 a0, .slice A L c, .bool b2] w fun e w' => e = .returned (.bool true) ∧ Below w.heap.size w w' := fun h => h.mono fun e w' h => ⟨h.1, h.2.below⟩
  apply end1
  rcases hI with ⟨rfl, rfl, rfl⟩ | ⟨B, rfl, hLc, hc⟩
  · exact law_slice (hy fun _ => 0) (inL_ok fsL_ok) (ho fun _ => 0) globs (h0 := he) (m0 := fun _ => none) (fun b c z h => by rw [hg_he] at h; cases h) sim_he (fun _ _ => rfl) (quick he3_ok (allN k0 hk0 b2)) (vs := [.int .i64 a0, .slice none 0 0, .bool b2]) (denC_cons.2 ⟨_, _, rfl, rfl, denC_cons.2 ⟨_, _, rfl, rfl, denC_cons.2 ⟨_, _, rfl, rfl, denC_nil.2 rfl⟩⟩⟩)
  · have hdE : L = 0 → Calls Try.prog 5 #[.int .i64 a0, .slice (some B) L c, .bool b2] w fun e w' => e = .returned (.bool true) ∧ Old w w' := by
      intro hL
      subst hL
      have hm : ∃ m0 : Mp, (∀ b, 100 ≤ b → m0 b = none) ∧ ∃ B1 O1 Z1, m0 0 = some (B1, O1, Z1) ∧ (c = 0 ∨ ∃ O', B = ⟨B1, O', none⟩ ∧ O' + c * 1 = Z1) := by
        by_cases h0 : c = 0
        · exact ⟨fun b => if b = 0 then some (0, 0, 0) else none, fun b hb => if_neg (by omega), 0, 0, 0, if_pos rfl, .inl h0⟩
        · obtain ⟨b, o, rfl, _⟩ := hc h0
          exact ⟨fun x => if x = 0 then some (b, 0, o + c) else none, fun x hx => if_neg (by omega), b, 0, o + c, if_pos rfl, .inr ⟨o, rfl, by omega⟩⟩
      obtain ⟨m0, hfree, B1, O1, Z1, hm0, hor⟩ := hm
      exact law_slice (hy fun _ => 0) (inL_ok fsL_ok) (ho fun _ => 0) globs (h0 := he) (m0 := m0) (fun b c z h => by rw [hg_he] at h; cases h) sim_he hfree (quick he3_ok (allE k0 hk0 b2)) (vs := [.int .i64 a0, .slice (some B) 0 c, .bool b2]) (denC_cons.2 ⟨_, _, rfl, rfl, denC_cons.2 ⟨_, _, rfl, ⟨B1, O1, Z1, B, c, hm0, hor, rfl⟩, denC_cons.2 ⟨_, _, rfl, rfl, denC_nil.2 rfl⟩⟩⟩)
    rcases Nat.eq_zero_or_pos L with hL | hL
    · exact hdE hL
    · obtain ⟨b, o, rfl, hcell⟩ := hc (by omega)
      obtain ⟨Z, hZ⟩ : ∃ Z : Nat → Int, ∀ i, i < L → w.cell? ⟨b, o + i, none⟩ = some (.int .i64 (Z i)) :=
        ⟨fun i => if h : i < L then (hcell i h).choose else 0, fun i hi => by simp only [hi, dif_pos]; exact (hcell i hi).choose_spec⟩
      obtain ⟨C, el, fr, hh, hC⟩ : ∃ C el fr, w.heap[b]? = some (.cells C el fr) ∧ ∀ i, i < L → C[o + i]? = some (.int .i64 (Z i)) := by
        have h0 := hZ 0 hL
        unfold World.cell? at h0
        cases hh : w.heap[b]? with
        | none => simp [hh] at h0
        | some ob =>
          cases ob with
          | cells C el fr => exact ⟨C, el, fr, rfl, fun i hi => by have := hZ i hi; simpa [World.cell?, hh] using this⟩
          | _ => simp [hh] at h0
      have fin : ∀ q, q ≤ L → 0 < q → q ≤ 100 → runS q L c k0 b2 = .yes → Calls Try.prog 5 #[.int .i64 a0, .slice (some ⟨b, o, none⟩) L c, .bool b2] w fun e w' => e = .returned (.bool true) ∧ Old w w' := by
        intro q hq hq0 hq1 hrun
        have hr := letters_den (ρ := fun x => if x = 0 then a0 else if 100 ≤ x then Z (x - 100) else 0) (m := fun x => if x = 0 then some (b, o, C.size) else none) q 0
        have s : Sim Try.prog (fun x => if x = 0 then a0 else if 100 ≤ x then Z (x - 100) else 0) (fun x => if x = 0 then some (b, o, C.size) else none) 1 (hst he (.bk (lay (letters q 0) ce 0) q) 0) w := sim_row hh (letters_len q 0) hr (fun v hv => by
            obtain ⟨j, _, rfl⟩ := List.mem_map.1 hv
            rfl) (fun j v hj => by
            rw [List.getElem?_map] at hj
            obtain ⟨i, hi, rfl⟩ := Option.map_eq_some_iff.1 hj
            have hjq : j < q := by
              have := (List.getElem?_eq_some_iff.1 hi).1
              simpa using this
            rw [List.getElem?_range'] at hi
            · cases hi
              have := hC j (by omega)
              simpa [] using this
            · exact hjq) (if_pos rfl) (by omega) (by unfold MAPZ; omega)
        obtain ⟨h3, hH, h1⟩ := start3_ok (show Go.Rn.Good (runS q L c k0 b2) from hrun)
        exact law_slice (hy Z) (inL_ok fsL_ok) (ho Z) globs row_lt s (fun x hx => if_neg (by omega)) (quick hH h1) (vs := [.int .i64 a0, .slice (some ⟨b, o, none⟩) L c, .bool b2]) (denC_cons.2 ⟨_, _, rfl, rfl, denC_cons.2 ⟨_, _, rfl, ⟨b, o, C.size, if_pos rfl, hLc, rfl⟩, denC_cons.2 ⟨_, _, rfl, rfl, denC_nil.2 rfl⟩⟩⟩)
      by_cases h1 : L = 1
      · subst h1
        exact fin 1 (by omega) (by omega) (by omega) (allS1_ c k0 hk0 b2)
      by_cases h2 : L = 2
      · subst h2
        exact fin 2 (by omega) (by omega) (by omega) (allS2_ c k0 hk0 b2)
      by_cases h3 : L = 3
      · subst h3
        exact fin 3 (by omega) (by omega) (by omega) (allS3_ c k0 hk0 b2)
      by_cases h4 : L = 4
      · subst h4
        exact fin 4 (by omega) (by omega) (by omega) (allS4_ c k0 hk0 b2)
      by_cases h5 : L = 5
      · subst h5
        exact fin 5 (by omega) (by omega) (by omega) (allS5_ c k0 hk0 b2)
      by_cases h6 : L = 6
      · subst h6
        exact fin 6 (by omega) (by omega) (by omega) (allS6_ c k0 hk0 b2)
      obtain ⟨L', rfl⟩ : ∃ L', L = L' + 7 := ⟨L - 7, by omega⟩
      exact fin 7 (by omega) (by omega) (by omega) (allG L' c k0 hk0 b2)
end Go.Proofs.Ytendogjdmabknaa.pthreadPairsq
