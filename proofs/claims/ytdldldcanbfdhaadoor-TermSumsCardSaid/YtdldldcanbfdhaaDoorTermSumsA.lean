/-
  The law TermSums by the evaluator: each of its cases ends in true, whatever the slice that comes in holds. Conditions: none but those that the theorems print.
-/
import Derived.Test.YtdldldcanbfdhaaDoorTxtA
import Derived.Test.YtdldldcanbfdhaaDoorRqU
import Derived.Test.YtdldldcanbfdhaaDoorTold
import Derived.WalkKit
import Derived.ProofKit
import Derived.Lib.Hide
namespace Go.Proofs.YtdldldcanbfdhaaDoor.termSumsq
open Go.Rn Go.RowKit YtdldldcanbfdhaaDoor.txt
noncomputable def kc : Kc := kcJoin 44
noncomputable def tab (k0 : Nat) : List (Nat × Nat × Nat) := [(0, 9, k0)]
noncomputable def orc (k0 : Nat) : Nat → RV → Option RV := placeO 4 (tab k0)
noncomputable def core (k0 : Nat) (s : RV) (h : H3) : A := call3 ysZ 100 (inL fsL) (orc k0) kc 60 3 (.cons (.y .i64 (.v 0)) (.cons s .nil)) h 100 isT
/-- no slice; one of no length; q elements known of it -/
noncomputable def runN (k0 : Nat) : A := core k0 .ns he3
noncomputable def runE (k0 : Nat) : A := core k0 (.sx 50 1) he3
noncomputable def runS (q L c k0 : Nat) : A := start3 (letters q 0) 50 q fun h => core k0 (.sl 50 0 L c) h
theorem kcOk {ρ : Nat → Int} : KcOk Tryd.prog ρ kc := kcJoin_ok told.join
theorem globs : Tryd.prog.globals.size ≤ 50 := of_decide_eq_true (by kernel_rfl)
theorem knownP : known Tryd.prog 4 = true := by kernel_rfl
set_option maxRecDepth 100000 in
set_option maxHeartbeats 400000 in
theorem place_any (n : Int) (k : Nat) (w : World) (hk : 0 < k) (hk2 : k ≤ 1000000) :
    Calls Tryd.prog 4 #[.int .i64 n, .int .i64 k] w fun e w' => e = .returned (.int .i64 (n % k)) ∧ w = w' := by
  by_cases hz : n.tmod k < 0
  · have HM := Lib.hid (place_neg n k hk hz)
    have hlow : -(k : Int) < n.tmod k := by
      have := HM.out
      have h1 := Int.emod_nonneg n (show (k : Int) ≠ 0 by omega)
      by_cases he : n % (k : Int) = 0
      · have h0 : n.tmod k = 0 := Int.tmod_eq_zero_of_dvd (Int.dvd_of_emod_eq_zero he)
        omega
      · omega
    go_enter Tryd.func4, Tryd.ntmps4
    go_wp2_with fail
    go_ret
    exact ⟨by rw [← HM.out]; rfl, rfl⟩
  · have HM := Lib.hid (place_pos n k hk hz)
    go_enter Tryd.func4, Tryd.ntmps4
    go_wp2_with fail
    go_ret
    exact ⟨by rw [← HM.out]; rfl, rfl⟩
theorem cN0 : runN 0 = .yes := by kernel_rfl
theorem cN1 : runN 1 = .yes := by kernel_rfl
theorem cN2 : runN 2 = .yes := by kernel_rfl
theorem cN3 : runN 3 = .yes := by kernel_rfl
theorem cN4 : runN 4 = .yes := by kernel_rfl
theorem cN5 : runN 5 = .yes := by kernel_rfl
theorem cN6 : runN 6 = .yes := by kernel_rfl
theorem cN7 : runN 7 = .yes := by kernel_rfl
theorem cN8 : runN 8 = .yes := by kernel_rfl
theorem cE0 : runE 0 = .yes := by kernel_rfl
theorem cE1 : runE 1 = .yes := by kernel_rfl
theorem cE2 : runE 2 = .yes := by kernel_rfl
theorem cE3 : runE 3 = .yes := by kernel_rfl
theorem cE4 : runE 4 = .yes := by kernel_rfl
theorem cE5 : runE 5 = .yes := by kernel_rfl
theorem cE6 : runE 6 = .yes := by kernel_rfl
theorem cE7 : runE 7 = .yes := by kernel_rfl
theorem cE8 : runE 8 = .yes := by kernel_rfl
theorem cS1_0 (c : Nat) : runS 1 1 c 0 = .yes := by kernel_rfl
theorem cS1_1 (c : Nat) : runS 1 1 c 1 = .yes := by kernel_rfl
theorem cS1_2 (c : Nat) : runS 1 1 c 2 = .yes := by kernel_rfl
theorem cS1_3 (c : Nat) : runS 1 1 c 3 = .yes := by kernel_rfl
theorem cS1_4 (c : Nat) : runS 1 1 c 4 = .yes := by kernel_rfl
theorem cS1_5 (c : Nat) : runS 1 1 c 5 = .yes := by kernel_rfl
theorem cS1_6 (c : Nat) : runS 1 1 c 6 = .yes := by kernel_rfl
theorem cS1_7 (c : Nat) : runS 1 1 c 7 = .yes := by kernel_rfl
theorem cS1_8 (c : Nat) : runS 1 1 c 8 = .yes := by kernel_rfl
theorem cS2_0 (c : Nat) : runS 2 2 c 0 = .yes := by kernel_rfl
theorem cS2_1 (c : Nat) : runS 2 2 c 1 = .yes := by kernel_rfl
theorem cS2_2 (c : Nat) : runS 2 2 c 2 = .yes := by kernel_rfl
theorem cS2_3 (c : Nat) : runS 2 2 c 3 = .yes := by kernel_rfl
theorem cS2_4 (c : Nat) : runS 2 2 c 4 = .yes := by kernel_rfl
theorem cS2_5 (c : Nat) : runS 2 2 c 5 = .yes := by kernel_rfl
theorem cS2_6 (c : Nat) : runS 2 2 c 6 = .yes := by kernel_rfl
theorem cS2_7 (c : Nat) : runS 2 2 c 7 = .yes := by kernel_rfl
theorem cS2_8 (c : Nat) : runS 2 2 c 8 = .yes := by kernel_rfl
theorem cS3_0 (c : Nat) : runS 3 3 c 0 = .yes := by kernel_rfl
theorem cS3_1 (c : Nat) : runS 3 3 c 1 = .yes := by kernel_rfl
theorem cS3_2 (c : Nat) : runS 3 3 c 2 = .yes := by kernel_rfl
theorem cS3_3 (c : Nat) : runS 3 3 c 3 = .yes := by kernel_rfl
theorem cS3_4 (c : Nat) : runS 3 3 c 4 = .yes := by kernel_rfl
theorem cS3_5 (c : Nat) : runS 3 3 c 5 = .yes := by kernel_rfl
theorem cS3_6 (c : Nat) : runS 3 3 c 6 = .yes := by kernel_rfl
theorem cS3_7 (c : Nat) : runS 3 3 c 7 = .yes := by kernel_rfl
theorem cS3_8 (c : Nat) : runS 3 3 c 8 = .yes := by kernel_rfl
theorem cS4_0 (c : Nat) : runS 4 4 c 0 = .yes := by kernel_rfl
theorem cS4_1 (c : Nat) : runS 4 4 c 1 = .yes := by kernel_rfl
theorem cS4_2 (c : Nat) : runS 4 4 c 2 = .yes := by kernel_rfl
theorem cS4_3 (c : Nat) : runS 4 4 c 3 = .yes := by kernel_rfl
theorem cS4_4 (c : Nat) : runS 4 4 c 4 = .yes := by kernel_rfl
theorem cS4_5 (c : Nat) : runS 4 4 c 5 = .yes := by kernel_rfl
theorem cS4_6 (c : Nat) : runS 4 4 c 6 = .yes := by kernel_rfl
theorem cS4_7 (c : Nat) : runS 4 4 c 7 = .yes := by kernel_rfl
theorem cS4_8 (c : Nat) : runS 4 4 c 8 = .yes := by kernel_rfl
theorem cS5_0 (c : Nat) : runS 5 5 c 0 = .yes := by kernel_rfl
theorem cS5_1 (c : Nat) : runS 5 5 c 1 = .yes := by kernel_rfl
theorem cS5_2 (c : Nat) : runS 5 5 c 2 = .yes := by kernel_rfl
theorem cS5_3 (c : Nat) : runS 5 5 c 3 = .yes := by kernel_rfl
theorem cS5_4 (c : Nat) : runS 5 5 c 4 = .yes := by kernel_rfl
theorem cS5_5 (c : Nat) : runS 5 5 c 5 = .yes := by kernel_rfl
theorem cS5_6 (c : Nat) : runS 5 5 c 6 = .yes := by kernel_rfl
theorem cS5_7 (c : Nat) : runS 5 5 c 7 = .yes := by kernel_rfl
theorem cS5_8 (c : Nat) : runS 5 5 c 8 = .yes := by kernel_rfl
theorem cS6_0 (c : Nat) : runS 6 6 c 0 = .yes := by kernel_rfl
theorem cS6_1 (c : Nat) : runS 6 6 c 1 = .yes := by kernel_rfl
theorem cS6_2 (c : Nat) : runS 6 6 c 2 = .yes := by kernel_rfl
theorem cS6_3 (c : Nat) : runS 6 6 c 3 = .yes := by kernel_rfl
theorem cS6_4 (c : Nat) : runS 6 6 c 4 = .yes := by kernel_rfl
theorem cS6_5 (c : Nat) : runS 6 6 c 5 = .yes := by kernel_rfl
theorem cS6_6 (c : Nat) : runS 6 6 c 6 = .yes := by kernel_rfl
theorem cS6_7 (c : Nat) : runS 6 6 c 7 = .yes := by kernel_rfl
theorem cS6_8 (c : Nat) : runS 6 6 c 8 = .yes := by kernel_rfl
theorem cS7_0 (c : Nat) : runS 7 7 c 0 = .yes := by kernel_rfl
theorem cS7_1 (c : Nat) : runS 7 7 c 1 = .yes := by kernel_rfl
theorem cS7_2 (c : Nat) : runS 7 7 c 2 = .yes := by kernel_rfl
theorem cS7_3 (c : Nat) : runS 7 7 c 3 = .yes := by kernel_rfl
theorem cS7_4 (c : Nat) : runS 7 7 c 4 = .yes := by kernel_rfl
theorem cS7_5 (c : Nat) : runS 7 7 c 5 = .yes := by kernel_rfl
theorem cS7_6 (c : Nat) : runS 7 7 c 6 = .yes := by kernel_rfl
theorem cS7_7 (c : Nat) : runS 7 7 c 7 = .yes := by kernel_rfl
theorem cS7_8 (c : Nat) : runS 7 7 c 8 = .yes := by kernel_rfl
theorem cS8_0 (c : Nat) : runS 8 8 c 0 = .yes := by kernel_rfl
theorem cS8_1 (c : Nat) : runS 8 8 c 1 = .yes := by kernel_rfl
theorem cS8_2 (c : Nat) : runS 8 8 c 2 = .yes := by kernel_rfl
theorem cS8_3 (c : Nat) : runS 8 8 c 3 = .yes := by kernel_rfl
theorem cS8_4 (c : Nat) : runS 8 8 c 4 = .yes := by kernel_rfl
theorem cS8_5 (c : Nat) : runS 8 8 c 5 = .yes := by kernel_rfl
theorem cS8_6 (c : Nat) : runS 8 8 c 6 = .yes := by kernel_rfl
theorem cS8_7 (c : Nat) : runS 8 8 c 7 = .yes := by kernel_rfl
theorem cS8_8 (c : Nat) : runS 8 8 c 8 = .yes := by kernel_rfl
theorem cG0 (L c : Nat) : runS 9 (L + 9) c 0 = .yes := by kernel_rfl
theorem cG1 (L c : Nat) : runS 9 (L + 9) c 1 = .yes := by kernel_rfl
theorem cG2 (L c : Nat) : runS 9 (L + 9) c 2 = .yes := by kernel_rfl
theorem cG3 (L c : Nat) : runS 9 (L + 9) c 3 = .yes := by kernel_rfl
theorem cG4 (L c : Nat) : runS 9 (L + 9) c 4 = .yes := by kernel_rfl
theorem cG5 (L c : Nat) : runS 9 (L + 9) c 5 = .yes := by kernel_rfl
theorem cG6 (L c : Nat) : runS 9 (L + 9) c 6 = .yes := by kernel_rfl
theorem cG7 (L c : Nat) : runS 9 (L + 9) c 7 = .yes := by kernel_rfl
theorem cG8 (L c : Nat) : runS 9 (L + 9) c 8 = .yes := by kernel_rfl
end Go.Proofs.YtdldldcanbfdhaaDoor.termSumsq
