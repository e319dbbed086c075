/-
  The law PthreadDeps by the evaluator: each of its cases ends in true. Conditions: none but those that the theorems print.
-/
import Derived.Test.YtendogjdmabknaaTxtA
import Derived.Test.YtendogjdmabknaaRqM
import Derived.WalkKit
import Derived.ProofKit
import Derived.Lib.Hide
namespace Go.Proofs.Ytendogjdmabknaa.pthreadDeps
open Go.Rn Ytendogjdmabknaa.txt
noncomputable def tab (k0 : Nat) : List (Nat × Nat × Nat) := [(0, 6, k0)]
noncomputable def orc (k0 : Nat) : Nat → RV → Option RV := orO (placeO 8 (tab k0)) (constO 12)
noncomputable def run (k0 : Nat) (z : Bool) : A := call3 (ysV 1 z) 0 (inL fsL) (orc k0) noKc 60 6 (.cons (.y .i64 (.v 0)) (.cons (.y .i64 (.v 1)) (.cons (.y .i64 (.v 2)) .nil))) he3 100 isT
theorem globs : Try.prog.globals.size ≤ 100 := of_decide_eq_true (by kernel_rfl)
theorem knownP : known Try.prog 8 = true := by kernel_rfl
theorem knownA : known Try.prog 12 = true := by kernel_rfl
theorem awake_run : call3 (fun _ _ _ => none) 0 (inL fsL) (fun _ _ => none) noKc 60 12 .nil he3 100 isT = .yes := by kernel_rfl
theorem awake_ok (w : World) : Calls Try.prog 12 #[] w fun e w' => e = .returned (.bool true) ∧ Old w w' :=
  law_quick (ρ := fun _ => 0) no_ys (inL_ok fsL_ok) none_ok (n := 100) globs awake_run (vs := []) (fun _ => denC_nil.2 rfl) w
set_option maxRecDepth 100000 in
set_option maxHeartbeats 400000 in
theorem place_any (n : Int) (k : Nat) (w : World) (hk : 0 < k) (hk2 : k ≤ 1000000) :
    Calls Try.prog 8 #[.int .i64 n, .int .i64 k] w fun e w' => e = .returned (.int .i64 (n % k)) ∧ w = w' := by
  by_cases hz : n.tmod k < 0
  · have HM := Lib.hid (place_neg n k hk hz)
    have hlow : -(k : Int) < n.tmod k := by
      have := HM.out
      have h1 := Int.emod_nonneg n (show (k : Int) ≠ 0 by omega)
      by_cases he : n % (k : Int) = 0
      · have h0 : n.tmod k = 0 := Int.tmod_eq_zero_of_dvd (Int.dvd_of_emod_eq_zero he)
        omega
      · omega
    go_enter Try.func8, Try.ntmps8
    go_wp2_with fail
    go_ret
    exact ⟨by rw [← HM.out]; rfl, rfl⟩
  · have HM := Lib.hid (place_pos n k hk hz)
    go_enter Try.func8, Try.ntmps8
    go_wp2_with fail
    go_ret
    exact ⟨by rw [← HM.out]; rfl, rfl⟩
theorem c0_t : run 0 true = .yes := by kernel_rfl
theorem c0_f : run 0 false = .yes := by kernel_rfl
theorem c1_t : run 1 true = .yes := by kernel_rfl
theorem c1_f : run 1 false = .yes := by kernel_rfl
theorem c2_t : run 2 true = .yes := by kernel_rfl
theorem c2_f : run 2 false = .yes := by kernel_rfl
theorem c3_t : run 3 true = .yes := by kernel_rfl
theorem c3_f : run 3 false = .yes := by kernel_rfl
theorem c4_t : run 4 true = .yes := by kernel_rfl
theorem c4_f : run 4 false = .yes := by kernel_rfl
theorem c5_t : run 5 true = .yes := by kernel_rfl
theorem c5_f : run 5 false = .yes := by kernel_rfl
theorem alls : ∀ k0, k0 < 6 → ∀ z : Bool, run k0 z = .yes
  | 0, _, true => c0_t
  | 0, _, false => c0_f
  | 1, _, true => c1_t
  | 1, _, false => c1_f
  | 2, _, true => c2_t
  | 2, _, false => c2_f
  | 3, _, true => c3_t
  | 3, _, false => c3_f
  | 4, _, true => c4_t
  | 4, _, false => c4_f
  | 5, _, true => c5_t
  | 5, _, false => c5_f
  | k + 6, h, _ => absurd h (by omega)
end Go.Proofs.Ytendogjdmabknaa.pthreadDeps
