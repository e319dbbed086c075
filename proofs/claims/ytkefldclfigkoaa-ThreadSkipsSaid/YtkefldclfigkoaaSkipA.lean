/-
  The law ThreadSkips as the evaluator runs it, what it takes for known beforehand, and that the latter is so. Conditions: none but those that the theorems print.
-/
import Derived.Test.YtkefldclfigkoaaRnZd
import Derived.Test.YtkefldclfigkoaaProg
import Derived.WalkKit
import Derived.ProofKit
import Derived.Lib.Hide
namespace Go.Proofs.Ytkefldclfigkoaa.threadSkips
open Go.Rn
noncomputable def tab (k t : Nat) : List (Nat × Nat × Nat) := [(1, 11, k), (0, k + 1, t)]
noncomputable def orc (k t : Nat) : Nat → RV → Option RV := orO (placeO 5 (tab k t)) (constO 7)
noncomputable def run (k t : Nat) (b2 : Bool) : SR := callX (fun _ _ _ => none) (fun f => compF Try.prog f) (orc k t) 60 3 (.cons (.y .i64 (.v 0)) (.cons (.y .i64 (.v 1)) (.cons (.b b2) .nil))) 0 he 100
theorem globs : Try.prog.globals.size ≤ 100 := of_decide_eq_true (by kernel_rfl)
theorem knownP : known Try.prog 5 = true := by kernel_rfl
theorem knownA : known Try.prog 7 = true := by kernel_rfl
theorem awake_run : isB (callX (fun _ _ _ => none) (fun f => compF Try.prog f) (fun _ _ => none) 60 7 .nil 0 he 100) = true := by kernel_rfl
theorem awake_ok (w : World) : Calls Try.prog 7 #[] w fun e w' => e = .returned (.bool true) ∧ Old w w' :=
  law_true (ρ := fun _ => 0) none_ok (n := 100) globs awake_run (vs := []) (fun _ => denC_nil.2 rfl) w
set_option maxRecDepth 100000 in
set_option maxHeartbeats 400000 in
theorem place_any (n : Int) (k : Nat) (w : World) (hk : 0 < k) (hk2 : k ≤ 1000000) :
    Calls Try.prog 5 #[.int .i64 n, .int .i64 k] w fun e w' => e = .returned (.int .i64 (n % k)) ∧ w = w' := by
  by_cases hz : n.tmod k < 0
  · have HM := Lib.hid (place_neg n k hk hz)
    have hlow : -(k : Int) < n.tmod k := by
      have := HM.out
      have h1 := Int.emod_nonneg n (show (k : Int) ≠ 0 by omega)
      by_cases he : n % (k : Int) = 0
      · have h0 : n.tmod k = 0 := Int.tmod_eq_zero_of_dvd (Int.dvd_of_emod_eq_zero he)
        omega
      · omega
    go_enter Try.func5, Try.ntmps5
    go_wp2_with fail
    go_ret
    exact ⟨by rw [← HM.out]; rfl, rfl⟩
  · have HM := Lib.hid (place_pos n k hk hz)
    go_enter Try.func5, Try.ntmps5
    go_wp2_with fail
    go_ret
    exact ⟨by rw [← HM.out]; rfl, rfl⟩
end Go.Proofs.Ytkefldclfigkoaa.threadSkips
