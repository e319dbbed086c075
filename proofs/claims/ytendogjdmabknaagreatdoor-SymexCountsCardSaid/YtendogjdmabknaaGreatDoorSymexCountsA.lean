/-
  The law SymexCounts by the evaluator: each of its cases ends in true. Conditions: none but those that the theorems print.
-/
import Derived.Test.YtendogjdmabknaaGreatDoorTxtA
import Derived.Test.YtendogjdmabknaaGreatDoorRqM
import Derived.WalkKit
import Derived.ProofKit
import Derived.Lib.Hide
namespace Go.Proofs.YtendogjdmabknaaGreatDoor.symexCountsq
open Go.Rn Go.RowKit YtendogjdmabknaaGreatDoor.txt
noncomputable def tab (k0 k1 : Nat) : List (Nat × Nat × Nat) := [(0, 5, k0), (1, 3, k1)]
noncomputable def orc (k0 k1 : Nat) : Nat → RV → Option RV := orO (placeO 7 (tab k0 k1)) (constO 13)
noncomputable def run (k0 k1 : Nat) : A := call3 (fun _ _ _ => none) 0 (inL fsL) (orc k0 k1) noKc 60 4 (.cons (.y .i64 (.v 0)) (.cons (.y .i64 (.v 1)) .nil)) he3 100 isT
theorem globs : Tryz.prog.globals.size ≤ 100 := of_decide_eq_true (by kernel_rfl)
theorem knownP : known Tryz.prog 7 = true := by kernel_rfl
theorem knownA : known Tryz.prog 13 = true := by kernel_rfl
theorem awake_run : call3 (fun _ _ _ => none) 0 (inL fsL) (fun _ _ => none) noKc 60 13 .nil he3 100 isT = .yes := by kernel_rfl
theorem awake_ok (w : World) : Calls Tryz.prog 13 #[] w fun e w' => e = .returned (.bool true) ∧ Old w w' :=
  law_quick (ρ := fun _ => 0) no_ys (inL_ok fsL_ok) none_ok (n := 100) globs awake_run (vs := []) (fun _ => denC_nil.2 rfl) w
set_option maxRecDepth 100000 in
set_option maxHeartbeats 400000 in
theorem place_any (n : Int) (k : Nat) (w : World) (hk : 0 < k) (hk2 : k ≤ 1000000) :
    Calls Tryz.prog 7 #[.int .i64 n, .int .i64 k] w fun e w' => e = .returned (.int .i64 (n % k)) ∧ w = w' := by
  by_cases hz : n.tmod k < 0
  · have HM := Lib.hid (place_neg n k hk hz)
    have hlow : -(k : Int) < n.tmod k := by
      have := HM.out
      have h1 := Int.emod_nonneg n (show (k : Int) ≠ 0 by omega)
      by_cases he : n % (k : Int) = 0
      · have h0 : n.tmod k = 0 := Int.tmod_eq_zero_of_dvd (Int.dvd_of_emod_eq_zero he)
        omega
      · omega
    go_enter Tryz.func7, Tryz.ntmps7
    go_wp2_with fail
    go_ret
    exact ⟨by rw [← HM.out]; rfl, rfl⟩
  · have HM := Lib.hid (place_pos n k hk hz)
    go_enter Tryz.func7, Tryz.ntmps7
    go_wp2_with fail
    go_ret
    exact ⟨by rw [← HM.out]; rfl, rfl⟩
end Go.Proofs.YtendogjdmabknaaGreatDoor.symexCountsq
