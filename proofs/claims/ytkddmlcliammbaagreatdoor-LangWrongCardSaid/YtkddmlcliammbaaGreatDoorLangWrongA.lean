/-
  The law LangWrong by the evaluator: each of its cases ends in true, over the table that lies in its variable. Conditions: none but those that the theorems print.
-/
import Derived.Test.YtkddmlcliammbaaGreatDoorTxtA
import Derived.Test.YtkddmlcliammbaaGreatDoorRqQ
import Derived.Test.YtkddmlcliammbaaGreatDoorRqT
import Derived.Test.YtkddmlcliammbaaGreatDoorTold
import Derived.Test.YtkddmlcliammbaaGreatDoorRnZf
import Derived.WalkKit
import Derived.ProofKit
import Derived.Lib.Hide
namespace Go.Proofs.YtkddmlcliammbaaGreatDoor.langWrongq
open Go.Rn Go.RowKit YtkddmlcliammbaaGreatDoor.txt
noncomputable def rows : VRows := [(1, .cons (ifU 130) .nil, 1)]
noncomputable def kc : Kc := kcJoin 32
noncomputable def tab (k0 k1 : Nat) : List (Nat × Nat × Nat) := [(0, 14, k0), (1, 20, k1)]
noncomputable def taby : List (Nat × Nat × Nat) := []
noncomputable def orc (k0 k1 : Nat) : Nat → RV → Option RV := orO (placeO 4 (tab k0 k1)) (orO (orO (orO (cntO 78) (idxO 66)) (atoiG 42 93)) (cloneO 71))
noncomputable def run (k0 k1 : Nat) : A := startV rows he3 fun h => call3 (ysR []) 100 (inL fsL) (orc k0 k1) kc 60 3 (.cons (.y .i64 (.v 0)) (.cons (.y .i64 (.v 1)) .nil)) h 100 isT
theorem rowsOk : rowsVB rows = true := by kernel_rfl
theorem kcOk {ρ : Nat → Int} : KcOk Tryz.prog ρ kc := kcJoin_ok told.join
theorem globs : Tryz.prog.globals.size ≤ 100 := of_decide_eq_true (by kernel_rfl)
theorem knownP : known Tryz.prog 4 = true := by kernel_rfl
set_option maxRecDepth 100000 in
set_option maxHeartbeats 400000 in
theorem place_any (n : Int) (k : Nat) (w : World) (hk : 0 < k) (hk2 : k ≤ 1000000) :
    Calls Tryz.prog 4 #[.int .i64 n, .int .i64 k] w fun e w' => e = .returned (.int .i64 (n % k)) ∧ w = w' := by
  by_cases hz : n.tmod k < 0
  · have HM := Lib.hid (place_neg n k hk hz)
    have hlow : -(k : Int) < n.tmod k := by
      have := HM.out
      have h1 := Int.emod_nonneg n (show (k : Int) ≠ 0 by omega)
      by_cases he : n % (k : Int) = 0
      · have h0 : n.tmod k = 0 := Int.tmod_eq_zero_of_dvd (Int.dvd_of_emod_eq_zero he)
        omega
      · omega
    go_enter Tryz.func4, Tryz.ntmps4
    go_wp2_with fail
    go_ret
    exact ⟨by rw [← HM.out]; rfl, rfl⟩
  · have HM := Lib.hid (place_pos n k hk hz)
    go_enter Tryz.func4, Tryz.ntmps4
    go_wp2_with fail
    go_ret
    exact ⟨by rw [← HM.out]; rfl, rfl⟩
end Go.Proofs.YtkddmlcliammbaaGreatDoor.langWrongq
