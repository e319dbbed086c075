/-
  The law OrderBob by the evaluator: each of its cases ends in true, over the table that lies in its variable. Conditions: none but those that the theorems print.
-/
import Derived.Test.YtjhknkpkihpknaaDoorTxtA
import Derived.Test.YtjhknkpkihpknaaDoorRqM
import Derived.Test.YtjhknkpkihpknaaDoorRnZe
import Derived.WalkKit
import Derived.ProofKit
import Derived.Lib.Hide
namespace Go.Proofs.YtjhknkpkihpknaaDoor.orderBobq
open Go.Rn Go.RowKit YtjhknkpkihpknaaDoor.txt
noncomputable def kch : RV := .cons (.i .u8 0) (.cons (.i .u8 1) (.cons (.i .u8 56) (.cons (.i .u8 2) (.cons (.i .u8 57) (.cons (.i .u8 49) (.cons (.i .u8 28) (.cons (.i .u8 3) (.cons (.i .u8 61) (.cons (.i .u8 58) (.cons (.i .u8 42) (.cons (.i .u8 50) (.cons (.i .u8 38) (.cons (.i .u8 29) (.cons (.i .u8 17) (.cons (.i .u8 4) (.cons (.i .u8 62) (.cons (.i .u8 47) (.cons (.i .u8 59) (.cons (.i .u8 36) (.cons (.i .u8 45) (.cons (.i .u8 43) (.cons (.i .u8 51) (.cons (.i .u8 22) (.cons (.i .u8 53) (.cons (.i .u8 39) (.cons (.i .u8 33) (.cons (.i .u8 30) (.cons (.i .u8 24) (.cons (.i .u8 18) (.cons (.i .u8 12) (.cons (.i .u8 5) (.cons (.i .u8 63) (.cons (.i .u8 55) (.cons (.i .u8 48) (.cons (.i .u8 27) (.cons (.i .u8 60) (.cons (.i .u8 41) (.cons (.i .u8 37) (.cons (.i .u8 16) (.cons (.i .u8 46) (.cons (.i .u8 35) (.cons (.i .u8 44) (.cons (.i .u8 21) (.cons (.i .u8 52) (.cons (.i .u8 32) (.cons (.i .u8 23) (.cons (.i .u8 11) (.cons (.i .u8 54) (.cons (.i .u8 26) (.cons (.i .u8 40) (.cons (.i .u8 15) (.cons (.i .u8 34) (.cons (.i .u8 20) (.cons (.i .u8 31) (.cons (.i .u8 10) (.cons (.i .u8 25) (.cons (.i .u8 14) (.cons (.i .u8 19) (.cons (.i .u8 9) (.cons (.i .u8 13) (.cons (.i .u8 8) (.cons (.i .u8 7) (.cons (.i .u8 6) (.nil))))))))))))))))))))))))))))))))))))))))))))))))))))))))))))))))
noncomputable def kv : List Value := [.int .u8 0, .int .u8 1, .int .u8 56, .int .u8 2, .int .u8 57, .int .u8 49, .int .u8 28, .int .u8 3, .int .u8 61, .int .u8 58, .int .u8 42, .int .u8 50, .int .u8 38, .int .u8 29, .int .u8 17, .int .u8 4, .int .u8 62, .int .u8 47, .int .u8 59, .int .u8 36, .int .u8 45, .int .u8 43, .int .u8 51, .int .u8 22, .int .u8 53, .int .u8 39, .int .u8 33, .int .u8 30, .int .u8 24, .int .u8 18, .int .u8 12, .int .u8 5, .int .u8 63, .int .u8 55, .int .u8 48, .int .u8 27, .int .u8 60, .int .u8 41, .int .u8 37, .int .u8 16, .int .u8 46, .int .u8 35, .int .u8 44, .int .u8 21, .int .u8 52, .int .u8 32, .int .u8 23, .int .u8 11, .int .u8 54, .int .u8 26, .int .u8 40, .int .u8 15, .int .u8 34, .int .u8 20, .int .u8 31, .int .u8 10, .int .u8 25, .int .u8 14, .int .u8 19, .int .u8 9, .int .u8 13, .int .u8 8, .int .u8 7, .int .u8 6]
noncomputable def tab (k0 k1 k2 : Nat) : List (Nat × Nat × Nat) := [(0, 4, k0), (1, 4, k1), (2, 5, k2)]
noncomputable def taby : List (Nat × Nat × Nat) := []
noncomputable def orc (k0 k1 k2 : Nat) : Nat → RV → Option RV := placeO 13 (tab k0 k1 k2)
noncomputable def run (k0 k1 k2 : Nat) : A := start3 kch 0 64 fun h => call3 (ysR []) 100 (inL fsL) (orc k0 k1 k2) (tabO 34 64 kch) 60 6 (.cons (.y .i64 (.v 0)) (.cons (.y .i64 (.v 1)) (.cons (.y .i64 (.v 2)) .nil))) h 100 isT
theorem globs : Tryd.prog.globals.size ≤ 100 := of_decide_eq_true (by kernel_rfl)
theorem knownP : known Tryd.prog 13 = true := by kernel_rfl
set_option maxRecDepth 100000 in
set_option maxHeartbeats 400000 in
theorem place_any (n : Int) (k : Nat) (w : World) (hk : 0 < k) (hk2 : k ≤ 1000000) :
    Calls Tryd.prog 13 #[.int .i64 n, .int .i64 k] w fun e w' => e = .returned (.int .i64 (n % k)) ∧ w = w' := by
  by_cases hz : n.tmod k < 0
  · have HM := Lib.hid (place_neg n k hk hz)
    have hlow : -(k : Int) < n.tmod k := by
      have := HM.out
      have h1 := Int.emod_nonneg n (show (k : Int) ≠ 0 by omega)
      by_cases he : n % (k : Int) = 0
      · have h0 : n.tmod k = 0 := Int.tmod_eq_zero_of_dvd (Int.dvd_of_emod_eq_zero he)
        omega
      · omega
    go_enter Tryd.func13, Tryd.ntmps13
    go_wp2_with fail
    go_ret
    exact ⟨by rw [← HM.out]; rfl, rfl⟩
  · have HM := Lib.hid (place_pos n k hk hz)
    go_enter Tryd.func13, Tryd.ntmps13
    go_wp2_with fail
    go_ret
    exact ⟨by rw [← HM.out]; rfl, rfl⟩
theorem awake_run : start3 kch 0 64 (fun h => call3 (fun _ _ _ => none) 100 (inL fsL) (fun _ _ => none) noKc 60 34 .nil h 100 isT) = .yes := by kernel_rfl
theorem knownA : known Tryd.prog 34 = true := by kernel_rfl
end Go.Proofs.YtjhknkpkihpknaaDoor.orderBobq
