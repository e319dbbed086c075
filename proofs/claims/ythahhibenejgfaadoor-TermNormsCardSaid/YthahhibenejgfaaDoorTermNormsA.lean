/-
  The law TermNorms by the evaluator: each of its cases ends in true, over the table that lies in its variable. Conditions: none but those that the theorems print.
-/
import Derived.Test.YthahhibenejgfaaDoorTxtA
import Derived.Test.YthahhibenejgfaaDoorRqQ
import Derived.Test.YthahhibenejgfaaDoorRnZf
import Derived.WalkKit
import Derived.ProofKit
import Derived.Lib.Hide
namespace Go.Proofs.YthahhibenejgfaaDoor.termNormsq
open Go.Rn Go.RowKit YthahhibenejgfaaDoor.txt
noncomputable def kv0 : List Value := [.int .u64 1, .int .u64 10, .int .u64 100, .int .u64 1000, .int .u64 10000, .int .u64 100000, .int .u64 1000000, .int .u64 10000000, .int .u64 100000000, .int .u64 1000000000, .int .u64 10000000000, .int .u64 100000000000, .int .u64 1000000000000, .int .u64 10000000000000, .int .u64 100000000000000, .int .u64 1000000000000000, .int .u64 10000000000000000, .int .u64 100000000000000000, .int .u64 1000000000000000000, .int .u64 10000000000000000000]
noncomputable def rows : LRows := [(0, kv0)]
noncomputable def kc : Kc := noKc
noncomputable def tab (k0 : Nat) : List (Nat × Nat × Nat) := [(0, 100, k0)]
noncomputable def taby : List (Nat × Nat × Nat) := []
noncomputable def orc (k0 : Nat) : Nat → RV → Option RV := placeO 13 (tab k0)
/-- are the sum, the product of two letters 0? -/
noncomputable def ysT (z1 z2 : Bool) : Ys := fun op a b => match op, a, b with
  | .eql, .add .i64 (.v 1) (.v 2), .c (.ofNat 0) => some z1
  | .eql, .mul .i64 (.v 1) (.v 2), .c (.ofNat 0) => some z2
  | _, _, _ => none
theorem ysT_ok {ρ : Nat → Int} : YsOk ρ (ysT (IntKind.i64.wrap (ρ 1 + ρ 2) == 0) (IntKind.i64.wrap (ρ 1 * ρ 2) == 0)) := by
  intro op a b r h
  unfold ysT at h
  split at h
  · cases h; exact .inl rfl
  · cases h; exact .inl rfl
  · cases h
noncomputable def run (k0 : Nat) (z1 z2 : Bool) : A := startR rows he3 fun h => call3 (ysT z1 z2) 100 (inL fsL) (orc k0) kc 60 4 (.cons (.y .i64 (.v 0)) (.cons (.y .i64 (.v 1)) (.cons (.y .i64 (.v 2)) .nil))) h 100 isT
theorem rowsOk : rowsB rows = true := by kernel_rfl
theorem kcOk {ρ : Nat → Int} : KcOk Tryd.prog ρ kc := kcNo_ok
theorem globs : Tryd.prog.globals.size ≤ 100 := of_decide_eq_true (by kernel_rfl)
theorem knownP : known Tryd.prog 13 = true := by kernel_rfl
set_option maxRecDepth 100000 in
set_option maxHeartbeats 400000 in
theorem place_any (n : Int) (k : Nat) (w : World) (hk : 0 < k) (hk2 : k ≤ 1000000) :
    Calls Tryd.prog 13 #[.int .i64 n, .int .i64 k] w fun e w' => e = .returned (.int .i64 (n % k)) ∧ w = w' := by
  by_cases hz : n.tmod k < 0
  · have HM := Lib.hid (place_neg n k hk hz)
    have hlow : -(k : Int) < n.tmod k := by
      have := HM.out
      have h1 := Int.emod_nonneg n (show (k : Int) ≠ 0 by omega)
      by_cases he : n % (k : Int) = 0
      · have h0 : n.tmod k = 0 := Int.tmod_eq_zero_of_dvd (Int.dvd_of_emod_eq_zero he)
        omega
      · omega
    go_enter Tryd.func13, Tryd.ntmps13
    go_wp2_with fail
    go_ret
    exact ⟨by rw [← HM.out]; rfl, rfl⟩
  · have HM := Lib.hid (place_pos n k hk hz)
    go_enter Tryd.func13, Tryd.ntmps13
    go_wp2_with fail
    go_ret
    exact ⟨by rw [← HM.out]; rfl, rfl⟩
end Go.Proofs.YthahhibenejgfaaDoor.termNormsq
