/-
  The law LiftOther by the evaluator: each of its cases ends in true, over the table that lies in its variable. Conditions: none but those that the theorems print.
-/
import Derived.Test.YtmebdcipijgcnaaGreatDoorTxtA
import Derived.Test.YtmebdcipijgcnaaGreatDoorRqQ
import Derived.Test.YtmebdcipijgcnaaGreatDoorRqR
import Derived.Test.YtmebdcipijgcnaaGreatDoorTold
import Derived.Test.YtmebdcipijgcnaaGreatDoorRnZf
import Derived.WalkKit
import Derived.ProofKit
import Derived.Lib.Hide
namespace Go.Proofs.YtmebdcipijgcnaaGreatDoor.liftOtherq
open Go.Rn Go.RowKit YtmebdcipijgcnaaGreatDoor.txt
noncomputable def kv0 : List Value := [.int .i64 0, .int .i64 0, .bool false, .bool false, .bool false, .int .i64 0, .bool false, .int .i64 0, .int .i64 3, .int .i64 1, .bool true, .bool true, .bool false, .int .i64 0, .bool false, .int .i64 1, .int .i64 5, .int .i64 1, .bool false, .bool true, .bool false, .int .i64 9, .bool false, .int .i64 1, .int .i64 30, .int .i64 1, .bool false, .bool false, .bool false, .int .i64 0, .bool false, .int .i64 1, .int .i64 3, .int .i64 5, .bool true, .bool true, .bool false, .int .i64 7, .bool true, .int .i64 2, .int .i64 1, .int .i64 1, .bool true, .bool false, .bool false, .int .i64 9, .bool false, .int .i64 0, .int .i64 1, .int .i64 1, .bool false, .bool false, .bool true, .int .i64 9, .bool false, .int .i64 0]
noncomputable def kv1 : List Value := [.int .u64 1, .int .u64 10, .int .u64 100, .int .u64 1000, .int .u64 10000, .int .u64 100000, .int .u64 1000000, .int .u64 10000000, .int .u64 100000000, .int .u64 1000000000, .int .u64 10000000000, .int .u64 100000000000, .int .u64 1000000000000, .int .u64 10000000000000, .int .u64 100000000000000, .int .u64 1000000000000000, .int .u64 10000000000000000, .int .u64 100000000000000000, .int .u64 1000000000000000000, .int .u64 10000000000000000000]
noncomputable def kv2 : List Value := [.int .u8 0, .int .u8 1, .int .u8 56, .int .u8 2, .int .u8 57, .int .u8 49, .int .u8 28, .int .u8 3, .int .u8 61, .int .u8 58, .int .u8 42, .int .u8 50, .int .u8 38, .int .u8 29, .int .u8 17, .int .u8 4, .int .u8 62, .int .u8 47, .int .u8 59, .int .u8 36, .int .u8 45, .int .u8 43, .int .u8 51, .int .u8 22, .int .u8 53, .int .u8 39, .int .u8 33, .int .u8 30, .int .u8 24, .int .u8 18, .int .u8 12, .int .u8 5, .int .u8 63, .int .u8 55, .int .u8 48, .int .u8 27, .int .u8 60, .int .u8 41, .int .u8 37, .int .u8 16, .int .u8 46, .int .u8 35, .int .u8 44, .int .u8 21, .int .u8 52, .int .u8 32, .int .u8 23, .int .u8 11, .int .u8 54, .int .u8 26, .int .u8 40, .int .u8 15, .int .u8 34, .int .u8 20, .int .u8 31, .int .u8 10, .int .u8 25, .int .u8 14, .int .u8 19, .int .u8 9, .int .u8 13, .int .u8 8, .int .u8 7, .int .u8 6]
noncomputable def rows : LRows := [(0, kv0), (1, kv1), (8, kv2)]
noncomputable def kc : Kc := noKc
noncomputable def tab (k0 : Nat) : List (Nat × Nat × Nat) := [(0, 1000, k0)]
noncomputable def tabE (k0 : Nat) : List (Nat × Nat × Nat) := [(0, 1000, k0), (1, 1000, k0)]
noncomputable def taby : List (Nat × Nat × Nat) := [(1, 1000, 51)]
noncomputable def orc (k0 : Nat) : Nat → RV → Option RV := orO (orO (placeO 4 (tab k0)) (placeY 4 taby)) (orO (orO (cntO 178) (idxO 222)) (atoiO 194))
noncomputable def orcE (k0 : Nat) : Nat → RV → Option RV := orO (placeO 4 (tabE k0)) (orO (orO (cntO 178) (idxO 222)) (atoiO 194))
/-- of a letter this too is known: it is not the number k -/
def ysE (n : Nat) (k : Int) : Ys := fun op a b => match op, a, b with
  | .eql, .v x, .c y => if x = n ∧ y = k then some false else none
  | .eql, .c y, .v x => if x = n ∧ y = k then some false else none
  | .neq, .v x, .c y => if x = n ∧ y = k then some true else none
  | .neq, .c y, .v x => if x = n ∧ y = k then some true else none
  | _, _, _ => none
theorem ysE_ok {ρ : Nat → Int} {n : Nat} {k : Int} (h : ρ n ≠ k) : YsOk ρ (ysE n k) := by
  intro op a b r e
  unfold ysE at e
  split at e
  · split at e
    · rename_i g; obtain ⟨rfl, rfl⟩ := g
      cases e
      exact .inl (by simp [cmpZ, SE.val, h])
    · cases e
  · split at e
    · rename_i g; obtain ⟨rfl, rfl⟩ := g
      cases e
      exact .inl (by simp [cmpZ, SE.val, Ne.symm h])
    · cases e
  · split at e
    · rename_i g; obtain ⟨rfl, rfl⟩ := g
      cases e
      exact .inl (by simp [cmpZ, SE.val, h])
    · cases e
  · split at e
    · rename_i g; obtain ⟨rfl, rfl⟩ := g
      cases e
      exact .inl (by simp [cmpZ, SE.val, Ne.symm h])
    · cases e
  · cases e
/-- the second number is another one -/
noncomputable def run (k0 : Nat) : A := startR rows he3 fun h => call3 (ysO (ysR [(51, 0, 999)]) (ysE 51 k0)) 100 (inL fsL) (orc k0) kc 60 3 (.cons (.y .i64 (.v 0)) (.cons (.y .i64 (.v 1)) .nil)) h 100 isT
/-- it is the same one -/
noncomputable def runE (k0 : Nat) : A := startR rows he3 fun h => call3 (ysR []) 100 (inL fsL) (orcE k0) kc 60 3 (.cons (.y .i64 (.v 0)) (.cons (.y .i64 (.v 1)) .nil)) h 100 isT
theorem rowsOk : rowsB rows = true := by kernel_rfl
theorem kcOk {ρ : Nat → Int} : KcOk Tryz.prog ρ kc := kcNo_ok
theorem globs : Tryz.prog.globals.size ≤ 100 := of_decide_eq_true (by kernel_rfl)
theorem knownP : known Tryz.prog 4 = true := by kernel_rfl
set_option maxRecDepth 100000 in
set_option maxHeartbeats 400000 in
theorem place_any (n : Int) (k : Nat) (w : World) (hk : 0 < k) (hk2 : k ≤ 1000000) :
    Calls Tryz.prog 4 #[.int .i64 n, .int .i64 k] w fun e w' => e = .returned (.int .i64 (n % k)) ∧ w = w' := by
  by_cases hz : n.tmod k < 0
  · have HM := Lib.hid (place_neg n k hk hz)
    have hlow : -(k : Int) < n.tmod k := by
      have := HM.out
      have h1 := Int.emod_nonneg n (show (k : Int) ≠ 0 by omega)
      by_cases he : n % (k : Int) = 0
      · have h0 : n.tmod k = 0 := Int.tmod_eq_zero_of_dvd (Int.dvd_of_emod_eq_zero he)
        omega
      · omega
    go_enter Tryz.func4, Tryz.ntmps4
    go_wp2_with fail
    go_ret
    exact ⟨by rw [← HM.out]; rfl, rfl⟩
  · have HM := Lib.hid (place_pos n k hk hz)
    go_enter Tryz.func4, Tryz.ntmps4
    go_wp2_with fail
    go_ret
    exact ⟨by rw [← HM.out]; rfl, rfl⟩
end Go.Proofs.YtmebdcipijgcnaaGreatDoor.liftOtherq
