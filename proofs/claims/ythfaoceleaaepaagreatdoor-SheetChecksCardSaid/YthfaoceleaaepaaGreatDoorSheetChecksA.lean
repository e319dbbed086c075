/-
  The law SheetChecks by the evaluator: each of its cases ends in true, over the tables and the errors that lie in their variables. Conditions: none but those that the theorems print.
-/
import Derived.Test.YthfaoceleaaepaaGreatDoorTxtA
import Derived.Test.YthfaoceleaaepaaGreatDoorRqQ
import Derived.Test.YthfaoceleaaepaaGreatDoorRqY
import Derived.Test.YthfaoceleaaepaaGreatDoorIs
import Derived.Test.YthfaoceleaaepaaGreatDoorIns
import Derived.Test.YthfaoceleaaepaaGreatDoorTold
import Derived.Test.YthfaoceleaaepaaGreatDoorShK
import Derived.Test.YthfaoceleaaepaaGreatDoorRnZf
import Derived.WalkKit
import Derived.ProofKit
import Derived.Lib.Hide
namespace Go.Proofs.YthfaoceleaaepaaGreatDoor.sheetChecksq
open Go.Rn Go.RowKit YthfaoceleaaepaaGreatDoor.txt
noncomputable def kv0 : List Value := [.int .i64 0, .int .i64 0, .bool false, .bool false, .bool false, .int .i64 0, .bool false, .int .i64 0, .int .i64 3, .int .i64 1, .bool true, .bool true, .bool false, .int .i64 0, .bool false, .int .i64 1, .int .i64 5, .int .i64 1, .bool false, .bool true, .bool false, .int .i64 9, .bool false, .int .i64 1, .int .i64 30, .int .i64 1, .bool false, .bool false, .bool false, .int .i64 0, .bool false, .int .i64 1, .int .i64 3, .int .i64 5, .bool true, .bool true, .bool false, .int .i64 7, .bool true, .int .i64 2, .int .i64 1, .int .i64 1, .bool true, .bool false, .bool false, .int .i64 9, .bool false, .int .i64 0, .int .i64 1, .int .i64 1, .bool false, .bool false, .bool true, .int .i64 9, .bool false, .int .i64 0]
noncomputable def kv1 : List Value := [.int .u64 1, .int .u64 10, .int .u64 100, .int .u64 1000, .int .u64 10000, .int .u64 100000, .int .u64 1000000, .int .u64 10000000, .int .u64 100000000, .int .u64 1000000000, .int .u64 10000000000, .int .u64 100000000000, .int .u64 1000000000000, .int .u64 10000000000000, .int .u64 100000000000000, .int .u64 1000000000000000, .int .u64 10000000000000000, .int .u64 100000000000000000, .int .u64 1000000000000000000, .int .u64 10000000000000000000]
noncomputable def rows : VRows := [(5, chain kv1, 20), (8, chain kv0, 56), (1, .cons (errV 621 97) .nil, 1), (2, .cons (errV 621 98) .nil, 1), (3, .cons (errV 621 99) .nil, 1)]
noncomputable def kc : Kc := kcOr (kcIs 122 231 621) (kcOr (kcRow 12 sh.rowF) (kcIns 403 7))
noncomputable def tab (k0 : Nat) : List (Nat × Nat × Nat) := [(0, 7, k0)]
noncomputable def orc (k0 : Nat) : Nat → RV → Option RV := orO (placeO 5 (tab k0)) (orO (sh.speltO 16) (orO (orO (cntO 176) (idxO 50)) (atoiO 162)))
noncomputable def run (k0 : Nat) : A := startV (errRows rows) he3 fun h => call3 (ysR []) 100 (inL fsL) (orc k0) kc 60 3 (.cons (.y .i64 (.v 0)) .nil) h 100 isT
theorem rowsOk : rowsVB rows = true := by kernel_rfl
theorem kcOk {ρ : Nat → Int} : KcOk Tryz.prog ρ kc := kcOr_ok (kcIs_ok is.knownIs is.is_ok) (kcOr_ok sh.rows_ok (kcIns_ok insq.ins_ok))
theorem globs : Tryz.prog.globals.size ≤ 97 := of_decide_eq_true (by kernel_rfl)
theorem knownP : known Tryz.prog 5 = true := by kernel_rfl
set_option maxRecDepth 100000 in
set_option maxHeartbeats 400000 in
theorem place_any (n : Int) (k : Nat) (w : World) (hk : 0 < k) (hk2 : k ≤ 1000000) :
    Calls Tryz.prog 5 #[.int .i64 n, .int .i64 k] w fun e w' => e = .returned (.int .i64 (n % k)) ∧ w = w' := by
  by_cases hz : n.tmod k < 0
  · have HM := Lib.hid (place_neg n k hk hz)
    have hlow : -(k : Int) < n.tmod k := by
      have := HM.out
      have h1 := Int.emod_nonneg n (show (k : Int) ≠ 0 by omega)
      by_cases he : n % (k : Int) = 0
      · have h0 : n.tmod k = 0 := Int.tmod_eq_zero_of_dvd (Int.dvd_of_emod_eq_zero he)
        omega
      · omega
    go_enter Tryz.func5, Tryz.ntmps5
    go_wp2_with fail
    go_ret
    exact ⟨by rw [← HM.out]; rfl, rfl⟩
  · have HM := Lib.hid (place_pos n k hk hz)
    go_enter Tryz.func5, Tryz.ntmps5
    go_wp2_with fail
    go_ret
    exact ⟨by rw [← HM.out]; rfl, rfl⟩
set_option maxHeartbeats 400000000 in
theorem c0 : run 0 = .yes := by kernel_rfl
set_option maxHeartbeats 400000000 in
theorem c1 : run 1 = .yes := by kernel_rfl
set_option maxHeartbeats 400000000 in
theorem c2 : run 2 = .yes := by kernel_rfl
set_option maxHeartbeats 400000000 in
theorem c3 : run 3 = .yes := by kernel_rfl
set_option maxHeartbeats 400000000 in
theorem c4 : run 4 = .yes := by kernel_rfl
set_option maxHeartbeats 400000000 in
theorem c5 : run 5 = .yes := by kernel_rfl
set_option maxHeartbeats 400000000 in
theorem c6 : run 6 = .yes := by kernel_rfl
theorem allc : ∀ k0, k0 < 7 → run k0 = .yes
  | 0, _ => c0
  | 1, _ => c1
  | 2, _ => c2
  | 3, _ => c3
  | 4, _ => c4
  | 5, _ => c5
  | 6, _ => c6
  | k + 7, h => absurd h (by omega)
theorem walk (a0 : Int) (w : World) (b0 b1 b2 : Addr) (hK : RowsE rows w b0 b1 b2) :
    Calls Tryz.prog 3 #[.int .i64 a0] w fun e w' => e = .returned (.bool true) ∧ Below w.heap.size w w' := by
  have hk0 : (a0 % 7).toNat < 7 := by omega
  have ek0 : ((a0 % 7).toNat : Int) = a0 % 7 := by omega
  generalize (a0 % 7).toNat = k0 at hk0 ek0
  have ho : OrcOk Tryz.prog (fun x => if x = 0 then a0 else 0) (orc k0) := or_ok (place_ok knownP (fun n k w h1 h2 => place_any n k w h1 h2) (fun e he h0 => by
      simp only [tab, List.mem_cons, List.not_mem_nil, or_false] at he
      rcases he with rfl
      exact ⟨by show 7 ≤ 1000000; omega, by simpa using ek0.symm⟩)) (or_ok sh.spelt_ok told.told_ok)
  have hy : YsOk (fun x => if x = 0 then a0 else 0) (ysR []) := ysR_ok (fun e he => by cases he)
  have hex : ∀ k, k < Tryz.prog.globals.size → 0 < (fun x => if x = 0 then a0 else 0) (1000000 + k) → (sizeAt w k : Int) = (fun x => if x = 0 then a0 else 0) (1000000 + k) := fun k _ h => by
    exfalso
    have e : (fun x => if x = 0 then a0 else 0) (1000000 + k) = 0 := by
      show (if 1000000 + k = 0 then a0 else 0) = 0
      rw [if_neg (by omega)]
    omega
  have := law_rowsE hy (inL_ok fsL_ok) ho kcOk globs rowsOk hex hK (allc k0 hk0) (vs := [.int .i64 a0]) (fun _ => denC_cons.2 ⟨_, _, rfl, rfl, denC_nil.2 rfl⟩)
  exact this.mono fun e w' h => ⟨h.1, h.2.below⟩
end Go.Proofs.YthfaoceleaaepaaGreatDoor.sheetChecksq
