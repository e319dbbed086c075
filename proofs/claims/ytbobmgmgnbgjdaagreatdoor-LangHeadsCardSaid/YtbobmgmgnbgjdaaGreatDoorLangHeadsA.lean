/-
  The law LangHeads by the evaluator: each of its cases ends in true, over the table that lies in its variable. Conditions: none but those that the theorems print.
-/
import Derived.Test.YtbobmgmgnbgjdaaGreatDoorTxuA
import Derived.Test.YtbobmgmgnbgjdaaGreatDoorRqQ
import Derived.Test.YtbobmgmgnbgjdaaGreatDoorRqS
import Derived.Test.YtbobmgmgnbgjdaaGreatDoorTold
import Derived.Test.YtbobmgmgnbgjdaaGreatDoorRnZf
import Derived.WalkKit
import Derived.ProofKit
import Derived.Lib.Hide
namespace Go.Proofs.YtbobmgmgnbgjdaaGreatDoor.langHeadsq
open Go.Rn Go.RowKit YtbobmgmgnbgjdaaGreatDoor.txt
noncomputable def rows : VRows := [(1, .cons (ifU 147) .nil, 1)]
noncomputable def kc : Kc := noKc
noncomputable def tab (k0 : Nat) : List (Nat × Nat × Nat) := [(0, 7, k0)]
noncomputable def taby : List (Nat × Nat × Nat) := []
noncomputable def orc (k0 : Nat) : Nat → RV → Option RV := orO (placeO 6 (tab k0)) (orO (orO (cntO 93) (idxO 81)) (atoiO 57))
noncomputable def run (k0 : Nat) : A := startV rows he3 fun h => call3 (ysR []) 100 (inL fsL) (orc k0) kc 60 3 (.cons (.y .i64 (.v 0)) .nil) h 100 isT
theorem rowsOk : rowsVB rows = true := by kernel_rfl
theorem kcOk {ρ : Nat → Int} : KcOk Tryz.prog ρ kc := kcNo_ok
theorem globs : Tryz.prog.globals.size ≤ 100 := of_decide_eq_true (by kernel_rfl)
theorem knownP : known Tryz.prog 6 = true := by kernel_rfl
set_option maxRecDepth 100000 in
set_option maxHeartbeats 400000 in
theorem place_any (n : Int) (k : Nat) (w : World) (hk : 0 < k) (hk2 : k ≤ 1000000) :
    Calls Tryz.prog 6 #[.int .i64 n, .int .i64 k] w fun e w' => e = .returned (.int .i64 (n % k)) ∧ w = w' := by
  by_cases hz : n.tmod k < 0
  · have HM := Lib.hid (place_neg n k hk hz)
    have hlow : -(k : Int) < n.tmod k := by
      have := HM.out
      have h1 := Int.emod_nonneg n (show (k : Int) ≠ 0 by omega)
      by_cases he : n % (k : Int) = 0
      · have h0 : n.tmod k = 0 := Int.tmod_eq_zero_of_dvd (Int.dvd_of_emod_eq_zero he)
        omega
      · omega
    go_enter Tryz.func6, Tryz.ntmps6
    go_wp2_with fail
    go_ret
    exact ⟨by rw [← HM.out]; rfl, rfl⟩
  · have HM := Lib.hid (place_pos n k hk hz)
    go_enter Tryz.func6, Tryz.ntmps6
    go_wp2_with fail
    go_ret
    exact ⟨by rw [← HM.out]; rfl, rfl⟩
set_option maxHeartbeats 400000000 in
theorem c0 : run 0 = .yes := by kernel_rfl
set_option maxHeartbeats 400000000 in
theorem c1 : run 1 = .yes := by kernel_rfl
set_option maxHeartbeats 400000000 in
theorem c2 : run 2 = .yes := by kernel_rfl
set_option maxHeartbeats 400000000 in
theorem c3 : run 3 = .yes := by kernel_rfl
set_option maxHeartbeats 400000000 in
theorem c4 : run 4 = .yes := by kernel_rfl
set_option maxHeartbeats 400000000 in
theorem c5 : run 5 = .yes := by kernel_rfl
set_option maxHeartbeats 400000000 in
theorem c6 : run 6 = .yes := by kernel_rfl
theorem alls : ∀ k0, k0 < 7 → run k0 = .yes
  | 0, _ => c0
  | 1, _ => c1
  | 2, _ => c2
  | 3, _ => c3
  | 4, _ => c4
  | 5, _ => c5
  | 6, _ => c6
  | k + 7, h => absurd h (by omega)
theorem walk (a0 : Int) (w : World) (hK : RowsV rows w) :
    Calls Tryz.prog 3 #[.int .i64 a0] w fun e w' => e = .returned (.bool true) ∧ Below w.heap.size w w' := by
  have hk0 : (a0 % 7).toNat < 7 := by omega
  have ek0 : ((a0 % 7).toNat : Int) = a0 % 7 := by omega
  generalize (a0 % 7).toNat = k0 at hk0 ek0
  have ho : OrcOk Tryz.prog (fun x => if x = 0 then a0 else 0) (orc k0) := or_ok (place_ok knownP (fun n k w h1 h2 => place_any n k w h1 h2) (fun e he h0 => by
    simp only [tab, List.mem_cons, List.not_mem_nil, or_false] at he
    rcases he with rfl
    · exact ⟨by show 7 ≤ 1000000; omega, by simpa using ek0.symm⟩)) (told.told_ok)
  have hy : YsOk (fun x => if x = 0 then a0 else 0) (ysR []) := ysR_ok (fun e he => by
    simp at he)
  have := law_rowsV hy (inL_ok fsL_ok) ho kcOk globs rowsOk hK (alls k0 hk0) (vs := [.int .i64 a0]) (fun _ => denC_cons.2 ⟨_, _, rfl, rfl, denC_nil.2 rfl⟩)
  exact this.mono fun e w' h => ⟨h.1, h.2.below⟩
end Go.Proofs.YtbobmgmgnbgjdaaGreatDoor.langHeadsq
