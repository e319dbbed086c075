/-
  The law SymexLess by the evaluator: each of its cases ends in true. Conditions: none but those that the theorems print.
-/
import Derived.Test.YtendogjdmabknaaGreatDoorTxtA
import Derived.Test.YtendogjdmabknaaGreatDoorRqM
import Derived.WalkKit
import Derived.ProofKit
import Derived.Lib.Hide
namespace Go.Proofs.YtendogjdmabknaaGreatDoor.symexLessq
open Go.Rn Go.RowKit YtendogjdmabknaaGreatDoor.txt
noncomputable def tab (k0 : Nat) : List (Nat × Nat × Nat) := [(0, 4, k0)]
noncomputable def orc (k0 : Nat) : Nat → RV → Option RV := orO (placeO 7 (tab k0)) (constO 13)
noncomputable def run (k0 : Nat) : A := call3 (fun _ _ _ => none) 0 (inL fsL) (orc k0) noKc 60 6 (.cons (.y .i64 (.v 0)) .nil) he3 100 isT
theorem globs : Tryz.prog.globals.size ≤ 100 := of_decide_eq_true (by kernel_rfl)
theorem knownP : known Tryz.prog 7 = true := by kernel_rfl
theorem knownA : known Tryz.prog 13 = true := by kernel_rfl
theorem awake_run : call3 (fun _ _ _ => none) 0 (inL fsL) (fun _ _ => none) noKc 60 13 .nil he3 100 isT = .yes := by kernel_rfl
theorem awake_ok (w : World) : Calls Tryz.prog 13 #[] w fun e w' => e = .returned (.bool true) ∧ Old w w' :=
  law_quick (ρ := fun _ => 0) no_ys (inL_ok fsL_ok) none_ok (n := 100) globs awake_run (vs := []) (fun _ => denC_nil.2 rfl) w
set_option maxRecDepth 100000 in
set_option maxHeartbeats 400000 in
theorem place_any (n : Int) (k : Nat) (w : World) (hk : 0 < k) (hk2 : k ≤ 1000000) :
    Calls Tryz.prog 7 #[.int .i64 n, .int .i64 k] w fun e w' => e = .returned (.int .i64 (n % k)) ∧ w = w' := by
  by_cases hz : n.tmod k < 0
  · have HM := Lib.hid (place_neg n k hk hz)
    have hlow : -(k : Int) < n.tmod k := by
      have := HM.out
      have h1 := Int.emod_nonneg n (show (k : Int) ≠ 0 by omega)
      by_cases he : n % (k : Int) = 0
      · have h0 : n.tmod k = 0 := Int.tmod_eq_zero_of_dvd (Int.dvd_of_emod_eq_zero he)
        omega
      · omega
    go_enter Tryz.func7, Tryz.ntmps7
    go_wp2_with fail
    go_ret
    exact ⟨by rw [← HM.out]; rfl, rfl⟩
  · have HM := Lib.hid (place_pos n k hk hz)
    go_enter Tryz.func7, Tryz.ntmps7
    go_wp2_with fail
    go_ret
    exact ⟨by rw [← HM.out]; rfl, rfl⟩
theorem c0 : run 0 = .yes := by kernel_rfl
theorem c1 : run 1 = .yes := by kernel_rfl
theorem c2 : run 2 = .yes := by kernel_rfl
theorem c3 : run 3 = .yes := by kernel_rfl
theorem alls : ∀ k0, k0 < 4 → run k0 = .yes
  | 0, _ => c0
  | 1, _ => c1
  | 2, _ => c2
  | 3, _ => c3
  | k + 4, h => absurd h (by omega)
theorem walk (a0 : Int) (w : World) :
    Calls Tryz.prog 6 #[.int .i64 a0] w fun e w' => e = .returned (.bool true) ∧ Below w.heap.size w w' := by
  have hk0 : (a0 % 4).toNat < 4 := by omega
  have ek0 : ((a0 % 4).toNat : Int) = a0 % 4 := by omega
  generalize (a0 % 4).toNat = k0 at hk0 ek0
  have ho : OrcOk Tryz.prog (fun x => if x = 0 then a0 else 0) (orc k0) := or_ok (place_ok knownP (fun n k w h1 h2 => place_any n k w h1 h2) (fun e he h0 => by
    simp only [tab, List.mem_cons, List.not_mem_nil, or_false] at he
    rcases he with rfl
    · exact ⟨by show 4 ≤ 1000000; omega, by simpa using ek0.symm⟩)) (const_ok knownA awake_ok)
  have := law_quick no_ys (inL_ok fsL_ok) ho (n := 100) globs (alls k0 hk0) (vs := [.int .i64 a0]) (fun m => denC_cons.2 ⟨_, _, rfl, rfl, denC_nil.2 rfl⟩) w
  exact this.mono fun e w' h => ⟨h.1, h.2.below⟩

end Go.Proofs.YtendogjdmabknaaGreatDoor.symexLessq
