/-
  The law ValidLocal by the evaluator: each of its cases ends in true, over the table that lies in its variable. Conditions: none but those that the theorems print.
-/
import Derived.Test.YtlfnmlecmdkgbaaGreatDoorTxtA
import Derived.Test.YtlfnmlecmdkgbaaGreatDoorRqQ
import Derived.Test.YtlfnmlecmdkgbaaGreatDoorRqY
import Derived.Test.YtlfnmlecmdkgbaaGreatDoorIs
import Derived.Test.YtlfnmlecmdkgbaaGreatDoorAhC
import Derived.Test.YtlfnmlecmdkgbaaGreatDoorRnZf
import Derived.WalkKit
import Derived.ProofKit
import Derived.Lib.Hide
namespace Go.Proofs.YtlfnmlecmdkgbaaGreatDoor.validLocalq
open Go.Rn Go.RowKit YtlfnmlecmdkgbaaGreatDoor.txt
noncomputable def kv0 : List Value := [.int .i64 0, .int .i64 0, .bool false, .bool false, .bool false, .int .i64 0, .bool false, .int .i64 0, .int .i64 3, .int .i64 1, .bool true, .bool true, .bool false, .int .i64 0, .bool false, .int .i64 1, .int .i64 5, .int .i64 1, .bool false, .bool true, .bool false, .int .i64 9, .bool false, .int .i64 1, .int .i64 30, .int .i64 1, .bool false, .bool false, .bool false, .int .i64 0, .bool false, .int .i64 1, .int .i64 3, .int .i64 5, .bool true, .bool true, .bool false, .int .i64 7, .bool true, .int .i64 2, .int .i64 1, .int .i64 1, .bool true, .bool false, .bool false, .int .i64 9, .bool false, .int .i64 0, .int .i64 1, .int .i64 1, .bool false, .bool false, .bool true, .int .i64 9, .bool false, .int .i64 0]
noncomputable def rows : VRows := [(4, chain ah.powL, 20), (3, chain kv0, 56), (0, .cons (errV 252 97) .nil, 1), (1, .cons (errV 252 98) .nil, 1), (2, .cons (errV 252 99) .nil, 1)]
noncomputable def kc : Kc := kcOr (kcIs 22 74 252) (kcAh 128 (.cons (.p 1 2) (.cons (.p 4 20) (chain ah.powL))))
noncomputable def tab (k0 : Nat) : List (Nat × Nat × Nat) := [(0, 7, k0)]
noncomputable def tabE (k0 : Nat) : List (Nat × Nat × Nat) := [(0, 7, k0), (1, 1000, 0)]
noncomputable def taby : List (Nat × Nat × Nat) := [(1, 1000, 51)]
noncomputable def orc (k0 : Nat) : Nat → RV → Option RV := orO (placeO 6 (tab k0)) (placeY 6 taby)
noncomputable def orcE (k0 : Nat) : Nat → RV → Option RV := placeO 6 (tabE k0)
/-- of a letter this too is known: it is not the next number -/
noncomputable def ysP (n : Nat) : Ys := fun op a b => match op, a, b with
  | .eql, .v x, .add .i64 (.v y) (.c 1) => if x = n ∧ y = n then some false else none
  | .eql, .add .i64 (.v y) (.c 1), .v x => if x = n ∧ y = n then some false else none
  | .neq, .v x, .add .i64 (.v y) (.c 1) => if x = n ∧ y = n then some true else none
  | .neq, .add .i64 (.v y) (.c 1), .v x => if x = n ∧ y = n then some true else none
  | _, _, _ => none
theorem ysP_ok {ρ : Nat → Int} {n : Nat} (h0 : 0 ≤ ρ n) (h1 : ρ n ≤ 1000) : YsOk ρ (ysP n) := by
  have hw : (SE.add .i64 (.v n) (.c 1)).val ρ ≠ ρ n := by
    have e : (SE.add .i64 (.v n) (.c 1)).val ρ = IntKind.i64.wrap (ρ n + 1) := rfl
    rw [e, IntKind.wrap_i64]
    have : wrap64 (ρ n + 1) = ρ n + 1 := by unfold wrap64; omega
    omega
  intro op a b r e
  unfold ysP at e
  split at e
  · split at e
    · rename_i g; obtain ⟨rfl, rfl⟩ := g
      cases e
      exact .inl (by simp only [cmpZ]; simp only [SE.val] at hw ⊢; simp [Ne.symm hw])
    · cases e
  · split at e
    · rename_i g; obtain ⟨rfl, rfl⟩ := g
      cases e
      exact .inl (by simp only [cmpZ]; simp only [SE.val] at hw ⊢; simp [hw])
    · cases e
  · split at e
    · rename_i g; obtain ⟨rfl, rfl⟩ := g
      cases e
      exact .inl (by simp only [cmpZ]; simp only [SE.val] at hw ⊢; simp [Ne.symm hw])
    · cases e
  · split at e
    · rename_i g; obtain ⟨rfl, rfl⟩ := g
      cases e
      exact .inl (by simp only [cmpZ]; simp only [SE.val] at hw ⊢; simp [hw])
    · cases e
  · cases e
/-- the second number is a letter above 0 -/
noncomputable def run (k0 : Nat) : A := startV (errRows rows) he3 fun h => call3 (ysO (ysR [(51, 1, 999)]) (ysP 51)) 100 (inL fsL) (orc k0) kc 60 3 (.cons (.y .i64 (.v 0)) (.cons (.y .i64 (.v 1)) .nil)) h 100 isT
/-- it is 0 -/
noncomputable def runE (k0 : Nat) : A := startV (errRows rows) he3 fun h => call3 (ysR []) 100 (inL fsL) (orcE k0) kc 60 3 (.cons (.y .i64 (.v 0)) (.cons (.y .i64 (.v 1)) .nil)) h 100 isT
theorem rowsOk : rowsVB rows = true := by kernel_rfl
theorem kcOk {ρ : Nat → Int} (h : ρ (1000000 + 4) = 20) : KcOk Tryz.prog ρ kc := kcOr_ok (kcIs_ok is.knownIs is.is_ok) (kcAh_ok ah.knownAh (ah.ahT h))
theorem globs : Tryz.prog.globals.size ≤ 97 := of_decide_eq_true (by kernel_rfl)
theorem knownP : known Tryz.prog 6 = true := by kernel_rfl
set_option maxRecDepth 100000 in
set_option maxHeartbeats 400000 in
theorem place_any (n : Int) (k : Nat) (w : World) (hk : 0 < k) (hk2 : k ≤ 1000000) :
    Calls Tryz.prog 6 #[.int .i64 n, .int .i64 k] w fun e w' => e = .returned (.int .i64 (n % k)) ∧ w = w' := by
  by_cases hz : n.tmod k < 0
  · have HM := Lib.hid (place_neg n k hk hz)
    have hlow : -(k : Int) < n.tmod k := by
      have := HM.out
      have h1 := Int.emod_nonneg n (show (k : Int) ≠ 0 by omega)
      by_cases he : n % (k : Int) = 0
      · have h0 : n.tmod k = 0 := Int.tmod_eq_zero_of_dvd (Int.dvd_of_emod_eq_zero he)
        omega
      · omega
    go_enter Tryz.func6, Tryz.ntmps6
    go_wp2_with fail
    go_ret
    exact ⟨by rw [← HM.out]; rfl, rfl⟩
  · have HM := Lib.hid (place_pos n k hk hz)
    go_enter Tryz.func6, Tryz.ntmps6
    go_wp2_with fail
    go_ret
    exact ⟨by rw [← HM.out]; rfl, rfl⟩
set_option maxHeartbeats 400000000 in
theorem c0 : run 0 = .yes := by kernel_rfl
set_option maxHeartbeats 400000000 in
theorem c1 : run 1 = .yes := by kernel_rfl
set_option maxHeartbeats 400000000 in
theorem c2 : run 2 = .yes := by kernel_rfl
set_option maxHeartbeats 400000000 in
theorem c3 : run 3 = .yes := by kernel_rfl
set_option maxHeartbeats 400000000 in
theorem c4 : run 4 = .yes := by kernel_rfl
set_option maxHeartbeats 400000000 in
theorem c5 : run 5 = .yes := by kernel_rfl
set_option maxHeartbeats 400000000 in
theorem c6 : run 6 = .yes := by kernel_rfl
theorem allc : ∀ k0, k0 < 7 → run k0 = .yes
  | 0, _ => c0
  | 1, _ => c1
  | 2, _ => c2
  | 3, _ => c3
  | 4, _ => c4
  | 5, _ => c5
  | 6, _ => c6
  | k + 7, h => absurd h (by omega)
set_option maxHeartbeats 400000000 in
theorem e0 : runE 0 = .yes := by kernel_rfl
set_option maxHeartbeats 400000000 in
theorem e1 : runE 1 = .yes := by kernel_rfl
set_option maxHeartbeats 400000000 in
theorem e2 : runE 2 = .yes := by kernel_rfl
set_option maxHeartbeats 400000000 in
theorem e3 : runE 3 = .yes := by kernel_rfl
set_option maxHeartbeats 400000000 in
theorem e4 : runE 4 = .yes := by kernel_rfl
set_option maxHeartbeats 400000000 in
theorem e5 : runE 5 = .yes := by kernel_rfl
set_option maxHeartbeats 400000000 in
theorem e6 : runE 6 = .yes := by kernel_rfl
theorem alle : ∀ k0, k0 < 7 → runE k0 = .yes
  | 0, _ => e0
  | 1, _ => e1
  | 2, _ => e2
  | 3, _ => e3
  | 4, _ => e4
  | 5, _ => e5
  | 6, _ => e6
  | k + 7, h => absurd h (by omega)
theorem walk (a0 : Int) (a1 : Int) (w : World) (b0 b1 b2 : Addr) (hK : RowsE rows w b0 b1 b2) (hsz : sizeAt w 4 = 20) :
    Calls Tryz.prog 3 #[.int .i64 a0, .int .i64 a1] w fun e w' => e = .returned (.bool true) ∧ Below w.heap.size w w' := by
  have hk0 : (a0 % 7).toNat < 7 := by omega
  have ek0 : ((a0 % 7).toNat : Int) = a0 % 7 := by omega
  generalize (a0 % 7).toNat = k0 at hk0 ek0
  by_cases hxy : a1 % 1000 = 0
  · have ho : OrcOk Tryz.prog (fun x => if x = 0 then a0 else if x = 1 then a1 else if x = 1000004 then 20 else 0) (orcE k0) := place_ok knownP (fun n k w h1 h2 => place_any n k w h1 h2) (fun e he h0 => by
      simp only [tabE, List.mem_cons, List.not_mem_nil, or_false] at he
      rcases he with rfl | rfl
      · exact ⟨by show 7 ≤ 1000000; omega, by simpa using ek0.symm⟩
      · exact ⟨by show 1000 ≤ 1000000; omega, by simpa using hxy⟩)
    have hy : YsOk (fun x => if x = 0 then a0 else if x = 1 then a1 else if x = 1000004 then 20 else 0) (ysR []) := ysR_ok (fun e he => by cases he)
    have hex : ∀ k, k < Tryz.prog.globals.size → 0 < (fun x => if x = 0 then a0 else if x = 1 then a1 else if x = 1000004 then 20 else 0) (1000000 + k) → (sizeAt w k : Int) = (fun x => if x = 0 then a0 else if x = 1 then a1 else if x = 1000004 then 20 else 0) (1000000 + k) := fun k _ h => by
      by_cases hk : k = 4
      · subst hk; rw [hsz]; rfl
      · exfalso
        have e : (fun x => if x = 0 then a0 else if x = 1 then a1 else if x = 1000004 then 20 else 0) (1000000 + k) = 0 := by
          show (if 1000000 + k = 0 then a0 else if 1000000 + k = 1 then a1 else  if 1000000 + k = 1000004 then 20 else 0) = 0
          rw [if_neg (by omega), if_neg (by omega),  if_neg (by omega)]
        omega
    have := law_rowsE hy (inL_ok fsL_ok) ho (kcOk rfl) globs rowsOk hex hK (alle k0 hk0) (vs := [.int .i64 a0, .int .i64 a1]) (fun _ => denC_cons.2 ⟨_, _, rfl, rfl, denC_cons.2 ⟨_, _, rfl, rfl, denC_nil.2 rfl⟩⟩)
    exact this.mono fun e w' h => ⟨h.1, h.2.below⟩
  · have n1 := Int.emod_nonneg a1 (show (1000 : Int) ≠ 0 by omega)
    have n2 := Int.emod_lt_of_pos a1 (show (0 : Int) < 1000 by omega)
    have ho : OrcOk Tryz.prog (fun x => if x = 0 then a0 else if x = 1 then a1 else if x = 51 then a1 % 1000 else if x = 1000004 then 20 else 0) (orc k0) := or_ok (place_ok knownP (fun n k w h1 h2 => place_any n k w h1 h2) (fun e he h0 => by
      simp only [tab, List.mem_cons, List.not_mem_nil, or_false] at he
      rcases he with rfl
      · exact ⟨by show 7 ≤ 1000000; omega, by simpa using ek0.symm⟩)) (placeY_ok knownP (fun n k w h1 h2 => place_any n k w h1 h2) (fun e he h0 => by
      simp only [taby, List.mem_cons, List.not_mem_nil, or_false] at he
      rcases he with rfl
      · exact ⟨by show 1000 ≤ 1000000; omega, by simp⟩))
    have hy : YsOk (fun x => if x = 0 then a0 else if x = 1 then a1 else if x = 51 then a1 % 1000 else if x = 1000004 then 20 else 0) (ysO (ysR [(51, 1, 999)]) (ysP 51)) := ysO_ok (ysR_ok (fun e he => by
      simp only [List.mem_cons, List.not_mem_nil, or_false] at he
      rcases he with rfl
      · exact ⟨by simp; omega, by simp; omega⟩)) (ysP_ok (by simp; omega) (by simp; omega))
    have hex : ∀ k, k < Tryz.prog.globals.size → 0 < (fun x => if x = 0 then a0 else if x = 1 then a1 else if x = 51 then a1 % 1000 else if x = 1000004 then 20 else 0) (1000000 + k) → (sizeAt w k : Int) = (fun x => if x = 0 then a0 else if x = 1 then a1 else if x = 51 then a1 % 1000 else if x = 1000004 then 20 else 0) (1000000 + k) := fun k _ h => by
      by_cases hk : k = 4
      · subst hk; rw [hsz]; rfl
      · exfalso
        have e : (fun x => if x = 0 then a0 else if x = 1 then a1 else if x = 51 then a1 % 1000 else if x = 1000004 then 20 else 0) (1000000 + k) = 0 := by
          show (if 1000000 + k = 0 then a0 else if 1000000 + k = 1 then a1 else if 1000000 + k = 51 then a1 % 1000 else if 1000000 + k = 1000004 then 20 else 0) = 0
          rw [if_neg (by omega), if_neg (by omega), if_neg (by omega), if_neg (by omega)]
        omega
    have := law_rowsE hy (inL_ok fsL_ok) ho (kcOk rfl) globs rowsOk hex hK (allc k0 hk0) (vs := [.int .i64 a0, .int .i64 a1]) (fun _ => denC_cons.2 ⟨_, _, rfl, rfl, denC_cons.2 ⟨_, _, rfl, rfl, denC_nil.2 rfl⟩⟩)
    exact this.mono fun e w' h => ⟨h.1, h.2.below⟩
end Go.Proofs.YtlfnmlecmdkgbaaGreatDoor.validLocalq
