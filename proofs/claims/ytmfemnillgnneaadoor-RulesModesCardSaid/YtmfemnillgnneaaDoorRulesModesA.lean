/-
  The law RulesModes by the evaluator: each of its cases ends in true, over the table that lies in its variable. Conditions: none but those that the theorems print.
-/
import Derived.Test.YtmfemnillgnneaaDoorTxtA
import Derived.Test.YtmfemnillgnneaaDoorRqQ
import Derived.Test.YtmfemnillgnneaaDoorIns
import Derived.Test.YtmfemnillgnneaaDoorRnZf
import Derived.WalkKit
import Derived.ProofKit
import Derived.Lib.Hide
namespace Go.Proofs.YtmfemnillgnneaaDoor.rulesModesq
open Go.Rn Go.RowKit YtmfemnillgnneaaDoor.txt
noncomputable def kv0 : List Value := [.int .i64 0, .int .i64 0, .bool false, .bool false, .bool false, .int .i64 0, .bool false, .int .i64 0, .int .i64 3, .int .i64 1, .bool true, .bool true, .bool false, .int .i64 0, .bool false, .int .i64 1, .int .i64 5, .int .i64 1, .bool false, .bool true, .bool false, .int .i64 9, .bool false, .int .i64 1, .int .i64 30, .int .i64 1, .bool false, .bool false, .bool false, .int .i64 0, .bool false, .int .i64 1, .int .i64 3, .int .i64 5, .bool true, .bool true, .bool false, .int .i64 7, .bool true, .int .i64 2, .int .i64 1, .int .i64 1, .bool true, .bool false, .bool false, .int .i64 9, .bool false, .int .i64 0, .int .i64 1, .int .i64 1, .bool false, .bool false, .bool true, .int .i64 9, .bool false, .int .i64 0]
noncomputable def rows : LRows := [(0, kv0)]
noncomputable def kc : Kc := kcIns 70 7
noncomputable def tab (k0 k1 : Nat) : List (Nat × Nat × Nat) := [(0, 4, k0), (1, 4, k1)]
noncomputable def taby : List (Nat × Nat × Nat) := []
noncomputable def orc (k0 k1 : Nat) : Nat → RV → Option RV := placeO 8 (tab k0 k1)
noncomputable def run (k0 k1 : Nat) : A := startR rows he3 fun h => call3 (ysR []) 100 (inL fsL) (orc k0 k1) kc 60 5 (.cons (.y .i64 (.v 0)) (.cons (.y .i64 (.v 1)) .nil)) h 100 isT
theorem rowsOk : rowsB rows = true := by kernel_rfl
theorem kcOk {ρ : Nat → Int} : KcOk Tryd.prog ρ kc := kcIns_ok insq.ins_ok
theorem globs : Tryd.prog.globals.size ≤ 100 := of_decide_eq_true (by kernel_rfl)
theorem knownP : known Tryd.prog 8 = true := by kernel_rfl
set_option maxRecDepth 100000 in
set_option maxHeartbeats 400000 in
theorem place_any (n : Int) (k : Nat) (w : World) (hk : 0 < k) (hk2 : k ≤ 1000000) :
    Calls Tryd.prog 8 #[.int .i64 n, .int .i64 k] w fun e w' => e = .returned (.int .i64 (n % k)) ∧ w = w' := by
  by_cases hz : n.tmod k < 0
  · have HM := Lib.hid (place_neg n k hk hz)
    have hlow : -(k : Int) < n.tmod k := by
      have := HM.out
      have h1 := Int.emod_nonneg n (show (k : Int) ≠ 0 by omega)
      by_cases he : n % (k : Int) = 0
      · have h0 : n.tmod k = 0 := Int.tmod_eq_zero_of_dvd (Int.dvd_of_emod_eq_zero he)
        omega
      · omega
    go_enter Tryd.func8, Tryd.ntmps8
    go_wp2_with fail
    go_ret
    exact ⟨by rw [← HM.out]; rfl, rfl⟩
  · have HM := Lib.hid (place_pos n k hk hz)
    go_enter Tryd.func8, Tryd.ntmps8
    go_wp2_with fail
    go_ret
    exact ⟨by rw [← HM.out]; rfl, rfl⟩
theorem c0_0 : run 0 0 = .yes := by kernel_rfl
theorem c0_1 : run 0 1 = .yes := by kernel_rfl
theorem c0_2 : run 0 2 = .yes := by kernel_rfl
theorem c0_3 : run 0 3 = .yes := by kernel_rfl
theorem c1_0 : run 1 0 = .yes := by kernel_rfl
theorem c1_1 : run 1 1 = .yes := by kernel_rfl
theorem c1_2 : run 1 2 = .yes := by kernel_rfl
theorem c1_3 : run 1 3 = .yes := by kernel_rfl
theorem c2_0 : run 2 0 = .yes := by kernel_rfl
theorem c2_1 : run 2 1 = .yes := by kernel_rfl
theorem c2_2 : run 2 2 = .yes := by kernel_rfl
theorem c2_3 : run 2 3 = .yes := by kernel_rfl
theorem c3_0 : run 3 0 = .yes := by kernel_rfl
theorem c3_1 : run 3 1 = .yes := by kernel_rfl
theorem c3_2 : run 3 2 = .yes := by kernel_rfl
theorem c3_3 : run 3 3 = .yes := by kernel_rfl
theorem alls : ∀ k0, k0 < 4 → ∀ k1, k1 < 4 → run k0 k1 = .yes
  | 0, _, 0, _ => c0_0
  | 0, _, 1, _ => c0_1
  | 0, _, 2, _ => c0_2
  | 0, _, 3, _ => c0_3
  | 1, _, 0, _ => c1_0
  | 1, _, 1, _ => c1_1
  | 1, _, 2, _ => c1_2
  | 1, _, 3, _ => c1_3
  | 2, _, 0, _ => c2_0
  | 2, _, 1, _ => c2_1
  | 2, _, 2, _ => c2_2
  | 2, _, 3, _ => c2_3
  | 3, _, 0, _ => c3_0
  | 3, _, 1, _ => c3_1
  | 3, _, 2, _ => c3_2
  | 3, _, 3, _ => c3_3
  | k + 4, h, _, _ => absurd h (by omega)
  | _, _, k + 4, h => absurd h (by omega)
theorem walk (a0 : Int) (a1 : Int) (w : World) (hK : RowsAt rows w) :
    Calls Tryd.prog 5 #[.int .i64 a0, .int .i64 a1] w fun e w' => e = .returned (.bool true) ∧ Below w.heap.size w w' := by
  have hk0 : (a0 % 4).toNat < 4 := by omega
  have ek0 : ((a0 % 4).toNat : Int) = a0 % 4 := by omega
  generalize (a0 % 4).toNat = k0 at hk0 ek0
  have hk1 : (a1 % 4).toNat < 4 := by omega
  have ek1 : ((a1 % 4).toNat : Int) = a1 % 4 := by omega
  generalize (a1 % 4).toNat = k1 at hk1 ek1
  have ho : OrcOk Tryd.prog (fun x => if x = 0 then a0 else if x = 1 then a1 else 0) (orc k0 k1) := place_ok knownP (fun n k w h1 h2 => place_any n k w h1 h2) (fun e he h0 => by
    simp only [tab, List.mem_cons, List.not_mem_nil, or_false] at he
    rcases he with rfl | rfl
    · exact ⟨by show 4 ≤ 1000000; omega, by simpa using ek0.symm⟩
    · exact ⟨by show 4 ≤ 1000000; omega, by simpa using ek1.symm⟩)
  have hy : YsOk (fun x => if x = 0 then a0 else if x = 1 then a1 else 0) (ysR []) := ysR_ok (fun e he => by
    simp at he)
  have := law_rows hy (inL_ok fsL_ok) ho kcOk globs rowsOk hK (alls k0 hk0 k1 hk1) (vs := [.int .i64 a0, .int .i64 a1]) (fun _ => denC_cons.2 ⟨_, _, rfl, rfl, denC_cons.2 ⟨_, _, rfl, rfl, denC_nil.2 rfl⟩⟩)
  exact this.mono fun e w' h => ⟨h.1, h.2.below⟩
end Go.Proofs.YtmfemnillgnneaaDoor.rulesModesq
