/-
  The law RulesKnown by the evaluator: each of its cases ends in true, over the table that lies in its variable. Conditions: none but those that the theorems print.
-/
import Derived.Test.YtmfemnillgnneaaDoorTxtA
import Derived.Test.YtmfemnillgnneaaDoorRqQ
import Derived.Test.YtmfemnillgnneaaDoorIns
import Derived.Test.YtmfemnillgnneaaDoorRnZf
import Derived.WalkKit
import Derived.ProofKit
import Derived.Lib.Hide
namespace Go.Proofs.YtmfemnillgnneaaDoor.rulesKnownq
open Go.Rn Go.RowKit YtmfemnillgnneaaDoor.txt
noncomputable def kv0 : List Value := [.int .i64 0, .int .i64 0, .bool false, .bool false, .bool false, .int .i64 0, .bool false, .int .i64 0, .int .i64 3, .int .i64 1, .bool true, .bool true, .bool false, .int .i64 0, .bool false, .int .i64 1, .int .i64 5, .int .i64 1, .bool false, .bool true, .bool false, .int .i64 9, .bool false, .int .i64 1, .int .i64 30, .int .i64 1, .bool false, .bool false, .bool false, .int .i64 0, .bool false, .int .i64 1, .int .i64 3, .int .i64 5, .bool true, .bool true, .bool false, .int .i64 7, .bool true, .int .i64 2, .int .i64 1, .int .i64 1, .bool true, .bool false, .bool false, .int .i64 9, .bool false, .int .i64 0, .int .i64 1, .int .i64 1, .bool false, .bool false, .bool true, .int .i64 9, .bool false, .int .i64 0]
noncomputable def rows : LRows := [(0, kv0)]
noncomputable def kc : Kc := kcIns 70 7
noncomputable def tab (k0 : Nat) : List (Nat × Nat × Nat) := [(0, 18, k0)]
noncomputable def taby : List (Nat × Nat × Nat) := []
noncomputable def orc (k0 : Nat) : Nat → RV → Option RV := placeO 8 (tab k0)
noncomputable def run (k0 : Nat) : A := startR rows he3 fun h => call3 (ysR []) 100 (inL fsL) (orc k0) kc 60 3 (.cons (.y .i64 (.v 0)) .nil) h 100 isT
theorem rowsOk : rowsB rows = true := by kernel_rfl
theorem kcOk {ρ : Nat → Int} : KcOk Tryd.prog ρ kc := kcIns_ok insq.ins_ok
theorem globs : Tryd.prog.globals.size ≤ 100 := of_decide_eq_true (by kernel_rfl)
theorem knownP : known Tryd.prog 8 = true := by kernel_rfl
set_option maxRecDepth 100000 in
set_option maxHeartbeats 400000 in
theorem place_any (n : Int) (k : Nat) (w : World) (hk : 0 < k) (hk2 : k ≤ 1000000) :
    Calls Tryd.prog 8 #[.int .i64 n, .int .i64 k] w fun e w' => e = .returned (.int .i64 (n % k)) ∧ w = w' := by
  by_cases hz : n.tmod k < 0
  · have HM := Lib.hid (place_neg n k hk hz)
    have hlow : -(k : Int) < n.tmod k := by
      have := HM.out
      have h1 := Int.emod_nonneg n (show (k : Int) ≠ 0 by omega)
      by_cases he : n % (k : Int) = 0
      · have h0 : n.tmod k = 0 := Int.tmod_eq_zero_of_dvd (Int.dvd_of_emod_eq_zero he)
        omega
      · omega
    go_enter Tryd.func8, Tryd.ntmps8
    go_wp2_with fail
    go_ret
    exact ⟨by rw [← HM.out]; rfl, rfl⟩
  · have HM := Lib.hid (place_pos n k hk hz)
    go_enter Tryd.func8, Tryd.ntmps8
    go_wp2_with fail
    go_ret
    exact ⟨by rw [← HM.out]; rfl, rfl⟩
theorem c0 : run 0 = .yes := by kernel_rfl
theorem c1 : run 1 = .yes := by kernel_rfl
theorem c2 : run 2 = .yes := by kernel_rfl
theorem c3 : run 3 = .yes := by kernel_rfl
theorem c4 : run 4 = .yes := by kernel_rfl
theorem c5 : run 5 = .yes := by kernel_rfl
theorem c6 : run 6 = .yes := by kernel_rfl
theorem c7 : run 7 = .yes := by kernel_rfl
theorem c8 : run 8 = .yes := by kernel_rfl
theorem c9 : run 9 = .yes := by kernel_rfl
theorem c10 : run 10 = .yes := by kernel_rfl
theorem c11 : run 11 = .yes := by kernel_rfl
theorem c12 : run 12 = .yes := by kernel_rfl
theorem c13 : run 13 = .yes := by kernel_rfl
theorem c14 : run 14 = .yes := by kernel_rfl
theorem c15 : run 15 = .yes := by kernel_rfl
theorem c16 : run 16 = .yes := by kernel_rfl
theorem c17 : run 17 = .yes := by kernel_rfl
theorem alls : ∀ k0, k0 < 18 → run k0 = .yes
  | 0, _ => c0
  | 1, _ => c1
  | 2, _ => c2
  | 3, _ => c3
  | 4, _ => c4
  | 5, _ => c5
  | 6, _ => c6
  | 7, _ => c7
  | 8, _ => c8
  | 9, _ => c9
  | 10, _ => c10
  | 11, _ => c11
  | 12, _ => c12
  | 13, _ => c13
  | 14, _ => c14
  | 15, _ => c15
  | 16, _ => c16
  | 17, _ => c17
  | k + 18, h => absurd h (by omega)
theorem walk (a0 : Int) (w : World) (hK : RowsAt rows w) :
    Calls Tryd.prog 3 #[.int .i64 a0] w fun e w' => e = .returned (.bool true) ∧ Below w.heap.size w w' := by
  have hk0 : (a0 % 18).toNat < 18 := by omega
  have ek0 : ((a0 % 18).toNat : Int) = a0 % 18 := by omega
  generalize (a0 % 18).toNat = k0 at hk0 ek0
  have ho : OrcOk Tryd.prog (fun x => if x = 0 then a0 else 0) (orc k0) := place_ok knownP (fun n k w h1 h2 => place_any n k w h1 h2) (fun e he h0 => by
    simp only [tab, List.mem_cons, List.not_mem_nil, or_false] at he
    rcases he with rfl
    · exact ⟨by show 18 ≤ 1000000; omega, by simpa using ek0.symm⟩)
  have hy : YsOk (fun x => if x = 0 then a0 else 0) (ysR []) := ysR_ok (fun e he => by
    simp at he)
  have := law_rows hy (inL_ok fsL_ok) ho kcOk globs rowsOk hK (alls k0 hk0) (vs := [.int .i64 a0]) (fun _ => denC_cons.2 ⟨_, _, rfl, rfl, denC_nil.2 rfl⟩)
  exact this.mono fun e w' h => ⟨h.1, h.2.below⟩
end Go.Proofs.YtmfemnillgnneaaDoor.rulesKnownq
