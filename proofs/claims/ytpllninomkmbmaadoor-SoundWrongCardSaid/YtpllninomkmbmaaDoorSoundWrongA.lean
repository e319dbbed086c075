/-
  The law SoundWrong by the evaluator: each of its cases ends in true, over the table that lies in its variable. Conditions: none but those that the theorems print.
-/
import Derived.Test.YtpllninomkmbmaaDoorTxtA
import Derived.Test.YtpllninomkmbmaaDoorRqM
import Derived.Test.YtpllninomkmbmaaDoorRnZe
import Derived.WalkKit
import Derived.ProofKit
import Derived.Lib.Hide
namespace Go.Proofs.YtpllninomkmbmaaDoor.soundWrongq
open Go.Rn Go.RowKit YtpllninomkmbmaaDoor.txt
noncomputable def kch : RV := .cons (.i .i64 0) (.cons (.i .i64 0) (.cons (.b false) (.cons (.b false) (.cons (.b false) (.cons (.i .i64 0) (.cons (.b false) (.cons (.i .i64 0) (.cons (.i .i64 3) (.cons (.i .i64 1) (.cons (.b true) (.cons (.b true) (.cons (.b false) (.cons (.i .i64 0) (.cons (.b false) (.cons (.i .i64 1) (.cons (.i .i64 5) (.cons (.i .i64 1) (.cons (.b false) (.cons (.b true) (.cons (.b false) (.cons (.i .i64 9) (.cons (.b false) (.cons (.i .i64 1) (.cons (.i .i64 30) (.cons (.i .i64 1) (.cons (.b false) (.cons (.b false) (.cons (.b false) (.cons (.i .i64 0) (.cons (.b false) (.cons (.i .i64 1) (.cons (.i .i64 3) (.cons (.i .i64 5) (.cons (.b true) (.cons (.b true) (.cons (.b false) (.cons (.i .i64 7) (.cons (.b true) (.cons (.i .i64 2) (.cons (.i .i64 1) (.cons (.i .i64 1) (.cons (.b true) (.cons (.b false) (.cons (.b false) (.cons (.i .i64 9) (.cons (.b false) (.cons (.i .i64 0) (.cons (.i .i64 1) (.cons (.i .i64 1) (.cons (.b false) (.cons (.b false) (.cons (.b true) (.cons (.i .i64 9) (.cons (.b false) (.cons (.i .i64 0) (.nil))))))))))))))))))))))))))))))))))))))))))))))))))))))))
noncomputable def kv : List Value := [.int .i64 0, .int .i64 0, .bool false, .bool false, .bool false, .int .i64 0, .bool false, .int .i64 0, .int .i64 3, .int .i64 1, .bool true, .bool true, .bool false, .int .i64 0, .bool false, .int .i64 1, .int .i64 5, .int .i64 1, .bool false, .bool true, .bool false, .int .i64 9, .bool false, .int .i64 1, .int .i64 30, .int .i64 1, .bool false, .bool false, .bool false, .int .i64 0, .bool false, .int .i64 1, .int .i64 3, .int .i64 5, .bool true, .bool true, .bool false, .int .i64 7, .bool true, .int .i64 2, .int .i64 1, .int .i64 1, .bool true, .bool false, .bool false, .int .i64 9, .bool false, .int .i64 0, .int .i64 1, .int .i64 1, .bool false, .bool false, .bool true, .int .i64 9, .bool false, .int .i64 0]
noncomputable def tab (k0 : Nat) : List (Nat × Nat × Nat) := [(0, 18, k0)]
noncomputable def taby : List (Nat × Nat × Nat) := [(1, 1000, 51)]
noncomputable def orc (k0 : Nat) : Nat → RV → Option RV := orO (placeO 9 (tab k0)) (placeY 9 taby)
noncomputable def run (k0 : Nat) : A := start3 kch 0 56 fun h => call3 (ysR [(51, 0, 999)]) 100 (inL fsL) (orc k0) 60 8 (.cons (.y .i64 (.v 0)) (.cons (.y .i64 (.v 1)) .nil)) h 100 isT
theorem globs : Tryd.prog.globals.size ≤ 100 := of_decide_eq_true (by kernel_rfl)
theorem knownP : known Tryd.prog 9 = true := by kernel_rfl
set_option maxRecDepth 100000 in
set_option maxHeartbeats 400000 in
theorem place_any (n : Int) (k : Nat) (w : World) (hk : 0 < k) (hk2 : k ≤ 1000000) :
    Calls Tryd.prog 9 #[.int .i64 n, .int .i64 k] w fun e w' => e = .returned (.int .i64 (n % k)) ∧ w = w' := by
  by_cases hz : n.tmod k < 0
  · have HM := Lib.hid (place_neg n k hk hz)
    have hlow : -(k : Int) < n.tmod k := by
      have := HM.out
      have h1 := Int.emod_nonneg n (show (k : Int) ≠ 0 by omega)
      by_cases he : n % (k : Int) = 0
      · have h0 : n.tmod k = 0 := Int.tmod_eq_zero_of_dvd (Int.dvd_of_emod_eq_zero he)
        omega
      · omega
    go_enter Tryd.func9, Tryd.ntmps9
    go_wp2_with fail
    go_ret
    exact ⟨by rw [← HM.out]; rfl, rfl⟩
  · have HM := Lib.hid (place_pos n k hk hz)
    go_enter Tryd.func9, Tryd.ntmps9
    go_wp2_with fail
    go_ret
    exact ⟨by rw [← HM.out]; rfl, rfl⟩
theorem c0 : run 0 = .yes := by kernel_rfl
theorem c1 : run 1 = .yes := by kernel_rfl
theorem c2 : run 2 = .yes := by kernel_rfl
theorem c3 : run 3 = .yes := by kernel_rfl
theorem c4 : run 4 = .yes := by kernel_rfl
theorem c5 : run 5 = .yes := by kernel_rfl
theorem c6 : run 6 = .yes := by kernel_rfl
theorem c7 : run 7 = .yes := by kernel_rfl
theorem c8 : run 8 = .yes := by kernel_rfl
theorem c9 : run 9 = .yes := by kernel_rfl
theorem c10 : run 10 = .yes := by kernel_rfl
theorem c11 : run 11 = .yes := by kernel_rfl
theorem c12 : run 12 = .yes := by kernel_rfl
theorem c13 : run 13 = .yes := by kernel_rfl
theorem c14 : run 14 = .yes := by kernel_rfl
theorem c15 : run 15 = .yes := by kernel_rfl
theorem c16 : run 16 = .yes := by kernel_rfl
theorem c17 : run 17 = .yes := by kernel_rfl
theorem alls : ∀ k0, k0 < 18 → run k0 = .yes
  | 0, _ => c0
  | 1, _ => c1
  | 2, _ => c2
  | 3, _ => c3
  | 4, _ => c4
  | 5, _ => c5
  | 6, _ => c6
  | 7, _ => c7
  | 8, _ => c8
  | 9, _ => c9
  | 10, _ => c10
  | 11, _ => c11
  | 12, _ => c12
  | 13, _ => c13
  | 14, _ => c14
  | 15, _ => c15
  | 16, _ => c16
  | 17, _ => c17
  | k + 18, h => absurd h (by omega)
/-- the table lies in its variable -/
def KT (w : World) : Prop := ∃ C el fr, w.heap[0]? = some (.cells C el fr) ∧ ∀ (j : Nat) (v : Value), kv[j]? = some v → C[j]? = some v
noncomputable def m0 (Z : Nat) : Mp := fun b => if b = 0 then some (0, 0, Z) else if b < Tryd.prog.globals.size then some (b, 0, 0) else none
theorem kch_ok {ρ : Nat → Int} {m : Mp} : denC ρ m kch kv := by
  unfold kch kv
  repeat (first | exact denC_nil.2 rfl | refine denC_cons.2 ⟨_, _, rfl, rfl, ?_⟩)
theorem kch_len : chLen kch = some 56 := by kernel_rfl
theorem kv_cells : ∀ v ∈ kv, Cell v := by
  intro v hv
  unfold kv at hv
  simp only [List.mem_cons, List.not_mem_nil, or_false] at hv
  rcases hv with rfl | rfl | rfl | rfl | rfl | rfl | rfl | rfl | rfl | rfl | rfl | rfl | rfl | rfl | rfl | rfl | rfl | rfl | rfl | rfl | rfl | rfl | rfl | rfl | rfl | rfl | rfl | rfl | rfl | rfl | rfl | rfl | rfl | rfl | rfl | rfl | rfl | rfl | rfl | rfl | rfl | rfl | rfl | rfl | rfl | rfl | rfl | rfl | rfl | rfl | rfl | rfl | rfl | rfl | rfl | rfl <;> rfl
theorem one_glob : 0 < Tryd.prog.globals.size := of_decide_eq_true (by kernel_rfl)
theorem walk (a0 : Int) (a1 : Int) (w : World) (hK : KT w) :
    Calls Tryd.prog 8 #[.int .i64 a0, .int .i64 a1] w fun e w' => e = .returned (.bool true) ∧ Below w.heap.size w w' := by
  obtain ⟨C, el, fr, hB, hv⟩ := hK
  have hk0 : (a0 % 18).toNat < 18 := by omega
  have ek0 : ((a0 % 18).toNat : Int) = a0 % 18 := by omega
  generalize (a0 % 18).toNat = k0 at hk0 ek0
  have ho : OrcOk Tryd.prog (fun x => if x = 0 then a0 else if x = 1 then a1 else if x = 51 then a1 % 1000 else 0) (orc k0) := or_ok (place_ok knownP (fun n k w h1 h2 => place_any n k w h1 h2) (fun e he h0 => by
    simp only [tab, List.mem_cons, List.not_mem_nil, or_false] at he
    rcases he with rfl
    · exact ⟨by show 18 ≤ 1000000; omega, by simpa using ek0.symm⟩)) (placeY_ok knownP (fun n k w h1 h2 => place_any n k w h1 h2) (fun e he h0 => by
    simp only [taby, List.mem_cons, List.not_mem_nil, or_false] at he
    rcases he with rfl
    · exact ⟨by show 1000 ≤ 1000000; omega, by simp⟩))
  have hy : YsOk (fun x => if x = 0 then a0 else if x = 1 then a1 else if x = 51 then a1 % 1000 else 0) (ysR [(51, 0, 999)]) := ysR_ok (fun e he => by
    simp only [List.mem_cons, List.not_mem_nil, or_false] at he
    rcases he with rfl
    · have := Int.emod_nonneg a1 (show (1000 : Int) ≠ 0 by omega); have := Int.emod_lt_of_pos a1 (show (0 : Int) < 1000 by omega); exact ⟨by simp; omega, by simp; omega⟩)
  have hg := globs
  have h1 := one_glob
  have s : Sim (fun x => if x = 0 then a0 else if x = 1 then a1 else if x = 51 then a1 % 1000 else 0) (m0 C.size) 100 (hst he (.bk (lay kch ce 0) 56) 0) w := sim_one hB kch_len kch_ok kv_cells hv (by unfold m0; rw [if_pos rfl]) (by omega)
  have := law_laid hy (inL_ok fsL_ok) ho (n := 100) (g := 100) (m0 := m0 C.size) (Nat.le_refl _) (fun b c z hb => by
    rcases hg_hst he (.bk (lay kch ce 0) 56) 0 b with ⟨q, _⟩ | ⟨_, q⟩
    · omega
    · rw [q, hg_he] at hb; cases hb) s (fun b hb => by
    by_cases hb0 : b = 0
    · subst hb0; exact ⟨C.size, by unfold m0; rw [if_pos rfl]⟩
    · exact ⟨0, by unfold m0; rw [if_neg hb0, if_pos hb]⟩) (fun b hb => by unfold m0; rw [if_neg (by omega), if_neg (by omega)]) (quick_laid (alls k0 hk0)) (vs := [.int .i64 a0, .int .i64 a1]) (denC_cons.2 ⟨_, _, rfl, rfl, denC_cons.2 ⟨_, _, rfl, rfl, denC_nil.2 rfl⟩⟩)
  exact this.mono fun e w' h => ⟨h.1, h.2.below⟩
end Go.Proofs.YtpllninomkmbmaaDoor.soundWrongq
