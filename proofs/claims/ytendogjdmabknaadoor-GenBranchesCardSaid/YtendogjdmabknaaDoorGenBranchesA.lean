/-
  The law GenBranches by the evaluator: each of its cases ends in true, over the table that lies in its variable. Conditions: none but those that the theorems print.
-/
import Derived.Test.YtendogjdmabknaaDoorTxtA
import Derived.Test.YtendogjdmabknaaDoorRqM
import Derived.Test.YtendogjdmabknaaDoorRnZe
import Derived.WalkKit
import Derived.ProofKit
import Derived.Lib.Hide
namespace Go.Proofs.YtendogjdmabknaaDoor.genBranchesq
open Go.Rn Go.RowKit YtendogjdmabknaaDoor.txt
noncomputable def kch : RV := .cons (.i .i64 0) (.cons (.i .i64 0) (.cons (.b false) (.cons (.b false) (.cons (.b false) (.cons (.i .i64 0) (.cons (.b false) (.cons (.i .i64 0) (.cons (.i .i64 3) (.cons (.i .i64 1) (.cons (.b true) (.cons (.b true) (.cons (.b false) (.cons (.i .i64 0) (.cons (.b false) (.cons (.i .i64 1) (.cons (.i .i64 5) (.cons (.i .i64 1) (.cons (.b false) (.cons (.b true) (.cons (.b false) (.cons (.i .i64 9) (.cons (.b false) (.cons (.i .i64 1) (.cons (.i .i64 30) (.cons (.i .i64 1) (.cons (.b false) (.cons (.b false) (.cons (.b false) (.cons (.i .i64 0) (.cons (.b false) (.cons (.i .i64 1) (.cons (.i .i64 3) (.cons (.i .i64 5) (.cons (.b true) (.cons (.b true) (.cons (.b false) (.cons (.i .i64 7) (.cons (.b true) (.cons (.i .i64 2) (.cons (.i .i64 1) (.cons (.i .i64 1) (.cons (.b true) (.cons (.b false) (.cons (.b false) (.cons (.i .i64 9) (.cons (.b false) (.cons (.i .i64 0) (.cons (.i .i64 1) (.cons (.i .i64 1) (.cons (.b false) (.cons (.b false) (.cons (.b true) (.cons (.i .i64 9) (.cons (.b false) (.cons (.i .i64 0) (.nil))))))))))))))))))))))))))))))))))))))))))))))))))))))))
noncomputable def kv : List Value := [.int .i64 0, .int .i64 0, .bool false, .bool false, .bool false, .int .i64 0, .bool false, .int .i64 0, .int .i64 3, .int .i64 1, .bool true, .bool true, .bool false, .int .i64 0, .bool false, .int .i64 1, .int .i64 5, .int .i64 1, .bool false, .bool true, .bool false, .int .i64 9, .bool false, .int .i64 1, .int .i64 30, .int .i64 1, .bool false, .bool false, .bool false, .int .i64 0, .bool false, .int .i64 1, .int .i64 3, .int .i64 5, .bool true, .bool true, .bool false, .int .i64 7, .bool true, .int .i64 2, .int .i64 1, .int .i64 1, .bool true, .bool false, .bool false, .int .i64 9, .bool false, .int .i64 0, .int .i64 1, .int .i64 1, .bool false, .bool false, .bool true, .int .i64 9, .bool false, .int .i64 0]
noncomputable def tab (k0 : Nat) : List (Nat × Nat × Nat) := [(1, 5, k0)]
noncomputable def taby : List (Nat × Nat × Nat) := []
noncomputable def orc (k0 : Nat) : Nat → RV → Option RV := placeO 6 (tab k0)
noncomputable def run (k0 : Nat) (z : Bool) : A := start3 kch 0 56 fun h => call3 (ysV 0 z) 100 (inL fsL) (orc k0) (tabO 8 56 kch) 60 3 (.cons (.y .i64 (.v 0)) (.cons (.y .i64 (.v 1)) .nil)) h 100 isT
theorem globs : Tryd.prog.globals.size ≤ 100 := of_decide_eq_true (by kernel_rfl)
theorem knownP : known Tryd.prog 6 = true := by kernel_rfl
set_option maxRecDepth 100000 in
set_option maxHeartbeats 400000 in
theorem place_any (n : Int) (k : Nat) (w : World) (hk : 0 < k) (hk2 : k ≤ 1000000) :
    Calls Tryd.prog 6 #[.int .i64 n, .int .i64 k] w fun e w' => e = .returned (.int .i64 (n % k)) ∧ w = w' := by
  by_cases hz : n.tmod k < 0
  · have HM := Lib.hid (place_neg n k hk hz)
    have hlow : -(k : Int) < n.tmod k := by
      have := HM.out
      have h1 := Int.emod_nonneg n (show (k : Int) ≠ 0 by omega)
      by_cases he : n % (k : Int) = 0
      · have h0 : n.tmod k = 0 := Int.tmod_eq_zero_of_dvd (Int.dvd_of_emod_eq_zero he)
        omega
      · omega
    go_enter Tryd.func6, Tryd.ntmps6
    go_wp2_with fail
    go_ret
    exact ⟨by rw [← HM.out]; rfl, rfl⟩
  · have HM := Lib.hid (place_pos n k hk hz)
    go_enter Tryd.func6, Tryd.ntmps6
    go_wp2_with fail
    go_ret
    exact ⟨by rw [← HM.out]; rfl, rfl⟩
theorem c0_t : run 0 true = .yes := by kernel_rfl
theorem c0_f : run 0 false = .yes := by kernel_rfl
theorem c1_t : run 1 true = .yes := by kernel_rfl
theorem c1_f : run 1 false = .yes := by kernel_rfl
theorem c2_t : run 2 true = .yes := by kernel_rfl
theorem c2_f : run 2 false = .yes := by kernel_rfl
theorem c3_t : run 3 true = .yes := by kernel_rfl
theorem c3_f : run 3 false = .yes := by kernel_rfl
theorem c4_t : run 4 true = .yes := by kernel_rfl
theorem c4_f : run 4 false = .yes := by kernel_rfl
theorem awake_run : start3 kch 0 56 (fun h => call3 (fun _ _ _ => none) 100 (inL fsL) (fun _ _ => none) noKc 60 8 .nil h 100 isT) = .yes := by kernel_rfl
theorem knownA : known Tryd.prog 8 = true := by kernel_rfl
theorem alls : ∀ k0, k0 < 5 → ∀ z : Bool, run k0 z = .yes
  | 0, _, true => c0_t
  | 0, _, false => c0_f
  | 1, _, true => c1_t
  | 1, _, false => c1_f
  | 2, _, true => c2_t
  | 2, _, false => c2_f
  | 3, _, true => c3_t
  | 3, _, false => c3_f
  | 4, _, true => c4_t
  | 4, _, false => c4_f
  | k + 5, h, _ => absurd h (by omega)
/-- the table lies in its variable -/
def KT (w : World) : Prop := ∃ C el fr, w.heap[0]? = some (.cells C el fr) ∧ ∀ (j : Nat) (v : Value), kv[j]? = some v → C[j]? = some v
noncomputable def m0 (Z : Nat) : Mp := fun b => if b = 0 then some (0, 0, Z) else if b < Tryd.prog.globals.size then some (b, 0, 0) else none
theorem kch_ok {ρ : Nat → Int} {m : Mp} : denC ρ m kch kv := by
  unfold kch kv
  repeat (first | exact denC_nil.2 rfl | refine denC_cons.2 ⟨_, _, rfl, rfl, ?_⟩)
theorem kch_len : chLen kch = some 56 := by kernel_rfl
theorem kv_cells : ∀ v ∈ kv, Cell v := by
  intro v hv
  unfold kv at hv
  simp only [List.mem_cons, List.not_mem_nil, or_false] at hv
  rcases hv with rfl | rfl | rfl | rfl | rfl | rfl | rfl | rfl | rfl | rfl | rfl | rfl | rfl | rfl | rfl | rfl | rfl | rfl | rfl | rfl | rfl | rfl | rfl | rfl | rfl | rfl | rfl | rfl | rfl | rfl | rfl | rfl | rfl | rfl | rfl | rfl | rfl | rfl | rfl | rfl | rfl | rfl | rfl | rfl | rfl | rfl | rfl | rfl | rfl | rfl | rfl | rfl | rfl | rfl | rfl | rfl <;> rfl
theorem one_glob : 0 < Tryd.prog.globals.size := of_decide_eq_true (by kernel_rfl)
theorem kch_chain : chain kv = kch := by kernel_rfl
theorem kv_plain : ∀ v ∈ kv, PlainV v := by
  intro v hv
  unfold kv at hv
  simp only [List.mem_cons, List.not_mem_nil, or_false] at hv
  rcases hv with rfl | rfl | rfl | rfl | rfl | rfl | rfl | rfl | rfl | rfl | rfl | rfl | rfl | rfl | rfl | rfl | rfl | rfl | rfl | rfl | rfl | rfl | rfl | rfl | rfl | rfl | rfl | rfl | rfl | rfl | rfl | rfl | rfl | rfl | rfl | rfl | rfl | rfl | rfl | rfl | rfl | rfl | rfl | rfl | rfl | rfl | rfl | rfl | rfl | rfl | rfl | rfl | rfl | rfl | rfl | rfl <;> trivial
theorem awake_ok (w : World) (hK : KT w) : Calls Tryd.prog 8 #[] w fun e w' => e = .returned (.bool true) ∧ Old w w' := by
  obtain ⟨C, el, fr, hB, hv⟩ := hK
  have hg := globs
  have h1 := one_glob
  have s : Sim Tryd.prog (fun _ => 0) (m0 C.size) 100 (hst he (.bk (lay kch ce 0) 56) 0) w := sim_one hB kch_len kch_ok kv_cells hv (by unfold m0; rw [if_pos rfl]) (by omega) (by decide)
  exact law_laid (ρ := fun _ => 0) no_ys (inL_ok fsL_ok) none_ok (kc := noKc) (fun _ _ _ h => by cases h) (n := 100) (g := 100) (m0 := m0 C.size) (Nat.le_refl _) (fun b c z hb => by
    rcases hg_hst he (.bk (lay kch ce 0) 56) 0 b with ⟨q, _⟩ | ⟨_, q⟩
    · omega
    · rw [q, hg_he] at hb; cases hb) s (fun b hb => by
    by_cases hb0 : b = 0
    · subst hb0; exact ⟨C.size, by unfold m0; rw [if_pos rfl]⟩
    · exact ⟨0, by unfold m0; rw [if_neg hb0, if_pos hb]⟩) (fun b hb => by unfold m0; rw [if_neg (by omega), if_neg (by omega)]) (quick_laid awake_run) (vs := []) (denC_nil.2 rfl)
theorem awake_kc {ρ : Nat → Int} : ∀ f c q, tabO 8 56 kch f c = some q → KcOk Tryd.prog ρ (tabO 8 56 kch) :=
  tabO_ok one_glob knownA fun m w us C el fr hw hu hc => awake_ok w ⟨C, el, fr, hw, fun j v hj => by
    rw [← kch_chain] at hu
    rw [chain_den kv_plain hu] at hc
    exact hc j v hj⟩
theorem walk (a0 : Int) (a1 : Int) (w : World) (hK : KT w) :
    Calls Tryd.prog 3 #[.int .i64 a0, .int .i64 a1] w fun e w' => e = .returned (.bool true) ∧ Below w.heap.size w w' := by
  obtain ⟨C, el, fr, hB, hv⟩ := hK
  have hk0 : (a1 % 5).toNat < 5 := by omega
  have ek0 : ((a1 % 5).toNat : Int) = a1 % 5 := by omega
  generalize (a1 % 5).toNat = k0 at hk0 ek0
  have ho : OrcOk Tryd.prog (fun x => if x = 0 then a0 else if x = 1 then a1 else 0) (orc k0) := place_ok knownP (fun n k w h1 h2 => place_any n k w h1 h2) (fun e he h0 => by
    simp only [tab, List.mem_cons, List.not_mem_nil, or_false] at he
    rcases he with rfl
    · exact ⟨by show 5 ≤ 1000000; omega, by simpa using ek0.symm⟩)
  have hy : YsOk (fun x => if x = 0 then a0 else if x = 1 then a1 else 0) (ysV 0 (decide (a0 ≠ 0))) := by have h0 := ysV_ok (ρ := fun x => if x = 0 then a0 else if x = 1 then a1 else 0) (n := 0); simpa using h0
  have hg := globs
  have h1 := one_glob
  have s : Sim Tryd.prog (fun x => if x = 0 then a0 else if x = 1 then a1 else 0) (m0 C.size) 100 (hst he (.bk (lay kch ce 0) 56) 0) w := sim_one hB kch_len kch_ok kv_cells hv (by unfold m0; rw [if_pos rfl]) (by omega) (by decide)
  have := law_laid hy (inL_ok fsL_ok) ho awake_kc (n := 100) (g := 100) (m0 := m0 C.size) (Nat.le_refl _) (fun b c z hb => by
    rcases hg_hst he (.bk (lay kch ce 0) 56) 0 b with ⟨q, _⟩ | ⟨_, q⟩
    · omega
    · rw [q, hg_he] at hb; cases hb) s (fun b hb => by
    by_cases hb0 : b = 0
    · subst hb0; exact ⟨C.size, by unfold m0; rw [if_pos rfl]⟩
    · exact ⟨0, by unfold m0; rw [if_neg hb0, if_pos hb]⟩) (fun b hb => by unfold m0; rw [if_neg (by omega), if_neg (by omega)]) (quick_laid (alls k0 hk0 (decide (a0 ≠ 0)))) (vs := [.int .i64 a0, .int .i64 a1]) (denC_cons.2 ⟨_, _, rfl, rfl, denC_cons.2 ⟨_, _, rfl, rfl, denC_nil.2 rfl⟩⟩)
  exact this.mono fun e w' h => ⟨h.1, h.2.below⟩
end Go.Proofs.YtendogjdmabknaaDoor.genBranchesq
