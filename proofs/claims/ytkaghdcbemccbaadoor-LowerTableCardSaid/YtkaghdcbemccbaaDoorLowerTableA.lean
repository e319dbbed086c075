/-
  The law LowerTable by the evaluator: each of its cases ends in true, over the table that lies in its variable. Conditions: none but those that the theorems print.
-/
import Derived.Test.YtkaghdcbemccbaaDoorTxtA
import Derived.Test.YtkaghdcbemccbaaDoorRqM
import Derived.Test.YtkaghdcbemccbaaDoorRnZf
import Derived.WalkKit
import Derived.ProofKit
import Derived.Lib.Hide
namespace Go.Proofs.YtkaghdcbemccbaaDoor.lowerTableq
open Go.Rn Go.RowKit YtkaghdcbemccbaaDoor.txt
noncomputable def kch : RV := .cons (.i .i64 0) (.cons (.i .i64 0) (.cons (.b false) (.cons (.b false) (.cons (.b false) (.cons (.i .i64 0) (.cons (.b false) (.cons (.i .i64 0) (.cons (.i .i64 3) (.cons (.i .i64 1) (.cons (.b true) (.cons (.b true) (.cons (.b false) (.cons (.i .i64 0) (.cons (.b false) (.cons (.i .i64 1) (.cons (.i .i64 5) (.cons (.i .i64 1) (.cons (.b false) (.cons (.b true) (.cons (.b false) (.cons (.i .i64 9) (.cons (.b false) (.cons (.i .i64 1) (.cons (.i .i64 30) (.cons (.i .i64 1) (.cons (.b false) (.cons (.b false) (.cons (.b false) (.cons (.i .i64 0) (.cons (.b false) (.cons (.i .i64 1) (.cons (.i .i64 3) (.cons (.i .i64 5) (.cons (.b true) (.cons (.b true) (.cons (.b false) (.cons (.i .i64 7) (.cons (.b true) (.cons (.i .i64 2) (.cons (.i .i64 1) (.cons (.i .i64 1) (.cons (.b true) (.cons (.b false) (.cons (.b false) (.cons (.i .i64 9) (.cons (.b false) (.cons (.i .i64 0) (.cons (.i .i64 1) (.cons (.i .i64 1) (.cons (.b false) (.cons (.b false) (.cons (.b true) (.cons (.i .i64 9) (.cons (.b false) (.cons (.i .i64 0) (.nil))))))))))))))))))))))))))))))))))))))))))))))))))))))))
noncomputable def kv : List Value := [.int .i64 0, .int .i64 0, .bool false, .bool false, .bool false, .int .i64 0, .bool false, .int .i64 0, .int .i64 3, .int .i64 1, .bool true, .bool true, .bool false, .int .i64 0, .bool false, .int .i64 1, .int .i64 5, .int .i64 1, .bool false, .bool true, .bool false, .int .i64 9, .bool false, .int .i64 1, .int .i64 30, .int .i64 1, .bool false, .bool false, .bool false, .int .i64 0, .bool false, .int .i64 1, .int .i64 3, .int .i64 5, .bool true, .bool true, .bool false, .int .i64 7, .bool true, .int .i64 2, .int .i64 1, .int .i64 1, .bool true, .bool false, .bool false, .int .i64 9, .bool false, .int .i64 0, .int .i64 1, .int .i64 1, .bool false, .bool false, .bool true, .int .i64 9, .bool false, .int .i64 0]
noncomputable def tab : List (Nat × Nat × Nat) := []
noncomputable def taby : List (Nat × Nat × Nat) := []
noncomputable def orc : Nat → RV → Option RV := placeO 8 (tab)
noncomputable def run (b1 b2 b3 z : Bool) : A := start3 kch 1 56 fun h => call3 (ysB 0 z) 100 (inL fsL) (orc) noKc 60 3 (.cons (.y .i64 (.v 0)) (.cons (.b b1) (.cons (.b b2) (.cons (.b b3) .nil)))) h 100 isT
theorem globs : Tryd.prog.globals.size ≤ 100 := of_decide_eq_true (by kernel_rfl)
theorem knownP : known Tryd.prog 8 = true := by kernel_rfl
set_option maxRecDepth 100000 in
set_option maxHeartbeats 400000 in
theorem place_any (n : Int) (k : Nat) (w : World) (hk : 0 < k) (hk2 : k ≤ 1000000) :
    Calls Tryd.prog 8 #[.int .i64 n, .int .i64 k] w fun e w' => e = .returned (.int .i64 (n % k)) ∧ w = w' := by
  by_cases hz : n.tmod k < 0
  · have HM := Lib.hid (place_neg n k hk hz)
    have hlow : -(k : Int) < n.tmod k := by
      have := HM.out
      have h1 := Int.emod_nonneg n (show (k : Int) ≠ 0 by omega)
      by_cases he : n % (k : Int) = 0
      · have h0 : n.tmod k = 0 := Int.tmod_eq_zero_of_dvd (Int.dvd_of_emod_eq_zero he)
        omega
      · omega
    go_enter Tryd.func8, Tryd.ntmps8
    go_wp2_with fail
    go_ret
    exact ⟨by rw [← HM.out]; rfl, rfl⟩
  · have HM := Lib.hid (place_pos n k hk hz)
    go_enter Tryd.func8, Tryd.ntmps8
    go_wp2_with fail
    go_ret
    exact ⟨by rw [← HM.out]; rfl, rfl⟩
theorem c_t_t_t_t : run true true true true = .yes := by kernel_rfl
theorem c_t_t_t_f : run true true true false = .yes := by kernel_rfl
theorem c_t_t_f_t : run true true false true = .yes := by kernel_rfl
theorem c_t_t_f_f : run true true false false = .yes := by kernel_rfl
theorem c_t_f_t_t : run true false true true = .yes := by kernel_rfl
theorem c_t_f_t_f : run true false true false = .yes := by kernel_rfl
theorem c_t_f_f_t : run true false false true = .yes := by kernel_rfl
theorem c_t_f_f_f : run true false false false = .yes := by kernel_rfl
theorem c_f_t_t_t : run false true true true = .yes := by kernel_rfl
theorem c_f_t_t_f : run false true true false = .yes := by kernel_rfl
theorem c_f_t_f_t : run false true false true = .yes := by kernel_rfl
theorem c_f_t_f_f : run false true false false = .yes := by kernel_rfl
theorem c_f_f_t_t : run false false true true = .yes := by kernel_rfl
theorem c_f_f_t_f : run false false true false = .yes := by kernel_rfl
theorem c_f_f_f_t : run false false false true = .yes := by kernel_rfl
theorem c_f_f_f_f : run false false false false = .yes := by kernel_rfl
theorem alls : ∀ b1 : Bool, ∀ b2 : Bool, ∀ b3 : Bool, ∀ z : Bool, run b1 b2 b3 z = .yes
  | true, true, true, true => c_t_t_t_t
  | true, true, true, false => c_t_t_t_f
  | true, true, false, true => c_t_t_f_t
  | true, true, false, false => c_t_t_f_f
  | true, false, true, true => c_t_f_t_t
  | true, false, true, false => c_t_f_t_f
  | true, false, false, true => c_t_f_f_t
  | true, false, false, false => c_t_f_f_f
  | false, true, true, true => c_f_t_t_t
  | false, true, true, false => c_f_t_t_f
  | false, true, false, true => c_f_t_f_t
  | false, true, false, false => c_f_t_f_f
  | false, false, true, true => c_f_f_t_t
  | false, false, true, false => c_f_f_t_f
  | false, false, false, true => c_f_f_f_t
  | false, false, false, false => c_f_f_f_f
/-- the table lies in its variable -/
def KT (w : World) : Prop := ∃ C el fr, w.heap[1]? = some (.cells C el fr) ∧ ∀ (j : Nat) (v : Value), kv[j]? = some v → C[j]? = some v
noncomputable def m0 (Z : Nat) : Mp := fun b => if b = 1 then some (1, 0, Z) else if b < Tryd.prog.globals.size then some (b, 0, 0) else none
theorem kch_ok {ρ : Nat → Int} {m : Mp} : denC ρ m kch kv := by
  unfold kch kv
  repeat (first | exact denC_nil.2 rfl | refine denC_cons.2 ⟨_, _, rfl, rfl, ?_⟩)
theorem kch_len : chLen kch = some 56 := by kernel_rfl
theorem kv_cells : ∀ v ∈ kv, Cell v := by
  intro v hv
  unfold kv at hv
  simp only [List.mem_cons, List.not_mem_nil, or_false] at hv
  rcases hv with rfl | rfl | rfl | rfl | rfl | rfl | rfl | rfl | rfl | rfl | rfl | rfl | rfl | rfl | rfl | rfl | rfl | rfl | rfl | rfl | rfl | rfl | rfl | rfl | rfl | rfl | rfl | rfl | rfl | rfl | rfl | rfl | rfl | rfl | rfl | rfl | rfl | rfl | rfl | rfl | rfl | rfl | rfl | rfl | rfl | rfl | rfl | rfl | rfl | rfl | rfl | rfl | rfl | rfl | rfl | rfl <;> rfl
theorem one_glob : 1 < Tryd.prog.globals.size := of_decide_eq_true (by kernel_rfl)
theorem walk (a0 : Int) (b1 : Bool) (b2 : Bool) (b3 : Bool) (w : World) (hK : KT w) :
    Calls Tryd.prog 3 #[.int .i64 a0, .bool b1, .bool b2, .bool b3] w fun e w' => e = .returned (.bool true) ∧ Below w.heap.size w w' := by
  obtain ⟨C, el, fr, hB, hv⟩ := hK
  have ho : OrcOk Tryd.prog (fun x => if x = 0 then a0 else 0) (orc) := place_ok knownP (fun n k w h1 h2 => place_any n k w h1 h2) (fun e he h0 => by simp [tab] at he)
  have hy : YsOk (fun x => if x = 0 then a0 else 0) (ysB 0 (decide (a0 % 2 = 1))) := by have h0 := ysB_ok (ρ := fun x => if x = 0 then a0 else 0) (n := 0); simpa using h0
  have hg := globs
  have h1 := one_glob
  have s : Sim Tryd.prog (fun x => if x = 0 then a0 else 0) (m0 C.size) 100 (hst he (.bk (lay kch ce 0) 56) 1) w := sim_one hB kch_len kch_ok kv_cells hv (by unfold m0; rw [if_pos rfl]) (by omega) (by decide)
  have := law_laid hy (inL_ok fsL_ok) ho (kc := noKc) (fun _ _ _ h => by cases h) (n := 100) (g := 100) (m0 := m0 C.size) (Nat.le_refl _) (fun b c z hb => by
    rcases hg_hst he (.bk (lay kch ce 0) 56) 1 b with ⟨q, _⟩ | ⟨_, q⟩
    · omega
    · rw [q, hg_he] at hb; cases hb) s (fun b hb => by
    by_cases hb0 : b = 1
    · subst hb0; exact ⟨C.size, by unfold m0; rw [if_pos rfl]⟩
    · exact ⟨0, by unfold m0; rw [if_neg hb0, if_pos hb]⟩) (fun b hb => by unfold m0; rw [if_neg (by omega), if_neg (by omega)]) (quick_laid (alls b1 b2 b3 (decide (a0 % 2 = 1)))) (vs := [.int .i64 a0, .bool b1, .bool b2, .bool b3]) (denC_cons.2 ⟨_, _, rfl, rfl, denC_cons.2 ⟨_, _, rfl, rfl, denC_cons.2 ⟨_, _, rfl, rfl, denC_cons.2 ⟨_, _, rfl, rfl, denC_nil.2 rfl⟩⟩⟩⟩)
  exact this.mono fun e w' h => ⟨h.1, h.2.below⟩
end Go.Proofs.YtkaghdcbemccbaaDoor.lowerTableq
