/-
  One text of a symbolic evaluator over the model, shown sound once for every program: no statement is claimed here.
-/
import Derived.Test.YtjohpnkpnfbedaaDoorRnZe
import Derived.Test.YtjohpnkpnfbedaaDoorProg
import Derived.WalkKit
import Derived.ProofKit
import Derived.Lib.Hide
namespace Go.Proofs.YtjohpnkpnfbedaaDoor.sbd
open Go.Rn Go.RowKit
noncomputable def kch : RV := .cons (.i .i64 0) (.cons (.i .i64 0) (.cons (.b false) (.cons (.b false) (.cons (.b false) (.cons (.i .i64 0) (.cons (.b false) (.cons (.i .i64 0) (.cons (.i .i64 3) (.cons (.i .i64 1) (.cons (.b true) (.cons (.b true) (.cons (.b false) (.cons (.i .i64 0) (.cons (.b false) (.cons (.i .i64 1) (.cons (.i .i64 5) (.cons (.i .i64 1) (.cons (.b false) (.cons (.b true) (.cons (.b false) (.cons (.i .i64 9) (.cons (.b false) (.cons (.i .i64 1) (.cons (.i .i64 30) (.cons (.i .i64 1) (.cons (.b false) (.cons (.b false) (.cons (.b false) (.cons (.i .i64 0) (.cons (.b false) (.cons (.i .i64 1) (.cons (.i .i64 3) (.cons (.i .i64 5) (.cons (.b true) (.cons (.b true) (.cons (.b false) (.cons (.i .i64 7) (.cons (.b true) (.cons (.i .i64 2) (.cons (.i .i64 1) (.cons (.i .i64 1) (.cons (.b true) (.cons (.b false) (.cons (.b false) (.cons (.i .i64 9) (.cons (.b false) (.cons (.i .i64 0) (.cons (.i .i64 1) (.cons (.i .i64 1) (.cons (.b false) (.cons (.b false) (.cons (.b true) (.cons (.i .i64 9) (.cons (.b false) (.cons (.i .i64 0) (.nil))))))))))))))))))))))))))))))))))))))))))))))))))))))))
noncomputable def kv : List Value := [.int .i64 0, .int .i64 0, .bool false, .bool false, .bool false, .int .i64 0, .bool false, .int .i64 0, .int .i64 3, .int .i64 1, .bool true, .bool true, .bool false, .int .i64 0, .bool false, .int .i64 1, .int .i64 5, .int .i64 1, .bool false, .bool true, .bool false, .int .i64 9, .bool false, .int .i64 1, .int .i64 30, .int .i64 1, .bool false, .bool false, .bool false, .int .i64 0, .bool false, .int .i64 1, .int .i64 3, .int .i64 5, .bool true, .bool true, .bool false, .int .i64 7, .bool true, .int .i64 2, .int .i64 1, .int .i64 1, .bool true, .bool false, .bool false, .int .i64 9, .bool false, .int .i64 0, .int .i64 1, .int .i64 1, .bool false, .bool false, .bool true, .int .i64 9, .bool false, .int .i64 0]
noncomputable def h0 : HT := hst he (.bk (lay kch ce 0) 56) 0
noncomputable def tab (k t : Nat) : List (Nat × Nat × Nat) := [(1, 3, k), (0, 4, t)]
noncomputable def run (k t : Nat) : SR := callX (fun _ _ _ => none) (fun f => compF Tryd.prog f) (placeO 5 (tab k t)) 60 3 (.cons (.y .i64 (.v 0)) (.cons (.y .i64 (.v 1)) .nil)) 100 h0 100
theorem globs : Tryd.prog.globals.size ≤ 100 := of_decide_eq_true (by kernel_rfl)
theorem knownP : known Tryd.prog 5 = true := by kernel_rfl
theorem c0_0 : isB (run 0 0) = true := by kernel_rfl
theorem c0_1 : isB (run 0 1) = true := by kernel_rfl
theorem c0_2 : isB (run 0 2) = true := by kernel_rfl
theorem c0_3 : isB (run 0 3) = true := by kernel_rfl
theorem c1_0 : isB (run 1 0) = true := by kernel_rfl
theorem c1_1 : isB (run 1 1) = true := by kernel_rfl
theorem c1_2 : isB (run 1 2) = true := by kernel_rfl
theorem c1_3 : isB (run 1 3) = true := by kernel_rfl
theorem c2_0 : isB (run 2 0) = true := by kernel_rfl
theorem c2_1 : isB (run 2 1) = true := by kernel_rfl
theorem c2_2 : isB (run 2 2) = true := by kernel_rfl
theorem c2_3 : isB (run 2 3) = true := by kernel_rfl
theorem alls : ∀ k, k < 3 → ∀ t, t < 4 → isB (run k t) = true
  | 0, _, 0, _ => c0_0
  | 0, _, 1, _ => c0_1
  | 0, _, 2, _ => c0_2
  | 0, _, 3, _ => c0_3
  | 1, _, 0, _ => c1_0
  | 1, _, 1, _ => c1_1
  | 1, _, 2, _ => c1_2
  | 1, _, 3, _ => c1_3
  | 2, _, 0, _ => c2_0
  | 2, _, 1, _ => c2_1
  | 2, _, 2, _ => c2_2
  | 2, _, 3, _ => c2_3
  | k + 3, h, _, _ => absurd h (by omega)
  | _, _, t + 4, h => absurd h (by omega)
set_option maxRecDepth 100000 in
set_option maxHeartbeats 400000 in
theorem place_any (n : Int) (k : Nat) (w : World) (hk : 0 < k) (hk2 : k ≤ 1000000) :
    Calls Tryd.prog 5 #[.int .i64 n, .int .i64 k] w fun e w' => e = .returned (.int .i64 (n % k)) ∧ w = w' := by
  by_cases hz : n.tmod k < 0
  · have HM := Lib.hid (place_neg n k hk hz)
    have hlow : -(k : Int) < n.tmod k := by
      have := HM.out
      have h1 := Int.emod_nonneg n (show (k : Int) ≠ 0 by omega)
      by_cases he : n % (k : Int) = 0
      · have h0 : n.tmod k = 0 := Int.tmod_eq_zero_of_dvd (Int.dvd_of_emod_eq_zero he)
        omega
      · omega
    go_enter Tryd.func5, Tryd.ntmps5
    go_wp2_with fail
    go_ret
    exact ⟨by rw [← HM.out]; rfl, rfl⟩
  · have HM := Lib.hid (place_pos n k hk hz)
    go_enter Tryd.func5, Tryd.ntmps5
    go_wp2_with fail
    go_ret
    exact ⟨by rw [← HM.out]; rfl, rfl⟩
/-- the table of kinds lies in its variable -/
def KT (w : World) : Prop := ∃ C el fr, w.heap[0]? = some (.cells C el fr) ∧ ∀ (j : Nat) (v : Value), kv[j]? = some v → C[j]? = some v
noncomputable def m0 (Z : Nat) : Mp := fun b => if b = 0 then some (0, 0, Z) else if b < Tryd.prog.globals.size then some (b, 0, 0) else none
theorem kch_ok {ρ : Nat → Int} {m : Mp} : denC ρ m kch kv := by
  unfold kch kv
  repeat (first | exact denC_nil.2 rfl | refine denC_cons.2 ⟨_, _, rfl, rfl, ?_⟩)
theorem kch_len : chLen kch = some 56 := by kernel_rfl
theorem kv_cells : ∀ v ∈ kv, Cell v := by
  intro v hv
  unfold kv at hv
  simp only [List.mem_cons, List.not_mem_nil, or_false] at hv
  rcases hv with rfl | rfl | rfl | rfl | rfl | rfl | rfl | rfl | rfl | rfl | rfl | rfl | rfl | rfl | rfl | rfl | rfl | rfl | rfl | rfl | rfl | rfl | rfl | rfl | rfl | rfl | rfl | rfl | rfl | rfl | rfl | rfl | rfl | rfl | rfl | rfl | rfl | rfl | rfl | rfl | rfl | rfl | rfl | rfl | rfl | rfl | rfl | rfl | rfl | rfl | rfl | rfl | rfl | rfl | rfl | rfl <;> rfl
theorem one_glob : 0 < Tryd.prog.globals.size := of_decide_eq_true (by kernel_rfl)
theorem walk (a0 : Int) (a1 : Int) (w : World) (hK : KT w) :
    Calls Tryd.prog 3 #[.int .i64 a0, .int .i64 a1] w fun e w' => e = .returned (.bool true) ∧ Below w.heap.size w w' := by
  obtain ⟨C, el, fr, hB, hv⟩ := hK
  have hk : (a1 % 3).toNat < 3 := by omega
  have hk2 : ((a1 % 3).toNat : Int) = a1 % 3 := by omega
  generalize (a1 % 3).toNat = k at hk hk2
  have ht : (a0 % 4).toNat < 4 := by omega
  have ht2 : ((a0 % 4).toNat : Int) = a0 % 4 := by omega
  generalize (a0 % 4).toNat = t at ht ht2
  have ho : OrcOk Tryd.prog (fun x => if x = 0 then a0 else a1) (placeO 5 (tab k t)) := place_ok knownP (fun n k w h1 h2 => place_any n k w h1 h2) (fun e he h0 => by
    simp only [tab, List.mem_cons, List.not_mem_nil, or_false] at he
    rcases he with rfl | rfl
    · exact ⟨by show 3 ≤ 1000000; omega, by simpa using hk2.symm⟩
    · exact ⟨by show 4 ≤ 1000000; omega, by simpa using ht2.symm⟩)
  have hg := globs
  have h1 := one_glob
  have s : Sim (fun x => if x = 0 then a0 else a1) (m0 C.size) 100 h0 w := sim_one hB kch_len kch_ok kv_cells hv (by unfold m0; rw [if_pos rfl]) (by omega)
  have := law_from ho (n := 100) (g := 100) (m0 := m0 C.size) (Nat.le_refl _) (fun b c z hb => by
    rcases hg_hst he (.bk (lay kch ce 0) 56) 0 b with ⟨q, _⟩ | ⟨_, q⟩
    · omega
    · unfold h0 at hb; rw [q, hg_he] at hb; cases hb) s (fun b hb => by
    by_cases hb0 : b = 0
    · subst hb0; exact ⟨C.size, by unfold m0; rw [if_pos rfl]⟩
    · exact ⟨0, by unfold m0; rw [if_neg hb0, if_pos hb]⟩) (fun b hb => by unfold m0; rw [if_neg (by omega), if_neg (by omega)]) (alls k hk t ht) (vs := [.int .i64 a0, .int .i64 a1]) (denC_cons.2 ⟨_, _, rfl, rfl, denC_cons.2 ⟨_, _, rfl, rfl, denC_nil.2 rfl⟩⟩)
  exact this.mono fun e w' h => ⟨h.1, h.2.below⟩
end Go.Proofs.YtjohpnkpnfbedaaDoor.sbd
