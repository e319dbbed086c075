/-
  The law PowerWrites at all of its cases. Conditions: none but those that the theorems print.
-/
import Derived.Test.YtjhknkpkihpknaaDoorPowerWritesB
import Derived.Test.YtjhknkpkihpknaaDoorPowerWritesC
import Derived.WalkKit
import Derived.ProofKit
namespace Go.Proofs.YtjhknkpkihpknaaDoor.powerWritesq
open Go.Rn Go.RowKit YtjhknkpkihpknaaDoor.txt
theorem alls : ∀ b0 : Bool, ∀ b1 : Bool, ∀ b2 : Bool, run b0 b1 b2 = .yes
  | true, true, true => c_t_t_t
  | true, true, false => c_t_t_f
  | true, false, true => c_t_f_t
  | true, false, false => c_t_f_f
  | false, true, true => c_f_t_t
  | false, true, false => c_f_t_f
  | false, false, true => c_f_f_t
  | false, false, false => c_f_f_f
/-- the table lies in its variable -/
def KT (w : World) : Prop := ∃ C el fr, w.heap[0]? = some (.cells C el fr) ∧ ∀ (j : Nat) (v : Value), kv[j]? = some v → C[j]? = some v
noncomputable def m0 (Z : Nat) : Mp := fun b => if b = 0 then some (0, 0, Z) else if b < Tryd.prog.globals.size then some (b, 0, 0) else none
theorem kch_ok {ρ : Nat → Int} {m : Mp} : denC ρ m kch kv := by
  unfold kch kv
  repeat (first | exact denC_nil.2 rfl | refine denC_cons.2 ⟨_, _, rfl, rfl, ?_⟩)
theorem kch_len : chLen kch = some 64 := by kernel_rfl
theorem kv_cells : ∀ v ∈ kv, Cell v := by
  intro v hv
  unfold kv at hv
  simp only [List.mem_cons, List.not_mem_nil, or_false] at hv
  rcases hv with rfl | rfl | rfl | rfl | rfl | rfl | rfl | rfl | rfl | rfl | rfl | rfl | rfl | rfl | rfl | rfl | rfl | rfl | rfl | rfl | rfl | rfl | rfl | rfl | rfl | rfl | rfl | rfl | rfl | rfl | rfl | rfl | rfl | rfl | rfl | rfl | rfl | rfl | rfl | rfl | rfl | rfl | rfl | rfl | rfl | rfl | rfl | rfl | rfl | rfl | rfl | rfl | rfl | rfl | rfl | rfl | rfl | rfl | rfl | rfl | rfl | rfl | rfl | rfl <;> rfl
theorem one_glob : 0 < Tryd.prog.globals.size := of_decide_eq_true (by kernel_rfl)
theorem kch_chain : chain kv = kch := by kernel_rfl
theorem kv_plain : ∀ v ∈ kv, PlainV v := by
  intro v hv
  unfold kv at hv
  simp only [List.mem_cons, List.not_mem_nil, or_false] at hv
  rcases hv with rfl | rfl | rfl | rfl | rfl | rfl | rfl | rfl | rfl | rfl | rfl | rfl | rfl | rfl | rfl | rfl | rfl | rfl | rfl | rfl | rfl | rfl | rfl | rfl | rfl | rfl | rfl | rfl | rfl | rfl | rfl | rfl | rfl | rfl | rfl | rfl | rfl | rfl | rfl | rfl | rfl | rfl | rfl | rfl | rfl | rfl | rfl | rfl | rfl | rfl | rfl | rfl | rfl | rfl | rfl | rfl | rfl | rfl | rfl | rfl | rfl | rfl | rfl | rfl <;> trivial
theorem awake_ok (w : World) (hK : KT w) : Calls Tryd.prog 40 #[] w fun e w' => e = .returned (.bool true) ∧ Old w w' := by
  obtain ⟨C, el, fr, hB, hv⟩ := hK
  have hg := globs
  have h1 := one_glob
  have s : Sim (fun _ => 0) (m0 C.size) 100 (hst he (.bk (lay kch ce 0) 64) 0) w := sim_one hB kch_len kch_ok kv_cells hv (by unfold m0; rw [if_pos rfl]) (by omega) (by decide)
  exact law_laid (ρ := fun _ => 0) no_ys (inL_ok fsL_ok) none_ok (kc := noKc) (fun _ _ _ h => by cases h) (n := 100) (g := 100) (m0 := m0 C.size) (Nat.le_refl _) (fun b c z hb => by
    rcases hg_hst he (.bk (lay kch ce 0) 64) 0 b with ⟨q, _⟩ | ⟨_, q⟩
    · omega
    · rw [q, hg_he] at hb; cases hb) s (fun b hb => by
    by_cases hb0 : b = 0
    · subst hb0; exact ⟨C.size, by unfold m0; rw [if_pos rfl]⟩
    · exact ⟨0, by unfold m0; rw [if_neg hb0, if_pos hb]⟩) (fun b hb => by unfold m0; rw [if_neg (by omega), if_neg (by omega)]) (quick_laid awake_run) (vs := []) (denC_nil.2 rfl)
theorem awake_kc {ρ : Nat → Int} : ∀ f c q, tabO 40 64 kch f c = some q → KcOk Tryd.prog ρ (tabO 40 64 kch) :=
  tabO_ok one_glob knownA fun m w us C el fr hw hu hc => awake_ok w ⟨C, el, fr, hw, fun j v hj => by
    rw [← kch_chain] at hu
    rw [chain_den kv_plain hu] at hc
    exact hc j v hj⟩
theorem walk (b0 : Bool) (b1 : Bool) (b2 : Bool) (w : World) (hK : KT w) :
    Calls Tryd.prog 10 #[.bool b0, .bool b1, .bool b2] w fun e w' => e = .returned (.bool true) ∧ Below w.heap.size w w' := by
  obtain ⟨C, el, fr, hB, hv⟩ := hK
  have ho : OrcOk Tryd.prog (fun x => 0) (orc) := place_ok knownP (fun n k w h1 h2 => place_any n k w h1 h2) (fun e he h0 => by simp [tab] at he)
  have hy : YsOk (fun x => 0) (ysR []) := ysR_ok (fun e he => by
    simp at he)
  have hg := globs
  have h1 := one_glob
  have s : Sim (fun x => 0) (m0 C.size) 100 (hst he (.bk (lay kch ce 0) 64) 0) w := sim_one hB kch_len kch_ok kv_cells hv (by unfold m0; rw [if_pos rfl]) (by omega) (by decide)
  have := law_laid hy (inL_ok fsL_ok) ho awake_kc (n := 100) (g := 100) (m0 := m0 C.size) (Nat.le_refl _) (fun b c z hb => by
    rcases hg_hst he (.bk (lay kch ce 0) 64) 0 b with ⟨q, _⟩ | ⟨_, q⟩
    · omega
    · rw [q, hg_he] at hb; cases hb) s (fun b hb => by
    by_cases hb0 : b = 0
    · subst hb0; exact ⟨C.size, by unfold m0; rw [if_pos rfl]⟩
    · exact ⟨0, by unfold m0; rw [if_neg hb0, if_pos hb]⟩) (fun b hb => by unfold m0; rw [if_neg (by omega), if_neg (by omega)]) (quick_laid (alls b0 b1 b2)) (vs := [.bool b0, .bool b1, .bool b2]) (denC_cons.2 ⟨_, _, rfl, rfl, denC_cons.2 ⟨_, _, rfl, rfl, denC_cons.2 ⟨_, _, rfl, rfl, denC_nil.2 rfl⟩⟩⟩)
  exact this.mono fun e w' h => ⟨h.1, h.2.below⟩
end Go.Proofs.YtjhknkpkihpknaaDoor.powerWritesq
