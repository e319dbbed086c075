/-
  The law EnumValues at all of its cases. Conditions: none but those that the theorems print.
-/
import Derived.Test.YtjokgahohllknaaGreatDoorEnumValuesB
import Derived.Test.YtjokgahohllknaaGreatDoorEnumValuesC
import Derived.WalkKit
import Derived.ProofKit
namespace Go.Proofs.YtjokgahohllknaaGreatDoor.enumValuesq
open Go.Rn Go.RowKit YtjokgahohllknaaGreatDoor.txt
theorem alls : ∀ k0, k0 < 4 → ∀ k1, k1 < 5 → run k0 k1 = .yes
  | 0, _, 0, _ => c0_0
  | 0, _, 1, _ => c0_1
  | 0, _, 2, _ => c0_2
  | 0, _, 3, _ => c0_3
  | 0, _, 4, _ => c0_4
  | 1, _, 0, _ => c1_0
  | 1, _, 1, _ => c1_1
  | 1, _, 2, _ => c1_2
  | 1, _, 3, _ => c1_3
  | 1, _, 4, _ => c1_4
  | 2, _, 0, _ => c2_0
  | 2, _, 1, _ => c2_1
  | 2, _, 2, _ => c2_2
  | 2, _, 3, _ => c2_3
  | 2, _, 4, _ => c2_4
  | 3, _, 0, _ => c3_0
  | 3, _, 1, _ => c3_1
  | 3, _, 2, _ => c3_2
  | 3, _, 3, _ => c3_3
  | 3, _, 4, _ => c3_4
  | k + 4, h, _, _ => absurd h (by omega)
  | _, _, k + 5, h => absurd h (by omega)
/-- the table lies in its variable -/
def KT (w : World) : Prop := ∃ C el fr, w.heap[0]? = some (.cells C el fr) ∧ ∀ (j : Nat) (v : Value), kv[j]? = some v → C[j]? = some v
noncomputable def m0 (Z : Nat) : Mp := fun b => if b = 0 then some (0, 0, Z) else if b < Tryz.prog.globals.size then some (b, 0, 0) else none
theorem kch_ok {ρ : Nat → Int} {m : Mp} : denC ρ m kch kv := by
  unfold kch kv
  repeat (first | exact denC_nil.2 rfl | refine denC_cons.2 ⟨_, _, rfl, rfl, ?_⟩)
theorem kch_len : chLen kch = some 56 := by kernel_rfl
theorem kv_cells : ∀ v ∈ kv, Cell v := by
  intro v hv
  unfold kv at hv
  simp only [List.mem_cons, List.not_mem_nil, or_false] at hv
  rcases hv with rfl | rfl | rfl | rfl | rfl | rfl | rfl | rfl | rfl | rfl | rfl | rfl | rfl | rfl | rfl | rfl | rfl | rfl | rfl | rfl | rfl | rfl | rfl | rfl | rfl | rfl | rfl | rfl | rfl | rfl | rfl | rfl | rfl | rfl | rfl | rfl | rfl | rfl | rfl | rfl | rfl | rfl | rfl | rfl | rfl | rfl | rfl | rfl | rfl | rfl | rfl | rfl | rfl | rfl | rfl | rfl <;> rfl
theorem one_glob : 0 < Tryz.prog.globals.size := of_decide_eq_true (by kernel_rfl)
theorem kch_chain : chain kv = kch := by kernel_rfl
theorem kv_plain : ∀ v ∈ kv, PlainV v := by
  intro v hv
  unfold kv at hv
  simp only [List.mem_cons, List.not_mem_nil, or_false] at hv
  rcases hv with rfl | rfl | rfl | rfl | rfl | rfl | rfl | rfl | rfl | rfl | rfl | rfl | rfl | rfl | rfl | rfl | rfl | rfl | rfl | rfl | rfl | rfl | rfl | rfl | rfl | rfl | rfl | rfl | rfl | rfl | rfl | rfl | rfl | rfl | rfl | rfl | rfl | rfl | rfl | rfl | rfl | rfl | rfl | rfl | rfl | rfl | rfl | rfl | rfl | rfl | rfl | rfl | rfl | rfl | rfl | rfl <;> trivial
theorem awake_ok (w : World) (hK : KT w) : Calls Tryz.prog 8 #[] w fun e w' => e = .returned (.bool true) ∧ Old w w' := by
  obtain ⟨C, el, fr, hB, hv⟩ := hK
  have hg := globs
  have h1 := one_glob
  have s : Sim Tryz.prog (fun _ => 0) (m0 C.size) 100 (hst he (.bk (lay kch ce 0) 56) 0) w := sim_one hB kch_len kch_ok kv_cells hv (by unfold m0; rw [if_pos rfl]) (by omega) (by decide)
  exact law_laid (ρ := fun _ => 0) no_ys (inL_ok fsL_ok) none_ok (kc := noKc) (fun _ _ _ h => by cases h) (n := 100) (g := 100) (m0 := m0 C.size) (Nat.le_refl _) (fun b c z hb => by
    rcases hg_hst he (.bk (lay kch ce 0) 56) 0 b with ⟨q, _⟩ | ⟨_, q⟩
    · omega
    · rw [q, hg_he] at hb; cases hb) s (fun b hb => by
    by_cases hb0 : b = 0
    · subst hb0; exact ⟨C.size, by unfold m0; rw [if_pos rfl]⟩
    · exact ⟨0, by unfold m0; rw [if_neg hb0, if_pos hb]⟩) (fun b hb => by unfold m0; rw [if_neg (by omega), if_neg (by omega)]) (quick_laid awake_run) (vs := []) (denC_nil.2 rfl)
theorem awake_kc {ρ : Nat → Int} : ∀ f c q, tabO 8 56 kch f c = some q → KcOk Tryz.prog ρ (tabO 8 56 kch) :=
  tabO_ok one_glob knownA fun m w us C el fr hw hu hc => awake_ok w ⟨C, el, fr, hw, fun j v hj => by
    rw [← kch_chain] at hu
    rw [chain_den kv_plain hu] at hc
    exact hc j v hj⟩
theorem walk (a0 : Int) (a1 : Int) (w : World) (hK : KT w) :
    Calls Tryz.prog 4 #[.int .i64 a0, .int .i64 a1] w fun e w' => e = .returned (.bool true) ∧ Below w.heap.size w w' := by
  obtain ⟨C, el, fr, hB, hv⟩ := hK
  have hk0 : (a0 % 4).toNat < 4 := by omega
  have ek0 : ((a0 % 4).toNat : Int) = a0 % 4 := by omega
  generalize (a0 % 4).toNat = k0 at hk0 ek0
  have hk1 : (a1 % 5).toNat < 5 := by omega
  have ek1 : ((a1 % 5).toNat : Int) = a1 % 5 := by omega
  generalize (a1 % 5).toNat = k1 at hk1 ek1
  have ho : OrcOk Tryz.prog (fun x => if x = 0 then a0 else if x = 1 then a1 else 0) (orc k0 k1) := place_ok knownP (fun n k w h1 h2 => place_any n k w h1 h2) (fun e he h0 => by
    simp only [tab, List.mem_cons, List.not_mem_nil, or_false] at he
    rcases he with rfl | rfl
    · exact ⟨by show 4 ≤ 1000000; omega, by simpa using ek0.symm⟩
    · exact ⟨by show 5 ≤ 1000000; omega, by simpa using ek1.symm⟩)
  have hy : YsOk (fun x => if x = 0 then a0 else if x = 1 then a1 else 0) (ysR []) := ysR_ok (fun e he => by
    simp at he)
  have hg := globs
  have h1 := one_glob
  have s : Sim Tryz.prog (fun x => if x = 0 then a0 else if x = 1 then a1 else 0) (m0 C.size) 100 (hst he (.bk (lay kch ce 0) 56) 0) w := sim_one hB kch_len kch_ok kv_cells hv (by unfold m0; rw [if_pos rfl]) (by omega) (by decide)
  have := law_laid hy (inL_ok fsL_ok) ho awake_kc (n := 100) (g := 100) (m0 := m0 C.size) (Nat.le_refl _) (fun b c z hb => by
    rcases hg_hst he (.bk (lay kch ce 0) 56) 0 b with ⟨q, _⟩ | ⟨_, q⟩
    · omega
    · rw [q, hg_he] at hb; cases hb) s (fun b hb => by
    by_cases hb0 : b = 0
    · subst hb0; exact ⟨C.size, by unfold m0; rw [if_pos rfl]⟩
    · exact ⟨0, by unfold m0; rw [if_neg hb0, if_pos hb]⟩) (fun b hb => by unfold m0; rw [if_neg (by omega), if_neg (by omega)]) (quick_laid (alls k0 hk0 k1 hk1)) (vs := [.int .i64 a0, .int .i64 a1]) (denC_cons.2 ⟨_, _, rfl, rfl, denC_cons.2 ⟨_, _, rfl, rfl, denC_nil.2 rfl⟩⟩)
  exact this.mono fun e w' h => ⟨h.1, h.2.below⟩
end Go.Proofs.YtjokgahohllknaaGreatDoor.enumValuesq
