/-
  The law GenCounts at all of its cases. Conditions: none but those that the theorems print.
-/
import Derived.Test.YtendogjdmabknaaGreatDoorGenCountsB
import Derived.Test.YtendogjdmabknaaGreatDoorGenCountsC
import Derived.Test.YtendogjdmabknaaGreatDoorGenCountsD
import Derived.Test.YtendogjdmabknaaGreatDoorGenCountsE
import Derived.WalkKit
import Derived.ProofKit
namespace Go.Proofs.YtendogjdmabknaaGreatDoor.genCountsq
open Go.Rn Go.RowKit YtendogjdmabknaaGreatDoor.txt
theorem all_0_0 : ∀ k2, k2 < 1 → run 0 0 k2 = .yes
  | 0, _ => c0_0_0
  | k + 1, h => absurd h (by omega)
theorem all_0_1 : ∀ k2, k2 < 1 → run 0 1 k2 = .yes
  | 0, _ => c0_1_0
  | k + 1, h => absurd h (by omega)
theorem all_0_2 : ∀ k2, k2 < 1 → run 0 2 k2 = .yes
  | 0, _ => c0_2_0
  | k + 1, h => absurd h (by omega)
theorem all_0_3 : ∀ k2, k2 < 1 → run 0 3 k2 = .yes
  | 0, _ => c0_3_0
  | k + 1, h => absurd h (by omega)
theorem all_0_4 : ∀ k2, k2 < 1 → run 0 4 k2 = .yes
  | 0, _ => c0_4_0
  | k + 1, h => absurd h (by omega)
theorem all_0_5 : ∀ k2, k2 < 1 → run 0 5 k2 = .yes
  | 0, _ => c0_5_0
  | k + 1, h => absurd h (by omega)
theorem all_0_6 : ∀ k2, k2 < 1 → run 0 6 k2 = .yes
  | 0, _ => c0_6_0
  | k + 1, h => absurd h (by omega)
theorem all_0_7 : ∀ k2, k2 < 1 → run 0 7 k2 = .yes
  | 0, _ => c0_7_0
  | k + 1, h => absurd h (by omega)
theorem all_0_8 : ∀ k2, k2 < 1 → run 0 8 k2 = .yes
  | 0, _ => c0_8_0
  | k + 1, h => absurd h (by omega)
theorem all_0 : ∀ k1, k1 < 9 → ∀ k2, k2 < 1 → run 0 k1 k2 = .yes
  | 0, _ => all_0_0
  | 1, _ => all_0_1
  | 2, _ => all_0_2
  | 3, _ => all_0_3
  | 4, _ => all_0_4
  | 5, _ => all_0_5
  | 6, _ => all_0_6
  | 7, _ => all_0_7
  | 8, _ => all_0_8
  | k + 9, h => absurd h (by omega)
theorem all_1_0 : ∀ k2, k2 < 2 → run 1 0 k2 = .yes
  | 0, _ => c1_0_0
  | 1, _ => c1_0_1
  | k + 2, h => absurd h (by omega)
theorem all_1_1 : ∀ k2, k2 < 2 → run 1 1 k2 = .yes
  | 0, _ => c1_1_0
  | 1, _ => c1_1_1
  | k + 2, h => absurd h (by omega)
theorem all_1_2 : ∀ k2, k2 < 2 → run 1 2 k2 = .yes
  | 0, _ => c1_2_0
  | 1, _ => c1_2_1
  | k + 2, h => absurd h (by omega)
theorem all_1_3 : ∀ k2, k2 < 2 → run 1 3 k2 = .yes
  | 0, _ => c1_3_0
  | 1, _ => c1_3_1
  | k + 2, h => absurd h (by omega)
theorem all_1_4 : ∀ k2, k2 < 2 → run 1 4 k2 = .yes
  | 0, _ => c1_4_0
  | 1, _ => c1_4_1
  | k + 2, h => absurd h (by omega)
theorem all_1_5 : ∀ k2, k2 < 2 → run 1 5 k2 = .yes
  | 0, _ => c1_5_0
  | 1, _ => c1_5_1
  | k + 2, h => absurd h (by omega)
theorem all_1_6 : ∀ k2, k2 < 2 → run 1 6 k2 = .yes
  | 0, _ => c1_6_0
  | 1, _ => c1_6_1
  | k + 2, h => absurd h (by omega)
theorem all_1_7 : ∀ k2, k2 < 2 → run 1 7 k2 = .yes
  | 0, _ => c1_7_0
  | 1, _ => c1_7_1
  | k + 2, h => absurd h (by omega)
theorem all_1_8 : ∀ k2, k2 < 2 → run 1 8 k2 = .yes
  | 0, _ => c1_8_0
  | 1, _ => c1_8_1
  | k + 2, h => absurd h (by omega)
theorem all_1 : ∀ k1, k1 < 9 → ∀ k2, k2 < 2 → run 1 k1 k2 = .yes
  | 0, _ => all_1_0
  | 1, _ => all_1_1
  | 2, _ => all_1_2
  | 3, _ => all_1_3
  | 4, _ => all_1_4
  | 5, _ => all_1_5
  | 6, _ => all_1_6
  | 7, _ => all_1_7
  | 8, _ => all_1_8
  | k + 9, h => absurd h (by omega)
theorem all_2_0 : ∀ k2, k2 < 3 → run 2 0 k2 = .yes
  | 0, _ => c2_0_0
  | 1, _ => c2_0_1
  | 2, _ => c2_0_2
  | k + 3, h => absurd h (by omega)
theorem all_2_1 : ∀ k2, k2 < 3 → run 2 1 k2 = .yes
  | 0, _ => c2_1_0
  | 1, _ => c2_1_1
  | 2, _ => c2_1_2
  | k + 3, h => absurd h (by omega)
theorem all_2_2 : ∀ k2, k2 < 3 → run 2 2 k2 = .yes
  | 0, _ => c2_2_0
  | 1, _ => c2_2_1
  | 2, _ => c2_2_2
  | k + 3, h => absurd h (by omega)
theorem all_2_3 : ∀ k2, k2 < 3 → run 2 3 k2 = .yes
  | 0, _ => c2_3_0
  | 1, _ => c2_3_1
  | 2, _ => c2_3_2
  | k + 3, h => absurd h (by omega)
theorem all_2_4 : ∀ k2, k2 < 3 → run 2 4 k2 = .yes
  | 0, _ => c2_4_0
  | 1, _ => c2_4_1
  | 2, _ => c2_4_2
  | k + 3, h => absurd h (by omega)
theorem all_2_5 : ∀ k2, k2 < 3 → run 2 5 k2 = .yes
  | 0, _ => c2_5_0
  | 1, _ => c2_5_1
  | 2, _ => c2_5_2
  | k + 3, h => absurd h (by omega)
theorem all_2_6 : ∀ k2, k2 < 3 → run 2 6 k2 = .yes
  | 0, _ => c2_6_0
  | 1, _ => c2_6_1
  | 2, _ => c2_6_2
  | k + 3, h => absurd h (by omega)
theorem all_2_7 : ∀ k2, k2 < 3 → run 2 7 k2 = .yes
  | 0, _ => c2_7_0
  | 1, _ => c2_7_1
  | 2, _ => c2_7_2
  | k + 3, h => absurd h (by omega)
theorem all_2_8 : ∀ k2, k2 < 3 → run 2 8 k2 = .yes
  | 0, _ => c2_8_0
  | 1, _ => c2_8_1
  | 2, _ => c2_8_2
  | k + 3, h => absurd h (by omega)
theorem all_2 : ∀ k1, k1 < 9 → ∀ k2, k2 < 3 → run 2 k1 k2 = .yes
  | 0, _ => all_2_0
  | 1, _ => all_2_1
  | 2, _ => all_2_2
  | 3, _ => all_2_3
  | 4, _ => all_2_4
  | 5, _ => all_2_5
  | 6, _ => all_2_6
  | 7, _ => all_2_7
  | 8, _ => all_2_8
  | k + 9, h => absurd h (by omega)
theorem all_3_0 : ∀ k2, k2 < 4 → run 3 0 k2 = .yes
  | 0, _ => c3_0_0
  | 1, _ => c3_0_1
  | 2, _ => c3_0_2
  | 3, _ => c3_0_3
  | k + 4, h => absurd h (by omega)
theorem all_3_1 : ∀ k2, k2 < 4 → run 3 1 k2 = .yes
  | 0, _ => c3_1_0
  | 1, _ => c3_1_1
  | 2, _ => c3_1_2
  | 3, _ => c3_1_3
  | k + 4, h => absurd h (by omega)
theorem all_3_2 : ∀ k2, k2 < 4 → run 3 2 k2 = .yes
  | 0, _ => c3_2_0
  | 1, _ => c3_2_1
  | 2, _ => c3_2_2
  | 3, _ => c3_2_3
  | k + 4, h => absurd h (by omega)
theorem all_3_3 : ∀ k2, k2 < 4 → run 3 3 k2 = .yes
  | 0, _ => c3_3_0
  | 1, _ => c3_3_1
  | 2, _ => c3_3_2
  | 3, _ => c3_3_3
  | k + 4, h => absurd h (by omega)
theorem all_3_4 : ∀ k2, k2 < 4 → run 3 4 k2 = .yes
  | 0, _ => c3_4_0
  | 1, _ => c3_4_1
  | 2, _ => c3_4_2
  | 3, _ => c3_4_3
  | k + 4, h => absurd h (by omega)
theorem all_3_5 : ∀ k2, k2 < 4 → run 3 5 k2 = .yes
  | 0, _ => c3_5_0
  | 1, _ => c3_5_1
  | 2, _ => c3_5_2
  | 3, _ => c3_5_3
  | k + 4, h => absurd h (by omega)
theorem all_3_6 : ∀ k2, k2 < 4 → run 3 6 k2 = .yes
  | 0, _ => c3_6_0
  | 1, _ => c3_6_1
  | 2, _ => c3_6_2
  | 3, _ => c3_6_3
  | k + 4, h => absurd h (by omega)
theorem all_3_7 : ∀ k2, k2 < 4 → run 3 7 k2 = .yes
  | 0, _ => c3_7_0
  | 1, _ => c3_7_1
  | 2, _ => c3_7_2
  | 3, _ => c3_7_3
  | k + 4, h => absurd h (by omega)
theorem all_3_8 : ∀ k2, k2 < 4 → run 3 8 k2 = .yes
  | 0, _ => c3_8_0
  | 1, _ => c3_8_1
  | 2, _ => c3_8_2
  | 3, _ => c3_8_3
  | k + 4, h => absurd h (by omega)
theorem all_3 : ∀ k1, k1 < 9 → ∀ k2, k2 < 4 → run 3 k1 k2 = .yes
  | 0, _ => all_3_0
  | 1, _ => all_3_1
  | 2, _ => all_3_2
  | 3, _ => all_3_3
  | 4, _ => all_3_4
  | 5, _ => all_3_5
  | 6, _ => all_3_6
  | 7, _ => all_3_7
  | 8, _ => all_3_8
  | k + 9, h => absurd h (by omega)
theorem alls : ∀ k0, k0 < 4 → ∀ k1, k1 < 9 → ∀ k2, k2 < k0+1 → run k0 k1 k2 = .yes
  | 0, _ => all_0
  | 1, _ => all_1
  | 2, _ => all_2
  | 3, _ => all_3
  | k + 4, h => absurd h (by omega)
/-- the table lies in its variable -/
def KT (w : World) : Prop := ∃ C el fr, w.heap[0]? = some (.cells C el fr) ∧ ∀ (j : Nat) (v : Value), kv[j]? = some v → C[j]? = some v
noncomputable def m0 (Z : Nat) : Mp := fun b => if b = 0 then some (0, 0, Z) else if b < Tryz.prog.globals.size then some (b, 0, 0) else none
theorem kch_ok {ρ : Nat → Int} {m : Mp} : denC ρ m kch kv := by
  unfold kch kv
  repeat (first | exact denC_nil.2 rfl | refine denC_cons.2 ⟨_, _, rfl, rfl, ?_⟩)
theorem kch_len : chLen kch = some 56 := by kernel_rfl
theorem kv_cells : ∀ v ∈ kv, Cell v := by
  intro v hv
  unfold kv at hv
  simp only [List.mem_cons, List.not_mem_nil, or_false] at hv
  rcases hv with rfl | rfl | rfl | rfl | rfl | rfl | rfl | rfl | rfl | rfl | rfl | rfl | rfl | rfl | rfl | rfl | rfl | rfl | rfl | rfl | rfl | rfl | rfl | rfl | rfl | rfl | rfl | rfl | rfl | rfl | rfl | rfl | rfl | rfl | rfl | rfl | rfl | rfl | rfl | rfl | rfl | rfl | rfl | rfl | rfl | rfl | rfl | rfl | rfl | rfl | rfl | rfl | rfl | rfl | rfl | rfl <;> rfl
theorem one_glob : 0 < Tryz.prog.globals.size := of_decide_eq_true (by kernel_rfl)
theorem kch_chain : chain kv = kch := by kernel_rfl
theorem kv_plain : ∀ v ∈ kv, PlainV v := by
  intro v hv
  unfold kv at hv
  simp only [List.mem_cons, List.not_mem_nil, or_false] at hv
  rcases hv with rfl | rfl | rfl | rfl | rfl | rfl | rfl | rfl | rfl | rfl | rfl | rfl | rfl | rfl | rfl | rfl | rfl | rfl | rfl | rfl | rfl | rfl | rfl | rfl | rfl | rfl | rfl | rfl | rfl | rfl | rfl | rfl | rfl | rfl | rfl | rfl | rfl | rfl | rfl | rfl | rfl | rfl | rfl | rfl | rfl | rfl | rfl | rfl | rfl | rfl | rfl | rfl | rfl | rfl | rfl | rfl <;> trivial
theorem awake_ok (w : World) (hK : KT w) : Calls Tryz.prog 11 #[] w fun e w' => e = .returned (.bool true) ∧ Old w w' := by
  obtain ⟨C, el, fr, hB, hv⟩ := hK
  have hg := globs
  have h1 := one_glob
  have s : Sim Tryz.prog (fun _ => 0) (m0 C.size) 100 (hst he (.bk (lay kch ce 0) 56) 0) w := sim_one hB kch_len kch_ok kv_cells hv (by unfold m0; rw [if_pos rfl]) (by omega) (by decide)
  exact law_laid (ρ := fun _ => 0) no_ys (inL_ok fsL_ok) none_ok (kc := noKc) (fun _ _ _ h => by cases h) (n := 100) (g := 100) (m0 := m0 C.size) (Nat.le_refl _) (fun b c z hb => by
    rcases hg_hst he (.bk (lay kch ce 0) 56) 0 b with ⟨q, _⟩ | ⟨_, q⟩
    · omega
    · rw [q, hg_he] at hb; cases hb) s (fun b hb => by
    by_cases hb0 : b = 0
    · subst hb0; exact ⟨C.size, by unfold m0; rw [if_pos rfl]⟩
    · exact ⟨0, by unfold m0; rw [if_neg hb0, if_pos hb]⟩) (fun b hb => by unfold m0; rw [if_neg (by omega), if_neg (by omega)]) (quick_laid awake_run) (vs := []) (denC_nil.2 rfl)
theorem awake_kc {ρ : Nat → Int} : ∀ f c q, tabO 11 56 kch f c = some q → KcOk Tryz.prog ρ (tabO 11 56 kch) :=
  tabO_ok one_glob knownA fun m w us C el fr hw hu hc => awake_ok w ⟨C, el, fr, hw, fun j v hj => by
    rw [← kch_chain] at hu
    rw [chain_den kv_plain hu] at hc
    exact hc j v hj⟩
theorem walk (a0 : Int) (a1 : Int) (a2 : Int) (w : World) (hK : KT w) :
    Calls Tryz.prog 3 #[.int .i64 a0, .int .i64 a1, .int .i64 a2] w fun e w' => e = .returned (.bool true) ∧ Below w.heap.size w w' := by
  obtain ⟨C, el, fr, hB, hv⟩ := hK
  have hk0 : (a0 % 4).toNat < 4 := by omega
  have ek0 : ((a0 % 4).toNat : Int) = a0 % 4 := by omega
  generalize (a0 % 4).toNat = k0 at hk0 ek0
  have hk1 : (a1 % 9).toNat < 9 := by omega
  have ek1 : ((a1 % 9).toNat : Int) = a1 % 9 := by omega
  generalize (a1 % 9).toNat = k1 at hk1 ek1
  have pk2 : (0 : Int) < ((k0+1 : Nat) : Int) := by omega
  have qk2 := Int.emod_lt_of_pos a2 pk2
  have rk2 := Int.emod_nonneg a2 (show ((k0+1 : Nat) : Int) ≠ 0 by omega)
  have hk2 : (a2 % ((k0+1 : Nat) : Int)).toNat < k0+1 := by omega
  have ek2 : ((a2 % ((k0+1 : Nat) : Int)).toNat : Int) = a2 % ((k0+1 : Nat) : Int) := by omega
  clear qk2 rk2 pk2
  generalize (a2 % ((k0+1 : Nat) : Int)).toNat = k2 at hk2 ek2
  have ho : OrcOk Tryz.prog (fun x => if x = 0 then a0 else if x = 1 then a1 else if x = 2 then a2 else 0) (orc k0 k1 k2) := place_ok knownP (fun n k w h1 h2 => place_any n k w h1 h2) (fun e he h0 => by
    simp only [tab, List.mem_cons, List.not_mem_nil, or_false] at he
    rcases he with rfl | rfl | rfl
    · exact ⟨by show 4 ≤ 1000000; omega, by simpa using ek0.symm⟩
    · exact ⟨by show 9 ≤ 1000000; omega, by simpa using ek1.symm⟩
    · exact ⟨by show k0+1 ≤ 1000000; omega, ek2.symm⟩)
  have hy : YsOk (fun x => if x = 0 then a0 else if x = 1 then a1 else if x = 2 then a2 else 0) (ysR []) := ysR_ok (fun e he => by
    simp at he)
  have hg := globs
  have h1 := one_glob
  have s : Sim Tryz.prog (fun x => if x = 0 then a0 else if x = 1 then a1 else if x = 2 then a2 else 0) (m0 C.size) 100 (hst he (.bk (lay kch ce 0) 56) 0) w := sim_one hB kch_len kch_ok kv_cells hv (by unfold m0; rw [if_pos rfl]) (by omega) (by decide)
  have := law_laid hy (inL_ok fsL_ok) ho awake_kc (n := 100) (g := 100) (m0 := m0 C.size) (Nat.le_refl _) (fun b c z hb => by
    rcases hg_hst he (.bk (lay kch ce 0) 56) 0 b with ⟨q, _⟩ | ⟨_, q⟩
    · omega
    · rw [q, hg_he] at hb; cases hb) s (fun b hb => by
    by_cases hb0 : b = 0
    · subst hb0; exact ⟨C.size, by unfold m0; rw [if_pos rfl]⟩
    · exact ⟨0, by unfold m0; rw [if_neg hb0, if_pos hb]⟩) (fun b hb => by unfold m0; rw [if_neg (by omega), if_neg (by omega)]) (quick_laid (alls k0 hk0 k1 hk1 k2 hk2)) (vs := [.int .i64 a0, .int .i64 a1, .int .i64 a2]) (denC_cons.2 ⟨_, _, rfl, rfl, denC_cons.2 ⟨_, _, rfl, rfl, denC_cons.2 ⟨_, _, rfl, rfl, denC_nil.2 rfl⟩⟩⟩)
  exact this.mono fun e w' h => ⟨h.1, h.2.below⟩
end Go.Proofs.YtendogjdmabknaaGreatDoor.genCountsq
