/-
  The law TermMakes: what its cases come to, for every four numbers. Conditions: the numbers are those that an int holds, the table lies in its variable.
-/
import Derived.Test.YtphcmjojnfpkdaaDoorTermMakesP1
import Derived.Test.YtphcmjojnfpkdaaDoorTermMakesP2
namespace Go.Proofs.YtphcmjojnfpkdaaDoor.termMakesq
open Go.Rn Go.RowKit YtphcmjojnfpkdaaDoor.txt
theorem walk (a0 a1 a2 a3 : Int) (g0 : -9223372036854775808 ≤ a0 ∧ a0 ≤ 9223372036854775807) (g1 : -9223372036854775808 ≤ a1 ∧ a1 ≤ 9223372036854775807) (g2 : -9223372036854775808 ≤ a2 ∧ a2 ≤ 9223372036854775807) (g3 : -9223372036854775808 ≤ a3 ∧ a3 ≤ 9223372036854775807) (w : World) (hK : RowsV rows w) (hsz : sizeAt w 0 = 20) :
    Calls Tryd.prog 3 #[.int .i64 a0, .int .i64 a1, .int .i64 a2, .int .i64 a3] w fun e w' => e = .returned (.bool true) ∧ Below w.heap.size w w' := by
  obtain ⟨ρ, hρ⟩ : ∃ ρ : Nat → Int, ρ = (fun x => if x = 0 then a0 else if x = 1 then a1 else if x = 2 then a2 else if x = 3 then a3 else if x = 1000000 then 20 else 0) := ⟨_, rfl⟩
  have e0 : ρ 0 = a0 := by rw [hρ]; rfl
  have e1 : ρ 1 = a1 := by rw [hρ]; rfl
  have e2 : ρ 2 = a2 := by rw [hρ]; rfl
  have e3 : ρ 3 = a3 := by rw [hρ]; rfl
  have ex : ρ (1000000 + 0) = 20 := by rw [hρ]; rfl
  have hex : ∀ k, k < Tryd.prog.globals.size → 0 < ρ (1000000 + k) → (sizeAt w k : Int) = ρ (1000000 + k) := fun k _ h => by
    by_cases hk : k = 0
    · subst hk; rw [hsz, ex]; rfl
    · exfalso
      have e : ρ (1000000 + k) = 0 := by
        rw [hρ]
        show (if 1000000 + k = 0 then a0 else if 1000000 + k = 1 then a1 else if 1000000 + k = 2 then a2 else if 1000000 + k = 3 then a3 else if 1000000 + k = 1000000 then 20 else 0) = 0
        rw [if_neg (by omega), if_neg (by omega), if_neg (by omega), if_neg (by omega), if_neg (by omega)]
      omega
  have hr : YsOk ρ (ysR rng) := ysR_ok (fun e he => by
    simp only [rng, List.mem_cons, List.not_mem_nil, or_false] at he
    rcases he with rfl | rfl | rfl
    · rw [e1]; exact g1
    · rw [e2]; exact g2
    · rw [e3]; exact g3)
  have r3 : -9223372036854775808 ≤ ρ 3 ∧ ρ 3 ≤ 9223372036854775807 := by rw [e3]; exact g3
  have fin : ∀ {op : RV} {run : A} {ys : Ys}, YsOk ρ ys → (∀ m, den ρ m op (.int .i64 a0)) → run = startV rows he3 (fun h => call3 ys 100 (inL fsL) (fun _ _ => none) kc 60 3 (.cons op (.cons (.y .i64 (.v 1)) (.cons (.y .i64 (.v 2)) (.cons (.y .i64 (.v 3)) .nil)))) h 100 isT) → run = .yes →
      Calls Tryd.prog 3 #[.int .i64 a0, .int .i64 a1, .int .i64 a2, .int .i64 a3] w fun e w' => e = .returned (.bool true) ∧ Below w.heap.size w w' := by
    intro op run ys hy hop h1 h2
    have := law_rowsV hy (inL_ok fsL_ok) no_orc (kcOk ex) globs rowsOk hex hK (h1.symm.trans h2) (vs := [.int .i64 a0, .int .i64 a1, .int .i64 a2, .int .i64 a3]) (fun m => denC_cons.2 ⟨_, _, rfl, hop m, denC_cons.2 ⟨_, _, rfl, by show _ = _; rw [← e1]; rfl, denC_cons.2 ⟨_, _, rfl, by show _ = _; rw [← e2]; rfl, denC_cons.2 ⟨_, _, rfl, by show _ = _; rw [← e3]; rfl, denC_nil.2 rfl⟩⟩⟩⟩)
    exact this.mono fun e w' h => ⟨h.1, h.2.below⟩
  by_cases h1 : a0 = 1
  · exact fin (ysO_ok hr (ysF_ok (fa1_ok r3))) (fun m => by show _ = _; rw [h1]) rfl (all1 _ _ _)
  by_cases h2 : a0 = 2
  · exact fin (ysO_ok hr (ysF_ok (fa2_ok r3))) (fun m => by show _ = _; rw [h2]) rfl (all2 _ _ _)
  by_cases h3 : a0 = 3
  · exact fin (ysO_ok hr (ysF_ok (fa3_ok r3))) (fun m => by show _ = _; rw [h3]) rfl (all3 _ _ _ _ _)
  by_cases h4 : a0 = 4
  · exact fin (ysO_ok hr (ysF_ok (fa4_ok r3))) (fun m => by show _ = _; rw [h4]) rfl (all4 _ _ _)
  by_cases h5 : a0 = 5
  · exact fin (ysO_ok hr (ysF_ok fa5_ok)) (fun m => by show _ = _; rw [h5]) rfl (all5 _ _ _ _ _ (fun p q => by rw [eq_of_beq p, eq_of_beq q]))
  by_cases h6 : a0 = 6
  · exact fin (ysO_ok hr (ysF_ok fa6_ok)) (fun m => by show _ = _; rw [h6]) rfl (all6 _ _ _ _ _)
  by_cases hl : a0 ≤ 0
  · exact fin (op := .y .i64 (.v 0)) (ysR_ok (fun e he => by
      simp only [rng, List.mem_cons, List.not_mem_nil, or_false] at he
      rcases he with rfl | rfl | rfl | rfl
      · rw [e0]; exact ⟨g0.1, hl⟩
      · rw [e1]; exact g1
      · rw [e2]; exact g2
      · rw [e3]; exact g3)) (fun m => by show _ = _; rw [← e0]; rfl) rfl cL
  · exact fin (op := .y .i64 (.v 0)) (ysR_ok (fun e he => by
      simp only [rng, List.mem_cons, List.not_mem_nil, or_false] at he
      rcases he with rfl | rfl | rfl | rfl
      · rw [e0]; exact ⟨show (7 : Int) ≤ a0 by omega, g0.2⟩
      · rw [e1]; exact g1
      · rw [e2]; exact g2
      · rw [e3]; exact g3)) (fun m => by show _ = _; rw [← e0]; rfl) rfl cH
end Go.Proofs.YtphcmjojnfpkdaaDoor.termMakesq
