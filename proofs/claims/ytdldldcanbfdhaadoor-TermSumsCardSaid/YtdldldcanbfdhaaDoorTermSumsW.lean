/-
  The law TermSums at all of its cases. Conditions: none but those that the theorems print.
-/
import Derived.Test.YtdldldcanbfdhaaDoorTermSumsA
import Derived.WalkKit
import Derived.ProofKit
namespace Go.Proofs.YtdldldcanbfdhaaDoor.termSumsq
open Go.Rn Go.RowKit YtdldldcanbfdhaaDoor.txt
theorem allN : ∀ k0, k0 < 9 → runN k0 = .yes
  | 0, _ => cN0 
  | 1, _ => cN1 
  | 2, _ => cN2 
  | 3, _ => cN3 
  | 4, _ => cN4 
  | 5, _ => cN5 
  | 6, _ => cN6 
  | 7, _ => cN7 
  | 8, _ => cN8 
  | k + 9, h => absurd h (by omega)
theorem allE : ∀ k0, k0 < 9 → runE k0 = .yes
  | 0, _ => cE0 
  | 1, _ => cE1 
  | 2, _ => cE2 
  | 3, _ => cE3 
  | 4, _ => cE4 
  | 5, _ => cE5 
  | 6, _ => cE6 
  | 7, _ => cE7 
  | 8, _ => cE8 
  | k + 9, h => absurd h (by omega)
theorem allS1_ (c : Nat) : ∀ k0, k0 < 9 → runS 1 1 c k0 = .yes
  | 0, _ => cS1_0 c
  | 1, _ => cS1_1 c
  | 2, _ => cS1_2 c
  | 3, _ => cS1_3 c
  | 4, _ => cS1_4 c
  | 5, _ => cS1_5 c
  | 6, _ => cS1_6 c
  | 7, _ => cS1_7 c
  | 8, _ => cS1_8 c
  | k + 9, h => absurd h (by omega)
theorem allS2_ (c : Nat) : ∀ k0, k0 < 9 → runS 2 2 c k0 = .yes
  | 0, _ => cS2_0 c
  | 1, _ => cS2_1 c
  | 2, _ => cS2_2 c
  | 3, _ => cS2_3 c
  | 4, _ => cS2_4 c
  | 5, _ => cS2_5 c
  | 6, _ => cS2_6 c
  | 7, _ => cS2_7 c
  | 8, _ => cS2_8 c
  | k + 9, h => absurd h (by omega)
theorem allS3_ (c : Nat) : ∀ k0, k0 < 9 → runS 3 3 c k0 = .yes
  | 0, _ => cS3_0 c
  | 1, _ => cS3_1 c
  | 2, _ => cS3_2 c
  | 3, _ => cS3_3 c
  | 4, _ => cS3_4 c
  | 5, _ => cS3_5 c
  | 6, _ => cS3_6 c
  | 7, _ => cS3_7 c
  | 8, _ => cS3_8 c
  | k + 9, h => absurd h (by omega)
theorem allS4_ (c : Nat) : ∀ k0, k0 < 9 → runS 4 4 c k0 = .yes
  | 0, _ => cS4_0 c
  | 1, _ => cS4_1 c
  | 2, _ => cS4_2 c
  | 3, _ => cS4_3 c
  | 4, _ => cS4_4 c
  | 5, _ => cS4_5 c
  | 6, _ => cS4_6 c
  | 7, _ => cS4_7 c
  | 8, _ => cS4_8 c
  | k + 9, h => absurd h (by omega)
theorem allS5_ (c : Nat) : ∀ k0, k0 < 9 → runS 5 5 c k0 = .yes
  | 0, _ => cS5_0 c
  | 1, _ => cS5_1 c
  | 2, _ => cS5_2 c
  | 3, _ => cS5_3 c
  | 4, _ => cS5_4 c
  | 5, _ => cS5_5 c
  | 6, _ => cS5_6 c
  | 7, _ => cS5_7 c
  | 8, _ => cS5_8 c
  | k + 9, h => absurd h (by omega)
theorem allS6_ (c : Nat) : ∀ k0, k0 < 9 → runS 6 6 c k0 = .yes
  | 0, _ => cS6_0 c
  | 1, _ => cS6_1 c
  | 2, _ => cS6_2 c
  | 3, _ => cS6_3 c
  | 4, _ => cS6_4 c
  | 5, _ => cS6_5 c
  | 6, _ => cS6_6 c
  | 7, _ => cS6_7 c
  | 8, _ => cS6_8 c
  | k + 9, h => absurd h (by omega)
theorem allS7_ (c : Nat) : ∀ k0, k0 < 9 → runS 7 7 c k0 = .yes
  | 0, _ => cS7_0 c
  | 1, _ => cS7_1 c
  | 2, _ => cS7_2 c
  | 3, _ => cS7_3 c
  | 4, _ => cS7_4 c
  | 5, _ => cS7_5 c
  | 6, _ => cS7_6 c
  | 7, _ => cS7_7 c
  | 8, _ => cS7_8 c
  | k + 9, h => absurd h (by omega)
theorem allS8_ (c : Nat) : ∀ k0, k0 < 9 → runS 8 8 c k0 = .yes
  | 0, _ => cS8_0 c
  | 1, _ => cS8_1 c
  | 2, _ => cS8_2 c
  | 3, _ => cS8_3 c
  | 4, _ => cS8_4 c
  | 5, _ => cS8_5 c
  | 6, _ => cS8_6 c
  | 7, _ => cS8_7 c
  | 8, _ => cS8_8 c
  | k + 9, h => absurd h (by omega)
theorem allG (L c : Nat) : ∀ k0, k0 < 9 → runS 9 (L + 9) c k0 = .yes
  | 0, _ => cG0 L c
  | 1, _ => cG1 L c
  | 2, _ => cG2 L c
  | 3, _ => cG3 L c
  | 4, _ => cG4 L c
  | 5, _ => cG5 L c
  | 6, _ => cG6 L c
  | 7, _ => cG7 L c
  | 8, _ => cG8 L c
  | k + 9, h => absurd h (by omega)
/-- what is asked of the slice that comes in -/
def In (w : World) (A : Option Addr) (L c : Nat) : Prop := (A = none ∧ L = 0 ∧ c = 0) ∨ ∃ B, A = some B ∧ L ≤ c ∧ (c ≠ 0 → ∃ b o, B = ⟨b, o, none⟩ ∧ ∀ i, i < L → ∃ z, w.cell? ⟨b, o + i, none⟩ = some (.int .i64 z) ∧ IntKind.i64.wrap z = z)
theorem orc_ok {ρ : Nat → Int} {k0 : Nat} (e : (k0 : Int) = ρ 0 % 9) : OrcOk Tryd.prog ρ (orc k0) := place_ok knownP (fun n k w h1 h2 => place_any n k w h1 h2) (fun e' he h0 => by
    simp only [tab, List.mem_cons, List.not_mem_nil, or_false] at he
    rcases he with rfl
    exact ⟨by show 9 ≤ 1000000; omega, by simpa using e.symm⟩)
theorem walk (a0 : Int) (A : Option Addr) (L c : Nat) (w : World) (ha0 : IntKind.i64.wrap a0 = a0) (hI : In w A L c) :
    Calls Tryd.prog 3 #[.int .i64 a0, .slice A L c] w fun e w' => e = .returned (.bool true) ∧ Below w.heap.size w w' := by
  have hk0 : (a0 % 9).toNat < 9 := by omega
  have ek0 : ((a0 % 9).toNat : Int) = a0 % 9 := by omega
  generalize (a0 % 9).toNat = k0 at hk0 ek0
  have hgl := globs
  have hrN : call3 ysZ 100 (inL fsL) (orc k0) kc 60 3 (.cons (.y .i64 (.v 0)) (.cons .ns .nil)) he3 100 isT = .yes := allN k0 hk0
  have hrE : call3 ysZ 100 (inL fsL) (orc k0) kc 60 3 (.cons (.y .i64 (.v 0)) (.cons (.sx 50 1) .nil)) he3 100 isT = .yes := allE k0 hk0
  have end1 : (Calls Tryd.prog 3 #[.int .i64 a0, .slice A L c] w fun e w' => e = .returned (.bool true) ∧ Old w w') → Calls Tryd.prog 3 #[.int .i64 a0, .slice A L c] w fun e w' => e = .returned (.bool true) ∧ Below w.heap.size w w' := fun h => h.mono fun e w' h => ⟨h.1, h.2.below⟩
  apply end1
  have hv0 : ∀ n, IntKind.i64.wrap ((fun x => if x = 0 then a0 else 0 : Nat → Int) n) = (fun x => if x = 0 then a0 else 0 : Nat → Int) n := fun n => by
    by_cases h : n = 0
    · subst h; exact ha0
    · simp only [if_neg h]; decide
  rcases hI with ⟨rfl, rfl, rfl⟩ | ⟨B, rfl, hLc, hc⟩
  · exact law_laid (ysZ_ok hv0) (inL_ok fsL_ok) (orc_ok ek0) kcOk (n := 100) (g := 100) (h0 := he) (m0 := fun b => if b < Tryd.prog.globals.size then some (b, 0, 0) else none) (Nat.le_refl _) (fun b c z h => by rw [hg_he] at h; cases h) sim_he (fun k hk => ⟨0, if_pos hk⟩) (fun b hb => if_neg (by omega)) (quick he3_ok hrN) (vs := [.int .i64 a0, .slice none 0 0]) (denC_cons.2 ⟨_, _, rfl, rfl, denC_cons.2 ⟨_, _, rfl, rfl, denC_nil.2 rfl⟩⟩)
  · have hdE : L = 0 → Calls Tryd.prog 3 #[.int .i64 a0, .slice (some B) L c] w fun e w' => e = .returned (.bool true) ∧ Old w w' := by
      intro hL
      subst hL
      have hm : ∃ B1 O1 Z1 : Nat, c = 0 ∨ ∃ O', B = ⟨B1, O', none⟩ ∧ O' + c * 1 = Z1 := by
        by_cases h0 : c = 0
        · exact ⟨0, 0, 0, .inl h0⟩
        · obtain ⟨b, o, rfl, _⟩ := hc h0
          exact ⟨b, 0, o + c, .inr ⟨o, rfl, by omega⟩⟩
      obtain ⟨B1, O1, Z1, hor⟩ := hm
      exact law_laid (ysZ_ok hv0) (inL_ok fsL_ok) (orc_ok ek0) kcOk (n := 100) (g := 100) (h0 := he) (m0 := fun b => if b = 50 then some (B1, O1, Z1) else if b < Tryd.prog.globals.size then some (b, 0, 0) else none) (Nat.le_refl _) (fun b c z h => by rw [hg_he] at h; cases h) sim_he (fun k hk => ⟨0, by first | rw [if_neg (by omega), if_pos hk] | (dsimp only; rw [if_neg (by omega), if_pos hk])⟩) (fun b hb => by first | rw [if_neg (by omega), if_neg (by omega)] | (dsimp only; rw [if_neg (by omega), if_neg (by omega)])) (quick he3_ok hrE) (vs := [.int .i64 a0, .slice (some B) 0 c]) (denC_cons.2 ⟨_, _, rfl, rfl, denC_cons.2 ⟨_, _, rfl, ⟨B1, O1, Z1, B, c, if_pos rfl, hor, rfl⟩, denC_nil.2 rfl⟩⟩)
    rcases Nat.eq_zero_or_pos L with hL | hL
    · exact hdE hL
    · obtain ⟨b, o, rfl, hcell⟩ := hc (by omega)
      obtain ⟨Z, hZ, hZr⟩ : ∃ Z : Nat → Int, (∀ i, i < L → w.cell? ⟨b, o + i, none⟩ = some (.int .i64 (Z i))) ∧ ∀ i, IntKind.i64.wrap (Z i) = Z i :=
        ⟨fun i => if h : i < L then (hcell i h).choose else 0, fun i hi => by simp only [hi, dif_pos]; exact (hcell i hi).choose_spec.1, fun i => by
          by_cases hi : i < L
          · simp only [hi, dif_pos]; exact (hcell i hi).choose_spec.2
          · simp only [dif_neg hi]; decide⟩
      obtain ⟨C, el, fr, hh, hC⟩ : ∃ C el fr, w.heap[b]? = some (.cells C el fr) ∧ ∀ i, i < L → C[o + i]? = some (.int .i64 (Z i)) := by
        have h0 := hZ 0 hL
        unfold World.cell? at h0
        cases hh : w.heap[b]? with
        | none => simp [hh] at h0
        | some ob =>
          cases ob with
          | cells C el fr => exact ⟨C, el, fr, rfl, fun i hi => by have := hZ i hi; simpa [World.cell?, hh] using this⟩
          | _ => simp [hh] at h0
      have hv : ∀ n, IntKind.i64.wrap ((fun x => if 100 ≤ x then Z (x - 100) else if x = 0 then a0 else 0 : Nat → Int) n) = (fun x => if 100 ≤ x then Z (x - 100) else if x = 0 then a0 else 0 : Nat → Int) n := fun n => by
        by_cases h : 100 ≤ n
        · simp only [if_pos h]; exact hZr _
        · simp only [if_neg h]; exact hv0 n
      have fin : ∀ q, q ≤ L → 0 < q → q ≤ 100 → runS q L c k0 = .yes → Calls Tryd.prog 3 #[.int .i64 a0, .slice (some ⟨b, o, none⟩) L c] w fun e w' => e = .returned (.bool true) ∧ Old w w' := by
        intro q hq hq0 hq1 hrun
        have hr := letters_den (ρ := fun x => if 100 ≤ x then Z (x - 100) else if x = 0 then a0 else 0) (m := fun x => if x = 50 then some (b, o, C.size) else if x < Tryd.prog.globals.size then some (x, 0, 0) else none) q 0
        have s : Sim Tryd.prog (fun x => if 100 ≤ x then Z (x - 100) else if x = 0 then a0 else 0) (fun x => if x = 50 then some (b, o, C.size) else if x < Tryd.prog.globals.size then some (x, 0, 0) else none) 100 (hst he (.bk (lay (letters q 0) ce 0) q) 50) w := sim_row hh (letters_len q 0) hr (fun v hv => by
            obtain ⟨j, _, rfl⟩ := List.mem_map.1 hv
            rfl) (fun j v hj => by
            rw [List.getElem?_map] at hj
            obtain ⟨i, hi, rfl⟩ := Option.map_eq_some_iff.1 hj
            have hjq : j < q := by
              have := (List.getElem?_eq_some_iff.1 hi).1
              simpa using this
            rw [List.getElem?_range'] at hi
            · cases hi
              have := hC j (by omega)
              simpa using this
            · exact hjq) (if_pos rfl) (by omega) (by unfold MAPZ; omega)
        obtain ⟨h3, hH, h1⟩ := start3_ok (show Go.Rn.Good (runS q L c k0) from hrun)
        have h1 : Go.Rn.Good (call3 ysZ 100 (inL fsL) (orc k0) kc 60 3 (.cons (.y .i64 (.v 0)) (.cons (.sl 50 0 L c) .nil)) h3 100 isT) := h1
        exact law_laid (ysZ_ok hv) (inL_ok fsL_ok) (orc_ok (by simpa using ek0)) kcOk (n := 100) (g := 100) (Nat.le_refl _) (fun x c' z' hb => by
          rcases hg_hst he (.bk (lay (letters q 0) ce 0) q) 50 x with ⟨q, _⟩ | ⟨_, q⟩
          · omega
          · rw [q, hg_he] at hb; cases hb) s (fun k hk => ⟨0, by first | rw [if_neg (by omega), if_pos hk] | (dsimp only; rw [if_neg (by omega), if_pos hk])⟩) (fun x hx => by first | rw [if_neg (by omega), if_neg (by omega)] | (dsimp only; rw [if_neg (by omega), if_neg (by omega)])) (quick hH h1) (vs := [.int .i64 a0, .slice (some ⟨b, o, none⟩) L c]) (denC_cons.2 ⟨_, _, rfl, rfl, denC_cons.2 ⟨_, _, rfl, ⟨b, o, C.size, if_pos rfl, hLc, rfl⟩, denC_nil.2 rfl⟩⟩)
      by_cases h1 : L = 1
      · subst h1
        exact fin 1 (by omega) (by omega) (by omega) (allS1_ c k0 hk0)
      by_cases h2 : L = 2
      · subst h2
        exact fin 2 (by omega) (by omega) (by omega) (allS2_ c k0 hk0)
      by_cases h3 : L = 3
      · subst h3
        exact fin 3 (by omega) (by omega) (by omega) (allS3_ c k0 hk0)
      by_cases h4 : L = 4
      · subst h4
        exact fin 4 (by omega) (by omega) (by omega) (allS4_ c k0 hk0)
      by_cases h5 : L = 5
      · subst h5
        exact fin 5 (by omega) (by omega) (by omega) (allS5_ c k0 hk0)
      by_cases h6 : L = 6
      · subst h6
        exact fin 6 (by omega) (by omega) (by omega) (allS6_ c k0 hk0)
      by_cases h7 : L = 7
      · subst h7
        exact fin 7 (by omega) (by omega) (by omega) (allS7_ c k0 hk0)
      by_cases h8 : L = 8
      · subst h8
        exact fin 8 (by omega) (by omega) (by omega) (allS8_ c k0 hk0)
      obtain ⟨L', rfl⟩ : ∃ L', L = L' + 9 := ⟨L - 9, by omega⟩
      exact fin 9 (by omega) (by omega) (by omega) (allG L' c k0 hk0)
end Go.Proofs.YtdldldcanbfdhaaDoor.termSumsq
