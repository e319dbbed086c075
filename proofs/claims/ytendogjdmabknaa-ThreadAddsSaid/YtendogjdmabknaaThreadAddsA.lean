/-
  The law ThreadAdds by the evaluator: each of its cases ends in true, whatever the slice that comes in holds. Conditions: none but those that the theorems print.
-/
import Derived.Test.YtendogjdmabknaaTxtA
import Derived.Test.YtendogjdmabknaaRqN
import Derived.WalkKit
import Derived.ProofKit
import Derived.Lib.Hide
namespace Go.Proofs.Ytendogjdmabknaa.threadAddsq
open Go.Rn Go.RowKit Ytendogjdmabknaa.txt
noncomputable def tab (k0 : Nat) : List (Nat × Nat × Nat) := [(0, 7, k0)]
noncomputable def taby : List (Nat × Nat × Nat) := [(2, 1000, 50)]
noncomputable def orc (k0 : Nat) : Nat → RV → Option RV := orO (orO (placeO 8 (tab k0)) (placeY 8 taby)) (constO 10)
/-- no slice; one of no length; q elements known of it -/
noncomputable def runN (k0 : Nat) : A := call3 (ysR [(50, 0, 999)]) 100 (inL fsL) (orc k0) noKc 60 4 (.cons (.y .i64 (.v 0)) (.cons .ns (.cons (.y .i64 (.v 2)) .nil))) he3 100 isT
noncomputable def runE (k0 : Nat) : A := call3 (ysR [(50, 0, 999)]) 100 (inL fsL) (orc k0) noKc 60 4 (.cons (.y .i64 (.v 0)) (.cons (.sx 0 1) (.cons (.y .i64 (.v 2)) .nil))) he3 100 isT
noncomputable def runS (q L c : Nat) (k0 : Nat) : A := start3 (letters q 0) 0 q fun h => call3 (ysR [(50, 0, 999)]) 100 (inL fsL) (orc k0) noKc 60 4 (.cons (.y .i64 (.v 0)) (.cons (.sl 0 0 L c) (.cons (.y .i64 (.v 2)) .nil))) h 100 isT
theorem globs : Try.prog.globals.size = 0 := of_decide_eq_true (by kernel_rfl)
theorem knownP : known Try.prog 8 = true := by kernel_rfl
theorem knownA : known Try.prog 10 = true := by kernel_rfl
theorem awake_run : call3 (fun _ _ _ => none) 0 (inL fsL) (fun _ _ => none) noKc 60 10 .nil he3 100 isT = .yes := by kernel_rfl
theorem awake_ok (w : World) : Calls Try.prog 10 #[] w fun e w' => e = .returned (.bool true) ∧ Old w w' :=
  law_quick (ρ := fun _ => 0) no_ys (inL_ok fsL_ok) none_ok (n := 100) (by rw [globs]; omega) awake_run (vs := []) (fun _ => denC_nil.2 rfl) w
set_option maxRecDepth 100000 in
set_option maxHeartbeats 400000 in
theorem place_any (n : Int) (k : Nat) (w : World) (hk : 0 < k) (hk2 : k ≤ 1000000) :
    Calls Try.prog 8 #[.int .i64 n, .int .i64 k] w fun e w' => e = .returned (.int .i64 (n % k)) ∧ w = w' := by
  by_cases hz : n.tmod k < 0
  · have HM := Lib.hid (place_neg n k hk hz)
    have hlow : -(k : Int) < n.tmod k := by
      have := HM.out
      have h1 := Int.emod_nonneg n (show (k : Int) ≠ 0 by omega)
      by_cases he : n % (k : Int) = 0
      · have h0 : n.tmod k = 0 := Int.tmod_eq_zero_of_dvd (Int.dvd_of_emod_eq_zero he)
        omega
      · omega
    go_enter Try.func8, Try.ntmps8
    go_wp2_with fail
    go_ret
    exact ⟨by rw [← HM.out]; rfl, rfl⟩
  · have HM := Lib.hid (place_pos n k hk hz)
    go_enter Try.func8, Try.ntmps8
    go_wp2_with fail
    go_ret
    exact ⟨by rw [← HM.out]; rfl, rfl⟩
theorem cN0 : runN 0 = .yes := by kernel_rfl
theorem cN1 : runN 1 = .yes := by kernel_rfl
theorem cN2 : runN 2 = .yes := by kernel_rfl
theorem cN3 : runN 3 = .yes := by kernel_rfl
theorem cN4 : runN 4 = .yes := by kernel_rfl
theorem cN5 : runN 5 = .yes := by kernel_rfl
theorem cN6 : runN 6 = .yes := by kernel_rfl
theorem cE0 : runE 0 = .yes := by kernel_rfl
theorem cE1 : runE 1 = .yes := by kernel_rfl
theorem cE2 : runE 2 = .yes := by kernel_rfl
theorem cE3 : runE 3 = .yes := by kernel_rfl
theorem cE4 : runE 4 = .yes := by kernel_rfl
theorem cE5 : runE 5 = .yes := by kernel_rfl
theorem cE6 : runE 6 = .yes := by kernel_rfl
theorem cS1_0 (c : Nat) : runS 1 1 c 0 = .yes := by kernel_rfl
theorem cS1_1 (c : Nat) : runS 1 1 c 1 = .yes := by kernel_rfl
theorem cS1_2 (c : Nat) : runS 1 1 c 2 = .yes := by kernel_rfl
theorem cS1_3 (c : Nat) : runS 1 1 c 3 = .yes := by kernel_rfl
theorem cS1_4 (c : Nat) : runS 1 1 c 4 = .yes := by kernel_rfl
theorem cS1_5 (c : Nat) : runS 1 1 c 5 = .yes := by kernel_rfl
theorem cS1_6 (c : Nat) : runS 1 1 c 6 = .yes := by kernel_rfl
theorem cS2_0 (c : Nat) : runS 2 2 c 0 = .yes := by kernel_rfl
theorem cS2_1 (c : Nat) : runS 2 2 c 1 = .yes := by kernel_rfl
theorem cS2_2 (c : Nat) : runS 2 2 c 2 = .yes := by kernel_rfl
theorem cS2_3 (c : Nat) : runS 2 2 c 3 = .yes := by kernel_rfl
theorem cS2_4 (c : Nat) : runS 2 2 c 4 = .yes := by kernel_rfl
theorem cS2_5 (c : Nat) : runS 2 2 c 5 = .yes := by kernel_rfl
theorem cS2_6 (c : Nat) : runS 2 2 c 6 = .yes := by kernel_rfl
theorem cS3_0 (c : Nat) : runS 3 3 c 0 = .yes := by kernel_rfl
theorem cS3_1 (c : Nat) : runS 3 3 c 1 = .yes := by kernel_rfl
theorem cS3_2 (c : Nat) : runS 3 3 c 2 = .yes := by kernel_rfl
theorem cS3_3 (c : Nat) : runS 3 3 c 3 = .yes := by kernel_rfl
theorem cS3_4 (c : Nat) : runS 3 3 c 4 = .yes := by kernel_rfl
theorem cS3_5 (c : Nat) : runS 3 3 c 5 = .yes := by kernel_rfl
theorem cS3_6 (c : Nat) : runS 3 3 c 6 = .yes := by kernel_rfl
theorem cS4_0 (c : Nat) : runS 4 4 c 0 = .yes := by kernel_rfl
theorem cS4_1 (c : Nat) : runS 4 4 c 1 = .yes := by kernel_rfl
theorem cS4_2 (c : Nat) : runS 4 4 c 2 = .yes := by kernel_rfl
theorem cS4_3 (c : Nat) : runS 4 4 c 3 = .yes := by kernel_rfl
theorem cS4_4 (c : Nat) : runS 4 4 c 4 = .yes := by kernel_rfl
theorem cS4_5 (c : Nat) : runS 4 4 c 5 = .yes := by kernel_rfl
theorem cS4_6 (c : Nat) : runS 4 4 c 6 = .yes := by kernel_rfl
theorem cS5_0 (c : Nat) : runS 5 5 c 0 = .yes := by kernel_rfl
theorem cS5_1 (c : Nat) : runS 5 5 c 1 = .yes := by kernel_rfl
theorem cS5_2 (c : Nat) : runS 5 5 c 2 = .yes := by kernel_rfl
theorem cS5_3 (c : Nat) : runS 5 5 c 3 = .yes := by kernel_rfl
theorem cS5_4 (c : Nat) : runS 5 5 c 4 = .yes := by kernel_rfl
theorem cS5_5 (c : Nat) : runS 5 5 c 5 = .yes := by kernel_rfl
theorem cS5_6 (c : Nat) : runS 5 5 c 6 = .yes := by kernel_rfl
theorem cG0 (L c : Nat) : runS 6 (L + 6) c 0 = .yes := by kernel_rfl
theorem cG1 (L c : Nat) : runS 6 (L + 6) c 1 = .yes := by kernel_rfl
theorem cG2 (L c : Nat) : runS 6 (L + 6) c 2 = .yes := by kernel_rfl
theorem cG3 (L c : Nat) : runS 6 (L + 6) c 3 = .yes := by kernel_rfl
theorem cG4 (L c : Nat) : runS 6 (L + 6) c 4 = .yes := by kernel_rfl
theorem cG5 (L c : Nat) : runS 6 (L + 6) c 5 = .yes := by kernel_rfl
theorem cG6 (L c : Nat) : runS 6 (L + 6) c 6 = .yes := by kernel_rfl
theorem allN : ∀ k0, k0 < 7 → runN k0 = .yes
  | 0, _ => cN0
  | 1, _ => cN1
  | 2, _ => cN2
  | 3, _ => cN3
  | 4, _ => cN4
  | 5, _ => cN5
  | 6, _ => cN6
  | k + 7, h => absurd h (by omega)
theorem allE : ∀ k0, k0 < 7 → runE k0 = .yes
  | 0, _ => cE0
  | 1, _ => cE1
  | 2, _ => cE2
  | 3, _ => cE3
  | 4, _ => cE4
  | 5, _ => cE5
  | 6, _ => cE6
  | k + 7, h => absurd h (by omega)
theorem allS1_ (c : Nat) : ∀ k0, k0 < 7 → runS 1 1 c k0 = .yes
  | 0, _ => cS1_0 c
  | 1, _ => cS1_1 c
  | 2, _ => cS1_2 c
  | 3, _ => cS1_3 c
  | 4, _ => cS1_4 c
  | 5, _ => cS1_5 c
  | 6, _ => cS1_6 c
  | k + 7, h => absurd h (by omega)
theorem allS2_ (c : Nat) : ∀ k0, k0 < 7 → runS 2 2 c k0 = .yes
  | 0, _ => cS2_0 c
  | 1, _ => cS2_1 c
  | 2, _ => cS2_2 c
  | 3, _ => cS2_3 c
  | 4, _ => cS2_4 c
  | 5, _ => cS2_5 c
  | 6, _ => cS2_6 c
  | k + 7, h => absurd h (by omega)
theorem allS3_ (c : Nat) : ∀ k0, k0 < 7 → runS 3 3 c k0 = .yes
  | 0, _ => cS3_0 c
  | 1, _ => cS3_1 c
  | 2, _ => cS3_2 c
  | 3, _ => cS3_3 c
  | 4, _ => cS3_4 c
  | 5, _ => cS3_5 c
  | 6, _ => cS3_6 c
  | k + 7, h => absurd h (by omega)
theorem allS4_ (c : Nat) : ∀ k0, k0 < 7 → runS 4 4 c k0 = .yes
  | 0, _ => cS4_0 c
  | 1, _ => cS4_1 c
  | 2, _ => cS4_2 c
  | 3, _ => cS4_3 c
  | 4, _ => cS4_4 c
  | 5, _ => cS4_5 c
  | 6, _ => cS4_6 c
  | k + 7, h => absurd h (by omega)
theorem allS5_ (c : Nat) : ∀ k0, k0 < 7 → runS 5 5 c k0 = .yes
  | 0, _ => cS5_0 c
  | 1, _ => cS5_1 c
  | 2, _ => cS5_2 c
  | 3, _ => cS5_3 c
  | 4, _ => cS5_4 c
  | 5, _ => cS5_5 c
  | 6, _ => cS5_6 c
  | k + 7, h => absurd h (by omega)
theorem allG (L c : Nat) : ∀ k0, k0 < 7 → runS 6 (L + 6) c k0 = .yes
  | 0, _ => cG0 L c
  | 1, _ => cG1 L c
  | 2, _ => cG2 L c
  | 3, _ => cG3 L c
  | 4, _ => cG4 L c
  | 5, _ => cG5 L c
  | 6, _ => cG6 L c
  | k + 7, h => absurd h (by omega)
/-- what is asked of the slice that comes in -/
def In (w : World) (A : Option Addr) (L c : Nat) : Prop := (A = none ∧ L = 0 ∧ c = 0) ∨ ∃ B, A = some B ∧ L ≤ c ∧ (c ≠ 0 → ∃ b o, B = ⟨b, o, none⟩ ∧ ∀ i, i < L → ∃ z, w.cell? ⟨b, o + i, none⟩ = some (.int .i64 z))
theorem walk (a0 : Int) (A : Option Addr) (L c : Nat) (a2 : Int) (w : World) (hI : In w A L c) :
    Calls Try.prog 4 #[.int .i64 a0, .slice A L c, .int .i64 a2] w fun e w' => e = .returned (.bool true) ∧ Below w.heap.size w w' := by
  have hk0 : (a0 % 7).toNat < 7 := by omega
  have ek0 : ((a0 % 7).toNat : Int) = a0 % 7 := by omega
  generalize (a0 % 7).toNat = k0 at hk0 ek0
  have ho : ∀ Z : Nat → Int, OrcOk Try.prog (fun x => if x = 0 then a0 else if x = 2 then a2 else if x = 50 then a2 % 1000 else if 100 ≤ x then Z (x - 100) else 0) (orc k0) := fun Z => or_ok (or_ok (place_ok knownP (fun n k w h1 h2 => place_any n k w h1 h2) (fun e he h0 => by
    simp only [tab, List.mem_cons, List.not_mem_nil, or_false] at he
    rcases he with rfl
    · exact ⟨by show 7 ≤ 1000000; omega, by simpa using ek0.symm⟩)) (placeY_ok knownP (fun n k w h1 h2 => place_any n k w h1 h2) (fun e he h0 => by
    simp only [taby, List.mem_cons, List.not_mem_nil, or_false] at he
    rcases he with rfl
    · exact ⟨by show 1000 ≤ 1000000; omega, by simp⟩))) (const_ok knownA awake_ok)
  have hy : ∀ Z : Nat → Int, YsOk (fun x => if x = 0 then a0 else if x = 2 then a2 else if x = 50 then a2 % 1000 else if 100 ≤ x then Z (x - 100) else 0) (ysR [(50, 0, 999)]) := fun Z => ysR_ok (fun e he => by
    simp only [List.mem_cons, List.not_mem_nil, or_false] at he
    rcases he with rfl
    · have := Int.emod_nonneg a2 (show (1000 : Int) ≠ 0 by omega); have := Int.emod_lt_of_pos a2 (show (0 : Int) < 1000 by omega); exact ⟨by simp; omega, by simp; omega⟩)
  have end1 : (Calls Try.prog 4 #[.int .i64 a0, .slice A L c, .int .i64 a2] w fun e w' => e = .returned (.bool true) ∧ Old w w') → Calls Try.prog 4 #[.int .i64 a0, .slice A L c, .int .i64 a2] w fun e w' => e = .returned (.bool true) ∧ Below w.heap.size w w' := fun h => h.mono fun e w' h => ⟨h.1, h.2.below⟩
  apply end1
  rcases hI with ⟨rfl, rfl, rfl⟩ | ⟨B, rfl, hLc, hc⟩
  · exact law_slice (hy fun _ => 0) (inL_ok fsL_ok) (ho fun _ => 0) globs (h0 := he) (m0 := fun _ => none) (fun b c z h => by rw [hg_he] at h; cases h) sim_he (fun _ _ => rfl) (quick he3_ok (allN k0 hk0)) (vs := [.int .i64 a0, .slice none 0 0, .int .i64 a2]) (denC_cons.2 ⟨_, _, rfl, rfl, denC_cons.2 ⟨_, _, rfl, rfl, denC_cons.2 ⟨_, _, rfl, rfl, denC_nil.2 rfl⟩⟩⟩)
  · have hdE : L = 0 → Calls Try.prog 4 #[.int .i64 a0, .slice (some B) L c, .int .i64 a2] w fun e w' => e = .returned (.bool true) ∧ Old w w' := by
      intro hL
      subst hL
      have hm : ∃ m0 : Mp, (∀ b, 100 ≤ b → m0 b = none) ∧ ∃ B1 O1 Z1, m0 0 = some (B1, O1, Z1) ∧ (c = 0 ∨ ∃ O', B = ⟨B1, O', none⟩ ∧ O' + c * 1 = Z1) := by
        by_cases h0 : c = 0
        · exact ⟨fun b => if b = 0 then some (0, 0, 0) else none, fun b hb => if_neg (by omega), 0, 0, 0, if_pos rfl, .inl h0⟩
        · obtain ⟨b, o, rfl, _⟩ := hc h0
          exact ⟨fun x => if x = 0 then some (b, 0, o + c) else none, fun x hx => if_neg (by omega), b, 0, o + c, if_pos rfl, .inr ⟨o, rfl, by omega⟩⟩
      obtain ⟨m0, hfree, B1, O1, Z1, hm0, hor⟩ := hm
      exact law_slice (hy fun _ => 0) (inL_ok fsL_ok) (ho fun _ => 0) globs (h0 := he) (m0 := m0) (fun b c z h => by rw [hg_he] at h; cases h) sim_he hfree (quick he3_ok (allE k0 hk0)) (vs := [.int .i64 a0, .slice (some B) 0 c, .int .i64 a2]) (denC_cons.2 ⟨_, _, rfl, rfl, denC_cons.2 ⟨_, _, rfl, ⟨B1, O1, Z1, B, c, hm0, hor, rfl⟩, denC_cons.2 ⟨_, _, rfl, rfl, denC_nil.2 rfl⟩⟩⟩)
    rcases Nat.eq_zero_or_pos L with hL | hL
    · exact hdE hL
    · obtain ⟨b, o, rfl, hcell⟩ := hc (by omega)
      obtain ⟨Z, hZ⟩ : ∃ Z : Nat → Int, ∀ i, i < L → w.cell? ⟨b, o + i, none⟩ = some (.int .i64 (Z i)) :=
        ⟨fun i => if h : i < L then (hcell i h).choose else 0, fun i hi => by simp only [hi, dif_pos]; exact (hcell i hi).choose_spec⟩
      obtain ⟨C, el, fr, hh, hC⟩ : ∃ C el fr, w.heap[b]? = some (.cells C el fr) ∧ ∀ i, i < L → C[o + i]? = some (.int .i64 (Z i)) := by
        have h0 := hZ 0 hL
        unfold World.cell? at h0
        cases hh : w.heap[b]? with
        | none => simp [hh] at h0
        | some ob =>
          cases ob with
          | cells C el fr => exact ⟨C, el, fr, rfl, fun i hi => by have := hZ i hi; simpa [World.cell?, hh] using this⟩
          | _ => simp [hh] at h0
      have fin : ∀ q, q ≤ L → 0 < q → q ≤ 100 → runS q L c k0 = .yes → Calls Try.prog 4 #[.int .i64 a0, .slice (some ⟨b, o, none⟩) L c, .int .i64 a2] w fun e w' => e = .returned (.bool true) ∧ Old w w' := by
        intro q hq hq0 hq1 hrun
        have hr := letters_den (ρ := fun x => if x = 0 then a0 else if x = 2 then a2 else if x = 50 then a2 % 1000 else if 100 ≤ x then Z (x - 100) else 0) (m := fun x => if x = 0 then some (b, o, C.size) else none) q 0
        have s : Sim Try.prog (fun x => if x = 0 then a0 else if x = 2 then a2 else if x = 50 then a2 % 1000 else if 100 ≤ x then Z (x - 100) else 0) (fun x => if x = 0 then some (b, o, C.size) else none) 1 (hst he (.bk (lay (letters q 0) ce 0) q) 0) w := sim_row hh (letters_len q 0) hr (fun v hv => by
            obtain ⟨j, _, rfl⟩ := List.mem_map.1 hv
            rfl) (fun j v hj => by
            rw [List.getElem?_map] at hj
            obtain ⟨i, hi, rfl⟩ := Option.map_eq_some_iff.1 hj
            have hjq : j < q := by
              have := (List.getElem?_eq_some_iff.1 hi).1
              simpa using this
            rw [List.getElem?_range'] at hi
            · cases hi
              have := hC j (by omega)
              simpa [show ¬ (100 + j = 2) by omega, show ¬ (100 + j = 50) by omega] using this
            · exact hjq) (if_pos rfl) (by omega) (by unfold MAPZ; omega)
        obtain ⟨h3, hH, h1⟩ := start3_ok (show Go.Rn.Good (runS q L c k0) from hrun)
        exact law_slice (hy Z) (inL_ok fsL_ok) (ho Z) globs row_lt s (fun x hx => if_neg (by omega)) (quick hH h1) (vs := [.int .i64 a0, .slice (some ⟨b, o, none⟩) L c, .int .i64 a2]) (denC_cons.2 ⟨_, _, rfl, rfl, denC_cons.2 ⟨_, _, rfl, ⟨b, o, C.size, if_pos rfl, hLc, rfl⟩, denC_cons.2 ⟨_, _, rfl, rfl, denC_nil.2 rfl⟩⟩⟩)
      by_cases h1 : L = 1
      · subst h1
        exact fin 1 (by omega) (by omega) (by omega) (allS1_ c k0 hk0)
      by_cases h2 : L = 2
      · subst h2
        exact fin 2 (by omega) (by omega) (by omega) (allS2_ c k0 hk0)
      by_cases h3 : L = 3
      · subst h3
        exact fin 3 (by omega) (by omega) (by omega) (allS3_ c k0 hk0)
      by_cases h4 : L = 4
      · subst h4
        exact fin 4 (by omega) (by omega) (by omega) (allS4_ c k0 hk0)
      by_cases h5 : L = 5
      · subst h5
        exact fin 5 (by omega) (by omega) (by omega) (allS5_ c k0 hk0)
      obtain ⟨L', rfl⟩ : ∃ L', L = L' + 6 := ⟨L - 6, by omega⟩
      exact fin 6 (by omega) (by omega) (by omega) (allG L' c k0 hk0)
end Go.Proofs.Ytendogjdmabknaa.threadAddsq
