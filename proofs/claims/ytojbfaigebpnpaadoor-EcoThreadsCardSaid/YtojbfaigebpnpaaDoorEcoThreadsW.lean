/-
  The law EcoThreads at all of its cases. Conditions: none but those that the theorems print.
-/
import Derived.Test.YtojbfaigebpnpaaDoorEcoThreadsP0
import Derived.Test.YtojbfaigebpnpaaDoorEcoThreadsP1
import Derived.Test.YtojbfaigebpnpaaDoorEcoThreadsP2
import Derived.Test.YtojbfaigebpnpaaDoorEcoThreadsP3
import Derived.Test.YtojbfaigebpnpaaDoorEcoThreadsP4
import Derived.Test.YtojbfaigebpnpaaDoorEcoThreadsP5
import Derived.Test.YtojbfaigebpnpaaDoorEcoThreadsP6
import Derived.Test.YtojbfaigebpnpaaDoorEcoThreadsP7
import Derived.Test.YtojbfaigebpnpaaDoorEcoThreadsP8
import Derived.Test.YtojbfaigebpnpaaDoorEcoThreadsP9
import Derived.Test.YtojbfaigebpnpaaDoorEcoThreadsP10
import Derived.Test.YtojbfaigebpnpaaDoorEcoThreadsP11
import Derived.Test.YtojbfaigebpnpaaDoorEcoThreadsP12
import Derived.Test.YtojbfaigebpnpaaDoorEcoThreadsP13
import Derived.Test.YtojbfaigebpnpaaDoorEcoThreadsP14
import Derived.Test.YtojbfaigebpnpaaDoorEcoThreadsP15
import Derived.Test.YtojbfaigebpnpaaDoorEcoThreadsP16
import Derived.Test.YtojbfaigebpnpaaDoorEcoThreadsP17
import Derived.Test.YtojbfaigebpnpaaDoorEcoThreadsP18
import Derived.Test.YtojbfaigebpnpaaDoorEcoThreadsP19
import Derived.Test.YtojbfaigebpnpaaDoorEcoThreadsP20
import Derived.WalkKit
import Derived.ProofKit
namespace Go.Proofs.YtojbfaigebpnpaaDoor.ecoThreadsq
open Go.Rn Go.RowKit YtojbfaigebpnpaaDoor.txt
theorem all3 (c : Nat) : ∀ z, z < 6 → ∀ x, x < 6 → ∀ y, y < 6 → run3 c z x y = .yes
  | 0, _ => ddd0 c
  | 1, _ => ddd1 c
  | 2, _ => ddd2 c
  | 3, _ => ddd3 c
  | 4, _ => ddd4 c
  | 5, _ => ddd5 c
  | z + 6, h => absurd h (by omega)
theorem k0 (L c : Nat) : ∀ z, z < 6 → ∀ x, x < 6 → ∀ y, y < 6 → run4 L c 0 z x y = .yes
  | 0, _ => hh00 L c
  | 1, _ => hh01 L c
  | 2, _ => hh02 L c
  | 3, _ => hh03 L c
  | 4, _ => hh04 L c
  | 5, _ => hh05 L c
  | z + 6, h => absurd h (by omega)
theorem k1 (L c : Nat) : ∀ z, z < 6 → ∀ x, x < 6 → ∀ y, y < 6 → run4 L c 1 z x y = .yes
  | 0, _ => hh10 L c
  | 1, _ => hh11 L c
  | 2, _ => hh12 L c
  | 3, _ => hh13 L c
  | 4, _ => hh14 L c
  | 5, _ => hh15 L c
  | z + 6, h => absurd h (by omega)
theorem k2 (L c : Nat) : ∀ z, z < 6 → ∀ x, x < 6 → ∀ y, y < 6 → run4 L c 2 z x y = .yes
  | 0, _ => hh20 L c
  | 1, _ => hh21 L c
  | 2, _ => hh22 L c
  | 3, _ => hh23 L c
  | 4, _ => hh24 L c
  | 5, _ => hh25 L c
  | z + 6, h => absurd h (by omega)
theorem k3 (L c : Nat) : ∀ z, z < 6 → ∀ x, x < 6 → ∀ y, y < 6 → run4 L c 3 z x y = .yes
  | 0, _ => hh30 L c
  | 1, _ => hh31 L c
  | 2, _ => hh32 L c
  | 3, _ => hh33 L c
  | 4, _ => hh34 L c
  | 5, _ => hh35 L c
  | z + 6, h => absurd h (by omega)
theorem k4 (L c : Nat) : ∀ z, z < 6 → ∀ x, x < 6 → ∀ y, y < 6 → run4 L c 4 z x y = .yes
  | 0, _ => hh40 L c
  | 1, _ => hh41 L c
  | 2, _ => hh42 L c
  | 3, _ => hh43 L c
  | 4, _ => hh44 L c
  | 5, _ => hh45 L c
  | z + 6, h => absurd h (by omega)
theorem k5 (L c : Nat) : ∀ z, z < 6 → ∀ x, x < 6 → ∀ y, y < 6 → run4 L c 5 z x y = .yes
  | 0, _ => hh50 L c
  | 1, _ => hh51 L c
  | 2, _ => hh52 L c
  | 3, _ => hh53 L c
  | 4, _ => hh54 L c
  | 5, _ => hh55 L c
  | z + 6, h => absurd h (by omega)
theorem all4 (L c : Nat) : ∀ v, v < 6 → ∀ z, z < 6 → ∀ x, x < 6 → ∀ y, y < 6 → run4 L c v z x y = .yes
  | 0, _ => k0 L c
  | 1, _ => k1 L c
  | 2, _ => k2 L c
  | 3, _ => k3 L c
  | 4, _ => k4 L c
  | 5, _ => k5 L c
  | v + 6, h => absurd h (by omega)
theorem orc1 {ρ : Nat → Int} {a : Nat} (q0 : (a : Int) = ρ 100 % 6) : OrcOk Tryd.prog ρ (placeO 4 (tab1 a)) := place_ok knownP (fun n k w h1 h2 => place_any n k w h1 h2) (fun e' he h0 => by
    simp only [tab1, List.mem_cons, List.not_mem_nil, or_false] at he
    rcases he with rfl
    · exact ⟨by show 6 ≤ 1000000; omega, by simpa using q0.symm⟩)
theorem orc2 {ρ : Nat → Int} {a b : Nat} (q0 : (a : Int) = ρ 100 % 6) (q1 : (b : Int) = ρ 101 % 6) : OrcOk Tryd.prog ρ (placeO 4 (tab2 a b)) := place_ok knownP (fun n k w h1 h2 => place_any n k w h1 h2) (fun e' he h0 => by
    simp only [tab2, List.mem_cons, List.not_mem_nil, or_false] at he
    rcases he with rfl | rfl
    · exact ⟨by show 6 ≤ 1000000; omega, by simpa using q0.symm⟩
    · exact ⟨by show 6 ≤ 1000000; omega, by simpa using q1.symm⟩)
theorem orc3 {ρ : Nat → Int} {a b d : Nat} (q0 : (a : Int) = ρ 100 % 6) (q1 : (b : Int) = ρ 101 % 6) (q2 : (d : Int) = ρ 102 % 6) : OrcOk Tryd.prog ρ (placeO 4 (tab3 a b d)) := place_ok knownP (fun n k w h1 h2 => place_any n k w h1 h2) (fun e' he h0 => by
    simp only [tab3, List.mem_cons, List.not_mem_nil, or_false] at he
    rcases he with rfl | rfl | rfl
    · exact ⟨by show 6 ≤ 1000000; omega, by simpa using q0.symm⟩
    · exact ⟨by show 6 ≤ 1000000; omega, by simpa using q1.symm⟩
    · exact ⟨by show 6 ≤ 1000000; omega, by simpa using q2.symm⟩)
theorem orc4 {ρ : Nat → Int} {a b d e : Nat} (q0 : (a : Int) = ρ 100 % 6) (q1 : (b : Int) = ρ 101 % 6) (q2 : (d : Int) = ρ 102 % 6) (q3 : (e : Int) = ρ 103 % 6) : OrcOk Tryd.prog ρ (placeO 4 (tab4 a b d e)) := place_ok knownP (fun n k w h1 h2 => place_any n k w h1 h2) (fun e' he h0 => by
    simp only [tab4, List.mem_cons, List.not_mem_nil, or_false] at he
    rcases he with rfl | rfl | rfl | rfl
    · exact ⟨by show 6 ≤ 1000000; omega, by simpa using q0.symm⟩
    · exact ⟨by show 6 ≤ 1000000; omega, by simpa using q1.symm⟩
    · exact ⟨by show 6 ≤ 1000000; omega, by simpa using q2.symm⟩
    · exact ⟨by show 6 ≤ 1000000; omega, by simpa using q3.symm⟩)
theorem orc0 {ρ : Nat → Int} : OrcOk Tryd.prog ρ (placeO 4 []) := place_ok knownP (fun n k w h1 h2 => place_any n k w h1 h2) (fun e' he h0 => by cases he)
/-- what is asked of the slice that comes in -/
def In (w : World) (A : Option Addr) (L c : Nat) : Prop := (A = none ∧ L = 0 ∧ c = 0) ∨ ∃ B, A = some B ∧ L ≤ c ∧ (c ≠ 0 → ∃ b o, B = ⟨b, o, none⟩ ∧ ∀ i, i < L → ∃ z, w.cell? ⟨b, o + i, none⟩ = some (.int .i64 z) ∧ IntKind.i64.wrap z = z)
/-- the table lies in its variable, and nothing beside it -/
def Tab (w : World) : Prop := ∀ r ∈ rows, ∃ C el fr, w.heap[r.1]? = some (.cells C el fr) ∧ (∀ (j : Nat) (v : Value), r.2[j]? = some v → C[j]? = some v) ∧ C.size = r.2.length
theorem kv0_u8 : ∀ v ∈ kv0, ∀ z, v ≠ .int .i64 z := by
  intro v hv z
  unfold kv0 at hv
  simp only [List.mem_cons, List.not_mem_nil, or_false] at hv
  rcases hv with rfl | rfl | rfl | rfl | rfl | rfl | rfl | rfl | rfl | rfl | rfl | rfl | rfl | rfl | rfl | rfl | rfl | rfl | rfl | rfl | rfl | rfl | rfl | rfl | rfl | rfl | rfl | rfl | rfl | rfl | rfl | rfl | rfl | rfl | rfl | rfl | rfl | rfl | rfl | rfl | rfl | rfl | rfl | rfl | rfl | rfl | rfl | rfl | rfl | rfl | rfl | rfl | rfl | rfl | rfl | rfl | rfl | rfl | rfl | rfl | rfl | rfl | rfl | rfl <;> simp
theorem walk (A : Option Addr) (L c : Nat) (w : World) (hT : Tab w) (hI : In w A L c) :
    Calls Tryd.prog 3 #[.slice A L c] w fun e w' => e = .returned (.bool true) ∧ Below w.heap.size w w' := by
  have hK : RowsAt rows w := fun r hr => by
    obtain ⟨C, el, fr, h1, h2, _⟩ := hT r hr
    exact ⟨C, el, fr, h1, h2⟩
  have end1 : (Calls Tryd.prog 3 #[.slice A L c] w fun e w' => e = .returned (.bool true) ∧ Old w w') → Calls Tryd.prog 3 #[.slice A L c] w fun e w' => e = .returned (.bool true) ∧ Below w.heap.size w w' := fun h => h.mono fun e w' h => ⟨h.1, h.2.below⟩
  apply end1
  have hN : startR rows he3 (fun h => call3 (fun _ _ _ => none) 100 (inL fsL) (placeO 4 []) (tabO 11 64 kch) 60 3 (.cons .ns .nil) h 100 isT) = .yes := n
  have hE : startR rows he3 (fun h => call3 (fun _ _ _ => none) 100 (inL fsL) (placeO 4 []) (tabO 11 64 kch) 60 3 (.cons (.sx 50 1) .nil) h 100 isT) = .yes := e
  rcases hI with ⟨rfl, rfl, rfl⟩ | ⟨B, rfl, hLc, hc⟩
  · exact law_free (ρ := fun _ => 0) no_ys (inL_ok fsL_ok) orc0 kcOk globs rowsOk hK rows50 (x := (0, 0, 0)) hN (vs := [.slice none 0 0]) (denC_cons.2 ⟨_, _, rfl, rfl, denC_nil.2 rfl⟩)
  · rcases Nat.eq_zero_or_pos L with hL | hL
    · subst hL
      have hm : ∃ B1 O1 Z1 : Nat, c = 0 ∨ ∃ O', B = ⟨B1, O', none⟩ ∧ O' + c * 1 = Z1 := by
        by_cases h0 : c = 0
        · exact ⟨0, 0, 0, .inl h0⟩
        · obtain ⟨b, o, rfl, _⟩ := hc h0
          exact ⟨b, 0, o + c, .inr ⟨o, rfl, by omega⟩⟩
      obtain ⟨B1, O1, Z1, hor⟩ := hm
      exact law_free (ρ := fun _ => 0) no_ys (inL_ok fsL_ok) orc0 kcOk globs rowsOk hK rows50 (x := (B1, O1, Z1)) hE (vs := [.slice (some B) 0 c]) (denC_cons.2 ⟨_, _, rfl, ⟨B1, O1, Z1, B, c, if_pos rfl, hor, rfl⟩, denC_nil.2 rfl⟩)
    · obtain ⟨b, o, rfl, hcell⟩ := hc (by omega)
      obtain ⟨Z, hZ⟩ : ∃ Z : Nat → Int, ∀ i, i < L → w.cell? ⟨b, o + i, none⟩ = some (.int .i64 (Z i)) :=
        ⟨fun i => if h : i < L then (hcell i h).choose else 0, fun i hi => by simp only [hi, dif_pos]; exact (hcell i hi).choose_spec.1⟩
      obtain ⟨C, el, fr, hh, hC⟩ : ∃ C el fr, w.heap[b]? = some (.cells C el fr) ∧ ∀ i, i < L → C[o + i]? = some (.int .i64 (Z i)) := by
        have h0 := hZ 0 hL
        unfold World.cell? at h0
        cases hh : w.heap[b]? with
        | none => simp [hh] at h0
        | some ob =>
          cases ob with
          | cells C el fr => exact ⟨C, el, fr, rfl, fun i hi => by have := hZ i hi; simpa [World.cell?, hh] using this⟩
          | _ => simp [hh] at h0
      have hne : ∀ r ∈ rows, r.1 ≠ b := fun r hr => by
        have h1 := hT r hr
        simp only [rows, List.mem_cons, List.not_mem_nil, or_false] at hr
        subst hr
        exact row_ne h1 kv0_u8 hh (hC 0 hL)
      have hsz : sizeAt w b = C.size := by unfold sizeAt; rw [hh]
      have hk : ∀ i, (Z i % 6).toNat < 6 ∧ ((Z i % 6).toNat : Int) = Z i % 6 := fun i => by omega
      have fin : ∀ q t, q ≤ L → q ≤ 100 → OrcOk Tryd.prog (fun x => if 100 ≤ x then Z (x - 100) else 0) (placeO 4 t) → runS q t L c = .yes → Calls Tryd.prog 3 #[.slice (some ⟨b, o, none⟩) L c] w fun e w' => e = .returned (.bool true) ∧ Old w w' := by
        intro q t hq hq1 ho hrun
        have hr := letters_den (ρ := fun x => if 100 ≤ x then Z (x - 100) else 0) (m := mB w b o) q 0
        refine law_both (ρ := fun x => if 100 ≤ x then Z (x - 100) else 0) no_ys (inL_ok fsL_ok) ho kcOk globs rowsOk hK rows50 hh hne (letters_len q 0) hr (fun v hv => by
            obtain ⟨j, _, rfl⟩ := List.mem_map.1 hv
            rfl) (fun j v hj => by
            rw [List.getElem?_map] at hj
            obtain ⟨i, hi, rfl⟩ := Option.map_eq_some_iff.1 hj
            have hjq : j < q := by
              have := (List.getElem?_eq_some_iff.1 hi).1
              simpa using this
            rw [List.getElem?_range'] at hi
            · cases hi
              have := hC j (by omega)
              simpa using this
            · exact hjq) (by unfold MAPZ; omega) hrun (vs := [.slice (some ⟨b, o, none⟩) L c]) (denC_cons.2 ⟨_, _, rfl, ⟨b, o, sizeAt w b, if_pos rfl, hLc, rfl⟩, denC_nil.2 rfl⟩)
      by_cases h1 : L = 1
      · subst h1
        exact fin 1 _ (by omega) (by omega) (orc1 (by simpa using (hk 0).2)) (all1 c _ (hk 0).1)
      by_cases h2 : L = 2
      · subst h2
        exact fin 2 _ (by omega) (by omega) (orc2 (by simpa using (hk 0).2) (by simpa using (hk 1).2)) (all2 c _ (hk 0).1 _ (hk 1).1)
      by_cases h3 : L = 3
      · subst h3
        exact fin 3 _ (by omega) (by omega) (orc3 (by simpa using (hk 0).2) (by simpa using (hk 1).2) (by simpa using (hk 2).2)) (all3 c _ (hk 0).1 _ (hk 1).1 _ (hk 2).1)
      obtain ⟨L', rfl⟩ : ∃ L', L = L' + 4 := ⟨L - 4, by omega⟩
      exact fin 4 _ (by omega) (by omega) (orc4 (by simpa using (hk 0).2) (by simpa using (hk 1).2) (by simpa using (hk 2).2) (by simpa using (hk 3).2)) (all4 L' c _ (hk 0).1 _ (hk 1).1 _ (hk 2).1 _ (hk 3).1)
end Go.Proofs.YtojbfaigebpnpaaDoor.ecoThreadsq
