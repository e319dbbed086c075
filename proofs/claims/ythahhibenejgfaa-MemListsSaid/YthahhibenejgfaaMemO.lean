/-
  Lists of numbers that come in as arguments. Conditions: none but those that the theorems print.
-/
import Derived.Test.YthahhibenejgfaaMemP
import Derived.Test.YthahhibenejgfaaRows
import Derived.Deep.SlicePairs
import Derived.OpenShut
import Derived.Deep.DeepHandedRow
namespace Go.Proofs.Ythahhibenejgfaa
open Go.ChangeShapes Go.WideShapes Go.ChangeAt Go.RowKit Mem
namespace Mem
theorem cellsI : Try.prog.cellsOf 3 = 1 := by kernel_rfl
theorem cellsL : Try.prog.cellsOf 23 = 1 := by kernel_rfl
theorem none_cell {W : World} {b o s : Nat} {x : Value} (h : W.cell? ((⟨b, o, some s⟩ : Addr).add 0) = some x) : False := by
  unfold Addr.add at h
  simp [World.cell?] at h
  split at h <;> simp_all
theorem add_plain (b o k : Nat) : (⟨b, o, none⟩ : Addr).add k = ⟨b, o + k, none⟩ := by unfold Addr.add; split <;> simp_all
theorem pick_lt {α : Type} (z : α) {len : Nat} {P : Nat → α → Prop} (h : ∀ i, i < len → ∃ a, P i a) : ∃ q : Nat → α, ∀ i, i < len → P i (q i) :=
  ⟨fun i => if hi : i < len then Classical.choose (h i hi) else z, fun i hi => by simp only [dif_pos hi]; exact Classical.choose_spec (h i hi)⟩
section
variable {H : Type} {enc : TypeId × Value → H} {W : World} {n : Nat} {v : Value} {y : DataW H × List MemPlace}
/-- an incoming slice of numbers -/
theorem ints_of (h : DataW.trod enc Try.prog W 0 (fun _ => true) true n 23 [v] = some y) : ∃ (a : Option Addr) (L : List Int) (c : Nat), v = .slice a L.length c ∧ NsIn W a L ∧ L.length ≤ maxLen ∧ (a = none → L = [] ∧ c = 0) := by
  rcases Go.Deep.open_slice Try.underlying23 h with ⟨hcs, _⟩ | ⟨a, len, cap, m, k, D, Pl, hcs, _, hl, hcm, hmm, _, hx⟩
  · obtain rfl : v = .slice none 0 0 := by simpa using hcs
    exact ⟨none, [], 0, rfl, .inl rfl, Nat.zero_le _, fun _ => ⟨rfl, rfl⟩⟩
  · obtain rfl : v = .slice (some a) len cap := by simpa using hcs
    simp only [if_true] at hmm
    subst hmm
    rw [cellsI] at hx
    by_cases h0 : len = 0
    · subst h0
      exact ⟨some a, [], m, rfl, .inl rfl, Nat.zero_le _, fun h => by cases h⟩
    · have each : ∀ i, i < len → ∃ z, W.cell? (a.add i) = some (.int .i64 z) := fun i hi => by
        obtain ⟨cs', h1, h2⟩ := hx i (by omega)
        obtain ⟨_, hlen, hcell⟩ := World.cells?_some h1
        obtain ⟨z, rfl, _, _⟩ := DataW.trod_int Try.underlying3 h2
        have e := hcell 0 (by omega)
        rw [Go.Deep.add_add, Nat.mul_one, Nat.add_zero] at e
        exact ⟨z, e⟩
      clear hx
      obtain ⟨b, o, sp⟩ := a
      cases sp with
      | some s =>
        obtain ⟨z, e⟩ := each 0 (by omega)
        exact (none_cell e).elim
      | none =>
        simp only [add_plain] at each
        have hlt : b < W.heap.size := by
          obtain ⟨z, e⟩ := each 0 (by omega)
          exact block_lt_of_cell e
        obtain ⟨q, hq⟩ := pick_lt (0 : Int) each
        refine ⟨some ⟨b, o, none⟩, (List.range len).map q, m, by simp, .inr ⟨b, o, rfl, hlt, fun i hi => ?_⟩, by simp; omega, fun h => by cases h⟩
        have hi2 : i < len := by simpa using hi
        rw [hq i hi2]
        simp [List.getD_eq_getElem?_getD, List.getElem?_range hi2]
theorem lists_of (h : DataW.trod enc Try.prog W 0 (fun _ => true) true n 22 [v] = some y) : ∃ (a : Option Addr) (C : List Ls) (c : Nat), v = .slice a C.length c ∧ LsIn W a C ∧ C.length ≤ maxLen ∧ (∀ q, q < C.length → (C.getD q Ls.zero).L.length ≤ maxLen) ∧ (a = none → C = [] ∧ c = 0) ∧ C.length ≤ c := by
  rcases Go.Deep.open_slice Try.underlying22 h with ⟨hcs, _⟩ | ⟨a, len, cap, m, k, D, Pl, hcs, _, hl, hcm, hmm, _, hx⟩
  · obtain rfl : v = .slice none 0 0 := by simpa using hcs
    exact ⟨none, [], 0, rfl, .inl rfl, Nat.zero_le _, fun q hq => by simp at hq, fun _ => ⟨rfl, rfl⟩, Nat.le_refl _⟩
  · obtain rfl : v = .slice (some a) len cap := by simpa using hcs
    simp only [if_true] at hmm
    subst hmm
    rw [cellsL] at hx
    by_cases h0 : len = 0
    · subst h0
      exact ⟨some a, [], m, rfl, .inl rfl, Nat.zero_le _, fun q hq => by simp at hq, fun h => (by cases h), Nat.zero_le _⟩
    · have each : ∀ i, i < len → ∃ l : Ls, W.cell? (a.add i) = some l.v ∧ NsIn W l.a l.L ∧ l.L.length ≤ maxLen := fun i hi => by
        obtain ⟨cs', h1, h2⟩ := hx i (by omega)
        obtain ⟨_, hlen, hcell⟩ := World.cells?_some h1
        match cs', hlen with
        | [u], _ =>
          obtain ⟨a', L', c', rfl, h3, h4, _⟩ := ints_of h2
          have e := hcell 0 (by omega)
          rw [Go.Deep.add_add, Nat.mul_one, Nat.add_zero] at e
          exact ⟨⟨a', L', c'⟩, e, h3, h4⟩
      clear hx
      obtain ⟨q, hq⟩ := pick_lt Ls.zero each
      clear each
      obtain ⟨b, o, sp⟩ := a
      cases sp with
      | some s => exact (none_cell (hq 0 (by omega)).1).elim
      | none =>
        simp only [add_plain] at hq
        have e : ∀ i, i < len → ((List.range len).map q).getD i Ls.zero = q i := fun i hi2 => by simp [List.getD_eq_getElem?_getD, List.getElem?_range hi2]
        refine ⟨some ⟨b, o, none⟩, (List.range len).map q, m, by simp, .inr ⟨b, o, rfl, block_lt_of_cell (hq 0 (by omega)).1, fun i hi => ?_⟩, by simp; omega, fun i hi => ?_, fun h => (by cases h), by simpa using hl⟩
        · have hi2 : i < len := by simpa using hi
          rw [e i hi2]
          exact ⟨(hq i hi2).1, (hq i hi2).2.1⟩
        · have hi2 : i < len := by simpa using hi
          rw [e i hi2]
          exact (hq i hi2).2.2
end
end Mem
end Go.Proofs.Ythahhibenejgfaa
