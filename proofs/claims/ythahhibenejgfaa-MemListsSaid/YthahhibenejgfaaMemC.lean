/-
  slices.SortFunc by mem.compare over a row of lists of the call's own. Conditions: the lists in memory; slices.SortFunc's contract.
-/
import Derived.Test.YthahhibenejgfaaMemB
namespace Go.Proofs.Ythahhibenejgfaa
open Go.RowKit Mem
open Go.Sort (SWO PermIn SortedIn putRow putCells mapBlock onCells Holds grow)
namespace Mem
/-- slices.SortFunc's contract, by mem.compare -/
def SortC : Prop := ∀ (enc : Nat → Value) (_ : OneCell enc) (cf : Nat → Nat → Int) (_ : SWO (ltOf cf)) (blk off cap : Nat) (d : Array Nat) (w : World)
    (_ : CmpLays1 Try.prog 20 #[] enc cf blk off d.size w) (_ : Holds enc w blk off d) (_ : blk < w.heap.size) (_ : d.size < 4611686018427387904),
    Calls Try.prog 19 #[.slice (some ⟨blk, off, none⟩) d.size cap, .func (.func 20) #[] #[]] w fun e w' =>
      e = .returned (.tuple #[]) ∧ ∃ d' n os, PermIn 0 d.size d d' ∧ SortedIn (ltOf cf) 0 d.size d' ∧ w' = sortWorld enc w blk off n d' os
def SortN : Prop := ∀ (p : Option Addr) (cap : Nat) (w : World), Calls Try.prog 19 #[.slice p 0 cap, .func (.func 20) #[] #[]] w fun e w' => e = .returned (.tuple #[]) ∧ w' = w
theorem sw_heap (enc : Nat → Value) (w : World) (g m : Nat) (dk : Array Nat) (os : Array Obj) : (sortWorld enc w g 0 m dk os).heap = w.heap.modify g (onCells (putCells enc 0 dk)) ++ os := rfl
theorem below_sw {w0 w : World} (h : Below w0.heap.size w0 w) {g : Nat} (hg : w0.heap.size ≤ g) (enc : Nat → Value) (m : Nat) (dk : Array Nat) (os : Array Obj) : Below w0.heap.size w0 (sortWorld enc w g 0 m dk os) := by
  refine ⟨h.os, h.tape, h.output, ?_, fun k hk => ?_⟩
  · rw [sw_heap]
    have := h.size
    simp
    omega
  · rw [sw_heap, ← h.block k hk]
    have hs := h.size
    rw [Array.getElem?_append_left (by simp; omega), Array.getElem?_modify, if_neg (by omega)]
theorem range_get (n j : Nat) (h : j < n) : (List.range n).toArray[j]! = j := by
  rw [getElem!_pos _ _ (by simpa using h)]
  simp
theorem getD_map {C : List Ls} : (List.range C.length).map (fun i => C.getD i Ls.zero) = C := by
  apply List.ext_getElem
  · simp
  · intro i h1 h2
    simp [List.getD_eq_getElem?_getD, List.getElem?_eq_getElem h2]
theorem compare_sw (C : List Ls) (w0 w : World) (a : Option Addr) (hin : LsIn w0 a C) (hl : ∀ q, q < C.length → (C.getD q Ls.zero).L.length ≤ 1000000) (h : Below w0.heap.size w0 w) (g : Nat) (hg : w0.heap.size ≤ g) (n : Nat) :
    CmpLays1 Try.prog 20 #[] (fun i => (C.getD i Ls.zero).v) (cfL fun i => (C.getD i Ls.zero).L) g 0 n w := by
  intro m os dk _ x y
  have hx : ∀ i w', Below w0.heap.size w0 w' → NsIn w' (C.getD i Ls.zero).a (C.getD i Ls.zero).L := fun i w' hb => by
    rcases Nat.lt_or_ge i C.length with q | q
    · rcases hin with rfl | ⟨b, o, _, _, h3⟩
      · simp at q
      · exact (h3 i q).2.next hb
    · rw [List.getD_eq_getElem?_getD, List.getElem?_eq_none q]; exact .inl rfl
  have hlx : ∀ i, (C.getD i Ls.zero).L.length ≤ 1000000 := fun i => by
    rcases Nat.lt_or_ge i C.length with q | q
    · exact hl i q
    · rw [List.getD_eq_getElem?_getD, List.getElem?_eq_none q]; simp [Ls.zero]
  have hB := below_sw h hg (fun i => (C.getD i Ls.zero).v) m dk os
  refine (compare_l (C.getD x Ls.zero) (C.getD y Ls.zero) _ (hx x _ hB) (hx y _ hB) (hlx x) (hlx y)).mono ?_
  rintro e w' ⟨rfl, q, rfl⟩
  exact ⟨rfl, q, #[], by rw [Go.Sort.grow_empty]⟩
theorem sort_own (HS : SortC) (HN : SortN) (C : List Ls) (w0 w : World) (a : Option Addr) (v : Value) (hin : LsIn w0 a C) (hc : C.length ≤ 1000000) (hl : ∀ q, q < C.length → (C.getD q Ls.zero).L.length ≤ 1000000)
    (h : Below w0.heap.size w0 w) (ho : w.ownsRow w0.heap.size 23 1 v C.length (lvs C)) :
    Calls Try.prog 19 #[v, .func (.func 20) #[] #[]] w fun e w' => e = .returned (.tuple #[]) ∧ ∃ D : List Ls, D.Perm C ∧ (∀ i j, i < j → j < D.length → ¬ Lt (D.getD j Ls.zero).L (D.getD i Ls.zero).L) ∧ w'.ownsRow w0.heap.size 23 1 v C.length (lvs D) ∧ Below w0.heap.size w0 w' := by
  have ho0 := ho
  obtain ⟨hlen, ⟨rfl, h0⟩ | ⟨g, cap, cur, rfl, hg, h3, hn1, hn2, h5, h6⟩⟩ := ho
  · have hC : C = [] := List.length_eq_zero_iff.1 h0
    subst hC
    refine (HN none 0 w).mono ?_
    rintro e w' ⟨rfl, rfl⟩
    exact ⟨rfl, [], List.Perm.refl _, fun i j _ hj => by simp at hj, ho0, h⟩
  · have hgl := (Array.getElem?_eq_some_iff.1 h3).1
    have hd : (List.range C.length).toArray.size = C.length := by simp
    have hcell : ∀ j, j < C.length → cur[j]? = some (C.getD j Ls.zero).v := fun j hj => by
      have e : (lvs C)[j]? = some (C.getD j Ls.zero).v := by
        unfold lvs
        rw [List.getElem?_map, List.getD_eq_getElem?_getD, List.getElem?_eq_getElem hj]
        rfl
      rw [← h6, List.getElem?_take] at e
      split at e
      · simpa using e
      · cases e
    have hH : Holds (fun i => (C.getD i Ls.zero).v) w g 0 (List.range C.length).toArray := fun j hj => by
      rw [hd] at hj
      rw [range_get _ _ hj]
      refine ⟨?_, ?_⟩
      · rw [cell_of_row _ _ _ _ _ _ h3, Nat.zero_add]; exact hcell j hj
      · unfold World.frozen?
        simp [h3]
    have key := HS (fun i => (C.getD i Ls.zero).v) (fun _ => rfl) (cfL fun i => (C.getD i Ls.zero).L) (swo _) g 0 cap (List.range C.length).toArray w (compare_sw C w0 w a hin hl h g hg _) hH hgl (by rw [hd]; omega)
    rw [hd] at key
    refine key.mono ?_
    rintro e w' ⟨rfl, d', n, os, ⟨hp1, _, hp3⟩, hsrt, rfl⟩
    rw [hd] at hp1
    have hx1 : (d'.extract 0 C.length).toList = d'.toList := by simp [← hp1]
    have hx2 : ((List.range C.length).toArray.extract 0 C.length).toList = List.range C.length := by simp
    rw [hx1, hx2] at hp3
    refine ⟨rfl, d'.toList.map (fun i => C.getD i Ls.zero), ?_, fun i j hij hj => ?_, ?_, below_sw h hg _ _ _ _⟩
    · exact (hp3.map _).trans (by rw [getD_map])
    · have hj' : j < d'.size := by simpa using hj
      have := hsrt i j (Nat.zero_le _) hij (by omega)
      rw [getElem!_pos d' j hj', getElem!_pos d' i (by omega)] at this
      unfold ltOf cfL at this
      have h2 := of_decide_eq_false this
      have e1 : ∀ k, k < d'.size → ((d'.toList.map (fun i => C.getD i Ls.zero)).getD k Ls.zero) = C.getD (d'[k]!) Ls.zero := fun k hk => by
        rw [List.getD_eq_getElem?_getD, List.getElem?_map, getElem!_pos d' k hk]
        simp [hk]
      rw [e1 j hj', e1 i (by omega), getElem!_pos d' j hj', getElem!_pos d' i (by omega)]
      exact h2
    · refine ⟨by simp [lvs, hp1], .inr ⟨g, cap, putCells (fun i => (C.getD i Ls.zero).v) 0 d' cur, rfl, hg, ?_, hn1, hn2, by simp [putCells, h5], ?_⟩⟩
      · rw [sw_heap, Array.getElem?_append_left (by simpa using hgl), Array.getElem?_modify, if_pos rfl, h3]
        rfl
      · apply List.ext_getElem?
        intro k
        rw [List.getElem?_take]
        unfold lvs
        rw [List.getElem?_map, List.getElem?_map, Nat.mul_one]
        by_cases hk : k < C.length
        · have hkd : k < d'.size := by omega
          have hkc : k < cur.size := by omega
          rw [if_pos hk]
          simp [putCells, hkd, hkc]
        · rw [if_neg hk, Array.getElem?_toList, Array.getElem?_eq_none (by omega)]
          rfl
end Mem
end Go.Proofs.Ythahhibenejgfaa
