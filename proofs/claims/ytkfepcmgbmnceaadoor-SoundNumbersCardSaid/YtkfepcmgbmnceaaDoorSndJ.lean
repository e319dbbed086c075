import Derived.Test.YtkfepcmgbmnceaaDoorSndI
namespace Go.Proofs.YtkfepcmgbmnceaaDoor
open Go.RowKit ExprA SndA
namespace SndA
theorem thin_one {w : World} {l0 lc : Nat} {i : Ins} (h : LCells w l0 0 i) (hE : EIn w i) : ThIn w ⟨some ⟨l0, 0, none⟩, [i], lc⟩ := by
  refine ⟨.inr ⟨l0, 0, rfl, block_lt_of_cell h.c0, fun q hq => ?_⟩, by simp, fun q hq => ?_⟩
  · have e : q = 0 := by simpa using hq
    subst e
    exact h
  · have e : q = 0 := by simpa using hq
    subst e
    exact hE
theorem prin_one {w : World} {t0 : Nat} {th : Th} (hc : w.cell? ⟨t0, 0, none⟩ = some (.slice th.a th.L.length th.c)) (h : ThIn w th) : PrIn w (some ⟨t0, 0, none⟩) [th] := by
  refine ⟨by simp, by simp, ⟨t0, 0, rfl, block_lt_of_cell hc, fun t ht => ?_⟩, fun t ht => ?_⟩
  · have e : t = 0 := by simpa using ht
    subst e
    exact hc
  · have e : t = 0 := by simpa using ht
    subst e
    exact h
theorem alloc_old (w : World) (o : Obj) (i : Nat) (h : i < w.heap.size) : (w.alloc o).heap[i]? = w.heap[i]? := ((Below.refl w.heap.size w).alloc (Nat.le_refl _) o).block i h
theorem alloc_at (w : World) (o : Obj) (n : Nat) (h : n = w.heap.size) : (w.alloc o).heap[n]? = some o := by subst h; exact heap_alloc_new _ _
theorem heap5 (w : World) (a b c d e : Obj) : (((((w.alloc a).alloc b).alloc c).alloc d).alloc e).heap[w.heap.size]? = some a ∧ (((((w.alloc a).alloc b).alloc c).alloc d).alloc e).heap[w.heap.size + 1]? = some b ∧ (((((w.alloc a).alloc b).alloc c).alloc d).alloc e).heap[w.heap.size + 1 + 1]? = some c ∧ (((((w.alloc a).alloc b).alloc c).alloc d).alloc e).heap[w.heap.size + 1 + 1 + 1]? = some d ∧ (((((w.alloc a).alloc b).alloc c).alloc d).alloc e).heap[w.heap.size + 1 + 1 + 1 + 1]? = some e := by
  refine ⟨?_, ?_, ?_, ?_, ?_⟩
  · rw [alloc_old _ _ _ (by simp <;> omega), alloc_old _ _ _ (by simp <;> omega), alloc_old _ _ _ (by simp <;> omega), alloc_old _ _ _ (by simp), alloc_at _ _ _ rfl]
  · rw [alloc_old _ _ _ (by simp <;> omega), alloc_old _ _ _ (by simp <;> omega), alloc_old _ _ _ (by simp), alloc_at _ _ _ (by simp)]
  · rw [alloc_old _ _ _ (by simp <;> omega), alloc_old _ _ _ (by simp), alloc_at _ _ _ (by simp)]
  · rw [alloc_old _ _ _ (by simp), alloc_at _ _ _ (by simp)]
  · rw [alloc_at _ _ _ (by simp)]
theorem few_one (x : Int) : Few [(1, x)] := .inl rfl
def awI (e0 : Nat) (m : Int) : Ins := ⟨2, m, 0, 0, 0, 0, some ⟨e0, 0, none⟩, [(1, 1)], 1⟩
theorem aw_bad (e0 l0 : Nat) : errB 1 [⟨some ⟨l0, 0, none⟩, [awI e0 1], 1⟩] = 3 := by kernel_rfl
theorem aw_ok (e0 l0 : Nat) : errB 1 [⟨some ⟨l0, 0, none⟩, [awI e0 2], 1⟩] = 0 := by kernel_rfl
theorem aw_instr : instrB 2 2 0 0 0 0 [(1, 1)] 1 0 = true := by rfl
theorem aw_evs (e0 : Nat) : evsTo [awI e0 2] 1 = 1 := by rfl
theorem aw_paths (e0 : Nat) : pathsTo [awI e0 2] 1 = 1 := by rfl
end SndA
end Go.Proofs.YtkfepcmgbmnceaaDoor
