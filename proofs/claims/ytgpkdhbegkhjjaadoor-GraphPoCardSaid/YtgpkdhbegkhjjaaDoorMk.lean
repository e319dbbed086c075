/-
  What the functions that the law reaches do, one by one: contracts. Conditions: those that each of them prints.
-/
import Derived.Test.YtgpkdhbegkhjjaaDoorMj
import Derived.BigRegion
namespace Go.Proofs.YtgpkdhbegkhjjaaDoor
open Go.RowKit RelA
attribute [local irreducible] RelA.rcells
namespace RelA
theorem ofM_snocs (n : Nat) (l m : List (Int × Int)) : ofM n (l ++ m) = m.foldl (rstep n) (ofM n l) := by
  unfold ofM rnewM
  rw [List.foldl_append]
/-- what Loc's loops have made of a matrix: the places ahead are cut down -/
def cutTo (N k q : Nat) (F M0 : Nat → Nat → Bool) : Nat → Nat → Bool := fun i j => if (i < k ∧ j < N) ∨ (i = k ∧ j < q) then F i j else M0 i j
theorem cutTo_zero (N : Nat) (F M0 : Nat → Nat → Bool) (i j : Nat) : cutTo N 0 0 F M0 i j = M0 i j := by unfold cutTo; rw [if_neg (by omega)]
theorem cutTo_at (N k q : Nat) (F M0 : Nat → Nat → Bool) : cutTo N k q F M0 k q = M0 k q := by unfold cutTo; rw [if_neg (by omega)]
theorem cutTo_step (N k q : Nat) (F M0 : Nat → Nat → Bool) (i j : Nat) : updM (cutTo N k q F M0) k q (F k q) i j = cutTo N k (q + 1) F M0 i j := by
  unfold updM cutTo
  by_cases h : i = k ∧ j = q
  · rw [if_pos h]; obtain ⟨rfl, rfl⟩ := h; rw [if_pos (by omega)]
  · rw [if_neg h]
    by_cases h1 : (i < k ∧ j < N) ∨ (i = k ∧ j < q)
    · rw [if_pos h1, if_pos (by omega)]
    · rw [if_neg h1, if_neg (by omega)]
theorem cutTo_row (N k : Nat) (F M0 : Nat → Nat → Bool) (i j : Nat) : cutTo N k N F M0 i j = cutTo N (k + 1) 0 F M0 i j := by
  unfold cutTo
  by_cases h1 : (i < k ∧ j < N) ∨ (i = k ∧ j < N)
  · rw [if_pos h1, if_pos (by omega)]
  · rw [if_neg h1, if_neg (by omega)]
theorem two_first (w : World) (t : TypeId) (cs cs2 : Array Value) (j : Nat) : ((w.alloc (.cells cs t (0, 0))).alloc (.cells cs2 t (0, 0))).cell? ⟨w.heap.size, j, none⟩ = cs[j]? := by
  have hb : Below (w.alloc (.cells cs t (0, 0))).heap.size (w.alloc (.cells cs t (0, 0))) ((w.alloc (.cells cs t (0, 0))).alloc (.cells cs2 t (0, 0))) := (Below.refl _ _).alloc (Nat.le_refl _) _
  have h1 := hb.cell (p := ⟨w.heap.size, j, none⟩) (by simp)
  rw [h1, cell_of_row _ _ _ _ _ _ (heap_alloc_new _ _)]
theorem two_second (w : World) (t : TypeId) (cs cs2 : Array Value) (j : Nat) : ((w.alloc (.cells cs t (0, 0))).alloc (.cells cs2 t (0, 0))).cell? ⟨w.heap.size + 1, j, none⟩ = cs2[j]? := by
  have e : w.heap.size + 1 = (w.alloc (.cells cs t (0, 0))).heap.size := by simp
  rw [e, cell_of_row _ _ _ _ _ _ (heap_alloc_new _ _)]
theorem wf_loc (E : List Ev) : WFM E.length (locM E) := fun i j a => by
  unfold locM at a; rw [Bool.and_eq_true] at a; exact wf_po E i j a.1
theorem cutTo_full (E : List Ev) (k : Nat) (h : k = E.length) (i j : Nat) : cutTo E.length k 0 (locM E) (poM E) i j = locM E i j := by
  unfold cutTo
  split
  · rfl
  · rename_i h1
    have h2 : poM E i j = false := by
      rw [← Bool.not_eq_true]
      intro a
      have := wf_po E i j a
      omega
    unfold locM
    rw [h2]; rfl
end RelA
end Go.Proofs.YtgpkdhbegkhjjaaDoor
