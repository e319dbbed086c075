/-
  The row of some lists and of one of 21 zeros, made in any of three orders. Conditions: those that the theorems print.
-/
import Derived.Test.YthahhibenejgfaaMemL2
namespace Go.Proofs.Ythahhibenejgfaa
open Go.RowKit Mem
namespace Mem
def MoreOk (w w' : World) (C : List Ls) (v : Value) : Prop :=
  ∃ B g, w'.ownsRow B 23 1 v (0 + C.length + 1) ([] ++ lvs C ++ lvs [z21 g]) ∧ w'.heap[g]? = some Z21 ∧ Below w.heap.size w w'
theorem none_own : (Value.slice none 0 0).ownBlock = none := rfl
theorem more_a {w w4 w5 : World} {C : List Ls} {v4 v5 : Value} {n : Nat} {xs : List Value} (h4 : w4.ownsRow w.drew.heap.size 23 1 v4 n xs) (g4 : w.drew.grownBy w4 (Value.slice none 0 0).ownBlock)
    (h5 : w5.ownsRow w.drew.heap.size 23 1 v5 (0 + C.length + 1) ([] ++ lvs C ++ lvs [z21 w4.heap.size])) (g5 : ((w4.alloc Z21).alloc (row1 w4.heap.size)).grownBy w5 v4.ownBlock) : MoreOk w w5 C v5 := by
  have hs := g4.size
  refine ⟨_, _, h5, grown_past (new_past (new_at w4 Z21 _ rfl)) g5 (fun e => ?_), ?_⟩
  · have := (h4.lt _ e).2
    omega
  · exact ((((Below.refl w.heap.size w).drew.grown g4 (Nat.le_refl _) (fun j hj => by simp [none_own] at hj)).alloc hs _).alloc (Nat.le_trans hs (by simp)) _).grown g5 (Nat.le_trans hs (by simp; omega)) (fun j hj => (h4.lt j hj).1)
theorem more_b {w w4 w5 : World} {C : List Ls} {v4 v5 : Value} {n : Nat} {xs : List Value} (h4 : w4.ownsRow (w.drew.alloc Z21).heap.size 23 1 v4 n xs) (g4 : (w.drew.alloc Z21).grownBy w4 (Value.slice none 0 0).ownBlock)
    (h5 : w5.ownsRow (w.drew.alloc Z21).heap.size 23 1 v5 (0 + C.length + 1) ([] ++ lvs C ++ lvs [z21 w.heap.size])) (g5 : (w4.alloc (row1 w.heap.size)).grownBy w5 v4.ownBlock) : MoreOk w w5 C v5 := by
  have hs := g4.size
  have hz : (w.drew.alloc Z21).heap.size = w.heap.size + 1 := by simp
  refine ⟨_, _, h5, grown_past (new_past (grown_past (new_at w.drew Z21 _ rfl) g4 (by simp [none_own]))) g5 (fun e => ?_), ?_⟩
  · have h1 := (h4.lt _ e).1
    rw [hz] at h1
    have : w.drew.heap.size = w.heap.size := rfl
    omega
  · have h1 : Below w.heap.size w (w.drew.alloc Z21) := (Below.refl w.heap.size w).drew.alloc (Nat.le_refl _) _
    refine ((h1.grown g4 (by omega) (fun j hj => by simp [none_own] at hj)).alloc (by omega) _).grown g5 (by simp; omega) (fun j hj => ?_)
    have := (h4.lt j hj).1
    omega
theorem more_c {w w4 w5 : World} {C : List Ls} {v4 v5 : Value} {n : Nat} {xs : List Value} (h4 : w4.ownsRow ((w.drew.alloc Z21).alloc (row1 w.heap.size)).heap.size 23 1 v4 n xs) (g4 : ((w.drew.alloc Z21).alloc (row1 w.heap.size)).grownBy w4 (Value.slice none 0 0).ownBlock)
    (h5 : w5.ownsRow ((w.drew.alloc Z21).alloc (row1 w.heap.size)).heap.size 23 1 v5 (0 + C.length + 1) ([] ++ lvs C ++ lvs [z21 w.heap.size])) (g5 : w4.grownBy w5 v4.ownBlock) : MoreOk w w5 C v5 := by
  have hs := g4.size
  have hz : ((w.drew.alloc Z21).alloc (row1 w.heap.size)).heap.size = w.heap.size + 1 + 1 := by simp
  refine ⟨_, _, h5, grown_past (grown_past (new_past (new_at w.drew Z21 _ rfl)) g4 (by simp [none_own])) g5 (fun e => ?_), ?_⟩
  · have h1 := (h4.lt _ e).1
    rw [hz] at h1
    have : w.drew.heap.size = w.heap.size := rfl
    omega
  · have h1 : Below w.heap.size w ((w.drew.alloc Z21).alloc (row1 w.heap.size)) := ((Below.refl w.heap.size w).drew.alloc (Nat.le_refl _) _).alloc (by simp) _
    refine (h1.grown g4 (by omega) (fun j hj => by simp [none_own] at hj)).grown g5 (by omega) (fun j hj => ?_)
    have := (h4.lt j hj).1
    omega
/-- the row of two blocks is where order c has laid it -/
theorem more_c_row {w w4 : World} (g4 : ((w.drew.alloc Z21).alloc (row1 w.heap.size)).grownBy w4 (Value.slice none 0 0).ownBlock) : w4.heap[w.heap.size + 1]? = some (row1 w.heap.size) :=
  grown_past (new_at _ _ _ (by simp)) g4 (by simp [none_own])
theorem more_lv {w w' : World} {a : Option Addr} {C : List Ls} {c : Nat} {v : Value} (h : MoreOk w w' C v) (hl : Lv w a C c) (hC : C.length ≤ 60) :
    ∃ (a' : Option Addr) (E : List Ls) (c' : Nat), v = .slice a' E.length c' ∧ Lv w' a' E c' ∧ mL E = mL C ++ [List.replicate 21 0] ∧ Below w.heap.size w w' := by
  obtain ⟨B, g, h1, h2, h3⟩ := h
  have e : [] ++ lvs C ++ lvs [z21 g] = lvs (C ++ [z21 g]) := by rw [lvs_append, List.nil_append]
  rw [e] at h1
  have hn : 0 + C.length + 1 = (C ++ [z21 g]).length := by simp
  obtain ⟨a', c', rfl, h4, h5⟩ := own_ls h1 hn (fun x hx => by
    rcases List.mem_append.1 hx with hx | hx
    · exact (ns_mem hl.on x hx).next h3
    · rcases List.mem_cons.1 hx with rfl | hx
      · exact z21_in h2
      · cases hx)
  refine ⟨a', _, c', by rw [hn], ⟨h4, ?_, fun x hx => ?_, h5⟩, by simp [mL, z21], h3⟩
  · simp; omega
  · rcases List.mem_append.1 hx with hx | hx
    · exact hl.each x hx
    · rcases List.mem_cons.1 hx with rfl | hx
      · simp [z21]
      · cases hx
/-- what is in the longer row -/
theorem more_has {C E : List Ls} (h : mL E = mL C ++ [List.replicate 21 0]) : decide (∀ L ∈ mL C, L ∈ mL E) = true := by
  rw [decide_eq_true_iff, h]
  exact fun L hL => List.mem_append_left _ hL
theorem more_not {C E : List Ls} (h : mL E = mL C ++ [List.replicate 21 0]) (hf : Few C) : decide (∀ L ∈ mL E, L ∈ mL C) = false := by
  rw [decide_eq_false_iff_not, h]
  exact fun g => z21_not hf 0 (g _ (List.mem_append_right _ (List.mem_singleton.2 rfl)))
end Mem
end Go.Proofs.Ythahhibenejgfaa
