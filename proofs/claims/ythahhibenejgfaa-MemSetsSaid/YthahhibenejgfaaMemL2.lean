/-
  The list of 21 zeros, as make lays it. Conditions: none.
-/
import Derived.Test.YthahhibenejgfaaMemL
namespace Go.Proofs.Ythahhibenejgfaa
open Go.RowKit Mem
namespace Mem
def Z21 : Obj := .cells #[.int .i64 0, .int .i64 0, .int .i64 0, .int .i64 0, .int .i64 0, .int .i64 0, .int .i64 0, .int .i64 0, .int .i64 0, .int .i64 0, .int .i64 0, .int .i64 0, .int .i64 0, .int .i64 0, .int .i64 0, .int .i64 0, .int .i64 0, .int .i64 0, .int .i64 0, .int .i64 0, .int .i64 0] 3
theorem mk21 (w : World) : (Instr.makeSlice 23 (.int .i64 21) (.int .i64 21)).run Try.prog w = .ok (.slice (some ⟨w.heap.size, 0, none⟩) 21 21) (w.alloc Z21) := by kernel_rfl
def z21 (g : Nat) : Ls := ⟨some ⟨g, 0, none⟩, List.replicate 21 0, 21⟩
theorem z21_in {w : World} {g : Nat} (h : w.heap[g]? = some Z21) : NsIn w (z21 g).a (z21 g).L := by
  refine .inr ⟨g, 0, rfl, (Array.getElem?_eq_some_iff.1 h).1, fun q hq => ?_⟩
  have hq2 : q < 21 := by simpa [z21] using hq
  have e := cell_of_row w g (0 + q) _ _ _ h
  rw [e]
  show _ = some (Value.int .i64 ((List.replicate 21 0).getD q 0))
  exact match q, hq2 with
    | 0, _ => rfl
    | 1, _ => rfl
    | 2, _ => rfl
    | 3, _ => rfl
    | 4, _ => rfl
    | 5, _ => rfl
    | 6, _ => rfl
    | 7, _ => rfl
    | 8, _ => rfl
    | 9, _ => rfl
    | 10, _ => rfl
    | 11, _ => rfl
    | 12, _ => rfl
    | 13, _ => rfl
    | 14, _ => rfl
    | 15, _ => rfl
    | 16, _ => rfl
    | 17, _ => rfl
    | 18, _ => rfl
    | 19, _ => rfl
    | 20, _ => rfl
    | q + 21, h => absurd h (by omega)
/-- a row of one list, as a literal lays it -/
def row1 (g : Nat) : Obj := .cells #[.slice (some ⟨g, 0, none⟩) 21 21] 23
theorem row1_news {w : World} {g h : Nat} (e : w.heap[h]? = some (row1 g)) : ∀ j u, (lvs [z21 g])[j]? = some u → w.cell? ((⟨h, 0, none⟩ : Addr).add j) = some u :=
  World.news_of_block e
theorem new_at (w : World) (o : Obj) (n : Nat) (h : n = w.heap.size) : (w.alloc o).heap[n]? = some o := by
  subst h
  exact heap_alloc_new w o
theorem new_past {w : World} {o o' : Obj} {n : Nat} (h : w.heap[n]? = some o) : (w.alloc o').heap[n]? = some o := by
  rw [((Below.refl w.heap.size w).alloc (Nat.le_refl _) o').block n (Array.getElem?_eq_some_iff.1 h).1]
  exact h
theorem grown_past {w w' : World} {o : Obj} {n : Nat} {r : Option Nat} (h : w.heap[n]? = some o) (hg : w.grownBy w' r) (hn : r ≠ some n) : w'.heap[n]? = some o := by
  rw [hg.block n (Array.getElem?_eq_some_iff.1 h).1 (fun e => hn e.symm)]
  exact h
theorem z21_not {C : List Ls} (h : Few C) (g : Nat) : (z21 g).L ∉ mL C := by
  unfold mL
  rw [List.mem_map]
  rintro ⟨x, hx, e⟩
  have := few_mem h hx
  rw [e] at this
  simp [z21] at this
end Mem
end Go.Proofs.Ythahhibenejgfaa
