/-
  What the functions that the law reaches do, one by one: contracts. Conditions: those that each of them prints.
-/
import Derived.Test.YtgpkdhbegkhjjaaDoorMm
import Derived.BigRegion
import Derived.Deep.QuietTactic
import Derived.BigQuiet
namespace Go.Proofs.YtgpkdhbegkhjjaaDoor
end Go.Proofs.YtgpkdhbegkhjjaaDoor
namespace Go.Proofs.YtgpkdhbegkhjjaaDoor
open Go.RowKit RelA
namespace RelA
theorem two_first' (w : World) (t : TypeId) (cs cs2 : Array Value) (j : Nat) : ((w.alloc (.cells cs t (0, 0))).alloc (.cells cs2 t (0, 0))).cell? ⟨w.heap.size, j, none⟩ = cs[j]? := by
  have hb : Below (w.alloc (.cells cs t (0, 0))).heap.size (w.alloc (.cells cs t (0, 0))) ((w.alloc (.cells cs t (0, 0))).alloc (.cells cs2 t (0, 0))) := (Below.refl _ _).alloc (Nat.le_refl _) _
  have h1 := hb.cell (p := ⟨w.heap.size, j, none⟩) (by simp)
  rw [h1, cell_of_row _ _ _ _ _ _ (heap_alloc_new _ _)]
theorem two_second' (w : World) (t : TypeId) (cs cs2 : Array Value) (j : Nat) : ((w.alloc (.cells cs t (0, 0))).alloc (.cells cs2 t (0, 0))).cell? ⟨w.heap.size + 1, j, none⟩ = cs2[j]? := by
  have e : w.heap.size + 1 = (w.alloc (.cells cs t (0, 0))).heap.size := by simp
  rw [e, cell_of_row _ _ _ _ _ _ (heap_alloc_new _ _)]
/-- forty numbers in a block of their own -/
def ncells (f : Nat → Int) : Array Value := ((List.range 40).map fun i => Value.int .i64 (f i)).toArray
theorem ncells_get (f : Nat → Int) (i : Nat) (hi : i < 40) : (ncells f)[i]? = some (.int .i64 (f i)) := by
  unfold ncells; simp [hi]
def updI (f : Nat → Int) (a : Nat) (v : Int) : Nat → Int := fun i => if i = a then v else f i
theorem ncells_set (f : Nat → Int) (a : Nat) (v : Int) : (ncells f).setIfInBounds a (.int .i64 v) = ncells (updI f a v) := by
  apply Array.ext'
  rw [Array.toList_setIfInBounds]
  unfold ncells
  apply List.ext_getElem?
  intro k
  rw [List.getElem?_set]
  by_cases e : a = k
  · subst e
    by_cases hk : a < 40
    · simp [hk, updI]
    · simp [hk]
  · have e' : ¬ k = a := fun x => e x.symm
    rw [if_neg e]
    by_cases hk : k < 40
    · simp [hk, updI, e']
    · simp [hk]
/-- how many of the pairs ahead of k have an event in them -/
def cntR (L : List (Int × Int)) : Nat → Nat → Int
  | 0, _ => 0
  | k + 1, i => cntR L k i + (if (L.getD k (0, 0)).1 = i then 1 else 0) + (if (L.getD k (0, 0)).2 = i then 1 else 0)
theorem cntR_le (L : List (Int × Int)) (k i : Nat) : 0 ≤ cntR L k i ∧ cntR L k i ≤ 2 * k := by
  induction k with
  | zero => exact ⟨Int.le_refl _, Int.le_refl _⟩
  | succ k ih =>
    unfold cntR
    constructor
    · split <;> split <;> omega
    · split <;> split <;> omega
theorem cntR_step (L : List (Int × Int)) (k m n : Nat) (e : L.getD k (0, 0) = ((m : Int), (n : Int))) (h : n = m + 1) : updI (updI (cntR L k) m (cntR L k m + 1)) n (cntR L k n + 1) = cntR L (k + 1) := by
  funext i
  show _ = cntR L k i + (if (L.getD k (0, 0)).1 = i then 1 else 0) + (if (L.getD k (0, 0)).2 = i then 1 else 0)
  rw [e]
  unfold updI
  by_cases h1 : i = n
  · subst h1
    rw [if_pos rfl, if_neg (by show ¬ (m : Int) = _; omega), if_pos rfl]
    omega
  · rw [if_neg h1]
    by_cases h2 : i = m
    · subst h2
      rw [if_pos rfl, if_pos rfl, if_neg (by show ¬ (n : Int) = _; omega)]
      omega
    · rw [if_neg h2, if_neg (by show ¬ (m : Int) = _; omega), if_neg (by show ¬ (n : Int) = _; omega)]
      omega
/-- a check's answer -/
def Says (K : Prop) (w : World) (e : Ending) (w' : World) : Prop := ∃ x, e = .returned (.bool x) ∧ (x = true → K) ∧ Below w.heap.size w w'
theorem Says.no {K : Prop} {w w' : World} (h : Below w.heap.size w w') : Says K w (.returned (.bool false)) w' := ⟨false, rfl, (fun hx => by cases hx), h⟩
theorem Says.yes {K : Prop} {w w' : World} (h : Below w.heap.size w w') (k : K) : Says K w (.returned (.bool true)) w' := ⟨true, rfl, (fun _ => k), h⟩
/-- a pair of chapter 6's rmw -/
def RmwOk (E : List Ev) (p : Int × Int) : Prop := ∃ m n : Nat, p = ((m : Int), (n : Int)) ∧ n = m + 1 ∧ n < E.length ∧ (Ev.at E m).th = (Ev.at E n).th ∧ (Ev.at E m).kd = 1 ∧ (Ev.at E n).kd = 2 ∧ (Ev.at E m).lc = (Ev.at E n).lc ∧ (Ev.at E m).ex = true ∧ (Ev.at E n).ex = true
structure RmwsOk (E : List Ev) (L : List (Int × Int)) : Prop where
  at_ : ∀ k, k < L.length → RmwOk E (L.getD k (0, 0))
  ex : ∀ i, i < E.length → cntR L L.length i ≤ 1 ∧ ((Ev.at E i).ex = (cntR L L.length i == 1))
  up : RisingL L
end RelA
end Go.Proofs.YtgpkdhbegkhjjaaDoor
