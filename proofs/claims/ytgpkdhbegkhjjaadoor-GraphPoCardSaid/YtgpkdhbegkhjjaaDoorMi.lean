/-
  What the functions that the law reaches do, one by one: contracts. Conditions: those that each of them prints.
-/
import Derived.Test.YtgpkdhbegkhjjaaDoorMh
import Derived.BigRegion
namespace Go.Proofs.YtgpkdhbegkhjjaaDoor
open Go.RowKit RelA
attribute [local irreducible] RelA.rcells
theorem clamp40 {n : Nat} (h : n ≤ 40) : clampN (n : Int) = n := by unfold clampN; omega
namespace RelA
def poR (e f : Int) : Bool := (e == 0 && decide (0 < f)) || (decide (0 < e) && e == f)
def poRM (E : List Ev) : Nat → Nat → Bool := fun i j => (decide (i < j) && decide (j < E.length)) && poR (Ev.at E i).th (Ev.at E j).th
theorem wf_poR (E : List Ev) : WFM E.length (poRM E) := fun i j a => by
  unfold poRM at a
  rw [Bool.and_eq_true, Bool.and_eq_true, decide_eq_true_eq, decide_eq_true_eq] at a
  omega
/-- no thread is below 0 -/
def ThOk (E : List Ev) : Prop := ∀ i, 0 ≤ (Ev.at E i).th
theorem poR_eq {E : List Ev} (h : ThOk E) : poRM E = poM E := by
  funext i j
  unfold poRM poM
  have h1 := h i
  have h2 := h j
  generalize (Ev.at E i).th = x at *
  generalize (Ev.at E j).th = y at *
  congr 1
  unfold poR poB
  rw [Bool.eq_iff_iff]
  simp only [Bool.or_eq_true, Bool.and_eq_true, beq_iff_eq, bne_iff_ne, decide_eq_true_eq]
  omega
theorem full_congr {n : Nat} {F : Nat → Nat → Bool} (h : WFM n F) (i j : Nat) : rfull n F i j = F i j := by rw [full_id h]
end RelA
end Go.Proofs.YtgpkdhbegkhjjaaDoor
namespace Go.Proofs.YtgpkdhbegkhjjaaDoor
open Go.RowKit RelA
attribute [local irreducible] RelA.rcells
namespace RelA
def kindB (kind lo hi : Int) (e : Ev) : Bool := ((e.kd == kind) && decide (lo ≤ e.md)) && decide (e.md ≤ hi)
def kM (g : Gr) (kind lo hi : Int) : Nat → Nat → Bool := diagM g.n fun i => kindB kind lo hi (Ev.at g.E i)
/-- the diagonal ahead of k -/
def dgTo (_n k : Nat) (p : Nat → Bool) : Nat → Nat → Bool := fun i j => (decide (i = j) && decide (i < k)) && p i
theorem dgTo_zero (n : Nat) (p : Nat → Bool) (i j : Nat) : noneM i j = dgTo n 0 p i j := by unfold noneM dgTo; simp
theorem dgTo_step (n k : Nat) (p : Nat → Bool) (i j : Nat) : updM (dgTo n k p) k k (p k) i j = dgTo n (k + 1) p i j := by
  unfold updM dgTo
  by_cases h : i = k ∧ j = k
  · rw [if_pos h]; obtain ⟨rfl, rfl⟩ := h; simp
  · rw [if_neg h]
    by_cases e : i = j
    · subst e
      have h1 : ¬ i = k := fun e => h ⟨e, e⟩
      by_cases h2 : i < k
      · have : i < k + 1 := by omega
        simp [h2, this]
      · have : ¬ i < k + 1 := by omega
        simp [h2, this]
    · simp [e]
theorem dgTo_at (n k : Nat) (p : Nat → Bool) : dgTo n k p k k = false := by unfold dgTo; simp
theorem dgTo_full (n k : Nat) (p : Nat → Bool) (h : k = n) (i j : Nat) : dgTo n k p i j = diagM n p i j := by subst h; rfl
end RelA
end Go.Proofs.YtgpkdhbegkhjjaaDoor
