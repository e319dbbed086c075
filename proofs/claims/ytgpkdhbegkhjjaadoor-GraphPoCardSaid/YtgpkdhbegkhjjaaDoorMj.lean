/-
  What the functions that the law reaches do, one by one: contracts. Conditions: those that each of them prints.
-/
import Derived.Test.YtgpkdhbegkhjjaaDoorMi
import Derived.BigRegion
namespace Go.Proofs.YtgpkdhbegkhjjaaDoor
open Go.RowKit RelA
attribute [local irreducible] RelA.rcells
namespace RelA
/-- what is read from is there -/
structure ROk (g : Gr) : Prop where
  rlen : g.R.length = g.n
  rlt : ∀ i, i < g.R.length → g.R.getD i 0 < (g.n : Int)
  clt : ∀ l, l < g.C.length → ∀ i, i < (g.C.getD l Ls.zero).L.length → 0 ≤ (g.C.getD l Ls.zero).L.getD i 0 ∧ (g.C.getD l Ls.zero).L.getD i 0 < (g.n : Int)
theorem ofM_snoc (n : Nat) (l : List (Int × Int)) (p : Int × Int) : ofM n (l ++ [p]) = rstep n (ofM n l) p := by
  unfold ofM rnewM
  rw [List.foldl_append]; rfl
theorem rstep_in {n : Nat} {M : Nat → Nat → Bool} {a b : Nat} (ha : a < n) (hb : b < n) : rstep n M ((a : Int), (b : Int)) = updM M a b true := by
  unfold rstep inB
  have h1 : decide (0 ≤ (a : Int) ∧ (a : Int) < (n : Int)) = true := by simp; omega
  have h2 : decide (0 ≤ (b : Int) ∧ (b : Int) < (n : Int)) = true := by simp; omega
  rw [h1, h2]; rfl
theorem rstep_out {n : Nat} {M : Nat → Nat → Bool} {a b : Int} (ha : a < 0) : rstep n M (a, b) = M := by
  unfold rstep inB
  have h1 : decide (0 ≤ a ∧ a < (n : Int)) = false := by simp; omega
  rw [h1]; rfl
theorem ofM_wf (n : Nat) (l : List (Int × Int)) : WFM n (ofM n l) := wf_new n l
end RelA
namespace RelA
theorem rpart_row2 (N k : Nat) (F : Nat → Nat → Bool) (i j : Nat) : rpart N k N F i j = rpart N (k + 1) 0 F i j := rpart_row N k F i j
def ptM (E : List Ev) (M : Nat → Nat → Bool) (one : Bool) : Nat → Nat → Bool := fun i j => M i j && (((Ev.at E i).th == (Ev.at E j).th) == one)
theorem pt_true (E : List Ev) (M : Nat → Nat → Bool) : ptM E M true = innerM E M := by
  funext i j; unfold ptM innerM; cases ((Ev.at E i).th == (Ev.at E j).th) <;> rfl
theorem pt_false (E : List Ev) (M : Nat → Nat → Bool) : ptM E M false = outerM E M := by
  funext i j; unfold ptM outerM; cases ((Ev.at E i).th == (Ev.at E j).th) <;> rfl
theorem wf_pt {n : Nat} {E : List Ev} {M : Nat → Nat → Bool} {one : Bool} (h : WFM n M) : WFM n (ptM E M one) := fun i j a => by
  unfold ptM at a; rw [Bool.and_eq_true] at a; exact h i j a.1
end RelA
end Go.Proofs.YtgpkdhbegkhjjaaDoor
