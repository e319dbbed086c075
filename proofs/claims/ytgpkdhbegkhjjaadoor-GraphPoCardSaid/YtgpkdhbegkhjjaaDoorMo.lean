/-
  What the functions that the law reaches do, one by one: contracts. Conditions: those that each of them prints.
-/
import Derived.Test.YtgpkdhbegkhjjaaDoorMm
import Derived.BigRegion
import Derived.Deep.QuietTactic
import Derived.BigQuiet
namespace Go.Proofs.YtgpkdhbegkhjjaaDoor
open Go.RowKit RelA
namespace RelA
/-- how many of a graph's events ahead of k write a place -/
def cntW (E : List Ev) (t : Int) : Nat → Nat
  | 0 => 0
  | k + 1 => cntW E t k + (if (Ev.at E k).kd = 2 ∧ (Ev.at E k).lc = t then 1 else 0)
theorem cntW_le (E : List Ev) (t : Int) (k : Nat) : cntW E t k ≤ k := by
  induction k with
  | zero => exact Nat.le_refl _
  | succ k ih => unfold cntW; split <;> omega
/-- a place's order as chapter 6 has it -/
structure CoOk (E : List Ev) (t : Nat) (L : List Int) : Prop where
  at_ : ∀ j, j < L.length → ∃ m : Nat, L.getD j 0 = m ∧ m < E.length ∧ (Ev.at E m).kd = 2 ∧ (Ev.at E m).lc = t
  ne : ∀ j, j < L.length → ∀ q, q < j → L.getD q 0 ≠ L.getD j 0
  len : L.length = cntW E t E.length
  pos : 0 < L.length
  fst : L.getD 0 0 = t
end RelA
end Go.Proofs.YtgpkdhbegkhjjaaDoor
