/-
  What the functions that the law reaches do, one by one: contracts. Conditions: those that each of them prints.
-/
import Derived.Test.YtgpkdhbegkhjjaaDoorMi
import Derived.BigRegion
import Derived.Deep.QuietTactic
import Derived.BigQuiet
namespace Go.Proofs.YtgpkdhbegkhjjaaDoor
open Go.RowKit RelA
namespace RelA
theorem below_drewN {B : Nat} {w w' : World} (h : Below B w w') (n : Nat) : Below B w (w'.drewN n) := ⟨h.os, h.tape, h.output, h.size, h.block⟩
def lexB (p q : Int × Int) : Prop := p.1 < q.1 ∨ (p.1 = q.1 ∧ p.2 < q.2)
def RisingL (L : List (Int × Int)) : Prop := ∀ k, 1 ≤ k → k < L.length → lexB (L.getD (k - 1) (0, 0)) (L.getD k (0, 0))
end RelA
namespace RelA
/-- a dependency as chapter 6 has it -/
def DepOk (E : List Ev) (p : Int × Int) : Prop := ∃ a b : Nat, p = ((a : Int), (b : Int)) ∧ a < b ∧ b < E.length ∧ (Ev.at E a).kd = 1 ∧ (Ev.at E a).th = (Ev.at E b).th
def DepsOk (E : List Ev) (L : List (Int × Int)) : Prop := (∀ k, k < L.length → DepOk E (L.getD k (0, 0))) ∧ RisingL L
end RelA
end Go.Proofs.YtgpkdhbegkhjjaaDoor
