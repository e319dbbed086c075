/-
  What the functions that the law reaches do, one by one: contracts. Conditions: those that each of them prints.
-/
import Derived.Test.YtgpkdhbegkhjjaaDoorMi
import Derived.BigRegion
import Derived.Deep.QuietTactic
import Derived.BigQuiet
namespace Go.Proofs.YtgpkdhbegkhjjaaDoor
open Go.RowKit RelA
namespace RelA
def RfOk (E : List Ev) (i : Nat) (r : Int) : Prop :=
  ((Ev.at E i).kd = 1 → ∃ m : Nat, r = m ∧ m < E.length ∧ (Ev.at E m).kd = 2 ∧ (Ev.at E m).lc = (Ev.at E i).lc ∧ (Ev.at E m).vl = (Ev.at E i).vl) ∧ ((Ev.at E i).kd ≠ 1 → r = -1)
end RelA
end Go.Proofs.YtgpkdhbegkhjjaaDoor
