/-
  What the functions that the law reaches do, one by one: contracts. Conditions: those that each of them prints.
-/
import Derived.Test.YtgpkdhbegkhjjaaDoorMq
import Derived.BigRegion
import Derived.Deep.QuietTactic
import Derived.BigQuiet
namespace Go.Proofs.YtgpkdhbegkhjjaaDoor
open Go.RowKit RelA
end Go.Proofs.YtgpkdhbegkhjjaaDoor
namespace Go.Proofs.YtgpkdhbegkhjjaaDoor
open Go.RowKit RelA
end Go.Proofs.YtgpkdhbegkhjjaaDoor
namespace Go.Proofs.YtgpkdhbegkhjjaaDoor
open Go.RowKit RelA
end Go.Proofs.YtgpkdhbegkhjjaaDoor
namespace Go.Proofs.YtgpkdhbegkhjjaaDoor
open Go.RowKit RelA
end Go.Proofs.YtgpkdhbegkhjjaaDoor
namespace Go.Proofs.YtgpkdhbegkhjjaaDoor
open Go.RowKit RelA
namespace RelA
/-- an answer: true, and the memory as it was -/
def Sure (w : World) (e : Ending) (w' : World) : Prop := e = .returned (.bool true) ∧ Below w.heap.size w w'
end RelA
end Go.Proofs.YtgpkdhbegkhjjaaDoor
