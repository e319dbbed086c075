/-
  What the functions that the law reaches do, one by one: contracts. Conditions: those that each of them prints.
-/
import Derived.Test.YtgpkdhbegkhjjaaDoorMi
import Derived.BigRegion
namespace Go.Proofs.YtgpkdhbegkhjjaaDoor
open Go.RowKit RelA
namespace RelA
def evOk (locs : Int) (i : Nat) (e p : Ev) : Bool :=
  if (i : Int) < locs then (((((e.th == 0) && (e.kd == 2)) && (e.md == 0)) && (e.lc == (i : Int))) && (e.vl == 0)) && !e.ex
  else if ((decide (e.th < 1)) || (decide (4 < e.th))) || (decide (0 < (i : Int)) && decide (e.th < p.th)) then false
  else if e.kd == 1 then (decide (0 ≤ e.lc) && decide (e.lc < locs)) && ((e.md == 0) || (e.md == 1))
  else if e.kd == 2 then (decide (0 ≤ e.lc) && decide (e.lc < locs)) && ((e.md == 0) || (e.md == 2))
  else if e.kd == 3 then ((((decide (1 ≤ e.md) && decide (e.md ≤ 4)) && (e.lc == 0)) && (e.vl == 0)) && !e.ex)
  else false
def evAt (g : Gr) (i : Nat) : Bool := evOk g.locs i (Ev.at g.E i) (Ev.at g.E (i - 1))
end RelA
end Go.Proofs.YtgpkdhbegkhjjaaDoor
