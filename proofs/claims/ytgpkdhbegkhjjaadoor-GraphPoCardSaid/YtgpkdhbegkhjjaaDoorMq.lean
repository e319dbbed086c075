/-
  What the functions that the law reaches do, one by one: contracts. Conditions: those that each of them prints.
-/
import Derived.Test.YtgpkdhbegkhjjaaDoorMl
import Derived.Test.YtgpkdhbegkhjjaaDoorMn
import Derived.Test.YtgpkdhbegkhjjaaDoorMo
import Derived.Test.YtgpkdhbegkhjjaaDoorMp
namespace Go.Proofs.YtgpkdhbegkhjjaaDoor
open Go.RowKit RelA
namespace RelA
/-- a graph of few parts, as it came in -/
structure GIn0 (w : World) (g : Gr) : Prop where
  es : EsIn w g.ea g.E
  rf : NsIn w g.ra g.R
  co : LsIn w g.ca g.C
  rmw : PIn w g.ma g.Rmw g.mc
  data : PIn w g.da g.Data g.dc
  ctrl : PIn w g.ta g.Ctrl g.tc
  ctrli : PIn w g.ia g.CtrlI g.ic
  e50 : g.E.length ≤ 50
  r60 : g.R.length ≤ 60
  c6 : g.C.length ≤ 6
  l50 : ∀ q, q < g.C.length → (g.C.getD q Ls.zero).L.length ≤ 50
  m50 : g.Rmw.length ≤ 50
  d300 : g.Data.length ≤ 300
  t300 : g.Ctrl.length ≤ 300
  i300 : g.CtrlI.length ≤ 300
/-- what chapter 6 asks of a graph -/
structure CheckOk (g : Gr) : Prop where
  l1 : 1 ≤ g.locs
  l4 : g.locs ≤ 4
  ln : g.locs ≤ g.E.length
  n40 : g.E.length ≤ 40
  rlen : g.R.length = g.E.length
  clen : (g.C.length : Int) = g.locs
  at_ : ∀ i, i < g.E.length → evAt g i = true ∧ RfOk g.E i (g.R.getD i 0)
  co : ∀ t, t < g.C.length → CoOk g.E t (g.C.getD t Ls.zero).L
  rmw : RmwsOk g.E g.Rmw
  data : DepsOk g.E g.Data
  ctrl : DepsOk g.E g.Ctrl
  ctrli : DepsOk g.E g.CtrlI
end RelA
end Go.Proofs.YtgpkdhbegkhjjaaDoor
namespace Go.Proofs.YtgpkdhbegkhjjaaDoor
open Go.RowKit RelA
namespace RelA
/-- a graph of any parts, as it came in -/
structure GInA (w : World) (g : Gr) : Prop where
  es : EsIn w g.ea g.E
  rf : NsIn w g.ra g.R
  co : LsIn w g.ca g.C
  rmw : PIn w g.ma g.Rmw g.mc
  data : PIn w g.da g.Data g.dc
  ctrl : PIn w g.ta g.Ctrl g.tc
  ctrli : PIn w g.ia g.CtrlI g.ic
theorem GInA.next {w w' : World} {g : Gr} (h : GInA w g) (hb : Below w.heap.size w w') : GInA w' g :=
  ⟨h.es.next hb, h.rf.next hb, h.co.next hb, h.rmw.next hb, h.data.next hb, h.ctrl.next hb, h.ctrli.next hb⟩
structure FewOk (g : Gr) : Prop where
  e50 : g.E.length ≤ 50
  r60 : g.R.length ≤ 60
  c6 : g.C.length ≤ 6
  l50 : ∀ q, q < g.C.length → (g.C.getD q Ls.zero).L.length ≤ 50
  m50 : g.Rmw.length ≤ 50
  d300 : g.Data.length ≤ 300
  t300 : g.Ctrl.length ≤ 300
  i300 : g.CtrlI.length ≤ 300
theorem GInA.few {w : World} {g : Gr} (h : GInA w g) (f : FewOk g) : GIn0 w g :=
  ⟨h.es, h.rf, h.co, h.rmw, h.data, h.ctrl, h.ctrli, f.e50, f.r60, f.c6, f.l50, f.m50, f.d300, f.t300, f.i300⟩
end RelA
end Go.Proofs.YtgpkdhbegkhjjaaDoor
