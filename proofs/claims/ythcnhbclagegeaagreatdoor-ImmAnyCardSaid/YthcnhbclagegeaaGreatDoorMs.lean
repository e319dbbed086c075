/-
  Coherence and order of a graph: runs whose calls are told, truth values by cases. Conditions: the graph in memory, the table of bits in its variable.
-/
import Derived.Test.YthcnhbclagegeaaGreatDoorMm
import Derived.Test.YthcnhbclagegeaaGreatDoorMr
import Derived.Test.YthcnhbclagegeaaGreatDoorMb
import Derived.Test.YthcnhbclagegeaaGreatDoorMe
import Derived.Deep.RegionHeld3
import Derived.Test.YthcnhbclagegeaaGreatDoorMq
import Derived.Test.YthcnhbclagegeaaGreatDoorMl
namespace Go.Proofs.YthcnhbclagegeaaGreatDoor
open Go.RowKit RelA
namespace Told
namespace L12
open Go.Rn (Rho RV Mp Tells chV chW tells_given kcL kcL_ok callX isBv bool_told inL inL_ok none_ok he denC_cons denC_nil DscL dsc_cons dsc_nil den below_old)
variable {g:Gr} {xa:Option Addr} {X:List (Int × Int)} {xc:Nat} {w0:World}
theorem hb_e (c:CheckOk g):plusM (orM (poM g.E) (seqM (seqM (releaseM g) (orM (innerM g.E (rfM g)) (seqM (maybeM g.n (locM g.E)) (lessM (rfM g) (innerM g.E (rfM g)))))) (orM (evM g 1 [1]) (seqM (poM g.E) (evM g 3 [1,3,4])))))=rhbM g:=by
 rw [outer_eq]
 exact hb_eq c
theorem bob_e (c:CheckOk g):orM (orM (orM (orM (orM noneM (seqM (poM g.E) (evM g 2 [2]))) (seqM (evM g 1 [1]) (poM g.E))) (seqM (poM g.E) (evM g 3 []))) (seqM (evM g 3 []) (poM g.E))) (seqM (seqM (evM g 2 [2]) (locM g.E)) (evM g 2 [])) =
  orM (orM (orM (orM (seqM (poM g.E) (kM g 2 2 2)) (seqM (kM g 1 1 1) (poM g.E))) (seqM (poM g.E) (kM g 3 1 4))) (seqM (kM g 3 1 4) (poM g.E))) (seqM (seqM (kM g 2 2 2) (locM g.E)) (kM g 2 0 2)):=by
 rw [or_none,wrel_eq,racq_eq,bar_eq c,w_eq c]
theorem deps_e (g:Gr):orM (orM (orM noneM (ofM g.n g.Data)) (ofM g.n g.Ctrl)) (seqM (diagM g.n fun i=>exB (Ev.at g.E i)) (poM g.E))=depsM g:=by
 rw [or_none]
 rfl
theorem ppo_e (c:CheckOk g):seqM (seqM (evM g 1 []) (plusM (orM (orM noneM (orM (orM (orM noneM (ofM g.n g.Data)) (ofM g.n g.Ctrl)) (seqM (diagM g.n fun i=>exB (Ev.at g.E i)) (poM g.E)))) (innerM g.E (rfM g))))) (evM g 2 []) =
  seqM (seqM (kM g 1 0 1) (plusM (orM (depsM g) (innerM g.E (rfM g))))) (kM g 2 0 2):=by
 rw [deps_e,or_none,rd_eq c,w_eq c]
theorem det_e (g:Gr):andM (seqM (lessM (coM g) (innerM g.E (coM g))) (lessM (rfM g) (innerM g.E (rfM g)))) (poM g.E)=andM (seqM (outerM g.E (coM g)) (outerM g.E (rfM g))) (poM g.E):=by
 rw [outer_eq,outer_eq]
theorem eco_e (g:Gr):plusM (orM (orM (orM noneM (rfM g)) (coM g)) (frM g))=ecoM g:=by
 rw [or_none]
 rfl
noncomputable def p0:RV:=.fn 1 (.cons gR .nil)
noncomputable def p1:RV:=.fn 2 (.cons gR .nil)
noncomputable def p2:RV:=.fn 5 (.cons gR .nil)
noncomputable def p3:RV:=.fn 6 (.cons gR .nil)
noncomputable def p4:RV:=.fn 14 (.cons (.tup (.cons (.mp 1) p0)) .nil)
noncomputable def p5:RV:=.fn 13 (.cons (.tup (.cons (.mp 1) p4)) (.cons (.tup (.cons (.mp 1) p1)) .nil))
noncomputable def p6:RV:=.fn 41 (.cons gR (.cons (.i .i64 2) (.cons .ns .nil)))
noncomputable def p7:RV:=.fn 40 (.cons gR (.cons (.i .i64 1) (.cons .ns .nil)))
noncomputable def p8:RV:=.fn 42 (.cons gR (.cons (.i .i64 3) (.cons .ns .nil)))
noncomputable def p9:RV:=.fn 43 (.cons gR (.cons (.i .i64 2) (.cons (chI [2]) .nil)))
noncomputable def p10:RV:=.fn 44 (.cons gR (.cons (.i .i64 1) (.cons (chI [1]) .nil)))
noncomputable def p11:RV:=.fn 13 (.cons (.tup (.cons (.mp 1) p3)) (.cons (.tup (.cons (.mp 1) p9)) .nil))
noncomputable def p12:RV:=.fn 13 (.cons (.tup (.cons (.mp 1) p10)) (.cons (.tup (.cons (.mp 1) p3)) .nil))
noncomputable def p13:RV:=.fn 13 (.cons (.tup (.cons (.mp 1) p3)) (.cons (.tup (.cons (.mp 1) p8)) .nil))
noncomputable def p14:RV:=.fn 13 (.cons (.tup (.cons (.mp 1) p8)) (.cons (.tup (.cons (.mp 1) p3)) .nil))
noncomputable def p15:RV:=.fn 13 (.cons (.tup (.cons (.mp 1) p9)) (.cons (.tup (.cons (.mp 1) p2)) .nil))
noncomputable def p16:RV:=.fn 13 (.cons (.tup (.cons (.mp 1) p15)) (.cons (.tup (.cons (.mp 1) p6)) .nil))
noncomputable def p17:RV:=.fn 34 (.cons nR (.cons .ns .nil))
noncomputable def p18:RV:=.fn 10 (.cons (.tup (.cons (.mp 1) p17)) (.cons (.tup (.cons (.mp 1) p11)) .nil))
noncomputable def p19:RV:=.fn 10 (.cons (.tup (.cons (.mp 1) p18)) (.cons (.tup (.cons (.mp 1) p12)) .nil))
noncomputable def p20:RV:=.fn 10 (.cons (.tup (.cons (.mp 1) p19)) (.cons (.tup (.cons (.mp 1) p13)) .nil))
noncomputable def p21:RV:=.fn 10 (.cons (.tup (.cons (.mp 1) p20)) (.cons (.tup (.cons (.mp 1) p14)) .nil))
noncomputable def p22:RV:=.fn 10 (.cons (.tup (.cons (.mp 1) p21)) (.cons (.tup (.cons (.mp 1) p16)) .nil))
noncomputable def p23:RV:=.fn 80 (.cons gR (.cons (.fn 79 .nil) .nil))
noncomputable def p24:RV:=.fn 31 (.cons nR (.cons (opS 5) .nil))
noncomputable def p25:RV:=.fn 32 (.cons nR (.cons (opS 6) .nil))
noncomputable def p26:RV:=.fn 13 (.cons (.tup (.cons (.mp 1) p23)) (.cons (.tup (.cons (.mp 1) p3)) .nil))
noncomputable def p27:RV:=.fn 10 (.cons (.tup (.cons (.mp 1) p17)) (.cons (.tup (.cons (.mp 1) p24)) .nil))
noncomputable def p28:RV:=.fn 10 (.cons (.tup (.cons (.mp 1) p27)) (.cons (.tup (.cons (.mp 1) p25)) .nil))
noncomputable def p29:RV:=.fn 10 (.cons (.tup (.cons (.mp 1) p28)) (.cons (.tup (.cons (.mp 1) p26)) .nil))
noncomputable def p30:RV:=.fn 20 (.cons gR (.cons (.tup (.cons (.mp 1) p0)) .nil))
noncomputable def p31:RV:=.fn 10 (.cons (.tup (.cons (.mp 1) p17)) (.cons (.tup (.cons (.mp 1) p29)) .nil))
noncomputable def p32:RV:=.fn 10 (.cons (.tup (.cons (.mp 1) p31)) (.cons (.tup (.cons (.mp 1) p30)) .nil))
noncomputable def p33:RV:=.fn 15 (.cons (.tup (.cons (.mp 1) p32)) .nil)
noncomputable def p34:RV:=.fn 13 (.cons (.tup (.cons (.mp 1) p7)) (.cons (.tup (.cons (.mp 1) p33)) .nil))
noncomputable def p35:RV:=.fn 13 (.cons (.tup (.cons (.mp 1) p34)) (.cons (.tup (.cons (.mp 1) p6)) .nil))
noncomputable def p36:RV:=.fn 20 (.cons gR (.cons (.tup (.cons (.mp 1) p1)) .nil))
noncomputable def p37:RV:=.fn 12 (.cons (.tup (.cons (.mp 1) p1)) (.cons (.tup (.cons (.mp 1) p36)) .nil))
noncomputable def p38:RV:=.fn 12 (.cons (.tup (.cons (.mp 1) p0)) (.cons (.tup (.cons (.mp 1) p30)) .nil))
noncomputable def p39:RV:=.fn 13 (.cons (.tup (.cons (.mp 1) p37)) (.cons (.tup (.cons (.mp 1) p38)) .nil))
noncomputable def p40:RV:=.fn 11 (.cons (.tup (.cons (.mp 1) p39)) (.cons (.tup (.cons (.mp 1) p3)) .nil))
noncomputable def p41:RV:=.fn 16 (.cons (.tup (.cons (.mp 1) p2)) .nil)
noncomputable def p42:RV:=.fn 30 (.cons nR (.cons (opS 4) .nil))
noncomputable def p43:RV:=.fn 13 (.cons (.tup (.cons (.mp 1) p41)) (.cons (.tup (.cons (.mp 1) p0)) .nil))
noncomputable def p44:RV:=.fn 13 (.cons (.tup (.cons (.mp 1) p43)) (.cons (.tup (.cons (.mp 1) p42)) .nil))
noncomputable def p45:RV:=.fn 15 (.cons (.tup (.cons (.mp 1) p44)) .nil)
noncomputable def p46:RV:=.fn 16 (.cons (.tup (.cons (.mp 1) p45)) .nil)
noncomputable def p47:RV:=.fn 13 (.cons (.tup (.cons (.mp 1) p6)) (.cons (.tup (.cons (.mp 1) p2)) .nil))
noncomputable def p48:RV:=.fn 13 (.cons (.tup (.cons (.mp 1) p47)) (.cons (.tup (.cons (.mp 1) p6)) .nil))
noncomputable def p49:RV:=.fn 13 (.cons (.tup (.cons (.mp 1) p6)) (.cons (.tup (.cons (.mp 1) p46)) .nil))
noncomputable def p50:RV:=.fn 10 (.cons (.tup (.cons (.mp 1) p48)) (.cons (.tup (.cons (.mp 1) p49)) .nil))
noncomputable def p51:RV:=.fn 45 (.cons gR (.cons (.i .i64 3) (.cons (chI [2,3,4]) .nil)))
noncomputable def p52:RV:=.fn 13 (.cons (.tup (.cons (.mp 1) p51)) (.cons (.tup (.cons (.mp 1) p3)) .nil))
noncomputable def p53:RV:=.fn 10 (.cons (.tup (.cons (.mp 1) p9)) (.cons (.tup (.cons (.mp 1) p52)) .nil))
noncomputable def p54:RV:=.fn 13 (.cons (.tup (.cons (.mp 1) p53)) (.cons (.tup (.cons (.mp 1) p50)) .nil))
noncomputable def p55:RV:=.fn 13 (.cons (.tup (.cons (.mp 1) p41)) (.cons (.tup (.cons (.mp 1) p38)) .nil))
noncomputable def p56:RV:=.fn 10 (.cons (.tup (.cons (.mp 1) p30)) (.cons (.tup (.cons (.mp 1) p55)) .nil))
noncomputable def p57:RV:=.fn 46 (.cons gR (.cons (.i .i64 3) (.cons (chI [1,3,4]) .nil)))
noncomputable def p58:RV:=.fn 13 (.cons (.tup (.cons (.mp 1) p3)) (.cons (.tup (.cons (.mp 1) p57)) .nil))
noncomputable def p59:RV:=.fn 10 (.cons (.tup (.cons (.mp 1) p10)) (.cons (.tup (.cons (.mp 1) p58)) .nil))
noncomputable def p60:RV:=.fn 13 (.cons (.tup (.cons (.mp 1) p54)) (.cons (.tup (.cons (.mp 1) p56)) .nil))
noncomputable def p61:RV:=.fn 13 (.cons (.tup (.cons (.mp 1) p60)) (.cons (.tup (.cons (.mp 1) p59)) .nil))
noncomputable def p62:RV:=.fn 10 (.cons (.tup (.cons (.mp 1) p3)) (.cons (.tup (.cons (.mp 1) p61)) .nil))
noncomputable def p63:RV:=.fn 15 (.cons (.tup (.cons (.mp 1) p62)) .nil)
noncomputable def p64:RV:=.fn 10 (.cons (.tup (.cons (.mp 1) p17)) (.cons (.tup (.cons (.mp 1) p0)) .nil))
noncomputable def p65:RV:=.fn 10 (.cons (.tup (.cons (.mp 1) p64)) (.cons (.tup (.cons (.mp 1) p1)) .nil))
noncomputable def p66:RV:=.fn 10 (.cons (.tup (.cons (.mp 1) p65)) (.cons (.tup (.cons (.mp 1) p5)) .nil))
noncomputable def p67:RV:=.fn 15 (.cons (.tup (.cons (.mp 1) p66)) .nil)
noncomputable def p68:RV:=.fn 47 (.cons gR (.cons (.i .i64 3) (.cons (chI [4]) .nil)))
noncomputable def p69:RV:=.fn 13 (.cons (.tup (.cons (.mp 1) p68)) (.cons (.tup (.cons (.mp 1) p63)) .nil))
noncomputable def p70:RV:=.fn 13 (.cons (.tup (.cons (.mp 1) p69)) (.cons (.tup (.cons (.mp 1) p67)) .nil))
noncomputable def p71:RV:=.fn 13 (.cons (.tup (.cons (.mp 1) p70)) (.cons (.tup (.cons (.mp 1) p63)) .nil))
noncomputable def p72:RV:=.fn 13 (.cons (.tup (.cons (.mp 1) p71)) (.cons (.tup (.cons (.mp 1) p68)) .nil))
noncomputable def p73:RV:=.fn 10 (.cons (.tup (.cons (.mp 1) p17)) (.cons (.tup (.cons (.mp 1) p38)) .nil))
noncomputable def p74:RV:=.fn 10 (.cons (.tup (.cons (.mp 1) p73)) (.cons (.tup (.cons (.mp 1) p22)) .nil))
noncomputable def p75:RV:=.fn 10 (.cons (.tup (.cons (.mp 1) p74)) (.cons (.tup (.cons (.mp 1) p35)) .nil))
noncomputable def p76:RV:=.fn 10 (.cons (.tup (.cons (.mp 1) p75)) (.cons (.tup (.cons (.mp 1) p40)) .nil))
noncomputable def p77:RV:=.fn 10 (.cons (.tup (.cons (.mp 1) p76)) (.cons (.tup (.cons (.mp 1) p72)) .nil))
noncomputable def p78:RV:=.fn 13 (.cons (.tup (.cons (.mp 1) p2)) (.cons (.tup (.cons (.mp 1) p67)) .nil))
noncomputable def p79:RV:=.fn 13 (.cons (.tup (.cons (.mp 1) p63)) (.cons (.tup (.cons (.mp 1) p67)) .nil))
noncomputable def q0:RV:=.fn 1 (.cons gR .nil)
noncomputable def q1:RV:=.fn 2 (.cons gR .nil)
noncomputable def q2:RV:=.fn 5 (.cons gR .nil)
noncomputable def q3:RV:=.fn 6 (.cons gR .nil)
noncomputable def q4:RV:=.fn 14 (.cons (.tup (.cons (.mp 2) q0)) .nil)
noncomputable def q5:RV:=.fn 13 (.cons (.tup (.cons (.mp 2) q4)) (.cons (.tup (.cons (.mp 2) q1)) .nil))
noncomputable def q6:RV:=.fn 60 (.cons gR (.cons (.i .i64 2) (.cons (.i .i64 0) (.cons (.i .i64 2) .nil))))
noncomputable def q7:RV:=.fn 61 (.cons gR (.cons (.i .i64 2) (.cons (.i .i64 2) (.cons (.i .i64 2) .nil))))
noncomputable def q8:RV:=.fn 62 (.cons gR (.cons (.i .i64 1) (.cons (.i .i64 1) (.cons (.i .i64 1) .nil))))
noncomputable def q9:RV:=.fn 66 (.cons gR (.cons (.i .i64 3) (.cons (.i .i64 1) (.cons (.i .i64 4) .nil))))
noncomputable def q10:RV:=.fn 13 (.cons (.tup (.cons (.mp 2) q3)) (.cons (.tup (.cons (.mp 2) q7)) .nil))
noncomputable def q11:RV:=.fn 13 (.cons (.tup (.cons (.mp 2) q8)) (.cons (.tup (.cons (.mp 2) q3)) .nil))
noncomputable def q12:RV:=.fn 13 (.cons (.tup (.cons (.mp 2) q3)) (.cons (.tup (.cons (.mp 2) q9)) .nil))
noncomputable def q13:RV:=.fn 13 (.cons (.tup (.cons (.mp 2) q9)) (.cons (.tup (.cons (.mp 2) q3)) .nil))
noncomputable def q14:RV:=.fn 13 (.cons (.tup (.cons (.mp 2) q7)) (.cons (.tup (.cons (.mp 2) q2)) .nil))
noncomputable def q15:RV:=.fn 13 (.cons (.tup (.cons (.mp 2) q14)) (.cons (.tup (.cons (.mp 2) q6)) .nil))
noncomputable def q16:RV:=.fn 10 (.cons (.tup (.cons (.mp 2) q10)) (.cons (.tup (.cons (.mp 2) q11)) .nil))
noncomputable def q17:RV:=.fn 10 (.cons (.tup (.cons (.mp 2) q16)) (.cons (.tup (.cons (.mp 2) q12)) .nil))
noncomputable def q18:RV:=.fn 10 (.cons (.tup (.cons (.mp 2) q17)) (.cons (.tup (.cons (.mp 2) q13)) .nil))
noncomputable def q19:RV:=.fn 10 (.cons (.tup (.cons (.mp 2) q18)) (.cons (.tup (.cons (.mp 2) q15)) .nil))
noncomputable def q20:RV:=.fn 81 (.cons gR .nil)
noncomputable def q21:RV:=.fn 67 (.cons gR (.cons (.i .i64 1) (.cons (.i .i64 0) (.cons (.i .i64 1) .nil))))
noncomputable def q22:RV:=.fn 20 (.cons gR (.cons (.tup (.cons (.mp 2) q0)) (.cons (.b true) .nil)))
noncomputable def q23:RV:=.fn 10 (.cons (.tup (.cons (.mp 2) q20)) (.cons (.tup (.cons (.mp 2) q22)) .nil))
noncomputable def q24:RV:=.fn 15 (.cons (.tup (.cons (.mp 2) q23)) .nil)
noncomputable def q25:RV:=.fn 13 (.cons (.tup (.cons (.mp 2) q21)) (.cons (.tup (.cons (.mp 2) q24)) .nil))
noncomputable def q26:RV:=.fn 13 (.cons (.tup (.cons (.mp 2) q25)) (.cons (.tup (.cons (.mp 2) q6)) .nil))
noncomputable def q27:RV:=.fn 21 (.cons gR (.cons (.tup (.cons (.mp 2) q1)) (.cons (.b false) .nil)))
noncomputable def q28:RV:=.fn 21 (.cons gR (.cons (.tup (.cons (.mp 2) q0)) (.cons (.b false) .nil)))
noncomputable def q29:RV:=.fn 13 (.cons (.tup (.cons (.mp 2) q27)) (.cons (.tup (.cons (.mp 2) q28)) .nil))
noncomputable def q30:RV:=.fn 11 (.cons (.tup (.cons (.mp 2) q29)) (.cons (.tup (.cons (.mp 2) q3)) .nil))
noncomputable def q31:RV:=.fn 16 (.cons (.tup (.cons (.mp 2) q2)) .nil)
noncomputable def q32:RV:=.fn 30 (.cons nR (.cons (opS 4) .nil))
noncomputable def q33:RV:=.fn 13 (.cons (.tup (.cons (.mp 2) q31)) (.cons (.tup (.cons (.mp 2) q0)) .nil))
noncomputable def q34:RV:=.fn 13 (.cons (.tup (.cons (.mp 2) q33)) (.cons (.tup (.cons (.mp 2) q32)) .nil))
noncomputable def q35:RV:=.fn 13 (.cons (.tup (.cons (.mp 2) q6)) (.cons (.tup (.cons (.mp 2) q2)) .nil))
noncomputable def q36:RV:=.fn 13 (.cons (.tup (.cons (.mp 2) q35)) (.cons (.tup (.cons (.mp 2) q6)) .nil))
noncomputable def q37:RV:=.fn 15 (.cons (.tup (.cons (.mp 2) q34)) .nil)
noncomputable def q38:RV:=.fn 16 (.cons (.tup (.cons (.mp 2) q37)) .nil)
noncomputable def q39:RV:=.fn 13 (.cons (.tup (.cons (.mp 2) q6)) (.cons (.tup (.cons (.mp 2) q38)) .nil))
noncomputable def q40:RV:=.fn 10 (.cons (.tup (.cons (.mp 2) q36)) (.cons (.tup (.cons (.mp 2) q39)) .nil))
noncomputable def q41:RV:=.fn 63 (.cons gR (.cons (.i .i64 3) (.cons (.i .i64 2) (.cons (.i .i64 4) .nil))))
noncomputable def q42:RV:=.fn 13 (.cons (.tup (.cons (.mp 2) q41)) (.cons (.tup (.cons (.mp 2) q3)) .nil))
noncomputable def q43:RV:=.fn 10 (.cons (.tup (.cons (.mp 2) q7)) (.cons (.tup (.cons (.mp 2) q42)) .nil))
noncomputable def q44:RV:=.fn 13 (.cons (.tup (.cons (.mp 2) q43)) (.cons (.tup (.cons (.mp 2) q40)) .nil))
noncomputable def q45:RV:=.fn 13 (.cons (.tup (.cons (.mp 2) q31)) (.cons (.tup (.cons (.mp 2) q28)) .nil))
noncomputable def q46:RV:=.fn 10 (.cons (.tup (.cons (.mp 2) q22)) (.cons (.tup (.cons (.mp 2) q45)) .nil))
noncomputable def q47:RV:=.fn 64 (.cons gR (.cons (.i .i64 3) (.cons (.i .i64 1) (.cons (.i .i64 1) .nil))))
noncomputable def q48:RV:=.fn 65 (.cons gR (.cons (.i .i64 3) (.cons (.i .i64 3) (.cons (.i .i64 4) .nil))))
noncomputable def q49:RV:=.fn 10 (.cons (.tup (.cons (.mp 2) q47)) (.cons (.tup (.cons (.mp 2) q48)) .nil))
noncomputable def q50:RV:=.fn 13 (.cons (.tup (.cons (.mp 2) q3)) (.cons (.tup (.cons (.mp 2) q49)) .nil))
noncomputable def q51:RV:=.fn 10 (.cons (.tup (.cons (.mp 2) q8)) (.cons (.tup (.cons (.mp 2) q50)) .nil))
noncomputable def q52:RV:=.fn 13 (.cons (.tup (.cons (.mp 2) q44)) (.cons (.tup (.cons (.mp 2) q46)) .nil))
noncomputable def q53:RV:=.fn 13 (.cons (.tup (.cons (.mp 2) q52)) (.cons (.tup (.cons (.mp 2) q51)) .nil))
noncomputable def q54:RV:=.fn 10 (.cons (.tup (.cons (.mp 2) q3)) (.cons (.tup (.cons (.mp 2) q53)) .nil))
noncomputable def q55:RV:=.fn 15 (.cons (.tup (.cons (.mp 2) q54)) .nil)
noncomputable def q56:RV:=.fn 10 (.cons (.tup (.cons (.mp 2) q0)) (.cons (.tup (.cons (.mp 2) q1)) .nil))
noncomputable def q57:RV:=.fn 10 (.cons (.tup (.cons (.mp 2) q56)) (.cons (.tup (.cons (.mp 2) q5)) .nil))
noncomputable def q58:RV:=.fn 15 (.cons (.tup (.cons (.mp 2) q57)) .nil)
noncomputable def q59:RV:=.fn 68 (.cons gR (.cons (.i .i64 3) (.cons (.i .i64 4) (.cons (.i .i64 4) .nil))))
noncomputable def q60:RV:=.fn 13 (.cons (.tup (.cons (.mp 2) q59)) (.cons (.tup (.cons (.mp 2) q55)) .nil))
noncomputable def q61:RV:=.fn 13 (.cons (.tup (.cons (.mp 2) q60)) (.cons (.tup (.cons (.mp 2) q58)) .nil))
noncomputable def q62:RV:=.fn 13 (.cons (.tup (.cons (.mp 2) q61)) (.cons (.tup (.cons (.mp 2) q55)) .nil))
noncomputable def q63:RV:=.fn 13 (.cons (.tup (.cons (.mp 2) q62)) (.cons (.tup (.cons (.mp 2) q59)) .nil))
noncomputable def q64:RV:=.fn 10 (.cons (.tup (.cons (.mp 2) q28)) (.cons (.tup (.cons (.mp 2) q19)) .nil))
noncomputable def q65:RV:=.fn 10 (.cons (.tup (.cons (.mp 2) q64)) (.cons (.tup (.cons (.mp 2) q26)) .nil))
noncomputable def q66:RV:=.fn 10 (.cons (.tup (.cons (.mp 2) q65)) (.cons (.tup (.cons (.mp 2) q30)) .nil))
noncomputable def q67:RV:=.fn 10 (.cons (.tup (.cons (.mp 2) q66)) (.cons (.tup (.cons (.mp 2) q63)) .nil))
noncomputable def q68:RV:=.fn 13 (.cons (.tup (.cons (.mp 2) q55)) (.cons (.tup (.cons (.mp 2) q58)) .nil))
theorem bool_given (c:Cx g xa X xc w0) {f k:Nat} (x:Bool) {q:RV} (hs:∀ (b:Nat) (w:World),Rk k w b g.n (mx g X q)→Tab w→Calls Tryz.prog f #[.pointer (some ⟨b,0,none⟩)] w fun e w'=>e=.returned (.bool x)∧Below w.heap.size w w') :
  ∀ (m:Mp) (w:World) (vs:List Value),(rho g xa X xc w0).Old w→DscL (rho g xa X xc w0) m w (.cons (.tup (.cons (.mp k) q)) .nil) vs →
   Calls Tryz.prog f vs.toArray w (fun e w'=>∃ u:Value,e=.returned u∧Go.Rn.Old w w'∧∀ m',den (rho g xa X xc w0) m' (.b x) u):=by
 intro m w vs hw hd
 obtain ⟨y,xs,rfl,d1,d2⟩:=dsc_cons hd
 obtain rfl:=dsc_nil d2
 obtain ⟨b,rfl,hr⟩:=told d1
 refine (hs b w hr (c.tab.next (old_w hw))).mono ?_
 rintro e w' ⟨rfl,hb⟩
 exact ⟨_,rfl,below_old hb,fun _=>rfl⟩
theorem same_below {f:Nat} {vs:Array Value} {w:World} {x:Bool} (h:Calls Tryz.prog f vs w fun e w'=>e=.returned (.bool x)∧w=w'):Calls Tryz.prog f vs w fun e w'=>e=.returned (.bool x)∧Below w.heap.size w w':=h.mono fun _ _ q=>⟨q.1,q.2 ▸ Below.refl _ _⟩
theorem globs:Tryz.prog.globals.size≤100:=of_decide_eq_true (by kernel_rfl)
noncomputable def tl0:List (Nat × Nat × RV):=[(152,0,chW l_new),(122,0,chW l_or),(106,0,chW l_and),(123,0,chW l_less),(80,0,chW l_then),(182,0,chW l_back),(66,0,chW l_plus),(174,0,chW l_maybe),(81,0,chW l_po),(65,0,chW l_events),(179,0,chW l_rf),(180,0,chW l_co),(62,0,chW l_inner),(91,0,chW l_loc),(101,0,chW l_rnew),(96,0,chW l_ror),(109,0,chW l_rand),(94,0,chW l_rthen),(163,0,chW l_rback),(104,0,chW l_rplus),(178,0,chW l_rmaybe),(92,0,chW l_rpo),(93,0,chW l_rkind),(103,0,chW l_rrf),(108,0,chW l_rco),(98,0,chW l_rloc),(157,0,chW l_rpart),(78,0,chW l_set),(29,0,chW l_rdeps)]
set_option maxRecDepth 20000 in
theorem tl0_ok (c:Cx g xa X xc w0):∀ e ∈ tl0,Tells Tryz.prog (rho g xa X xc w0) e:=by
 unfold tl0
 refine List.forall_mem_cons.2 ⟨t_new c,?_⟩
 refine List.forall_mem_cons.2 ⟨t_or c,?_⟩
 refine List.forall_mem_cons.2 ⟨t_and c,?_⟩
 refine List.forall_mem_cons.2 ⟨t_less c,?_⟩
 refine List.forall_mem_cons.2 ⟨t_then c,?_⟩
 refine List.forall_mem_cons.2 ⟨t_back c,?_⟩
 refine List.forall_mem_cons.2 ⟨t_plus c,?_⟩
 refine List.forall_mem_cons.2 ⟨t_maybe c,?_⟩
 refine List.forall_mem_cons.2 ⟨t_po c,?_⟩
 refine List.forall_mem_cons.2 ⟨t_events c,?_⟩
 refine List.forall_mem_cons.2 ⟨t_rf c,?_⟩
 refine List.forall_mem_cons.2 ⟨t_co c,?_⟩
 refine List.forall_mem_cons.2 ⟨t_inner c,?_⟩
 refine List.forall_mem_cons.2 ⟨t_loc c,?_⟩
 refine List.forall_mem_cons.2 ⟨t_rnew c,?_⟩
 refine List.forall_mem_cons.2 ⟨t_ror c,?_⟩
 refine List.forall_mem_cons.2 ⟨t_rand c,?_⟩
 refine List.forall_mem_cons.2 ⟨t_rthen c,?_⟩
 refine List.forall_mem_cons.2 ⟨t_rback c,?_⟩
 refine List.forall_mem_cons.2 ⟨t_rplus c,?_⟩
 refine List.forall_mem_cons.2 ⟨t_rmaybe c,?_⟩
 refine List.forall_mem_cons.2 ⟨t_rpo c,?_⟩
 refine List.forall_mem_cons.2 ⟨t_rkind c,?_⟩
 refine List.forall_mem_cons.2 ⟨t_rrf c,?_⟩
 refine List.forall_mem_cons.2 ⟨t_rco c,?_⟩
 refine List.forall_mem_cons.2 ⟨t_rloc c,?_⟩
 refine List.forall_mem_cons.2 ⟨t_rpart c,?_⟩
 refine List.forall_mem_cons.2 ⟨t_set c,?_⟩
 refine List.forall_mem_cons.2 ⟨t_rdeps c,?_⟩
 exact fun _ h=>by cases h
noncomputable def l_coh (x y z:Bool):List (RV × RV):=[(.cons (.tup (.cons (.mp 1) p78)) .nil,.b x),(.cons (.tup (.cons (.mp 1) p63)) .nil,.b y),(.cons (.tup (.cons (.mp 1) p79)) .nil,.b z)]
set_option maxRecDepth 20000 in
theorem t_coh (c:Cx g xa X xc w0) (x y z:Bool) (hx:x=true ↔ SelfM g.n (mx g X p78)) (hy:y=true ↔ SelfM g.n (mx g X p63)) (hz:z=true ↔ SelfM g.n (mx g X p79)):Tells Tryz.prog (rho g xa X xc w0) (136,1,chV (l_coh x y z)):=tells_given (by kernel_rfl) (by
 intro y hy
 unfold l_coh at hy
 simp only [List.mem_cons,List.not_mem_nil,or_false] at hy
 rcases hy with rfl | rfl | rfl
 ·exact bool_given c x (fun b w h ht=>same_below (itself_l b g.n _ w h c.gin.e40 x hx))
 ·exact bool_given c y (fun b w h ht=>same_below (itself_l b g.n _ w h c.gin.e40 y hy))
 ·exact bool_given c z (fun b w h ht=>same_below (itself_l b g.n _ w h c.gin.e40 z hz)))
set_option maxRecDepth 100000 in
theorem run_coh:∀ x y z:Bool,isBv (callX ysE (inL txtC.fsL) (fun _ _=>none) (kcL ((136,1,chV (l_coh x y z))::tl0)) 60 115 (.cons gR .nil) 100 he 100)=some (!x && (!y && !z)):=by
 intro x y z
 cases x <;> cases y <;> cases z <;> kernel_rfl
theorem coh_l (c:Cx g xa X xc w0) (x y z:Bool) (hx:x=true ↔ SelfM g.n (mx g X p78)) (hy:y=true ↔ SelfM g.n (mx g X p63)) (hz:z=true ↔ SelfM g.n (mx g X p79)) (w:World) (hb:Below w0.heap.size w0 w):Calls Tryz.prog 115 #[g.v] w fun e w'=>e=.returned (.bool (!x && (!y && !z)))∧Below w.heap.size w w':=by
 refine (bool_told (ρ:=rho g xa X xc w0) ysE_ok (inL_ok txtC.fsL_ok) none_ok (kc:=kcL ((136,1,chV (l_coh x y z))::tl0)) (kcL_ok (List.forall_mem_cons.2 ⟨t_coh c x y z hx hy hz,tl0_ok c⟩)) globs (w:=w) hb (run_coh x y z) (vs:=[g.v]) (fun m=>denC_cons.2 ⟨_,_,rfl,g_den m,denC_nil.2 rfl⟩)).mono ?_
 rintro e w' ⟨rfl,o⟩
 exact ⟨rfl,o.below⟩
noncomputable def l_ord (x:Bool):List (RV × RV):=[(.cons (.tup (.cons (.mp 1) p77)) .nil,.b x)]
set_option maxRecDepth 20000 in
theorem t_ord (c:Cx g xa X xc w0) (x:Bool) (hx:x=true ↔ SelfM g.n (plusM (mx g X p77))):Tells Tryz.prog (rho g xa X xc w0) (132,1,chV (l_ord x)):=tells_given (by kernel_rfl) (by
 intro y hy
 unfold l_ord at hy
 simp only [List.mem_cons,List.not_mem_nil,or_false] at hy
 subst hy
 ·exact bool_given c x (fun b w h ht=>loops_l b g.n _ w h c.gin.e40 ht x hx))
set_option maxRecDepth 100000 in
theorem run_ord:∀ x:Bool,isBv (callX ysE (inL txtC.fsL) (fun _ _=>none) (kcL ((132,1,chV (l_ord x))::tl0)) 60 114 (.cons gR .nil) 100 he 100)=some (!x):=by
 intro x
 cases x <;> kernel_rfl
theorem ord_l (c:Cx g xa X xc w0) (x:Bool) (hx:x=true ↔ SelfM g.n (plusM (mx g X p77))) (w:World) (hb:Below w0.heap.size w0 w):Calls Tryz.prog 114 #[g.v] w fun e w'=>e=.returned (.bool (!x))∧Below w.heap.size w w':=by
 refine (bool_told (ρ:=rho g xa X xc w0) ysE_ok (inL_ok txtC.fsL_ok) none_ok (kc:=kcL ((132,1,chV (l_ord x))::tl0)) (kcL_ok (List.forall_mem_cons.2 ⟨t_ord c x hx,tl0_ok c⟩)) globs (w:=w) hb (run_ord x) (vs:=[g.v]) (fun m=>denC_cons.2 ⟨_,_,rfl,g_den m,denC_nil.2 rfl⟩)).mono ?_
 rintro e w' ⟨rfl,o⟩
 exact ⟨rfl,o.below⟩
noncomputable def l_rcoh (y z:Bool):List (RV × RV):=[(.cons (.tup (.cons (.mp 2) q55)) .nil,.b y),(.cons (.tup (.cons (.mp 2) q68)) .nil,.b z)]
set_option maxRecDepth 20000 in
theorem t_rcoh (c:Cx g xa X xc w0) (y z:Bool) (hy:y=true ↔ SelfM g.n (mx g X q55)) (hz:z=true ↔ SelfM g.n (mx g X q68)):Tells Tryz.prog (rho g xa X xc w0) (118,1,chV (l_rcoh y z)):=tells_given (by kernel_rfl) (by
 intro y hy
 unfold l_rcoh at hy
 simp only [List.mem_cons,List.not_mem_nil,or_false] at hy
 rcases hy with rfl | rfl
 ·exact bool_given c y (fun b w h ht=>same_below (self_l b g.n _ w h c.gin.e40 y hy))
 ·exact bool_given c z (fun b w h ht=>same_below (self_l b g.n _ w h c.gin.e40 z hz)))
set_option maxRecDepth 100000 in
theorem run_rcoh:∀ y z:Bool,isBv (callX ysE (inL txtC.fsL) (fun _ _=>none) (kcL ((118,1,chV (l_rcoh y z))::tl0)) 60 41 (.cons gR .nil) 100 he 100)=some (!y && !z):=by
 intro y z
 cases y <;> cases z <;> kernel_rfl
theorem rcoh_l (c:Cx g xa X xc w0) (y z:Bool) (hy:y=true ↔ SelfM g.n (mx g X q55)) (hz:z=true ↔ SelfM g.n (mx g X q68)) (w:World) (hb:Below w0.heap.size w0 w):Calls Tryz.prog 41 #[g.v] w fun e w'=>e=.returned (.bool (!y && !z))∧Below w.heap.size w w':=by
 refine (bool_told (ρ:=rho g xa X xc w0) ysE_ok (inL_ok txtC.fsL_ok) none_ok (kc:=kcL ((118,1,chV (l_rcoh y z))::tl0)) (kcL_ok (List.forall_mem_cons.2 ⟨t_rcoh c y z hy hz,tl0_ok c⟩)) globs (w:=w) hb (run_rcoh y z) (vs:=[g.v]) (fun m=>denC_cons.2 ⟨_,_,rfl,g_den m,denC_nil.2 rfl⟩)).mono ?_
 rintro e w' ⟨rfl,o⟩
 exact ⟨rfl,o.below⟩
noncomputable def l_rord (x:Bool):List (RV × RV):=[(.cons (.tup (.cons (.mp 2) q67)) .nil,.b x)]
set_option maxRecDepth 20000 in
theorem t_rord (c:Cx g xa X xc w0) (x:Bool) (hx:x=true ↔ SelfM g.n (plusM (mx g X q67))):Tells Tryz.prog (rho g xa X xc w0) (120,1,chV (l_rord x)):=tells_given (by kernel_rfl) (by
 intro y hy
 unfold l_rord at hy
 simp only [List.mem_cons,List.not_mem_nil,or_false] at hy
 subst hy
 ·exact bool_given c x (fun b w h ht=>rloops_l b g.n _ w h c.gin.e40 x hx))
set_option maxRecDepth 100000 in
theorem run_rord:∀ x:Bool,isBv (callX ysE (inL txtC.fsL) (fun _ _=>none) (kcL ((120,1,chV (l_rord x))::tl0)) 60 43 (.cons gR .nil) 100 he 100)=some (!x):=by
 intro x
 cases x <;> kernel_rfl
theorem rord_l (c:Cx g xa X xc w0) (x:Bool) (hx:x=true ↔ SelfM g.n (plusM (mx g X q67))) (w:World) (hb:Below w0.heap.size w0 w):Calls Tryz.prog 43 #[g.v] w fun e w'=>e=.returned (.bool (!x))∧Below w.heap.size w w':=by
 refine (bool_told (ρ:=rho g xa X xc w0) ysE_ok (inL_ok txtC.fsL_ok) none_ok (kc:=kcL ((120,1,chV (l_rord x))::tl0)) (kcL_ok (List.forall_mem_cons.2 ⟨t_rord c x hx,tl0_ok c⟩)) globs (w:=w) hb (run_rord x) (vs:=[g.v]) (fun m=>denC_cons.2 ⟨_,_,rfl,g_den m,denC_nil.2 rfl⟩)).mono ?_
 rintro e w' ⟨rfl,o⟩
 exact ⟨rfl,o.below⟩
theorem e0 (c:Cx g xa X xc w0):mx g X p22=mx g X q19:=bob_e c.ck
theorem e1 (_c:Cx g xa X xc w0):mx g X p29=mx g X q20:=deps_e g
theorem e2 (c:Cx g xa X xc w0):mx g X p35=mx g X q26:=ppo_e c.ck
theorem e3 (_c:Cx g xa X xc w0):mx g X p40=mx g X q30:=det_e g
theorem e4 (c:Cx g xa X xc w0):mx g X p72=mx g X q63:=by
 show seqM (seqM (seqM (seqM (evM g 3 [4]) (plusM (orM (poM g.E) (seqM (seqM (releaseM g) (orM (innerM g.E (rfM g)) (seqM (maybeM g.n (locM g.E)) (lessM (rfM g) (innerM g.E (rfM g)))))) (orM (evM g 1 [1]) (seqM (poM g.E) (evM g 3 [1,3,4]))))))) (plusM (orM (orM (orM noneM (rfM g)) (coM g)) (frM g)))) (plusM (orM (poM g.E) (seqM (seqM (releaseM g) (orM (innerM g.E (rfM g)) (seqM (maybeM g.n (locM g.E)) (lessM (rfM g) (innerM g.E (rfM g)))))) (orM (evM g 1 [1]) (seqM (poM g.E) (evM g 3 [1,3,4]))))))) (evM g 3 [4])=seqM (seqM (seqM (seqM (kM g 3 4 4) (rhbM g)) (ecoM g)) (rhbM g)) (kM g 3 4 4)
 rw [hb_e c.ck,eco_e,sc_eq]
theorem e5 (c:Cx g xa X xc w0):mx g X p77=mx g X q67:=by
 have h0:=e0 c
 have h2:=e2 c
 have h3:=e3 c
 have h4:=e4 c
 show orM (orM (orM (orM (orM noneM (lessM (rfM g) (innerM g.E (rfM g)))) (mx g X p22)) (mx g X p35)) (mx g X p40)) (mx g X p72)=orM (orM (orM (orM (outerM g.E (rfM g)) (mx g X q19)) (mx g X q26)) (mx g X q30)) (mx g X q63)
 rw [or_none,outer_eq,h0,h2,h3,h4]
theorem hb_x (c:Cx g xa X xc w0):mx g X p63=mx g X q55:=hb_e c.ck
theorem he_x (c:Cx g xa X xc w0):mx g X p79=mx g X q68:=by
 show seqM (mx g X p63) (mx g X p67)=seqM (mx g X q55) (mx g X q58)
 rw [hb_x c]
 exact congrArg _ (eco_e g)
theorem ar_x (c:Cx g xa X xc w0):mx g X p77=mx g X q67:=e5 c
theorem le_x (h:SelfM g.n (mx g X p78)):SelfM g.n (mx g X p79):=by
 obtain ⟨a,ha,h⟩:=h
 obtain ⟨b,h1,h2⟩:=seqM_iff.1 h
 refine ⟨a,ha,seqM_iff.2 ⟨b,?_,h2⟩⟩
 refine plusM_iff.2 (.single ?_)
 have h3:locM g.E a b=true:=h1
 unfold locM at h3
 rw [Bool.and_eq_true] at h3
 show RelA.orM (poM g.E) _ a b=true
 unfold RelA.orM
 rw [h3.1]
 rfl
end L12
end Told
end Go.Proofs.YthcnhbclagegeaaGreatDoor
namespace Go.Proofs.YthcnhbclagegeaaGreatDoor
open Go.RowKit RelA
namespace Told
namespace L12
open Go.Rn (Rho RV Mp Tells chW kcL kcL_ok callX isTag fun_told inL inL_ok none_ok he denC_cons denC_nil)
variable {g:Gr} {xa:Option Addr} {X:List (Int × Int)} {xc:Nat} {w0:World}
namespace At
noncomputable def p0:RV:=.fn 1 (.cons gR .nil)
noncomputable def p1:RV:=.fn 2 (.cons gR .nil)
noncomputable def p2:RV:=.fn 5 (.cons gR .nil)
noncomputable def p3:RV:=.fn 6 (.cons gR .nil)
noncomputable def p4:RV:=.fn 14 (.cons (.tup (.cons (.mp 1) p0)) .nil)
noncomputable def p5:RV:=.fn 13 (.cons (.tup (.cons (.mp 1) p4)) (.cons (.tup (.cons (.mp 1) p1)) .nil))
noncomputable def p6:RV:=.fn 20 (.cons gR (.cons (.tup (.cons (.mp 1) p5)) .nil))
noncomputable def p7:RV:=.fn 12 (.cons (.tup (.cons (.mp 1) p5)) (.cons (.tup (.cons (.mp 1) p6)) .nil))
noncomputable def p8:RV:=.fn 20 (.cons gR (.cons (.tup (.cons (.mp 1) p1)) .nil))
noncomputable def p9:RV:=.fn 12 (.cons (.tup (.cons (.mp 1) p1)) (.cons (.tup (.cons (.mp 1) p8)) .nil))
noncomputable def q0:RV:=.fn 1 (.cons gR .nil)
noncomputable def q1:RV:=.fn 2 (.cons gR .nil)
noncomputable def q2:RV:=.fn 5 (.cons gR .nil)
noncomputable def q3:RV:=.fn 6 (.cons gR .nil)
noncomputable def q4:RV:=.fn 14 (.cons (.tup (.cons (.mp 2) q0)) .nil)
noncomputable def q5:RV:=.fn 13 (.cons (.tup (.cons (.mp 2) q4)) (.cons (.tup (.cons (.mp 2) q1)) .nil))
noncomputable def tl:List (Nat × Nat × RV):=[(152,0,chW l_new),(122,0,chW l_or),(106,0,chW l_and),(123,0,chW l_less),(80,0,chW l_then),(182,0,chW l_back),(66,0,chW l_plus),(174,0,chW l_maybe),(81,0,chW l_po),(65,0,chW l_events),(179,0,chW l_rf),(180,0,chW l_co),(62,0,chW l_inner),(91,0,chW l_loc),(101,0,chW l_rnew),(96,0,chW l_ror),(109,0,chW l_rand),(94,0,chW l_rthen),(163,0,chW l_rback),(104,0,chW l_rplus),(178,0,chW l_rmaybe),(92,0,chW l_rpo),(93,0,chW l_rkind),(103,0,chW l_rrf),(108,0,chW l_rco),(98,0,chW l_rloc),(157,0,chW l_rpart)]
set_option maxRecDepth 20000 in
theorem tl_ok (c:Cx g xa X xc w0):∀ e ∈ tl,Tells Tryz.prog (rho g xa X xc w0) e:=by
 unfold tl
 refine List.forall_mem_cons.2 ⟨t_new c,?_⟩
 refine List.forall_mem_cons.2 ⟨t_or c,?_⟩
 refine List.forall_mem_cons.2 ⟨t_and c,?_⟩
 refine List.forall_mem_cons.2 ⟨t_less c,?_⟩
 refine List.forall_mem_cons.2 ⟨t_then c,?_⟩
 refine List.forall_mem_cons.2 ⟨t_back c,?_⟩
 refine List.forall_mem_cons.2 ⟨t_plus c,?_⟩
 refine List.forall_mem_cons.2 ⟨t_maybe c,?_⟩
 refine List.forall_mem_cons.2 ⟨t_po c,?_⟩
 refine List.forall_mem_cons.2 ⟨t_events c,?_⟩
 refine List.forall_mem_cons.2 ⟨t_rf c,?_⟩
 refine List.forall_mem_cons.2 ⟨t_co c,?_⟩
 refine List.forall_mem_cons.2 ⟨t_inner c,?_⟩
 refine List.forall_mem_cons.2 ⟨t_loc c,?_⟩
 refine List.forall_mem_cons.2 ⟨t_rnew c,?_⟩
 refine List.forall_mem_cons.2 ⟨t_ror c,?_⟩
 refine List.forall_mem_cons.2 ⟨t_rand c,?_⟩
 refine List.forall_mem_cons.2 ⟨t_rthen c,?_⟩
 refine List.forall_mem_cons.2 ⟨t_rback c,?_⟩
 refine List.forall_mem_cons.2 ⟨t_rplus c,?_⟩
 refine List.forall_mem_cons.2 ⟨t_rmaybe c,?_⟩
 refine List.forall_mem_cons.2 ⟨t_rpo c,?_⟩
 refine List.forall_mem_cons.2 ⟨t_rkind c,?_⟩
 refine List.forall_mem_cons.2 ⟨t_rrf c,?_⟩
 refine List.forall_mem_cons.2 ⟨t_rco c,?_⟩
 refine List.forall_mem_cons.2 ⟨t_rloc c,?_⟩
 refine List.forall_mem_cons.2 ⟨t_rpart c,?_⟩
 exact fun _ h=>by cases h
theorem globs:Tryz.prog.globals.size≤100:=of_decide_eq_true (by kernel_rfl)
set_option maxRecDepth 100000 in
theorem run_ofr:isTag (callX ysE (inL txtD.fsL) (fun _ _=>none) (kcL tl) 60 162 (.cons gR (.cons (.fn 131 .nil) .nil)) 100 he 100)=some (.cons (.mp 1) p7):=by kernel_rfl
theorem ofr_l (c:Cx g xa X xc w0) (w:World) (hb:Below w0.heap.size w0 w):Calls Tryz.prog 162 #[g.v,.func (.func 131) #[] #[]] w fun e w'=>∃ d,e=.returned (.pointer (some ⟨d,0,none⟩))∧Rl w' d g.n (outerM g.E (frM g))∧Below w.heap.size w w':=by
 refine (fun_told (ρ:=rho g xa X xc w0) ysE_ok (inL_ok txtD.fsL_ok) none_ok (kc:=kcL tl) (kcL_ok (tl_ok c)) globs (w:=w) hb run_ofr (vs:=[g.v,.func (.func 131) #[] #[]]) (fun m=>denC_cons.2 ⟨_,_,rfl,g_den m,denC_cons.2 ⟨_,_,rfl,⟨[],denC_nil.2 rfl,rfl⟩,denC_nil.2 rfl⟩⟩)).mono ?_
 rintro e w' ⟨B,C,el,fr,rfl,h1,h2,o⟩
 refine ⟨B,rfl,?_,o.below⟩
 have h3:=h2 w' B h1
 first | exact h3 | (rw [← less_inner]; exact h3)
set_option maxRecDepth 100000 in
theorem run_oco:isTag (callX ysE (inL txtD.fsL) (fun _ _=>none) (kcL tl) 60 162 (.cons gR (.cons (.fn 105 .nil) .nil)) 100 he 100)=some (.cons (.mp 1) p9):=by kernel_rfl
theorem oco_l (c:Cx g xa X xc w0) (w:World) (hb:Below w0.heap.size w0 w):Calls Tryz.prog 162 #[g.v,.func (.func 105) #[] #[]] w fun e w'=>∃ d,e=.returned (.pointer (some ⟨d,0,none⟩))∧Rl w' d g.n (outerM g.E (coM g))∧Below w.heap.size w w':=by
 refine (fun_told (ρ:=rho g xa X xc w0) ysE_ok (inL_ok txtD.fsL_ok) none_ok (kc:=kcL tl) (kcL_ok (tl_ok c)) globs (w:=w) hb run_oco (vs:=[g.v,.func (.func 105) #[] #[]]) (fun m=>denC_cons.2 ⟨_,_,rfl,g_den m,denC_cons.2 ⟨_,_,rfl,⟨[],denC_nil.2 rfl,rfl⟩,denC_nil.2 rfl⟩⟩)).mono ?_
 rintro e w' ⟨B,C,el,fr,rfl,h1,h2,o⟩
 refine ⟨B,rfl,?_,o.below⟩
 have h3:=h2 w' B h1
 first | exact h3 | (rw [← less_inner]; exact h3)
set_option maxRecDepth 100000 in
theorem run_rfr:isTag (callX ysE (inL txtD.fsL) (fun _ _=>none) (kcL tl) 60 119 (.cons gR .nil) 100 he 100)=some (.cons (.mp 2) q5):=by kernel_rfl
theorem rfr_l (c:Cx g xa X xc w0) (w:World) (hb:Below w0.heap.size w0 w):Calls Tryz.prog 119 #[g.v] w fun e w'=>∃ d,e=.returned (.pointer (some ⟨d,0,none⟩))∧Rr w' d g.n (frM g)∧Below w.heap.size w w':=by
 refine (fun_told (ρ:=rho g xa X xc w0) ysE_ok (inL_ok txtD.fsL_ok) none_ok (kc:=kcL tl) (kcL_ok (tl_ok c)) globs (w:=w) hb run_rfr (vs:=[g.v]) (fun m=>denC_cons.2 ⟨_,_,rfl,g_den m,denC_nil.2 rfl⟩)).mono ?_
 rintro e w' ⟨B,C,el,fr,rfl,h1,h2,o⟩
 refine ⟨B,rfl,?_,o.below⟩
 have h3:=h2 w' B h1
 first | exact h3 | (rw [← less_inner]; exact h3)
end At
end L12
end Told
end Go.Proofs.YthcnhbclagegeaaGreatDoor
namespace Go.Proofs.YthcnhbclagegeaaGreatDoor
open Go.RowKit RelA
attribute [local go_sem ↓] Go.wp_at_zero Go.wp_at_succ
attribute [local irreducible] RelA.rcells
namespace RelA
def noneB (n:Nat) (M:Nat→Nat→Bool):Bool:=decide ((rpairs n M).length=0)
end RelA
theorem pairs_l (b n:Nat) (M:Nat→Nat→Bool) (w:World) (h:Rl w b n M) (hn:n≤40) (ht:Tab w) :
  Calls Tryz.prog 84 #[.pointer (some ⟨b,0,none⟩)] w fun e w'=>∃ a cap,e=.returned (.slice a (rpairs n M).length cap)∧Below w.heap.size w w':=by
 obtain ⟨⟨R,h1,h2,h3⟩,h4⟩:=h
 refine (pairs_any b n R w h1 h2 ht).mono ?_
 rintro e w' ⟨v,rfl,ho,hb⟩
 rw [pairs_eq hn h3 h4] at ho
 obtain ⟨a,cap,rfl,_⟩:=PairsRd.of_own ho
 exact ⟨a,cap,rfl,hb⟩
theorem rpairs_l (b n:Nat) (M:Nat→Nat→Bool) (w:World) (h:Rr w b n M) (hn:n≤40) :
  Calls Tryz.prog 85 #[.pointer (some ⟨b,0,none⟩)] w fun e w'=>∃ a cap,e=.returned (.slice a (rpairs n M).length cap)∧Below w.heap.size w w':=by
 refine (rpairs_any b n M w h.at_ hn).mono ?_
 rintro e w' ⟨v,rfl,ho,hb⟩
 obtain ⟨a,cap,rfl,_⟩:=PairsRd.of_own ho
 exact ⟨a,cap,rfl,hb⟩
set_option maxRecDepth 20000 in
set_option maxHeartbeats 8000000 in
theorem router_l (g:Gr) (rb:Nat) (M:Nat→Nat→Bool) (w:World) (h:GIn w g) (hr:Rr w rb g.n M) :
  Calls Tryz.prog 107 #[g.v,.pointer (some ⟨rb,0,none⟩)] w fun e w'=>∃ d,e=.returned (.pointer (some ⟨d,0,none⟩))∧Rr w' d g.n (outerM g.E M)∧Below w.heap.size w w':=by
 rw [← pt_false]
 have HP:=Lib.hid (fun w' (hb:Below w.heap.size w w')=>rpart_l g rb M false w' (h.es.next hb) h.e40 (hr.next hb))
 have HG0:=Lib.hid (GBox.of_alloc w g 27)
 obtain ⟨G,hG⟩:∃ G,G=g:=⟨_,rfl⟩
 obtain ⟨locs,ea,E,ec,ra,R,rc,ca,C,cc,ma,Rmw,mc,da,Data,dc,ta,Ctrl,tc,ia,CtrlI,ic⟩:=g
 simp only [Gr.v,Gr.n,gcells] at HP HG0 ⊢
 rw [← hG] at HG0
 clear h hr HG0 hG
 go_enter Tryz.func107,Tryz.ntmps107
 go_wp2_with fail
 refine (HP.out _ ((Below.refl _ _).alloc (Nat.le_refl _) _)).mono ?_
 rintro e w' ⟨d,rfl,hat,_,hbe⟩
 have HA:=Lib.hid hat
 have HB:=Lib.hid (below_next ((Below.refl _ _).alloc (Nat.le_refl _) _) hbe)
 clear hat hbe
 go_wp2_with fail
 go_ret
 exact ⟨_,rfl,HA.out,HB.out⟩
namespace Told
variable {g:Gr} {xa:Option Addr} {X:List (Int × Int)} {xc:Nat} {w0:World}
set_option maxRecDepth 20000 in
set_option maxHeartbeats 8000000 in
theorem atom_l (c:Cx g xa X xc w0) (w:World) (hb:Below w0.heap.size w0 w):Calls Tryz.prog 116 #[g.v] w fun e w'=>e=.returned (.bool (noneB g.n (andM (seqM (outerM g.E (frM g)) (outerM g.E (coM g))) (ofM g.n g.Rmw))))∧Below w.heap.size w w':=by
 have HFR:=Lib.hid (fun w' (hb':Below w.heap.size w w')=>L12.At.ofr_l c w' (below_next hb hb'))
 have HCO:=Lib.hid (fun w' (hb':Below w.heap.size w w')=>L12.At.oco_l c w' (below_next hb hb'))
 have HOF:=Lib.hid (fun w' (hb':Below w.heap.size w w')=>of_in g g.ma g.Rmw g.mc w' c.gin.e40 (by have:=c.gin.m50; omega) ((c.gin.next (below_next hb hb')).rmw))
 have HTB:=Lib.hid (fun w' (hb':Below w.heap.size w w')=>c.tab.next (below_next hb hb'))
 have HN40:Hid (g.n≤40):=Lib.hid c.gin.e40
 clear c hb
 unfold noneB
 generalize outerM g.E (frM g)=M1 at *
 generalize outerM g.E (coM g)=M2 at *
 generalize ofM g.n g.Rmw=M3 at *
 generalize g.n=nn at *
 obtain ⟨MM,hMM⟩:∃ M,M=andM (seqM M1 M2) M3:=⟨_,rfl⟩
 rw [← hMM]
 have HMM:=Lib.hid hMM
 clear hMM
 have HG0:=Lib.hid (GBox.of_alloc w g 41)
 obtain ⟨G,hG⟩:∃ G,G=g:=⟨_,rfl⟩
 obtain ⟨locs,ea,E,ec,ra,R,rc,ca,C,cc,ma,Rmw,mc,da,Data,dc,ta,Ctrl,tc,ia,CtrlI,ic⟩:=g
 simp only [Gr.v,gcells] at HFR HCO HOF HG0 ⊢
 rw [← hG] at HG0
 obtain ⟨c0,c1,c2,c3,c4,c5,c6,c7⟩:=HG0.out
 rw [hG] at c0 c1 c2 c3 c4 c5 c6 c7
 dsimp only at c0 c1 c2 c3 c4 c5 c6 c7
 have hBl:∀ o,Bl w (w.alloc o):=fun o=>⟨(Below.refl _ _).alloc (Nat.le_refl _) o⟩
 have hBl:=hBl (Obj.cells #[.int .i64 locs,.slice ea E.length ec,.slice ra R.length rc,.slice ca C.length cc,.slice ma Rmw.length mc,.slice da Data.length dc,.slice ta Ctrl.length tc,.slice ia CtrlI.length ic] 41 (0,0))
 go_enter Tryz.func116,Tryz.ntmps116
 go_wp2_with fail
 clear HG0
 generalize w.alloc (Obj.cells #[.int .i64 locs,.slice ea E.length ec,.slice ra R.length rc,.slice ca C.length cc,.slice ma Rmw.length mc,.slice da Data.length dc,.slice ta Ctrl.length tc,.slice ia CtrlI.length ic] 41 (0,0))=w1 at *
 go_region_held3 (fun W=>W.cell? ⟨w.heap.size,0,none⟩=some (.int .i64 locs)∧W.cell? ⟨w.heap.size,1,none⟩=some (.slice ea E.length ec)∧W.cell? ⟨w.heap.size,2,none⟩=some (.slice ra R.length rc)∧W.cell? ⟨w.heap.size,3,none⟩=some (.slice ca C.length cc)∧W.cell? ⟨w.heap.size,4,none⟩=some (.slice ma Rmw.length mc)∧W.cell? ⟨w.heap.size,5,none⟩=some (.slice da Data.length dc)∧W.cell? ⟨w.heap.size,6,none⟩=some (.slice ta Ctrl.length tc)∧W.cell? ⟨w.heap.size,7,none⟩=some (.slice ia CtrlI.length ic)∧Bl w W)
  (first | (go_split_ands; exact ⟨cell_next ‹_› hbe,cell_next ‹_› hbe,cell_next ‹_› hbe,cell_next ‹_› hbe,cell_next ‹_› hbe,cell_next ‹_› hbe,cell_next ‹_› hbe,cell_next ‹_› hbe,⟨below_next (Bl.out ‹_›) hbe⟩⟩) | (go_split_ands; exact ⟨cell_next ‹_› (Below.refl _ _).drew,cell_next ‹_› (Below.refl _ _).drew,cell_next ‹_› (Below.refl _ _).drew,cell_next ‹_› (Below.refl _ _).drew,cell_next ‹_› (Below.refl _ _).drew,cell_next ‹_› (Below.refl _ _).drew,cell_next ‹_› (Below.refl _ _).drew,cell_next ‹_› (Below.refl _ _).drew,⟨(Bl.out ‹_›).drew⟩⟩) | (go_split_ands; exact ⟨cell_next ‹_› ((Below.refl _ _).alloc (Nat.le_refl _) _),cell_next ‹_› ((Below.refl _ _).alloc (Nat.le_refl _) _),cell_next ‹_› ((Below.refl _ _).alloc (Nat.le_refl _) _),cell_next ‹_› ((Below.refl _ _).alloc (Nat.le_refl _) _),cell_next ‹_› ((Below.refl _ _).alloc (Nat.le_refl _) _),cell_next ‹_› ((Below.refl _ _).alloc (Nat.le_refl _) _),cell_next ‹_› ((Below.refl _ _).alloc (Nat.le_refl _) _),cell_next ‹_› ((Below.refl _ _).alloc (Nat.le_refl _) _),⟨below_next (Bl.out ‹_›) ((Below.refl _ _).alloc (Nat.le_refl _) _)⟩⟩) | fail "keep")
  (first | (go_at_call 80; have hgd:=HA2; clear hgd; refine (then_l _ _ _ _ _ _ HA1.out HA2.out (HTB.out _ (Bl.out (by go_split_ands; assumption)))).mono ?_; rintro e wn ⟨d3,rfl,hat,hnw,hbe⟩; have HA3:=Lib.hid hat; clear hat hnw HA1 HA2) | (go_at_call 162; have hgd:=HA1; clear hgd; refine (HCO.out _ (Bl.out (by go_split_ands; assumption))).mono ?_; rintro e wn ⟨d2,rfl,hat,hbe⟩; have HA2:=Lib.hid hat; have HA1:=Lib.hid (HA1.out.next hbe); clear hat) | (go_at_call 162; refine (HFR.out _ (Bl.out (by go_split_ands; assumption))).mono ?_; rintro e wn ⟨d1,rfl,hat,hbe⟩; have HA1:=Lib.hid hat; clear hat))
 go_split_ands
 have HB:=Lib.hid (Bl.out ‹Bl w _›)
 clear c0 c1 c2 c3 c4 c5 c6 c7 hBl
 go_wp2_with fail
 refine (HOF.out _ HB.out).mono ?_
 rintro e wx ⟨d4,rfl,hat,hnw,hbe⟩
 have HA3:=Lib.hid (HA3.out.next hbe)
 have HA4:=Lib.hid hat
 have HB:=Lib.hid (below_next HB.out hbe)
 clear hat hnw hbe
 go_wp2_with fail
 refine (and_l _ _ _ _ _ _ HA3.out HA4.out).mono ?_
 rintro e wx ⟨d5,rfl,hat,hnw,hbe⟩
 rw [← HMM.out] at hat
 have HA5:=Lib.hid hat
 have HB:=Lib.hid (below_next HB.out hbe)
 clear hat hnw hbe HA3 HA4
 go_wp2_with fail
 obtain ⟨N,hN⟩:∃ N,N=(rpairs nn MM).length:=⟨_,rfl⟩
 have HPR:=Lib.hid (pairs_l _ _ _ _ HA5.out HN40.out (HTB.out _ HB.out))
 rw [← hN] at HPR
 have HN:=Lib.hid hN
 clear hN
 by_cases q:N=0
 ·have l:((N:Int) == 0)=true:=by simp [q]
  have HD:Hid (decide ((rpairs nn MM).length=0)=true):=Lib.hid (by rw [← HN.out]; simp [q])
  clear q
  refine HPR.out.mono ?_
  rintro e wx ⟨a,cap,rfl,hbe⟩
  have HB:=Lib.hid (below_next HB.out hbe)
  clear hbe
  go_wp2_with fail
  go_ret
  exact ⟨by rw [HD.out]; rfl,HB.out⟩
 ·have l:((N:Int) == 0)=false:=by simp [q]
  have HD:Hid (decide ((rpairs nn MM).length=0)=false):=Lib.hid (by rw [← HN.out]; simp [q])
  clear q
  refine HPR.out.mono ?_
  rintro e wx ⟨a,cap,rfl,hbe⟩
  have HB:=Lib.hid (below_next HB.out hbe)
  clear hbe
  go_wp2_with fail
  go_ret
  exact ⟨by rw [HD.out]; rfl,HB.out⟩
set_option maxRecDepth 20000 in
set_option maxHeartbeats 8000000 in
theorem ratom_l (c:Cx g xa X xc w0) (w:World) (hb:Below w0.heap.size w0 w):Calls Tryz.prog 42 #[g.v] w fun e w'=>e=.returned (.bool (noneB g.n (andM (ofM g.n g.Rmw) (seqM (outerM g.E (frM g)) (outerM g.E (coM g))))))∧Below w.heap.size w w':=by
 have HFR:=Lib.hid (fun w' (hb':Below w.heap.size w w')=>L12.At.rfr_l c w' (below_next hb hb'))
 have HCO:=Lib.hid (fun w' (hb':Below w.heap.size w w')=>rco_l g w' (c.gin.next (below_next hb hb')).co c.gin.e40 (gok_of c.ck).c4 (rok_of c.ck) (gok_of c.ck).l40)
 have HOU:=Lib.hid (fun rb M w' (hb':Below w.heap.size w w') (hr:Rr w' rb g.n M)=>router_l g rb M w' (c.gin.next (below_next hb hb')) hr)
 have HOF:=Lib.hid (fun w' (hb':Below w.heap.size w w')=>rof_in g g.ma g.Rmw g.mc w' c.gin.e40 (by have:=c.gin.m50; omega) ((c.gin.next (below_next hb hb')).rmw))
 have HTB:=Lib.hid (fun w' (hb':Below w.heap.size w w')=>c.tab.next (below_next hb hb'))
 have HN40:Hid (g.n≤40):=Lib.hid c.gin.e40
 clear c hb
 unfold noneB
 generalize frM g=M1 at *
 generalize coM g=M2 at *
 generalize ofM g.n g.Rmw=M3 at *
 generalize g.n=nn at *
 obtain ⟨MM,hMM⟩:∃ M,M=andM M3 (seqM (outerM g.E M1) (outerM g.E M2)):=⟨_,rfl⟩
 rw [← hMM]
 have HMM:=Lib.hid hMM
 clear hMM
 have HG0:=Lib.hid (GBox.of_alloc w g 27)
 obtain ⟨G,hG⟩:∃ G,G=g:=⟨_,rfl⟩
 obtain ⟨locs,ea,E,ec,ra,R,rc,ca,C,cc,ma,Rmw,mc,da,Data,dc,ta,Ctrl,tc,ia,CtrlI,ic⟩:=g
 simp only [Gr.v,gcells] at HFR HCO HOU HOF HG0 ⊢
 rw [← hG] at HG0
 obtain ⟨c0,c1,c2,c3,c4,c5,c6,c7⟩:=HG0.out
 rw [hG] at c0 c1 c2 c3 c4 c5 c6 c7
 dsimp only at c0 c1 c2 c3 c4 c5 c6 c7
 have hBl:∀ o,Bl w (w.alloc o):=fun o=>⟨(Below.refl _ _).alloc (Nat.le_refl _) o⟩
 have hBl:=hBl (Obj.cells #[.int .i64 locs,.slice ea E.length ec,.slice ra R.length rc,.slice ca C.length cc,.slice ma Rmw.length mc,.slice da Data.length dc,.slice ta Ctrl.length tc,.slice ia CtrlI.length ic] 27 (0,0))
 go_enter Tryz.func42,Tryz.ntmps42
 go_wp2_with fail
 clear HG0
 generalize w.alloc (Obj.cells #[.int .i64 locs,.slice ea E.length ec,.slice ra R.length rc,.slice ca C.length cc,.slice ma Rmw.length mc,.slice da Data.length dc,.slice ta Ctrl.length tc,.slice ia CtrlI.length ic] 27 (0,0))=w1 at *
 go_region_held3 (fun W=>W.cell? ⟨w.heap.size,0,none⟩=some (.int .i64 locs)∧W.cell? ⟨w.heap.size,1,none⟩=some (.slice ea E.length ec)∧W.cell? ⟨w.heap.size,2,none⟩=some (.slice ra R.length rc)∧W.cell? ⟨w.heap.size,3,none⟩=some (.slice ca C.length cc)∧W.cell? ⟨w.heap.size,4,none⟩=some (.slice ma Rmw.length mc)∧W.cell? ⟨w.heap.size,5,none⟩=some (.slice da Data.length dc)∧W.cell? ⟨w.heap.size,6,none⟩=some (.slice ta Ctrl.length tc)∧W.cell? ⟨w.heap.size,7,none⟩=some (.slice ia CtrlI.length ic)∧Bl w W)
  (first | (go_split_ands; exact ⟨cell_next ‹_› hbe,cell_next ‹_› hbe,cell_next ‹_› hbe,cell_next ‹_› hbe,cell_next ‹_› hbe,cell_next ‹_› hbe,cell_next ‹_› hbe,cell_next ‹_› hbe,⟨below_next (Bl.out ‹_›) hbe⟩⟩) | (go_split_ands; exact ⟨cell_next ‹_› (Below.refl _ _).drew,cell_next ‹_› (Below.refl _ _).drew,cell_next ‹_› (Below.refl _ _).drew,cell_next ‹_› (Below.refl _ _).drew,cell_next ‹_› (Below.refl _ _).drew,cell_next ‹_› (Below.refl _ _).drew,cell_next ‹_› (Below.refl _ _).drew,cell_next ‹_› (Below.refl _ _).drew,⟨(Bl.out ‹_›).drew⟩⟩) | (go_split_ands; exact ⟨cell_next ‹_› ((Below.refl _ _).alloc (Nat.le_refl _) _),cell_next ‹_› ((Below.refl _ _).alloc (Nat.le_refl _) _),cell_next ‹_› ((Below.refl _ _).alloc (Nat.le_refl _) _),cell_next ‹_› ((Below.refl _ _).alloc (Nat.le_refl _) _),cell_next ‹_› ((Below.refl _ _).alloc (Nat.le_refl _) _),cell_next ‹_› ((Below.refl _ _).alloc (Nat.le_refl _) _),cell_next ‹_› ((Below.refl _ _).alloc (Nat.le_refl _) _),cell_next ‹_› ((Below.refl _ _).alloc (Nat.le_refl _) _),⟨below_next (Bl.out ‹_›) ((Below.refl _ _).alloc (Nat.le_refl _) _)⟩⟩) | fail "keep")
  (first | (go_at_call 107; have hgd:=HA3; clear hgd; refine (HOU.out _ M2 _ (Bl.out (by go_split_ands; assumption)) HA3.out).mono ?_; rintro e wn ⟨d4,rfl,hat,hbe⟩; have HA4:=Lib.hid hat; have HA2:=Lib.hid (HA2.out.next hbe); clear hat HA3) | (go_at_call 108; have hgd:=HA2; clear hgd; refine (HCO.out _ (Bl.out (by go_split_ands; assumption))).mono ?_; rintro e wn ⟨d3,rfl,hat,hnw,hbe⟩; have HA3:=Lib.hid hat; have HA2:=Lib.hid (HA2.out.next hbe); clear hat hnw) | (go_at_call 107; have hgd:=HA1; clear hgd; refine (HOU.out _ M1 _ (Bl.out (by go_split_ands; assumption)) HA1.out).mono ?_; rintro e wn ⟨d2,rfl,hat,hbe⟩; have HA2:=Lib.hid hat; clear hat HA1) | (go_at_call 119; refine (HFR.out _ (Bl.out (by go_split_ands; assumption))).mono ?_; rintro e wn ⟨d1,rfl,hat,hbe⟩; have HA1:=Lib.hid hat; clear hat))
 go_split_ands
 have HB:=Lib.hid (Bl.out ‹Bl w _›)
 clear c0 c1 c2 c3 c4 c5 c6 c7 hBl
 skip
 go_wp2_with fail
 refine (HOF.out _ HB.out).mono ?_
 rintro e wx ⟨d5,rfl,hat,hnw,hbe⟩
 have HA2:=Lib.hid (HA2.out.next hbe)
 have HA4:=Lib.hid (HA4.out.next hbe)
 have HA5:=Lib.hid hat
 have HB:=Lib.hid (below_next HB.out hbe)
 clear hat hnw hbe
 go_wp2_with fail
 refine (rthen_l _ _ _ _ _ _ HA2.out HA4.out HN40.out).mono ?_
 rintro e wx ⟨d6,rfl,hat,hnw,hbe⟩
 have HA5:=Lib.hid (HA5.out.next hbe)
 have HA6:=Lib.hid hat
 have HB:=Lib.hid (below_next HB.out hbe)
 clear hat hnw hbe HA2 HA4
 go_wp2_with fail
 refine (rand_l _ _ _ _ _ _ HA5.out HA6.out HN40.out).mono ?_
 rintro e wx ⟨d7,rfl,hat,hnw,hbe⟩
 rw [← HMM.out] at hat
 have HA7:=Lib.hid hat
 have HB:=Lib.hid (below_next HB.out hbe)
 clear hat hnw hbe HA5 HA6
 go_wp2_with fail
 obtain ⟨N,hN⟩:∃ N,N=(rpairs nn MM).length:=⟨_,rfl⟩
 have HPR:=Lib.hid (rpairs_l _ _ _ _ HA7.out HN40.out)
 rw [← hN] at HPR
 have HN:=Lib.hid hN
 clear hN
 by_cases q:N=0
 ·have l:((N:Int) == 0)=true:=by simp [q]
  have HD:Hid (decide ((rpairs nn MM).length=0)=true):=Lib.hid (by rw [← HN.out]; simp [q])
  clear q
  refine HPR.out.mono ?_
  rintro e wx ⟨a,cap,rfl,hbe⟩
  have HB:=Lib.hid (below_next HB.out hbe)
  clear hbe
  go_wp2_with fail
  go_ret
  exact ⟨by rw [HD.out]; rfl,HB.out⟩
 ·have l:((N:Int) == 0)=false:=by simp [q]
  have HD:Hid (decide ((rpairs nn MM).length=0)=false):=Lib.hid (by rw [← HN.out]; simp [q])
  clear q
  refine HPR.out.mono ?_
  rintro e wx ⟨a,cap,rfl,hbe⟩
  have HB:=Lib.hid (below_next HB.out hbe)
  clear hbe
  go_wp2_with fail
  go_ret
  exact ⟨by rw [HD.out]; rfl,HB.out⟩
end Told
end Go.Proofs.YthcnhbclagegeaaGreatDoor
namespace Go.Proofs.YthcnhbclagegeaaGreatDoor
open Go.RowKit RelA
namespace RelA
theorem and_comm (A B:Nat→Nat→Bool):andM A B=andM B A:=by
 funext i j
 unfold andM
 exact Bool.and_comm _ _
end RelA
namespace Told
namespace L12
open Go.Rn (Rho RV Mp Tells chV chW tells_given kcL kcL_ok callX isB isBv bool_told law_told inL inL_ok none_ok he denC_cons denC_nil DscL dsc_cons dsc_nil den below_old)
variable {g:Gr} {xa:Option Addr} {X:List (Int × Int)} {xc:Nat} {w0:World}
theorem g_given {f:Nat} (x:Bool) (hs:∀ w,Below w0.heap.size w0 w→Calls Tryz.prog f #[g.v] w fun e w'=>e=.returned (.bool x)∧Below w.heap.size w w') :
  ∀ (m:Mp) (w:World) (vs:List Value),(rho g xa X xc w0).Old w→DscL (rho g xa X xc w0) m w (.cons gR .nil) vs →
   Calls Tryz.prog f vs.toArray w (fun e w'=>∃ u:Value,e=.returned u∧Go.Rn.Old w w'∧∀ m',den (rho g xa X xc w0) m' (.b x) u):=by
 intro m w vs hw hd
 obtain ⟨y,xs,rfl,d1,d2⟩:=dsc_cons hd
 obtain rfl:=dsc_nil d2
 obtain rfl:=den_g (m:=m) d1
 refine (hs w (old_w hw)).mono ?_
 rintro e w' ⟨rfl,hb⟩
 exact ⟨_,rfl,below_old hb,fun _=>rfl⟩
noncomputable def l_g (x:Bool):List (RV × RV):=[(.cons gR .nil,.b x)]
theorem t_g (f:Nat) (hf:Go.Rn.known Tryz.prog f=true) (x:Bool) (hs:∀ w,Below w0.heap.size w0 w→Calls Tryz.prog f #[g.v] w fun e w'=>e=.returned (.bool x)∧Below w.heap.size w w'):Tells Tryz.prog (rho g xa X xc w0) (f,1,chV (l_g x)):=tells_given hf (by
 intro y hy
 unfold l_g at hy
 simp only [List.mem_cons,List.not_mem_nil,or_false] at hy
 subst hy
 exact g_given x hs)
noncomputable def tla (x y z:Bool):List (Nat × Nat × RV):=[(117,1,chV (l_g true)),(115,1,chV (l_g x)),(116,1,chV (l_g y)),(114,1,chV (l_g z)),(41,1,chV (l_g x)),(42,1,chV (l_g y)),(43,1,chV (l_g z)),(7,1,chV (l_g true))]
set_option maxRecDepth 100000 in
theorem run_all:∀ x y z:Bool,isB (callX ysE (inL txtC.fsL) (fun _ _=>none) (kcL (tla x y z)) 60 12 (.cons gR .nil) 100 he 100)=true:=by
 intro x y z
 cases x <;> cases y <;> cases z <;> kernel_rfl
end L12
end Told
namespace RelA
theorem GIn0.next {w w':World} {g:Gr} (h:GIn0 w g) (hb:Below w.heap.size w w'):GIn0 w' g:=
 ⟨h.es.next hb,h.rf.next hb,h.co.next hb,h.rmw.next hb,h.data.next hb,h.ctrl.next hb,h.ctrli.next hb,h.e50,h.r60,h.c6,h.l50,h.m50,h.d300,h.t300,h.i300⟩
end RelA
attribute [local go_sem ↓] Go.wp_at_zero Go.wp_at_succ
set_option maxRecDepth 20000 in
set_option maxHeartbeats 3200000 in
theorem formed_l (g:Gr) (w:World) (h:GIn0 w g) (x:Bool) (hx:x=true ↔ CheckOk g):Calls Tryz.prog 117 #[g.v] w fun e w'=>e=.returned (.bool x)∧Below w.heap.size w w':=by
 have HC:=Lib.hid (fun o=>check_p g (w.alloc o) (h.next ((Below.refl _ _).alloc (Nat.le_refl _) o)))
 have HX:=Lib.hid hx
 clear h hx
 generalize CheckOk g=K at *
 have HG0:=Lib.hid (GBox.of_alloc w g 41)
 obtain ⟨G,hG⟩:∃ G,G=g:=⟨_,rfl⟩
 obtain ⟨locs,ea,E,ec,ra,R,rc,ca,C,cc,ma,Rmw,mc,da,Data,dc,ta,Ctrl,tc,ia,CtrlI,ic⟩:=g
 simp only [Gr.v,gcells] at HC HG0 ⊢
 rw [← hG] at HG0
 obtain ⟨c0,c1,c2,c3,c4,c5,c6,c7⟩:=HG0.out
 rw [hG] at c0 c1 c2 c3 c4 c5 c6 c7
 dsimp only at c0 c1 c2 c3 c4 c5 c6 c7
 go_enter Tryz.func117,Tryz.ntmps117
 go_wp2_with fail
 refine (HC.out _).mono ?_
 rintro e wn ⟨y,rfl,hy,hb⟩
 have HE:Hid (y=x):=Lib.hid (by rw [Bool.eq_iff_iff,hy,HX.out])
 have HB:=Lib.hid (below_next ((Below.refl _ _).alloc (Nat.le_refl _) _) hb)
 clear hy hb
 go_wp2_with fail
 go_ret
 exact ⟨by rw [← HE.out]; rfl,HB.out⟩
namespace Told
namespace L12
open Go.Rn (Rho RV Mp Tells chV chW tells_given kcL kcL_ok callX isB isBv bool_told law_told inL inL_ok none_ok he denC_cons denC_nil DscL dsc_cons dsc_nil den below_old)
variable {g:Gr} {xa:Option Addr} {X:List (Int × Int)} {xc:Nat} {w0:World}
noncomputable def bl (P:Prop):Bool:=@decide P (Classical.propDecidable _)
theorem bl_iff {P:Prop}:bl P=true ↔ P:=by unfold bl; simp
theorem in0 (c:Cx g xa X xc w0):GIn0 w0 g:=⟨c.gin.es,c.gin.rf,c.gin.co,c.gin.rmw,c.gin.data,c.gin.ctrl,c.gin.ctrli,by have:=c.gin.e40; omega,c.gin.r60,c.gin.c6,c.gin.l50,c.gin.m50,c.gin.d300,c.gin.t300,c.gin.i300⟩
set_option maxRecDepth 20000 in
theorem all_l (c:Cx g xa X xc w0) (w:World) (hb:Below w0.heap.size w0 w):Calls Tryz.prog 12 #[g.v] w fun e w'=>e=.returned (.bool true)∧Below w.heap.size w w':=by
 have hle:SelfM g.n (mx g X p78)→SelfM g.n (mx g X p79):=le_x
 have hhb:=hb_x c
 have hhe:=he_x c
 have har:=ar_x c
 obtain ⟨A,hA⟩:∃ A,A=bl (SelfM g.n (mx g X p78)):=⟨_,rfl⟩
 obtain ⟨B,hB⟩:∃ B,B=bl (SelfM g.n (mx g X p63)):=⟨_,rfl⟩
 obtain ⟨D,hD⟩:∃ D,D=bl (SelfM g.n (mx g X p79)):=⟨_,rfl⟩
 obtain ⟨F,hF⟩:∃ F,F=bl (SelfM g.n (plusM (mx g X p77))):=⟨_,rfl⟩
 have eA:A=true ↔ _:=hA ▸ bl_iff
 have eB:B=true ↔ _:=hB ▸ bl_iff
 have eD:D=true ↔ _:=hD ▸ bl_iff
 have eF:F=true ↔ _:=hF ▸ bl_iff
 have hAD:A=true→D=true:=fun h=>eD.2 (hle (eA.1 h))
 have hco:(!A && (!B && !D))=(!B && !D):=by cases A <;> cases D <;> simp_all
 have hat:noneB g.n (andM (ofM g.n g.Rmw) (seqM (outerM g.E (frM g)) (outerM g.E (coM g))))=noneB g.n (andM (seqM (outerM g.E (frM g)) (outerM g.E (coM g))) (ofM g.n g.Rmw)):=by rw [RelA.and_comm]
 have T1:=t_g (g:=g) (xa:=xa) (X:=X) (xc:=xc) (w0:=w0) 117 (by kernel_rfl) true (fun w hb=>formed_l g w ((in0 c).next hb) true ⟨fun _=>c.ck,fun _=>rfl⟩)
 have T2:=t_g (g:=g) (xa:=xa) (X:=X) (xc:=xc) (w0:=w0) 115 (by kernel_rfl) (!B && !D) (fun w hb=>hco ▸ coh_l c A B D eA eB eD w hb)
 have T3:=t_g (g:=g) (xa:=xa) (X:=X) (xc:=xc) (w0:=w0) 116 (by kernel_rfl) _ (fun w hb=>atom_l c w hb)
 have T4:=t_g (g:=g) (xa:=xa) (X:=X) (xc:=xc) (w0:=w0) 114 (by kernel_rfl) (!F) (fun w hb=>ord_l c F eF w hb)
 have T5:=t_g (g:=g) (xa:=xa) (X:=X) (xc:=xc) (w0:=w0) 41 (by kernel_rfl) (!B && !D) (fun w hb=>rcoh_l c B D (hhb ▸ eB) (hhe ▸ eD) w hb)
 have T6:=t_g (g:=g) (xa:=xa) (X:=X) (xc:=xc) (w0:=w0) 42 (by kernel_rfl) _ (fun w hb=>hat ▸ ratom_l c w hb)
 have T7:=t_g (g:=g) (xa:=xa) (X:=X) (xc:=xc) (w0:=w0) 43 (by kernel_rfl) (!F) (fun w hb=>rord_l c F (har ▸ eF) w hb)
 have T8:=t_g (g:=g) (xa:=xa) (X:=X) (xc:=xc) (w0:=w0) 7 (by kernel_rfl) true (fun w hb=>(check_t g w ((in0 c).next hb) c.ck).mono fun _ _ h=>h)
 refine (law_told (ρ:=rho g xa X xc w0) ysE_ok (inL_ok txtC.fsL_ok) none_ok (kc:=kcL (tla _ _ _)) (kcL_ok (by
  unfold tla
  exact List.forall_mem_cons.2 ⟨T1,List.forall_mem_cons.2 ⟨T2,List.forall_mem_cons.2 ⟨T3,List.forall_mem_cons.2 ⟨T4,List.forall_mem_cons.2 ⟨T5,List.forall_mem_cons.2 ⟨T6,List.forall_mem_cons.2 ⟨T7,List.forall_mem_cons.2 ⟨T8,fun _ h=>by cases h⟩⟩⟩⟩⟩⟩⟩⟩)) globs (w:=w) hb (run_all _ _ _) (vs:=[g.v]) (fun m=>denC_cons.2 ⟨_,_,rfl,g_den m,denC_nil.2 rfl⟩)).mono ?_
 rintro e w' ⟨rfl,o⟩
 exact ⟨rfl,o.below⟩
set_option maxRecDepth 100000 in
theorem run_no:isBv (callX ysE (inL txtC.fsL) (fun _ _=>none) (kcL [(117,1,chV (l_g false))]) 60 11 (.cons gR .nil) 100 he 100)=some false:=by kernel_rfl
theorem cons_no (h0:GIn0 w0 g) (hc:¬ CheckOk g) (w:World) (hb:Below w0.heap.size w0 w):Calls Tryz.prog 11 #[g.v] w fun e w'=>e=.returned (.bool false)∧Below w.heap.size w w':=by
 have T1:=t_g (g:=g) (xa:=none) (X:=[]) (xc:=0) (w0:=w0) 117 (by kernel_rfl) false (fun w hb=>formed_l g w (h0.next hb) false ⟨fun h=>(by cases h),fun h=>absurd h hc⟩)
 refine (bool_told (ρ:=rho g none [] 0 w0) ysE_ok (inL_ok txtC.fsL_ok) none_ok (kc:=kcL _) (kcL_ok (List.forall_mem_cons.2 ⟨T1,fun _ h=>by cases h⟩)) globs (w:=w) hb run_no (vs:=[g.v]) (fun m=>denC_cons.2 ⟨_,_,rfl,g_den m,denC_nil.2 rfl⟩)).mono ?_
 rintro e w' ⟨rfl,o⟩
 exact ⟨rfl,o.below⟩
end L12
end Told
end Go.Proofs.YthcnhbclagegeaaGreatDoor
namespace Go.Proofs.YthcnhbclagegeaaGreatDoor
open Go.RowKit RelA
attribute [local irreducible] RelA.rcells
attribute [local go_sem ↓] Go.wp_at_zero Go.wp_at_succ
set_option maxRecDepth 20000 in
set_option maxHeartbeats 3200000 in
theorem immany_l (g:Gr) (w:World) (h:GInA w g) (hec:g.E.length≤g.ec) (hcc:g.C.length≤g.cc) (ht:Tab w)
  (haw:∀ w',Below w.heap.size w w'→Calls Tryz.prog 10 #[] w' fun e w''=>e=.returned (.bool true)∧Below w'.heap.size w' w'') :
  Calls Tryz.prog 4 #[g.v] w fun e w'=>e=.returned (.bool true)∧Below w.heap.size w w':=by
 have HAW:=Lib.hid haw
 have HFE:=Lib.hid (fun w' (hb:Below w.heap.size w w')=>few_any g w' (h.co.next hb))
 have HCH:=Lib.hid (fun w' (hb:Below w.heap.size w w') (f:FewOk g)=>check_iff g w' ((h.next hb).few f))
 have HNO:=Lib.hid (fun w' (hb:Below w.heap.size w w') (f:FewOk g) (c:¬ CheckOk g)=>Told.L12.cons_no (g:=g) (w0:=w') ((h.next hb).few f) c w' (Below.refl _ _))
 have HAL:=Lib.hid (fun w' (hb:Below w.heap.size w w') (f:FewOk g) (c:CheckOk g)=>Told.L12.all_l (g:=g) (xa:=none) (X:=[]) (xc:=0) ⟨gin_of (h.next hb) f c hec hcc,ht.next hb,c,pin_none w',by simp⟩ w' (Below.refl _ _))
 clear h hec hcc ht haw
 generalize FewOk g=FO at *
 generalize CheckOk g=CO at *
 have HG0:=Lib.hid (GBox.of_alloc w g 27)
 obtain ⟨G,hG⟩:∃ G,G=g:=⟨_,rfl⟩
 obtain ⟨locs,ea,E,ec,ra,R,rc,ca,C,cc,ma,Rmw,mc,da,Data,dc,ta,Ctrl,tc,ia,CtrlI,ic⟩:=g
 simp only [Gr.v,gcells] at HFE HCH HNO HAL HG0 ⊢
 rw [← hG] at HG0
 go_enter Tryz.func4,Tryz.ntmps4
 go_wp2_with fail
 obtain ⟨w1,hw1⟩:∃ x,x=w.alloc (Obj.cells #[.int .i64 locs,.slice ea E.length ec,.slice ra R.length rc,.slice ca C.length cc,.slice ma Rmw.length mc,.slice da Data.length dc,.slice ta Ctrl.length tc,.slice ia CtrlI.length ic] 27 (0,0)):=⟨_,rfl⟩
 rw [← hw1] at HG0 ⊢
 have hs1:w1.heap.size=w.heap.size + 1:=by rw [hw1]; simp
 have HB1:Hid (Below w.heap.size w w1):=Lib.hid (by rw [hw1]; exact (Below.refl _ _).alloc (Nat.le_refl _) _)
 clear hw1
 obtain ⟨c0,c1,c2,c3,c4,c5,c6,c7⟩:=HG0.out
 rw [hG] at c0 c1 c2 c3 c4 c5 c6 c7
 dsimp only at c0 c1 c2 c3 c4 c5 c6 c7
 have HGB:=HG0
 have HB:=HB1
 clear HG0 HB1 hs1
 refine (HFE.out _ HB.out).mono ?_
 rintro e wn ⟨x,rfl,hx,hbe⟩
 have HX:=Lib.hid hx
 have HGB:=Lib.hid (HGB.out.next hbe)
 have HB:=Lib.hid (below_next HB.out hbe)
 clear hx hbe c0 c1 c2 c3 c4 c5 c6 c7
 cases x
 ·go_wp2_with fail
  refine (HAW.out _ HB.out).mono ?_
  rintro e wn ⟨rfl,hbe⟩
  have HB:=Lib.hid (below_next HB.out hbe)
  clear hbe
  go_wp2_with fail
  go_ret
  exact ⟨rfl,HB.out⟩
 ·have hfo:=HX.out rfl
  have HFO:=Lib.hid hfo
  clear HX hfo
  obtain ⟨c0,c1,c2,c3,c4,c5,c6,c7⟩:=HGB.out
  rw [hG] at c0 c1 c2 c3 c4 c5 c6 c7
  dsimp only at c0 c1 c2 c3 c4 c5 c6 c7
  by_cases e1:20 < E.length
  ·have l1:decide ((20:Int) < (E.length:Int))=true:=by simp; omega
   go_wp2_with fail
   refine (HAW.out _ HB.out).mono ?_
   rintro e wn ⟨rfl,hbe⟩
   have HB:=Lib.hid (below_next HB.out hbe)
   clear hbe
   go_wp2_with fail
   go_ret
   exact ⟨rfl,HB.out⟩
  ·have l1:decide ((20:Int) < (E.length:Int))=false:=by simp; omega
   go_wp2_with fail
   refine (HCH.out _ HB.out HFO.out).mono ?_
   rintro e wn ⟨x,rfl,hx,hbe⟩
   have HX:=Lib.hid hx
   have HGB:=Lib.hid (HGB.out.next hbe)
   have HB:=Lib.hid (below_next HB.out hbe)
   clear hx hbe c0 c1 c2 c3 c4 c5 c6 c7
   obtain ⟨c0,c1,c2,c3,c4,c5,c6,c7⟩:=HGB.out
   rw [hG] at c0 c1 c2 c3 c4 c5 c6 c7
   dsimp only at c0 c1 c2 c3 c4 c5 c6 c7
   cases x
   ·have HCN:Hid (¬ CO):=Lib.hid (fun h=>by have:=HX.out.2 h; cases this)
    go_wp2_with fail
    refine (HNO.out _ HB.out HFO.out HCN.out).mono ?_
    rintro e wn ⟨rfl,hbe⟩
    have HB:=Lib.hid (below_next HB.out hbe)
    clear hbe c0 c1 c2 c3 c4 c5 c6 c7
    go_wp2_with fail
    refine (HAW.out _ HB.out).mono ?_
    rintro e wn ⟨rfl,hbe⟩
    have HB:=Lib.hid (below_next HB.out hbe)
    clear hbe
    go_wp2_with fail
    go_ret
    exact ⟨rfl,HB.out⟩
   ·have HCO:=Lib.hid (HX.out.1 rfl)
    clear HX
    go_wp2_with fail
    refine (HAL.out _ HB.out HFO.out HCO.out).mono ?_
    rintro e wn ⟨rfl,hbe⟩
    have HB:=Lib.hid (below_next HB.out hbe)
    clear hbe c0 c1 c2 c3 c4 c5 c6 c7
    go_wp2_with fail
    refine (HAW.out _ HB.out).mono ?_
    rintro e wn ⟨rfl,hbe⟩
    have HB:=Lib.hid (below_next HB.out hbe)
    clear hbe
    go_wp2_with fail
    go_ret
    exact ⟨rfl,HB.out⟩
end Go.Proofs.YthcnhbclagegeaaGreatDoor
