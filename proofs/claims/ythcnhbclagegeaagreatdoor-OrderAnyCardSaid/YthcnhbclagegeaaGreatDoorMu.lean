/-
  exegesis/exegesislaw11.all is true of a graph that may be: a run whose calls are told. Conditions: the graph in memory, the table of bits in its variable.
-/
import Derived.Test.YthcnhbclagegeaaGreatDoorMd
import Derived.Test.YthcnhbclagegeaaGreatDoorMs
import Derived.Test.YthcnhbclagegeaaGreatDoorMt
import Derived.Test.YthcnhbclagegeaaGreatDoorMy
import Derived.Test.YthcnhbclagegeaaGreatDoorMr
namespace Go.Proofs.YthcnhbclagegeaaGreatDoor
open Go.RowKit RelA
attribute [local irreducible] RelA.rcells
section
attribute [local go_sem ↓] Go.wp_at_zero Go.wp_at_succ
set_option maxRecDepth 20000 in
set_option maxHeartbeats 3200000 in
theorem same_x11 (b c n:Nat) (R:Nat→Nat) (M:Nat→Nat→Bool) (w:World) (hb:At w b n R) (hc:RAt w c n M) (hn:n≤40) (hR:∀ i,R i < 2 ^ 40) (ht:Tab w) (he:pairsR R=rpairs n M) :
  Calls Tryz.prog 26 #[.pointer (some ⟨b,0,none⟩),.pointer (some ⟨c,0,none⟩)] w fun e w'=>e=.returned (.bool true)∧Below w.heap.size w w':=by
 have hc0:=hc.c0
 have HL:=Lib.hid (len_any b n w.drew hb.c0)
 have HP:=Lib.hid (pairs_any b n R w.drew hb hR ht)
 have HQ:=Lib.hid (fun w1 (h:Below w.heap.size w w1)=>rpairs_any c n M w1 (hc.next h) hn)
 have HE:=Lib.hid he
 have hlen:(rpairs n M).length≤100000:=by have:=rpre_len n M hn n; unfold rpairs; omega
 have HS:=Lib.hid (fun a1 a2 c1 c2 w1 (h1:PairsRd w1 a1 (rpairs n M)) (h2:PairsRd w1 a2 (rpairs n M))=>sp_any (rpairs n M) a1 a2 c1 c2 w1 h1 h2 hlen)
 clear hb hc hR ht he hn
 go_enter Tryz.func26,Tryz.ntmps26
 go_wp2_with fail
 go_region_with (first
  | (go_at_call 82; refine HL.out.mono ?_; rintro e w' ⟨rfl,rfl⟩)
  | (go_at_call 84; refine HP.out.mono ?_; rintro e w1 ⟨v,rfl,hown,hbe⟩; have hbe1:Below w.heap.size w w1:=⟨hbe.os,hbe.tape,hbe.output,hbe.size,hbe.block⟩; rw [HE.out] at hown; obtain ⟨p1,q1,rfl,hrd1⟩:=PairsRd.of_own hown; clear hown hbe; have HR1:=Lib.hid hrd1; have HBE1:=Lib.hid hbe1; clear hrd1 hbe1)
  | (go_at_call 85; refine (HQ.out _ HBE1.out).mono ?_; rintro e w2 ⟨v,rfl,hown,hbe⟩; obtain ⟨p2,q2,rfl,hrd2⟩:=PairsRd.of_own hown; have HR2:=Lib.hid hrd2; have HR12:=Lib.hid (HR1.out.next hbe); have HBE2:=Lib.hid (below_next HBE1.out hbe); clear hown hrd2 hbe)
  | (go_at_call 83; refine (HS.out _ _ _ _ _ HR12.out HR2.out).mono ?_; rintro e w3 ⟨rfl,hbe⟩; have HBE3:=Lib.hid (below_next HBE2.out hbe); clear hbe))
 all_goals go_wp2_with fail
 all_goals go_ret
 all_goals exact ⟨rfl,HBE3.out⟩
end
namespace Told
open Go.Rn (Rho RV Mp DscL dsc_cons dsc_nil den below_old)
theorem same11 (b c n:Nat) (M:Nat→Nat→Bool) (w:World) (h:Rl w b n M) (k:Rr w c n M) (hn:n≤40) (ht:Tab w) :
  Calls Tryz.prog 26 #[.pointer (some ⟨b,0,none⟩),.pointer (some ⟨c,0,none⟩)] w fun e w'=>e=.returned (.bool true)∧Below w.heap.size w w':=by
 obtain ⟨⟨R,h1,h2,h3⟩,h4⟩:=h
 exact same_x11 b c n R M w h1 k.at_ hn h2 ht (pairs_eq hn h3 h4)
end Told
end Go.Proofs.YthcnhbclagegeaaGreatDoor
namespace Go.Proofs.YthcnhbclagegeaaGreatDoor
open Go.RowKit RelA
namespace Told
namespace L11
open Go.Rn (Rho RV Mp Tells chV chW tells_given kcL kcL_ok callX isB law_told inL inL_ok none_ok he denC_cons denC_nil)
variable {g:Gr} {xa:Option Addr} {X:List (Int × Int)} {xc:Nat} {w0:World}
theorem hb_e (c:CheckOk g):plusM (orM (poM g.E) (seqM (seqM (releaseM g) (orM (innerM g.E (rfM g)) (seqM (maybeM g.n (locM g.E)) (lessM (rfM g) (innerM g.E (rfM g)))))) (orM (evM g 1 [1]) (seqM (poM g.E) (evM g 3 [1,3,4])))))=rhbM g:=by
 rw [outer_eq]
 exact hb_eq c
theorem bob_e (c:CheckOk g):orM (orM (orM (orM (orM noneM (seqM (poM g.E) (evM g 2 [2]))) (seqM (evM g 1 [1]) (poM g.E))) (seqM (poM g.E) (evM g 3 []))) (seqM (evM g 3 []) (poM g.E))) (seqM (seqM (evM g 2 [2]) (locM g.E)) (evM g 2 [])) =
  orM (orM (orM (orM (seqM (poM g.E) (kM g 2 2 2)) (seqM (kM g 1 1 1) (poM g.E))) (seqM (poM g.E) (kM g 3 1 4))) (seqM (kM g 3 1 4) (poM g.E))) (seqM (seqM (kM g 2 2 2) (locM g.E)) (kM g 2 0 2)):=by
 rw [or_none,wrel_eq,racq_eq,bar_eq c,w_eq c]
theorem deps_e (g:Gr):orM (orM (orM noneM (ofM g.n g.Data)) (ofM g.n g.Ctrl)) (seqM (diagM g.n fun i=>exB (Ev.at g.E i)) (poM g.E))=depsM g:=by
 rw [or_none]
 rfl
theorem ppo_e (c:CheckOk g):seqM (seqM (evM g 1 []) (plusM (orM (orM noneM (orM (orM (orM noneM (ofM g.n g.Data)) (ofM g.n g.Ctrl)) (seqM (diagM g.n fun i=>exB (Ev.at g.E i)) (poM g.E)))) (innerM g.E (rfM g))))) (evM g 2 []) =
  seqM (seqM (kM g 1 0 1) (plusM (orM (depsM g) (innerM g.E (rfM g))))) (kM g 2 0 2):=by
 rw [deps_e,or_none,rd_eq c,w_eq c]
theorem det_e (g:Gr):andM (seqM (lessM (coM g) (innerM g.E (coM g))) (lessM (rfM g) (innerM g.E (rfM g)))) (poM g.E)=andM (seqM (outerM g.E (coM g)) (outerM g.E (rfM g))) (poM g.E):=by
 rw [outer_eq,outer_eq]
theorem eco_e (g:Gr):plusM (orM (orM (orM noneM (rfM g)) (coM g)) (frM g))=ecoM g:=by
 rw [or_none]
 rfl
noncomputable def p0:RV:=.fn 1 (.cons gR .nil)
noncomputable def p1:RV:=.fn 2 (.cons gR .nil)
noncomputable def p2:RV:=.fn 5 (.cons gR .nil)
noncomputable def p3:RV:=.fn 6 (.cons gR .nil)
noncomputable def p4:RV:=.fn 14 (.cons (.tup (.cons (.mp 1) p0)) .nil)
noncomputable def p5:RV:=.fn 13 (.cons (.tup (.cons (.mp 1) p4)) (.cons (.tup (.cons (.mp 1) p1)) .nil))
noncomputable def p6:RV:=.fn 41 (.cons gR (.cons (.i .i64 2) (.cons .ns .nil)))
noncomputable def p7:RV:=.fn 40 (.cons gR (.cons (.i .i64 1) (.cons .ns .nil)))
noncomputable def p8:RV:=.fn 42 (.cons gR (.cons (.i .i64 3) (.cons .ns .nil)))
noncomputable def p9:RV:=.fn 43 (.cons gR (.cons (.i .i64 2) (.cons (chI [2]) .nil)))
noncomputable def p10:RV:=.fn 44 (.cons gR (.cons (.i .i64 1) (.cons (chI [1]) .nil)))
noncomputable def p11:RV:=.fn 13 (.cons (.tup (.cons (.mp 1) p3)) (.cons (.tup (.cons (.mp 1) p9)) .nil))
noncomputable def p12:RV:=.fn 13 (.cons (.tup (.cons (.mp 1) p10)) (.cons (.tup (.cons (.mp 1) p3)) .nil))
noncomputable def p13:RV:=.fn 13 (.cons (.tup (.cons (.mp 1) p3)) (.cons (.tup (.cons (.mp 1) p8)) .nil))
noncomputable def p14:RV:=.fn 13 (.cons (.tup (.cons (.mp 1) p8)) (.cons (.tup (.cons (.mp 1) p3)) .nil))
noncomputable def p15:RV:=.fn 13 (.cons (.tup (.cons (.mp 1) p9)) (.cons (.tup (.cons (.mp 1) p2)) .nil))
noncomputable def p16:RV:=.fn 13 (.cons (.tup (.cons (.mp 1) p15)) (.cons (.tup (.cons (.mp 1) p6)) .nil))
noncomputable def p17:RV:=.fn 34 (.cons nR (.cons .ns .nil))
noncomputable def p18:RV:=.fn 10 (.cons (.tup (.cons (.mp 1) p17)) (.cons (.tup (.cons (.mp 1) p11)) .nil))
noncomputable def p19:RV:=.fn 10 (.cons (.tup (.cons (.mp 1) p18)) (.cons (.tup (.cons (.mp 1) p12)) .nil))
noncomputable def p20:RV:=.fn 10 (.cons (.tup (.cons (.mp 1) p19)) (.cons (.tup (.cons (.mp 1) p13)) .nil))
noncomputable def p21:RV:=.fn 10 (.cons (.tup (.cons (.mp 1) p20)) (.cons (.tup (.cons (.mp 1) p14)) .nil))
noncomputable def p22:RV:=.fn 10 (.cons (.tup (.cons (.mp 1) p21)) (.cons (.tup (.cons (.mp 1) p16)) .nil))
noncomputable def p23:RV:=.fn 80 (.cons gR (.cons (.fn 79 .nil) .nil))
noncomputable def p24:RV:=.fn 31 (.cons nR (.cons (opS 5) .nil))
noncomputable def p25:RV:=.fn 32 (.cons nR (.cons (opS 6) .nil))
noncomputable def p26:RV:=.fn 13 (.cons (.tup (.cons (.mp 1) p23)) (.cons (.tup (.cons (.mp 1) p3)) .nil))
noncomputable def p27:RV:=.fn 10 (.cons (.tup (.cons (.mp 1) p17)) (.cons (.tup (.cons (.mp 1) p24)) .nil))
noncomputable def p28:RV:=.fn 10 (.cons (.tup (.cons (.mp 1) p27)) (.cons (.tup (.cons (.mp 1) p25)) .nil))
noncomputable def p29:RV:=.fn 10 (.cons (.tup (.cons (.mp 1) p28)) (.cons (.tup (.cons (.mp 1) p26)) .nil))
noncomputable def p30:RV:=.fn 20 (.cons gR (.cons (.tup (.cons (.mp 1) p0)) .nil))
noncomputable def p31:RV:=.fn 10 (.cons (.tup (.cons (.mp 1) p17)) (.cons (.tup (.cons (.mp 1) p29)) .nil))
noncomputable def p32:RV:=.fn 10 (.cons (.tup (.cons (.mp 1) p31)) (.cons (.tup (.cons (.mp 1) p30)) .nil))
noncomputable def p33:RV:=.fn 15 (.cons (.tup (.cons (.mp 1) p32)) .nil)
noncomputable def p34:RV:=.fn 13 (.cons (.tup (.cons (.mp 1) p7)) (.cons (.tup (.cons (.mp 1) p33)) .nil))
noncomputable def p35:RV:=.fn 13 (.cons (.tup (.cons (.mp 1) p34)) (.cons (.tup (.cons (.mp 1) p6)) .nil))
noncomputable def p36:RV:=.fn 20 (.cons gR (.cons (.tup (.cons (.mp 1) p1)) .nil))
noncomputable def p37:RV:=.fn 12 (.cons (.tup (.cons (.mp 1) p1)) (.cons (.tup (.cons (.mp 1) p36)) .nil))
noncomputable def p38:RV:=.fn 12 (.cons (.tup (.cons (.mp 1) p0)) (.cons (.tup (.cons (.mp 1) p30)) .nil))
noncomputable def p39:RV:=.fn 13 (.cons (.tup (.cons (.mp 1) p37)) (.cons (.tup (.cons (.mp 1) p38)) .nil))
noncomputable def p40:RV:=.fn 11 (.cons (.tup (.cons (.mp 1) p39)) (.cons (.tup (.cons (.mp 1) p3)) .nil))
noncomputable def p41:RV:=.fn 16 (.cons (.tup (.cons (.mp 1) p2)) .nil)
noncomputable def p42:RV:=.fn 30 (.cons nR (.cons (opS 4) .nil))
noncomputable def p43:RV:=.fn 13 (.cons (.tup (.cons (.mp 1) p41)) (.cons (.tup (.cons (.mp 1) p0)) .nil))
noncomputable def p44:RV:=.fn 13 (.cons (.tup (.cons (.mp 1) p43)) (.cons (.tup (.cons (.mp 1) p42)) .nil))
noncomputable def p45:RV:=.fn 15 (.cons (.tup (.cons (.mp 1) p44)) .nil)
noncomputable def p46:RV:=.fn 16 (.cons (.tup (.cons (.mp 1) p45)) .nil)
noncomputable def p47:RV:=.fn 13 (.cons (.tup (.cons (.mp 1) p6)) (.cons (.tup (.cons (.mp 1) p2)) .nil))
noncomputable def p48:RV:=.fn 13 (.cons (.tup (.cons (.mp 1) p47)) (.cons (.tup (.cons (.mp 1) p6)) .nil))
noncomputable def p49:RV:=.fn 13 (.cons (.tup (.cons (.mp 1) p6)) (.cons (.tup (.cons (.mp 1) p46)) .nil))
noncomputable def p50:RV:=.fn 10 (.cons (.tup (.cons (.mp 1) p48)) (.cons (.tup (.cons (.mp 1) p49)) .nil))
noncomputable def p51:RV:=.fn 45 (.cons gR (.cons (.i .i64 3) (.cons (chI [2,3,4]) .nil)))
noncomputable def p52:RV:=.fn 13 (.cons (.tup (.cons (.mp 1) p51)) (.cons (.tup (.cons (.mp 1) p3)) .nil))
noncomputable def p53:RV:=.fn 10 (.cons (.tup (.cons (.mp 1) p9)) (.cons (.tup (.cons (.mp 1) p52)) .nil))
noncomputable def p54:RV:=.fn 13 (.cons (.tup (.cons (.mp 1) p53)) (.cons (.tup (.cons (.mp 1) p50)) .nil))
noncomputable def p55:RV:=.fn 13 (.cons (.tup (.cons (.mp 1) p41)) (.cons (.tup (.cons (.mp 1) p38)) .nil))
noncomputable def p56:RV:=.fn 10 (.cons (.tup (.cons (.mp 1) p30)) (.cons (.tup (.cons (.mp 1) p55)) .nil))
noncomputable def p57:RV:=.fn 46 (.cons gR (.cons (.i .i64 3) (.cons (chI [1,3,4]) .nil)))
noncomputable def p58:RV:=.fn 13 (.cons (.tup (.cons (.mp 1) p3)) (.cons (.tup (.cons (.mp 1) p57)) .nil))
noncomputable def p59:RV:=.fn 10 (.cons (.tup (.cons (.mp 1) p10)) (.cons (.tup (.cons (.mp 1) p58)) .nil))
noncomputable def p60:RV:=.fn 13 (.cons (.tup (.cons (.mp 1) p54)) (.cons (.tup (.cons (.mp 1) p56)) .nil))
noncomputable def p61:RV:=.fn 13 (.cons (.tup (.cons (.mp 1) p60)) (.cons (.tup (.cons (.mp 1) p59)) .nil))
noncomputable def p62:RV:=.fn 10 (.cons (.tup (.cons (.mp 1) p3)) (.cons (.tup (.cons (.mp 1) p61)) .nil))
noncomputable def p63:RV:=.fn 15 (.cons (.tup (.cons (.mp 1) p62)) .nil)
noncomputable def p64:RV:=.fn 10 (.cons (.tup (.cons (.mp 1) p17)) (.cons (.tup (.cons (.mp 1) p0)) .nil))
noncomputable def p65:RV:=.fn 10 (.cons (.tup (.cons (.mp 1) p64)) (.cons (.tup (.cons (.mp 1) p1)) .nil))
noncomputable def p66:RV:=.fn 10 (.cons (.tup (.cons (.mp 1) p65)) (.cons (.tup (.cons (.mp 1) p5)) .nil))
noncomputable def p67:RV:=.fn 15 (.cons (.tup (.cons (.mp 1) p66)) .nil)
noncomputable def p68:RV:=.fn 47 (.cons gR (.cons (.i .i64 3) (.cons (chI [4]) .nil)))
noncomputable def p69:RV:=.fn 13 (.cons (.tup (.cons (.mp 1) p68)) (.cons (.tup (.cons (.mp 1) p63)) .nil))
noncomputable def p70:RV:=.fn 13 (.cons (.tup (.cons (.mp 1) p69)) (.cons (.tup (.cons (.mp 1) p67)) .nil))
noncomputable def p71:RV:=.fn 13 (.cons (.tup (.cons (.mp 1) p70)) (.cons (.tup (.cons (.mp 1) p63)) .nil))
noncomputable def p72:RV:=.fn 13 (.cons (.tup (.cons (.mp 1) p71)) (.cons (.tup (.cons (.mp 1) p68)) .nil))
noncomputable def p73:RV:=.fn 10 (.cons (.tup (.cons (.mp 1) p17)) (.cons (.tup (.cons (.mp 1) p38)) .nil))
noncomputable def p74:RV:=.fn 10 (.cons (.tup (.cons (.mp 1) p73)) (.cons (.tup (.cons (.mp 1) p22)) .nil))
noncomputable def p75:RV:=.fn 10 (.cons (.tup (.cons (.mp 1) p74)) (.cons (.tup (.cons (.mp 1) p35)) .nil))
noncomputable def p76:RV:=.fn 10 (.cons (.tup (.cons (.mp 1) p75)) (.cons (.tup (.cons (.mp 1) p40)) .nil))
noncomputable def p77:RV:=.fn 10 (.cons (.tup (.cons (.mp 1) p76)) (.cons (.tup (.cons (.mp 1) p72)) .nil))
noncomputable def q0:RV:=.fn 1 (.cons gR .nil)
noncomputable def q1:RV:=.fn 2 (.cons gR .nil)
noncomputable def q2:RV:=.fn 5 (.cons gR .nil)
noncomputable def q3:RV:=.fn 6 (.cons gR .nil)
noncomputable def q4:RV:=.fn 14 (.cons (.tup (.cons (.mp 2) q0)) .nil)
noncomputable def q5:RV:=.fn 13 (.cons (.tup (.cons (.mp 2) q4)) (.cons (.tup (.cons (.mp 2) q1)) .nil))
noncomputable def q6:RV:=.fn 60 (.cons gR (.cons (.i .i64 2) (.cons (.i .i64 0) (.cons (.i .i64 2) .nil))))
noncomputable def q7:RV:=.fn 61 (.cons gR (.cons (.i .i64 2) (.cons (.i .i64 2) (.cons (.i .i64 2) .nil))))
noncomputable def q8:RV:=.fn 62 (.cons gR (.cons (.i .i64 1) (.cons (.i .i64 1) (.cons (.i .i64 1) .nil))))
noncomputable def q9:RV:=.fn 66 (.cons gR (.cons (.i .i64 3) (.cons (.i .i64 1) (.cons (.i .i64 4) .nil))))
noncomputable def q10:RV:=.fn 13 (.cons (.tup (.cons (.mp 2) q3)) (.cons (.tup (.cons (.mp 2) q7)) .nil))
noncomputable def q11:RV:=.fn 13 (.cons (.tup (.cons (.mp 2) q8)) (.cons (.tup (.cons (.mp 2) q3)) .nil))
noncomputable def q12:RV:=.fn 13 (.cons (.tup (.cons (.mp 2) q3)) (.cons (.tup (.cons (.mp 2) q9)) .nil))
noncomputable def q13:RV:=.fn 13 (.cons (.tup (.cons (.mp 2) q9)) (.cons (.tup (.cons (.mp 2) q3)) .nil))
noncomputable def q14:RV:=.fn 13 (.cons (.tup (.cons (.mp 2) q7)) (.cons (.tup (.cons (.mp 2) q2)) .nil))
noncomputable def q15:RV:=.fn 13 (.cons (.tup (.cons (.mp 2) q14)) (.cons (.tup (.cons (.mp 2) q6)) .nil))
noncomputable def q16:RV:=.fn 10 (.cons (.tup (.cons (.mp 2) q10)) (.cons (.tup (.cons (.mp 2) q11)) .nil))
noncomputable def q17:RV:=.fn 10 (.cons (.tup (.cons (.mp 2) q16)) (.cons (.tup (.cons (.mp 2) q12)) .nil))
noncomputable def q18:RV:=.fn 10 (.cons (.tup (.cons (.mp 2) q17)) (.cons (.tup (.cons (.mp 2) q13)) .nil))
noncomputable def q19:RV:=.fn 10 (.cons (.tup (.cons (.mp 2) q18)) (.cons (.tup (.cons (.mp 2) q15)) .nil))
noncomputable def q20:RV:=.fn 81 (.cons gR .nil)
noncomputable def q21:RV:=.fn 67 (.cons gR (.cons (.i .i64 1) (.cons (.i .i64 0) (.cons (.i .i64 1) .nil))))
noncomputable def q22:RV:=.fn 20 (.cons gR (.cons (.tup (.cons (.mp 2) q0)) (.cons (.b true) .nil)))
noncomputable def q23:RV:=.fn 10 (.cons (.tup (.cons (.mp 2) q20)) (.cons (.tup (.cons (.mp 2) q22)) .nil))
noncomputable def q24:RV:=.fn 15 (.cons (.tup (.cons (.mp 2) q23)) .nil)
noncomputable def q25:RV:=.fn 13 (.cons (.tup (.cons (.mp 2) q21)) (.cons (.tup (.cons (.mp 2) q24)) .nil))
noncomputable def q26:RV:=.fn 13 (.cons (.tup (.cons (.mp 2) q25)) (.cons (.tup (.cons (.mp 2) q6)) .nil))
noncomputable def q27:RV:=.fn 21 (.cons gR (.cons (.tup (.cons (.mp 2) q1)) (.cons (.b false) .nil)))
noncomputable def q28:RV:=.fn 21 (.cons gR (.cons (.tup (.cons (.mp 2) q0)) (.cons (.b false) .nil)))
noncomputable def q29:RV:=.fn 13 (.cons (.tup (.cons (.mp 2) q27)) (.cons (.tup (.cons (.mp 2) q28)) .nil))
noncomputable def q30:RV:=.fn 11 (.cons (.tup (.cons (.mp 2) q29)) (.cons (.tup (.cons (.mp 2) q3)) .nil))
noncomputable def q31:RV:=.fn 16 (.cons (.tup (.cons (.mp 2) q2)) .nil)
noncomputable def q32:RV:=.fn 30 (.cons nR (.cons (opS 4) .nil))
noncomputable def q33:RV:=.fn 13 (.cons (.tup (.cons (.mp 2) q31)) (.cons (.tup (.cons (.mp 2) q0)) .nil))
noncomputable def q34:RV:=.fn 13 (.cons (.tup (.cons (.mp 2) q33)) (.cons (.tup (.cons (.mp 2) q32)) .nil))
noncomputable def q35:RV:=.fn 13 (.cons (.tup (.cons (.mp 2) q6)) (.cons (.tup (.cons (.mp 2) q2)) .nil))
noncomputable def q36:RV:=.fn 13 (.cons (.tup (.cons (.mp 2) q35)) (.cons (.tup (.cons (.mp 2) q6)) .nil))
noncomputable def q37:RV:=.fn 15 (.cons (.tup (.cons (.mp 2) q34)) .nil)
noncomputable def q38:RV:=.fn 16 (.cons (.tup (.cons (.mp 2) q37)) .nil)
noncomputable def q39:RV:=.fn 13 (.cons (.tup (.cons (.mp 2) q6)) (.cons (.tup (.cons (.mp 2) q38)) .nil))
noncomputable def q40:RV:=.fn 10 (.cons (.tup (.cons (.mp 2) q36)) (.cons (.tup (.cons (.mp 2) q39)) .nil))
noncomputable def q41:RV:=.fn 63 (.cons gR (.cons (.i .i64 3) (.cons (.i .i64 2) (.cons (.i .i64 4) .nil))))
noncomputable def q42:RV:=.fn 13 (.cons (.tup (.cons (.mp 2) q41)) (.cons (.tup (.cons (.mp 2) q3)) .nil))
noncomputable def q43:RV:=.fn 10 (.cons (.tup (.cons (.mp 2) q7)) (.cons (.tup (.cons (.mp 2) q42)) .nil))
noncomputable def q44:RV:=.fn 13 (.cons (.tup (.cons (.mp 2) q43)) (.cons (.tup (.cons (.mp 2) q40)) .nil))
noncomputable def q45:RV:=.fn 13 (.cons (.tup (.cons (.mp 2) q31)) (.cons (.tup (.cons (.mp 2) q28)) .nil))
noncomputable def q46:RV:=.fn 10 (.cons (.tup (.cons (.mp 2) q22)) (.cons (.tup (.cons (.mp 2) q45)) .nil))
noncomputable def q47:RV:=.fn 64 (.cons gR (.cons (.i .i64 3) (.cons (.i .i64 1) (.cons (.i .i64 1) .nil))))
noncomputable def q48:RV:=.fn 65 (.cons gR (.cons (.i .i64 3) (.cons (.i .i64 3) (.cons (.i .i64 4) .nil))))
noncomputable def q49:RV:=.fn 10 (.cons (.tup (.cons (.mp 2) q47)) (.cons (.tup (.cons (.mp 2) q48)) .nil))
noncomputable def q50:RV:=.fn 13 (.cons (.tup (.cons (.mp 2) q3)) (.cons (.tup (.cons (.mp 2) q49)) .nil))
noncomputable def q51:RV:=.fn 10 (.cons (.tup (.cons (.mp 2) q8)) (.cons (.tup (.cons (.mp 2) q50)) .nil))
noncomputable def q52:RV:=.fn 13 (.cons (.tup (.cons (.mp 2) q44)) (.cons (.tup (.cons (.mp 2) q46)) .nil))
noncomputable def q53:RV:=.fn 13 (.cons (.tup (.cons (.mp 2) q52)) (.cons (.tup (.cons (.mp 2) q51)) .nil))
noncomputable def q54:RV:=.fn 10 (.cons (.tup (.cons (.mp 2) q3)) (.cons (.tup (.cons (.mp 2) q53)) .nil))
noncomputable def q55:RV:=.fn 15 (.cons (.tup (.cons (.mp 2) q54)) .nil)
noncomputable def q56:RV:=.fn 10 (.cons (.tup (.cons (.mp 2) q0)) (.cons (.tup (.cons (.mp 2) q1)) .nil))
noncomputable def q57:RV:=.fn 10 (.cons (.tup (.cons (.mp 2) q56)) (.cons (.tup (.cons (.mp 2) q5)) .nil))
noncomputable def q58:RV:=.fn 15 (.cons (.tup (.cons (.mp 2) q57)) .nil)
noncomputable def q59:RV:=.fn 68 (.cons gR (.cons (.i .i64 3) (.cons (.i .i64 4) (.cons (.i .i64 4) .nil))))
noncomputable def q60:RV:=.fn 13 (.cons (.tup (.cons (.mp 2) q59)) (.cons (.tup (.cons (.mp 2) q55)) .nil))
noncomputable def q61:RV:=.fn 13 (.cons (.tup (.cons (.mp 2) q60)) (.cons (.tup (.cons (.mp 2) q58)) .nil))
noncomputable def q62:RV:=.fn 13 (.cons (.tup (.cons (.mp 2) q61)) (.cons (.tup (.cons (.mp 2) q55)) .nil))
noncomputable def q63:RV:=.fn 13 (.cons (.tup (.cons (.mp 2) q62)) (.cons (.tup (.cons (.mp 2) q59)) .nil))
noncomputable def q64:RV:=.fn 10 (.cons (.tup (.cons (.mp 2) q28)) (.cons (.tup (.cons (.mp 2) q19)) .nil))
noncomputable def q65:RV:=.fn 10 (.cons (.tup (.cons (.mp 2) q64)) (.cons (.tup (.cons (.mp 2) q26)) .nil))
noncomputable def q66:RV:=.fn 10 (.cons (.tup (.cons (.mp 2) q65)) (.cons (.tup (.cons (.mp 2) q30)) .nil))
noncomputable def q67:RV:=.fn 10 (.cons (.tup (.cons (.mp 2) q66)) (.cons (.tup (.cons (.mp 2) q63)) .nil))
theorem e0 (c:Cx g xa X xc w0):mx g X p22=mx g X q19:=bob_e c.ck
theorem e1 (_c:Cx g xa X xc w0):mx g X p29=mx g X q20:=deps_e g
theorem e2 (c:Cx g xa X xc w0):mx g X p35=mx g X q26:=ppo_e c.ck
theorem e3 (_c:Cx g xa X xc w0):mx g X p40=mx g X q30:=det_e g
theorem e4 (c:Cx g xa X xc w0):mx g X p72=mx g X q63:=by
 show seqM (seqM (seqM (seqM (evM g 3 [4]) (plusM (orM (poM g.E) (seqM (seqM (releaseM g) (orM (innerM g.E (rfM g)) (seqM (maybeM g.n (locM g.E)) (lessM (rfM g) (innerM g.E (rfM g)))))) (orM (evM g 1 [1]) (seqM (poM g.E) (evM g 3 [1,3,4]))))))) (plusM (orM (orM (orM noneM (rfM g)) (coM g)) (frM g)))) (plusM (orM (poM g.E) (seqM (seqM (releaseM g) (orM (innerM g.E (rfM g)) (seqM (maybeM g.n (locM g.E)) (lessM (rfM g) (innerM g.E (rfM g)))))) (orM (evM g 1 [1]) (seqM (poM g.E) (evM g 3 [1,3,4]))))))) (evM g 3 [4])=seqM (seqM (seqM (seqM (kM g 3 4 4) (rhbM g)) (ecoM g)) (rhbM g)) (kM g 3 4 4)
 rw [hb_e c.ck,eco_e,sc_eq]
theorem e5 (c:Cx g xa X xc w0):mx g X p77=mx g X q67:=by
 have h0:=e0 c
 have h2:=e2 c
 have h3:=e3 c
 have h4:=e4 c
 show orM (orM (orM (orM (orM noneM (lessM (rfM g) (innerM g.E (rfM g)))) (mx g X p22)) (mx g X p35)) (mx g X p40)) (mx g X p72)=orM (orM (orM (orM (outerM g.E (rfM g)) (mx g X q19)) (mx g X q26)) (mx g X q30)) (mx g X q63)
 rw [or_none,outer_eq,h0,h2,h3,h4]
noncomputable def l_same:List (RV × RV):=[(.cons (.tup (.cons (.mp 1) p22)) (.cons (.tup (.cons (.mp 2) q19)) .nil),.b true),(.cons (.tup (.cons (.mp 1) p29)) (.cons (.tup (.cons (.mp 2) q20)) .nil),.b true),(.cons (.tup (.cons (.mp 1) p35)) (.cons (.tup (.cons (.mp 2) q26)) .nil),.b true),(.cons (.tup (.cons (.mp 1) p40)) (.cons (.tup (.cons (.mp 2) q30)) .nil),.b true),(.cons (.tup (.cons (.mp 1) p72)) (.cons (.tup (.cons (.mp 2) q63)) .nil),.b true),(.cons (.tup (.cons (.mp 1) p77)) (.cons (.tup (.cons (.mp 2) q67)) .nil),.b true)]
set_option maxRecDepth 20000 in
theorem t_same (c:Cx g xa X xc w0):Tells Tryz.prog (rho g xa X xc w0) (26,1,chV l_same):=tells_given (by kernel_rfl) (by
 intro x hx
 unfold l_same at hx
 simp only [List.mem_cons,List.not_mem_nil,or_false] at hx
 rcases hx with rfl | rfl | rfl | rfl | rfl | rfl
 ·exact same_given c same11 (e0 c)
 ·exact same_given c same11 (e1 c)
 ·exact same_given c same11 (e2 c)
 ·exact same_given c same11 (e3 c)
 ·exact same_given c same11 (e4 c)
 ·exact same_given c same11 (e5 c))
noncomputable def tl:List (Nat × Nat × RV):=[(26,1,chV l_same),(152,0,chW l_new),(122,0,chW l_or),(106,0,chW l_and),(123,0,chW l_less),(80,0,chW l_then),(182,0,chW l_back),(66,0,chW l_plus),(174,0,chW l_maybe),(81,0,chW l_po),(65,0,chW l_events),(179,0,chW l_rf),(180,0,chW l_co),(62,0,chW l_inner),(91,0,chW l_loc),(101,0,chW l_rnew),(96,0,chW l_ror),(109,0,chW l_rand),(94,0,chW l_rthen),(163,0,chW l_rback),(104,0,chW l_rplus),(178,0,chW l_rmaybe),(92,0,chW l_rpo),(93,0,chW l_rkind),(103,0,chW l_rrf),(108,0,chW l_rco),(98,0,chW l_rloc),(157,0,chW l_rpart),(78,0,chW l_set),(29,0,chW l_rdeps)]
set_option maxRecDepth 20000 in
theorem tl_ok (c:Cx g xa X xc w0):∀ e ∈ tl,Tells Tryz.prog (rho g xa X xc w0) e:=by
 unfold tl
 refine List.forall_mem_cons.2 ⟨t_same c,?_⟩
 refine List.forall_mem_cons.2 ⟨t_new c,?_⟩
 refine List.forall_mem_cons.2 ⟨t_or c,?_⟩
 refine List.forall_mem_cons.2 ⟨t_and c,?_⟩
 refine List.forall_mem_cons.2 ⟨t_less c,?_⟩
 refine List.forall_mem_cons.2 ⟨t_then c,?_⟩
 refine List.forall_mem_cons.2 ⟨t_back c,?_⟩
 refine List.forall_mem_cons.2 ⟨t_plus c,?_⟩
 refine List.forall_mem_cons.2 ⟨t_maybe c,?_⟩
 refine List.forall_mem_cons.2 ⟨t_po c,?_⟩
 refine List.forall_mem_cons.2 ⟨t_events c,?_⟩
 refine List.forall_mem_cons.2 ⟨t_rf c,?_⟩
 refine List.forall_mem_cons.2 ⟨t_co c,?_⟩
 refine List.forall_mem_cons.2 ⟨t_inner c,?_⟩
 refine List.forall_mem_cons.2 ⟨t_loc c,?_⟩
 refine List.forall_mem_cons.2 ⟨t_rnew c,?_⟩
 refine List.forall_mem_cons.2 ⟨t_ror c,?_⟩
 refine List.forall_mem_cons.2 ⟨t_rand c,?_⟩
 refine List.forall_mem_cons.2 ⟨t_rthen c,?_⟩
 refine List.forall_mem_cons.2 ⟨t_rback c,?_⟩
 refine List.forall_mem_cons.2 ⟨t_rplus c,?_⟩
 refine List.forall_mem_cons.2 ⟨t_rmaybe c,?_⟩
 refine List.forall_mem_cons.2 ⟨t_rpo c,?_⟩
 refine List.forall_mem_cons.2 ⟨t_rkind c,?_⟩
 refine List.forall_mem_cons.2 ⟨t_rrf c,?_⟩
 refine List.forall_mem_cons.2 ⟨t_rco c,?_⟩
 refine List.forall_mem_cons.2 ⟨t_rloc c,?_⟩
 refine List.forall_mem_cons.2 ⟨t_rpart c,?_⟩
 refine List.forall_mem_cons.2 ⟨t_set c,?_⟩
 refine List.forall_mem_cons.2 ⟨t_rdeps c,?_⟩
 exact fun _ h=>by cases h
theorem globs:Tryz.prog.globals.size≤100:=of_decide_eq_true (by kernel_rfl)
set_option maxRecDepth 100000 in
theorem run:isB (callX ysE (inL txtB.fsL) (fun _ _=>none) (kcL tl) 60 9 (.cons gR .nil) 100 he 100)=true:=by kernel_rfl
theorem all_l (c:Cx g xa X xc w0) (w:World) (hb:Below w0.heap.size w0 w):Calls Tryz.prog 9 #[g.v] w fun e w'=>e=.returned (.bool true)∧Below w.heap.size w w':=by
 refine (law_told (ρ:=rho g xa X xc w0) ysE_ok (inL_ok txtB.fsL_ok) none_ok (kc:=kcL tl) (kcL_ok (tl_ok c)) globs (w:=w) hb run (vs:=[g.v]) (fun m=>denC_cons.2 ⟨_,_,rfl,g_den m,denC_nil.2 rfl⟩)).mono ?_
 rintro e w' ⟨rfl,o⟩
 exact ⟨rfl,o.below⟩
end L11
end Told
end Go.Proofs.YthcnhbclagegeaaGreatDoor
namespace Go.Proofs.YthcnhbclagegeaaGreatDoor
open Go.RowKit RelA
attribute [local irreducible] RelA.rcells
attribute [local go_sem ↓] Go.wp_at_zero Go.wp_at_succ
set_option maxRecDepth 20000 in
set_option maxHeartbeats 3200000 in
theorem orderany_l (g:Gr) (w:World) (h:GInA w g) (hec:g.E.length≤g.ec) (hcc:g.C.length≤g.cc) (ht:Tab w)
  (haw:∀ w',Below w.heap.size w w'→Calls Tryz.prog 8 #[] w' fun e w''=>e=.returned (.bool true)∧Below w'.heap.size w' w'') :
  Calls Tryz.prog 3 #[g.v] w fun e w'=>e=.returned (.bool true)∧Below w.heap.size w w':=by
 have HAW:=Lib.hid haw
 have HFE:=Lib.hid (fun w' (hb:Below w.heap.size w w')=>few_any g w' (h.co.next hb))
 have HCH:=Lib.hid (fun w' (hb:Below w.heap.size w w') (f:FewOk g)=>check_any g w' ((h.next hb).few f))
 have HAL:=Lib.hid (fun w' (hb:Below w.heap.size w w') (f:FewOk g) (c:CheckOk g)=>Told.L11.all_l (g:=g) (xa:=none) (X:=[]) (xc:=0) ⟨gin_of (h.next hb) f c hec hcc,ht.next hb,c,pin_none w',by simp⟩ w' (Below.refl _ _))
 clear h hec hcc ht haw
 generalize FewOk g=FO at *
 generalize CheckOk g=CO at *
 have HG0:=Lib.hid (GBox.of_alloc w g 27)
 obtain ⟨G,hG⟩:∃ G,G=g:=⟨_,rfl⟩
 obtain ⟨locs,ea,E,ec,ra,R,rc,ca,C,cc,ma,Rmw,mc,da,Data,dc,ta,Ctrl,tc,ia,CtrlI,ic⟩:=g
 simp only [Gr.v,gcells] at HFE HCH HAL HG0 ⊢
 rw [← hG] at HG0
 go_enter Tryz.func3,Tryz.ntmps3
 go_wp2_with fail
 obtain ⟨w1,hw1⟩:∃ x,x=w.alloc (Obj.cells #[.int .i64 locs,.slice ea E.length ec,.slice ra R.length rc,.slice ca C.length cc,.slice ma Rmw.length mc,.slice da Data.length dc,.slice ta Ctrl.length tc,.slice ia CtrlI.length ic] 27 (0,0)):=⟨_,rfl⟩
 rw [← hw1] at HG0 ⊢
 have hs1:w1.heap.size=w.heap.size + 1:=by rw [hw1]; simp
 have HB1:Hid (Below w.heap.size w w1):=Lib.hid (by rw [hw1]; exact (Below.refl _ _).alloc (Nat.le_refl _) _)
 clear hw1
 obtain ⟨c0,c1,c2,c3,c4,c5,c6,c7⟩:=HG0.out
 rw [hG] at c0 c1 c2 c3 c4 c5 c6 c7
 dsimp only at c0 c1 c2 c3 c4 c5 c6 c7
 have HGB:=HG0
 have HB:=HB1
 clear HG0 HB1 hs1
 refine (HFE.out _ HB.out).mono ?_
 rintro e wn ⟨x,rfl,hx,hbe⟩
 have HX:=Lib.hid hx
 have HGB:=Lib.hid (HGB.out.next hbe)
 have HB:=Lib.hid (below_next HB.out hbe)
 clear hx hbe c0 c1 c2 c3 c4 c5 c6 c7
 cases x
 ·go_wp2_with fail
  refine (HAW.out _ HB.out).mono ?_
  rintro e wn ⟨rfl,hbe⟩
  have HB:=Lib.hid (below_next HB.out hbe)
  clear hbe
  go_wp2_with fail
  go_ret
  exact ⟨rfl,HB.out⟩
 ·have hfo:=HX.out rfl
  have HFO:=Lib.hid hfo
  clear HX hfo
  obtain ⟨c0,c1,c2,c3,c4,c5,c6,c7⟩:=HGB.out
  rw [hG] at c0 c1 c2 c3 c4 c5 c6 c7
  dsimp only at c0 c1 c2 c3 c4 c5 c6 c7
  by_cases e1:20 < E.length
  ·have l1:decide ((20:Int) < (E.length:Int))=true:=by simp; omega
   go_wp2_with fail
   refine (HAW.out _ HB.out).mono ?_
   rintro e wn ⟨rfl,hbe⟩
   have HB:=Lib.hid (below_next HB.out hbe)
   clear hbe
   go_wp2_with fail
   go_ret
   exact ⟨rfl,HB.out⟩
  ·have l1:decide ((20:Int) < (E.length:Int))=false:=by simp; omega
   go_wp2_with fail
   refine (HCH.out _ HB.out HFO.out).mono ?_
   rintro e wn ⟨x,rfl,hx,hbe⟩
   have HX:=Lib.hid hx
   have HGB:=Lib.hid (HGB.out.next hbe)
   have HB:=Lib.hid (below_next HB.out hbe)
   clear hx hbe c0 c1 c2 c3 c4 c5 c6 c7
   cases x
   ·go_wp2_with fail
    refine (HAW.out _ HB.out).mono ?_
    rintro e wn ⟨rfl,hbe⟩
    have HB:=Lib.hid (below_next HB.out hbe)
    clear hbe
    go_wp2_with fail
    go_ret
    exact ⟨rfl,HB.out⟩
   ·have HCO:=Lib.hid (HX.out rfl)
    clear HX
    obtain ⟨c0,c1,c2,c3,c4,c5,c6,c7⟩:=HGB.out
    rw [hG] at c0 c1 c2 c3 c4 c5 c6 c7
    dsimp only at c0 c1 c2 c3 c4 c5 c6 c7
    go_wp2_with fail
    refine (HAL.out _ HB.out HFO.out HCO.out).mono ?_
    rintro e wn ⟨rfl,hbe⟩
    have HB:=Lib.hid (below_next HB.out hbe)
    clear hbe c0 c1 c2 c3 c4 c5 c6 c7
    go_wp2_with fail
    refine (HAW.out _ HB.out).mono ?_
    rintro e wn ⟨rfl,hbe⟩
    have HB:=Lib.hid (below_next HB.out hbe)
    clear hbe
    go_wp2_with fail
    go_ret
    exact ⟨rfl,HB.out⟩
end Go.Proofs.YthcnhbclagegeaaGreatDoor
