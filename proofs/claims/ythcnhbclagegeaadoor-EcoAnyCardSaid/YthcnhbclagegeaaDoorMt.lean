/-
  exegesis/exegesislaw09.all is true of a graph that may be: a run whose calls are told. Conditions: the graph in memory, the table of bits in its variable.
-/
import Derived.Test.YthcnhbclagegeaaDoorMd
import Derived.Test.YthcnhbclagegeaaDoorMs
import Derived.Test.YthcnhbclagegeaaDoorMz
import Derived.Test.YthcnhbclagegeaaDoorMr
namespace Go.Proofs.YthcnhbclagegeaaDoor
open Go.RowKit RelA
attribute [local irreducible] RelA.rcells
section
attribute [local go_sem ↓] Go.wp_at_zero Go.wp_at_succ
set_option maxRecDepth 20000 in
set_option maxHeartbeats 3200000 in
theorem same_x09 (b c n:Nat) (R:Nat→Nat) (M:Nat→Nat→Bool) (w:World) (hb:At w b n R) (hc:RAt w c n M) (hn:n≤40) (hR:∀ i,R i < 2 ^ 40) (ht:Tab w) (he:pairsR R=rpairs n M) :
  Calls Tryd.prog 49 #[.pointer (some ⟨b,0,none⟩),.pointer (some ⟨c,0,none⟩)] w fun e w'=>e=.returned (.bool true)∧Below w.heap.size w w':=by
 have hc0:=hc.c0
 have HL:=Lib.hid (len_any b n w.drew hb.c0)
 have HP:=Lib.hid (pairs_any b n R w.drew hb hR ht)
 have HQ:=Lib.hid (fun w1 (h:Below w.heap.size w w1)=>rpairs_any c n M w1 (hc.next h) hn)
 have HE:=Lib.hid he
 have hlen:(rpairs n M).length≤100000:=by have:=rpre_len n M hn n; unfold rpairs; omega
 have HS:=Lib.hid (fun a1 a2 c1 c2 w1 (h1:PairsRd w1 a1 (rpairs n M)) (h2:PairsRd w1 a2 (rpairs n M))=>sp_any (rpairs n M) a1 a2 c1 c2 w1 h1 h2 hlen)
 clear hb hc hR ht he hn
 go_enter Tryd.func49,Tryd.ntmps49
 go_wp2_with fail
 go_region_with (first
  | (go_at_call 94; refine HL.out.mono ?_; rintro e w' ⟨rfl,rfl⟩)
  | (go_at_call 11; refine HP.out.mono ?_; rintro e w1 ⟨v,rfl,hown,hbe⟩; have hbe1:Below w.heap.size w w1:=⟨hbe.os,hbe.tape,hbe.output,hbe.size,hbe.block⟩; rw [HE.out] at hown; obtain ⟨p1,q1,rfl,hrd1⟩:=PairsRd.of_own hown; clear hown hbe; have HR1:=Lib.hid hrd1; have HBE1:=Lib.hid hbe1; clear hrd1 hbe1)
  | (go_at_call 96; refine (HQ.out _ HBE1.out).mono ?_; rintro e w2 ⟨v,rfl,hown,hbe⟩; obtain ⟨p2,q2,rfl,hrd2⟩:=PairsRd.of_own hown; have HR2:=Lib.hid hrd2; have HR12:=Lib.hid (HR1.out.next hbe); have HBE2:=Lib.hid (below_next HBE1.out hbe); clear hown hrd2 hbe)
  | (go_at_call 95; refine (HS.out _ _ _ _ _ HR12.out HR2.out).mono ?_; rintro e w3 ⟨rfl,hbe⟩; have HBE3:=Lib.hid (below_next HBE2.out hbe); clear hbe))
 all_goals go_wp2_with fail
 all_goals go_ret
 all_goals exact ⟨rfl,HBE3.out⟩
end
namespace Told
open Go.Rn (Rho RV Mp DscL dsc_cons dsc_nil den below_old)
theorem same09 (b c n:Nat) (M:Nat→Nat→Bool) (w:World) (h:Rl w b n M) (k:Rr w c n M) (hn:n≤40) (ht:Tab w) :
  Calls Tryd.prog 49 #[.pointer (some ⟨b,0,none⟩),.pointer (some ⟨c,0,none⟩)] w fun e w'=>e=.returned (.bool true)∧Below w.heap.size w w':=by
 obtain ⟨⟨R,h1,h2,h3⟩,h4⟩:=h
 exact same_x09 b c n R M w h1 k.at_ hn h2 ht (pairs_eq hn h3 h4)
end Told
end Go.Proofs.YthcnhbclagegeaaDoor
namespace Go.Proofs.YthcnhbclagegeaaDoor
open Go.RowKit RelA
namespace Told
namespace L09
open Go.Rn (Rho RV Mp Tells chV chW tells_given kcL kcL_ok callX isB law_told inL inL_ok none_ok he denC_cons denC_nil)
variable {g:Gr} {xa:Option Addr} {X:List (Int × Int)} {xc:Nat} {w0:World}
noncomputable def p0:RV:=.fn 1 (.cons gR .nil)
noncomputable def p1:RV:=.fn 2 (.cons gR .nil)
noncomputable def p2:RV:=.fn 5 (.cons gR .nil)
noncomputable def p3:RV:=.fn 6 (.cons gR .nil)
noncomputable def p4:RV:=.fn 14 (.cons (.tup (.cons (.mp 1) p0)) .nil)
noncomputable def p5:RV:=.fn 13 (.cons (.tup (.cons (.mp 1) p4)) (.cons (.tup (.cons (.mp 1) p1)) .nil))
noncomputable def p6:RV:=.fn 34 (.cons nR (.cons .ns .nil))
noncomputable def p7:RV:=.fn 10 (.cons (.tup (.cons (.mp 1) p6)) (.cons (.tup (.cons (.mp 1) p0)) .nil))
noncomputable def p8:RV:=.fn 10 (.cons (.tup (.cons (.mp 1) p7)) (.cons (.tup (.cons (.mp 1) p1)) .nil))
noncomputable def p9:RV:=.fn 10 (.cons (.tup (.cons (.mp 1) p8)) (.cons (.tup (.cons (.mp 1) p5)) .nil))
noncomputable def p10:RV:=.fn 15 (.cons (.tup (.cons (.mp 1) p9)) .nil)
noncomputable def p11:RV:=.fn 35 (.cons nR (.cons (opS 8) .nil))
noncomputable def p12:RV:=.fn 20 (.cons gR (.cons (.tup (.cons (.mp 1) p11)) .nil))
noncomputable def p13:RV:=.fn 12 (.cons (.tup (.cons (.mp 1) p11)) (.cons (.tup (.cons (.mp 1) p12)) .nil))
noncomputable def q0:RV:=.fn 1 (.cons gR .nil)
noncomputable def q1:RV:=.fn 2 (.cons gR .nil)
noncomputable def q2:RV:=.fn 5 (.cons gR .nil)
noncomputable def q3:RV:=.fn 6 (.cons gR .nil)
noncomputable def q4:RV:=.fn 14 (.cons (.tup (.cons (.mp 2) q0)) .nil)
noncomputable def q5:RV:=.fn 13 (.cons (.tup (.cons (.mp 2) q4)) (.cons (.tup (.cons (.mp 2) q1)) .nil))
noncomputable def q6:RV:=.fn 10 (.cons (.tup (.cons (.mp 2) q0)) (.cons (.tup (.cons (.mp 2) q1)) .nil))
noncomputable def q7:RV:=.fn 10 (.cons (.tup (.cons (.mp 2) q6)) (.cons (.tup (.cons (.mp 2) q5)) .nil))
noncomputable def q8:RV:=.fn 15 (.cons (.tup (.cons (.mp 2) q7)) .nil)
noncomputable def q9:RV:=.fn 35 (.cons nR (.cons (opS 8) .nil))
noncomputable def q10:RV:=.fn 20 (.cons gR (.cons (.tup (.cons (.mp 2) q9)) (.cons (.b true) .nil)))
noncomputable def q11:RV:=.fn 21 (.cons gR (.cons (.tup (.cons (.mp 2) q9)) (.cons (.b false) .nil)))
theorem e0 (_c:Cx g xa X xc w0):mx g X p0=mx g X q0:=rfl
theorem e1 (_c:Cx g xa X xc w0):mx g X p1=mx g X q1:=rfl
theorem e2 (_c:Cx g xa X xc w0):mx g X p5=mx g X q5:=rfl
theorem e3 (_c:Cx g xa X xc w0):mx g X p10=mx g X q8:=by
 show plusM (orM (orM (orM noneM (rfM g)) (coM g)) (seqM (backM (rfM g)) (coM g)))=plusM (orM (orM (rfM g) (coM g)) (seqM (backM (rfM g)) (coM g)))
 rw [or_none]
theorem e4 (_c:Cx g xa X xc w0):mx g X p2=mx g X q2:=rfl
theorem e5 (_c:Cx g xa X xc w0):mx g X p12=mx g X q10:=rfl
theorem e6 (_c:Cx g xa X xc w0):mx g X p13=mx g X q11:=by
 show lessM (ofM g.n X) (innerM g.E (ofM g.n X))=outerM g.E (ofM g.n X)
 exact less_inner _ _
noncomputable def l_same:List (RV × RV):=[(.cons (.tup (.cons (.mp 1) p0)) (.cons (.tup (.cons (.mp 2) q0)) .nil),.b true),(.cons (.tup (.cons (.mp 1) p1)) (.cons (.tup (.cons (.mp 2) q1)) .nil),.b true),(.cons (.tup (.cons (.mp 1) p5)) (.cons (.tup (.cons (.mp 2) q5)) .nil),.b true),(.cons (.tup (.cons (.mp 1) p10)) (.cons (.tup (.cons (.mp 2) q8)) .nil),.b true),(.cons (.tup (.cons (.mp 1) p2)) (.cons (.tup (.cons (.mp 2) q2)) .nil),.b true),(.cons (.tup (.cons (.mp 1) p12)) (.cons (.tup (.cons (.mp 2) q10)) .nil),.b true),(.cons (.tup (.cons (.mp 1) p13)) (.cons (.tup (.cons (.mp 2) q11)) .nil),.b true)]
set_option maxRecDepth 20000 in
theorem t_same (c:Cx g xa X xc w0):Tells Tryd.prog (rho g xa X xc w0) (49,1,chV l_same):=tells_given (by kernel_rfl) (by
 intro x hx
 unfold l_same at hx
 simp only [List.mem_cons,List.not_mem_nil,or_false] at hx
 rcases hx with rfl | rfl | rfl | rfl | rfl | rfl | rfl
 ·exact same_given c same09 (e0 c)
 ·exact same_given c same09 (e1 c)
 ·exact same_given c same09 (e2 c)
 ·exact same_given c same09 (e3 c)
 ·exact same_given c same09 (e4 c)
 ·exact same_given c same09 (e5 c)
 ·exact same_given c same09 (e6 c))
noncomputable def tl:List (Nat × Nat × RV):=[(49,1,chV l_same),(20,0,chW l_new),(37,0,chW l_or),(61,0,chW l_less),(38,0,chW l_then),(107,0,chW l_back),(13,0,chW l_plus),(104,0,chW l_rf),(105,0,chW l_co),(21,0,chW l_inner),(23,0,chW l_loc),(48,0,chW l_rnew),(116,0,chW l_ror),(98,0,chW l_rthen),(97,0,chW l_rback),(100,0,chW l_rplus),(50,0,chW l_rrf),(52,0,chW l_rco),(55,0,chW l_rloc),(102,0,chW l_rpart)]
set_option maxRecDepth 20000 in
theorem tl_ok (c:Cx g xa X xc w0):∀ e ∈ tl,Tells Tryd.prog (rho g xa X xc w0) e:=by
 unfold tl
 refine List.forall_mem_cons.2 ⟨t_same c,?_⟩
 refine List.forall_mem_cons.2 ⟨t_new c,?_⟩
 refine List.forall_mem_cons.2 ⟨t_or c,?_⟩
 refine List.forall_mem_cons.2 ⟨t_less c,?_⟩
 refine List.forall_mem_cons.2 ⟨t_then c,?_⟩
 refine List.forall_mem_cons.2 ⟨t_back c,?_⟩
 refine List.forall_mem_cons.2 ⟨t_plus c,?_⟩
 refine List.forall_mem_cons.2 ⟨t_rf c,?_⟩
 refine List.forall_mem_cons.2 ⟨t_co c,?_⟩
 refine List.forall_mem_cons.2 ⟨t_inner c,?_⟩
 refine List.forall_mem_cons.2 ⟨t_loc c,?_⟩
 refine List.forall_mem_cons.2 ⟨t_rnew c,?_⟩
 refine List.forall_mem_cons.2 ⟨t_ror c,?_⟩
 refine List.forall_mem_cons.2 ⟨t_rthen c,?_⟩
 refine List.forall_mem_cons.2 ⟨t_rback c,?_⟩
 refine List.forall_mem_cons.2 ⟨t_rplus c,?_⟩
 refine List.forall_mem_cons.2 ⟨t_rrf c,?_⟩
 refine List.forall_mem_cons.2 ⟨t_rco c,?_⟩
 refine List.forall_mem_cons.2 ⟨t_rloc c,?_⟩
 refine List.forall_mem_cons.2 ⟨t_rpart c,?_⟩
 exact fun _ h=>by cases h
theorem globs:Tryd.prog.globals.size≤100:=of_decide_eq_true (by kernel_rfl)
set_option maxRecDepth 100000 in
theorem run:isB (callX ysE (inL txtB.fsL) (fun _ _=>none) (kcL tl) 60 19 (.cons gR (.cons (opS 8) .nil)) 100 he 100)=true:=by kernel_rfl
theorem all_l (c:Cx g xa X xc w0) (w:World) (hb:Below w0.heap.size w0 w):Calls Tryd.prog 19 #[g.v,.slice xa X.length xc] w fun e w'=>e=.returned (.bool true)∧Below w.heap.size w w':=by
 refine (law_told (ρ:=rho g xa X xc w0) ysE_ok (inL_ok txtB.fsL_ok) none_ok (kc:=kcL tl) (kcL_ok (tl_ok c)) globs (w:=w) hb run (vs:=[g.v,.slice xa X.length xc]) (fun m=>denC_cons.2 ⟨_,_,rfl,g_den m,denC_cons.2 ⟨_,_,rfl,op_den m 8,denC_nil.2 rfl⟩⟩)).mono ?_
 rintro e w' ⟨rfl,o⟩
 exact ⟨rfl,o.below⟩
end L09
end Told
end Go.Proofs.YthcnhbclagegeaaDoor
namespace Go.Proofs.YthcnhbclagegeaaDoor
open Go.RowKit RelA
attribute [local irreducible] RelA.rcells
attribute [local go_sem ↓] Go.wp_at_zero Go.wp_at_succ
set_option maxRecDepth 20000 in
set_option maxHeartbeats 3200000 in
theorem ecoany_l (g:Gr) (xa:Option Addr) (X:List (Int × Int)) (xc:Nat) (w:World) (hx:PIn w xa X xc) (h:GInA w g) (hec:g.E.length≤g.ec) (hcc:g.C.length≤g.cc) (ht:Tab w)
  (haw:∀ w',Below w.heap.size w w'→Calls Tryd.prog 18 #[] w' fun e w''=>e=.returned (.bool true)∧Below w'.heap.size w' w'') :
  Calls Tryd.prog 4 #[g.v,.slice xa X.length xc] w fun e w'=>e=.returned (.bool true)∧Below w.heap.size w w':=by
 have HAW:=Lib.hid haw
 have HFE:=Lib.hid (fun w' (hb:Below w.heap.size w w')=>few_any g w' (h.co.next hb))
 have HCH:=Lib.hid (fun w' (hb:Below w.heap.size w w') (f:FewOk g)=>check_any g w' ((h.next hb).few f))
 have HAL:=Lib.hid (fun w' (hb:Below w.heap.size w w') (f:FewOk g) (c:CheckOk g) (hX:X.length≤300)=>Told.L09.all_l (g:=g) (xa:=xa) (X:=X) (xc:=xc) ⟨gin_of (h.next hb) f c hec hcc,ht.next hb,c,hx.next hb,hX⟩ w' (Below.refl _ _))
 clear h hec hcc ht haw hx
 generalize FewOk g=FO at *
 generalize CheckOk g=CO at *
 have HG0:=Lib.hid (GBox.of_alloc w g 28)
 obtain ⟨G,hG⟩:∃ G,G=g:=⟨_,rfl⟩
 obtain ⟨locs,ea,E,ec,ra,R,rc,ca,C,cc,ma,Rmw,mc,da,Data,dc,ta,Ctrl,tc,ia,CtrlI,ic⟩:=g
 simp only [Gr.v,gcells] at HFE HCH HAL HG0 ⊢
 rw [← hG] at HG0
 go_enter Tryd.func4,Tryd.ntmps4
 go_wp2_with fail
 obtain ⟨w1,hw1⟩:∃ x,x=w.alloc (Obj.cells #[.int .i64 locs,.slice ea E.length ec,.slice ra R.length rc,.slice ca C.length cc,.slice ma Rmw.length mc,.slice da Data.length dc,.slice ta Ctrl.length tc,.slice ia CtrlI.length ic] 28 (0,0)):=⟨_,rfl⟩
 rw [← hw1] at HG0 ⊢
 have hs1:w1.heap.size=w.heap.size + 1:=by rw [hw1]; simp
 have HB1:Hid (Below w.heap.size w w1):=Lib.hid (by rw [hw1]; exact (Below.refl _ _).alloc (Nat.le_refl _) _)
 clear hw1
 obtain ⟨c0,c1,c2,c3,c4,c5,c6,c7⟩:=HG0.out
 rw [hG] at c0 c1 c2 c3 c4 c5 c6 c7
 dsimp only at c0 c1 c2 c3 c4 c5 c6 c7
 have HGB:=HG0
 have HB:=HB1
 clear HG0 HB1 hs1
 refine (HFE.out _ HB.out).mono ?_
 rintro e wn ⟨x,rfl,hx,hbe⟩
 have HX:=Lib.hid hx
 have HGB:=Lib.hid (HGB.out.next hbe)
 have HB:=Lib.hid (below_next HB.out hbe)
 clear hx hbe c0 c1 c2 c3 c4 c5 c6 c7
 cases x
 ·go_wp2_with fail
  refine (HAW.out _ HB.out).mono ?_
  rintro e wn ⟨rfl,hbe⟩
  have HB:=Lib.hid (below_next HB.out hbe)
  clear hbe
  go_wp2_with fail
  go_ret
  exact ⟨rfl,HB.out⟩
 ·have hfo:=HX.out rfl
  have HFO:=Lib.hid hfo
  clear HX hfo
  obtain ⟨c0,c1,c2,c3,c4,c5,c6,c7⟩:=HGB.out
  rw [hG] at c0 c1 c2 c3 c4 c5 c6 c7
  dsimp only at c0 c1 c2 c3 c4 c5 c6 c7
  by_cases e1:200 < X.length
  ·have l1:decide ((200:Int) < (X.length:Int))=true:=by simp; omega
   go_wp2_with fail
   refine (HAW.out _ HB.out).mono ?_
   rintro e wn ⟨rfl,hbe⟩
   have HB:=Lib.hid (below_next HB.out hbe)
   clear hbe
   go_wp2_with fail
   go_ret
   exact ⟨rfl,HB.out⟩
  ·have l1:decide ((200:Int) < (X.length:Int))=false:=by simp; omega
   go_wp2_with fail
   refine (HCH.out _ HB.out HFO.out).mono ?_
   rintro e wn ⟨x,rfl,hx,hbe⟩
   have HX:=Lib.hid hx
   have HGB:=Lib.hid (HGB.out.next hbe)
   have HB:=Lib.hid (below_next HB.out hbe)
   clear hx hbe c0 c1 c2 c3 c4 c5 c6 c7
   cases x
   ·go_wp2_with fail
    refine (HAW.out _ HB.out).mono ?_
    rintro e wn ⟨rfl,hbe⟩
    have HB:=Lib.hid (below_next HB.out hbe)
    clear hbe
    go_wp2_with fail
    go_ret
    exact ⟨rfl,HB.out⟩
   ·have HCO:=Lib.hid (HX.out rfl)
    clear HX
    obtain ⟨c0,c1,c2,c3,c4,c5,c6,c7⟩:=HGB.out
    rw [hG] at c0 c1 c2 c3 c4 c5 c6 c7
    dsimp only at c0 c1 c2 c3 c4 c5 c6 c7
    go_wp2_with fail
    refine (HAL.out _ HB.out HFO.out HCO.out (by omega)).mono ?_
    rintro e wn ⟨rfl,hbe⟩
    have HB:=Lib.hid (below_next HB.out hbe)
    clear hbe c0 c1 c2 c3 c4 c5 c6 c7
    go_wp2_with fail
    refine (HAW.out _ HB.out).mono ?_
    rintro e wn ⟨rfl,hbe⟩
    have HB:=Lib.hid (below_next HB.out hbe)
    clear hbe
    go_wp2_with fail
    go_ret
    exact ⟨rfl,HB.out⟩
end Go.Proofs.YthcnhbclagegeaaDoor
