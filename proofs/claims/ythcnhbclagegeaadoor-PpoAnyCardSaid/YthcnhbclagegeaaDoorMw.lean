/-
  exegesislaw19.all is true of a graph that may be: a run whose calls are told. Conditions: the graph in memory, the Zvm of bits in its variable.
-/
import Derived.Test.YthcnhbclagegeaaDoorMd
import Derived.Test.YthcnhbclagegeaaDoorMs
import Derived.Test.YthcnhbclagegeaaDoorMv
import Derived.Test.YthcnhbclagegeaaDoorMt
import Derived.Test.YthcnhbclagegeaaDoorMq
namespace Go.Proofs.YthcnhbclagegeaaDoor
open Go.RowKit RelA
attribute [local irreducible] RelA.rcells
section
attribute [local go_sem ↓] Go.wp_at_zero Go.wp_at_succ
set_option maxRecDepth 20000 in
set_option maxHeartbeats 3200000 in
theorem Yct (b c n:Nat) (R:Nat->Nat) (M:Nat->Nat->Bool) (w:World) (hb:At w b n R) (hc:RAt w c n M) (hn:n<=40) (hR:∀ i,R i < 2 ^ 40) (ht:Tab w) (he:Zgb R=Zbh n M) :
  Calls Tryd.prog 80 #[.pointer (some ⟨b,0,none⟩),.pointer (some ⟨c,0,none⟩)] w fun e w'=>e=.returned (.bool true)/\Below w.heap.size w w':=by
 have hc0:=hc.c0
 have HL:=Lib.hid (Zq0 b n w.drew hb.c0)
 have HP:=Lib.hid (Zkf b n R w.drew hb hR ht)
 have HQ:=Lib.hid (fun w1 (h:Below w.heap.size w w1)=>Zlv c n M w1 (hc.next h) hn)
 have HE:=Lib.hid he
 have hlen:(Zbh n M).length<=100000:=by have:=Zhj n M hn n; unfold Zbh; omega
 have HS:=Lib.hid (fun a1 a2 c1 c2 w1 (h1:PairsRd w1 a1 (Zbh n M)) (h2:PairsRd w1 a2 (Zbh n M))=>Ysx (Zbh n M) a1 a2 c1 c2 w1 h1 h2 hlen)
 clear hb hc hR ht he hn
 go_enter Tryd.func80,Tryd.ntmps80
 go_wp2_with fail
 go_region_with (first
  | (go_at_call 94; refine HL.out.mono ?_; rintro e w' ⟨rfl,rfl⟩)
  | (go_at_call 11; refine HP.out.mono ?_; rintro e w1 ⟨v,rfl,hown,hbe⟩; have hbe1:Below w.heap.size w w1:=⟨hbe.os,hbe.tape,hbe.output,hbe.size,hbe.block⟩; rw [HE.out] at hown; obtain ⟨p1,q1,rfl,hrd1⟩:=PairsRd.of_own hown; clear hown hbe; have HR1:=Lib.hid hrd1; have HBE1:=Lib.hid hbe1; clear hrd1 hbe1)
  | (go_at_call 96; refine (HQ.out _ HBE1.out).mono ?_; rintro e w2 ⟨v,rfl,hown,hbe⟩; obtain ⟨p2,q2,rfl,hrd2⟩:=PairsRd.of_own hown; have HR2:=Lib.hid hrd2; have HR12:=Lib.hid (HR1.out.next hbe); have HBE2:=Lib.hid (Zab HBE1.out hbe); clear hown hrd2 hbe)
  | (go_at_call 95; refine (HS.out _ _ _ _ _ HR12.out HR2.out).mono ?_; rintro e w3 ⟨rfl,hbe⟩; have HBE3:=Lib.hid (Zab HBE2.out hbe); clear hbe))
 all_goals go_wp2_with fail
 all_goals go_ret
 all_goals exact ⟨rfl,HBE3.out⟩
end
namespace ToldP
open Go.Rn (Rho RV Mp Zrl dsc_cons dsc_nil den Zet)
theorem Zjp (b c n:Nat) (M:Nat->Nat->Bool) (w:World) (h:Rl w b n M) (k:Rr w c n M) (hn:n<=40) (ht:Tab w) :
  Calls Tryd.prog 80 #[.pointer (some ⟨b,0,none⟩),.pointer (some ⟨c,0,none⟩)] w fun e w'=>e=.returned (.bool true)/\Below w.heap.size w w':=by
 obtain ⟨⟨R,h1,h2,h3⟩,h4⟩:=h
 exact Yct b c n R M w h1 k.at_ hn h2 ht (Zi0 hn h3 h4)
end ToldP
end Go.Proofs.YthcnhbclagegeaaDoor
namespace Go.Proofs.YthcnhbclagegeaaDoor
open Go.RowKit RelA
namespace ToldP
open Go.Rn (Rho RV Mp Tells Ypz inC Zar Zb8 Zbd)
noncomputable def chF (ks:RV):RV:=.cons (.fn 100 (.cons ks (.cons gR .nil))) .nil
theorem Zph {g:Gr} {w0:World} {MM:M4} {f es:Nat} {ks:RV} (hc:∀ ws,Below w0.heap.size w0 ws->Calls Tryd.prog f #[g.v] ws fun e w'=>∃ Bs,e=.returned (Go.Rn.wrapV es Bs)/\Go.Rn.Objs (rho g none [] 0 w0 MM) (.cons gR .nil) ws.heap.size w' ks 100 Bs/\Go.Rn.Old ws w') :
  Ypz Tryd.prog (rho g none [] 0 w0 MM) f es (chF ks):=by
 intro F k s hi ds hs m w vs hw hd
 rcases hi with hi | hi
 ·cases hi
  obtain ⟨y,t,rfl,h1,h2⟩:=Zar hs
  obtain rfl:=Zb8 h2
  obtain rfl:=Zbd Zjv h1
  obtain ⟨x,xs,rfl,d1,d2⟩:=Go.Rn.dsc_cons hd
  obtain rfl:=Go.Rn.dsc_nil d2
  obtain rfl:=Zqg (m:=m) d1
  exact hc w (Ziu hw)
 ·exact hi.elim
theorem Yit {g:Gr} {w0:World} {MM:M4} (c:Cx g none [] 0 w0):Tells Tryd.prog (rho g none [] 0 w0 MM) (78,2,chF PP.ks):=⟨by kernel_rfl,fun _=>Zph (fun ws hb=>PP.parts_l c ws hb),fun h=>by cases h⟩
theorem Ycp {g:Gr} {w0:World} {MM:M4} (c:Cx g none [] 0 w0):Tells Tryd.prog (rho g none [] 0 w0 MM) (79,3,chF PR.ks):=⟨by kernel_rfl,fun _=>Zph (fun ws hb=>PR.rparts_l c ws hb),fun h=>by cases h⟩
namespace L19
open Go.Rn (chV chW Ze6 kcL Zha Zh4 isB Zsz inL Zge Zey he denC_cons denC_nil)
variable {g:Gr} {w0:World}
noncomputable def p0:RV:=.fn 1 (.cons gR .nil)
noncomputable def p1:RV:=.fn 2 (.cons gR .nil)
noncomputable def p2:RV:=.fn 5 (.cons gR .nil)
noncomputable def p3:RV:=.fn 14 (.cons (.tup (.cons (.mp 1) p0)) .nil)
noncomputable def p4:RV:=.fn 13 (.cons (.tup (.cons (.mp 1) p3)) (.cons (.tup (.cons (.mp 1) p1)) .nil))
noncomputable def p5:RV:=.fn 20 (.cons gR (.cons (.tup (.cons (.mp 1) p2)) .nil))
noncomputable def p6:RV:=.fn 20 (.cons gR (.cons (.tup (.cons (.mp 1) p4)) .nil))
noncomputable def p7:RV:=.fn 12 (.cons (.tup (.cons (.mp 1) p4)) (.cons (.tup (.cons (.mp 1) p6)) .nil))
noncomputable def p8:RV:=.fn 20 (.cons gR (.cons (.tup (.cons (.mp 1) p0)) .nil))
noncomputable def p9:RV:=.fn 12 (.cons (.tup (.cons (.mp 1) p0)) (.cons (.tup (.cons (.mp 1) p8)) .nil))
noncomputable def p10:RV:=.fn 13 (.cons (.tup (.cons (.mp 1) p7)) (.cons (.tup (.cons (.mp 1) p9)) .nil))
noncomputable def p11:RV:=.fn 11 (.cons (.tup (.cons (.mp 1) p5)) (.cons (.tup (.cons (.mp 1) p10)) .nil))
noncomputable def p12:RV:=.fn 20 (.cons gR (.cons (.tup (.cons (.mp 1) p1)) .nil))
noncomputable def p13:RV:=.fn 12 (.cons (.tup (.cons (.mp 1) p1)) (.cons (.tup (.cons (.mp 1) p12)) .nil))
noncomputable def p14:RV:=.fn 13 (.cons (.tup (.cons (.mp 1) p13)) (.cons (.tup (.cons (.mp 1) p9)) .nil))
noncomputable def p15:RV:=.fn 11 (.cons (.tup (.cons (.mp 1) p5)) (.cons (.tup (.cons (.mp 1) p14)) .nil))
noncomputable def p16:RV:=.fn 100 (.cons gR .nil)
noncomputable def p17:RV:=.fn 101 (.cons gR .nil)
noncomputable def p18:RV:=.fn 102 (.cons gR .nil)
noncomputable def p19:RV:=.fn 103 (.cons gR .nil)
noncomputable def p20:RV:=.fn 40 (.cons gR (.cons (.i .i64 1) (.cons .ns .nil)))
noncomputable def p21:RV:=.fn 41 (.cons gR (.cons (.i .i64 2) (.cons .ns .nil)))
noncomputable def p22:RV:=.fn 13 (.cons (.tup (.cons (.mp 1) p20)) (.cons (.tup (.cons (.mp 1) p16)) .nil))
noncomputable def p23:RV:=.fn 13 (.cons (.tup (.cons (.mp 1) p22)) (.cons (.tup (.cons (.mp 1) p20)) .nil))
noncomputable def p24:RV:=.fn 13 (.cons (.tup (.cons (.mp 1) p20)) (.cons (.tup (.cons (.mp 1) p17)) .nil))
noncomputable def p25:RV:=.fn 13 (.cons (.tup (.cons (.mp 1) p24)) (.cons (.tup (.cons (.mp 1) p21)) .nil))
noncomputable def p26:RV:=.fn 10 (.cons (.tup (.cons (.mp 1) p23)) (.cons (.tup (.cons (.mp 1) p25)) .nil))
noncomputable def z0:RV:=.fn 1 (.cons gR .nil)
noncomputable def z1:RV:=.fn 2 (.cons gR .nil)
noncomputable def z2:RV:=.fn 5 (.cons gR .nil)
noncomputable def z3:RV:=.fn 14 (.cons (.tup (.cons (.mp 2) z0)) .nil)
noncomputable def z4:RV:=.fn 13 (.cons (.tup (.cons (.mp 2) z3)) (.cons (.tup (.cons (.mp 2) z1)) .nil))
noncomputable def z5:RV:=.fn 22 (.cons gR (.cons (.tup (.cons (.mp 2) z2)) .nil))
noncomputable def z6:RV:=.fn 21 (.cons gR (.cons (.tup (.cons (.mp 2) z4)) (.cons (.b false) .nil)))
noncomputable def z7:RV:=.fn 21 (.cons gR (.cons (.tup (.cons (.mp 2) z0)) (.cons (.b false) .nil)))
noncomputable def z8:RV:=.fn 13 (.cons (.tup (.cons (.mp 2) z6)) (.cons (.tup (.cons (.mp 2) z7)) .nil))
noncomputable def z9:RV:=.fn 11 (.cons (.tup (.cons (.mp 2) z5)) (.cons (.tup (.cons (.mp 2) z8)) .nil))
noncomputable def z10:RV:=.fn 21 (.cons gR (.cons (.tup (.cons (.mp 2) z1)) (.cons (.b false) .nil)))
noncomputable def z11:RV:=.fn 13 (.cons (.tup (.cons (.mp 2) z10)) (.cons (.tup (.cons (.mp 2) z7)) .nil))
noncomputable def z12:RV:=.fn 11 (.cons (.tup (.cons (.mp 2) z5)) (.cons (.tup (.cons (.mp 2) z11)) .nil))
noncomputable def z13:RV:=.fn 100 (.cons gR .nil)
noncomputable def z14:RV:=.fn 101 (.cons gR .nil)
noncomputable def z15:RV:=.fn 102 (.cons gR .nil)
noncomputable def z16:RV:=.fn 103 (.cons gR .nil)
noncomputable def z17:RV:=.fn 70 (.cons gR (.cons (.i .i64 1) (.cons (.i .i64 0) (.cons (.i .i64 4) .nil))))
noncomputable def z18:RV:=.fn 71 (.cons gR (.cons (.i .i64 2) (.cons (.i .i64 0) (.cons (.i .i64 4) .nil))))
noncomputable def z19:RV:=.fn 13 (.cons (.tup (.cons (.mp 2) z17)) (.cons (.tup (.cons (.mp 2) z13)) .nil))
noncomputable def z20:RV:=.fn 13 (.cons (.tup (.cons (.mp 2) z19)) (.cons (.tup (.cons (.mp 2) z17)) .nil))
noncomputable def z21:RV:=.fn 13 (.cons (.tup (.cons (.mp 2) z17)) (.cons (.tup (.cons (.mp 2) z14)) .nil))
noncomputable def z22:RV:=.fn 13 (.cons (.tup (.cons (.mp 2) z21)) (.cons (.tup (.cons (.mp 2) z18)) .nil))
noncomputable def z23:RV:=.fn 10 (.cons (.tup (.cons (.mp 2) z20)) (.cons (.tup (.cons (.mp 2) z22)) .nil))
theorem e0 (_c:Cx g none [] 0 w0):mx g [] (Zad g) p16=mx g [] (Zad g) z13:=rfl
theorem e1 (_c:Cx g none [] 0 w0):mx g [] (Zad g) p17=mx g [] (Zad g) z14:=rfl
theorem e2 (_c:Cx g none [] 0 w0):mx g [] (Zad g) p18=mx g [] (Zad g) z15:=rfl
theorem e3 (_c:Cx g none [] 0 w0):mx g [] (Zad g) p19=mx g [] (Zad g) z16:=rfl
theorem e4 (c:Cx g none [] 0 w0):mx g [] (Zad g) p26=mx g [] (Zad g) z23:=by
 show orM (Zcd (Zcd (evM g 1 []) (Zto (Zad g) 0)) (evM g 1 [])) (Zcd (Zcd (evM g 1 []) (Zto (Zad g) 1)) (evM g 2 []))=orM (Zcd (Zcd (kM g 1 0 4) (Zto (Zad g) 0)) (kM g 1 0 4)) (Zcd (Zcd (kM g 1 0 4) (Zto (Zad g) 1)) (kM g 2 0 4))
 rw [PR.k_r (c:=c),PR.k_w (c:=c)]
theorem e5 (c:Cx g none [] 0 w0):mx g [] (Zad g) p11=mx g [] (Zad g) z9:=by
 show Zp8 (Zcl g.E (Zgk g.E)) (Zcd (Yag g (Zcd (Zk8 (rfM g)) (coM g))) (Yag g (rfM g)))=Zp8 (mnM g.E (Zgk g.E)) (Zcd (Zd9 g.E (Zcd (Zk8 (rfM g)) (coM g))) (Zd9 g.E (rfM g)))
 rw [PR.mn_loc (c:=c),PR.out_eq,PR.out_eq]
theorem e6 (c:Cx g none [] 0 w0):mx g [] (Zad g) p15=mx g [] (Zad g) z12:=by
 show Zp8 (Zcl g.E (Zgk g.E)) (Zcd (Yag g (coM g)) (Yag g (rfM g)))=Zp8 (mnM g.E (Zgk g.E)) (Zcd (Zd9 g.E (coM g)) (Zd9 g.E (rfM g)))
 rw [PR.mn_loc (c:=c),PR.out_eq,PR.out_eq]
noncomputable def Zwy:List (RV × RV):=[(.cons (.tup (.cons (.mp 1) p16)) (.cons (.tup (.cons (.mp 2) z13)) .nil),.b true),(.cons (.tup (.cons (.mp 1) p17)) (.cons (.tup (.cons (.mp 2) z14)) .nil),.b true),(.cons (.tup (.cons (.mp 1) p18)) (.cons (.tup (.cons (.mp 2) z15)) .nil),.b true),(.cons (.tup (.cons (.mp 1) p19)) (.cons (.tup (.cons (.mp 2) z16)) .nil),.b true),(.cons (.tup (.cons (.mp 1) p26)) (.cons (.tup (.cons (.mp 2) z23)) .nil),.b true),(.cons (.tup (.cons (.mp 1) p11)) (.cons (.tup (.cons (.mp 2) z9)) .nil),.b true),(.cons (.tup (.cons (.mp 1) p15)) (.cons (.tup (.cons (.mp 2) z12)) .nil),.b true)]
set_option maxRecDepth 20000 in
theorem Ysv (c:Cx g none [] 0 w0):Tells Tryd.prog (rho g none [] 0 w0 (Zad g)) (80,1,chV Zwy):=Ze6 (by kernel_rfl) (by
 intro x hx
 unfold Zwy at hx
 simp only [List.mem_cons,List.not_mem_nil,or_false] at hx
 rcases hx with rfl | rfl | rfl | rfl | rfl | rfl | rfl
 ·exact Zcx c Zjp (e0 c)
 ·exact Zcx c Zjp (e1 c)
 ·exact Zcx c Zjp (e2 c)
 ·exact Zcx c Zjp (e3 c)
 ·exact Zcx c Zjp (e4 c)
 ·exact Zcx c Zjp (e5 c)
 ·exact Zcx c Zjp (e6 c))
noncomputable def tl:List (Nat × Nat × RV):=[(80,1,chV Zwy),(78,2,chF PP.ks),(79,3,chF PR.ks),(141,0,chW Zmo),(20,0,chW Ya3),(37,0,chW Yxc),(123,0,chW Ya7),(61,0,chW Zr1),(38,0,chW Zrx),(107,0,chW Zr2),(9,0,chW Yxb),(111,0,chW Zi7),(104,0,chW Yxa),(105,0,chW Yxd),(21,0,chW Zms),(23,0,chW Ya4),(48,0,chW Zry),(116,0,chW Ya1),(130,0,chW Zr0),(142,0,chW Zmp),(98,0,chW Zmm),(97,0,chW Zmr),(129,0,chW Zmq),(50,0,chW Ya0),(52,0,chW Ya2),(55,0,chW Zrz),(102,0,chW Zmn)]
set_option maxRecDepth 20000 in
theorem tl_ok (c:Cx g none [] 0 w0):∀ e ∈ tl,Tells Tryd.prog (rho g none [] 0 w0 (Zad g)) e:=by
 unfold tl
 refine List.forall_mem_cons.2 ⟨Ysv c,?_⟩
 refine List.forall_mem_cons.2 ⟨Yit c,?_⟩
 refine List.forall_mem_cons.2 ⟨Ycp c,?_⟩
 refine List.forall_mem_cons.2 ⟨Zxm c,?_⟩
 refine List.forall_mem_cons.2 ⟨Yra c,?_⟩
 refine List.forall_mem_cons.2 ⟨Xbj c,?_⟩
 refine List.forall_mem_cons.2 ⟨Yrc c,?_⟩
 refine List.forall_mem_cons.2 ⟨Yf8 c,?_⟩
 refine List.forall_mem_cons.2 ⟨Yf4 c,?_⟩
 refine List.forall_mem_cons.2 ⟨Yf9 c,?_⟩
 refine List.forall_mem_cons.2 ⟨Xbi c,?_⟩
 refine List.forall_mem_cons.2 ⟨Zsd c,?_⟩
 refine List.forall_mem_cons.2 ⟨Xbh c,?_⟩
 refine List.forall_mem_cons.2 ⟨Xbk c,?_⟩
 refine List.forall_mem_cons.2 ⟨Zxq c,?_⟩
 refine List.forall_mem_cons.2 ⟨Yrb c,?_⟩
 refine List.forall_mem_cons.2 ⟨Yf5 c,?_⟩
 refine List.forall_mem_cons.2 ⟨Yq8 c,?_⟩
 refine List.forall_mem_cons.2 ⟨Yf7 c,?_⟩
 refine List.forall_mem_cons.2 ⟨Zxn c,?_⟩
 refine List.forall_mem_cons.2 ⟨Zxk c,?_⟩
 refine List.forall_mem_cons.2 ⟨Zxp c,?_⟩
 refine List.forall_mem_cons.2 ⟨Zxo c,?_⟩
 refine List.forall_mem_cons.2 ⟨Yq7 c,?_⟩
 refine List.forall_mem_cons.2 ⟨Yq9 c,?_⟩
 refine List.forall_mem_cons.2 ⟨Yf6 c,?_⟩
 refine List.forall_mem_cons.2 ⟨Zxl c,?_⟩
 exact fun _ h=>by cases h
theorem globs:Tryd.prog.globals.size<=100:=of_decide_eq_true (by kernel_rfl)
set_option maxRecDepth 100000 in
theorem run:isB (Zh4 ysE (inL txtP.fsL) (fun _ _=>none) (kcL tl) 60 28 (.cons gR .nil) 100 he 100)=true:=by kernel_rfl
theorem all_l (c:Cx g none [] 0 w0) (w:World) (hb:Below w0.heap.size w0 w):Calls Tryd.prog 28 #[g.v] w fun e w'=>e=.returned (.bool true)/\Below w.heap.size w w':=by
 refine (Zsz (ρ:=rho g none [] 0 w0 (Zad g)) Zjo (Zge txtP.fsL_ok) Zey (kc:=kcL tl) (Zha (tl_ok c)) globs (w:=w) hb run (vs:=[g.v]) (fun m=>denC_cons.2 ⟨_,_,rfl,Yib m,denC_nil.2 rfl⟩)).mono ?_
 rintro e w' ⟨rfl,o⟩
 exact ⟨rfl,o.below⟩
end L19
end ToldP
end Go.Proofs.YthcnhbclagegeaaDoor
namespace Go.Proofs.YthcnhbclagegeaaDoor
open Go.RowKit RelA
attribute [local irreducible] RelA.rcells
attribute [local go_sem ↓] Go.wp_at_zero Go.wp_at_succ
set_option maxRecDepth 20000 in
set_option maxHeartbeats 3200000 in
theorem Ydm (g:Gr) (w:World) (h:GInA w g) (hec:g.E.length<=g.ec) (hcc:g.C.length<=g.cc) (ht:Tab w)
  (haw:∀ w',Below w.heap.size w w'->Calls Tryd.prog 27 #[] w' fun e w''=>e=.returned (.bool true)/\Below w'.heap.size w' w'') :
  Calls Tryd.prog 7 #[g.v] w fun e w'=>e=.returned (.bool true)/\Below w.heap.size w w':=by
 have HAW:=Lib.hid haw
 have HFE:=Lib.hid (fun w' (hb:Below w.heap.size w w')=>Yon g w' (h.co.next hb))
 have HCH:=Lib.hid (fun w' (hb:Below w.heap.size w w') (f:FewOk g)=>Zz8 g w' ((h.next hb).few f))
 have HAL:=Lib.hid (fun w' (hb:Below w.heap.size w w') (f:FewOk g) (c:CheckOk g)=>ToldP.L19.all_l (g:=g) ⟨Yug (h.next hb) f c hec hcc,ht.next hb,c,Zsl w',by simp⟩ w' (Below.refl _ _))
 clear h hec hcc ht haw
 generalize FewOk g=FO at *
 generalize CheckOk g=CO at *
 have HG0:=Lib.hid (GBox.of_alloc w g 28)
 obtain ⟨G,hG⟩:∃ G,G=g:=⟨_,rfl⟩
 obtain ⟨locs,ea,E,ec,ra,R,rc,ca,C,cc,ma,Rmw,mc,da,Data,dc,ta,Ctrl,tc,ia,CtrlI,ic⟩:=g
 simp only [Gr.v,Zbv] at HFE HCH HAL HG0 ⊢
 rw [<- hG] at HG0
 go_enter Tryd.func7,Tryd.ntmps7
 go_wp2_with fail
 obtain ⟨w1,hw1⟩:∃ x,x=w.alloc (Obj.cells #[.int .i64 locs,.slice ea E.length ec,.slice ra R.length rc,.slice ca C.length cc,.slice ma Rmw.length mc,.slice da Data.length dc,.slice ta Ctrl.length tc,.slice ia CtrlI.length ic] 28 (0,0)):=⟨_,rfl⟩
 rw [<- hw1] at HG0 ⊢
 have hs1:w1.heap.size=w.heap.size + 1:=by rw [hw1]; simp
 have HB1:Hid (Below w.heap.size w w1):=Lib.hid (by rw [hw1]; exact (Below.refl _ _).alloc (Nat.le_refl _) _)
 clear hw1
 obtain ⟨c0,c1,c2,c3,c4,c5,c6,c7⟩:=HG0.out
 rw [hG] at c0 c1 c2 c3 c4 c5 c6 c7
 dsimp only at c0 c1 c2 c3 c4 c5 c6 c7
 have HGB:=HG0
 have HB:=HB1
 clear HG0 HB1 hs1
 refine (HFE.out _ HB.out).mono ?_
 rintro e wn ⟨x,rfl,hx,hbe⟩
 have HX:=Lib.hid hx
 have HGB:=Lib.hid (HGB.out.next hbe)
 have HB:=Lib.hid (Zab HB.out hbe)
 clear hx hbe c0 c1 c2 c3 c4 c5 c6 c7
 cases x
 ·go_wp2_with fail
  refine (HAW.out _ HB.out).mono ?_
  rintro e wn ⟨rfl,hbe⟩
  have HB:=Lib.hid (Zab HB.out hbe)
  clear hbe
  go_wp2_with fail
  go_ret
  exact ⟨rfl,HB.out⟩
 ·have hfo:=HX.out rfl
  have HFO:=Lib.hid hfo
  clear HX hfo
  obtain ⟨c0,c1,c2,c3,c4,c5,c6,c7⟩:=HGB.out
  rw [hG] at c0 c1 c2 c3 c4 c5 c6 c7
  dsimp only at c0 c1 c2 c3 c4 c5 c6 c7
  by_cases e1:20 < E.length
  ·have l1:decide ((20:Int) < (E.length:Int))=true:=by simp; omega
   go_wp2_with fail
   refine (HAW.out _ HB.out).mono ?_
   rintro e wn ⟨rfl,hbe⟩
   have HB:=Lib.hid (Zab HB.out hbe)
   clear hbe
   go_wp2_with fail
   go_ret
   exact ⟨rfl,HB.out⟩
  ·have l1:decide ((20:Int) < (E.length:Int))=false:=by simp; omega
   go_wp2_with fail
   refine (HCH.out _ HB.out HFO.out).mono ?_
   rintro e wn ⟨x,rfl,hx,hbe⟩
   have HX:=Lib.hid hx
   have HGB:=Lib.hid (HGB.out.next hbe)
   have HB:=Lib.hid (Zab HB.out hbe)
   clear hx hbe c0 c1 c2 c3 c4 c5 c6 c7
   cases x
   ·go_wp2_with fail
    refine (HAW.out _ HB.out).mono ?_
    rintro e wn ⟨rfl,hbe⟩
    have HB:=Lib.hid (Zab HB.out hbe)
    clear hbe
    go_wp2_with fail
    go_ret
    exact ⟨rfl,HB.out⟩
   ·have HCO:=Lib.hid (HX.out rfl)
    clear HX
    obtain ⟨c0,c1,c2,c3,c4,c5,c6,c7⟩:=HGB.out
    rw [hG] at c0 c1 c2 c3 c4 c5 c6 c7
    dsimp only at c0 c1 c2 c3 c4 c5 c6 c7
    go_wp2_with fail
    refine (HAL.out _ HB.out HFO.out HCO.out).mono ?_
    rintro e wn ⟨rfl,hbe⟩
    have HB:=Lib.hid (Zab HB.out hbe)
    clear hbe c0 c1 c2 c3 c4 c5 c6 c7
    go_wp2_with fail
    refine (HAW.out _ HB.out).mono ?_
    rintro e wn ⟨rfl,hbe⟩
    have HB:=Lib.hid (Zab HB.out hbe)
    clear hbe
    go_wp2_with fail
    go_ret
    exact ⟨rfl,HB.out⟩
end Go.Proofs.YthcnhbclagegeaaDoor
