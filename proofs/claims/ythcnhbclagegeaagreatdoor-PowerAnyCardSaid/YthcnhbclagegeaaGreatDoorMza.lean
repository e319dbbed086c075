/-
  What the conditions of power.Consistent ask of a graph besides relations, and that they are told to the runner. Conditions: a graph that may be, in memory, the table of bits in its variable.
-/
import Derived.Test.YthcnhbclagegeaaGreatDoorMz
import Derived.Test.YthcnhbclagegeaaGreatDoorMb
import Derived.Test.YthcnhbclagegeaaGreatDoorMe
import Derived.Test.YthcnhbclagegeaaGreatDoorMj
import Derived.Deep.RegionHeld3
import Derived.Test.YthcnhbclagegeaaGreatDoorMq
set_option maxRecDepth 100000
set_option maxHeartbeats 8000000
namespace Go.Proofs.YthcnhbclagegeaaGreatDoor
open Go.RowKit RelA
section
attribute [local go_sem ↓] Go.wp_at_zero Go.wp_at_succ
attribute [local irreducible] RelA.rcells
theorem Ykr (g:Gr) (a:Option Addr) (L:List (Int×Int)) (c:Nat) (w:World) (he:g.E.length<=40) (hl:L.length<=300) (h:PIn w a L c) :
  Calls Tryz.prog 100 #[g.v,.slice a L.length c] w (Zcw g.n (ofM g.n L) w):=by
 obtain⟨locs,ea,E,ec,ra,R,rc,ca,C,cc,ma,Rmw,mc,da,Data,dc,ta,Ctrl,tc,ia,CtrlI,ic⟩:=g
 simp only[Gr.v,Gr.n] at he ⊢
 have H:=jh (fun o=>Zfu E.length a L c (w.alloc o) he hl (h.next ((Below.refl _ _).alloc (Nat.le_refl _) o)))
 clear h he hl
 go_enter Tryz.func100,Tryz.ntmps100
 go_wp2_with fail
 refine(H.out _).mono ?_
 rintro e w' ⟨d,rfl,hat,hnw,hbe⟩
 have HNW:Hid (w.heap.size<=d):=jh (by have:=hnw;simp at this;omega)
 have HA:=jh hat
 have HB:=jh (Zab jb hbe)
 clear hat hbe hnw
 go_wp2_with fail
 go_ret
 exact⟨_,rfl,HA.out,HNW.out,HB.out⟩
namespace RelA
def Zie (n:Nat) (M:Nat->Nat->Bool):Bool:=decide ((Zay n M).length=0)
end RelA
theorem Yf5 (b n:Nat) (M:Nat->Nat->Bool) (w:World) (h:Rl w b n M) (hn:n<=40) (ht:Tab w) :
  Calls Tryz.prog 84 #[.pointer (some ⟨b,0,none⟩)] w fun e w'=>∃ a cap,e=.returned (.slice a (Zay n M).length cap)/\Below w.heap.size w w':=by
 obtain⟨⟨R,h1,h2,h3⟩,h4⟩:=h
 refine(Zhy b n R w h1 h2 ht).mono ?_
 rintro e w' ⟨v,rfl,ho,hb⟩
 rw[Zho hn h3 h4] at ho
 obtain⟨a,cap,rfl,_⟩:=PairsRd.of_own ho
 exact⟨a,cap,rfl,hb⟩
theorem Zzi (b n:Nat) (M:Nat->Nat->Bool) (w:World) (h:Rr w b n M) (hn:n<=40) :
  Calls Tryz.prog 85 #[.pointer (some ⟨b,0,none⟩)] w fun e w'=>∃ a cap,e=.returned (.slice a (Zay n M).length cap)/\Below w.heap.size w w':=by
 refine(Zim b n M w h.at_ hn).mono ?_
 rintro e w' ⟨v,rfl,ho,hb⟩
 obtain⟨a,cap,rfl,_⟩:=PairsRd.of_own ho
 exact⟨a,cap,rfl,hb⟩
theorem Zzk (g:Gr) (rb:Nat) (M:Nat->Nat->Bool) (w:World) (h:GIn w g) (hr:Rr w rb g.n M) :
  Calls Tryz.prog 107 #[g.v,.pointer (some ⟨rb,0,none⟩)] w fun e w'=>∃ d,e=.returned (.pointer (some ⟨d,0,none⟩))/\Rr w' d g.n (Zcn g.E M)/\Below w.heap.size w w':=by
 rw[<- Zrs]
 have HP:=jh (fun w' (hb:Below w.heap.size w w')=>Zpz g rb M false w' (h.es.next hb) h.e40 (hr.next hb))
 have HG0:=jh (GBox.of_alloc w g 27)
 obtain⟨G,hG⟩:∃ G,G=g:=⟨_,rfl⟩
 obtain⟨locs,ea,E,ec,ra,R,rc,ca,C,cc,ma,Rmw,mc,da,Data,dc,ta,Ctrl,tc,ia,CtrlI,ic⟩:=g
 simp only[Gr.v,Gr.n,Zaw] at HP HG0 ⊢
 rw[<- hG] at HG0
 clear h hr HG0 hG
 go_enter Tryz.func107,Tryz.ntmps107
 go_wp2_with fail
 refine(HP.out _ jb).mono ?_
 rintro e w' ⟨d,rfl,hat,_,hbe⟩
 have HA:=jh hat
 have HB:=jh (Zab jb hbe)
 clear hat hbe
 go_wp2_with fail
 go_ret
 exact⟨_,rfl,HA.out,HB.out⟩
namespace ToldP
namespace L20
open Go.Rn (Rho RV Mp Tells chV chW Zau kcL Zbr Zcc isB Zt1 Zg3 Zci Ze3 Zck inL Zbk Za8 he denC_cons denC_nil Zkv dsc_cons dsc_nil den Za7)
variable {g:Gr} {w0:World}
theorem Ye3:Zg3 (Zcc ysE (inL txtP.fsL) (fun _ _=>none) (kcL tl0) 60 126 (.cons gR (.cons (.fn 131 .nil) .nil)) 100 he 100)=some (.cons (.mp 1) p58):=by kernel_rfl
theorem Yra (c:Cx g none [] 0 w0) (w:World) (hb:Below w0.heap.size w0 w):Calls Tryz.prog 126 #[g.v,.func (.func 131) #[] #[]] w fun e w'=>∃ d,e=.returned (.pointer (some ⟨d,0,none⟩))/\Rl w' d g.n (mx g [] (Zac g) p58)/\Below w.heap.size w w':=by
 refine(Zck (ρ:=rho g none [] 0 w0 (Zac g)) Zcu (Zbk txtP.fsL_ok) Za8 (kc:=kcL tl0) (Zbr (Zf8 c)) globs (w:=w) hb Ye3 (vs:=[g.v,.func (.func 131) #[] #[]]) (fun m=>denC_cons.2 ⟨_,_,rfl,Zg4 m,denC_cons.2 ⟨_,_,rfl,⟨[],denC_nil.2 rfl,rfl⟩,denC_nil.2 rfl⟩⟩)).mono ?_
 rintro e w' ⟨B,C,el,fr,rfl,h1,h2,o⟩
 exact⟨B,rfl,h2 w' B h1,o.below⟩
theorem Ye4:Zg3 (Zcc ysE (inL txtP.fsL) (fun _ _=>none) (kcL tl0) 60 126 (.cons gR (.cons (.fn 105 .nil) .nil)) 100 he 100)=some (.cons (.mp 1) p60):=by kernel_rfl
theorem Yrc (c:Cx g none [] 0 w0) (w:World) (hb:Below w0.heap.size w0 w):Calls Tryz.prog 126 #[g.v,.func (.func 105) #[] #[]] w fun e w'=>∃ d,e=.returned (.pointer (some ⟨d,0,none⟩))/\Rl w' d g.n (mx g [] (Zac g) p60)/\Below w.heap.size w w':=by
 refine(Zck (ρ:=rho g none [] 0 w0 (Zac g)) Zcu (Zbk txtP.fsL_ok) Za8 (kc:=kcL tl0) (Zbr (Zf8 c)) globs (w:=w) hb Ye4 (vs:=[g.v,.func (.func 105) #[] #[]]) (fun m=>denC_cons.2 ⟨_,_,rfl,Zg4 m,denC_cons.2 ⟨_,_,rfl,⟨[],denC_nil.2 rfl,rfl⟩,denC_nil.2 rfl⟩⟩)).mono ?_
 rintro e w' ⟨B,C,el,fr,rfl,h1,h2,o⟩
 exact⟨B,rfl,h2 w' B h1,o.below⟩
theorem Yez:Zg3 (Zcc ysE (inL txtP.fsL) (fun _ _=>none) (kcL tl0) 60 119 (.cons gR .nil) 100 he 100)=some (.cons (.mp 2) z9):=by kernel_rfl
theorem Ypw (c:Cx g none [] 0 w0) (w:World) (hb:Below w0.heap.size w0 w):Calls Tryz.prog 119 #[g.v] w fun e w'=>∃ d,e=.returned (.pointer (some ⟨d,0,none⟩))/\Rr w' d g.n (mx g [] (Zac g) z9)/\Below w.heap.size w w':=by
 refine(Zck (ρ:=rho g none [] 0 w0 (Zac g)) Zcu (Zbk txtP.fsL_ok) Za8 (kc:=kcL tl0) (Zbr (Zf8 c)) globs (w:=w) hb Yez (vs:=[g.v]) (fun m=>denC_cons.2 ⟨_,_,rfl,Zg4 m,denC_nil.2 rfl⟩)).mono ?_
 rintro e w' ⟨B,C,el,fr,rfl,h1,h2,o⟩
 exact⟨B,rfl,h2 w' B h1,o.below⟩
theorem Yey:Zg3 (Zcc ysE (inL txtP.fsL) (fun _ _=>none) (kcL tl0) 60 146 (.cons gR .nil) 100 he 100)=some (.cons (.mp 2) z52):=by kernel_rfl
theorem Ypr (c:Cx g none [] 0 w0) (w:World) (hb:Below w0.heap.size w0 w):Calls Tryz.prog 146 #[g.v] w fun e w'=>∃ d,e=.returned (.pointer (some ⟨d,0,none⟩))/\Rr w' d g.n (mx g [] (Zac g) z52)/\Below w.heap.size w w':=by
 refine(Zck (ρ:=rho g none [] 0 w0 (Zac g)) Zcu (Zbk txtP.fsL_ok) Za8 (kc:=kcL tl0) (Zbr (Zf8 c)) globs (w:=w) hb Yey (vs:=[g.v]) (fun m=>denC_cons.2 ⟨_,_,rfl,Zg4 m,denC_nil.2 rfl⟩)).mono ?_
 rintro e w' ⟨B,C,el,fr,rfl,h1,h2,o⟩
 exact⟨B,rfl,h2 w' B h1,o.below⟩
theorem Ye0:Zg3 (Zcc ysE (inL txtP.fsL) (fun _ _=>none) (kcL tl0) 60 145 (.cons gR .nil) 100 he 100)=some (.cons (.mp 2) z41):=by kernel_rfl
theorem Yp0 (c:Cx g none [] 0 w0) (w:World) (hb:Below w0.heap.size w0 w):Calls Tryz.prog 145 #[g.v] w fun e w'=>∃ d,e=.returned (.pointer (some ⟨d,0,none⟩))/\Rr w' d g.n (mx g [] (Zac g) z41)/\Below w.heap.size w w':=by
 refine(Zck (ρ:=rho g none [] 0 w0 (Zac g)) Zcu (Zbk txtP.fsL_ok) Za8 (kc:=kcL tl0) (Zbr (Zf8 c)) globs (w:=w) hb Ye0 (vs:=[g.v]) (fun m=>denC_cons.2 ⟨_,_,rfl,Zg4 m,denC_nil.2 rfl⟩)).mono ?_
 rintro e w' ⟨B,C,el,fr,rfl,h1,h2,o⟩
 exact⟨B,rfl,h2 w' B h1,o.below⟩
theorem Yg4 (c:Cx g none [] 0 w0) (v2:Value) (w:World) (hb:Below w0.heap.size w0 w):Calls Tryz.prog 133 #[g.v,v2] w fun e w'=>e=.returned (.bool (Zie g.n (mx g [] (Zac g) p63)))/\Below w.heap.size w w':=by
 have HFR:=jh (fun w' (hb':Below w.heap.size w w')=>Yra c w' (Zab hb hb'))
 have HCO:=jh (fun w' (hb':Below w.heap.size w w')=>Yrc c w' (Zab hb hb'))
 have HOF:=jh (fun w' (hb':Below w.heap.size w w')=>Yrb g g.ma g.Rmw g.mc w' c.gin.e40 (by have:=c.gin.m50;omega) ((c.gin.next (Zab hb hb')).rmw))
 have HTB:=jh (fun w' (hb':Below w.heap.size w w')=>c.tab.next (Zab hb hb'))
 have HN40:Hid (g.n<=40):=jh c.gin.e40
 clear c hb
 unfold Zie
 have hc2:mx g [] (Zac g) p63=Zky (Zax (mx g [] (Zac g) p58) (mx g [] (Zac g) p60)) (ofM g.n g.Rmw):=rfl
 rw[hc2]
 clear hc2
 generalize mx g [] (Zac g) p58=M1 at *
 generalize mx g [] (Zac g) p60=M2 at *
 generalize ofM g.n g.Rmw=M3 at *
 generalize g.n=nn at *
 obtain⟨MM,hMM⟩:∃ M,M=Zky (Zax M1 M2) M3:=⟨_,rfl⟩
 rw[<- hMM]
 have HMM:=jh hMM
 clear hMM
 have HG0:=jh (GBox.of_alloc w g 27)
 obtain⟨G,hG⟩:∃ G,G=g:=⟨_,rfl⟩
 obtain⟨locs,ea,E,ec,ra,R,rc,ca,C,cc,ma,Rmw,mc,da,Data,dc,ta,Ctrl,tc,ia,CtrlI,ic⟩:=g
 simp only[Gr.v,Zaw] at HFR HCO HOF HG0 ⊢
 rw[<- hG] at HG0
 obtain⟨c0,c1,c2,c3,c4,c5,c6,c7⟩:=HG0.out
 rw[hG] at c0 c1 c2 c3 c4 c5 c6 c7
 dsimp only at c0 c1 c2 c3 c4 c5 c6 c7
 have hBl:∀ o,Bl w (w.alloc o):=fun o=>⟨(Below.refl _ _).alloc (Nat.le_refl _) o⟩
 have hBl:=hBl (Obj.cells #[.int .i64 locs,.slice ea E.length ec,.slice ra R.length rc,.slice ca C.length cc,.slice ma Rmw.length mc,.slice da Data.length dc,.slice ta Ctrl.length tc,.slice ia CtrlI.length ic] 27 (0,0))
 go_enter Tryz.func133,Tryz.ntmps133
 go_wp2_with fail
 clear HG0
 generalize w.alloc (Obj.cells #[.int .i64 locs,.slice ea E.length ec,.slice ra R.length rc,.slice ca C.length cc,.slice ma Rmw.length mc,.slice da Data.length dc,.slice ta Ctrl.length tc,.slice ia CtrlI.length ic] 27 (0,0))=w1 at *
 go_region_held3 (fun W=>W.cell? ⟨w.heap.size,0,none⟩=some (.int .i64 locs)/\W.cell? ⟨w.heap.size,1,none⟩=some (.slice ea E.length ec)/\W.cell? ⟨w.heap.size,2,none⟩=some (.slice ra R.length rc)/\W.cell? ⟨w.heap.size,3,none⟩=some (.slice ca C.length cc)/\W.cell? ⟨w.heap.size,4,none⟩=some (.slice ma Rmw.length mc)/\W.cell? ⟨w.heap.size,5,none⟩=some (.slice da Data.length dc)/\W.cell? ⟨w.heap.size,6,none⟩=some (.slice ta Ctrl.length tc)/\W.cell? ⟨w.heap.size,7,none⟩=some (.slice ia CtrlI.length ic)/\Bl w W)
  (first | (go_split_ands; exact ⟨Zaa ‹_› hbe,Zaa ‹_› hbe,Zaa ‹_› hbe,Zaa ‹_› hbe,Zaa ‹_› hbe,Zaa ‹_› hbe,Zaa ‹_› hbe,Zaa ‹_› hbe,⟨Zab (Bl.out ‹_›) hbe⟩⟩) | (go_split_ands; exact ⟨Zaa ‹_› (Below.refl _ _).drew,Zaa ‹_› (Below.refl _ _).drew,Zaa ‹_› (Below.refl _ _).drew,Zaa ‹_› (Below.refl _ _).drew,Zaa ‹_› (Below.refl _ _).drew,Zaa ‹_› (Below.refl _ _).drew,Zaa ‹_› (Below.refl _ _).drew,Zaa ‹_› (Below.refl _ _).drew,⟨(Bl.out ‹_›).drew⟩⟩) | (go_split_ands; exact ⟨Zaa ‹_› jb,Zaa ‹_› jb,Zaa ‹_› jb,Zaa ‹_› jb,Zaa ‹_› jb,Zaa ‹_› jb,Zaa ‹_› jb,Zaa ‹_› jb,⟨Zab (Bl.out ‹_›) jb⟩⟩) | fail "keep")
  (first | (go_at_call 80;have hgd:=HA2;clear hgd;refine(Ycq _ _ _ _ _ _ HA1.out HA2.out (HTB.out _ (Bl.out (by go_split_ands;assumption)))).mono ?_;rintro e wn ⟨d3,rfl,hat,hnw,hbe⟩;have HA3:=jh hat;clear hat hnw HA1 HA2) | (go_at_call 126;have hgd:=HA1;clear hgd;refine(HCO.out _ (Bl.out (by go_split_ands;assumption))).mono ?_;rintro e wn ⟨d2,rfl,hat,hbe⟩;have HA2:=jh hat;have HA1:=jh (HA1.out.next hbe);clear hat) | (go_at_call 126;refine(HFR.out _ (Bl.out (by go_split_ands;assumption))).mono ?_;rintro e wn ⟨d1,rfl,hat,hbe⟩;have HA1:=jh hat;clear hat))
 go_split_ands
 have HB:=jh (Bl.out ‹Bl w _›)
 clear c0 c1 c2 c3 c4 c5 c6 c7 hBl
 go_wp2_with fail
 refine(HOF.out _ HB.out).mono ?_
 rintro e wx ⟨d4,rfl,hat,hnw,hbe⟩
 have HA3:=jh (HA3.out.next hbe)
 have HA4:=jh hat
 have HB:=jh (Zab HB.out hbe)
 clear hat hnw hbe
 go_wp2_with fail
 refine(Yj8 _ _ _ _ _ _ HA3.out HA4.out).mono ?_
 rintro e wx ⟨d5,rfl,hat,hnw,hbe⟩
 rw[<- HMM.out] at hat
 have HA5:=jh hat
 have HB:=jh (Zab HB.out hbe)
 clear hat hnw hbe HA3 HA4
 go_wp2_with fail
 obtain⟨N,hN⟩:∃ N,N=(Zay nn MM).length:=⟨_,rfl⟩
 have HPR:=jh (Yf5 _ _ _ _ HA5.out HN40.out (HTB.out _ HB.out))
 rw[<- hN] at HPR
 have HN:=jh hN
 clear hN
 by_cases q:N=0
 ·have l:((N:Int)==0)=true:=by simp[q]
  have HD:Hid (decide ((Zay nn MM).length=0)=true):=jh (by rw[<- HN.out];simp[q])
  clear q
  refine HPR.out.mono ?_
  rintro e wx ⟨a,cap,rfl,hbe⟩
  have HB:=jh (Zab HB.out hbe)
  clear hbe
  go_wp2_with fail
  go_ret
  exact⟨by rw[HD.out];rfl,HB.out⟩
 ·have l:((N:Int)==0)=false:=by simp[q]
  have HD:Hid (decide ((Zay nn MM).length=0)=false):=jh (by rw[<- HN.out];simp[q])
  clear q
  refine HPR.out.mono ?_
  rintro e wx ⟨a,cap,rfl,hbe⟩
  have HB:=jh (Zab HB.out hbe)
  clear hbe
  go_wp2_with fail
  go_ret
  exact⟨by rw[HD.out];rfl,HB.out⟩
end L20
end ToldP
end
section
attribute [local go_sem ↓] Go.wp_at_zero Go.wp_at_succ
attribute [local irreducible] RelA.rcells
namespace RelA
theorem GIn0.next {w w':World} {g:Gr} (h:GIn0 w g) (hb:Below w.heap.size w w'):GIn0 w' g:=
 ⟨h.es.next hb,h.rf.next hb,h.co.next hb,h.rmw.next hb,h.data.next hb,h.ctrl.next hb,h.ctrli.next hb,h.e50,h.r60,h.c6,h.l50,h.m50,h.d300,h.t300,h.i300⟩
end RelA
namespace ToldP
namespace L20
open Go.Rn (Rho RV Mp Tells chV chW Zau kcL Zbr Zcc isB Zt1 Zg3 Zci Ze3 Zck inL Zbk Za8 he denC_cons denC_nil Zkv dsc_cons dsc_nil den Za7)
variable {g:Gr} {w0:World}
theorem in0 (c:Cx g none [] 0 w0):GIn0 w0 g:=⟨c.gin.es,c.gin.rf,c.gin.co,c.gin.rmw,c.gin.data,c.gin.ctrl,c.gin.ctrli,by have:=c.gin.e40;omega,c.gin.r60,c.gin.c6,c.gin.l50,c.gin.m50,c.gin.d300,c.gin.t300,c.gin.i300⟩
theorem Zs9 (c:Cx g none [] 0 w0) (hn:Zie g.n (mx g [] (Zac g) z58)=false) (hb1:¬ Zcz g.n (Zbl (mx g [] (Zac g) z53))) (w:World) (hb:Below w0.heap.size w0 w):Calls Tryz.prog 57 #[g.v] w fun e w'=>e=.returned (.bool false)/\Below w.heap.size w w':=by
 have HFR:=jh (fun w' (hb':Below w.heap.size w w')=>Ypw c w' (Zab hb hb'))
 have HCO:=jh (fun w' (hb':Below w.heap.size w w')=>Yip g w' (c.gin.next (Zab hb hb')).co c.gin.e40 (Zlf c.ck).c4 (Zum c.ck) (Zlf c.ck).l40)
 have HOU:=jh (fun rb M w' (hb':Below w.heap.size w w') (hr:Rr w' rb g.n M)=>Zzk g rb M w' (c.gin.next (Zab hb hb')) hr)
 have HOF:=jh (fun w' (hb':Below w.heap.size w w')=>Ykr g g.ma g.Rmw g.mc w' c.gin.e40 (by have:=c.gin.m50;omega) ((c.gin.next (Zab hb hb')).rmw))
 have HTB:=jh (fun w' (hb':Below w.heap.size w w')=>c.tab.next (Zab hb hb'))
 have HN40:Hid (g.n<=40):=jh c.gin.e40
 have HCK:=jh (fun w' (hb':Below w.heap.size w w')=>Zqj g w' ((in0 c).next (Zab hb hb')) c.ck)
 have HPL:=jh (fun w' (hb':Below w.heap.size w w')=>Ypr c w' (Zab hb hb'))
 have HCM:=jh (fun w' (hb':Below w.heap.size w w')=>Yp0 c w' (Zab hb hb'))
 clear c hb
 have hc1:mx g [] (Zac g) z53=orM (mx g [] (Zac g) z52) (mx g [] (Zac g) z41):=rfl
 have hc2:mx g [] (Zac g) z58=Zky (ofM g.n g.Rmw) (Zax (Zcn g.E (mx g [] (Zac g) z9)) (Zcn g.E (coM g))):=rfl
 rw[hc1] at hb1
 rw[hc2] at hn
 clear hc1 hc2
 unfold Zie at hn
 generalize mx g [] (Zac g) z52=A1 at *
 generalize mx g [] (Zac g) z41=A2 at *
 generalize mx g [] (Zac g) z9=M1 at *
 generalize coM g=M2 at *
 generalize ofM g.n g.Rmw=M3 at *
 generalize g.n=nn at *
 obtain⟨MM,hMM⟩:∃ M,M=Zky M3 (Zax (Zcn g.E M1) (Zcn g.E M2)):=⟨_,rfl⟩
 rw[<- hMM] at hn
 have HN1:=jh hn
 have HB1:=jh (show false=true↔Zcz nn (Zbl (orM A1 A2)) from ⟨fun h=>(by cases h),fun h=>absurd h hb1⟩)
 clear hn hb1
 have HMM:=jh hMM
 clear hMM
 have HG0:=jh (GBox.of_alloc w g 27)
 obtain⟨G,hG⟩:∃ G,G=g:=⟨_,rfl⟩
 obtain⟨locs,ea,E,ec,ra,R,rc,ca,C,cc,ma,Rmw,mc,da,Data,dc,ta,Ctrl,tc,ia,CtrlI,ic⟩:=g
 simp only[Gr.v,Zaw] at HFR HCO HOU HOF HCK HPL HCM HG0 ⊢
 rw[<- hG] at HG0
 obtain⟨c0,c1,c2,c3,c4,c5,c6,c7⟩:=HG0.out
 rw[hG] at c0 c1 c2 c3 c4 c5 c6 c7
 dsimp only at c0 c1 c2 c3 c4 c5 c6 c7
 have hBl:∀ o,Bl w (w.alloc o):=fun o=>⟨(Below.refl _ _).alloc (Nat.le_refl _) o⟩
 have hBl:=hBl (Obj.cells #[.int .i64 locs,.slice ea E.length ec,.slice ra R.length rc,.slice ca C.length cc,.slice ma Rmw.length mc,.slice da Data.length dc,.slice ta Ctrl.length tc,.slice ia CtrlI.length ic] 27 (0,0))
 go_enter Tryz.func57,Tryz.ntmps57
 go_wp2_with fail
 clear HG0
 generalize w.alloc (Obj.cells #[.int .i64 locs,.slice ea E.length ec,.slice ra R.length rc,.slice ca C.length cc,.slice ma Rmw.length mc,.slice da Data.length dc,.slice ta Ctrl.length tc,.slice ia CtrlI.length ic] 27 (0,0))=w1 at *
 go_region_held3 (fun W=>W.cell? ⟨w.heap.size,0,none⟩=some (.int .i64 locs)/\W.cell? ⟨w.heap.size,1,none⟩=some (.slice ea E.length ec)/\W.cell? ⟨w.heap.size,2,none⟩=some (.slice ra R.length rc)/\W.cell? ⟨w.heap.size,3,none⟩=some (.slice ca C.length cc)/\W.cell? ⟨w.heap.size,4,none⟩=some (.slice ma Rmw.length mc)/\W.cell? ⟨w.heap.size,5,none⟩=some (.slice da Data.length dc)/\W.cell? ⟨w.heap.size,6,none⟩=some (.slice ta Ctrl.length tc)/\W.cell? ⟨w.heap.size,7,none⟩=some (.slice ia CtrlI.length ic)/\Bl w W)
  (first | (go_split_ands; exact ⟨Zaa ‹_› hbe,Zaa ‹_› hbe,Zaa ‹_› hbe,Zaa ‹_› hbe,Zaa ‹_› hbe,Zaa ‹_› hbe,Zaa ‹_› hbe,Zaa ‹_› hbe,⟨Zab (Bl.out ‹_›) hbe⟩⟩) | (go_split_ands; exact ⟨Zaa ‹_› (Below.refl _ _).drew,Zaa ‹_› (Below.refl _ _).drew,Zaa ‹_› (Below.refl _ _).drew,Zaa ‹_› (Below.refl _ _).drew,Zaa ‹_› (Below.refl _ _).drew,Zaa ‹_› (Below.refl _ _).drew,Zaa ‹_› (Below.refl _ _).drew,Zaa ‹_› (Below.refl _ _).drew,⟨(Bl.out ‹_›).drew⟩⟩) | (go_split_ands; exact ⟨Zaa ‹_› jb,Zaa ‹_› jb,Zaa ‹_› jb,Zaa ‹_› jb,Zaa ‹_› jb,Zaa ‹_› jb,Zaa ‹_› jb,Zaa ‹_› jb,⟨Zab (Bl.out ‹_›) jb⟩⟩) | fail "keep")
  (first | (go_at_call 120;have hgd:=HD3;clear hgd;refine(Zjd _ _ _ _ HD3.out HN40.out false HB1.out).mono ?_;rintro e wn ⟨rfl,hbe⟩;clear HD3) | (go_at_call 96;have hgd:=HD2;clear hgd;refine(Yin _ _ _ _ _ _ HD1.out HD2.out HN40.out).mono ?_;rintro e wn ⟨d3,rfl,hat,hnw,hbe⟩;have HD3:=jh hat;clear hat hnw HD1 HD2) | (go_at_call 145;have hgd:=HD1;clear hgd;refine(HCM.out _ (Bl.out (by go_split_ands;assumption))).mono ?_;rintro e wn ⟨d2,rfl,hat,hbe⟩;have HD2:=jh hat;have HD1:=jh (HD1.out.next hbe);clear hat) | (go_at_call 146;refine(HPL.out _ (Bl.out (by go_split_ands;assumption))).mono ?_;rintro e wn ⟨d1,rfl,hat,hbe⟩;have HD1:=jh hat;clear hat) | (go_at_call 7;refine(HCK.out _ (Bl.out (by go_split_ands;assumption))).mono ?_;rintro e wn ⟨rfl,hbe⟩))
 go_split_ands
 have hbl:=‹Bl w _›
 go_wp2_with fail
 go_region_held3 (fun W=>W.cell? ⟨w.heap.size,0,none⟩=some (.int .i64 locs)/\W.cell? ⟨w.heap.size,1,none⟩=some (.slice ea E.length ec)/\W.cell? ⟨w.heap.size,2,none⟩=some (.slice ra R.length rc)/\W.cell? ⟨w.heap.size,3,none⟩=some (.slice ca C.length cc)/\W.cell? ⟨w.heap.size,4,none⟩=some (.slice ma Rmw.length mc)/\W.cell? ⟨w.heap.size,5,none⟩=some (.slice da Data.length dc)/\W.cell? ⟨w.heap.size,6,none⟩=some (.slice ta Ctrl.length tc)/\W.cell? ⟨w.heap.size,7,none⟩=some (.slice ia CtrlI.length ic)/\Bl w W)
  (first | (go_split_ands; exact ⟨Zaa ‹_› hbe,Zaa ‹_› hbe,Zaa ‹_› hbe,Zaa ‹_› hbe,Zaa ‹_› hbe,Zaa ‹_› hbe,Zaa ‹_› hbe,Zaa ‹_› hbe,⟨Zab (Bl.out ‹_›) hbe⟩⟩) | (go_split_ands; exact ⟨Zaa ‹_› (Below.refl _ _).drew,Zaa ‹_› (Below.refl _ _).drew,Zaa ‹_› (Below.refl _ _).drew,Zaa ‹_› (Below.refl _ _).drew,Zaa ‹_› (Below.refl _ _).drew,Zaa ‹_› (Below.refl _ _).drew,Zaa ‹_› (Below.refl _ _).drew,Zaa ‹_› (Below.refl _ _).drew,⟨(Bl.out ‹_›).drew⟩⟩) | (go_split_ands; exact ⟨Zaa ‹_› jb,Zaa ‹_› jb,Zaa ‹_› jb,Zaa ‹_› jb,Zaa ‹_› jb,Zaa ‹_› jb,Zaa ‹_› jb,Zaa ‹_› jb,⟨Zab (Bl.out ‹_›) jb⟩⟩) | fail "keep")
  (first | (go_at_call 107;have hgd:=HA3;clear hgd;refine(HOU.out _ M2 _ (Bl.out (by go_split_ands;assumption)) HA3.out).mono ?_;rintro e wn ⟨d4,rfl,hat,hbe⟩;have HA4:=jh hat;have HA2:=jh (HA2.out.next hbe);clear hat HA3) | (go_at_call 108;have hgd:=HA2;clear hgd;refine(HCO.out _ (Bl.out (by go_split_ands;assumption))).mono ?_;rintro e wn ⟨d3,rfl,hat,hnw,hbe⟩;have HA3:=jh hat;have HA2:=jh (HA2.out.next hbe);clear hat hnw) | (go_at_call 107;have hgd:=HA1;clear hgd;refine(HOU.out _ M1 _ (Bl.out (by go_split_ands;assumption)) HA1.out).mono ?_;rintro e wn ⟨d2,rfl,hat,hbe⟩;have HA2:=jh hat;clear hat HA1) | (go_at_call 119;refine(HFR.out _ (Bl.out (by go_split_ands;assumption))).mono ?_;rintro e wn ⟨d1,rfl,hat,hbe⟩;have HA1:=jh hat;clear hat))
 go_split_ands
 have HB:=jh (Bl.out ‹Bl w _›)
 skip
 go_wp2_with fail
 refine(HOF.out _ HB.out).mono ?_
 rintro e wx ⟨d5,rfl,hat,hnw,hbe⟩
 have HA2:=jh (HA2.out.next hbe)
 have HA4:=jh (HA4.out.next hbe)
 have HA5:=jh hat
 have HB:=jh (Zab HB.out hbe)
 clear hat hnw hbe
 go_wp2_with fail
 refine(Zvv _ _ _ _ _ _ HA2.out HA4.out HN40.out).mono ?_
 rintro e wx ⟨d6,rfl,hat,hnw,hbe⟩
 have HA5:=jh (HA5.out.next hbe)
 have HA6:=jh hat
 have HB:=jh (Zab HB.out hbe)
 clear hat hnw hbe HA2 HA4
 go_wp2_with fail
 refine(Yc5 _ _ _ _ _ _ HA5.out HA6.out HN40.out).mono ?_
 rintro e wx ⟨d7,rfl,hat,hnw,hbe⟩
 rw[<- HMM.out] at hat
 have HA7:=jh hat
 have HB:=jh (Zab HB.out hbe)
 clear hat hnw hbe HA5 HA6
 go_wp2_with fail
 obtain⟨N,hN⟩:∃ N,N=(Zay nn MM).length:=⟨_,rfl⟩
 have HPR:=jh (Zzi _ _ _ _ HA7.out HN40.out)
 rw[<- hN] at HPR
 have HN:=jh hN
 clear hN
 have q:¬ N=0:=by
  have h1:=HN1.out
  rw[<- HN.out] at h1
  simpa using h1
 have l:decide ((0:Int)<(N:Int))=true:=by simp;omega
 have l2:decide (0<N)=true:=by simp;omega
 have l3:(0:Int)<(N:Int):=by omega
 have l4:0<N:=by omega
 clear q
 refine HPR.out.mono ?_
 rintro e wx ⟨a,cap,rfl,hbe⟩
 have HB:=jh (Zab HB.out hbe)
 clear hbe
 go_wp2_with fail
 go_ret
 exact⟨rfl,HB.out⟩
end L20
end ToldP
end
end Go.Proofs.YthcnhbclagegeaaGreatDoor
