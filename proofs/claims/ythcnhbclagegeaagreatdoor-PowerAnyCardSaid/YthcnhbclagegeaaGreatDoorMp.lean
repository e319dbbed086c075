/-
  What the functions that the law reaches do, one by one: contracts. Conditions: those that each of them prints.
-/
import Derived.Test.YthcnhbclagegeaaGreatDoorMk
import Derived.Test.YthcnhbclagegeaaGreatDoorMm
import Derived.Test.YthcnhbclagegeaaGreatDoorMn
import Derived.Test.YthcnhbclagegeaaGreatDoorMo
import Derived.Test.YthcnhbclagegeaaGreatDoorMj
import Derived.Test.YthcnhbclagegeaaGreatDoorMh
set_option maxRecDepth 20000
set_option maxHeartbeats 20000000
namespace Go.Proofs.YthcnhbclagegeaaGreatDoor
open Go.RowKit RelA
section
namespace RelA
structure GIn0 (w:World) (g:Gr):Prop where
 es:EsIn w g.ea g.E
 rf:NsIn w g.ra g.R
 co:LsIn w g.ca g.C
 rmw:PIn w g.ma g.Rmw g.mc
 data:PIn w g.da g.Data g.dc
 ctrl:PIn w g.ta g.Ctrl g.tc
 ctrli:PIn w g.ia g.CtrlI g.ic
 e50:g.E.length<=50
 r60:g.R.length<=60
 c6:g.C.length<=6
 l50:∀ q,q<g.C.length->(g.C.getD q Ls.zero).L.length<=50
 m50:g.Rmw.length<=50
 d300:g.Data.length<=300
 t300:g.Ctrl.length<=300
 i300:g.CtrlI.length<=300
structure CheckOk (g:Gr):Prop where
 l1:1<=g.locs
 l4:g.locs<=4
 ln:g.locs<=g.E.length
 n40:g.E.length<=40
 rlen:g.R.length=g.E.length
 clen:(g.C.length:Int)=g.locs
 at_:∀ i,i<g.E.length->Zk6 g i=true/\Zlz g.E i (g.R.getD i 0)
 co:∀ t,t<g.C.length->CoOk g.E t (g.C.getD t Ls.zero).L
 rmw:RmwsOk g.E g.Rmw
 data:Zdq g.E g.Data
 ctrl:Zdq g.E g.Ctrl
 ctrli:Zdq g.E g.CtrlI
end RelA
theorem Zx3 (g:Gr) (w:World) (h:GIn0 w g) :
  Calls Tryz.prog 7 #[g.v] w (Says (CheckOk g) w):=by
 have he50:=h.e50
 have hr60:=h.r60
 have hc6:=h.c6
 have hm50:=h.m50
 have hd300:=h.d300
 have ht300:=h.t300
 have hi300:=h.i300
 have HEV:=jh (fun w' (hb:Below w.heap.size w w') i (hi:i<g.E.length)=>Zoy g i w' (h.es.next hb) hi (by omega))
 have HRF:=jh (fun w' (hb:Below w.heap.size w w') (hle:g.E.length<=g.R.length) i (hi:i<g.E.length)=>Yku g i w' (h.es.next hb) (h.rf.next hb) hi (by omega) hle)
 have HCO:=jh (fun w' (hb:Below w.heap.size w w') t (ht:t<g.C.length)=>Ylk g t w' (h.es.next hb) (h.co.next hb) ht (by omega) (by omega) (fun q hq=>by have:=h.l50 q hq;omega))
 have HMW:=jh (fun w' (hb:Below w.heap.size w w') (he:g.E.length<=40)=>Ye8 g w' (h.es.next hb) he (h.rmw.next hb) (by omega))
 have HD1:=jh (fun w' (hb:Below w.heap.size w w')=>Znc g g.da g.Data g.dc w' (h.es.next hb) (by omega) (h.data.next hb) (by omega))
 have HD2:=jh (fun w' (hb:Below w.heap.size w w')=>Znc g g.ta g.Ctrl g.tc w' (h.es.next hb) (by omega) (h.ctrl.next hb) (by omega))
 have HD3:=jh (fun w' (hb:Below w.heap.size w w')=>Znc g g.ia g.CtrlI g.ic w' (h.es.next hb) (by omega) (h.ctrli.next hb) (by omega))
 have HK:=jh (fun (a:1<=g.locs) (b:g.locs<=4) (c:g.locs<=g.E.length) (d:g.E.length<=40) (e:g.R.length=g.E.length) (f:(g.C.length:Int)=g.locs) (p:∀ i,i<g.E.length->Zk6 g i=true/\Zlz g.E i (g.R.getD i 0)) (q:∀ t,t<g.C.length->CoOk g.E t (g.C.getD t Ls.zero).L) (r:RmwsOk g.E g.Rmw) (s:Zdq g.E g.Data) (t:Zdq g.E g.Ctrl) (u:Zdq g.E g.CtrlI)=>(⟨a,b,c,d,e,f,p,q,r,s,t,u⟩:CheckOk g))
 clear h
 obtain⟨K,hKK⟩:∃ K,K=CheckOk g:=⟨_,rfl⟩
 rw[<- hKK] at HK ⊢
 clear hKK
 obtain⟨P,hP⟩:∃ P,P=Zk6 g:=⟨_,rfl⟩
 rw[<- hP] at HK HEV
 clear hP
 have HG0:=jh (GBox.of_alloc w g 27)
 obtain⟨G,hG⟩:∃ G,G=g:=⟨_,rfl⟩
 obtain⟨locs,ea,E,ec,ra,R,rc,ca,C,cc,ma,Rmw,mc,da,Data,dc,ta,Ctrl,tc,ia,CtrlI,ic⟩:=g
 simp only[Gr.v,Zaw] at he50 hr60 hc6 hm50 hd300 ht300 hi300 HEV HRF HCO HMW HD1 HD2 HD3 HK HG0 ⊢
 rw[<- hG] at HG0
 have hE:(E.length:Int)<=50:=by omega
 have hR:(R.length:Int)<=60:=by omega
 have hC:(C.length:Int)<=6:=by omega
 clear hm50 hd300 ht300 hi300
 have c0a:=HG0.out.c0
 have c1a:=HG0.out.c1
 have c2a:=HG0.out.c2
 have c3a:=HG0.out.c3
 rw[hG] at c0a c1a c2a c3a
 dsimp only at c0a c1a c2a c3a
 have HB:=jh (show Below w.heap.size w (w.alloc (Obj.cells #[.int .i64 locs,.slice ea E.length ec,.slice ra R.length rc,.slice ca C.length cc,.slice ma Rmw.length mc,.slice da Data.length dc,.slice ta Ctrl.length tc,.slice ia CtrlI.length ic] 27 (0,0))) from jb)
 go_enter Tryz.func7,Tryz.ntmps7
 by_cases e1:locs<1
 ·have l1:decide (locs<1)=true:=by simp[e1]
  go_wp2_with fail
  go_ret
  exact Says.no HB.out
 have l1:decide (locs<1)=false:=by simp[e1]
 by_cases e2:4<locs
 ·have l2:decide (4<locs)=true:=by simp[e2]
  go_wp2_with fail
  go_ret
  exact Says.no HB.out
 have l2:decide (4<locs)=false:=by simp[e2]
 by_cases e3:(E.length:Int)<locs
 ·have l3:decide ((E.length:Int)<locs)=true:=by simp[e3]
  go_wp2_with fail
  go_ret
  exact Says.no HB.out
 have l3:decide ((E.length:Int)<locs)=false:=by simp[e3]
 by_cases e4:(40:Int)<(E.length:Int)
 ·have l4:decide ((40:Int)<(E.length:Int))=true:=by simp;omega
  go_wp2_with fail
  go_ret
  exact Says.no HB.out
 have l4:decide ((40:Int)<(E.length:Int))=false:=by simp;omega
 by_cases e5:¬ R.length=E.length
 ·have l5:((R.length:Int)==(E.length:Int))=false:=by simp;omega
  go_wp2_with fail
  go_ret
  exact Says.no HB.out
 have e5:=Classical.not_not.1 e5
 have l5:((R.length:Int)==(E.length:Int))=true:=by simp;omega
 have HE5:=jh e5
 have hRE:E.length<=R.length:=by omega
 clear e5
 by_cases e6:¬ (C.length:Int)=locs
 ·have l6:((C.length:Int)==locs)=false:=by simp[e6]
  go_wp2_with fail
  go_ret
  exact Says.no HB.out
 have e6:=Classical.not_not.1 e6
 have l6:((C.length:Int)==locs)=true:=by simp[e6]
 have HRF2:=jh (fun w' hb i hi=>HRF.out w' hb hRE i hi)
 have HMW2:=jh (fun w' hb=>HMW.out w' hb (by omega))
 have HK2:=jh (HK.out (by omega) (by omega) (by omega) (by omega) HE5.out e6)
 have hl1:1<=locs:=by omega
 have hl4:locs<=4:=by omega
 have hl40:E.length<=40:=by omega
 have HE6:=jh e6
 clear HRF HMW HK e6
 go_wp2_with fail
 clear l1 l2 l3 l4 l5 l6 e1 e2 e3 e4 c0a c1a c2a c3a HB
 obtain⟨w1,hw1⟩:∃ x,x=w.alloc (Obj.cells #[.int .i64 locs,.slice ea E.length ec,.slice ra R.length rc,.slice ca C.length cc,.slice ma Rmw.length mc,.slice da Data.length dc,.slice ta Ctrl.length tc,.slice ia CtrlI.length ic] 27 (0,0)):=⟨_,rfl⟩
 rw[<- hw1] at HG0 ⊢
 have hs1:w1.heap.size=w.heap.size+1:=by rw[hw1];simp
 have HB1:Hid (Below w.heap.size w w1):=jh (by rw[hw1];exact jb)
 clear hw1
 clear hs1
 go_loopw [4] (fun v wr=>Below w1.heap.size w1 wr/\∃ k:Nat,k<=E.length/\v=.int .i64 k/\Hid (∀ j,j<k->P j=true/\Zlz E j (R.getD j 0))) (fun v _=>E.length-(intOf v).toNat)
 case atStart=>exact⟨Below.refl _ _,0,by omega,rfl,jh (fun j _=>by omega)⟩
 case round=>
  obtain⟨hbe,k,hk,rfl,HD⟩:=hrel
  have HBE:=jh hbe
  by_cases hlt:k<E.length
  ·have hdk:decide ((k:Int)<(E.length:Int))=true:=by simp;omega
   have hki:(k:Int)<(E.length:Int):=by omega
   obtain⟨c0,c1,c2,c3,c4,c5,c6,c7⟩:=HG0.out.next hbe
   rw[hG] at c0 c1 c2 c3 c4 c5 c6 c7
   dsimp only at c0 c1 c2 c3 c4 c5 c6 c7
   have HB:=jh (Zab HB1.out hbe)
   clear hbe
   go_wp2_with fail
   refine(HEV.out _ HB.out k hlt).mono ?_
   rintro e wn ⟨rfl,hbn⟩
   have HBN:=jh (Zab HB.out hbn)
   have HBEN:=jh (Zab HBE.out hbn)
   clear c0 c1 c2 c3 c4 c5 c6 c7
   clear hbn HB HBE
   cases hp:P k
   ·have HB:=HBN
    clear HBEN
    go_wp2_with fail
    go_ret
    exact Says.no HB.out
   ·obtain⟨c0,c1,c2,c3,c4,c5,c6,c7⟩:=HG0.out.next HBEN.out
    rw[hG] at c0 c1 c2 c3 c4 c5 c6 c7
    dsimp only at c0 c1 c2 c3 c4 c5 c6 c7
    go_wp2_with fail
    refine(HRF2.out _ HBN.out k hlt).mono ?_
    rintro e wm ⟨x,rfl,hx,hbm⟩
    have HB:=jh (Zab HBN.out hbm)
    have HBM:=jh (Zab HBEN.out hbm)
    have HX:=jh hx
    clear c0 c1 c2 c3 c4 c5 c6 c7
    clear hbm HBN HBEN hx
    cases x
    ·clear HBM
     go_wp2_with fail
     go_ret
     exact Says.no HB.out
    ·have HS:Hid (∀ j,j<k+1->P j=true/\Zlz E j (R.getD j 0)):=jh (fun j b=>by
      rcases Nat.lt_succ_iff_lt_or_eq.1 b with e | rfl
      ·exact HD.out j e
      ·exact⟨hp,HX.out rfl⟩)
     clear HD HX hp HB
     go_wp2_with fail
     go_roundw
     case rel=>exact⟨HBM.out,k+1,by omega,by go_num,HS⟩
     case measure=>simp[intOf];omega
  ·have hdk:decide ((k:Int)<(E.length:Int))=false:=by simp;omega
   have HK3:=jh (HK2.out (fun j hj=>HD.out j (by omega)))
   clear HD HK2 hbe HEV HRF2
   go_wp2_with fail
   clear hdk hlt hk
   go_loopw [5] (fun v wi=>Below w1.heap.size w1 wi/\∃ t:Nat,t<=C.length/\v=.int .i64 t/\Hid (∀ j,j<t->CoOk E j (C.getD j Ls.zero).L)) (fun v _=>C.length-(intOf v).toNat)
   case atStart=>exact⟨HBE.out,0,by omega,rfl,jh (fun j _=>by omega)⟩
   case round=>
    obtain⟨hbi,t,ht,rfl,HQ⟩:=hrel
    clear HBE
    have HBI:=jh hbi
    have HB:=jh (Zab HB1.out hbi)
    obtain⟨c0,c1,c2,c3,c4,c5,c6,c7⟩:=HG0.out.next hbi
    rw[hG] at c0 c1 c2 c3 c4 c5 c6 c7
    dsimp only at c0 c1 c2 c3 c4 c5 c6 c7
    clear hbi
    have he6:=HE6.out
    by_cases htl:t<C.length
    ·have hdt:decide ((t:Int)<locs)=true:=by simp;omega
     have hti:(t:Int)<locs:=by omega
     clear he6
     go_wp2_with fail
     refine(HCO.out _ HB.out t htl).mono ?_
     rintro e wm ⟨x,rfl,hx,hbm⟩
     have HBN:=jh (Zab HB.out hbm)
     have HBM:=jh (Zab HBI.out hbm)
     have HX:=jh hx
     clear c0 c1 c2 c3 c4 c5 c6 c7
     clear hbm HB HBI hx
     cases x
     ·have HB:=HBN
      clear HBM
      go_wp2_with fail
      go_ret
      exact Says.no HB.out
     ·have HS:Hid (∀ j,j<t+1->CoOk E j (C.getD j Ls.zero).L):=jh (fun j b=>by
       rcases Nat.lt_succ_iff_lt_or_eq.1 b with e | rfl
       ·exact HQ.out j e
       ·exact HX.out rfl)
      clear HQ HX HBN
      go_wp2_with fail
      go_roundw
      case rel=>exact⟨HBM.out,t+1,by omega,by go_num,HS⟩
      case measure=>simp[intOf];omega
    ·have hdt:decide ((t:Int)<locs)=false:=by simp;omega
     have HK4:=jh (HK3.out (fun j hj=>HQ.out j (by omega)))
     clear HQ HK3 HCO he6
     go_wp2_with fail
     refine(HMW2.out _ HB.out).mono ?_
     rintro e wm ⟨x,rfl,hx,hbm⟩
     have HB2:=jh (Zab HB.out hbm)
     have HBM2:=jh (Zab HBI.out hbm)
     have HX:=jh hx
     clear c0 c1 c2 c3 c4 c5 c6 c7
     clear hbm HB HBI hx
     cases x
     ·have HB:=HB2
      go_wp2_with fail
      go_ret
      exact Says.no HB.out
     ·have HK5:=jh (HK4.out (HX.out rfl))
      clear HX HK4
      obtain⟨c0,c1,c2,c3,c4,c5,c6,c7⟩:=HG0.out.next HBM2.out
      rw[hG] at c0 c1 c2 c3 c4 c5 c6 c7
      dsimp only at c0 c1 c2 c3 c4 c5 c6 c7
      go_wp2_with fail
      refine(HD1.out _ HB2.out).mono ?_
      rintro e wm ⟨x,rfl,hx,hbm⟩
      have HB3:=jh (Zab HB2.out hbm)
      have HBM3:=jh (Zab HBM2.out hbm)
      have HX:=jh hx
      clear c0 c1 c2 c3 c4 c5 c6 c7
      clear hbm HB2 HBM2 hx
      cases x
      ·have HB:=HB3
       go_wp2_with fail
       go_ret
       exact Says.no HB.out
      ·have HK6:=jh (HK5.out (HX.out rfl))
       clear HX HK5
       obtain⟨c0,c1,c2,c3,c4,c5,c6,c7⟩:=HG0.out.next HBM3.out
       rw[hG] at c0 c1 c2 c3 c4 c5 c6 c7
       dsimp only at c0 c1 c2 c3 c4 c5 c6 c7
       go_wp2_with fail
       refine(HD2.out _ HB3.out).mono ?_
       rintro e wm ⟨x,rfl,hx,hbm⟩
       have HB4:=jh (Zab HB3.out hbm)
       have HBM4:=jh (Zab HBM3.out hbm)
       have HX:=jh hx
       clear c0 c1 c2 c3 c4 c5 c6 c7
       clear hbm HB3 HBM3 hx
       cases x
       ·have HB:=HB4
        go_wp2_with fail
        go_ret
        exact Says.no HB.out
       ·have HK7:=jh (HK6.out (HX.out rfl))
        clear HX HK6
        obtain⟨c0,c1,c2,c3,c4,c5,c6,c7⟩:=HG0.out.next HBM4.out
        rw[hG] at c0 c1 c2 c3 c4 c5 c6 c7
        dsimp only at c0 c1 c2 c3 c4 c5 c6 c7
        go_wp2_with fail
        refine(HD3.out _ HB4.out).mono ?_
        rintro e wm ⟨x,rfl,hx,hbm⟩
        have HB5:=jh (Zab HB4.out hbm)
        have HBM5:=jh (Zab HBM4.out hbm)
        have HX:=jh hx
        clear c0 c1 c2 c3 c4 c5 c6 c7
        clear hbm HB4 HBM4 hx
        go_wp2_with fail
        go_ret
        exact⟨_,rfl,(fun e=>HK7.out (HX.out e)),HB5.out⟩
end
section
namespace RelA
structure GInA (w:World) (g:Gr):Prop where
 es:EsIn w g.ea g.E
 rf:NsIn w g.ra g.R
 co:LsIn w g.ca g.C
 rmw:PIn w g.ma g.Rmw g.mc
 data:PIn w g.da g.Data g.dc
 ctrl:PIn w g.ta g.Ctrl g.tc
 ctrli:PIn w g.ia g.CtrlI g.ic
theorem GInA.next {w w':World} {g:Gr} (h:GInA w g) (hb:Below w.heap.size w w'):GInA w' g:=
 ⟨h.es.next hb,h.rf.next hb,h.co.next hb,h.rmw.next hb,h.data.next hb,h.ctrl.next hb,h.ctrli.next hb⟩
structure FewOk (g:Gr):Prop where
 e50:g.E.length<=50
 r60:g.R.length<=60
 c6:g.C.length<=6
 l50:∀ q,q<g.C.length->(g.C.getD q Ls.zero).L.length<=50
 m50:g.Rmw.length<=50
 d300:g.Data.length<=300
 t300:g.Ctrl.length<=300
 i300:g.CtrlI.length<=300
theorem GInA.few {w:World} {g:Gr} (h:GInA w g) (f:FewOk g):GIn0 w g:=
 ⟨h.es,h.rf,h.co,h.rmw,h.data,h.ctrl,h.ctrli,f.e50,f.r60,f.c6,f.l50,f.m50,f.d300,f.t300,f.i300⟩
end RelA
theorem Ygs (g:Gr) (w:World) (h:LsIn w g.ca g.C) :
  Calls Tryz.prog 6 #[g.v] w (Says (FewOk g) w):=by
 have HK:=jh (fun (a:g.E.length<=50) (b:g.R.length<=60) (c:g.C.length<=6) (d:∀ q,q<g.C.length->(g.C.getD q Ls.zero).L.length<=50) (e:g.Rmw.length<=50) (f:g.Data.length<=300) (p:g.Ctrl.length<=300) (q:g.CtrlI.length<=300)=>(⟨a,b,c,d,e,f,p,q⟩:FewOk g))
 obtain⟨K,hKK⟩:∃ K,K=FewOk g:=⟨_,rfl⟩
 rw[<- hKK] at HK ⊢
 clear hKK
 have HG0:=jh (GBox.of_alloc w g 27)
 obtain⟨G,hG⟩:∃ G,G=g:=⟨_,rfl⟩
 obtain⟨locs,ea,E,ec,ra,R,rc,ca,C,cc,ma,Rmw,mc,da,Data,dc,ta,Ctrl,tc,ia,CtrlI,ic⟩:=g
 simp only[Gr.v,Zaw] at h HK HG0 ⊢
 rw[<- hG] at HG0
 have HI:=jh h
 clear h
 go_enter Tryz.func6,Tryz.ntmps6
 go_wp2_with fail
 obtain⟨w1,hw1⟩:∃ x,x=w.alloc (Obj.cells #[.int .i64 locs,.slice ea E.length ec,.slice ra R.length rc,.slice ca C.length cc,.slice ma Rmw.length mc,.slice da Data.length dc,.slice ta Ctrl.length tc,.slice ia CtrlI.length ic] 27 (0,0)):=⟨_,rfl⟩
 rw[<- hw1] at HG0 ⊢
 have hs1:w1.heap.size=w.heap.size+1:=by rw[hw1];simp
 have HB1:Hid (Below w.heap.size w w1):=jh (by rw[hw1];exact jb)
 clear hw1
 have HI1:=jh (HI.out.next HB1.out)
 clear hs1 HI
 go_loopw [3] (fun v wr=>Below w1.heap.size w1 wr/\∃ k:Nat,k<=6/\v=.int .i64 k/\Hid (∀ j,j<k->(C.getD j Ls.zero).L.length<=50)) (fun v _=>6-(intOf v).toNat)
 case atStart=>exact⟨Below.refl _ _,0,by omega,rfl,jh (fun j _=>by omega)⟩
 case round=>
  obtain⟨hbe,k,hk,rfl,HD⟩:=hrel
  have HBE:=jh hbe
  have HB:=jh (Zab HB1.out hbe)
  obtain⟨c0,c1,c2,c3,c4,c5,c6,c7⟩:=HG0.out.next hbe
  rw[hG] at c0 c1 c2 c3 c4 c5 c6 c7
  dsimp only at c0 c1 c2 c3 c4 c5 c6 c7
  by_cases hgo:k<C.length/\k<6
  ·obtain⟨hlt,hk6⟩:=hgo
   have hdk:decide ((k:Int)<(C.length:Int))=true:=by simp;omega
   have hd6:decide ((k:Int)<6)=true:=by simp;omega
   have hki:(k:Int)<(C.length:Int):=by omega
   rcases HI1.out.next hbe with h0 | ⟨b,o,rfl,hbl,hcc⟩
   ·rw[h0] at hlt;simp at hlt
   ·obtain⟨d0,_,_⟩:=hcc k hlt
    clear hcc hbl hbe
    have HS:Hid ((C.getD k Ls.zero).L.length<=50->∀ j,j<k+1->(C.getD j Ls.zero).L.length<=50):=jh (fun hx j b=>by
     rcases Nat.lt_succ_iff_lt_or_eq.1 b with e | rfl
     ·exact HD.out j e
     ·exact hx)
    generalize C.getD k Ls.zero=l at *
    obtain⟨la,L,lc⟩:=l
    dsimp only at d0 HS
    by_cases e1:50<L.length
    ·have l1:decide ((50:Int)<(L.length:Int))=true:=by simp;omega
     go_wp2_with fail
     go_ret
     exact Says.no HB.out
    ·have l1:decide ((50:Int)<(L.length:Int))=false:=by simp;omega
     have HL:=jh (HS.out (by omega))
     go_wp2_with fail
     go_roundw
     case rel=>exact⟨HBE.out,k+1,by omega,by go_num,HL⟩
     case measure=>simp[intOf];omega
  ·have hend:C.length<=6->C.length<=k:=fun _=>by omega
   have HK2:=jh (fun a b (c:C.length<=6)=>HK.out a b c (fun q hq=>HD.out q (by have:=hend c;omega)))
   clear HK hend HBE hbe
   rcases (show ¬ k<C.length∨(k<C.length/\¬ k<6) by omega) with hn | ⟨hlt,hn⟩
   ·have hdk:decide ((k:Int)<(C.length:Int))=false:=by simp;omega
    have hdn:decide (k<C.length)=false:=by simp;omega
    clear HD hgo
    by_cases e0:¬ E.length<=50
    ·have l0:decide ((E.length:Int)<=50)=false:=by simp;omega
     go_wp2_with fail
     go_ret
     exact Says.no HB.out
    have e0:=Classical.not_not.1 e0
    have l0:decide ((E.length:Int)<=50)=true:=by simp;omega
    by_cases e1:¬ R.length<=60
    ·have l1:decide ((R.length:Int)<=60)=false:=by simp;omega
     go_wp2_with fail
     go_ret
     exact Says.no HB.out
    have e1:=Classical.not_not.1 e1
    have l1:decide ((R.length:Int)<=60)=true:=by simp;omega
    by_cases e2:¬ C.length<=6
    ·exact absurd (show C.length<=6 by omega) e2
    have e2:=Classical.not_not.1 e2
    have l2:decide ((C.length:Int)<=6)=true:=by simp;omega
    by_cases e3:¬ Rmw.length<=50
    ·have l3:decide ((Rmw.length:Int)<=50)=false:=by simp;omega
     go_wp2_with fail
     go_ret
     exact Says.no HB.out
    have e3:=Classical.not_not.1 e3
    have l3:decide ((Rmw.length:Int)<=50)=true:=by simp;omega
    by_cases e4:¬ Data.length<=300
    ·have l4:decide ((Data.length:Int)<=300)=false:=by simp;omega
     go_wp2_with fail
     go_ret
     exact Says.no HB.out
    have e4:=Classical.not_not.1 e4
    have l4:decide ((Data.length:Int)<=300)=true:=by simp;omega
    by_cases e5:¬ Ctrl.length<=300
    ·have l5:decide ((Ctrl.length:Int)<=300)=false:=by simp;omega
     go_wp2_with fail
     go_ret
     exact Says.no HB.out
    have e5:=Classical.not_not.1 e5
    have l5:decide ((Ctrl.length:Int)<=300)=true:=by simp;omega
    by_cases e6:¬ CtrlI.length<=300
    ·have l6:decide ((CtrlI.length:Int)<=300)=false:=by simp;omega
     go_wp2_with fail
     go_ret
     exact Says.no HB.out
    have e6:=Classical.not_not.1 e6
    have l6:decide ((CtrlI.length:Int)<=300)=true:=by simp;omega
    have HL:=jh (HK2.out e0 e1 e2 e3 e4 e5 e6)
    go_wp2_with fail
    go_ret
    exact Says.yes HB.out HL.out
   ·have hdk:decide ((k:Int)<(C.length:Int))=true:=by simp;omega
    have hdn:decide (k<C.length)=true:=by simp;omega
    have hd6:decide ((k:Int)<6)=false:=by simp;omega
    clear HD hgo
    by_cases e0:¬ E.length<=50
    ·have l0:decide ((E.length:Int)<=50)=false:=by simp;omega
     go_wp2_with fail
     go_ret
     exact Says.no HB.out
    have e0:=Classical.not_not.1 e0
    have l0:decide ((E.length:Int)<=50)=true:=by simp;omega
    by_cases e1:¬ R.length<=60
    ·have l1:decide ((R.length:Int)<=60)=false:=by simp;omega
     go_wp2_with fail
     go_ret
     exact Says.no HB.out
    have e1:=Classical.not_not.1 e1
    have l1:decide ((R.length:Int)<=60)=true:=by simp;omega
    by_cases e2:¬ C.length<=6
    ·have l2:decide ((C.length:Int)<=6)=false:=by simp;omega
     go_wp2_with fail
     go_ret
     exact Says.no HB.out
    have e2:=Classical.not_not.1 e2
    exact absurd e2 (by omega)
end
section
namespace RelA
theorem Yef {g:Gr} (c:CheckOk g) (i:Nat) (hi:i<g.E.length) :
  0<=(Ev.at g.E i).th/\((Ev.at g.E i).kd=2->(Ev.at g.E i).md=0∨(Ev.at g.E i).md=2)/\((Ev.at g.E i).kd=1->(Ev.at g.E i).md=0∨(Ev.at g.E i).md=1):=by
 have h:=(c.at_ i hi).1
 unfold Zk6 Zt5 at h
 split at h
 ·simp only[Bool.and_eq_true,beq_iff_eq] at h
  obtain⟨⟨⟨⟨⟨h1,h2⟩,h3⟩,_⟩,_⟩,_⟩:=h
  exact⟨by omega,fun _=>.inl h3,fun e=>by omega⟩
 ·split at h
  ·cases h
  ·rename_i hn
   simp only[Bool.or_eq_true,decide_eq_true_eq,Bool.and_eq_true,not_or,not_and] at hn
   split at h
   ·rename_i h1
    simp only[beq_iff_eq,Bool.and_eq_true,Bool.or_eq_true] at h1 h
    exact⟨by omega,fun e=>by omega,fun _=>h.2⟩
   ·split at h
    ·rename_i h1
     simp only[beq_iff_eq,Bool.and_eq_true,Bool.or_eq_true] at h1 h
     exact⟨by omega,fun _=>h.2,fun e=>by omega⟩
    ·split at h
     ·rename_i h1
      simp only[beq_iff_eq] at h1
      exact⟨by omega,fun e=>by omega,fun e=>by omega⟩
     ·cases h
theorem Zym {g:Gr} (c:CheckOk g):Ynv g.E:=fun i=>by
 by_cases hi:i<g.E.length
 ·exact(Yef c i hi).1
 ·unfold Ev.at
  rw[List.getD_eq_getElem?_getD,List.getElem?_eq_none (by omega)]
  exact Int.le_refl _
theorem Zlf {g:Gr} (c:CheckOk g):GOk g:=⟨by have:=c.clen;have:=c.l4;omega,fun q hq=>by have:=(c.co q hq).len;have:=Zmr g.E q g.E.length;have:=c.n40;omega⟩
theorem Zum {g:Gr} (c:CheckOk g):ROk g:=by
 refine⟨c.rlen,fun i hi=>?_,fun l hl i hi=>?_⟩
 ·have hi2:i<g.E.length:=by rw[<- c.rlen];exact hi
  obtain⟨h1,h2⟩:=(c.at_ i hi2).2
  by_cases e:(Ev.at g.E i).kd=1
  ·obtain⟨m,h3,h4,_⟩:=h1 e
   rw[h3];unfold Gr.n;omega
  ·rw[h2 e];unfold Gr.n;omega
 ·obtain⟨m,h3,h4,_⟩:=(c.co l hl).at_ i hi
  rw[h3];unfold Gr.n;omega
theorem Yld {w:World} {g:Gr} (h:GInA w g) (f:FewOk g) (c:CheckOk g) (he:g.E.length<=g.ec) (hc:g.C.length<=g.cc):GIn w g:=
 ⟨h.es,h.rf,h.co,h.rmw,h.data,h.ctrl,h.ctrli,c.n40,he,f.r60,f.c6,f.l50,f.m50,f.d300,f.t300,f.i300,hc⟩
theorem Ze7 {n:Nat} {p q:Nat->Bool} (h:∀ i,i<n->p i=q i):Zg7 n p=Zg7 n q:=by
 funext i j
 unfold Zg7
 by_cases e:i<n
 ·rw[h i e]
 ·simp[e]
theorem Yj1 (a x:Int):Zyf [a] x=(a==x):=by unfold Zyf;simp
end RelA
end
section
namespace RelA
def exB (e:Ev):Bool:=(e.kd==1)&&e.ex
noncomputable def Yrz (g:Gr):Nat->Nat->Bool:=orM (orM (ofM g.n g.Data) (ofM g.n g.Ctrl)) (Zax (Zg7 g.n fun i=>exB (Ev.at g.E i)) (poM g.E))
end RelA
end
end Go.Proofs.YthcnhbclagegeaaGreatDoor
