/-
  What the functions that the law reaches do, one by one: contracts. Conditions: those that each of them prints.
-/
import Derived.Test.YthcnhbclagegeaaGreatDoorMp
import Derived.BigRegion
import Derived.Deep.QuietTactic
import Derived.BigQuiet
set_option maxRecDepth 20000
set_option maxHeartbeats 20000000
namespace Go.Proofs.YthcnhbclagegeaaGreatDoor
open Go.RowKit RelA
section
theorem Zro (a:Option Addr) (L:List (Int×Int)) (c:Nat) (w:World) (h:PIn w a L c) (hl:L.length<=400) (hp:Zd5 L) :
  Calls Tryz.prog 58 #[.slice a L.length c] w fun e w'=>e=.returned (.bool true)/\Below w.heap.size w w':=by
 have HI:=jh h
 have HP:=jh hp
 clear h hp
 go_enter Tryz.func58,Tryz.ntmps58
 go_wp2_with fail
 go_loopw [3] (fun v wr=>Below w.heap.size w wr/\∃ k:Nat,1<=k/\k<=L.length+1/\v=.int .i64 k) (fun v _=>L.length+1-(intOf v).toNat)
 case atStart=>exact⟨Below.refl _ _,1,by omega,by omega,rfl⟩
 case round=>
  obtain⟨hbe,k,hk1,hk,rfl⟩:=hrel
  by_cases hlt:k<L.length
  ·have hdk:decide ((k:Int)<(L.length:Int))=true:=by simp;omega
   have hki:(k:Int)<(L.length:Int):=by omega
   have hk9:(k:Int)<1000:=by omega
   have hsub:(k:Int)-1=((k-1:Nat):Int):=by omega
   have hsb2:((k-1:Nat):Int)<(L.length:Int):=by omega
   have hsb3:(0:Int)<=((k-1:Nat):Int):=by omega
   have hx:=HP.out k hk1 hlt
   rcases HI.out.next hbe with⟨_,h0,_⟩ | ⟨_,_,h0⟩ | ⟨b,o,rfl,hbl,hcc⟩
   ·rw[h0] at hlt;simp at hlt
   ·rw[h0] at hlt;simp at hlt
   ·obtain⟨d0,d1⟩:=hcc k hlt
    obtain⟨q0,q1⟩:=hcc (k-1) (by omega)
    have HB:=jh (Zar hbe)
    clear hcc
    generalize L.getD k (0,0)=p at *
    generalize L.getD (k-1) (0,0)=q at *
    obtain⟨p0,p1⟩:=p
    obtain⟨r0,r1⟩:=q
    dsimp only at d0 d1 q0 q1
    unfold Zt0 at hx
    dsimp only at hx
    by_cases e1:p0<r0
    ·have l1:decide (p0<r0)=true:=by simp[e1]
     exfalso;omega
    ·have l1:decide (p0<r0)=false:=by simp[e1]
     by_cases e2:p0=r0
     ·subst e2
      have l2:(p0==p0)=true:=by simp
      by_cases e3:p1<=r1
      ·have l3:decide (p1<=r1)=true:=by simp[e3]
       exfalso;omega
      ·have l3:decide (p1<=r1)=false:=by simp[e3]
       clear hx
       go_wp2_with fail
       go_quiet (fail)
       go_wp2_with fail
       go_roundw
       case rel=>exact⟨HB.out _,k+1,by omega,by omega,by go_num⟩
       case measure=>simp[intOf];omega
     ·have l2:(p0==r0)=false:=by simp[e2]
      clear hx
      go_wp2_with fail
      go_quiet (fail)
      go_wp2_with fail
      go_roundw
      case rel=>exact⟨HB.out _,k+1,by omega,by omega,by go_num⟩
      case measure=>simp[intOf];omega
  ·have hdk:decide ((k:Int)<(L.length:Int))=false:=by simp;omega
   have HB:=jh hbe
   go_wp2_with fail
   go_ret
   exact⟨rfl,HB.out⟩
theorem Zvb (g:Gr) (a:Option Addr) (L:List (Int×Int)) (c:Nat) (w:World) (hes:EsIn w g.ea g.E) (he:g.E.length<=100) (h:PIn w a L c) (hl:L.length<=400) (hp:Zdq g.E L) :
  Calls Tryz.prog 20 #[g.v,.slice a L.length c] w fun e w'=>e=.returned (.bool true)/\Below w.heap.size w w':=by
 have HR:=jh (fun w' (hb:Below w.heap.size w w')=>Zro a L c w' (h.next hb) hl hp.2)
 have HP:=jh hp.1
 clear hp
 have HG0:=jh (GBox.of_alloc w g 27)
 obtain⟨G,hG⟩:∃ G,G=g:=⟨_,rfl⟩
 obtain⟨locs,ea,E,ec,ra,R,rc,ca,C,cc,ma,Rmw,mc,da,Data,dc,ta,Ctrl,tc,ia,CtrlI,ic⟩:=g
 simp only[Gr.v,Zaw] at hes he HG0 HP ⊢
 rw[<- hG] at HG0
 have HI:=jh h
 have HES:=jh hes
 clear h hes
 go_enter Tryz.func20,Tryz.ntmps20
 go_wp2_with fail
 obtain⟨w1,hw1⟩:∃ x,x=w.alloc (Obj.cells #[.int .i64 locs,.slice ea E.length ec,.slice ra R.length rc,.slice ca C.length cc,.slice ma Rmw.length mc,.slice da Data.length dc,.slice ta Ctrl.length tc,.slice ia CtrlI.length ic] 27 (0,0)):=⟨_,rfl⟩
 rw[<- hw1] at HG0 ⊢
 have hs1:w1.heap.size=w.heap.size+1:=by rw[hw1];simp
 have HB1:Hid (Below w.heap.size w w1):=jh (by rw[hw1];exact jb)
 clear hw1
 have HI1:=jh (HI.out.next HB1.out)
 have HE1:=jh (HES.out.next HB1.out)
 clear HI HES hs1
 go_loopw [5] (fun v wr=>Below w1.heap.size w1 wr/\∃ k:Nat,k<=L.length/\v=.int .i64 k) (fun v _=>L.length-(intOf v).toNat)
 case atStart=>exact⟨Below.refl _ _,0,by omega,rfl⟩
 case round=>
  obtain⟨hbe,k,hk,rfl⟩:=hrel
  have HBE:=jh hbe
  obtain⟨c0,c1,c2,c3,c4,c5,c6,c7⟩:=HG0.out.next hbe
  rw[hG] at c0 c1 c2 c3 c4 c5 c6 c7
  dsimp only at c0 c1 c2 c3 c4 c5 c6 c7
  clear c0 c2 c3 c4 c5 c6 c7
  by_cases hlt:k<L.length
  ·have hdk:decide ((k:Int)<(L.length:Int))=true:=by simp;omega
   have hki:(k:Int)<(L.length:Int):=by omega
   have hk9:(k:Int)<1000:=by omega
   have hx:=HP.out k hlt
   rcases HI1.out.next hbe with⟨_,h0,_⟩ | ⟨_,_,h0⟩ | ⟨b,o,rfl,hbl,hcc⟩
   ·rw[h0] at hlt;simp at hlt
   ·rw[h0] at hlt;simp at hlt
   ·obtain⟨p0,p1⟩:=hcc k hlt
    have HB:=jh (Zar (Zab HB1.out hbe.drew))
    have HBD:=jh (Zar hbe)
    clear hcc
    generalize L.getD k (0,0)=p at *
    obtain⟨x,y⟩:=p
    dsimp only at p0 p1
    obtain⟨m,n,hxy,hmn,hn,hk1,ht1⟩:=hx
    obtain⟨rfl,rfl⟩:=Prod.mk.inj hxy
    clear hxy
    have l1:decide ((m:Int)<0)=false:=by simp<;>omega
    have l2:decide ((n:Int)<=(m:Int))=false:=by simp<;>omega
    have l3:decide ((E.length:Int)<=(n:Int))=false:=by simp<;>omega
    have hm:m<E.length:=by omega
    have hmi:(m:Int)<(E.length:Int):=by omega
    have hni:(n:Int)<(E.length:Int):=by omega
    have l2n:decide (n<=m)=false:=by simp<;>omega
    have l3n:decide (E.length<=n)=false:=by simp<;>omega
    rcases HE1.out.next hbe with h0 | ⟨eb,eo,rfl,hebl,hecc⟩
    ·rw[h0] at hm;simp at hm
    ·obtain⟨d0,d1,d2,d3,d4,d5⟩:=hecc m hm
     obtain⟨f0,f1,f2,f3,f4,f5⟩:=hecc n hn
     clear hecc HBE hbe
     change _=some (Value.int _ (Ev.at E m).th) at d0
     change _=some (Value.int _ (Ev.at E m).kd) at d1
     change _=some (Value.int _ (Ev.at E n).th) at f0
     clear d2 d3 d4 d5 f1 f2 f3 f4 f5
     generalize Ev.at E m=ev at *
     generalize Ev.at E n=fv at *
     obtain⟨x0,x1,x2,x3,x4,x5⟩:=ev
     obtain⟨y0,y1,y2,y3,y4,y5⟩:=fv
     dsimp only at d0 d1 f0 hk1 ht1
     subst hk1
     subst ht1
     have l5:(x0==x0)=true:=by simp
     go_wp2_with fail
     go_region
     go_wp2_with fail
     go_quiet (fail)
     go_wp2_with fail
     go_roundw
     case rel=>exact⟨HBD.out _,k+1,by omega,by go_num⟩
     case measure=>simp[intOf];omega
  ·have hdk:decide ((k:Int)<(L.length:Int))=false:=by simp<;>omega
   have HB:=jh (Zab HB1.out hbe)
   clear hbe HBE
   go_wp2_with fail
   refine(HR.out _ HB.out).mono ?_
   rintro e wn ⟨rfl,hbn⟩
   have HBN:=jh (Zab HB.out hbn)
   clear hbn
   go_wp2_with fail
   go_ret
   exact⟨rfl,HBN.out⟩
end
section
theorem Yw8 (g:Gr) (i:Nat) (w:World) (hes:EsIn w g.ea g.E) (hr:NsIn w g.ra g.R) (hi:i<g.E.length) (he:g.E.length<=100) (hle:g.E.length<=g.R.length) (hp:Zlz g.E i (g.R.getD i 0)) :
  Calls Tryz.prog 17 #[g.v,.int .i64 i] w fun e w'=>e=.returned (.bool true)/\Below w.heap.size w w':=by
 have HG0:=jh (GBox.of_alloc w g 27)
 obtain⟨G,hG⟩:∃ G,G=g:=⟨_,rfl⟩
 obtain⟨locs,ea,E,ec,ra,R,rc,ca,C,cc,ma,Rmw,mc,da,Data,dc,ta,Ctrl,tc,ia,CtrlI,ic⟩:=g
 simp only[Gr.v,Zaw] at hes hr hi he hle HG0 hp ⊢
 rw[<- hG] at HG0
 have hii:(i:Int)<(E.length:Int):=by omega
 have hii2:(i:Int)<(R.length:Int):=by omega
 have hir:i<R.length:=by omega
 have hi9:(i:Int)<100:=by omega
 have HES:=jh hes
 have HR:=jh hr
 have HP:=jh hp
 clear hp
 clear hes hr hle
 go_enter Tryz.func17,Tryz.ntmps17
 go_wp2_with fail
 obtain⟨w1,hw1⟩:∃ x,x=w.alloc (Obj.cells #[.int .i64 locs,.slice ea E.length ec,.slice ra R.length rc,.slice ca C.length cc,.slice ma Rmw.length mc,.slice da Data.length dc,.slice ta Ctrl.length tc,.slice ia CtrlI.length ic] 27 (0,0)):=⟨_,rfl⟩
 rw[<- hw1] at HG0 ⊢
 have hs1:w1.heap.size=w.heap.size+1:=by rw[hw1];simp
 have HB1:Hid (Below w.heap.size w w1):=jh (by rw[hw1];exact jb)
 clear hw1
 have HE1:=HES.out.next HB1.out
 have HR1:=HR.out.next HB1.out
 obtain⟨c0,c1,c2,c3,c4,c5,c6,c7⟩:=HG0.out
 rw[hG] at c0 c1 c2 c3 c4 c5 c6 c7
 dsimp only at c0 c1 c2 c3 c4 c5 c6 c7
 clear hs1 HES HR c0 c3 c4 c5 c6 c7 HG0
 rcases HE1 with h0 | ⟨eb,eo,rfl,hebl,hecc⟩
 ·rw[h0] at hi;simp at hi
 ·rcases HR1 with h0 | ⟨rb,ro,rfl,hrbl,hrcc⟩
  ·rw[h0] at hir;simp at hir
  ·obtain⟨d0,d1,d2,d3,d4,d5⟩:=hecc i hi
   have r0:=hrcc i hir
   have HEC:=jh hecc
   clear hecc hrcc
   change _=some (Value.int _ (Ev.at E i).th) at d0
   change _=some (Value.int _ (Ev.at E i).kd) at d1
   change _=some (Value.int _ (Ev.at E i).md) at d2
   change _=some (Value.int _ (Ev.at E i).lc) at d3
   change _=some (Value.int _ (Ev.at E i).vl) at d4
   change _=some (Value.bool (Ev.at E i).ex) at d5
   obtain⟨hp1,hp2⟩:=HP.out
   clear HP
   generalize R.getD i 0=r at *
   obtain⟨ev,hev⟩:∃ ev,ev=Ev.at E i:=⟨_,rfl⟩
   rw[<- hev] at d0 d1 d2 d3 d4 d5 hp1 hp2
   clear hev
   obtain⟨x0,x1,x2,x3,x4,x5⟩:=ev
   dsimp only at d0 d1 d2 d3 d4 d5 hp1 hp2
   have z1:∀ o,Below w1.heap.size w1 (w1.alloc o):=fun o=>(Below.refl _ _).alloc (Nat.le_refl _) o
   have c1z:=fun o=>Zaa c1 (z1 o)
   have c2z:=fun o=>Zaa c2 (z1 o)
   have r0z:=fun o=>Zaa r0 (z1 o)
   have d0z:=fun o=>Zaa d0 (z1 o)
   have d1z:=fun o=>Zaa d1 (z1 o)
   have d2z:=fun o=>Zaa d2 (z1 o)
   have d3z:=fun o=>Zaa d3 (z1 o)
   have d4z:=fun o=>Zaa d4 (z1 o)
   have d5z:=fun o=>Zaa d5 (z1 o)
   have HZ:=jh (fun o=>Zab HB1.out (z1 o))
   clear z1 HB1
   have HZZ:=jh (fun o o'=>Zab (HZ.out o) ((Below.refl _ _).alloc (Nat.le_refl _) o'))
   have HZD:=jh (fun o=>(HZ.out o).drew)
   by_cases e1:x1=1
   ·subst e1
    obtain⟨m,rfl,hm,hk2,hl2,hv2⟩:=hp1 rfl
    clear hp1 hp2
    have l2:decide ((m:Int)<0)=false:=by simp<;>omega
    have l3:decide ((E.length:Int)<=(m:Int))=false:=by simp<;>omega
    have hmi:(m:Int)<(E.length:Int):=by omega
    obtain⟨f0,f1,f2,f3,f4,f5⟩:=HEC.out m hm
    clear HEC
    change _=some (Value.int _ (Ev.at E m).th) at f0
    change _=some (Value.int _ (Ev.at E m).kd) at f1
    change _=some (Value.int _ (Ev.at E m).md) at f2
    change _=some (Value.int _ (Ev.at E m).lc) at f3
    change _=some (Value.int _ (Ev.at E m).vl) at f4
    change _=some (Value.bool (Ev.at E m).ex) at f5
    generalize Ev.at E m=fv at *
    obtain⟨y0,y1,y2,y3,y4,y5⟩:=fv
    dsimp only at f0 f1 f2 f3 f4 f5 hk2 hl2 hv2
    subst hk2
    subst hl2
    subst hv2
    have z1:∀ o,Below w1.heap.size w1 (w1.alloc o):=fun o=>(Below.refl _ _).alloc (Nat.le_refl _) o
    have f0z:=fun o=>Zaa f0 (z1 o)
    have f1z:=fun o=>Zaa f1 (z1 o)
    have f2z:=fun o=>Zaa f2 (z1 o)
    have f3z:=fun o=>Zaa f3 (z1 o)
    have f4z:=fun o=>Zaa f4 (z1 o)
    have f5z:=fun o=>Zaa f5 (z1 o)
    have HQ:Hid (∀ o o',Below w.heap.size w ((w1.alloc o).drew.alloc o')):=jh (fun o o'=>Zab (HZD.out o) ((Below.refl _ _).alloc (Nat.le_refl _) o'))
    clear z1
    have l5:(y3==y3)=true:=by simp
    have l6:(y4==y4)=true:=by simp
    go_wp2_with fail
    go_region
    go_wp2_with fail
    go_ret
    exact⟨rfl,HQ.out _ _⟩
   ·have l1:(x1==1)=false:=by simp[e1]
    obtain rfl:=hp2 e1
    clear hp1 hp2 HEC
    go_wp2_with fail
    go_region
    go_wp2_with fail
    go_ret
    exact⟨rfl,HZD.out _⟩
end
section
theorem Xbs (g:Gr) (t:Nat) (w:World) (hes:EsIn w g.ea g.E) (hco:LsIn w g.ca g.C) (ht:t<g.C.length) (he:g.E.length<=100) (hc9:g.C.length<=10) (hl:∀ q,q<g.C.length->(g.C.getD q Ls.zero).L.length<=100) (hp:CoOk g.E t (g.C.getD t Ls.zero).L) :
  Calls Tryz.prog 18 #[g.v,.int .i64 t] w fun e w'=>e=.returned (.bool true)/\Below w.heap.size w w':=by
 have HG0:=jh (GBox.of_alloc w g 27)
 obtain⟨G,hG⟩:∃ G,G=g:=⟨_,rfl⟩
 obtain⟨locs,ea,E,ec,ra,R,rc,ca,C,cc,ma,Rmw,mc,da,Data,dc,ta,Ctrl,tc,ia,CtrlI,ic⟩:=g
 simp only[Gr.v,Zaw] at hes hco ht he hc9 hl HG0 hp ⊢
 rw[<- hG] at HG0
 have hti:(t:Int)<(C.length:Int):=by omega
 have ht9:(t:Int)<100:=by omega
 have hl1:=hl t ht
 clear hl
 have HES:=jh hes
 clear hes
 rcases hco with h0 | ⟨cb,cx,hca,hcbl,hccc⟩
 ·rw[h0] at ht;simp at ht
 obtain⟨s0,sN,sC⟩:=hccc t ht
 clear hccc
 generalize C.getD t Ls.zero=l at *
 obtain⟨la,L,lc⟩:=l
 dsimp only at s0 sN sC hl1 hp ⊢
 have HP:=jh hp
 clear hp
 have HSN:=jh sN
 clear sN
 have c3:=HG0.out.c3
 rw[hG] at c3
 dsimp only at c3
 have s0z:=Zaa s0 ((Below.refl _ _).alloc (Nat.le_refl _) (Obj.cells #[.int .i64 locs,.slice ea E.length ec,.slice ra R.length rc,.slice ca C.length cc,.slice ma Rmw.length mc,.slice da Data.length dc,.slice ta Ctrl.length tc,.slice ia CtrlI.length ic] 27 (0,0)))
 subst hca
 go_enter Tryz.func18,Tryz.ntmps18
 go_wp2_with fail
 clear c3 s0z s0
 obtain⟨w1,hw1⟩:∃ x,x=w.alloc (Obj.cells #[.int .i64 locs,.slice ea E.length ec,.slice ra R.length rc,.slice (some ⟨cb,cx,none⟩) C.length cc,.slice ma Rmw.length mc,.slice da Data.length dc,.slice ta Ctrl.length tc,.slice ia CtrlI.length ic] 27 (0,0)):=⟨_,rfl⟩
 rw[<- hw1] at HG0 ⊢
 have hs1:w1.heap.size=w.heap.size+1:=by rw[hw1];simp
 have HB1:Hid (Below w.heap.size w w1):=jh (by rw[hw1];exact jb)
 clear hw1
 have HE1:=jh (HES.out.next HB1.out)
 have HL1:=jh (HSN.out.next HB1.out)
 clear HSN HES hs1
 go_loopw [6,7] (fun nv v wr=>Below w1.heap.size w1 wr/\∃ k:Nat,k<=E.length/\v=.int .i64 k/\nv=.int .i64 (Zix E t k)) (fun _ v _=>E.length-(intOf v).toNat)
 case atStart=>exact⟨Below.refl _ _,0,by omega,rfl,rfl⟩
 case round=>
  obtain⟨hbe,k,hk,rfl,rfl⟩:=hrel
  obtain⟨c0,c1,c2,c3,c4,c5,c6,c7⟩:=HG0.out.next hbe
  rw[hG] at c0 c1 c2 c3 c4 c5 c6 c7
  dsimp only at c0 c1 c2 c3 c4 c5 c6 c7
  clear c0 c2 c3 c4 c5 c6 c7
  have hcl:=Zmr E t k
  by_cases hlt:k<E.length
  ·have hdk:decide ((k:Int)<(E.length:Int))=true:=by simp;omega
   have hki:(k:Int)<(E.length:Int):=by omega
   have hk9:(k:Int)<1000:=by omega
   have hst:Zix E t (k+1)=Zix E t k+(if (Ev.at E k).kd=2/\(Ev.at E k).lc=t then 1 else 0):=rfl
   rcases HE1.out.next hbe with h0 | ⟨eb,eo,rfl,hebl,hecc⟩
   ·rw[h0] at hlt;simp at hlt
   ·obtain⟨d0,d1,d2,d3,d4,d5⟩:=hecc k hlt
    clear hecc
    change _=some (Value.int _ (Ev.at E k).th) at d0
    change _=some (Value.int _ (Ev.at E k).kd) at d1
    change _=some (Value.int _ (Ev.at E k).md) at d2
    change _=some (Value.int _ (Ev.at E k).lc) at d3
    change _=some (Value.int _ (Ev.at E k).vl) at d4
    change _=some (Value.bool (Ev.at E k).ex) at d5
    generalize Ev.at E k=ev at *
    obtain⟨x0,x1,x2,x3,x4,x5⟩:=ev
    dsimp only at d0 d1 d2 d3 d4 d5 hst
    clear d0 d2 d4 d5
    obtain⟨N,hN⟩:∃ N,N=Zix E t k:=⟨_,rfl⟩
    rw[<- hN] at hst hcl ⊢
    clear hN
    have hN9:(N:Int)<1000:=by omega
    by_cases e1:x1=2
    ·subst e1
     by_cases e2:x3=t
     ·subst e2
      have l2:((t:Int)==(t:Int))=true:=by simp
      rw[if_pos ⟨rfl,rfl⟩] at hst
      have HST:=jh hst
      clear hst
      go_wp2_with fail
      go_roundw
      case rel=>exact⟨hbe,k+1,by omega,by go_num,by rw[HST.out];go_num⟩
      case measure=>simp[intOf];omega
     ·have l2:(x3==(t:Int))=false:=by simp[e2]
      rw[if_neg (fun a=>e2 a.2)] at hst
      have HST:=jh hst
      clear hst
      go_wp2_with fail
      go_roundw
      case rel=>exact⟨hbe,k+1,by omega,by go_num,by rw[HST.out];rfl⟩
      case measure=>simp[intOf];omega
    ·have l1:(x1==2)=false:=by simp[e1]
     rw[if_neg (fun a=>e1 a.1)] at hst
     have HST:=jh hst
     clear hst
     go_wp2_with fail
     go_roundw
     case rel=>exact⟨hbe,k+1,by omega,by go_num,by rw[HST.out];rfl⟩
     case measure=>simp[intOf];omega
  ·have hdk:decide ((k:Int)<(E.length:Int))=false:=by simp;omega
   have hke:k=E.length:=by omega
   rw[hke] at hcl
   obtain⟨hpa,hpn,hpl,hpp,hpf⟩:=HP.out
   clear HP
   have HPA:=jh hpa
   have HPN:=jh hpn
   have HPF:=jh hpf
   have HPP:=jh hpp
   clear hpa hpn hpf hpp
   rw[<- hke] at hpl
   have HPL:Hid (L.length=Zix E t E.length):=jh (by rw[hpl,hke])
   clear hpl
   rw[hke]
   generalize Zix E t E.length=N at *
   have hN9:(N:Int)<1000:=by omega
   clear hke
   go_wp2_with fail
   clear c1
   go_loopw [8] (fun v wi=>Below w1.heap.size w1 wi/\∃ i:Nat,i<=L.length/\v=.int .i64 i) (fun v _=>L.length-(intOf v).toNat)
   case atStart=>exact⟨hbe,0,by omega,rfl⟩
   case round=>
    obtain⟨hbi,i,hi,rfl⟩:=hrel
    clear hbe hdk hk
    by_cases hil:i<L.length
    ·have hdi:decide ((i:Int)<(L.length:Int))=true:=by simp;omega
     have hii:(i:Int)<(L.length:Int):=by omega
     have hi9:(i:Int)<1000:=by omega
     obtain⟨c0,c1,c2,c3,c4,c5,c6,c7⟩:=HG0.out.next hbi
     rw[hG] at c0 c1 c2 c3 c4 c5 c6 c7
     dsimp only at c0 c1 c2 c3 c4 c5 c6 c7
     clear c0 c2 c3 c4 c5 c6 c7
     rcases HL1.out.next hbi with h0 | ⟨lb,lo,rfl,hlbl,hlcc⟩
     ·rw[h0] at hil;simp at hil
     ·have r0:=hlcc i hil
      clear hlcc hlbl
      have HB:=jh (Zar (Zab HB1.out hbi))
      have HBI:=jh (Zar hbi)
      obtain⟨r,hr⟩:∃ r,r=L.getD i 0:=⟨_,rfl⟩
      rw[<- hr] at r0
      obtain⟨m,hrm,hm,hk2,hl2⟩:=HPA.out i hil
      rw[<- hr] at hrm
      clear hr
      subst hrm
      have l1:decide ((m:Int)<0)=false:=by simp<;>omega
      have l2:decide ((E.length:Int)<=(m:Int))=false:=by simp;omega
      have hmi:(m:Int)<(E.length:Int):=by omega
      have l2n:decide (E.length<=m)=false:=by simp;omega
      rcases HE1.out.next hbi with h0 | ⟨eb,eo,rfl,hebl,hecc⟩
      ·rw[h0] at hm;simp at hm
      ·obtain⟨d0,d1,d2,d3,d4,d5⟩:=hecc m hm
       clear hecc hebl hbi
       change _=some (Value.int _ (Ev.at E m).kd) at d1
       change _=some (Value.int _ (Ev.at E m).lc) at d3
       generalize Ev.at E m=ev at *
       obtain⟨x0,x1,x2,x3,x4,x5⟩:=ev
       dsimp only at d1 d3 hk2 hl2
       clear d0 d2 d4 d5
       subst hk2
       subst hl2
       have l4:((t:Int)==(t:Int))=true:=by simp
       go_wp2_with fail
       go_quiet (fail)
       go_wp2_with fail
       clear c1 r0 d1 d3
       go_loopw [9] (fun v wj=>Below w1.heap.size w1 wj/\∃ q:Nat,q<=i/\v=.int .i64 q) (fun v _=>i-(intOf v).toNat)
       case atStart=>exact⟨HBI.out _,0,by omega,rfl⟩
       case round=>
        obtain⟨hbj,q,hq,rfl⟩:=hrel
        by_cases hqi:q<i
        ·have hdq:decide ((q:Int)<(i:Int))=true:=by simp;omega
         have hqL:q<L.length:=by omega
         have hqi2:(q:Int)<(L.length:Int):=by omega
         have hq9:(q:Int)<1000:=by omega
         rcases HL1.out.next hbj with h0 | ⟨lb2,lo2,hla,hlbl,hlcc⟩
         ·rw[h0] at hil;simp at hil
         ·obtain⟨rfl,rfl⟩:lb=lb2/\lo=lo2:=by simpa using hla
          have r0:=hlcc i hil
          have u0:=hlcc q hqL
          clear hlcc hlbl hla
          have HBJ:=jh (Zar hbj)
          clear hbj
          have l5:(L.getD q 0==L.getD i 0)=false:=beq_eq_false_iff_ne.2 (HPN.out i hil q hqi)
          obtain⟨y,hy⟩:∃ y,y=L.getD q 0:=⟨_,rfl⟩
          obtain⟨z,hz⟩:∃ z,z=L.getD i 0:=⟨_,rfl⟩
          rw[<- hy] at u0 l5
          rw[<- hz] at r0 l5
          clear hy hz
          go_wp2_with fail
          go_quiet (fail)
          go_wp2_with fail
          go_roundw
          case rel=>exact⟨HBJ.out _,q+1,by omega,by go_num⟩
          case measure=>simp[intOf];omega
        ·have hdq:decide ((q:Int)<(i:Int))=false:=by simp;omega
         go_wp2_with fail
         go_roundw
         case rel=>exact⟨hbj,i+1,by omega,by go_num⟩
         case measure=>simp[intOf];omega
    ·have hdi:decide ((i:Int)<(L.length:Int))=false:=by simp;omega
     have HB:=jh (Zab HB1.out hbi)
     have hlN:=HPL.out
     have e1:(L.length:Int)=(N:Int):=by rw[hlN]
     have l1:((L.length:Int)==(N:Int))=true:=by simp[e1]
     have hl0:0<L.length:=HPP.out
     have l2:decide ((0:Int)<(N:Int))=true:=by simp;omega
     have hl0i:(0:Int)<(L.length:Int):=by omega
     clear hlN
     rcases HL1.out.next hbi with h0 | ⟨lb,lo,rfl,hlbl,hlcc⟩
     ·rw[h0] at hl0;simp at hl0
     ·have r0:=hlcc 0 hl0
      rw[Nat.add_zero] at r0
      clear hlcc hlbl hbi
      rw[HPF.out] at r0
      have l3:((t:Int)==(t:Int))=true:=by simp
      go_wp2_with fail
      go_ret
      exact⟨rfl,HB.out⟩
end
section
theorem Ypt (g:Gr) (w:World) (hes:EsIn w g.ea g.E) (he:g.E.length<=40) (h:PIn w g.ma g.Rmw g.mc) (hl:g.Rmw.length<=400) (hp:RmwsOk g.E g.Rmw) :
  Calls Tryz.prog 19 #[g.v] w fun e w'=>e=.returned (.bool true)/\Below w.heap.size w w':=by
 have HR:=jh (fun w' (hb:Below w.heap.size w w')=>Zro g.ma g.Rmw g.mc w' (h.next hb) hl hp.up)
 have HPA:=jh hp.at_
 have HPX:=jh hp.ex
 clear hp
 have HG0:=jh (GBox.of_alloc w g 27)
 obtain⟨G,hG⟩:∃ G,G=g:=⟨_,rfl⟩
 obtain⟨locs,ea,E,ec,ra,R,rc,ca,C,cc,ma,Rmw,mc,da,Data,dc,ta,Ctrl,tc,ia,CtrlI,ic⟩:=g
 simp only[Gr.v,Zaw] at hes he h hl HR HG0 HPA HPX ⊢
 rw[<- hG] at HG0
 have HI:=jh h
 have HES:=jh hes
 clear h hes
 go_enter Tryz.func19,Tryz.ntmps19
 go_wp2_with fail
 obtain⟨w1,hw1⟩:∃ x,x=w.alloc (Obj.cells #[.int .i64 locs,.slice ea E.length ec,.slice ra R.length rc,.slice ca C.length cc,.slice ma Rmw.length mc,.slice da Data.length dc,.slice ta Ctrl.length tc,.slice ia CtrlI.length ic] 27 (0,0)):=⟨_,rfl⟩
 rw[<- hw1] at HG0 ⊢
 have hs1:w1.heap.size=w.heap.size+1:=by rw[hw1];simp
 have HB1:Hid (Below w.heap.size w w1):=jh (by rw[hw1];exact jb)
 clear hw1
 have HI1:=jh (HI.out.next HB1.out)
 have HE1:=jh (HES.out.next HB1.out)
 have HS1:=jh hs1
 clear HI HES hs1
 go_loopw [4] (fun v wr=>Below w1.heap.size w1 wr/\∃ k:Nat,k<=Rmw.length/\v=.int .i64 k/\NAt wr (w.heap.size+1) (Zdn Rmw k)/\Hid (∀ j,j<k->Zd0 E (Rmw.getD j (0,0)))) (fun v _=>Rmw.length-(intOf v).toNat)
 case atStart=>exact⟨jb,0,by omega,rfl,(by unfold NAt;rw[<- HS1.out];exact heap_alloc_new _ _),jh (fun j _=>by omega)⟩
 case round=>
  obtain⟨hbe,k,hk,rfl,hat,HD⟩:=hrel
  obtain⟨c0,c1,c2,c3,c4,c5,c6,c7⟩:=HG0.out.next hbe
  rw[hG] at c0 c1 c2 c3 c4 c5 c6 c7
  dsimp only at c0 c1 c2 c3 c4 c5 c6 c7
  clear c0 c2 c3 c5 c6 c7
  by_cases hlt:k<Rmw.length
  ·have hdk:decide ((k:Int)<(Rmw.length:Int))=true:=by simp;omega
   have hki:(k:Int)<(Rmw.length:Int):=by omega
   have hk9:(k:Int)<1000:=by omega
   have hE40:(E.length:Int)<=40:=by omega
   have hx:=HPA.out k hlt
   have HS:Hid (Zd0 E (Rmw.getD k (0,0))->∀ j,j<k+1->Zd0 E (Rmw.getD j (0,0))):=jh (fun _ j b=>HPA.out j (by omega))
   rcases HI1.out.next hbe with⟨_,h0,_⟩ | ⟨_,_,h0⟩ | ⟨b,o,rfl,hbl,hcc⟩
   ·rw[h0] at hlt;simp at hlt
   ·rw[h0] at hlt;simp at hlt
   ·obtain⟨p0,p1⟩:=hcc k hlt
    have HB:=jh (Zab HB1.out hbe.drew)
    have HSTEP:=jh (fun m n=>Zo1 Rmw k m n)
    have HLE:=jh (Zms Rmw k)
    clear hcc HD
    generalize Rmw.getD k (0,0)=p at *
    obtain⟨x,y⟩:=p
    have HX0:=jh hx
    clear hx
    dsimp only at p0 p1 HX0
    go_wp2_with fail
    go_region
    clear p0 p1
    have HAT:=jh hat
    have HBE:=jh hbe
    clear hat
    by_cases e1:x<0
    ·have l1:decide (x<0)=true:=by simp[e1]
     obtain⟨m,n,hxy,hnm,hn,_⟩:=HX0.out
     obtain⟨rfl,rfl⟩:=Prod.mk.inj hxy
     exfalso;omega
    ·have l1:decide (x<0)=false:=by simp[e1]
     by_cases e2:(E.length:Int)-1<=x
     ·have l2:decide ((E.length:Int)-1<=x)=true:=by simp;omega
      obtain⟨m,n,hxy,hnm,hn,_⟩:=HX0.out
      obtain⟨rfl,rfl⟩:=Prod.mk.inj hxy
      exfalso;omega
     ·have l2:decide ((E.length:Int)-1<=x)=false:=by simp;omega
      by_cases e3:y=x+1
      ·have l3:(y==x+1)=true:=by simp[e3]
       obtain⟨m,rfl⟩:=Int.eq_ofNat_of_zero_le (show 0<=x by omega)
       obtain⟨n,rfl⟩:=Int.eq_ofNat_of_zero_le (show 0<=y by omega)
       have hnm:n=m+1:=by omega
       have hm:m<E.length:=by omega
       have hn:n<E.length:=by omega
       have hmi:(m:Int)<(E.length:Int):=by omega
       have hni:(n:Int)<(E.length:Int):=by omega
       have hm40:(m:Int)<40:=by omega
       have hn40:(n:Int)<40:=by omega
       have l3n:(n==m+1)=true:=by simp[hnm]
       have HS2:Hid ((Ev.at E m).th=(Ev.at E n).th->(Ev.at E m).kd=1->(Ev.at E n).kd=2->(Ev.at E m).lc=(Ev.at E n).lc->(Ev.at E m).ex=true->(Ev.at E n).ex=true->∀ j,j<k+1->Zd0 E (Rmw.getD j (0,0))):=jh (fun u1 u2 u3 u4 u5 u6=>HS.out ⟨m,n,rfl,hnm,hn,u1,u2,u3,u4,u5,u6⟩)
       have HNM:=jh hnm
       clear hnm e3
       rcases HE1.out.next hbe with h0 | ⟨eb,eo,rfl,hebl,hecc⟩
       ·rw[h0] at hm;simp at hm
       ·obtain⟨d0,d1,d2,d3,d4,d5⟩:=hecc m hm
        obtain⟨f0,f1,f2,f3,f4,f5⟩:=hecc n hn
        clear hecc hebl HS
        have HXE:Hid ((Ev.at E m).th=(Ev.at E n).th/\(Ev.at E m).kd=1/\(Ev.at E n).kd=2/\(Ev.at E m).lc=(Ev.at E n).lc/\(Ev.at E m).ex=true/\(Ev.at E n).ex=true):=by
         obtain⟨m2,n2,hxy,_,_,hall⟩:=HX0.out
         obtain⟨he1,he2⟩:=Prod.mk.inj hxy
         obtain rfl:m=m2:=by omega
         obtain rfl:n=n2:=by omega
         exact jh hall
        clear HX0
        change _=some (Value.int _ (Ev.at E m).th) at d0
        change _=some (Value.int _ (Ev.at E m).kd) at d1
        change _=some (Value.int _ (Ev.at E m).md) at d2
        change _=some (Value.int _ (Ev.at E m).lc) at d3
        change _=some (Value.int _ (Ev.at E m).vl) at d4
        change _=some (Value.bool (Ev.at E m).ex) at d5
        change _=some (Value.int _ (Ev.at E n).th) at f0
        change _=some (Value.int _ (Ev.at E n).kd) at f1
        change _=some (Value.int _ (Ev.at E n).md) at f2
        change _=some (Value.int _ (Ev.at E n).lc) at f3
        change _=some (Value.int _ (Ev.at E n).vl) at f4
        change _=some (Value.bool (Ev.at E n).ex) at f5
        generalize Ev.at E m=ev at *
        generalize Ev.at E n=fv at *
        obtain⟨x0,x1,x2,x3,x4,x5⟩:=ev
        obtain⟨y0,y1,y2,y3,y4,y5⟩:=fv
        dsimp only at d0 d1 d2 d3 d4 d5 f0 f1 f2 f3 f4 f5 HS2 HXE
        have z1:∀ o,Below wr.heap.size wr (wr.alloc o):=fun o=>(Below.refl _ _).alloc (Nat.le_refl _) o
        have z2:∀ o o',Below wr.heap.size wr ((wr.alloc o).alloc o'):=fun o o'=>Zab (z1 o) ((Below.refl _ _).alloc (Nat.le_refl _) o')
        have c1z:=fun o=>Zaa c1 (z1 o)
        have c1zz:=fun o o'=>Zaa c1 (z2 o o')
        have d0z:=fun o=>Zaa d0 (z1 o)
        have d0zz:=fun o o'=>Zaa d0 (z2 o o')
        have d1z:=fun o=>Zaa d1 (z1 o)
        have d1zz:=fun o o'=>Zaa d1 (z2 o o')
        have d2z:=fun o=>Zaa d2 (z1 o)
        have d2zz:=fun o o'=>Zaa d2 (z2 o o')
        have d3z:=fun o=>Zaa d3 (z1 o)
        have d3zz:=fun o o'=>Zaa d3 (z2 o o')
        have d4z:=fun o=>Zaa d4 (z1 o)
        have d4zz:=fun o o'=>Zaa d4 (z2 o o')
        have d5z:=fun o=>Zaa d5 (z1 o)
        have d5zz:=fun o o'=>Zaa d5 (z2 o o')
        have f0z:=fun o=>Zaa f0 (z1 o)
        have f0zz:=fun o o'=>Zaa f0 (z2 o o')
        have f1z:=fun o=>Zaa f1 (z1 o)
        have f1zz:=fun o o'=>Zaa f1 (z2 o o')
        have f2z:=fun o=>Zaa f2 (z1 o)
        have f2zz:=fun o o'=>Zaa f2 (z2 o o')
        have f3z:=fun o=>Zaa f3 (z1 o)
        have f3zz:=fun o o'=>Zaa f3 (z2 o o')
        have f4z:=fun o=>Zaa f4 (z1 o)
        have f4zz:=fun o o'=>Zaa f4 (z2 o o')
        have f5z:=fun o=>Zaa f5 (z1 o)
        have f5zz:=fun o o'=>Zaa f5 (z2 o o')
        have HBZ:=jh (fun o o'=>(Zab (Zab HB1.out hbe) (z2 o o')).drew.drew)
        have HBY:=jh (fun o o'=>(Zab hbe (z2 o o')).drew.drew)
        clear z1 z2 hbe
        have a1:=(Zf0 wr 53 #[.int .i64 x0,.int .i64 x1,.int .i64 x2,.int .i64 x3,.int .i64 x4,.bool x5] #[.int .i64 y0,.int .i64 y1,.int .i64 y2,.int .i64 y3,.int .i64 y4,.bool y5])
        have a2:=(Ze6 wr 53 #[.int .i64 x0,.int .i64 x1,.int .i64 x2,.int .i64 x3,.int .i64 x4,.bool x5] #[.int .i64 y0,.int .i64 y1,.int .i64 y2,.int .i64 y3,.int .i64 y4,.bool y5])
        have b1:=(Zf0 wr 53 #[.int .i64 y0,.int .i64 y1,.int .i64 y2,.int .i64 y3,.int .i64 y4,.bool y5] #[.int .i64 x0,.int .i64 x1,.int .i64 x2,.int .i64 x3,.int .i64 x4,.bool x5])
        have b2:=(Ze6 wr 53 #[.int .i64 y0,.int .i64 y1,.int .i64 y2,.int .i64 y3,.int .i64 y4,.bool y5] #[.int .i64 x0,.int .i64 x1,.int .i64 x2,.int .i64 x3,.int .i64 x4,.bool x5])
        have hxa0:=a1 0
        have hxa1:=a1 1
        have hxa3:=a1 3
        have hxa5:=a1 5
        have hya0:=a2 0
        have hya1:=a2 1
        have hya3:=a2 3
        have hya5:=a2 5
        have hxb0:=b2 0
        have hxb1:=b2 1
        have hxb3:=b2 3
        have hxb5:=b2 5
        have hyb0:=b1 0
        have hyb1:=b1 1
        have hyb3:=b1 3
        have hyb5:=b1 5
        simp only[List.getElem?_toArray,List.getElem?_cons_succ,List.getElem?_cons_zero] at hxa0 hxa1 hxa3 hxa5 hya0 hya1 hya3 hya5 hxb0 hxb1 hxb3 hxb5 hyb0 hyb1 hyb3 hyb5
        clear a1 a2 b1 b2
        as_aux_lemma=>
         go_wp2_with fail
         go_region
         all_goals clear c1z c1zz d0z d0zz d1z d1zz d2z d2zz d3z d3zz d4z d4zz d5z d5zz f0z f0zz f1z f1zz f2z f2zz f3z f3zz f4z f4zz f5z f5zz
         all_goals
          have HNX:=jh (HSTEP.out m n rfl HNM.out)
          obtain⟨u1,u2⟩:=HLE.out m
          obtain⟨v1,v2⟩:=HLE.out n
          have hne:¬ n=m:=by have:=HNM.out;omega
          have hne2:¬ m=n:=fun e=>hne e.symm
          clear HSTEP HLE
          have HW:=fun o o'=>((HAT.out.alloc o).alloc o')
          have ha:=fun o o'=>(HW o o').ci m (by omega)
          have hb:=fun o o'=>(HW o o').ci n (by omega)
          have hfa:=fun o o'=>(HW o o').frozen m
          have hfb:=fun o o'=>(HW o o').frozen n
          have HWW:=jh (fun o o'=>((show NAt ((wr.alloc o).alloc o').drew.drew (w.heap.size+1) _ from HW o o').set m (Zdn Rmw k m+1)).set n (Zdn Rmw k n+1))
          rw[HNX.out] at HWW
          clear HW HNX
          generalize Zdn Rmw k m=u at *
          generalize Zdn Rmw k n=v at *
          have hu9:u<1000:=by omega
          have hv9:v<1000:=by omega
          clear u2 v2
          by_cases q:x0=y0
          rotate_left
          ·exact absurd HXE.out.1 q
          subst q
          have p0:(x0 !=x0)=false:=by simp
          by_cases q:x1=1
          rotate_left
          ·exact absurd HXE.out.2.1 q
          subst q
          have p1:((1:Int)!=1)=false:=by decide
          by_cases q:y1=2
          rotate_left
          ·exact absurd HXE.out.2.2.1 q
          subst q
          have p2:((2:Int)!=2)=false:=by decide
          by_cases q:x3=y3
          rotate_left
          ·exact absurd HXE.out.2.2.2.1 q
          subst q
          have p3:(x3 !=x3)=false:=by simp
          cases x5
          ·exact absurd HXE.out.2.2.2.2.1 (by decide)
          cases y5
          ·exact absurd HXE.out.2.2.2.2.2 (by decide)
          as_aux_lemma=>
           rename_i K1 h1 K0 h0
           show K0 _ _
           refine h0 _ _ ?_
           clear h0
           refine Zrm (B:=w.heap.size+1) (m:=m) (n:=n) (x0:=x0) (x3:=x3) (u:=u) (v:=v) hm40 hn40 hne u1 v1 hu9 hv9 (ha _ _) (hb _ _) (hfa _ _) (hfb _ _) (by first | exact hxa0 | exact hxb0) (by first | exact hxa1 | exact hxb1) (by first | exact hxa3 | exact hxb3) (by first | exact hxa5 | exact hxb5) (by first | exact hya0 | exact hyb0) (by first | exact hya1 | exact hyb1) (by first | exact hya3 | exact hyb3) (by first | exact hya5 | exact hyb5) ?_
           clear HXE ha hb hfa hfb hxa0 hxa1 hxa3 hxa5 hya0 hya1 hya3 hya5 hxb0 hxb1 hxb3 hxb5 hyb0 hyb1 hyb3 hyb5 d0 d1 d2 d3 d4 d5 f0 f1 f2 f3 f4 f5 c1 c4 p0 p1 p2 p3 HBZ HAT HBE l1 l2 l3 l3n e1 e2
           intro W2 HW2
           intros
           refine K1 _ _ ?_
           refine Zrn (k:=k) hk9 ?_
           intros
           go_big_open
           refine And.intro ?_ ?_
           ·(repeat apply Exists.intro)
            exact⟨Zvw hlt HS1 HBY HWW (HS2.out rfl rfl rfl rfl rfl rfl) HW2,rfl⟩
           ·show Rmw.length-(intOf (.int .i64 ((k:Int)+1))).toNat<Rmw.length-(intOf (.int .i64 (k:Int))).toNat
            clear HWW HBY HW2
            simp[intOf]
            omega
      ·obtain⟨m,n,hxy,hnm,hn,_⟩:=HX0.out
       obtain⟨rfl,rfl⟩:=Prod.mk.inj hxy
       exfalso;omega
  ·have hdk:decide ((k:Int)<(Rmw.length:Int))=false:=by simp;omega
   have hke:k=Rmw.length:=by omega
   rw[hke] at hat HD
   have HAT:=jh hat
   have HBE:=jh hbe
   clear hat hke hk
   go_wp2_with fail
   clear c1 c4 hdk hbe
   go_loopw [9] (fun v wi=>Below w1.heap.size w1 wi/\∃ i:Nat,i<=E.length/\v=.int .i64 i/\NAt wi (w.heap.size+1) (Zdn Rmw Rmw.length)/\Hid (∀ j,j<i->Zdn Rmw Rmw.length j<=1/\((Ev.at E j).ex=(Zdn Rmw Rmw.length j==1)))) (fun v _=>E.length-(intOf v).toNat)
   case atStart=>exact⟨HBE.out,0,by omega,rfl,HAT.out,jh (fun j _=>by omega)⟩
   case round=>
    obtain⟨hbi,i,hi,rfl,hat,HQ⟩:=hrel
    clear HAT HBE
    obtain⟨c0,c1,c2,c3,c4,c5,c6,c7⟩:=HG0.out.next hbi
    rw[hG] at c0 c1 c2 c3 c4 c5 c6 c7
    dsimp only at c0 c1 c2 c3 c4 c5 c6 c7
    clear c0 c2 c3 c5 c6 c7
    have HB:=jh (Zar (Zab HB1.out hbi))
    by_cases hil:i<E.length
    ·have hdi:decide ((i:Int)<(E.length:Int))=true:=by simp;omega
     have hii:(i:Int)<(E.length:Int):=by omega
     have hi40:(i:Int)<40:=by omega
     have HS:Hid (Zdn Rmw Rmw.length i<=1->((Ev.at E i).ex=(Zdn Rmw Rmw.length i==1))->∀ j,j<i+1->Zdn Rmw Rmw.length j<=1/\((Ev.at E j).ex=(Zdn Rmw Rmw.length j==1))):=jh (fun hx hy j b=>by
      rcases Nat.lt_succ_iff_lt_or_eq.1 b with e | rfl
      ·exact HQ.out j e
      ·exact⟨hx,hy⟩)
     have HXI:=jh (HPX.out i hil)
     have ha:=hat.ci i (by omega)
     have HAN:=jh (fun nn=>(show NAt (wr.drewN nn) (w.heap.size+1) _ from hat))
     have HBI:=jh (Zar hbi)
     obtain⟨u1,u2⟩:=Zms Rmw Rmw.length i
     clear hat HQ
     generalize Zdn Rmw Rmw.length i=u at *
     rcases HE1.out.next hbi with h0 | ⟨eb,eo,rfl,hebl,hecc⟩
     ·rw[h0] at hil;simp at hil
     ·obtain⟨d0,d1,d2,d3,d4,d5⟩:=hecc i hil
      clear hecc hebl hbi
      change _=some (Value.int _ (Ev.at E i).th) at d0
      change _=some (Value.int _ (Ev.at E i).kd) at d1
      change _=some (Value.int _ (Ev.at E i).md) at d2
      change _=some (Value.int _ (Ev.at E i).lc) at d3
      change _=some (Value.int _ (Ev.at E i).vl) at d4
      change _=some (Value.bool (Ev.at E i).ex) at d5
      generalize Ev.at E i=ev at *
      obtain⟨x0,x1,x2,x3,x4,x5⟩:=ev
      dsimp only at d0 d1 d2 d3 d4 d5 HS HXI
      clear d0 d1 d2 d3 d4
      by_cases e1:1<u
      ·exfalso
       have:=HXI.out.1
       omega
      ·have l1:decide (1<u)=false:=by simp;omega
       have hu1:u<=1:=by omega
       cases hb:(u==1)
       ·cases x5
        ·have HL:=jh (HS.out hu1 hb.symm)
         go_wp2_with fail
         go_quiet (fail)
         go_wp2_with fail
         go_roundw
         case rel=>exact⟨HBI.out _,i+1,by omega,by go_num,HAN.out _,HL⟩
         case measure=>simp[intOf];omega
        ·exact absurd HXI.out.2 (by rw[hb];decide)
       ·cases x5
        ·exact absurd HXI.out.2 (by rw[hb];decide)
        ·have HL:=jh (HS.out hu1 hb.symm)
         go_wp2_with fail
         go_quiet (fail)
         go_wp2_with fail
         go_roundw
         case rel=>exact⟨HBI.out _,i+1,by omega,by go_num,HAN.out _,HL⟩
         case measure=>simp[intOf];omega
    ·have hdi:decide ((i:Int)<(E.length:Int))=false:=by simp;omega
     have HB0:=jh (Zab HB1.out hbi)
     clear HQ hat HB
     go_wp2_with fail
     refine(HR.out _ HB0.out).mono ?_
     rintro e wn ⟨rfl,hbn⟩
     have HBN:=jh (Zab HB0.out hbn)
     clear hbn
     go_wp2_with fail
     go_ret
     exact⟨rfl,HBN.out⟩
end
section
namespace RelA
def Sure (w:World) (e:Ending) (w':World):Prop:=e=.returned (.bool true)/\Below w.heap.size w w'
end RelA
theorem Zqj (g:Gr) (w:World) (h:GIn0 w g) (hp:CheckOk g) :
  Calls Tryz.prog 7 #[g.v] w (Sure w):=by
 have he50:=h.e50
 have hr60:=h.r60
 have hc6:=h.c6
 have hm50:=h.m50
 have hd300:=h.d300
 have ht300:=h.t300
 have hi300:=h.i300
 have HEV:=jh (fun w' (hb:Below w.heap.size w w') i (hi:i<g.E.length)=>Zoy g i w' (h.es.next hb) hi (by omega))
 have HPP:=jh (fun i (hi:i<g.E.length)=>(hp.at_ i hi).1)
 have HRF:=jh (fun w' (hb:Below w.heap.size w w') (hle:g.E.length<=g.R.length) i (hi:i<g.E.length)=>Yw8 g i w' (h.es.next hb) (h.rf.next hb) hi (by omega) hle (hp.at_ i hi).2)
 have HCO:=jh (fun w' (hb:Below w.heap.size w w') t (ht:t<g.C.length)=>Xbs g t w' (h.es.next hb) (h.co.next hb) ht (by omega) (by omega) (fun q hq=>by have:=h.l50 q hq;omega) (hp.co t ht))
 have HMW:=jh (fun w' (hb:Below w.heap.size w w') (he:g.E.length<=40)=>Ypt g w' (h.es.next hb) he (h.rmw.next hb) (by omega) hp.rmw)
 have HD1:=jh (fun w' (hb:Below w.heap.size w w')=>Zvb g g.da g.Data g.dc w' (h.es.next hb) (by omega) (h.data.next hb) (by omega) hp.data)
 have HD2:=jh (fun w' (hb:Below w.heap.size w w')=>Zvb g g.ta g.Ctrl g.tc w' (h.es.next hb) (by omega) (h.ctrl.next hb) (by omega) hp.ctrl)
 have HD3:=jh (fun w' (hb:Below w.heap.size w w')=>Zvb g g.ia g.CtrlI g.ic w' (h.es.next hb) (by omega) (h.ctrli.next hb) (by omega) hp.ctrli)
 have HP1:=jh hp.l1
 have HP2:=jh hp.l4
 have HP3:=jh hp.ln
 have HP4:=jh hp.n40
 have HP5:=jh hp.rlen
 have HP6:=jh hp.clen
 clear h hp
 obtain⟨P,hP⟩:∃ P,P=Zk6 g:=⟨_,rfl⟩
 rw[<- hP] at HPP HEV
 clear hP
 have HG0:=jh (GBox.of_alloc w g 27)
 obtain⟨G,hG⟩:∃ G,G=g:=⟨_,rfl⟩
 obtain⟨locs,ea,E,ec,ra,R,rc,ca,C,cc,ma,Rmw,mc,da,Data,dc,ta,Ctrl,tc,ia,CtrlI,ic⟩:=g
 simp only[Gr.v,Zaw] at he50 hr60 hc6 hm50 hd300 ht300 hi300 HEV HPP HRF HCO HMW HD1 HD2 HD3 HP1 HP2 HP3 HP4 HP5 HP6 HG0 ⊢
 rw[<- hG] at HG0
 have hE:(E.length:Int)<=50:=by omega
 have hR:(R.length:Int)<=60:=by omega
 have hC:(C.length:Int)<=6:=by omega
 clear hm50 hd300 ht300 hi300
 have c0a:=HG0.out.c0
 have c1a:=HG0.out.c1
 have c2a:=HG0.out.c2
 have c3a:=HG0.out.c3
 rw[hG] at c0a c1a c2a c3a
 dsimp only at c0a c1a c2a c3a
 have HB:=jh (show Below w.heap.size w (w.alloc (Obj.cells #[.int .i64 locs,.slice ea E.length ec,.slice ra R.length rc,.slice ca C.length cc,.slice ma Rmw.length mc,.slice da Data.length dc,.slice ta Ctrl.length tc,.slice ia CtrlI.length ic] 27 (0,0))) from jb)
 go_enter Tryz.func7,Tryz.ntmps7
 by_cases e1:locs<1
 ·exact absurd HP1.out (by omega)
 have l1:decide (locs<1)=false:=by simp[e1]
 by_cases e2:4<locs
 ·exact absurd HP2.out (by omega)
 have l2:decide (4<locs)=false:=by simp[e2]
 by_cases e3:(E.length:Int)<locs
 ·exact absurd HP3.out (by omega)
 have l3:decide ((E.length:Int)<locs)=false:=by simp[e3]
 by_cases e4:(40:Int)<(E.length:Int)
 ·exact absurd HP4.out (by omega)
 have l4:decide ((40:Int)<(E.length:Int))=false:=by simp;omega
 by_cases e5:¬ R.length=E.length
 ·exact absurd HP5.out e5
 have e5:=Classical.not_not.1 e5
 have l5:((R.length:Int)==(E.length:Int))=true:=by simp;omega
 have HE5:=jh e5
 have hRE:E.length<=R.length:=by omega
 clear e5
 by_cases e6:¬ (C.length:Int)=locs
 ·exact absurd HP6.out e6
 have e6:=Classical.not_not.1 e6
 have l6:((C.length:Int)==locs)=true:=by simp[e6]
 have HRF2:=jh (fun w' hb i hi=>HRF.out w' hb hRE i hi)
 have HMW2:=jh (fun w' hb=>HMW.out w' hb (by omega))
 have hl1:1<=locs:=by omega
 have hl4:locs<=4:=by omega
 have hl40:E.length<=40:=by omega
 have HE6:=jh e6
 clear HRF HMW e6
 go_wp2_with fail
 clear l1 l2 l3 l4 l5 l6 e1 e2 e3 e4 c0a c1a c2a c3a HB
 obtain⟨w1,hw1⟩:∃ x,x=w.alloc (Obj.cells #[.int .i64 locs,.slice ea E.length ec,.slice ra R.length rc,.slice ca C.length cc,.slice ma Rmw.length mc,.slice da Data.length dc,.slice ta Ctrl.length tc,.slice ia CtrlI.length ic] 27 (0,0)):=⟨_,rfl⟩
 rw[<- hw1] at HG0 ⊢
 have hs1:w1.heap.size=w.heap.size+1:=by rw[hw1];simp
 have HB1:Hid (Below w.heap.size w w1):=jh (by rw[hw1];exact jb)
 clear hw1
 clear hs1
 go_loopw [4] (fun v wr=>Below w1.heap.size w1 wr/\∃ k:Nat,k<=E.length/\v=.int .i64 k) (fun v _=>E.length-(intOf v).toNat)
 case atStart=>exact⟨Below.refl _ _,0,by omega,rfl⟩
 case round=>
  obtain⟨hbe,k,hk,rfl⟩:=hrel
  have HBE:=jh hbe
  by_cases hlt:k<E.length
  ·have hdk:decide ((k:Int)<(E.length:Int))=true:=by simp;omega
   have hki:(k:Int)<(E.length:Int):=by omega
   obtain⟨c0,c1,c2,c3,c4,c5,c6,c7⟩:=HG0.out.next hbe
   rw[hG] at c0 c1 c2 c3 c4 c5 c6 c7
   dsimp only at c0 c1 c2 c3 c4 c5 c6 c7
   have HB:=jh (Zab HB1.out hbe)
   clear hbe
   go_wp2_with fail
   refine(HEV.out _ HB.out k hlt).mono ?_
   rintro e wn ⟨rfl,hbn⟩
   have HBN:=jh (Zab HB.out hbn)
   have HBEN:=jh (Zab HBE.out hbn)
   clear c0 c1 c2 c3 c4 c5 c6 c7
   clear hbn HB HBE
   cases hp:P k
   ·exact absurd (HPP.out k hlt) (by rw[hp];decide)
   ·obtain⟨c0,c1,c2,c3,c4,c5,c6,c7⟩:=HG0.out.next HBEN.out
    rw[hG] at c0 c1 c2 c3 c4 c5 c6 c7
    dsimp only at c0 c1 c2 c3 c4 c5 c6 c7
    go_wp2_with fail
    refine(HRF2.out _ HBN.out k hlt).mono ?_
    rintro e wm ⟨rfl,hbm⟩
    have HBM:=jh (Zab HBEN.out hbm)
    clear c0 c1 c2 c3 c4 c5 c6 c7
    clear hbm HBN HBEN
    clear hp
    go_wp2_with fail
    go_roundw
    case rel=>exact⟨HBM.out,k+1,by omega,by go_num⟩
    case measure=>simp[intOf];omega
  ·have hdk:decide ((k:Int)<(E.length:Int))=false:=by simp;omega
   clear hbe HEV HRF2
   go_wp2_with fail
   clear hdk hlt hk
   go_loopw [5] (fun v wi=>Below w1.heap.size w1 wi/\∃ t:Nat,t<=C.length/\v=.int .i64 t) (fun v _=>C.length-(intOf v).toNat)
   case atStart=>exact⟨HBE.out,0,by omega,rfl⟩
   case round=>
    obtain⟨hbi,t,ht,rfl⟩:=hrel
    clear HBE
    have HBI:=jh hbi
    have HB:=jh (Zab HB1.out hbi)
    obtain⟨c0,c1,c2,c3,c4,c5,c6,c7⟩:=HG0.out.next hbi
    rw[hG] at c0 c1 c2 c3 c4 c5 c6 c7
    dsimp only at c0 c1 c2 c3 c4 c5 c6 c7
    clear hbi
    have he6:=HE6.out
    by_cases htl:t<C.length
    ·have hdt:decide ((t:Int)<locs)=true:=by simp;omega
     have hti:(t:Int)<locs:=by omega
     clear he6
     go_wp2_with fail
     refine(HCO.out _ HB.out t htl).mono ?_
     rintro e wm ⟨rfl,hbm⟩
     have HBM:=jh (Zab HBI.out hbm)
     clear c0 c1 c2 c3 c4 c5 c6 c7
     clear hbm HB HBI
     go_wp2_with fail
     go_roundw
     case rel=>exact⟨HBM.out,t+1,by omega,by go_num⟩
     case measure=>simp[intOf];omega
    ·have hdt:decide ((t:Int)<locs)=false:=by simp;omega
     clear HCO he6
     go_wp2_with fail
     refine(HMW2.out _ HB.out).mono ?_
     rintro e wm ⟨rfl,hbm⟩
     have HB2:=jh (Zab HB.out hbm)
     have HBM2:=jh (Zab HBI.out hbm)
     clear c0 c1 c2 c3 c4 c5 c6 c7
     clear hbm HB HBI
     obtain⟨c0,c1,c2,c3,c4,c5,c6,c7⟩:=HG0.out.next HBM2.out
     rw[hG] at c0 c1 c2 c3 c4 c5 c6 c7
     dsimp only at c0 c1 c2 c3 c4 c5 c6 c7
     go_wp2_with fail
     refine(HD1.out _ HB2.out).mono ?_
     rintro e wm ⟨rfl,hbm⟩
     have HB3:=jh (Zab HB2.out hbm)
     have HBM3:=jh (Zab HBM2.out hbm)
     clear c0 c1 c2 c3 c4 c5 c6 c7
     clear hbm HB2 HBM2
     obtain⟨c0,c1,c2,c3,c4,c5,c6,c7⟩:=HG0.out.next HBM3.out
     rw[hG] at c0 c1 c2 c3 c4 c5 c6 c7
     dsimp only at c0 c1 c2 c3 c4 c5 c6 c7
     go_wp2_with fail
     refine(HD2.out _ HB3.out).mono ?_
     rintro e wm ⟨rfl,hbm⟩
     have HB4:=jh (Zab HB3.out hbm)
     have HBM4:=jh (Zab HBM3.out hbm)
     clear c0 c1 c2 c3 c4 c5 c6 c7
     clear hbm HB3 HBM3
     obtain⟨c0,c1,c2,c3,c4,c5,c6,c7⟩:=HG0.out.next HBM4.out
     rw[hG] at c0 c1 c2 c3 c4 c5 c6 c7
     dsimp only at c0 c1 c2 c3 c4 c5 c6 c7
     go_wp2_with fail
     refine(HD3.out _ HB4.out).mono ?_
     rintro e wm ⟨rfl,hbm⟩
     have HB5:=jh (Zab HB4.out hbm)
     clear c0 c1 c2 c3 c4 c5 c6 c7
     clear hbm HB4
     go_wp2_with fail
     go_ret
     exact⟨rfl,HB5.out⟩
theorem Zx2 (g:Gr) (w:World) (h:GIn0 w g) :
  Calls Tryz.prog 7 #[g.v] w fun e w'=>∃ x,e=.returned (.bool x)/\(x=true↔CheckOk g)/\Below w.heap.size w w':=by
 by_cases hc:CheckOk g
 ·refine(Zqj g w h hc).mono ?_
  rintro e w' ⟨rfl,hb⟩
  exact⟨true,rfl,⟨fun _=>hc,fun _=>rfl⟩,hb⟩
 ·refine(Zx3 g w h).mono ?_
  rintro e w' ⟨x,rfl,hx,hb⟩
  exact⟨x,rfl,⟨hx,fun h=>absurd h hc⟩,hb⟩
end
end Go.Proofs.YthcnhbclagegeaaGreatDoor
