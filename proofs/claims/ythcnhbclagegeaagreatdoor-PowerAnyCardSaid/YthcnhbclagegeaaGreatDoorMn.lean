/-
  What the functions that the law reaches do, one by one: contracts. Conditions: those that each of them prints.
-/
import Derived.Test.YthcnhbclagegeaaGreatDoorMl
import Derived.BigRegion
import Derived.Deep.QuietTactic
import Derived.BigQuiet
namespace Go.Proofs.YthcnhbclagegeaaGreatDoor
open Go.RowKit RelA
namespace RelA
def Zix (E:List Ev) (t:Int):Nat->Nat
 | 0=>0
 | k+1=>Zix E t k+(if (Ev.at E k).kd=2/\(Ev.at E k).lc=t then 1 else 0)
theorem Zmr (E:List Ev) (t:Int) (k:Nat):Zix E t k<=k:=by
 induction k with
 | zero=>exact Nat.le_refl _
 | succ k ih=>unfold Zix;split<;>omega
structure CoOk (E:List Ev) (t:Nat) (L:List Int):Prop where
 at_:∀ j,j<L.length->∃ m:Nat,L.getD j 0=m/\m<E.length/\(Ev.at E m).kd=2/\(Ev.at E m).lc=t
 ne:∀ j,j<L.length->∀ q,q<j->L.getD q 0≠L.getD j 0
 len:L.length=Zix E t E.length
 pos:0<L.length
 fst:L.getD 0 0=t
end RelA
set_option maxRecDepth 20000 in
set_option maxHeartbeats 20000000 in
theorem Ylk (g:Gr) (t:Nat) (w:World) (hes:EsIn w g.ea g.E) (hco:LsIn w g.ca g.C) (ht:t<g.C.length) (he:g.E.length<=100) (hc9:g.C.length<=10) (hl:∀ q,q<g.C.length->(g.C.getD q Ls.zero).L.length<=100) :
  Calls Tryz.prog 18 #[g.v,.int .i64 t] w fun e w'=>∃ x,e=.returned (.bool x)/\(x=true->CoOk g.E t (g.C.getD t Ls.zero).L)/\Below w.heap.size w w':=by
 have HG0:=jh (GBox.of_alloc w g 27)
 obtain⟨G,hG⟩:∃ G,G=g:=⟨_,rfl⟩
 obtain⟨locs,ea,E,ec,ra,R,rc,ca,C,cc,ma,Rmw,mc,da,Data,dc,ta,Ctrl,tc,ia,CtrlI,ic⟩:=g
 simp only[Gr.v,Zaw] at hes hco ht he hc9 hl HG0 ⊢
 rw[<- hG] at HG0
 have hti:(t:Int)<(C.length:Int):=by omega
 have ht9:(t:Int)<100:=by omega
 have hl1:=hl t ht
 clear hl
 have HES:=jh hes
 clear hes
 rcases hco with h0 | ⟨cb,cx,hca,hcbl,hccc⟩
 ·rw[h0] at ht;simp at ht
 obtain⟨s0,sN,sC⟩:=hccc t ht
 clear hccc
 generalize C.getD t Ls.zero=l at *
 obtain⟨la,L,lc⟩:=l
 dsimp only at s0 sN sC hl1 ⊢
 have HSN:=jh sN
 clear sN
 have c3:=HG0.out.c3
 rw[hG] at c3
 dsimp only at c3
 have s0z:=Zaa s0 ((Below.refl _ _).alloc (Nat.le_refl _) (Obj.cells #[.int .i64 locs,.slice ea E.length ec,.slice ra R.length rc,.slice ca C.length cc,.slice ma Rmw.length mc,.slice da Data.length dc,.slice ta Ctrl.length tc,.slice ia CtrlI.length ic] 27 (0,0)))
 subst hca
 go_enter Tryz.func18,Tryz.ntmps18
 go_wp2_with fail
 clear c3 s0z s0
 obtain⟨w1,hw1⟩:∃ x,x=w.alloc (Obj.cells #[.int .i64 locs,.slice ea E.length ec,.slice ra R.length rc,.slice (some ⟨cb,cx,none⟩) C.length cc,.slice ma Rmw.length mc,.slice da Data.length dc,.slice ta Ctrl.length tc,.slice ia CtrlI.length ic] 27 (0,0)):=⟨_,rfl⟩
 rw[<- hw1] at HG0 ⊢
 have hs1:w1.heap.size=w.heap.size+1:=by rw[hw1];simp
 have HB1:Hid (Below w.heap.size w w1):=jh (by rw[hw1];exact jb)
 clear hw1
 have HE1:=jh (HES.out.next HB1.out)
 have HL1:=jh (HSN.out.next HB1.out)
 clear HSN HES hs1
 go_loopw [6,7] (fun nv v wr=>Below w1.heap.size w1 wr/\∃ k:Nat,k<=E.length/\v=.int .i64 k/\nv=.int .i64 (Zix E t k)) (fun _ v _=>E.length-(intOf v).toNat)
 case atStart=>exact⟨Below.refl _ _,0,by omega,rfl,rfl⟩
 case round=>
  obtain⟨hbe,k,hk,rfl,rfl⟩:=hrel
  obtain⟨c0,c1,c2,c3,c4,c5,c6,c7⟩:=HG0.out.next hbe
  rw[hG] at c0 c1 c2 c3 c4 c5 c6 c7
  dsimp only at c0 c1 c2 c3 c4 c5 c6 c7
  clear c0 c2 c3 c4 c5 c6 c7
  have hcl:=Zmr E t k
  by_cases hlt:k<E.length
  ·have hdk:decide ((k:Int)<(E.length:Int))=true:=by simp;omega
   have hki:(k:Int)<(E.length:Int):=by omega
   have hk9:(k:Int)<1000:=by omega
   have hst:Zix E t (k+1)=Zix E t k+(if (Ev.at E k).kd=2/\(Ev.at E k).lc=t then 1 else 0):=rfl
   rcases HE1.out.next hbe with h0 | ⟨eb,eo,rfl,hebl,hecc⟩
   ·rw[h0] at hlt;simp at hlt
   ·obtain⟨d0,d1,d2,d3,d4,d5⟩:=hecc k hlt
    clear hecc
    change _=some (Value.int _ (Ev.at E k).th) at d0
    change _=some (Value.int _ (Ev.at E k).kd) at d1
    change _=some (Value.int _ (Ev.at E k).md) at d2
    change _=some (Value.int _ (Ev.at E k).lc) at d3
    change _=some (Value.int _ (Ev.at E k).vl) at d4
    change _=some (Value.bool (Ev.at E k).ex) at d5
    generalize Ev.at E k=ev at *
    obtain⟨x0,x1,x2,x3,x4,x5⟩:=ev
    dsimp only at d0 d1 d2 d3 d4 d5 hst
    clear d0 d2 d4 d5
    obtain⟨N,hN⟩:∃ N,N=Zix E t k:=⟨_,rfl⟩
    rw[<- hN] at hst hcl ⊢
    clear hN
    have hN9:(N:Int)<1000:=by omega
    by_cases e1:x1=2
    ·subst e1
     by_cases e2:x3=t
     ·subst e2
      have l2:((t:Int)==(t:Int))=true:=by simp
      rw[if_pos ⟨rfl,rfl⟩] at hst
      have HST:=jh hst
      clear hst
      go_wp2_with fail
      go_roundw
      case rel=>exact⟨hbe,k+1,by omega,by go_num,by rw[HST.out];go_num⟩
      case measure=>simp[intOf];omega
     ·have l2:(x3==(t:Int))=false:=by simp[e2]
      rw[if_neg (fun a=>e2 a.2)] at hst
      have HST:=jh hst
      clear hst
      go_wp2_with fail
      go_roundw
      case rel=>exact⟨hbe,k+1,by omega,by go_num,by rw[HST.out];rfl⟩
      case measure=>simp[intOf];omega
    ·have l1:(x1==2)=false:=by simp[e1]
     rw[if_neg (fun a=>e1 a.1)] at hst
     have HST:=jh hst
     clear hst
     go_wp2_with fail
     go_roundw
     case rel=>exact⟨hbe,k+1,by omega,by go_num,by rw[HST.out];rfl⟩
     case measure=>simp[intOf];omega
  ·have hdk:decide ((k:Int)<(E.length:Int))=false:=by simp;omega
   have hke:k=E.length:=by omega
   rw[hke] at hcl
   have HFIN:Hid ((∀ j,j<L.length->∃ m:Nat,L.getD j 0=m/\m<E.length/\(Ev.at E m).kd=2/\(Ev.at E m).lc=t)->(∀ j,j<L.length->∀ q,q<j->L.getD q 0≠L.getD j 0)->L.length=Zix E t E.length->0<L.length->L.getD 0 0=t->CoOk E t L):=jh (fun a b c d e=>⟨a,b,c,d,e⟩)
   rw[hke]
   generalize Zix E t E.length=N at *
   have hN9:(N:Int)<1000:=by omega
   clear hke
   go_wp2_with fail
   clear c1
   go_loopw [8] (fun v wi=>Below w1.heap.size w1 wi/\∃ i:Nat,i<=L.length/\v=.int .i64 i/\Hid ((∀ j,j<i->∃ m:Nat,L.getD j 0=m/\m<E.length/\(Ev.at E m).kd=2/\(Ev.at E m).lc=t)/\(∀ j,j<i->∀ q,q<j->L.getD q 0≠L.getD j 0))) (fun v _=>L.length-(intOf v).toNat)
   case atStart=>exact⟨hbe,0,by omega,rfl,jh ⟨fun j a=>by omega,fun j a=>by omega⟩⟩
   case round=>
    obtain⟨hbi,i,hi,rfl,HD⟩:=hrel
    clear hbe hdk hk
    by_cases hil:i<L.length
    ·have hdi:decide ((i:Int)<(L.length:Int))=true:=by simp;omega
     have hii:(i:Int)<(L.length:Int):=by omega
     have hi9:(i:Int)<1000:=by omega
     obtain⟨c0,c1,c2,c3,c4,c5,c6,c7⟩:=HG0.out.next hbi
     rw[hG] at c0 c1 c2 c3 c4 c5 c6 c7
     dsimp only at c0 c1 c2 c3 c4 c5 c6 c7
     clear c0 c2 c3 c4 c5 c6 c7
     rcases HL1.out.next hbi with h0 | ⟨lb,lo,rfl,hlbl,hlcc⟩
     ·rw[h0] at hil;simp at hil
     ·have r0:=hlcc i hil
      clear hlcc hlbl
      have HB:=jh (Zar (Zab HB1.out hbi))
      have HBI:=jh (Zar hbi)
      obtain⟨r,hr⟩:∃ r,r=L.getD i 0:=⟨_,rfl⟩
      have HRR:=jh hr
      rw[<- hr] at r0
      clear hr
      by_cases e1:r<0
      ·have l1:decide (r<0)=true:=by simp[e1]
       clear hbi
       go_wp2_with fail
       go_quiet (fail)
       go_wp2_with fail
       go_ret
       exact⟨false,rfl,(fun hx=>by cases hx),HB.out _⟩
      ·have l1:decide (r<0)=false:=by simp[e1]
       by_cases e2:(E.length:Int)<=r
       ·have l2:decide ((E.length:Int)<=r)=true:=by simp[e2]
        clear hbi
        go_wp2_with fail
        go_quiet (fail)
        go_wp2_with fail
        go_ret
        exact⟨false,rfl,(fun hx=>by cases hx),HB.out _⟩
       ·have l2:decide ((E.length:Int)<=r)=false:=by simp[e2]
        obtain⟨m,rfl⟩:=Int.eq_ofNat_of_zero_le (show 0<=r by omega)
        have hm:m<E.length:=by omega
        have hmi:(m:Int)<(E.length:Int):=by omega
        have l2n:decide (E.length<=m)=false:=by simp;omega
        rcases HE1.out.next hbi with h0 | ⟨eb,eo,rfl,hebl,hecc⟩
        ·rw[h0] at hm;simp at hm
        ·obtain⟨d0,d1,d2,d3,d4,d5⟩:=hecc m hm
         clear hecc hebl hbi
         change _=some (Value.int _ (Ev.at E m).th) at d0
         change _=some (Value.int _ (Ev.at E m).kd) at d1
         change _=some (Value.int _ (Ev.at E m).md) at d2
         change _=some (Value.int _ (Ev.at E m).lc) at d3
         change _=some (Value.int _ (Ev.at E m).vl) at d4
         change _=some (Value.bool (Ev.at E m).ex) at d5
         have HS2:Hid ((Ev.at E m).kd=2->(Ev.at E m).lc=t->∀ j,j<i+1->∃ m:Nat,L.getD j 0=m/\m<E.length/\(Ev.at E m).kd=2/\(Ev.at E m).lc=t):=jh (fun u v j b=>by
          rcases Nat.lt_succ_iff_lt_or_eq.1 b with e | rfl
          ·exact HD.out.1 j e
          ·exact⟨m,HRR.out.symm,hm,u,v⟩)
         generalize Ev.at E m=ev at *
         obtain⟨x0,x1,x2,x3,x4,x5⟩:=ev
         dsimp only at d0 d1 d2 d3 d4 d5 HS2
         clear d0 d2 d4 d5
         by_cases e3:x1=2
         ·subst e3
          by_cases e4:x3=t
          ·subst e4
           have l4:((t:Int)==(t:Int))=true:=by simp
           have HS3:=jh (HS2.out rfl rfl)
           clear HS2
           go_wp2_with fail
           go_quiet (fail)
           go_wp2_with fail
           clear c1 r0 d1 d3
           go_loopw [9] (fun v wj=>Below w1.heap.size w1 wj/\∃ q:Nat,q<=i/\v=.int .i64 q/\Hid (∀ j,j<q->L.getD j 0≠L.getD i 0)) (fun v _=>i-(intOf v).toNat)
           case atStart=>exact⟨HBI.out _,0,by omega,rfl,jh (fun j a=>by omega)⟩
           case round=>
            obtain⟨hbj,q,hq,rfl,HQ⟩:=hrel
            by_cases hqi:q<i
            ·have hdq:decide ((q:Int)<(i:Int))=true:=by simp;omega
             have hqL:q<L.length:=by omega
             have hqi2:(q:Int)<(L.length:Int):=by omega
             have hq9:(q:Int)<1000:=by omega
             rcases HL1.out.next hbj with h0 | ⟨lb2,lo2,hla,hlbl,hlcc⟩
             ·rw[h0] at hil;simp at hil
             ·obtain⟨rfl,rfl⟩:lb=lb2/\lo=lo2:=by simpa using hla
              have r0:=hlcc i hil
              have u0:=hlcc q hqL
              clear hlcc hlbl hla
              have HBQ:=jh (Zar (Zab HB1.out hbj))
              have HBJ:=jh (Zar hbj)
              clear hbj
              by_cases e5:L.getD q 0=L.getD i 0
              ·have l5:(L.getD q 0==L.getD i 0)=true:=beq_iff_eq.2 e5
               generalize L.getD q 0=y at *
               generalize L.getD i 0=z at *
               go_wp2_with fail
               go_quiet (fail)
               go_wp2_with fail
               go_ret
               exact⟨false,rfl,(fun hx=>by cases hx),HBQ.out _⟩
              ·have l5:(L.getD q 0==L.getD i 0)=false:=beq_eq_false_iff_ne.2 e5
               have HQ2:Hid (∀ j,j<q+1->L.getD j 0≠L.getD i 0):=jh (fun j b=>by
                rcases Nat.lt_succ_iff_lt_or_eq.1 b with e | rfl
                ·exact HQ.out j e
                ·exact e5)
               obtain⟨y,hy⟩:∃ y,y=L.getD q 0:=⟨_,rfl⟩
               obtain⟨z,hz⟩:∃ z,z=L.getD i 0:=⟨_,rfl⟩
               rw[<- hy] at u0 l5
               rw[<- hz] at r0 l5
               clear hy hz e5
               go_wp2_with fail
               go_quiet (fail)
               go_wp2_with fail
               go_roundw
               case rel=>exact⟨HBJ.out _,q+1,by omega,by go_num,HQ2⟩
               case measure=>simp[intOf];omega
            ·have hdq:decide ((q:Int)<(i:Int))=false:=by simp;omega
             have hqe:q=i:=by omega
             have HQ3:Hid (∀ j,j<i+1->∀ q,q<j->L.getD q 0≠L.getD j 0):=jh (fun j b=>by
              rcases Nat.lt_succ_iff_lt_or_eq.1 b with e | rfl
              ·exact HD.out.2 j e
              ·rw[<- hqe];rw[<- hqe] at HQ;exact HQ.out)
             clear hqe
             go_wp2_with fail
             go_roundw
             case rel=>exact⟨hbj,i+1,by omega,by go_num,jh ⟨HS3.out,HQ3.out⟩⟩
             case measure=>simp[intOf];omega
          ·have l4:(x3==(t:Int))=false:=by simp[e4]
           go_wp2_with fail
           go_quiet (fail)
           go_wp2_with fail
           go_ret
           exact⟨false,rfl,(fun hx=>by cases hx),HB.out _⟩
         ·have l3:(x1==2)=false:=by simp[e3]
          go_wp2_with fail
          go_quiet (fail)
          go_wp2_with fail
          go_ret
          exact⟨false,rfl,(fun hx=>by cases hx),HB.out _⟩
    ·have hdi:decide ((i:Int)<(L.length:Int))=false:=by simp;omega
     have HB:=jh (Zab HB1.out hbi)
     have HF2:Hid (L.length=N->0<L.length->L.getD 0 0=t->CoOk E t L):=jh (fun a b c=>HFIN.out (fun j e=>HD.out.1 j (by omega)) (fun j e=>HD.out.2 j (by omega)) a b c)
     clear HFIN HD
     by_cases e1:(L.length:Int)=(N:Int)
     ·have l1:((L.length:Int)==(N:Int))=true:=by simp[e1]
      by_cases e2:0<N
      ·have l2:decide ((0:Int)<(N:Int))=true:=by simp;omega
       have hl0:0<L.length:=by omega
       have hl0i:(0:Int)<(L.length:Int):=by omega
       rcases HL1.out.next hbi with h0 | ⟨lb,lo,rfl,hlbl,hlcc⟩
       ·rw[h0] at hl0;simp at hl0
       ·have r0:=hlcc 0 hl0
        rw[Nat.add_zero] at r0
        clear hlcc hlbl hbi
        by_cases e3:L.getD 0 0=t
        ·have HK:=jh (HF2.out (by omega) hl0 e3)
         rw[e3] at r0
         have l3:((t:Int)==(t:Int))=true:=by simp
         clear e3 HF2
         go_wp2_with fail
         go_ret
         exact⟨true,rfl,(fun _=>HK.out),HB.out⟩
        ·have l3:(L.getD 0 0==(t:Int))=false:=beq_eq_false_iff_ne.2 e3
         clear HF2
         generalize L.getD 0 0=r at *
         go_wp2_with fail
         go_ret
         exact⟨false,rfl,(fun hx=>by cases hx),HB.out⟩
      ·have l2:decide ((0:Int)<(N:Int))=false:=by simp;omega
       go_wp2_with fail
       go_ret
       exact⟨false,rfl,(fun hx=>by cases hx),HB.out⟩
     ·have l1:((L.length:Int)==(N:Int))=false:=by simp;omega
      go_wp2_with fail
      go_ret
      exact⟨false,rfl,(fun hx=>by cases hx),HB.out⟩
end Go.Proofs.YthcnhbclagegeaaGreatDoor
