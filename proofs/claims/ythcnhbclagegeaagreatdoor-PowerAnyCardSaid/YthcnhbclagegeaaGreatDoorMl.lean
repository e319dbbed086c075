/-
  What the functions that the law reaches do, one by one: contracts. Conditions: those that each of them prints.
-/
import Derived.Test.YthcnhbclagegeaaGreatDoorMi
import Derived.BigRegion
import Derived.Deep.QuietTactic
import Derived.BigQuiet
set_option maxRecDepth 20000
set_option maxHeartbeats 20000000
namespace Go.Proofs.YthcnhbclagegeaaGreatDoor
open Go.RowKit RelA
namespace RelA
theorem Zar {B:Nat} {w w':World} (h:Below B w w') (n:Nat):Below B w (w'.drewN n):=⟨h.os,h.tape,h.output,h.size,h.block⟩
def Zt0 (p q:Int×Int):Prop:=p.1<q.1∨(p.1=q.1/\p.2<q.2)
def Zd5 (L:List (Int×Int)):Prop:=∀ k,1<=k->k<L.length->Zt0 (L.getD (k-1) (0,0)) (L.getD k (0,0))
end RelA
theorem Zlp (a:Option Addr) (L:List (Int×Int)) (c:Nat) (w:World) (h:PIn w a L c) (hl:L.length<=400) :
  Calls Tryz.prog 58 #[.slice a L.length c] w fun e w'=>∃ x,e=.returned (.bool x)/\(x=true->Zd5 L)/\Below w.heap.size w w':=by
 have HI:=jh h
 clear h
 go_enter Tryz.func58,Tryz.ntmps58
 go_wp2_with fail
 go_loopw [3] (fun v wr=>Below w.heap.size w wr/\∃ k:Nat,1<=k/\k<=L.length+1/\v=.int .i64 k/\Hid (∀ j,1<=j->j<k->j<L.length->Zt0 (L.getD (j-1) (0,0)) (L.getD j (0,0)))) (fun v _=>L.length+1-(intOf v).toNat)
 case atStart=>exact⟨Below.refl _ _,1,by omega,by omega,rfl,jh (fun j _ _ _=>by omega)⟩
 case round=>
  obtain⟨hbe,k,hk1,hk,rfl,HR⟩:=hrel
  by_cases hlt:k<L.length
  ·have hdk:decide ((k:Int)<(L.length:Int))=true:=by simp;omega
   have hki:(k:Int)<(L.length:Int):=by omega
   have hk9:(k:Int)<1000:=by omega
   have hsub:(k:Int)-1=((k-1:Nat):Int):=by omega
   have hsb2:((k-1:Nat):Int)<(L.length:Int):=by omega
   have hsb3:(0:Int)<=((k-1:Nat):Int):=by omega
   have HS:Hid (Zt0 (L.getD (k-1) (0,0)) (L.getD k (0,0))->∀ j,1<=j->j<k+1->j<L.length->Zt0 (L.getD (j-1) (0,0)) (L.getD j (0,0))):=jh (fun hx j a b c=>by
    rcases Nat.lt_succ_iff_lt_or_eq.1 b with e | rfl
    ·exact HR.out j a e c
    ·exact hx)
   rcases HI.out.next hbe with⟨_,h0,_⟩ | ⟨_,_,h0⟩ | ⟨b,o,rfl,hbl,hcc⟩
   ·rw[h0] at hlt;simp at hlt
   ·rw[h0] at hlt;simp at hlt
   ·obtain⟨d0,d1⟩:=hcc k hlt
    obtain⟨q0,q1⟩:=hcc (k-1) (by omega)
    have HB:=jh (Zar hbe)
    clear hcc HR
    generalize L.getD k (0,0)=p at *
    generalize L.getD (k-1) (0,0)=q at *
    obtain⟨p0,p1⟩:=p
    obtain⟨r0,r1⟩:=q
    dsimp only at d0 d1 q0 q1
    by_cases e1:p0<r0
    ·have l1:decide (p0<r0)=true:=by simp[e1]
     go_wp2_with fail
     go_quiet (fail)
     go_wp2_with fail
     go_ret
     exact⟨false,rfl,(fun hx=>by cases hx),HB.out _⟩
    ·have l1:decide (p0<r0)=false:=by simp[e1]
     by_cases e2:p0=r0
     ·subst e2
      have l2:(p0==p0)=true:=by simp
      by_cases e3:p1<=r1
      ·have l3:decide (p1<=r1)=true:=by simp[e3]
       go_wp2_with fail
       go_quiet (fail)
       go_wp2_with fail
       go_ret
       exact⟨false,rfl,(fun hx=>by cases hx),HB.out _⟩
      ·have l3:decide (p1<=r1)=false:=by simp[e3]
       have HL:=jh (HS.out (.inr ⟨rfl,by omega⟩))
       go_wp2_with fail
       go_quiet (fail)
       go_wp2_with fail
       go_roundw
       case rel=>exact⟨HB.out _,k+1,by omega,by omega,by go_num,HL⟩
       case measure=>simp[intOf];omega
     ·have l2:(p0==r0)=false:=by simp[e2]
      have HL:=jh (HS.out (.inl (by show r0<p0;omega)))
      go_wp2_with fail
      go_quiet (fail)
      go_wp2_with fail
      go_roundw
      case rel=>exact⟨HB.out _,k+1,by omega,by omega,by go_num,HL⟩
      case measure=>simp[intOf];omega
  ·have hdk:decide ((k:Int)<(L.length:Int))=false:=by simp;omega
   have HL:Hid (Zd5 L):=jh (fun j a b=>HR.out j a (by omega) b)
   have HB:=jh hbe
   go_wp2_with fail
   go_ret
   exact⟨true,rfl,(fun _=>HL.out),HB.out⟩
namespace RelA
def Zih (E:List Ev) (p:Int×Int):Prop:=∃ a b:Nat,p=((a:Int),(b:Int))/\a<b/\b<E.length/\(Ev.at E a).kd=1/\(Ev.at E a).th=(Ev.at E b).th
def Zdq (E:List Ev) (L:List (Int×Int)):Prop:=(∀ k,k<L.length->Zih E (L.getD k (0,0)))/\Zd5 L
end RelA
theorem Znc (g:Gr) (a:Option Addr) (L:List (Int×Int)) (c:Nat) (w:World) (hes:EsIn w g.ea g.E) (he:g.E.length<=100) (h:PIn w a L c) (hl:L.length<=400) :
  Calls Tryz.prog 20 #[g.v,.slice a L.length c] w fun e w'=>∃ x,e=.returned (.bool x)/\(x=true->Zdq g.E L)/\Below w.heap.size w w':=by
 have HR:=jh (fun w' (hb:Below w.heap.size w w')=>Zlp a L c w' (h.next hb) hl)
 have HG0:=jh (GBox.of_alloc w g 27)
 obtain⟨G,hG⟩:∃ G,G=g:=⟨_,rfl⟩
 obtain⟨locs,ea,E,ec,ra,R,rc,ca,C,cc,ma,Rmw,mc,da,Data,dc,ta,Ctrl,tc,ia,CtrlI,ic⟩:=g
 simp only[Gr.v,Zaw] at hes he HG0 ⊢
 rw[<- hG] at HG0
 have HI:=jh h
 have HES:=jh hes
 clear h hes
 go_enter Tryz.func20,Tryz.ntmps20
 go_wp2_with fail
 obtain⟨w1,hw1⟩:∃ x,x=w.alloc (Obj.cells #[.int .i64 locs,.slice ea E.length ec,.slice ra R.length rc,.slice ca C.length cc,.slice ma Rmw.length mc,.slice da Data.length dc,.slice ta Ctrl.length tc,.slice ia CtrlI.length ic] 27 (0,0)):=⟨_,rfl⟩
 rw[<- hw1] at HG0 ⊢
 have hs1:w1.heap.size=w.heap.size+1:=by rw[hw1];simp
 have HB1:Hid (Below w.heap.size w w1):=jh (by rw[hw1];exact jb)
 clear hw1
 have HI1:=jh (HI.out.next HB1.out)
 have HE1:=jh (HES.out.next HB1.out)
 clear HI HES hs1
 go_loopw [5] (fun v wr=>Below w1.heap.size w1 wr/\∃ k:Nat,k<=L.length/\v=.int .i64 k/\Hid (∀ j,j<k->Zih E (L.getD j (0,0)))) (fun v _=>L.length-(intOf v).toNat)
 case atStart=>exact⟨Below.refl _ _,0,by omega,rfl,jh (fun j _=>by omega)⟩
 case round=>
  obtain⟨hbe,k,hk,rfl,HD⟩:=hrel
  have HBE:=jh hbe
  obtain⟨c0,c1,c2,c3,c4,c5,c6,c7⟩:=HG0.out.next hbe
  rw[hG] at c0 c1 c2 c3 c4 c5 c6 c7
  dsimp only at c0 c1 c2 c3 c4 c5 c6 c7
  clear c0 c2 c3 c4 c5 c6 c7
  by_cases hlt:k<L.length
  ·have hdk:decide ((k:Int)<(L.length:Int))=true:=by simp;omega
   have hki:(k:Int)<(L.length:Int):=by omega
   have hk9:(k:Int)<1000:=by omega
   have HS:Hid (Zih E (L.getD k (0,0))->∀ j,j<k+1->Zih E (L.getD j (0,0))):=jh (fun hx j b=>by
    rcases Nat.lt_succ_iff_lt_or_eq.1 b with e | rfl
    ·exact HD.out j e
    ·exact hx)
   rcases HI1.out.next hbe with⟨_,h0,_⟩ | ⟨_,_,h0⟩ | ⟨b,o,rfl,hbl,hcc⟩
   ·rw[h0] at hlt;simp at hlt
   ·rw[h0] at hlt;simp at hlt
   ·obtain⟨p0,p1⟩:=hcc k hlt
    have HB:=jh (Zar (Zab HB1.out hbe.drew))
    have HBD:=jh (Zar hbe)
    clear hcc HD
    generalize L.getD k (0,0)=p at *
    obtain⟨x,y⟩:=p
    dsimp only at p0 p1
    by_cases e1:x<0
    ·have l1:decide (x<0)=true:=by simp[e1]
     clear HBE hbe
     go_wp2_with fail
     go_region
     go_wp2_with fail
     go_quiet (fail)
     go_wp2_with fail
     go_ret
     exact⟨false,rfl,(fun hx=>by cases hx),HB.out _⟩
    ·have l1:decide (x<0)=false:=by simp[e1]
     by_cases e2:y<=x
     ·have l2:decide (y<=x)=true:=by simp[e2]
      clear HBE hbe
      go_wp2_with fail
      go_region
      go_wp2_with fail
      go_quiet (fail)
      go_wp2_with fail
      go_ret
      exact⟨false,rfl,(fun hx=>by cases hx),HB.out _⟩
     ·have l2:decide (y<=x)=false:=by simp[e2]
      by_cases e3:(E.length:Int)<=y
      ·have l3:decide ((E.length:Int)<=y)=true:=by simp[e3]
       clear HBE hbe
       go_wp2_with fail
       go_region
       go_wp2_with fail
       go_quiet (fail)
       go_wp2_with fail
       go_ret
       exact⟨false,rfl,(fun hx=>by cases hx),HB.out _⟩
      ·have l3:decide ((E.length:Int)<=y)=false:=by simp[e3]
       obtain⟨m,rfl⟩:=Int.eq_ofNat_of_zero_le (show 0<=x by omega)
       obtain⟨n,rfl⟩:=Int.eq_ofNat_of_zero_le (show 0<=y by omega)
       have hm:m<E.length:=by omega
       have hn:n<E.length:=by omega
       have hmi:(m:Int)<(E.length:Int):=by omega
       have hni:(n:Int)<(E.length:Int):=by omega
       have l2n:decide (n<=m)=false:=by simp;omega
       have l3n:decide (E.length<=n)=false:=by simp;omega
       have HS2:Hid ((Ev.at E m).kd=1->(Ev.at E m).th=(Ev.at E n).th->∀ j,j<k+1->Zih E (L.getD j (0,0))):=jh (fun u v=>HS.out ⟨m,n,rfl,by omega,hn,u,v⟩)
       rcases HE1.out.next hbe with h0 | ⟨eb,eo,rfl,hebl,hecc⟩
       ·rw[h0] at hm;simp at hm
       ·obtain⟨d0,d1,d2,d3,d4,d5⟩:=hecc m hm
        obtain⟨f0,f1,f2,f3,f4,f5⟩:=hecc n hn
        clear hecc HBE hbe HS
        change _=some (Value.int _ (Ev.at E m).th) at d0
        change _=some (Value.int _ (Ev.at E m).kd) at d1
        change _=some (Value.int _ (Ev.at E m).md) at d2
        change _=some (Value.int _ (Ev.at E m).lc) at d3
        change _=some (Value.int _ (Ev.at E m).vl) at d4
        change _=some (Value.bool (Ev.at E m).ex) at d5
        change _=some (Value.int _ (Ev.at E n).th) at f0
        change _=some (Value.int _ (Ev.at E n).kd) at f1
        change _=some (Value.int _ (Ev.at E n).md) at f2
        change _=some (Value.int _ (Ev.at E n).lc) at f3
        change _=some (Value.int _ (Ev.at E n).vl) at f4
        change _=some (Value.bool (Ev.at E n).ex) at f5
        generalize Ev.at E m=ev at *
        generalize Ev.at E n=fv at *
        obtain⟨x0,x1,x2,x3,x4,x5⟩:=ev
        obtain⟨y0,y1,y2,y3,y4,y5⟩:=fv
        dsimp only at d0 d1 d2 d3 d4 d5 f0 f1 f2 f3 f4 f5
        clear d2 d3 d4 d5 f1 f2 f3 f4 f5
        by_cases e4:x1=1
        ·subst e4
         by_cases e5:x0=y0
         ·subst e5
          have l5:(x0==x0)=true:=by simp
          have HL:=jh (HS2.out rfl rfl)
          go_wp2_with fail
          go_region
          go_wp2_with fail
          go_quiet (fail)
          go_wp2_with fail
          go_roundw
          case rel=>exact⟨HBD.out _,k+1,by omega,by go_num,HL⟩
          case measure=>simp[intOf];omega
         ·have l5:(x0==y0)=false:=by simp[e5]
          go_wp2_with fail
          go_region
          go_wp2_with fail
          go_quiet (fail)
          go_wp2_with fail
          go_ret
          exact⟨false,rfl,(fun hx=>by cases hx),HB.out _⟩
        ·have l4:(x1==1)=false:=by simp[e4]
         go_wp2_with fail
         go_region
         go_wp2_with fail
         go_quiet (fail)
         go_wp2_with fail
         go_ret
         exact⟨false,rfl,(fun hx=>by cases hx),HB.out _⟩
  ·have hdk:decide ((k:Int)<(L.length:Int))=false:=by simp;omega
   have HL:Hid (∀ j,j<L.length->Zih E (L.getD j (0,0))):=jh (fun j a=>HD.out j (by omega))
   have HB:=jh (Zab HB1.out hbe)
   clear hbe HBE
   go_wp2_with fail
   refine(HR.out _ HB.out).mono ?_
   rintro e wn ⟨x,rfl,hx,hbn⟩
   have HX:=jh hx
   have HBN:=jh (Zab HB.out hbn)
   clear hx hbn
   go_wp2_with fail
   go_ret
   exact⟨_,rfl,(fun e=>⟨HL.out,HX.out e⟩),HBN.out⟩
end Go.Proofs.YthcnhbclagegeaaGreatDoor
