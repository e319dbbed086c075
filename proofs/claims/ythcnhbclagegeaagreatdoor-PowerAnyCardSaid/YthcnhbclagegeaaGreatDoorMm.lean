/-
  What the functions that the law reaches do, one by one: contracts. Conditions: those that each of them prints.
-/
import Derived.Test.YthcnhbclagegeaaGreatDoorMi
import Derived.BigRegion
import Derived.Deep.QuietTactic
import Derived.BigQuiet
namespace Go.Proofs.YthcnhbclagegeaaGreatDoor
open Go.RowKit RelA
namespace RelA
def Zlz (E:List Ev) (i:Nat) (r:Int):Prop:=
 ((Ev.at E i).kd=1->∃ m:Nat,r=m/\m<E.length/\(Ev.at E m).kd=2/\(Ev.at E m).lc=(Ev.at E i).lc/\(Ev.at E m).vl=(Ev.at E i).vl)/\((Ev.at E i).kd≠1->r=-1)
end RelA
set_option maxRecDepth 20000 in
set_option maxHeartbeats 3200000 in
theorem Yku (g:Gr) (i:Nat) (w:World) (hes:EsIn w g.ea g.E) (hr:NsIn w g.ra g.R) (hi:i<g.E.length) (he:g.E.length<=100) (hle:g.E.length<=g.R.length) :
  Calls Tryz.prog 17 #[g.v,.int .i64 i] w fun e w'=>∃ x,e=.returned (.bool x)/\(x=true->Zlz g.E i (g.R.getD i 0))/\Below w.heap.size w w':=by
 have HG0:=jh (GBox.of_alloc w g 27)
 obtain⟨G,hG⟩:∃ G,G=g:=⟨_,rfl⟩
 obtain⟨locs,ea,E,ec,ra,R,rc,ca,C,cc,ma,Rmw,mc,da,Data,dc,ta,Ctrl,tc,ia,CtrlI,ic⟩:=g
 simp only[Gr.v,Zaw] at hes hr hi he hle HG0 ⊢
 rw[<- hG] at HG0
 have hii:(i:Int)<(E.length:Int):=by omega
 have hii2:(i:Int)<(R.length:Int):=by omega
 have hir:i<R.length:=by omega
 have hi9:(i:Int)<100:=by omega
 have HES:=jh hes
 have HR:=jh hr
 have HX0:Hid ((Ev.at E i).kd≠1->R.getD i 0=-1->Zlz E i (R.getD i 0)):=jh (fun u v=>⟨fun t=>absurd t u,fun _=>v⟩)
 have HX1:Hid (∀ m:Nat,(Ev.at E i).kd=1->R.getD i 0=m->m<E.length->(Ev.at E m).kd=2->(Ev.at E m).lc=(Ev.at E i).lc->(Ev.at E m).vl=(Ev.at E i).vl->Zlz E i (R.getD i 0)):=jh (fun m u v x y z t=>⟨fun _=>⟨m,v,x,y,z,t⟩,fun a=>absurd u a⟩)
 obtain⟨K,hK⟩:∃ K,K=Zlz E i (R.getD i 0):=⟨_,rfl⟩
 rw[<- hK] at HX0 HX1 ⊢
 clear hK
 clear hes hr hle
 go_enter Tryz.func17,Tryz.ntmps17
 go_wp2_with fail
 obtain⟨w1,hw1⟩:∃ x,x=w.alloc (Obj.cells #[.int .i64 locs,.slice ea E.length ec,.slice ra R.length rc,.slice ca C.length cc,.slice ma Rmw.length mc,.slice da Data.length dc,.slice ta Ctrl.length tc,.slice ia CtrlI.length ic] 27 (0,0)):=⟨_,rfl⟩
 rw[<- hw1] at HG0 ⊢
 have hs1:w1.heap.size=w.heap.size+1:=by rw[hw1];simp
 have HB1:Hid (Below w.heap.size w w1):=jh (by rw[hw1];exact jb)
 clear hw1
 have HE1:=HES.out.next HB1.out
 have HR1:=HR.out.next HB1.out
 obtain⟨c0,c1,c2,c3,c4,c5,c6,c7⟩:=HG0.out
 rw[hG] at c0 c1 c2 c3 c4 c5 c6 c7
 dsimp only at c0 c1 c2 c3 c4 c5 c6 c7
 clear hs1 HES HR c0 c3 c4 c5 c6 c7 HG0
 rcases HE1 with h0 | ⟨eb,eo,rfl,hebl,hecc⟩
 ·rw[h0] at hi;simp at hi
 ·rcases HR1 with h0 | ⟨rb,ro,rfl,hrbl,hrcc⟩
  ·rw[h0] at hir;simp at hir
  ·obtain⟨d0,d1,d2,d3,d4,d5⟩:=hecc i hi
   have r0:=hrcc i hir
   have HEC:=jh hecc
   clear hecc hrcc
   change _=some (Value.int _ (Ev.at E i).th) at d0
   change _=some (Value.int _ (Ev.at E i).kd) at d1
   change _=some (Value.int _ (Ev.at E i).md) at d2
   change _=some (Value.int _ (Ev.at E i).lc) at d3
   change _=some (Value.int _ (Ev.at E i).vl) at d4
   change _=some (Value.bool (Ev.at E i).ex) at d5
   generalize R.getD i 0=r at *
   obtain⟨ev,hev⟩:∃ ev,ev=Ev.at E i:=⟨_,rfl⟩
   rw[<- hev] at d0 d1 d2 d3 d4 d5 HX0 HX1
   clear hev
   obtain⟨x0,x1,x2,x3,x4,x5⟩:=ev
   dsimp only at d0 d1 d2 d3 d4 d5 HX0 HX1
   have z1:∀ o,Below w1.heap.size w1 (w1.alloc o):=fun o=>(Below.refl _ _).alloc (Nat.le_refl _) o
   have c1z:=fun o=>Zaa c1 (z1 o)
   have c2z:=fun o=>Zaa c2 (z1 o)
   have r0z:=fun o=>Zaa r0 (z1 o)
   have d0z:=fun o=>Zaa d0 (z1 o)
   have d1z:=fun o=>Zaa d1 (z1 o)
   have d2z:=fun o=>Zaa d2 (z1 o)
   have d3z:=fun o=>Zaa d3 (z1 o)
   have d4z:=fun o=>Zaa d4 (z1 o)
   have d5z:=fun o=>Zaa d5 (z1 o)
   have HZ:=jh (fun o=>Zab HB1.out (z1 o))
   clear z1 HB1
   have HZZ:=jh (fun o o'=>Zab (HZ.out o) ((Below.refl _ _).alloc (Nat.le_refl _) o'))
   have HZD:=jh (fun o=>(HZ.out o).drew)
   by_cases e1:x1=1
   ·subst e1
    by_cases e2:r<0
    ·have l2:decide (r<0)=true:=by simp[e2]
     clear HX0 HX1 HEC
     go_wp2_with fail
     go_region
     go_wp2_with fail
     go_ret
     exact⟨false,rfl,(fun hx=>by cases hx),HZD.out _⟩
    ·have l2:decide (r<0)=false:=by simp[e2]
     by_cases e3:(E.length:Int)<=r
     ·have l3:decide ((E.length:Int)<=r)=true:=by simp[e3]
      clear HX0 HX1 HEC
      go_wp2_with fail
      go_region
      go_wp2_with fail
      go_ret
      exact⟨false,rfl,(fun hx=>by cases hx),HZD.out _⟩
     ·have l3:decide ((E.length:Int)<=r)=false:=by simp[e3]
      obtain⟨m,rfl⟩:=Int.eq_ofNat_of_zero_le (show 0<=r by omega)
      have hm:m<E.length:=by omega
      have hmi:(m:Int)<(E.length:Int):=by omega
      obtain⟨f0,f1,f2,f3,f4,f5⟩:=HEC.out m hm
      have HX2:=jh (fun u v x=>HX1.out m rfl rfl hm u v x)
      clear HEC HX0 HX1
      change _=some (Value.int _ (Ev.at E m).th) at f0
      change _=some (Value.int _ (Ev.at E m).kd) at f1
      change _=some (Value.int _ (Ev.at E m).md) at f2
      change _=some (Value.int _ (Ev.at E m).lc) at f3
      change _=some (Value.int _ (Ev.at E m).vl) at f4
      change _=some (Value.bool (Ev.at E m).ex) at f5
      generalize Ev.at E m=fv at *
      obtain⟨y0,y1,y2,y3,y4,y5⟩:=fv
      dsimp only at f0 f1 f2 f3 f4 f5 HX2
      have z1:∀ o,Below w1.heap.size w1 (w1.alloc o):=fun o=>(Below.refl _ _).alloc (Nat.le_refl _) o
      have f0z:=fun o=>Zaa f0 (z1 o)
      have f1z:=fun o=>Zaa f1 (z1 o)
      have f2z:=fun o=>Zaa f2 (z1 o)
      have f3z:=fun o=>Zaa f3 (z1 o)
      have f4z:=fun o=>Zaa f4 (z1 o)
      have f5z:=fun o=>Zaa f5 (z1 o)
      have HQ:Hid (∀ o o',Below w.heap.size w ((w1.alloc o).drew.alloc o')):=jh (fun o o'=>Zab (HZD.out o) ((Below.refl _ _).alloc (Nat.le_refl _) o'))
      clear z1
      by_cases e4:y1=2
      ·subst e4
       by_cases e5:y3=x3
       ·subst e5
        have l5:(y3==y3)=true:=by simp
        by_cases e6:y4=x4
        ·subst e6
         have l6:(y4==y4)=true:=by simp
         have HK:=jh (HX2.out rfl rfl rfl)
         go_wp2_with fail
         go_region
         go_wp2_with fail
         go_ret
         exact⟨true,rfl,(fun _=>HK.out),HQ.out _ _⟩
        ·have l6:(y4==x4)=false:=by simp[e6]
         clear HX2
         go_wp2_with fail
         go_region
         go_wp2_with fail
         go_ret
         exact⟨false,rfl,(fun hx=>by cases hx),HQ.out _ _⟩
       ·have l5:(y3==x3)=false:=by simp[e5]
        clear HX2
        go_wp2_with fail
        go_region
        go_wp2_with fail
        go_ret
        exact⟨false,rfl,(fun hx=>by cases hx),HQ.out _ _⟩
      ·have l4:(y1==2)=false:=by simp[e4]
       clear HX2
       go_wp2_with fail
       go_region
       go_wp2_with fail
       go_ret
       exact⟨false,rfl,(fun hx=>by cases hx),HQ.out _ _⟩
   ·have l1:(x1==1)=false:=by simp[e1]
    by_cases e2:r=-1
    ·have HK:=jh (HX0.out e1 e2)
     subst e2
     clear HX0 HX1 HEC
     go_wp2_with fail
     go_region
     go_wp2_with fail
     go_ret
     exact⟨true,rfl,(fun _=>HK.out),HZD.out _⟩
    ·have l2:(r == -1)=false:=by simp[e2]
     clear HX0 HX1 HEC
     go_wp2_with fail
     go_region
     go_wp2_with fail
     go_ret
     exact⟨false,rfl,(fun hx=>by cases hx),HZD.out _⟩
end Go.Proofs.YthcnhbclagegeaaGreatDoor
