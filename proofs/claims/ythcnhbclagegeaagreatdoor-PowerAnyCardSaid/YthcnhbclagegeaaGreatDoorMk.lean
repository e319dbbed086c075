/-
  What the functions that the law reaches do, one by one: contracts. Conditions: those that each of them prints.
-/
import Derived.Test.YthcnhbclagegeaaGreatDoorMi
import Derived.BigRegion
namespace Go.Proofs.YthcnhbclagegeaaGreatDoor
open Go.RowKit RelA
namespace RelA
def Zt5 (locs:Int) (i:Nat) (e p:Ev):Bool:=
 if (i:Int)<locs then (((((e.th==0)&&(e.kd==2))&&(e.md==0))&&(e.lc==(i:Int)))&&(e.vl==0))&&!e.ex
 else if ((decide (e.th<1))||(decide (4<e.th)))||(decide (0<(i:Int))&&decide (e.th<p.th)) then false
 else if e.kd==1 then (decide (0<=e.lc)&&decide (e.lc<locs))&&((e.md==0)||(e.md==1))
 else if e.kd==2 then (decide (0<=e.lc)&&decide (e.lc<locs))&&((e.md==0)||(e.md==2))
 else if e.kd==3 then ((((decide (1<=e.md)&&decide (e.md<=4))&&(e.lc==0))&&(e.vl==0))&&!e.ex)
 else false
def Zk6 (g:Gr) (i:Nat):Bool:=Zt5 g.locs i (Ev.at g.E i) (Ev.at g.E (i-1))
end RelA
set_option maxRecDepth 20000 in
set_option maxHeartbeats 3200000 in
theorem Zoy (g:Gr) (i:Nat) (w:World) (h:EsIn w g.ea g.E) (hi:i<g.E.length) (he:g.E.length<=100) :
  Calls Tryz.prog 16 #[g.v,.int .i64 i] w fun e w'=>e=.returned (.bool (Zk6 g i))/\Below w.heap.size w w':=by
 unfold Zk6
 have HG0:=jh (GBox.of_alloc w g 27)
 obtain⟨G,hG⟩:∃ G,G=g:=⟨_,rfl⟩
 obtain⟨locs,ea,E,ec,ra,R,rc,ca,C,cc,ma,Rmw,mc,da,Data,dc,ta,Ctrl,tc,ia,CtrlI,ic⟩:=g
 simp only[Gr.v,Zaw] at h hi he HG0 ⊢
 rw[<- hG] at HG0
 have hii:(i:Int)<(E.length:Int):=by omega
 have hi100:(i:Int)<100:=by omega
 have z1:∀ o,Below w.heap.size w (w.alloc o):=fun o=>(Below.refl _ _).alloc (Nat.le_refl _) o
 have z2:∀ o o',Below w.heap.size w ((w.alloc o).alloc o'):=fun o o'=>Zab (z1 o) ((Below.refl _ _).alloc (Nat.le_refl _) o')
 have HBz:=jh z2
 have HBd:=jh (fun o o'=>(z2 o o').drew)
 rcases h with h0 | ⟨b,o,rfl,hbl,hcc⟩
 ·rw[h0] at hi;simp at hi
 ·have hlt1:i-1<E.length:=by omega
  obtain⟨d0,d1,d2,d3,d4,d5⟩:=hcc i hi
  have q0:=(hcc (i-1) hlt1).c0
  have c1:=HG0.out.c1
  rw[hG] at c1
  clear hcc HG0
  change _=some (Value.int _ (Ev.at E i).th) at d0
  change _=some (Value.int _ (Ev.at E i).kd) at d1
  change _=some (Value.int _ (Ev.at E i).md) at d2
  change _=some (Value.int _ (Ev.at E i).lc) at d3
  change _=some (Value.int _ (Ev.at E i).vl) at d4
  change _=some (Value.bool (Ev.at E i).ex) at d5
  change _=some (Value.int _ (Ev.at E (i-1)).th) at q0
  generalize Ev.at E i=ev at *
  generalize Ev.at E (i-1)=pv at *
  obtain⟨x0,x1,x2,x3,x4,x5⟩:=ev
  obtain⟨p0,p1,p2,p3,p4,p5⟩:=pv
  dsimp only at d0 d1 d2 d3 d4 d5 q0 c1
  have q0z:=fun o o'=>Zaa q0 (z2 o o')
  have c1z:=fun o'=>Zaa c1 ((Below.refl _ _).alloc (Nat.le_refl _) o')
  clear z1 z2 q0 c1
  by_cases e1:(i:Int)<locs
  ·go_enter Tryz.func16,Tryz.ntmps16
   go_wp2_with fail
   all_goals go_ret
   all_goals refine⟨?_,HBz.out _ _⟩
   all_goals (show Ending.returned (Value.bool _)=Ending.returned (Value.bool _);congr 2;unfold Zt5;simp[*])
  ·have l1:decide ((i:Int)<locs)=false:=by simp[e1]
   by_cases e2:x0<1
   ·have l2:decide (x0<1)=true:=by simp[e2]
    go_enter Tryz.func16,Tryz.ntmps16
    go_wp2_with fail
    go_region
    all_goals go_wp2_with fail
    all_goals go_ret
    all_goals refine⟨?_,HBd.out _ _⟩
    all_goals (show Ending.returned (Value.bool _)=Ending.returned (Value.bool _);congr 2;unfold Zt5;rw[if_neg (by omega)];simp[*]<;>(try intros)<;>omega)
   ·have l2:decide (x0<1)=false:=by simp[e2]
    by_cases e3:4<x0
    ·have l3:decide (4<x0)=true:=by simp[e3]
     go_enter Tryz.func16,Tryz.ntmps16
     go_wp2_with fail
     go_region
     all_goals go_wp2_with fail
     all_goals go_ret
     all_goals refine⟨?_,HBd.out _ _⟩
     all_goals (show Ending.returned (Value.bool _)=Ending.returned (Value.bool _);congr 2;unfold Zt5;rw[if_neg (by omega)];simp[*]<;>(try intros)<;>omega)
    ·have l3:decide (4<x0)=false:=by simp[e3]
     by_cases e4:0<i
     ·have l4:decide (0<(i:Int))=true:=by simp[e4]
      have hsub:(i:Int)-1=((i-1:Nat):Int):=by omega
      have hsb2:((i-1:Nat):Int)<(E.length:Int):=by omega
      have hsb3:(0:Int)<=((i-1:Nat):Int):=by omega
      by_cases e5:x0<p0
      ·have l5:decide (x0<p0)=true:=by simp[e5]
       go_enter Tryz.func16,Tryz.ntmps16
       go_wp2_with fail
       go_region
       all_goals go_wp2_with fail
       all_goals go_ret
       all_goals refine⟨?_,HBd.out _ _⟩
       all_goals (show Ending.returned (Value.bool _)=Ending.returned (Value.bool _);congr 2;unfold Zt5;rw[if_neg (by omega)];simp[*]<;>(try intros)<;>omega)
      ·have l5:decide (x0<p0)=false:=by simp[e5]
       go_enter Tryz.func16,Tryz.ntmps16
       go_wp2_with fail
       go_region
       all_goals go_wp2_with fail
       all_goals go_ret
       all_goals refine⟨?_,HBd.out _ _⟩
       all_goals (show Ending.returned (Value.bool _)=Ending.returned (Value.bool _);congr 2;unfold Zt5;rw[if_neg (by omega)];simp[*]<;>(try intros)<;>omega)
     ·have l4:decide (0<(i:Int))=false:=by simp;omega
      go_enter Tryz.func16,Tryz.ntmps16
      go_wp2_with fail
      go_region
      all_goals go_wp2_with fail
      all_goals go_ret
      all_goals refine⟨?_,HBd.out _ _⟩
      all_goals (show Ending.returned (Value.bool _)=Ending.returned (Value.bool _);congr 2;unfold Zt5;rw[if_neg (by omega)];simp[*]<;>(try intros)<;>omega)
end Go.Proofs.YthcnhbclagegeaaGreatDoor
