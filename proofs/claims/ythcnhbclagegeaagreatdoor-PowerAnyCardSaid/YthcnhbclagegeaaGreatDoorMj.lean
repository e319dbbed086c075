/-
  What the functions that the law reaches do, one by one: contracts. Conditions: those that each of them prints.
-/
import Derived.Test.YthcnhbclagegeaaGreatDoorMi
import Derived.BigRegion
import Derived.Deep.RegionHeld3
set_option maxRecDepth 20000
set_option maxHeartbeats 3200000
namespace Go.Proofs.YthcnhbclagegeaaGreatDoor
open Go.RowKit RelA
section
attribute [local irreducible] RelA.rcells
namespace RelA
def Zg8 (N k q:Nat) (F M0:Nat->Nat->Bool):Nat->Nat->Bool:=fun i j=>if (i<k/\j<N)∨(i=k/\j<q) then F i j else M0 i j
theorem Ztp (N:Nat) (F M0:Nat->Nat->Bool) (i j:Nat):Zg8 N 0 0 F M0 i j=M0 i j:=by unfold Zg8;rw[if_neg (by omega)]
theorem Ybu (N k q:Nat) (F M0:Nat->Nat->Bool):Zg8 N k q F M0 k q=M0 k q:=by unfold Zg8;rw[if_neg (by omega)]
theorem Ztq (N k q:Nat) (F M0:Nat->Nat->Bool) (i j:Nat):Zkw (Zg8 N k q F M0) k q (F k q) i j=Zg8 N k (q+1) F M0 i j:=by
 unfold Zkw Zg8
 by_cases h:i=k/\j=q
 ·rw[if_pos h];obtain⟨rfl,rfl⟩:=h;rw[if_pos (by omega)]
 ·rw[if_neg h]
  by_cases h1:(i<k/\j<N)∨(i=k/\j<q)
  ·rw[if_pos h1,if_pos (by omega)]
  ·rw[if_neg h1,if_neg (by omega)]
theorem Zx0 (N k:Nat) (F M0:Nat->Nat->Bool) (i j:Nat):Zg8 N k N F M0 i j=Zg8 N (k+1) 0 F M0 i j:=by
 unfold Zg8
 by_cases h1:(i<k/\j<N)∨(i=k/\j<N)
 ·rw[if_pos h1,if_pos (by omega)]
 ·rw[if_neg h1,if_neg (by omega)]
theorem Zhu (w:World) (t:TypeId) (cs cs2:Array Value) (j:Nat):((w.alloc (.cells cs t (0,0))).alloc (.cells cs2 t (0,0))).cell? ⟨w.heap.size,j,none⟩=cs[j]?:=by
 have hb:Below (w.alloc (.cells cs t (0,0))).heap.size (w.alloc (.cells cs t (0,0))) ((w.alloc (.cells cs t (0,0))).alloc (.cells cs2 t (0,0))):=jb
 have h1:=hb.cell (p:=⟨w.heap.size,j,none⟩) (by simp)
 rw[h1,cell_of_row _ _ _ _ _ _ (heap_alloc_new _ _)]
theorem Zfz (w:World) (t:TypeId) (cs cs2:Array Value) (j:Nat):((w.alloc (.cells cs t (0,0))).alloc (.cells cs2 t (0,0))).cell? ⟨w.heap.size+1,j,none⟩=cs2[j]?:=by
 have e:w.heap.size+1=(w.alloc (.cells cs t (0,0))).heap.size:=by simp
 rw[e,cell_of_row _ _ _ _ _ _ (heap_alloc_new _ _)]
theorem Zjy (E:List Ev):WFM E.length (Zg1 E):=fun i j a=>by
 unfold Zg1 at a;rw[Bool.and_eq_true] at a;exact Zst E i j a.1
theorem Ztr (E:List Ev) (k:Nat) (h:k=E.length) (i j:Nat):Zg8 E.length k 0 (Zg1 E) (poM E) i j=Zg1 E i j:=by
 unfold Zg8
 split
 ·rfl
 ·rename_i h1
  have h2:poM E i j=false:=by
   rw[<- Bool.not_eq_true]
   intro a
   have:=Zst E i j a
   omega
  unfold Zg1
  rw[h2];rfl
end RelA
theorem Ykt (g:Gr) (w:World) (h:EsIn w g.ea g.E) (he:g.E.length<=40) (hth:Ynv g.E) :
  Calls Tryz.prog 98 #[g.v] w (Zcw g.n (Zg1 g.E) w):=by
 have HPO:=jh (fun w' (hb:Below w.heap.size w w')=>Yc0 g w' (h.next hb) he)
 rw[Yc7 hth] at HPO
 have HG0:=jh (GBox.of_alloc w g 27)
 obtain⟨G,hG⟩:∃ G,G=g:=⟨_,rfl⟩
 obtain⟨locs,ea,E,ec,ra,R,rc,ca,C,cc,ma,Rmw,mc,da,Data,dc,ta,Ctrl,tc,ia,CtrlI,ic⟩:=g
 simp only[Gr.v,Gr.n,Zaw] at he h HPO HG0 ⊢
 rw[<- hG] at HG0
 have HI:=jh h
 clear h hth
 go_enter Tryz.func98,Tryz.ntmps98
 go_wp2_with fail
 obtain⟨w1,hw1⟩:∃ x,x=w.alloc (Obj.cells #[.int .i64 locs,.slice ea E.length ec,.slice ra R.length rc,.slice ca C.length cc,.slice ma Rmw.length mc,.slice da Data.length dc,.slice ta Ctrl.length tc,.slice ia CtrlI.length ic] 27 (0,0)):=⟨_,rfl⟩
 rw[<- hw1] at HG0 ⊢
 have hs1:w1.heap.size=w.heap.size+1:=by rw[hw1];simp
 have HB1:Hid (Below w.heap.size w w1):=jh (by rw[hw1];exact jb)
 clear hw1
 have HI1:=jh (HI.out.next HB1.out)
 clear HI hs1
 refine(HPO.out w1 HB1.out).mono ?_
 rintro e w2 ⟨rb,rfl,hle,hat,hbe1⟩
 have HAT1:=jh hat
 have HBE1:=jh hbe1
 have HLE:=jh hle
 clear hat hbe1 hle
 go_wp2_with fail
 go_loopw [4] (fun x wr=>∃ k:Nat,k<=E.length/\x=.int .i64 k/\RAt wr rb E.length (Zg8 E.length k 0 (Zg1 E) (poM E))/\Below w1.heap.size w1 wr) (fun x _=>E.length-(intOf x).toNat)
 case atStart=>exact⟨0,Nat.zero_le _,rfl,HAT1.out.congr fun i j _ _=>(Ztp _ _ _ i j).symm,HBE1.out⟩
 case round=>
  obtain⟨k,hk,rfl,hat,hbe⟩:=hrel
  have hr0:=hat.c0
  by_cases hlt:k<E.length
  ·obtain⟨wo,rfl⟩:∃ wo:World,wo=wr:=⟨_,rfl⟩
   have hdk:decide ((k:Int)<(E.length:Int))=true:=by simp;omega
   have hki:(k:Int)<(E.length:Int):=by omega
   have hk40:(k:Int)<40:=by omega
   have HAT:=jh hat
   clear hat
   go_wp2_with fail
   clear hr0
   go_loopw [5] (fun x wi=>∃ q:Nat,q<=E.length/\x=.int .i64 q/\RAt wi rb E.length (Zg8 E.length k q (Zg1 E) (poM E))/\Below w1.heap.size w1 wi) (fun x _=>E.length-(intOf x).toNat)
   case atStart=>exact⟨0,Nat.zero_le _,rfl,HAT.out,hbe⟩
   case round=>
    obtain⟨q,hq,rfl,hati,hbi⟩:=hrel
    have hr0:=hati.c0
    by_cases hql:q<E.length
    ·have hdq:decide ((q:Int)<(E.length:Int))=true:=by simp;omega
     have hqi:(q:Int)<(E.length:Int):=by omega
     have hq40:(q:Int)<40:=by omega
     have HST:=jh (Ztq E.length k q (Zg1 E) (poM E))
     have hX:Zg1 E k q=(poM E k q&&Ycb (Ev.at E k) (Ev.at E q)):=rfl
     obtain⟨c0,c1,c2,c3,c4,c5,c6,c7⟩:=HG0.out.next hbi
     rw[hG] at c0 c1 c2 c3 c4 c5 c6 c7
     dsimp only at c0 c1 c2 c3 c4 c5 c6 c7
     clear c0 c2 c3 c4 c5 c6 c7
     rcases HI1.out.next hbi with h0 | ⟨b,o,rfl,hbl,hcc⟩
     ·rw[h0] at hlt;simp at hlt
     ·obtain⟨d0,d1,d2,d3,d4,d5⟩:=hcc k hlt
      obtain⟨f0,f1,f2,f3,f4,f5⟩:=hcc q hql
      clear hcc
      change _=some (Value.int _ (Ev.at E k).th) at d0
      change _=some (Value.int _ (Ev.at E k).kd) at d1
      change _=some (Value.int _ (Ev.at E k).md) at d2
      change _=some (Value.int _ (Ev.at E k).lc) at d3
      change _=some (Value.int _ (Ev.at E k).vl) at d4
      change _=some (Value.bool (Ev.at E k).ex) at d5
      change _=some (Value.int _ (Ev.at E q).th) at f0
      change _=some (Value.int _ (Ev.at E q).kd) at f1
      change _=some (Value.int _ (Ev.at E q).md) at f2
      change _=some (Value.int _ (Ev.at E q).lc) at f3
      change _=some (Value.int _ (Ev.at E q).vl) at f4
      change _=some (Value.bool (Ev.at E q).ex) at f5
      generalize Ev.at E k=ev at *
      generalize Ev.at E q=fv at *
      obtain⟨x0,x1,x2,x3,x4,x5⟩:=ev
      obtain⟨y0,y1,y2,y3,y4,y5⟩:=fv
      unfold Ycb at hX
      dsimp only at d0 d1 d2 d3 d4 d5 f0 f1 f2 f3 f4 f5 hX
      have z1:∀ o,Below wr.heap.size wr (wr.alloc o):=fun o=>(Below.refl _ _).alloc (Nat.le_refl _) o
      have z2:∀ o o',Below wr.heap.size wr ((wr.alloc o).alloc o'):=fun o o'=>Zab (z1 o) ((Below.refl _ _).alloc (Nat.le_refl _) o')
      have c1z:=fun o=>Zaa c1 (z1 o)
      have c1zz:=fun o o'=>Zaa c1 (z2 o o')
      have d0z:=fun o=>Zaa d0 (z1 o)
      have d0zz:=fun o o'=>Zaa d0 (z2 o o')
      have d1z:=fun o=>Zaa d1 (z1 o)
      have d1zz:=fun o o'=>Zaa d1 (z2 o o')
      have d2z:=fun o=>Zaa d2 (z1 o)
      have d2zz:=fun o o'=>Zaa d2 (z2 o o')
      have d3z:=fun o=>Zaa d3 (z1 o)
      have d3zz:=fun o o'=>Zaa d3 (z2 o o')
      have d4z:=fun o=>Zaa d4 (z1 o)
      have d4zz:=fun o o'=>Zaa d4 (z2 o o')
      have d5z:=fun o=>Zaa d5 (z1 o)
      have d5zz:=fun o o'=>Zaa d5 (z2 o o')
      have f0z:=fun o=>Zaa f0 (z1 o)
      have f0zz:=fun o o'=>Zaa f0 (z2 o o')
      have f1z:=fun o=>Zaa f1 (z1 o)
      have f1zz:=fun o o'=>Zaa f1 (z2 o o')
      have f2z:=fun o=>Zaa f2 (z1 o)
      have f2zz:=fun o o'=>Zaa f2 (z2 o o')
      have f3z:=fun o=>Zaa f3 (z1 o)
      have f3zz:=fun o o'=>Zaa f3 (z2 o o')
      have f4z:=fun o=>Zaa f4 (z1 o)
      have f4zz:=fun o o'=>Zaa f4 (z2 o o')
      have f5z:=fun o=>Zaa f5 (z1 o)
      have f5zz:=fun o o'=>Zaa f5 (z2 o o')
      have HATI:=jh hati
      have hr0':=fun o o'=>((hati.alloc o).alloc o').c0
      have hd:=fun o o'=>((hati.alloc o).alloc o').ci k q (by omega) (by omega)
      rw[Ybu] at hd
      have hfz:=fun o o'=>((hati.alloc o).alloc o').frozen (1+k*40+q)
      have hsw:=hbi.size
      have HBZ:=jh (fun o o'=>((hbi.alloc hsw o).trans ((Below.refl _ _).alloc (by simp;omega) o')))
      clear hati z1 z2
      generalize poM E k q=mv at *
      have a1:=(Zhu wr 53 #[.int .i64 x0,.int .i64 x1,.int .i64 x2,.int .i64 x3,.int .i64 x4,.bool x5] #[.int .i64 y0,.int .i64 y1,.int .i64 y2,.int .i64 y3,.int .i64 y4,.bool y5])
      have a2:=(Zfz wr 53 #[.int .i64 x0,.int .i64 x1,.int .i64 x2,.int .i64 x3,.int .i64 x4,.bool x5] #[.int .i64 y0,.int .i64 y1,.int .i64 y2,.int .i64 y3,.int .i64 y4,.bool y5])
      have b1:=(Zhu wr 53 #[.int .i64 y0,.int .i64 y1,.int .i64 y2,.int .i64 y3,.int .i64 y4,.bool y5] #[.int .i64 x0,.int .i64 x1,.int .i64 x2,.int .i64 x3,.int .i64 x4,.bool x5])
      have b2:=(Zfz wr 53 #[.int .i64 y0,.int .i64 y1,.int .i64 y2,.int .i64 y3,.int .i64 y4,.bool y5] #[.int .i64 x0,.int .i64 x1,.int .i64 x2,.int .i64 x3,.int .i64 x4,.bool x5])
      have hx1:=a1 1
      have hx3:=a1 3
      have hy1:=a2 1
      have hy3:=a2 3
      have gx1:=b2 1
      have gx3:=b2 3
      have gy1:=b1 1
      have gy3:=b1 3
      simp only[List.getElem?_toArray,List.getElem?_cons_succ,List.getElem?_cons_zero] at hx1 hx3 hy1 hy3 gx1 gx3 gy1 gy3
      clear a1 a2 b1 b2
      go_wp2_with fail
      go_region
      all_goals clear c1z c1zz d0z d0zz d1z d1zz d2z d2zz d3z d3zz d4z d4zz d5z d5zz f0z f0zz f1z f1zz f2z f2zz f3z f3zz f4z f4zz f5z f5zz
      all_goals
       cases mv
       ·have HX:Hid (Zg1 E k q=false):=jh (by rw[hX];rfl)
        clear hX
        go_wp2_with fail
        go_region
        go_wp2_with fail
        go_roundw
        case rel=>
         refine⟨q+1,by omega,by go_num,?_,((HBZ.out _ _).setCell (p:=⟨rb,1+k*40+q,none⟩) HLE.out _).drew.drew⟩
         have HSV:=HST.out
         rw[HX.out] at HSV
         exact RAt.drew (RAt.drew (RAt.congr (RAt.set (RAt.alloc (RAt.alloc HATI.out _) _) k q _ (by omega) (by omega)) fun i j _ _=>HSV i j))
        case measure=>simp[intOf];omega
       ·cases e1:(x1 !=3)
        ·have HX:Hid (Zg1 E k q=false):=jh (by rw[hX,e1];rfl)
         clear hX
         go_wp2_with fail
         go_region
         go_wp2_with fail
         go_roundw
         case rel=>
          refine⟨q+1,by omega,by go_num,?_,((HBZ.out _ _).setCell (p:=⟨rb,1+k*40+q,none⟩) HLE.out _).drew.drew⟩
          have HSV:=HST.out
          rw[HX.out] at HSV
          exact RAt.drew (RAt.drew (RAt.congr (RAt.set (RAt.alloc (RAt.alloc HATI.out _) _) k q _ (by omega) (by omega)) fun i j _ _=>HSV i j))
         case measure=>simp[intOf];omega
        ·cases e2:(y1 !=3)
         ·have HX:Hid (Zg1 E k q=false):=jh (by rw[hX,e1,e2];rfl)
          clear hX
          go_wp2_with fail
          go_region
          go_wp2_with fail
          go_roundw
          case rel=>
           refine⟨q+1,by omega,by go_num,?_,((HBZ.out _ _).setCell (p:=⟨rb,1+k*40+q,none⟩) HLE.out _).drew.drew⟩
           have HSV:=HST.out
           rw[HX.out] at HSV
           exact RAt.drew (RAt.drew (RAt.congr (RAt.set (RAt.alloc (RAt.alloc HATI.out _) _) k q _ (by omega) (by omega)) fun i j _ _=>HSV i j))
          case measure=>simp[intOf];omega
         ·cases e3:(x3==y3)
          ·have HX:Hid (Zg1 E k q=false):=jh (by rw[hX,e1,e2,e3];rfl)
           clear hX
           go_wp2_with fail
           go_region
           go_wp2_with fail
           go_roundw
           case rel=>
            refine⟨q+1,by omega,by go_num,?_,((HBZ.out _ _).setCell (p:=⟨rb,1+k*40+q,none⟩) HLE.out _).drew.drew⟩
            have HSV:=HST.out
            rw[HX.out] at HSV
            exact RAt.drew (RAt.drew (RAt.congr (RAt.set (RAt.alloc (RAt.alloc HATI.out _) _) k q _ (by omega) (by omega)) fun i j _ _=>HSV i j))
           case measure=>simp[intOf];omega
          ·have HX:Hid (Zg1 E k q=true):=jh (by rw[hX,e1,e2,e3];rfl)
           clear hX
           go_wp2_with fail
           go_region
           go_wp2_with fail
           go_roundw
           case rel=>
            refine⟨q+1,by omega,by go_num,?_,((HBZ.out _ _).setCell (p:=⟨rb,1+k*40+q,none⟩) HLE.out _).drew.drew⟩
            have HSV:=HST.out
            rw[HX.out] at HSV
            exact RAt.drew (RAt.drew (RAt.congr (RAt.set (RAt.alloc (RAt.alloc HATI.out _) _) k q _ (by omega) (by omega)) fun i j _ _=>HSV i j))
           case measure=>simp[intOf];omega
    ·have hqN:q=E.length:=by omega
     have HQ:=jh hqN
     have hdq:decide ((q:Int)<(E.length:Int))=false:=by simp;omega
     have HATI:=jh hati
     clear hqN hati
     go_wp2_with fail
     go_roundw
     case rel=>
      refine⟨k+1,by omega,by go_num,?_,hbi⟩
      have h1:=HATI.out
      rw[HQ.out] at h1
      exact h1.congr fun i j _ _=>Zx0 E.length k _ _ i j
     case measure=>simp[intOf];omega
  ·have hkN:k=E.length:=by omega
   have HKN:=jh hkN
   have hdk:decide ((k:Int)<(E.length:Int))=false:=by simp;omega
   have HAT:=jh hat
   have HBf:=jh (Zab HB1.out hbe)
   clear hkN hat
   go_wp2_with fail
   go_ret
   exact⟨_,rfl,⟨HAT.out.congr fun i j _ _=>Ztr E k HKN.out i j,Zjy E⟩,Nat.le_trans HB1.out.size HLE.out,HBf.out⟩
end
section
attribute [local irreducible] RelA.rcells
theorem Yip (g:Gr) (w:World) (h:LsIn w g.ca g.C) (he:g.E.length<=40) (h4:g.C.length<=4) (hk:ROk g) (h40:∀ q,q<g.C.length->(g.C.getD q Ls.zero).L.length<=40) :
  Calls Tryz.prog 108 #[g.v] w (Zcw g.n (coM g) w):=by
 have hF:coM g=ofM g.n (Zdj g.C g.C.length):=rfl
 rw[hF]
 clear hF
 have hclt:=hk.clt
 clear hk
 have HG0:=jh (GBox.of_alloc w g 27)
 obtain⟨G,hG⟩:∃ G,G=g:=⟨_,rfl⟩
 obtain⟨locs,ea,E,ec,ra,R,rc,ca,C,cc,ma,Rmw,mc,da,Data,dc,ta,Ctrl,tc,ia,CtrlI,ic⟩:=g
 simp only[Gr.v,Gr.n,Zaw] at he h h4 hclt h40 HG0 ⊢
 rw[<- hG] at HG0
 have HI:=jh h
 have HLT:=jh hclt
 have H40:=jh h40
 clear h hclt h40
 go_enter Tryz.func108,Tryz.ntmps108
 go_wp2_with fail
 obtain⟨w1,hw1⟩:∃ x,x=w.alloc (Obj.cells #[.int .i64 locs,.slice ea E.length ec,.slice ra R.length rc,.slice ca C.length cc,.slice ma Rmw.length mc,.slice da Data.length dc,.slice ta Ctrl.length tc,.slice ia CtrlI.length ic] 27 (0,0)):=⟨_,rfl⟩
 rw[<- hw1] at HG0 ⊢
 have hs1:w1.heap.size=w.heap.size+1:=by rw[hw1];simp
 have HB1:Hid (Below w.heap.size w w1):=jh (by rw[hw1];exact jb)
 clear hw1
 have HI1:=jh (HI.out.next HB1.out)
 clear HI hs1
 refine(Zik E.length w1 he).mono ?_
 rintro e w2 ⟨rfl,hat,hbe1⟩
 have HAT1:=jh hat
 have HBE1:=jh hbe1
 clear hat hbe1
 go_wp2_with fail
 go_loopw [4] (fun x wr=>∃ t:Nat,t<=C.length/\x=.int .i64 t/\RAt wr w1.heap.size E.length (ofM E.length (Zdj C t))/\Below w1.heap.size w1 wr) (fun x _=>C.length-(intOf x).toNat)
 case atStart=>exact⟨0,Nat.zero_le _,rfl,HAT1.out,HBE1.out⟩
 case round=>
  obtain⟨t,htC,rfl,hat,hbe⟩:=hrel
  obtain⟨c0,c1,c2,c3,c4,c5,c6,c7⟩:=HG0.out.next hbe
  rw[hG] at c0 c1 c2 c3 c4 c5 c6 c7
  dsimp only at c0 c1 c2 c3 c4 c5 c6 c7
  clear c0 c1 c2 c4 c5 c6 c7
  by_cases hlt:t<C.length
  ·obtain⟨wo,rfl⟩:∃ wo:World,wo=wr:=⟨_,rfl⟩
   have hdk:decide ((t:Int)<(C.length:Int))=true:=by simp;omega
   have hki:(t:Int)<(C.length:Int):=by omega
   have ht4:(t:Int)<4:=by omega
   have HAT:=jh hat
   clear hat
   rcases HI1.out with h0 | ⟨b,o,rfl,hbl,hcq⟩
   ·rw[h0] at hlt;simp at hlt
   ·obtain⟨d0,hns,hlc⟩:=hcq t hlt
    have hL40:=H40.out t hlt
    have HS:=jh (Zit C t)
    have HLX:=jh (HLT.out t hlt)
    clear hcq
    generalize C.getD t Ls.zero=ls at *
    obtain⟨la,L,lc⟩:=ls
    dsimp only at d0 hns hL40 HS hlc HLX
    have HNS:=jh hns
    have D0:=jh d0
    clear hns d0
    go_wp2_with fail
    clear c3
    go_loopw [5] (fun x wi=>∃ k:Nat,k<=L.length/\x=.int .i64 k/\RAt wi w1.heap.size E.length (ofM E.length (Zdj C t++Zeb L k))/\Below w1.heap.size w1 wi) (fun x _=>L.length-(intOf x).toNat)
    case atStart=>exact⟨0,Nat.zero_le _,rfl,by simp only[Zeb,List.range_zero,List.flatMap_nil,List.append_nil];exact HAT.out,hbe⟩
    case round=>
     obtain⟨k,hk,rfl,hati,hbi⟩:=hrel
     obtain⟨c0,c1,c2,c3,c4,c5,c6,c7⟩:=HG0.out.next hbi
     rw[hG] at c0 c1 c2 c3 c4 c5 c6 c7
     dsimp only at c0 c1 c2 c3 c4 c5 c6 c7
     clear c0 c1 c2 c4 c5 c6 c7
     have d0:=Zaa D0.out hbi
     by_cases hkl:k<L.length
     ·obtain⟨wo2,rfl⟩:∃ wo2:World,wo2=wr:=⟨_,rfl⟩
      have hdk2:decide ((k:Int)<(L.length:Int))=true:=by simp;omega
      have hki2:(k:Int)<(L.length:Int):=by omega
      have hk40:(k:Int)<40:=by omega
      have HATI:=jh hati
      have HS2:=jh (Zis L k)
      clear hati
      go_wp2_with fail
      clear c3 d0
      go_loopw [6] (fun x wj=>∃ q:Nat,k+1<=q/\q<=L.length/\x=.int .i64 q/\RAt wj w1.heap.size E.length (ofM E.length (Zdj C t++(Zeb L k++Zkx L k (q-(k+1)))))/\Below w1.heap.size w1 wj) (fun x _=>L.length-(intOf x).toNat)
      case atStart=>exact⟨k+1,Nat.le_refl _,by omega,by go_num,by simp only[Nat.sub_self,Zkx,List.range_zero,List.map_nil,List.append_nil];exact HATI.out,hbi⟩
      case round=>
       obtain⟨q,hq1,hq,rfl,hatj,hbj⟩:=hrel
       obtain⟨c0,c1,c2,c3,c4,c5,c6,c7⟩:=HG0.out.next hbj
       rw[hG] at c0 c1 c2 c3 c4 c5 c6 c7
       dsimp only at c0 c1 c2 c3 c4 c5 c6 c7
       clear c0 c1 c2 c4 c5 c6 c7
       have d0:=Zaa D0.out hbj
       by_cases hql:q<L.length
       ·have hdq:decide ((q:Int)<(L.length:Int))=true:=by simp;omega
        have hqi:(q:Int)<(L.length:Int):=by omega
        have hq40:(q:Int)<40:=by omega
        rcases HNS.out.next hbj with h0 | ⟨b2,o2,rfl,hbl2,hcc2⟩
        ·rw[h0] at hkl;simp at hkl
        ·have f0:=hcc2 k hkl
         have f1:=hcc2 q hql
         clear hcc2
         have HS3:=jh (show Zkx L k (q+1-(k+1))=Zkx L k (q-(k+1)) ++ [(L.getD k 0,L.getD q 0)] by
          have e1:q+1-(k+1)=(q-(k+1))+1:=by omega
          have e2:k+1+(q-(k+1))=q:=by omega
          rw[e1,Zo0,e2])
         obtain⟨hx0,hxn⟩:=HLX.out k hkl
         obtain⟨hy0,hyn⟩:=HLX.out q hql
         generalize L.getD k 0=x at *
         generalize L.getD q 0=y at *
         obtain⟨i,rfl⟩:=Int.eq_ofNat_of_zero_le hx0
         obtain⟨j,rfl⟩:=Int.eq_ofNat_of_zero_le hy0
         have hi:i<E.length:=by omega
         have hj:j<E.length:=by omega
         have hi40:(i:Int)<40:=by omega
         have hj40:(j:Int)<40:=by omega
         have hd:=hatj.ci i j (by omega) (by omega)
         have hfz:=hatj.frozen (1+i*40+j)
         have HATJ:=jh hatj
         have HRS:=jh (show ofM E.length (Zdj C t++(Zeb L k++Zkx L k (q+1-(k+1))))=Zkw (ofM E.length (Zdj C t++(Zeb L k++Zkx L k (q-(k+1))))) i j true by
          rw[HS3.out,<- List.append_assoc,<- List.append_assoc,Zr0,List.append_assoc,Zrl hi hj])
         clear hatj hx0 hy0 hxn hyn
         go_wp2_with fail
         go_region
         go_wp2_with fail
         go_roundw
         case rel=>
          refine⟨q+1,by omega,by omega,by go_num,?_,(hbj.setCell (Nat.le_refl _) _).drew⟩
          rw[HRS.out]
          exact(HATJ.out.set i j true (by omega) (by omega)).drew
         case measure=>simp[intOf];omega
       ·have hqN:q=L.length:=by omega
        have HQ:=jh hqN
        have hdq:decide ((q:Int)<(L.length:Int))=false:=by simp;omega
        have HATJ:=jh hatj
        clear hqN hatj
        go_wp2_with fail
        go_roundw
        case rel=>
         refine⟨k+1,by omega,by go_num,?_,hbj⟩
         have h1:=HATJ.out
         rw[HQ.out,<- HS2.out] at h1
         exact h1
        case measure=>simp[intOf];omega
     ·have hkN:k=L.length:=by omega
      have HQ:=jh hkN
      have hdk2:decide ((k:Int)<(L.length:Int))=false:=by simp;omega
      have HATI:=jh hati
      clear hkN hati
      go_wp2_with fail
      go_roundw
      case rel=>
       refine⟨t+1,by omega,by go_num,?_,hbi⟩
       have h1:=HATI.out
       rw[HQ.out,<- HS.out] at h1
       exact h1
      case measure=>simp[intOf];omega
  ·have hkN:t=C.length:=by omega
   subst hkN
   have hdk:decide ((C.length:Int)<(C.length:Int))=false:=by simp
   have HAT:=jh hat
   have HBf:=jh (Zab HB1.out hbe)
   clear hat
   go_wp2_with fail
   go_ret
   exact⟨_,rfl,⟨HAT.out,Zj0 _ _⟩,HB1.out.size,HBf.out⟩
end
section
attribute [local irreducible] RelA.rcells
attribute [local go_sem ↓] Go.wp_at_zero Go.wp_at_succ
namespace RelA
end RelA
namespace RelA
end RelA
end
section
attribute [local irreducible] RelA.rcells
attribute [local go_sem ↓] Go.wp_at_zero Go.wp_at_succ
namespace RelA
end RelA
theorem Ypp (g:Gr) (w:World) (h:EsIn w g.ea g.E) (he:g.E.length<=40) (hth:Ynv g.E) :
  Calls Tryz.prog 92 #[g.v] w (Zcw g.n (poM g.E) w):=by
 rw[<- Yc7 hth];exact Ypq g w h he
end
end Go.Proofs.YthcnhbclagegeaaGreatDoor
