/-
  What the functions that the law reaches do, one by one: contracts. Conditions: those that each of them prints.
-/
import Derived.Test.YthcnhbclagegeaaGreatDoorMh
import Derived.BigRegion
set_option maxRecDepth 20000
set_option maxHeartbeats 3200000
namespace Go.Proofs.YthcnhbclagegeaaGreatDoor
open Go.RowKit RelA
section
attribute [local irreducible] RelA.rcells
theorem Yin (b c n:Nat) (M S:Nat->Nat->Bool) (w:World) (h:Rr w b n M) (g:Rr w c n S) (hn:n<=40) :
  Calls Tryz.prog 96 #[.pointer (some ⟨b,0,none⟩),.pointer (some ⟨c,0,none⟩)] w (Zcw n (orM M S) w):=by
 refine(Ye7 b n c n M S w h.at_ g.at_ hn hn).mono ?_
 rintro e w' ⟨rfl,ha,hb⟩
 rw[Nat.max_self] at ha
 exact⟨_,rfl,⟨by have e:=Zd4 (Zdy h.wf g.wf);rw[<- e];exact ha,Zdy h.wf g.wf⟩,Nat.le_refl _,hb⟩
theorem Yc5 (b c n:Nat) (M S:Nat->Nat->Bool) (w:World) (h:Rr w b n M) (g:Rr w c n S) (hn:n<=40) :
  Calls Tryz.prog 109 #[.pointer (some ⟨b,0,none⟩),.pointer (some ⟨c,0,none⟩)] w (Zcw n (Zky M S) w):=by
 refine(Yav b n c n M S w h.at_ g.at_ hn hn).mono ?_
 rintro e w' ⟨rfl,ha,hb⟩
 rw[Nat.max_self] at ha
 exact⟨_,rfl,⟨by have e:=Zd4 (Zk8 (S:=S) h.wf);rw[<- e];exact ha,Zk8 h.wf⟩,Nat.le_refl _,hb⟩
theorem Yfa (b c n:Nat) (M S:Nat->Nat->Bool) (w:World) (h:Rr w b n M) (g:Rr w c n S) (hn:n<=40) :
  Calls Tryz.prog 142 #[.pointer (some ⟨b,0,none⟩),.pointer (some ⟨c,0,none⟩)] w (Zcw n (Zfe M S) w):=by
 refine(Zog b n c n M S w h.at_ g.at_ hn hn).mono ?_
 rintro e w' ⟨rfl,ha,hb⟩
 rw[Nat.max_self] at ha
 exact⟨_,rfl,⟨by have e:=Zd4 (Zfi (S:=S) h.wf);rw[<- e];exact ha,Zfi h.wf⟩,Nat.le_refl _,hb⟩
theorem Zvv (b c n:Nat) (M S:Nat->Nat->Bool) (w:World) (h:Rr w b n M) (g:Rr w c n S) (hn:n<=40) :
  Calls Tryz.prog 94 #[.pointer (some ⟨b,0,none⟩),.pointer (some ⟨c,0,none⟩)] w (Zcw n (Zax M S) w):=by
 refine(Zw6 b n c n M S w h.at_ g.at_ hn hn).mono ?_
 rintro e w' ⟨rfl,ha,hb⟩
 rw[Nat.max_self] at ha
 exact⟨_,rfl,⟨by rw[<- Zrj h.wf g.wf];exact ha,Ze9 h.wf g.wf⟩,Nat.le_refl _,hb⟩
theorem Yfw (b n:Nat) (M:Nat->Nat->Bool) (w:World) (h:Rr w b n M) (hn:n<=40) :
  Calls Tryz.prog 163 #[.pointer (some ⟨b,0,none⟩)] w (Zcw n (Zff M) w):=by
 refine(Zxe b n M w h.at_ hn).mono ?_
 rintro e w' ⟨rfl,ha,hb⟩
 rw[Zd4 h.wf] at ha
 exact⟨_,rfl,⟨ha,Zrg h.wf⟩,Nat.le_refl _,hb⟩
theorem Zzp (b n:Nat) (M:Nat->Nat->Bool) (w:World) (h:Rr w b n M) (hn:n<=40) :
  Calls Tryz.prog 178 #[.pointer (some ⟨b,0,none⟩)] w (Zcw n (Zco n M) w):=by
 refine(Zs7 b n M w h.at_ hn).mono ?_
 rintro e w' ⟨rfl,ha,hb⟩
 exact⟨_,rfl,⟨ha,Zn7 h.wf⟩,Nat.le_refl _,hb⟩
theorem Ye6 (b n:Nat) (M:Nat->Nat->Bool) (w:World) (h:Rr w b n M) (hn:n<=40) :
  Calls Tryz.prog 104 #[.pointer (some ⟨b,0,none⟩)] w (Zcw n (Zbl M) w):=by
 refine(Zod b n M w h.at_ hn h.wf).mono ?_
 rintro e w' ⟨T,rfl,ha,hT,hw,hb⟩
 have e:T=Zbl M:=by
  funext i j
  rw[Bool.eq_iff_iff,hT,plusM_iff]
 rw[e] at ha hw
 exact⟨_,rfl,⟨ha,hw⟩,Nat.le_refl _,hb⟩
theorem Zqi {n:Nat} (h:n<=40):Zal (n:Int)=n:=by unfold Zal;omega
theorem Zik (n:Nat) (w:World) (hn:n<=40) :
  Calls Tryz.prog 101 #[.int .i64 n,.slice none 0 0] w fun e w'=>e=.returned (.pointer (some ⟨w.heap.size,0,none⟩))/\RAt w' w.heap.size n Za1/\Below w.heap.size w w':=by
 refine(Zds (n:Int) w).mono ?_
 rintro e w' ⟨rfl,ha,hb⟩
 rw[Zqi hn] at ha
 exact⟨rfl,ha,hb⟩
theorem Yks (n:Nat) (w:World) (hn:n<=40) :
  Calls Tryz.prog 101 #[.int .i64 n,.slice none 0 0] w (Zcw n Za1 w):=by
 refine(Zds (n:Int) w).mono ?_
 rintro e w' ⟨rfl,ha,hb⟩
 rw[Zqi hn] at ha
 exact⟨_,rfl,⟨ha,fun i j a=>by cases a⟩,Nat.le_refl _,hb⟩
theorem Zfu (n:Nat) (a:Option Addr) (L:List (Int×Int)) (c:Nat) (w:World) (hn:n<=40) (hl:L.length<=300) (h:PIn w a L c) :
  Calls Tryz.prog 101 #[.int .i64 n,.slice a L.length c] w (Zcw n (ofM n L) w):=by
 have key:Calls Tryz.prog 101 #[.int .i64 n,.slice a L.length c] w fun e w'=>e=.returned (.pointer (some ⟨w.heap.size,0,none⟩))/\RAt w' w.heap.size (Zal n) (Zic (Zal n) L)/\Below w.heap.size w w':=by
  rcases h with⟨rfl,rfl,rfl⟩ | ⟨ad,rfl,rfl⟩ | ⟨b,o,rfl,hb,hc⟩
  ·exact Zof n none 0 w
  ·exact Zof n _ c w
  ·exact Zw9 n b o L c w (by unfold maxLen;omega) hb hc
 refine key.mono ?_
 rintro e w' ⟨rfl,ha,hb⟩
 rw[Zqi hn] at ha
 exact⟨_,rfl,⟨ha,Zdo n L⟩,Nat.le_refl _,hb⟩
namespace RelA
def poR (e f:Int):Bool:=(e==0&&decide (0<f))||(decide (0<e)&&e==f)
def Zh5 (E:List Ev):Nat->Nat->Bool:=fun i j=>(decide (i<j)&&decide (j<E.length))&&poR (Ev.at E i).th (Ev.at E j).th
theorem Ycm (E:List Ev):WFM E.length (Zh5 E):=fun i j a=>by
 unfold Zh5 at a
 rw[Bool.and_eq_true,Bool.and_eq_true,decide_eq_true_eq,decide_eq_true_eq] at a
 omega
def Ynv (E:List Ev):Prop:=∀ i,0<=(Ev.at E i).th
theorem Yc7 {E:List Ev} (h:Ynv E):Zh5 E=poM E:=by
 funext i j
 unfold Zh5 poM
 have h1:=h i
 have h2:=h j
 generalize (Ev.at E i).th=x at *
 generalize (Ev.at E j).th=y at *
 congr 1
 unfold poR poB
 rw[Bool.eq_iff_iff]
 simp only[Bool.or_eq_true,Bool.and_eq_true,beq_iff_eq,bne_iff_ne,decide_eq_true_eq]
 omega
theorem Ziq {n:Nat} {F:Nat->Nat->Bool} (h:WFM n F) (i j:Nat):Zdr n F i j=F i j:=by rw[Zd4 h]
end RelA
theorem Yc0 (g:Gr) (w:World) (h:EsIn w g.ea g.E) (he:g.E.length<=40) :
  Calls Tryz.prog 92 #[g.v] w fun e w'=>∃ d,e=.returned (.pointer (some ⟨d,0,none⟩))/\w.heap.size<=d/\RAt w' d g.n (Zh5 g.E)/\Below w.heap.size w w':=by
 have HG0:=jh (GBox.of_alloc w g 27)
 obtain⟨G,hG⟩:∃ G,G=g:=⟨_,rfl⟩
 obtain⟨locs,ea,E,ec,ra,R,rc,ca,C,cc,ma,Rmw,mc,da,Data,dc,ta,Ctrl,tc,ia,CtrlI,ic⟩:=g
 simp only[Gr.v,Gr.n,Zaw] at he h HG0 ⊢
 rw[<- hG] at HG0
 have HI:=jh h
 have HM:=jh (Ycm E)
 clear h
 go_enter Tryz.func92,Tryz.ntmps92
 go_wp2_with fail
 obtain⟨w1,hw1⟩:∃ x,x=w.alloc (Obj.cells #[.int .i64 locs,.slice ea E.length ec,.slice ra R.length rc,.slice ca C.length cc,.slice ma Rmw.length mc,.slice da Data.length dc,.slice ta Ctrl.length tc,.slice ia CtrlI.length ic] 27 (0,0)):=⟨_,rfl⟩
 rw[<- hw1] at HG0 ⊢
 have hs1:w1.heap.size=w.heap.size+1:=by rw[hw1];simp
 have HB1:Hid (Below w.heap.size w w1):=jh (by rw[hw1];exact jb)
 clear hw1
 have HI1:=jh (HI.out.next HB1.out)
 clear HI hs1
 refine(Zik E.length w1 he).mono ?_
 rintro e w2 ⟨rfl,hat,hbe1⟩
 have HAT1:=jh hat
 have HBE1:=jh hbe1
 clear hat hbe1
 go_wp2_with fail
 go_loopw [4] (fun x wr=>∃ k:Nat,k<=E.length/\x=.int .i64 k/\RAt wr w1.heap.size E.length (Zcy E.length k 0 (Zh5 E))/\Below w1.heap.size w1 wr) (fun x _=>E.length-(intOf x).toNat)
 case atStart=>exact⟨0,Nat.zero_le _,rfl,HAT1.out.congr fun i j _ _=>(Zc3 _ _ i j).symm,HBE1.out⟩
 case round=>
  obtain⟨k,hk,rfl,hat,hbe⟩:=hrel
  by_cases hlt:k<E.length
  ·obtain⟨wo,rfl⟩:∃ wo:World,wo=wr:=⟨_,rfl⟩
   have hr0:=hat.c0
   have hdk:decide ((k:Int)<(E.length:Int))=true:=by simp;omega
   have hki:(k:Int)<(E.length:Int):=by omega
   have hk40:(k:Int)<40:=by omega
   have HAT:=jh hat
   clear hat
   go_wp2_with fail
   clear hr0
   go_loopw [5] (fun x wi=>∃ q:Nat,k+1<=q/\q<=E.length/\x=.int .i64 q/\RAt wi w1.heap.size E.length (Zcy E.length k q (Zh5 E))/\Below w1.heap.size w1 wi) (fun x _=>E.length-(intOf x).toNat)
   case atStart=>
    refine⟨k+1,Nat.le_refl _,by omega,by go_num,HAT.out.congr fun i j _ _=>?_,hbe⟩
    unfold Zcy
    by_cases e1:i=k
    ·subst e1
     by_cases e2:j<i+1
     ·have:Zh5 E i j=false:=by
       unfold Zh5
       have:¬ i<j:=by omega
       simp[this]
      simp[this]
     ·simp[e2]
    ·simp[e1]
   case round=>
    obtain⟨q,hq1,hq,rfl,hati,hbi⟩:=hrel
    have hr0:=hati.c0
    by_cases hql:q<E.length
    ·have hdq:decide ((q:Int)<(E.length:Int))=true:=by simp;omega
     have hqi:(q:Int)<(E.length:Int):=by omega
     have hq40:(q:Int)<40:=by omega
     have hd:=hati.ci k q (by omega) (by omega)
     rw[Ze2] at hd
     have hfz:=hati.frozen (1+k*40+q)
     have HATI:=jh hati
     have HST:=jh (Zc4 E.length k q (Zh5 E))
     have hX:Zh5 E k q=poR (Ev.at E k).th (Ev.at E q).th:=by
      unfold Zh5
      have a1:k<q:=by omega
      simp[a1,hql]
     obtain⟨c0,c1,c2,c3,c4,c5,c6,c7⟩:=HG0.out.next hbi
     rw[hG] at c0 c1 c2 c3 c4 c5 c6 c7
     dsimp only at c0 c1 c2 c3 c4 c5 c6 c7
     clear hati c0 c2 c3 c4 c5 c6 c7
     rcases HI1.out.next hbi with h0 | ⟨b,o,rfl,hbl,hcc⟩
     ·rw[h0] at hlt;simp at hlt
     ·have d0:=(hcc k hlt).c0
      have d1:=(hcc q hql).c0
      clear hcc
      change _=some (Value.int _ (Ev.at E k).th) at d0
      change _=some (Value.int _ (Ev.at E q).th) at d1
      generalize (Ev.at E k).th=x at *
      generalize (Ev.at E q).th=y at *
      have cs:(x=0/\¬ 0<y)∨(x=0/\0<y)∨(x≠0/\¬ 0<x)∨(0<x/\x=y)∨(0<x/\x≠y):=by omega
      rcases cs with⟨hx,hy⟩ | ⟨hx,hy⟩ | ⟨hx,hy⟩ | ⟨hx,hy⟩ | ⟨hx,hy⟩
      ·have hX2:Zh5 E k q=false:=by rw[hX,hx];unfold poR;simp[hy]
       have HX:Hid (Zh5 E k q=false):=jh hX2
       clear hX2 hX
       subst hx
       have hy1:decide (0<y)=false:=by simp[hy]
       go_wp2_with fail
       go_region
       go_wp2_with fail
       go_roundw
       case rel=>
        refine⟨q+1,by omega,by omega,by go_num,?_,(hbi.setCell (Nat.le_refl _) _).drew⟩
        have h1:=HATI.out.set k q (Zh5 E k q) (by omega) (by omega)
        have h2:=(h1.congr fun i j _ _=>HST.out i j).drew
        rw[HX.out] at h2
        exact h2
       case measure=>simp[intOf];omega
      ·have hX2:Zh5 E k q=true:=by rw[hX,hx];unfold poR;simp[hy]
       have HX:Hid (Zh5 E k q=true):=jh hX2
       clear hX2 hX
       subst hx
       have hy1:decide (0<y)=true:=by simp[hy]
       go_wp2_with fail
       go_region
       go_wp2_with fail
       go_roundw
       case rel=>
        refine⟨q+1,by omega,by omega,by go_num,?_,(hbi.setCell (Nat.le_refl _) _).drew⟩
        have h1:=HATI.out.set k q (Zh5 E k q) (by omega) (by omega)
        have h2:=(h1.congr fun i j _ _=>HST.out i j).drew
        rw[HX.out] at h2
        exact h2
       case measure=>simp[intOf];omega
      ·have hX2:Zh5 E k q=false:=by rw[hX];unfold poR;simp[hx,hy]
       have HX:Hid (Zh5 E k q=false):=jh hX2
       clear hX2 hX
       have hx1:(x==0)=false:=by simp[hx]
       have hx2:decide (0<x)=false:=by simp[hy]
       go_wp2_with fail
       go_region
       go_wp2_with fail
       go_roundw
       case rel=>
        refine⟨q+1,by omega,by omega,by go_num,?_,(hbi.setCell (Nat.le_refl _) _).drew⟩
        have h1:=HATI.out.set k q (Zh5 E k q) (by omega) (by omega)
        have h2:=(h1.congr fun i j _ _=>HST.out i j).drew
        rw[HX.out] at h2
        exact h2
       case measure=>simp[intOf];omega
      ·have hX2:Zh5 E k q=true:=by rw[hX,<- hy];unfold poR;simp[hx]
       have HX:Hid (Zh5 E k q=true):=jh hX2
       clear hX2 hX
       have hx0:x≠0:=by omega
       have hx1:(x==0)=false:=by simp[hx0]
       have hx2:decide (0<x)=true:=by simp[hx]
       subst hy
       go_wp2_with fail
       go_region
       go_wp2_with fail
       go_roundw
       case rel=>
        refine⟨q+1,by omega,by omega,by go_num,?_,(hbi.setCell (Nat.le_refl _) _).drew⟩
        have h1:=HATI.out.set k q (Zh5 E k q) (by omega) (by omega)
        have h2:=(h1.congr fun i j _ _=>HST.out i j).drew
        rw[HX.out] at h2
        exact h2
       case measure=>simp[intOf];omega
      ·have hx00:x≠0:=by omega
       have hX2:Zh5 E k q=false:=by rw[hX];unfold poR;simp[hx00,hy]
       have HX:Hid (Zh5 E k q=false):=jh hX2
       clear hX2 hX
       have hx0:x≠0:=by omega
       have hx1:(x==0)=false:=by simp[hx0]
       have hx2:decide (0<x)=true:=by simp[hx]
       have hy1:(x==y)=false:=by simp[hy]
       go_wp2_with fail
       go_region
       go_wp2_with fail
       go_roundw
       case rel=>
        refine⟨q+1,by omega,by omega,by go_num,?_,(hbi.setCell (Nat.le_refl _) _).drew⟩
        have h1:=HATI.out.set k q (Zh5 E k q) (by omega) (by omega)
        have h2:=(h1.congr fun i j _ _=>HST.out i j).drew
        rw[HX.out] at h2
        exact h2
       case measure=>simp[intOf];omega
    ·have hqN:q=E.length:=by omega
     have HQ:=jh hqN
     have hdq:decide ((q:Int)<(E.length:Int))=false:=by simp;omega
     have HATI:=jh hati
     clear hqN hati
     go_wp2_with fail
     go_roundw
     case rel=>
      refine⟨k+1,by omega,by go_num,?_,hbi⟩
      have h1:=HATI.out
      rw[HQ.out] at h1
      exact h1.congr fun i j _ _=>Zd6 E.length k _ i j
     case measure=>simp[intOf];omega
  ·have hkN:k=E.length:=by omega
   have HKN:=jh hkN
   have hdk:decide ((k:Int)<(E.length:Int))=false:=by simp;omega
   have hr0:=hat.c0
   have HAT:=jh hat
   have HBf:=jh (Zab HB1.out hbe)
   clear hkN hat
   go_wp2_with fail
   go_ret
   exact⟨_,rfl,HB1.out.size,HAT.out.congr fun i j _ _=>(Zc5 E.length k _ HKN.out i j).trans (Ziq HM.out i j),HBf.out⟩
theorem Ypq (g:Gr) (w:World) (h:EsIn w g.ea g.E) (he:g.E.length<=40) :
  Calls Tryz.prog 92 #[g.v] w (Zcw g.n (Zh5 g.E) w):=by
 refine(Yc0 g w h he).mono ?_
 rintro e w' ⟨d,rfl,hs,ha,hb⟩
 exact⟨d,rfl,⟨ha,Ycm _⟩,hs,hb⟩
end
section
attribute [local irreducible] RelA.rcells
namespace RelA
def Zl5 (kind lo hi:Int) (e:Ev):Bool:=((e.kd==kind)&&decide (lo<=e.md))&&decide (e.md<=hi)
def kM (g:Gr) (kind lo hi:Int):Nat->Nat->Bool:=Zg7 g.n fun i=>Zl5 kind lo hi (Ev.at g.E i)
def Zyj (_n k:Nat) (p:Nat->Bool):Nat->Nat->Bool:=fun i j=>(decide (i=j)&&decide (i<k))&&p i
theorem Zxx (n:Nat) (p:Nat->Bool) (i j:Nat):Za1 i j=Zyj n 0 p i j:=by unfold Za1 Zyj;simp
theorem Zxy (n k:Nat) (p:Nat->Bool) (i j:Nat):Zkw (Zyj n k p) k k (p k) i j=Zyj n (k+1) p i j:=by
 unfold Zkw Zyj
 by_cases h:i=k/\j=k
 ·rw[if_pos h];obtain⟨rfl,rfl⟩:=h;simp
 ·rw[if_neg h]
  by_cases e:i=j
  ·subst e
   have h1:¬ i=k:=fun e=>h ⟨e,e⟩
   by_cases h2:i<k
   ·have:i<k+1:=by omega
    simp[h2,this]
   ·have:¬ i<k+1:=by omega
    simp[h2,this]
  ·simp[e]
theorem Yg1 (n k:Nat) (p:Nat->Bool):Zyj n k p k k=false:=by unfold Zyj;simp
theorem Zxz (n k:Nat) (p:Nat->Bool) (h:k=n) (i j:Nat):Zyj n k p i j=Zg7 n p i j:=by subst h;rfl
end RelA
theorem Zdl (g:Gr) (kind lo hi:Int) (w:World) (h:EsIn w g.ea g.E) (he:g.E.length<=40) :
  Calls Tryz.prog 93 #[g.v,.int .i64 kind,.int .i64 lo,.int .i64 hi] w (Zcw g.n (kM g kind lo hi) w):=by
 have hF:kM g kind lo hi=Zg7 g.n fun i=>Zl5 kind lo hi (Ev.at g.E i):=rfl
 rw[hF]
 clear hF
 have HG0:=jh (GBox.of_alloc w g 27)
 obtain⟨G,hG⟩:∃ G,G=g:=⟨_,rfl⟩
 obtain⟨locs,ea,E,ec,ra,R,rc,ca,C,cc,ma,Rmw,mc,da,Data,dc,ta,Ctrl,tc,ia,CtrlI,ic⟩:=g
 simp only[Gr.v,Gr.n,Zaw] at he h HG0 ⊢
 rw[<- hG] at HG0
 have HI:=jh h
 clear h
 obtain⟨p,hp⟩:∃ p,p=fun i=>Zl5 kind lo hi (Ev.at E i):=⟨_,rfl⟩
 rw[<- hp]
 go_enter Tryz.func93,Tryz.ntmps93
 go_wp2_with fail
 obtain⟨w1,hw1⟩:∃ x,x=w.alloc (Obj.cells #[.int .i64 locs,.slice ea E.length ec,.slice ra R.length rc,.slice ca C.length cc,.slice ma Rmw.length mc,.slice da Data.length dc,.slice ta Ctrl.length tc,.slice ia CtrlI.length ic] 27 (0,0)):=⟨_,rfl⟩
 rw[<- hw1] at HG0 ⊢
 have hs1:w1.heap.size=w.heap.size+1:=by rw[hw1];simp
 have HB1:Hid (Below w.heap.size w w1):=jh (by rw[hw1];exact jb)
 clear hw1
 have HI1:=jh (HI.out.next HB1.out)
 clear HI hs1
 refine(Zik E.length w1 he).mono ?_
 rintro e w2 ⟨rfl,hat,hbe1⟩
 have HAT1:=jh hat
 have HBE1:=jh hbe1
 clear hat hbe1
 go_wp2_with fail
 go_loopw [10] (fun x wr=>∃ k:Nat,k<=E.length/\x=.int .i64 k/\RAt wr w1.heap.size E.length (Zyj E.length k p)/\Below w1.heap.size w1 wr) (fun x _=>E.length-(intOf x).toNat)
 case atStart=>exact⟨0,Nat.zero_le _,rfl,HAT1.out.congr fun i j _ _=>Zxx _ _ i j,HBE1.out⟩
 case round=>
  obtain⟨k,hk,rfl,hat,hbe⟩:=hrel
  by_cases hlt:k<E.length
  ·have hr0:=hat.c0
   have hdk:decide ((k:Int)<(E.length:Int))=true:=by simp;omega
   have hki:(k:Int)<(E.length:Int):=by omega
   have hk40:(k:Int)<40:=by omega
   have hpk:p k=Zl5 kind lo hi (Ev.at E k):=by rw[hp]
   obtain⟨c0,c1,c2,c3,c4,c5,c6,c7⟩:=HG0.out.next hbe
   rw[hG] at c0 c1 c2 c3 c4 c5 c6 c7
   dsimp only at c0 c1 c2 c3 c4 c5 c6 c7
   clear c0 c2 c3 c4 c5 c6 c7
   rcases HI1.out.next hbe with h0 | ⟨b,o,rfl,hbl,hcc⟩
   ·rw[h0] at hlt;simp at hlt
   ·obtain⟨d0,d1,d2,d3,d4,d5⟩:=hcc k hlt
    clear hcc
    change _=some (Value.int _ (Ev.at E k).th) at d0
    change _=some (Value.int _ (Ev.at E k).kd) at d1
    change _=some (Value.int _ (Ev.at E k).md) at d2
    change _=some (Value.int _ (Ev.at E k).lc) at d3
    change _=some (Value.int _ (Ev.at E k).vl) at d4
    change _=some (Value.bool (Ev.at E k).ex) at d5
    generalize Ev.at E k=ev at *
    obtain⟨x0,x1,x2,x3,x4,x5⟩:=ev
    unfold Zl5 at hpk
    dsimp only at d0 d1 d2 d3 d4 d5 hpk
    obtain⟨w3,hw3⟩:∃ x,x=wr.alloc (Obj.cells #[.int .i64 x0,.int .i64 x1,.int .i64 x2,.int .i64 x3,.int .i64 x4,.bool x5] 53 (0,0)):=⟨_,rfl⟩
    have hbw:Below wr.heap.size wr w3:=by rw[hw3];exact jb
    have f1:w3.cell? ⟨wr.heap.size,1,none⟩=some (.int .i64 x1):=by rw[hw3,cell_of_row _ _ _ _ _ _ (heap_alloc_new _ _)];rfl
    have f2:w3.cell? ⟨wr.heap.size,2,none⟩=some (.int .i64 x2):=by rw[hw3,cell_of_row _ _ _ _ _ _ (heap_alloc_new _ _)];rfl
    have hat3:=hat.next hbw
    have hd:=hat3.ci k k (by omega) (by omega)
    rw[Yg1] at hd
    have hfz:=hat3.frozen (1+k*40+k)
    have hs3:=hbe.size
    have hbe3:=Zbs hbe hs3 hbw
    have HAT3:=jh hat3
    have HST:=jh (Zxy E.length k p)
    have HBE3:=jh hbe3
    clear hat hat3 hbe hbw hbe3
    cases e1:(x1==kind)
    ·have HX:Hid (p k=false):=jh (by rw[hpk,e1];rfl)
     clear hpk
     go_wp2_with fail
     rw[<- hw3]
     clear hw3
     go_region
     go_wp2_with fail
     go_roundw
     case rel=>
      refine⟨k+1,by omega,by go_num,?_,(HBE3.out.setCell (Nat.le_refl _) _).drew⟩
      have h1:=HAT3.out.set k k (p k) (by omega) (by omega)
      have h2:=(h1.congr fun i j _ _=>HST.out i j).drew
      rw[HX.out] at h2
      exact h2
     case measure=>simp[intOf];omega
    ·cases e2:decide (lo<=x2)
     ·have HX:Hid (p k=false):=jh (by rw[hpk,e1,e2];rfl)
      clear hpk
      go_wp2_with fail
      rw[<- hw3]
      clear hw3
      go_region
      go_wp2_with fail
      go_roundw
      case rel=>
       refine⟨k+1,by omega,by go_num,?_,(HBE3.out.setCell (Nat.le_refl _) _).drew⟩
       have h1:=HAT3.out.set k k (p k) (by omega) (by omega)
       have h2:=(h1.congr fun i j _ _=>HST.out i j).drew
       rw[HX.out] at h2
       exact h2
      case measure=>simp[intOf];omega
     ·cases e3:decide (x2<=hi)
      ·have HX:Hid (p k=false):=jh (by rw[hpk,e1,e2,e3];rfl)
       clear hpk
       go_wp2_with fail
       rw[<- hw3]
       clear hw3
       go_region
       go_wp2_with fail
       go_roundw
       case rel=>
        refine⟨k+1,by omega,by go_num,?_,(HBE3.out.setCell (Nat.le_refl _) _).drew⟩
        have h1:=HAT3.out.set k k (p k) (by omega) (by omega)
        have h2:=(h1.congr fun i j _ _=>HST.out i j).drew
        rw[HX.out] at h2
        exact h2
       case measure=>simp[intOf];omega
      ·have HX:Hid (p k=true):=jh (by rw[hpk,e1,e2,e3];rfl)
       clear hpk
       go_wp2_with fail
       rw[<- hw3]
       clear hw3
       go_region
       go_wp2_with fail
       go_roundw
       case rel=>
        refine⟨k+1,by omega,by go_num,?_,(HBE3.out.setCell (Nat.le_refl _) _).drew⟩
        have h1:=HAT3.out.set k k (p k) (by omega) (by omega)
        have h2:=(h1.congr fun i j _ _=>HST.out i j).drew
        rw[HX.out] at h2
        exact h2
       case measure=>simp[intOf];omega
  ·have hkN:k=E.length:=by omega
   have HKN:=jh hkN
   have hdk:decide ((k:Int)<(E.length:Int))=false:=by simp;omega
   have hr0:=hat.c0
   have HAT:=jh hat
   have HBf:=jh (Zab HB1.out hbe)
   clear hkN hat
   go_wp2_with fail
   go_ret
   exact⟨_,rfl,⟨HAT.out.congr fun i j _ _=>Zxz E.length k p HKN.out i j,Zb5 _ _⟩,HB1.out.size,HBf.out⟩
end
section
attribute [local irreducible] RelA.rcells
namespace RelA
structure ROk (g:Gr):Prop where
 rlen:g.R.length=g.n
 rlt:∀ i,i<g.R.length->g.R.getD i 0<(g.n:Int)
 clt:∀ l,l<g.C.length->∀ i,i<(g.C.getD l Ls.zero).L.length->0<=(g.C.getD l Ls.zero).L.getD i 0/\(g.C.getD l Ls.zero).L.getD i 0<(g.n:Int)
theorem Zr0 (n:Nat) (l:List (Int×Int)) (p:Int×Int):ofM n (l ++ [p])=Zib n (ofM n l) p:=by
 unfold ofM Zic
 rw[List.foldl_append];rfl
theorem Zrl {n:Nat} {M:Nat->Nat->Bool} {a b:Nat} (ha:a<n) (hb:b<n):Zib n M ((a:Int),(b:Int))=Zkw M a b true:=by
 unfold Zib inB
 have h1:decide (0<=(a:Int)/\(a:Int)<(n:Int))=true:=by simp;omega
 have h2:decide (0<=(b:Int)/\(b:Int)<(n:Int))=true:=by simp;omega
 rw[h1,h2];rfl
theorem Zw7 {n:Nat} {M:Nat->Nat->Bool} {a b:Int} (ha:a<0):Zib n M (a,b)=M:=by
 unfold Zib inB
 have h1:decide (0<=a/\a<(n:Int))=false:=by simp;omega
 rw[h1];rfl
theorem Zj0 (n:Nat) (l:List (Int×Int)):WFM n (ofM n l):=Zdo n l
end RelA
theorem Ypo (g:Gr) (w:World) (h:NsIn w g.ra g.R) (he:g.E.length<=40) (hk:ROk g) :
  Calls Tryz.prog 103 #[g.v] w (Zcw g.n (rfM g) w):=by
 have hF:rfM g=ofM g.n (rfL g.R g.R.length):=rfl
 rw[hF]
 clear hF
 obtain⟨hrlen,hrlt,_⟩:=hk
 have HG0:=jh (GBox.of_alloc w g 27)
 obtain⟨G,hG⟩:∃ G,G=g:=⟨_,rfl⟩
 obtain⟨locs,ea,E,ec,ra,R,rc,ca,C,cc,ma,Rmw,mc,da,Data,dc,ta,Ctrl,tc,ia,CtrlI,ic⟩:=g
 simp only[Gr.v,Gr.n,Zaw] at he h hrlen hrlt HG0 ⊢
 rw[<- hG] at HG0
 have HI:=jh h
 have HLT:=jh hrlt
 have hrle:R.length<=E.length:=by omega
 clear h hrlt hrlen
 go_enter Tryz.func103,Tryz.ntmps103
 go_wp2_with fail
 obtain⟨w1,hw1⟩:∃ x,x=w.alloc (Obj.cells #[.int .i64 locs,.slice ea E.length ec,.slice ra R.length rc,.slice ca C.length cc,.slice ma Rmw.length mc,.slice da Data.length dc,.slice ta Ctrl.length tc,.slice ia CtrlI.length ic] 27 (0,0)):=⟨_,rfl⟩
 rw[<- hw1] at HG0 ⊢
 have hs1:w1.heap.size=w.heap.size+1:=by rw[hw1];simp
 have HB1:Hid (Below w.heap.size w w1):=jh (by rw[hw1];exact jb)
 clear hw1
 have HI1:=jh (HI.out.next HB1.out)
 clear HI hs1
 refine(Zik E.length w1 he).mono ?_
 rintro e w2 ⟨rfl,hat,hbe1⟩
 have HAT1:=jh hat
 have HBE1:=jh hbe1
 clear hat hbe1
 go_wp2_with fail
 go_loopw [4] (fun x wr=>∃ k:Nat,k<=R.length/\x=.int .i64 k/\RAt wr w1.heap.size E.length (ofM E.length (rfL R k))/\Below w1.heap.size w1 wr) (fun x _=>R.length-(intOf x).toNat)
 case atStart=>exact⟨0,Nat.zero_le _,rfl,HAT1.out,HBE1.out⟩
 case round=>
  obtain⟨k,hk,rfl,hat,hbe⟩:=hrel
  obtain⟨c0,c1,c2,c3,c4,c5,c6,c7⟩:=HG0.out.next hbe
  rw[hG] at c0 c1 c2 c3 c4 c5 c6 c7
  dsimp only at c0 c1 c2 c3 c4 c5 c6 c7
  clear c0 c1 c3 c4 c5 c6 c7
  by_cases hlt:k<R.length
  ·have hr0:=hat.c0
   have hdk:decide ((k:Int)<(R.length:Int))=true:=by simp;omega
   have hki:(k:Int)<(R.length:Int):=by omega
   have hk40:(k:Int)<40:=by omega
   have hrl:=HLT.out k hlt
   have HS:=jh (by rw[Zrq,Zr0]:ofM E.length (rfL R (k+1))=Zib E.length (ofM E.length (rfL R k)) (R.getD k 0,(k:Int)))
   rcases HI1.out.next hbe with h0 | ⟨b,o,rfl,hbl,hcc⟩
   ·rw[h0] at hlt;simp at hlt
   ·have d0:=hcc k hlt
    clear hcc
    generalize R.getD k 0=r at *
    by_cases hr:0<=r
    ·obtain⟨m,rfl⟩:=Int.eq_ofNat_of_zero_le hr
     have hm:m<E.length:=by omega
     have hm40:(m:Int)<40:=by omega
     have hge:decide ((0:Int)<=(m:Int))=true:=by simp
     have hd:=hat.ci m k (by omega) (by omega)
     have hfz:=hat.frozen (1+m*40+k)
     have HAT:=jh hat
     rw[Zrl hm (by omega)] at HS
     have hs3:=hbe.size
     clear hat hr hrl
     go_wp2_with fail
     go_region
     go_wp2_with fail
     go_roundw
     case rel=>
      refine⟨k+1,by omega,by go_num,?_,(hbe.setCell (Nat.le_refl _) _).drew⟩
      have h1:=HAT.out.set m k true (by omega) (by omega)
      rw[<- HS.out] at h1
      exact h1.drew
     case measure=>simp[intOf];omega
    ·have hge:decide ((0:Int)<=r)=false:=by simp;omega
     rw[Zw7 (by omega)] at HS
     have HAT:=jh hat
     clear hat hrl
     go_wp2_with fail
     go_roundw
     case rel=>exact⟨k+1,by omega,by go_num,by rw[HS.out];exact HAT.out,hbe⟩
     case measure=>simp[intOf];omega
  ·have hkN:k=R.length:=by omega
   subst hkN
   have hdk:decide ((R.length:Int)<(R.length:Int))=false:=by simp
   have HAT:=jh hat
   have HBf:=jh (Zab HB1.out hbe)
   clear hat
   go_wp2_with fail
   go_ret
   exact⟨_,rfl,⟨HAT.out,Zj0 _ _⟩,HB1.out.size,HBf.out⟩
namespace RelA
def ptM (E:List Ev) (M:Nat->Nat->Bool) (one:Bool):Nat->Nat->Bool:=fun i j=>M i j&&(((Ev.at E i).th==(Ev.at E j).th)==one)
theorem Yfy (E:List Ev) (M:Nat->Nat->Bool):ptM E M true=Zbm E M:=by
 funext i j;unfold ptM Zbm;cases ((Ev.at E i).th==(Ev.at E j).th)<;>rfl
theorem Zrs (E:List Ev) (M:Nat->Nat->Bool):ptM E M false=Zcn E M:=by
 funext i j;unfold ptM Zcn;cases ((Ev.at E i).th==(Ev.at E j).th)<;>rfl
theorem Ypf {n:Nat} {E:List Ev} {M:Nat->Nat->Bool} {one:Bool} (h:WFM n M):WFM n (ptM E M one):=fun i j a=>by
 unfold ptM at a;rw[Bool.and_eq_true] at a;exact h i j a.1
end RelA
theorem Zpz (g:Gr) (rb:Nat) (M:Nat->Nat->Bool) (one:Bool) (w:World) (h:EsIn w g.ea g.E) (he:g.E.length<=40) (hr:Rr w rb g.n M) :
  Calls Tryz.prog 157 #[g.v,.pointer (some ⟨rb,0,none⟩),.bool one] w (Zcw g.n (ptM g.E M one) w):=by
 have HG0:=jh (GBox.of_alloc w g 27)
 obtain⟨G,hG⟩:∃ G,G=g:=⟨_,rfl⟩
 obtain⟨locs,ea,E,ec,ra,R,rc,ca,C,cc,ma,Rmw,mc,da,Data,dc,ta,Ctrl,tc,ia,CtrlI,ic⟩:=g
 simp only[Gr.v,Gr.n,Zaw] at he h hr HG0 ⊢
 rw[<- hG] at HG0
 have HI:=jh h
 have HR:=jh hr.at_
 have HW:Hid (WFM E.length (ptM E M one)):=jh (Ypf hr.wf)
 clear h hr
 go_enter Tryz.func157,Tryz.ntmps157
 have hR0:=fun o=>((HR.out.alloc o).c0)
 go_wp2_with fail
 obtain⟨w1,hw1⟩:∃ x,x=w.alloc (Obj.cells #[.int .i64 locs,.slice ea E.length ec,.slice ra R.length rc,.slice ca C.length cc,.slice ma Rmw.length mc,.slice da Data.length dc,.slice ta Ctrl.length tc,.slice ia CtrlI.length ic] 27 (0,0)):=⟨_,rfl⟩
 rw[<- hw1] at HG0 ⊢
 have hs1:w1.heap.size=w.heap.size+1:=by rw[hw1];simp
 have HB1:Hid (Below w.heap.size w w1):=jh (by rw[hw1];exact jb)
 clear hw1
 clear hR0
 have HI1:=jh (HI.out.next HB1.out)
 have HR1:=jh (HR.out.next HB1.out)
 clear HI hs1 HR
 refine(Zik E.length w1 he).mono ?_
 rintro e w2 ⟨rfl,hat,hbe1⟩
 have HAT1:=jh hat
 have HBE1:=jh hbe1
 clear hat hbe1
 go_wp2_with fail
 go_loopw [8] (fun x wr=>∃ k:Nat,k<=E.length/\x=.int .i64 k/\RAt wr w1.heap.size E.length (Zcy E.length k 0 (ptM E M one))/\Below w1.heap.size w1 wr) (fun x _=>E.length-(intOf x).toNat)
 case atStart=>exact⟨0,Nat.zero_le _,rfl,HAT1.out.congr fun i j _ _=>(Zc3 _ _ i j).symm,HBE1.out⟩
 case round=>
  obtain⟨k,hk,rfl,hat,hbe⟩:=hrel
  have hr0:=(HR1.out.next hbe).c0
  obtain⟨c0,c1,c2,c3,c4,c5,c6,c7⟩:=HG0.out.next hbe
  rw[hG] at c0 c1 c2 c3 c4 c5 c6 c7
  dsimp only at c0 c1 c2 c3 c4 c5 c6 c7
  clear c0 c2 c3 c4 c5 c6 c7
  by_cases hlt:k<E.length
  ·obtain⟨wo,rfl⟩:∃ wo:World,wo=wr:=⟨_,rfl⟩
   have hdk:decide ((k:Int)<(E.length:Int))=true:=by simp;omega
   have hki:(k:Int)<(E.length:Int):=by omega
   have hk40:(k:Int)<40:=by omega
   have HAT:=jh hat
   clear hat
   go_wp2_with fail
   clear hr0 c1
   go_loopw [9] (fun x wi=>∃ q:Nat,q<=E.length/\x=.int .i64 q/\RAt wi w1.heap.size E.length (Zcy E.length k q (ptM E M one))/\Below w1.heap.size w1 wi) (fun x _=>E.length-(intOf x).toNat)
   case atStart=>exact⟨0,Nat.zero_le _,rfl,HAT.out,hbe⟩
   case round=>
    obtain⟨q,hq,rfl,hati,hbi⟩:=hrel
    have hr0:=(HR1.out.next hbi).c0
    obtain⟨c0,c1,c2,c3,c4,c5,c6,c7⟩:=HG0.out.next hbi
    rw[hG] at c0 c1 c2 c3 c4 c5 c6 c7
    dsimp only at c0 c1 c2 c3 c4 c5 c6 c7
    clear c0 c2 c3 c4 c5 c6 c7
    by_cases hql:q<E.length
    ·have hdq:decide ((q:Int)<(E.length:Int))=true:=by simp;omega
     have hqi:(q:Int)<(E.length:Int):=by omega
     have hq40:(q:Int)<40:=by omega
     have hd:=hati.ci k q (by omega) (by omega)
     rw[Ze2] at hd
     have hm:=(HR1.out.next hbi).ci k q (by omega) (by omega)
     have hfz:=hati.frozen (1+k*40+q)
     have HATI:=jh hati
     have HST:=jh (Zc4 E.length k q (ptM E M one))
     have hX:ptM E M one k q=(M k q&&(((Ev.at E k).th==(Ev.at E q).th)==one)):=rfl
     clear hati
     rcases HI1.out.next hbi with h0 | ⟨b,o,rfl,hbl,hcc⟩
     ·rw[h0] at hlt;simp at hlt
     ·have d0:=(hcc k hlt).c0
      have d1:=(hcc q hql).c0
      clear hcc
      change _=some (Value.int _ (Ev.at E k).th) at d0
      change _=some (Value.int _ (Ev.at E q).th) at d1
      generalize (Ev.at E k).th=x at *
      generalize (Ev.at E q).th=y at *
      generalize M k q=mv at *
      cases mv
      ·have HX:Hid (ptM E M one k q=false):=jh (by rw[hX];rfl)
       clear hX
       go_wp2_with fail
       go_region
       go_wp2_with fail
       go_roundw
       case rel=>
        refine⟨q+1,by omega,by go_num,?_,(hbi.setCell (Nat.le_refl _) _).drew⟩
        have h2:=(RAt.congr (HATI.out.set k q _ (by omega) (by omega)) fun i j _ _=>HST.out i j).drew
        rw[HX.out] at h2
        exact h2
       case measure=>simp[intOf];omega
      ·cases e1:(x==y)<;>cases one
       all_goals
        rw[e1,Bool.true_and] at hX
        have HX:=jh hX
        clear hX
        go_wp2_with fail
        go_region
        go_wp2_with fail
        go_roundw
        case rel=>
         refine⟨q+1,by omega,by go_num,?_,(hbi.setCell (Nat.le_refl _) _).drew⟩
         have h2:=(RAt.congr (HATI.out.set k q _ (by omega) (by omega)) fun i j _ _=>HST.out i j).drew
         rw[HX.out] at h2
         exact h2
        case measure=>simp[intOf];omega
    ·have hqN:q=E.length:=by omega
     have HQ:=jh hqN
     have hdq:decide ((q:Int)<(E.length:Int))=false:=by simp;omega
     have HATI:=jh hati
     clear hqN hati
     go_wp2_with fail
     go_roundw
     case rel=>
      refine⟨k+1,by omega,by go_num,?_,hbi⟩
      have h1:=HATI.out
      rw[HQ.out] at h1
      exact h1.congr fun i j _ _=>Zd6 E.length k _ i j
     case measure=>simp[intOf];omega
  ·have hkN:k=E.length:=by omega
   have HKN:=jh hkN
   have hdk:decide ((k:Int)<(E.length:Int))=false:=by simp;omega
   have HAT:=jh hat
   have HBf:=jh (Zab HB1.out hbe)
   clear hkN hat
   go_wp2_with fail
   go_ret
   exact⟨_,rfl,⟨HAT.out.congr fun i j _ _=>(Zc5 E.length k _ HKN.out i j).trans (Ziq HW.out i j),HW.out⟩,HB1.out.size,HBf.out⟩
end
end Go.Proofs.YthcnhbclagegeaaGreatDoor
