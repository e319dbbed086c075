/-
  What the functions that the law reaches do, one by one: contracts. Conditions: Zcj that each of them prints.
-/
import Derived.Test.YthcnhbclagegeaaDoorMh
import Derived.BigRegion
namespace Go.Proofs.YthcnhbclagegeaaDoor
open Go.RowKit RelA
attribute [local irreducible] RelA.rcells
theorem Yy2 (b c n:Nat) (M S:Nat->Nat->Bool) (w:World) (h:Rr w b n M) (g:Rr w c n S) (hn:n<=40) :
  Calls Tryd.prog 116 #[.pointer (some ⟨b,0,none⟩),.pointer (some ⟨c,0,none⟩)] w (Zeq n (orM M S) w):=by
 refine (Ykv b n c n M S w h.at_ g.at_ hn hn).mono ?_
 rintro e w' ⟨rfl,ha,hb⟩
 rw [Nat.max_self] at ha
 exact ⟨_,rfl,⟨by have e:=Zdy (Zdq h.wf g.wf); rw [<- e]; exact ha,Zdq h.wf g.wf⟩,Nat.le_refl _,hb⟩
theorem Ys7 (b c n:Nat) (M S:Nat->Nat->Bool) (w:World) (h:Rr w b n M) (g:Rr w c n S) (hn:n<=40) :
  Calls Tryd.prog 130 #[.pointer (some ⟨b,0,none⟩),.pointer (some ⟨c,0,none⟩)] w (Zeq n (Zp8 M S) w):=by
 refine (Ydj b n c n M S w h.at_ g.at_ hn hn).mono ?_
 rintro e w' ⟨rfl,ha,hb⟩
 rw [Nat.max_self] at ha
 exact ⟨_,rfl,⟨by have e:=Zdy (Zlb (S:=S) h.wf); rw [<- e]; exact ha,Zlb h.wf⟩,Nat.le_refl _,hb⟩
theorem Yk0 (b c n:Nat) (M S:Nat->Nat->Bool) (w:World) (h:Rr w b n M) (g:Rr w c n S) (hn:n<=40) :
  Calls Tryd.prog 142 #[.pointer (some ⟨b,0,none⟩),.pointer (some ⟨c,0,none⟩)] w (Zeq n (Ziv M S) w):=by
 refine (Zo8 b n c n M S w h.at_ g.at_ hn hn).mono ?_
 rintro e w' ⟨rfl,ha,hb⟩
 rw [Nat.max_self] at ha
 exact ⟨_,rfl,⟨by have e:=Zdy (Zfj (S:=S) h.wf); rw [<- e]; exact ha,Zfj h.wf⟩,Nat.le_refl _,hb⟩
theorem Yku (b c n:Nat) (M S:Nat->Nat->Bool) (w:World) (h:Rr w b n M) (g:Rr w c n S) (hn:n<=40) :
  Calls Tryd.prog 98 #[.pointer (some ⟨b,0,none⟩),.pointer (some ⟨c,0,none⟩)] w (Zeq n (Zcd M S) w):=by
 refine (Zzb b n c n M S w h.at_ g.at_ hn hn).mono ?_
 rintro e w' ⟨rfl,ha,hb⟩
 rw [Nat.max_self] at ha
 exact ⟨_,rfl,⟨by rw [<- Zsf h.wf g.wf]; exact ha,Ze8 h.wf g.wf⟩,Nat.le_refl _,hb⟩
theorem Ylw (b n:Nat) (M:Nat->Nat->Bool) (w:World) (h:Rr w b n M) (hn:n<=40) :
  Calls Tryd.prog 97 #[.pointer (some ⟨b,0,none⟩)] w (Zeq n (Zk8 M) w):=by
 refine (Zzj b n M w h.at_ hn).mono ?_
 rintro e w' ⟨rfl,ha,hb⟩
 rw [Zdy h.wf] at ha
 exact ⟨_,rfl,⟨ha,Zsa h.wf⟩,Nat.le_refl _,hb⟩
theorem Zq7 {n:Nat} (h:n<=40):Zaq (n:Int)=n:=by unfold Zaq; omega
theorem Zh6 (n:Nat) (w:World) (hn:n<=40) :
  Calls Tryd.prog 48 #[.int .i64 n,.slice none 0 0] w fun e w'=>e=.returned (.pointer (some ⟨w.heap.size,0,none⟩))/\RAt w' w.heap.size n Zk2/\Below w.heap.size w w':=by
 refine (Ze3 (n:Int) w).mono ?_
 rintro e w' ⟨rfl,ha,hb⟩
 rw [Zq7 hn] at ha
 exact ⟨rfl,ha,hb⟩
theorem Ys2 (n:Nat) (w:World) (hn:n<=40) :
  Calls Tryd.prog 48 #[.int .i64 n,.slice none 0 0] w (Zeq n Zk2 w):=by
 refine (Ze3 (n:Int) w).mono ?_
 rintro e w' ⟨rfl,ha,hb⟩
 rw [Zq7 hn] at ha
 exact ⟨_,rfl,⟨ha,fun i j a=>by cases a⟩,Nat.le_refl _,hb⟩
theorem Zhk (n:Nat) (a:Option Addr) (L:List (Int × Int)) (c:Nat) (w:World) (hn:n<=40) (hl:L.length<=300) (h:PIn w a L c) :
  Calls Tryd.prog 48 #[.int .i64 n,.slice a L.length c] w (Zeq n (ofM n L) w):=by
 have key:Calls Tryd.prog 48 #[.int .i64 n,.slice a L.length c] w fun e w'=>e=.returned (.pointer (some ⟨w.heap.size,0,none⟩))/\RAt w' w.heap.size (Zaq n) (Zhz (Zaq n) L)/\Below w.heap.size w w':=by
  rcases h with ⟨rfl,rfl,rfl⟩ | ⟨ad,rfl,rfl⟩ | ⟨b,o,rfl,hb,hc⟩
  ·exact Zo7 n none 0 w
  ·exact Zo7 n _ c w
  ·exact Zzf n b o L c w (by unfold maxLen; omega) hb hc
 refine key.mono ?_
 rintro e w' ⟨rfl,ha,hb⟩
 rw [Zq7 hn] at ha
 exact ⟨_,rfl,⟨ha,Zrn n L⟩,Nat.le_refl _,hb⟩
namespace RelA
def poR (e f:Int):Bool:=(e == 0 && decide (0 < f)) || (decide (0 < e) && e == f)
def Zhw (E:List Ev):Nat->Nat->Bool:=fun i j=>(decide (i < j) && decide (j < E.length)) && poR (Ev.at E i).th (Ev.at E j).th
theorem Ysp (E:List Ev):WFM E.length (Zhw E):=fun i j a=>by
 unfold Zhw at a
 rw [Bool.and_eq_true,Bool.and_eq_true,decide_eq_true_eq,decide_eq_true_eq] at a
 omega
def Yym (E:List Ev):Prop:=∀ i,0<=(Ev.at E i).th
theorem Ys8 {E:List Ev} (h:Yym E):Zhw E=poM E:=by
 funext i j
 unfold Zhw poM
 have h1:=h i
 have h2:=h j
 generalize (Ev.at E i).th=x at *
 generalize (Ev.at E j).th=y at *
 congr 1
 unfold poR poB
 rw [Bool.eq_iff_iff]
 simp only [Bool.or_eq_true,Bool.and_eq_true,beq_iff_eq,bne_iff_ne,decide_eq_true_eq]
 omega
theorem Zic {n:Nat} {F:Nat->Nat->Bool} (h:WFM n F) (i j:Nat):Zdk n F i j=F i j:=by rw [Zdy h]
end RelA
set_option maxRecDepth 20000 in
set_option maxHeartbeats 3200000 in
theorem Ys1 (g:Gr) (w:World) (h:EsIn w g.ea g.E) (he:g.E.length<=40) :
  Calls Tryd.prog 101 #[g.v] w fun e w'=>∃ d,e=.returned (.pointer (some ⟨d,0,none⟩))/\w.heap.size<=d/\RAt w' d g.n (Zhw g.E)/\Below w.heap.size w w':=by
 have HG0:=Lib.hid (GBox.of_alloc w g 28)
 obtain ⟨G,hG⟩:∃ G,G=g:=⟨_,rfl⟩
 obtain ⟨locs,ea,E,ec,ra,R,rc,ca,C,cc,ma,Rmw,mc,da,Data,dc,ta,Ctrl,tc,ia,CtrlI,ic⟩:=g
 simp only [Gr.v,Gr.n,Zbv] at he h HG0 ⊢
 rw [<- hG] at HG0
 have HI:=Lib.hid h
 have HM:=Lib.hid (Ysp E)
 clear h
 go_enter Tryd.func101,Tryd.ntmps101
 go_wp2_with fail
 obtain ⟨w1,hw1⟩:∃ x,x=w.alloc (Obj.cells #[.int .i64 locs,.slice ea E.length ec,.slice ra R.length rc,.slice ca C.length cc,.slice ma Rmw.length mc,.slice da Data.length dc,.slice ta Ctrl.length tc,.slice ia CtrlI.length ic] 28 (0,0)):=⟨_,rfl⟩
 rw [<- hw1] at HG0 ⊢
 have hs1:w1.heap.size=w.heap.size + 1:=by rw [hw1]; simp
 have HB1:Hid (Below w.heap.size w w1):=Lib.hid (by rw [hw1]; exact (Below.refl _ _).alloc (Nat.le_refl _) _)
 clear hw1
 have HI1:=Lib.hid (HI.out.next HB1.out)
 clear HI hs1
 refine (Zh6 E.length w1 he).mono ?_
 rintro e w2 ⟨rfl,hat,hbe1⟩
 have HAT1:=Lib.hid hat
 have HBE1:=Lib.hid hbe1
 clear hat hbe1
 go_wp2_with fail
 go_loopw [4] (fun x wr=>∃ k:Nat,k<=E.length/\x=.int .i64 k/\RAt wr w1.heap.size E.length (Zct E.length k 0 (Zhw E))/\Below w1.heap.size w1 wr) (fun x _=>E.length - (intOf x).toNat)
 case atStart=>exact ⟨0,Nat.zero_le _,rfl,HAT1.out.congr fun i j _ _=>(Zcy _ _ i j).symm,HBE1.out⟩
 case round=>
  obtain ⟨k,hk,rfl,hat,hbe⟩:=hrel
  by_cases hlt:k < E.length
  ·obtain ⟨wo,rfl⟩:∃ wo:World,wo=wr:=⟨_,rfl⟩
   have hr0:=hat.c0
   have hdk:decide ((k:Int) < (E.length:Int))=true:=by simp; omega
   have hki:(k:Int) < (E.length:Int):=by omega
   have hk40:(k:Int) < 40:=by omega
   have HAT:=Lib.hid hat
   clear hat
   go_wp2_with fail
   clear hr0
   go_loopw [5] (fun x wi=>∃ q:Nat,k + 1<=q/\q<=E.length/\x=.int .i64 q/\RAt wi w1.heap.size E.length (Zct E.length k q (Zhw E))/\Below w1.heap.size w1 wi) (fun x _=>E.length - (intOf x).toNat)
   case atStart=>
    refine ⟨k + 1,Nat.le_refl _,by omega,by go_num,HAT.out.congr fun i j _ _=>?_,hbe⟩
    unfold Zct
    by_cases e1:i=k
    ·subst e1
     by_cases e2:j < i + 1
     ·have:Zhw E i j=false:=by
       unfold Zhw
       have:¬ i < j:=by omega
       simp [this]
      simp [this]
     ·simp [e2]
    ·simp [e1]
   case round=>
    obtain ⟨q,hq1,hq,rfl,hati,hbi⟩:=hrel
    have hr0:=hati.c0
    by_cases hql:q < E.length
    ·have hdq:decide ((q:Int) < (E.length:Int))=true:=by simp; omega
     have hqi:(q:Int) < (E.length:Int):=by omega
     have hq40:(q:Int) < 40:=by omega
     have hd:=hati.ci k q (by omega) (by omega)
     rw [Ze2] at hd
     have hfz:=hati.frozen (1 + k * 40 + q)
     have HATI:=Lib.hid hati
     have HST:=Lib.hid (Zcz E.length k q (Zhw E))
     have hX:Zhw E k q=poR (Ev.at E k).th (Ev.at E q).th:=by
      unfold Zhw
      have a1:k < q:=by omega
      simp [a1,hql]
     obtain ⟨c0,c1,c2,c3,c4,c5,c6,c7⟩:=HG0.out.next hbi
     rw [hG] at c0 c1 c2 c3 c4 c5 c6 c7
     dsimp only at c0 c1 c2 c3 c4 c5 c6 c7
     clear hati c0 c2 c3 c4 c5 c6 c7
     rcases HI1.out.next hbi with h0 | ⟨b,o,rfl,hbl,hcc⟩
     ·rw [h0] at hlt; simp at hlt
     ·have d0:=(hcc k hlt).c0
      have d1:=(hcc q hql).c0
      clear hcc
      change _=some (Value.int _ (Ev.at E k).th) at d0
      change _=some (Value.int _ (Ev.at E q).th) at d1
      generalize (Ev.at E k).th=x at *
      generalize (Ev.at E q).th=y at *
      have cs:(x=0/\¬ 0 < y) ∨ (x=0/\0 < y) ∨ (x ≠ 0/\¬ 0 < x) ∨ (0 < x/\x=y) ∨ (0 < x/\x ≠ y):=by omega
      rcases cs with ⟨hx,hy⟩ | ⟨hx,hy⟩ | ⟨hx,hy⟩ | ⟨hx,hy⟩ | ⟨hx,hy⟩
      ·have hX2:Zhw E k q=false:=by rw [hX,hx]; unfold poR; simp [hy]
       have HX:Hid (Zhw E k q=false):=Lib.hid hX2
       clear hX2 hX
       subst hx
       have hy1:decide (0 < y)=false:=by simp [hy]
       go_wp2_with fail
       go_region
       go_wp2_with fail
       go_roundw
       case rel=>
        refine ⟨q + 1,by omega,by omega,by go_num,?_,(hbi.setCell (Nat.le_refl _) _).drew⟩
        have h1:=HATI.out.set k q (Zhw E k q) (by omega) (by omega)
        have h2:=(h1.congr fun i j _ _=>HST.out i j).drew
        rw [HX.out] at h2
        exact h2
       case measure=>simp [intOf]; omega
      ·have hX2:Zhw E k q=true:=by rw [hX,hx]; unfold poR; simp [hy]
       have HX:Hid (Zhw E k q=true):=Lib.hid hX2
       clear hX2 hX
       subst hx
       have hy1:decide (0 < y)=true:=by simp [hy]
       go_wp2_with fail
       go_region
       go_wp2_with fail
       go_roundw
       case rel=>
        refine ⟨q + 1,by omega,by omega,by go_num,?_,(hbi.setCell (Nat.le_refl _) _).drew⟩
        have h1:=HATI.out.set k q (Zhw E k q) (by omega) (by omega)
        have h2:=(h1.congr fun i j _ _=>HST.out i j).drew
        rw [HX.out] at h2
        exact h2
       case measure=>simp [intOf]; omega
      ·have hX2:Zhw E k q=false:=by rw [hX]; unfold poR; simp [hx,hy]
       have HX:Hid (Zhw E k q=false):=Lib.hid hX2
       clear hX2 hX
       have hx1:(x == 0)=false:=by simp [hx]
       have hx2:decide (0 < x)=false:=by simp [hy]
       go_wp2_with fail
       go_region
       go_wp2_with fail
       go_roundw
       case rel=>
        refine ⟨q + 1,by omega,by omega,by go_num,?_,(hbi.setCell (Nat.le_refl _) _).drew⟩
        have h1:=HATI.out.set k q (Zhw E k q) (by omega) (by omega)
        have h2:=(h1.congr fun i j _ _=>HST.out i j).drew
        rw [HX.out] at h2
        exact h2
       case measure=>simp [intOf]; omega
      ·have hX2:Zhw E k q=true:=by rw [hX,<- hy]; unfold poR; simp [hx]
       have HX:Hid (Zhw E k q=true):=Lib.hid hX2
       clear hX2 hX
       have hx0:x ≠ 0:=by omega
       have hx1:(x == 0)=false:=by simp [hx0]
       have hx2:decide (0 < x)=true:=by simp [hx]
       subst hy
       go_wp2_with fail
       go_region
       go_wp2_with fail
       go_roundw
       case rel=>
        refine ⟨q + 1,by omega,by omega,by go_num,?_,(hbi.setCell (Nat.le_refl _) _).drew⟩
        have h1:=HATI.out.set k q (Zhw E k q) (by omega) (by omega)
        have h2:=(h1.congr fun i j _ _=>HST.out i j).drew
        rw [HX.out] at h2
        exact h2
       case measure=>simp [intOf]; omega
      ·have hx00:x ≠ 0:=by omega
       have hX2:Zhw E k q=false:=by rw [hX]; unfold poR; simp [hx00,hy]
       have HX:Hid (Zhw E k q=false):=Lib.hid hX2
       clear hX2 hX
       have hx0:x ≠ 0:=by omega
       have hx1:(x == 0)=false:=by simp [hx0]
       have hx2:decide (0 < x)=true:=by simp [hx]
       have hy1:(x == y)=false:=by simp [hy]
       go_wp2_with fail
       go_region
       go_wp2_with fail
       go_roundw
       case rel=>
        refine ⟨q + 1,by omega,by omega,by go_num,?_,(hbi.setCell (Nat.le_refl _) _).drew⟩
        have h1:=HATI.out.set k q (Zhw E k q) (by omega) (by omega)
        have h2:=(h1.congr fun i j _ _=>HST.out i j).drew
        rw [HX.out] at h2
        exact h2
       case measure=>simp [intOf]; omega
    ·have hqN:q=E.length:=by omega
     have HQ:=Lib.hid hqN
     have hdq:decide ((q:Int) < (E.length:Int))=false:=by simp; omega
     have HATI:=Lib.hid hati
     clear hqN hati
     go_wp2_with fail
     go_roundw
     case rel=>
      refine ⟨k + 1,by omega,by go_num,?_,hbi⟩
      have h1:=HATI.out
      rw [HQ.out] at h1
      exact h1.congr fun i j _ _=>Zd0 E.length k _ i j
     case measure=>simp [intOf]; omega
  ·have hkN:k=E.length:=by omega
   have HKN:=Lib.hid hkN
   have hdk:decide ((k:Int) < (E.length:Int))=false:=by simp; omega
   have hr0:=hat.c0
   have HAT:=Lib.hid hat
   have HBf:=Lib.hid (Zab HB1.out hbe)
   clear hkN hat
   go_wp2_with fail
   go_ret
   exact ⟨_,rfl,HB1.out.size,HAT.out.congr fun i j _ _=>(Zc0 E.length k _ HKN.out i j).trans (Zic HM.out i j),HBf.out⟩
end Go.Proofs.YthcnhbclagegeaaDoor
namespace Go.Proofs.YthcnhbclagegeaaDoor
open Go.RowKit RelA
attribute [local irreducible] RelA.rcells
namespace RelA
def Zqd (kind lo hi:Int) (e:Ev):Bool:=((e.kd == kind) && decide (lo<=e.md)) && decide (e.md<=hi)
def kM (g:Gr) (kind lo hi:Int):Nat->Nat->Bool:=Zg7 g.n fun i=>Zqd kind lo hi (Ev.at g.E i)
def Yar (_n k:Nat) (p:Nat->Bool):Nat->Nat->Bool:=fun i j=>(decide (i=j) && decide (i < k)) && p i
theorem Zz2 (n:Nat) (p:Nat->Bool) (i j:Nat):Zk2 i j=Yar n 0 p i j:=by unfold Zk2 Yar; simp
theorem Zz3 (n k:Nat) (p:Nat->Bool) (i j:Nat):Zob (Yar n k p) k k (p k) i j=Yar n (k + 1) p i j:=by
 unfold Zob Yar
 by_cases h:i=k/\j=k
 ·rw [if_pos h]; obtain ⟨rfl,rfl⟩:=h; simp
 ·rw [if_neg h]
  by_cases e:i=j
  ·subst e
   have h1:¬ i=k:=fun e=>h ⟨e,e⟩
   by_cases h2:i < k
   ·have:i < k + 1:=by omega
    simp [h2,this]
   ·have:¬ i < k + 1:=by omega
    simp [h2,this]
  ·simp [e]
theorem Yov (n k:Nat) (p:Nat->Bool):Yar n k p k k=false:=by unfold Yar; simp
theorem Zz4 (n k:Nat) (p:Nat->Bool) (h:k=n) (i j:Nat):Yar n k p i j=Zg7 n p i j:=by subst h; rfl
end RelA
set_option maxRecDepth 20000 in
set_option maxHeartbeats 3200000 in
theorem Zdj (g:Gr) (kind lo hi:Int) (w:World) (h:EsIn w g.ea g.E) (he:g.E.length<=40) :
  Calls Tryd.prog 129 #[g.v,.int .i64 kind,.int .i64 lo,.int .i64 hi] w (Zeq g.n (kM g kind lo hi) w):=by
 have hF:kM g kind lo hi=Zg7 g.n fun i=>Zqd kind lo hi (Ev.at g.E i):=rfl
 rw [hF]
 clear hF
 have HG0:=Lib.hid (GBox.of_alloc w g 28)
 obtain ⟨G,hG⟩:∃ G,G=g:=⟨_,rfl⟩
 obtain ⟨locs,ea,E,ec,ra,R,rc,ca,C,cc,ma,Rmw,mc,da,Data,dc,ta,Ctrl,tc,ia,CtrlI,ic⟩:=g
 simp only [Gr.v,Gr.n,Zbv] at he h HG0 ⊢
 rw [<- hG] at HG0
 have HI:=Lib.hid h
 clear h
 obtain ⟨p,hp⟩:∃ p,p=fun i=>Zqd kind lo hi (Ev.at E i):=⟨_,rfl⟩
 rw [<- hp]
 go_enter Tryd.func129,Tryd.ntmps129
 go_wp2_with fail
 obtain ⟨w1,hw1⟩:∃ x,x=w.alloc (Obj.cells #[.int .i64 locs,.slice ea E.length ec,.slice ra R.length rc,.slice ca C.length cc,.slice ma Rmw.length mc,.slice da Data.length dc,.slice ta Ctrl.length tc,.slice ia CtrlI.length ic] 28 (0,0)):=⟨_,rfl⟩
 rw [<- hw1] at HG0 ⊢
 have hs1:w1.heap.size=w.heap.size + 1:=by rw [hw1]; simp
 have HB1:Hid (Below w.heap.size w w1):=Lib.hid (by rw [hw1]; exact (Below.refl _ _).alloc (Nat.le_refl _) _)
 clear hw1
 have HI1:=Lib.hid (HI.out.next HB1.out)
 clear HI hs1
 refine (Zh6 E.length w1 he).mono ?_
 rintro e w2 ⟨rfl,hat,hbe1⟩
 have HAT1:=Lib.hid hat
 have HBE1:=Lib.hid hbe1
 clear hat hbe1
 go_wp2_with fail
 go_loopw [10] (fun x wr=>∃ k:Nat,k<=E.length/\x=.int .i64 k/\RAt wr w1.heap.size E.length (Yar E.length k p)/\Below w1.heap.size w1 wr) (fun x _=>E.length - (intOf x).toNat)
 case atStart=>exact ⟨0,Nat.zero_le _,rfl,HAT1.out.congr fun i j _ _=>Zz2 _ _ i j,HBE1.out⟩
 case round=>
  obtain ⟨k,hk,rfl,hat,hbe⟩:=hrel
  by_cases hlt:k < E.length
  ·have hr0:=hat.c0
   have hdk:decide ((k:Int) < (E.length:Int))=true:=by simp; omega
   have hki:(k:Int) < (E.length:Int):=by omega
   have hk40:(k:Int) < 40:=by omega
   have hpk:p k=Zqd kind lo hi (Ev.at E k):=by rw [hp]
   obtain ⟨c0,c1,c2,c3,c4,c5,c6,c7⟩:=HG0.out.next hbe
   rw [hG] at c0 c1 c2 c3 c4 c5 c6 c7
   dsimp only at c0 c1 c2 c3 c4 c5 c6 c7
   clear c0 c2 c3 c4 c5 c6 c7
   rcases HI1.out.next hbe with h0 | ⟨b,o,rfl,hbl,hcc⟩
   ·rw [h0] at hlt; simp at hlt
   ·obtain ⟨d0,d1,d2,d3,d4,d5⟩:=hcc k hlt
    clear hcc
    change _=some (Value.int _ (Ev.at E k).th) at d0
    change _=some (Value.int _ (Ev.at E k).kd) at d1
    change _=some (Value.int _ (Ev.at E k).md) at d2
    change _=some (Value.int _ (Ev.at E k).lc) at d3
    change _=some (Value.int _ (Ev.at E k).vl) at d4
    change _=some (Value.bool (Ev.at E k).ex) at d5
    generalize Ev.at E k=ev at *
    obtain ⟨x0,x1,x2,x3,x4,x5⟩:=ev
    unfold Zqd at hpk
    dsimp only at d0 d1 d2 d3 d4 d5 hpk
    obtain ⟨w3,hw3⟩:∃ x,x=wr.alloc (Obj.cells #[.int .i64 x0,.int .i64 x1,.int .i64 x2,.int .i64 x3,.int .i64 x4,.bool x5] 30 (0,0)):=⟨_,rfl⟩
    have hbw:Below wr.heap.size wr w3:=by rw [hw3]; exact (Below.refl _ _).alloc (Nat.le_refl _) _
    have f1:w3.cell? ⟨wr.heap.size,1,none⟩=some (.int .i64 x1):=by rw [hw3,cell_of_row _ _ _ _ _ _ (heap_alloc_new _ _)]; rfl
    have f2:w3.cell? ⟨wr.heap.size,2,none⟩=some (.int .i64 x2):=by rw [hw3,cell_of_row _ _ _ _ _ _ (heap_alloc_new _ _)]; rfl
    have hat3:=hat.next hbw
    have hd:=hat3.ci k k (by omega) (by omega)
    rw [Yov] at hd
    have hfz:=hat3.frozen (1 + k * 40 + k)
    have hs3:=hbe.size
    have hbe3:=Zbm hbe hs3 hbw
    have HAT3:=Lib.hid hat3
    have HST:=Lib.hid (Zz3 E.length k p)
    have HBE3:=Lib.hid hbe3
    clear hat hat3 hbe hbw hbe3
    cases e1:(x1 == kind)
    ·have HX:Hid (p k=false):=Lib.hid (by rw [hpk,e1]; rfl)
     clear hpk
     go_wp2_with fail
     rw [<- hw3]
     clear hw3
     go_region
     go_wp2_with fail
     go_roundw
     case rel=>
      refine ⟨k + 1,by omega,by go_num,?_,(HBE3.out.setCell (Nat.le_refl _) _).drew⟩
      have h1:=HAT3.out.set k k (p k) (by omega) (by omega)
      have h2:=(h1.congr fun i j _ _=>HST.out i j).drew
      rw [HX.out] at h2
      exact h2
     case measure=>simp [intOf]; omega
    ·cases e2:decide (lo<=x2)
     ·have HX:Hid (p k=false):=Lib.hid (by rw [hpk,e1,e2]; rfl)
      clear hpk
      go_wp2_with fail
      rw [<- hw3]
      clear hw3
      go_region
      go_wp2_with fail
      go_roundw
      case rel=>
       refine ⟨k + 1,by omega,by go_num,?_,(HBE3.out.setCell (Nat.le_refl _) _).drew⟩
       have h1:=HAT3.out.set k k (p k) (by omega) (by omega)
       have h2:=(h1.congr fun i j _ _=>HST.out i j).drew
       rw [HX.out] at h2
       exact h2
      case measure=>simp [intOf]; omega
     ·cases e3:decide (x2<=hi)
      ·have HX:Hid (p k=false):=Lib.hid (by rw [hpk,e1,e2,e3]; rfl)
       clear hpk
       go_wp2_with fail
       rw [<- hw3]
       clear hw3
       go_region
       go_wp2_with fail
       go_roundw
       case rel=>
        refine ⟨k + 1,by omega,by go_num,?_,(HBE3.out.setCell (Nat.le_refl _) _).drew⟩
        have h1:=HAT3.out.set k k (p k) (by omega) (by omega)
        have h2:=(h1.congr fun i j _ _=>HST.out i j).drew
        rw [HX.out] at h2
        exact h2
       case measure=>simp [intOf]; omega
      ·have HX:Hid (p k=true):=Lib.hid (by rw [hpk,e1,e2,e3]; rfl)
       clear hpk
       go_wp2_with fail
       rw [<- hw3]
       clear hw3
       go_region
       go_wp2_with fail
       go_roundw
       case rel=>
        refine ⟨k + 1,by omega,by go_num,?_,(HBE3.out.setCell (Nat.le_refl _) _).drew⟩
        have h1:=HAT3.out.set k k (p k) (by omega) (by omega)
        have h2:=(h1.congr fun i j _ _=>HST.out i j).drew
        rw [HX.out] at h2
        exact h2
       case measure=>simp [intOf]; omega
  ·have hkN:k=E.length:=by omega
   have HKN:=Lib.hid hkN
   have hdk:decide ((k:Int) < (E.length:Int))=false:=by simp; omega
   have hr0:=hat.c0
   have HAT:=Lib.hid hat
   have HBf:=Lib.hid (Zab HB1.out hbe)
   clear hkN hat
   go_wp2_with fail
   go_ret
   exact ⟨_,rfl,⟨HAT.out.congr fun i j _ _=>Zz4 E.length k p HKN.out i j,Zj3 _ _⟩,HB1.out.size,HBf.out⟩
end Go.Proofs.YthcnhbclagegeaaDoor
