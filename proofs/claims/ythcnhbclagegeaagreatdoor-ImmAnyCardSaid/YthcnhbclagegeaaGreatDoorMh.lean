/-
  What the functions that the law reaches do, one by one: contracts. Conditions: those that each of them prints.
-/
import Derived.Test.YthcnhbclagegeaaGreatDoorMg
import Derived.BigRegion
namespace Go.Proofs.YthcnhbclagegeaaGreatDoor
open Go.RowKit RelA
attribute [local irreducible] RelA.rcells
theorem ror_l (b c n:Nat) (M S:Nat→Nat→Bool) (w:World) (h:Rr w b n M) (g:Rr w c n S) (hn:n≤40) :
  Calls Tryz.prog 96 #[.pointer (some ⟨b,0,none⟩),.pointer (some ⟨c,0,none⟩)] w (MakesR n (orM M S) w):=by
 refine (ror_any b n c n M S w h.at_ g.at_ hn hn).mono ?_
 rintro e w' ⟨rfl,ha,hb⟩
 rw [Nat.max_self] at ha
 exact ⟨_,rfl,⟨by have e:=full_id (wf_or h.wf g.wf); rw [← e]; exact ha,wf_or h.wf g.wf⟩,Nat.le_refl _,hb⟩
theorem rand_l (b c n:Nat) (M S:Nat→Nat→Bool) (w:World) (h:Rr w b n M) (g:Rr w c n S) (hn:n≤40) :
  Calls Tryz.prog 109 #[.pointer (some ⟨b,0,none⟩),.pointer (some ⟨c,0,none⟩)] w (MakesR n (andM M S) w):=by
 refine (rand_any b n c n M S w h.at_ g.at_ hn hn).mono ?_
 rintro e w' ⟨rfl,ha,hb⟩
 rw [Nat.max_self] at ha
 exact ⟨_,rfl,⟨by have e:=full_id (wf_and (S:=S) h.wf); rw [← e]; exact ha,wf_and h.wf⟩,Nat.le_refl _,hb⟩
theorem rthen_l (b c n:Nat) (M S:Nat→Nat→Bool) (w:World) (h:Rr w b n M) (g:Rr w c n S) (hn:n≤40) :
  Calls Tryz.prog 94 #[.pointer (some ⟨b,0,none⟩),.pointer (some ⟨c,0,none⟩)] w (MakesR n (seqM M S) w):=by
 refine (rthen_any b n c n M S w h.at_ g.at_ hn hn).mono ?_
 rintro e w' ⟨rfl,ha,hb⟩
 rw [Nat.max_self] at ha
 exact ⟨_,rfl,⟨by rw [← seq_then h.wf g.wf]; exact ha,wf_seq h.wf g.wf⟩,Nat.le_refl _,hb⟩
theorem rback_l (b n:Nat) (M:Nat→Nat→Bool) (w:World) (h:Rr w b n M) (hn:n≤40) :
  Calls Tryz.prog 163 #[.pointer (some ⟨b,0,none⟩)] w (MakesR n (backM M) w):=by
 refine (rback_any b n M w h.at_ hn).mono ?_
 rintro e w' ⟨rfl,ha,hb⟩
 rw [full_id h.wf] at ha
 exact ⟨_,rfl,⟨ha,wf_backM h.wf⟩,Nat.le_refl _,hb⟩
theorem rmaybe_l (b n:Nat) (M:Nat→Nat→Bool) (w:World) (h:Rr w b n M) (hn:n≤40) :
  Calls Tryz.prog 178 #[.pointer (some ⟨b,0,none⟩)] w (MakesR n (maybeM n M) w):=by
 refine (rmaybe_any b n M w h.at_ hn).mono ?_
 rintro e w' ⟨rfl,ha,hb⟩
 exact ⟨_,rfl,⟨ha,wf_maybeM h.wf⟩,Nat.le_refl _,hb⟩
theorem rplus_l (b n:Nat) (M:Nat→Nat→Bool) (w:World) (h:Rr w b n M) (hn:n≤40) :
  Calls Tryz.prog 104 #[.pointer (some ⟨b,0,none⟩)] w (MakesR n (plusM M) w):=by
 refine (rplus_any b n M w h.at_ hn h.wf).mono ?_
 rintro e w' ⟨T,rfl,ha,hT,hw,hb⟩
 have e:T=plusM M:=by
  funext i j
  rw [Bool.eq_iff_iff,hT,plusM_iff]
 rw [e] at ha hw
 exact ⟨_,rfl,⟨ha,hw⟩,Nat.le_refl _,hb⟩
theorem clamp40 {n:Nat} (h:n≤40):clampN (n:Int)=n:=by unfold clampN; omega
theorem rnew_at (n:Nat) (w:World) (hn:n≤40) :
  Calls Tryz.prog 101 #[.int .i64 n,.slice none 0 0] w fun e w'=>e=.returned (.pointer (some ⟨w.heap.size,0,none⟩))∧RAt w' w.heap.size n noneM∧Below w.heap.size w w':=by
 refine (rnew_nil (n:Int) w).mono ?_
 rintro e w' ⟨rfl,ha,hb⟩
 rw [clamp40 hn] at ha
 exact ⟨rfl,ha,hb⟩
theorem rnew_l (n:Nat) (w:World) (hn:n≤40) :
  Calls Tryz.prog 101 #[.int .i64 n,.slice none 0 0] w (MakesR n noneM w):=by
 refine (rnew_nil (n:Int) w).mono ?_
 rintro e w' ⟨rfl,ha,hb⟩
 rw [clamp40 hn] at ha
 exact ⟨_,rfl,⟨ha,fun i j a=>by cases a⟩,Nat.le_refl _,hb⟩
theorem rnewin_l (n:Nat) (a:Option Addr) (L:List (Int × Int)) (c:Nat) (w:World) (hn:n≤40) (hl:L.length≤300) (h:PIn w a L c) :
  Calls Tryz.prog 101 #[.int .i64 n,.slice a L.length c] w (MakesR n (ofM n L) w):=by
 have key:Calls Tryz.prog 101 #[.int .i64 n,.slice a L.length c] w fun e w'=>e=.returned (.pointer (some ⟨w.heap.size,0,none⟩))∧RAt w' w.heap.size (clampN n) (rnewM (clampN n) L)∧Below w.heap.size w w':=by
  rcases h with ⟨rfl,rfl,rfl⟩ | ⟨ad,rfl,rfl⟩ | ⟨b,o,rfl,hb,hc⟩
  ·exact rnew_zero n none 0 w
  ·exact rnew_zero n _ c w
  ·exact rnew_some n b o L c w (by unfold maxLen; omega) hb hc
 refine key.mono ?_
 rintro e w' ⟨rfl,ha,hb⟩
 rw [clamp40 hn] at ha
 exact ⟨_,rfl,⟨ha,wf_new n L⟩,Nat.le_refl _,hb⟩
namespace RelA
def poR (e f:Int):Bool:=(e == 0 && decide (0 < f)) || (decide (0 < e) && e == f)
def poRM (E:List Ev):Nat→Nat→Bool:=fun i j=>(decide (i < j) && decide (j < E.length)) && poR (Ev.at E i).th (Ev.at E j).th
theorem wf_poR (E:List Ev):WFM E.length (poRM E):=fun i j a=>by
 unfold poRM at a
 rw [Bool.and_eq_true,Bool.and_eq_true,decide_eq_true_eq,decide_eq_true_eq] at a
 omega
def ThOk (E:List Ev):Prop:=∀ i,0≤(Ev.at E i).th
theorem poR_eq {E:List Ev} (h:ThOk E):poRM E=poM E:=by
 funext i j
 unfold poRM poM
 have h1:=h i
 have h2:=h j
 generalize (Ev.at E i).th=x at *
 generalize (Ev.at E j).th=y at *
 congr 1
 unfold poR poB
 rw [Bool.eq_iff_iff]
 simp only [Bool.or_eq_true,Bool.and_eq_true,beq_iff_eq,bne_iff_ne,decide_eq_true_eq]
 omega
theorem full_congr {n:Nat} {F:Nat→Nat→Bool} (h:WFM n F) (i j:Nat):rfull n F i j=F i j:=by rw [full_id h]
end RelA
set_option maxRecDepth 20000 in
set_option maxHeartbeats 3200000 in
theorem rpo_at (g:Gr) (w:World) (h:EsIn w g.ea g.E) (he:g.E.length≤40) :
  Calls Tryz.prog 92 #[g.v] w fun e w'=>∃ d,e=.returned (.pointer (some ⟨d,0,none⟩))∧w.heap.size≤d∧RAt w' d g.n (poRM g.E)∧Below w.heap.size w w':=by
 have HG0:=Lib.hid (GBox.of_alloc w g 27)
 obtain ⟨G,hG⟩:∃ G,G=g:=⟨_,rfl⟩
 obtain ⟨locs,ea,E,ec,ra,R,rc,ca,C,cc,ma,Rmw,mc,da,Data,dc,ta,Ctrl,tc,ia,CtrlI,ic⟩:=g
 simp only [Gr.v,Gr.n,gcells] at he h HG0 ⊢
 rw [← hG] at HG0
 have HI:=Lib.hid h
 have HM:=Lib.hid (wf_poR E)
 clear h
 go_enter Tryz.func92,Tryz.ntmps92
 go_wp2_with fail
 obtain ⟨w1,hw1⟩:∃ x,x=w.alloc (Obj.cells #[.int .i64 locs,.slice ea E.length ec,.slice ra R.length rc,.slice ca C.length cc,.slice ma Rmw.length mc,.slice da Data.length dc,.slice ta Ctrl.length tc,.slice ia CtrlI.length ic] 27 (0,0)):=⟨_,rfl⟩
 rw [← hw1] at HG0 ⊢
 have hs1:w1.heap.size=w.heap.size + 1:=by rw [hw1]; simp
 have HB1:Hid (Below w.heap.size w w1):=Lib.hid (by rw [hw1]; exact (Below.refl _ _).alloc (Nat.le_refl _) _)
 clear hw1
 have HI1:=Lib.hid (HI.out.next HB1.out)
 clear HI hs1
 refine (rnew_at E.length w1 he).mono ?_
 rintro e w2 ⟨rfl,hat,hbe1⟩
 have HAT1:=Lib.hid hat
 have HBE1:=Lib.hid hbe1
 clear hat hbe1
 go_wp2_with fail
 go_loopw [4] (fun x wr=>∃ k:Nat,k≤E.length∧x=.int .i64 k∧RAt wr w1.heap.size E.length (rpart E.length k 0 (poRM E))∧Below w1.heap.size w1 wr) (fun x _=>E.length - (intOf x).toNat)
 case atStart=>exact ⟨0,Nat.zero_le _,rfl,HAT1.out.congr fun i j _ _=>(rpart_zero _ _ i j).symm,HBE1.out⟩
 case round=>
  obtain ⟨k,hk,rfl,hat,hbe⟩:=hrel
  by_cases hlt:k < E.length
  ·obtain ⟨wo,rfl⟩:∃ wo:World,wo=wr:=⟨_,rfl⟩
   have hr0:=hat.c0
   have hdk:decide ((k:Int) < (E.length:Int))=true:=by simp; omega
   have hki:(k:Int) < (E.length:Int):=by omega
   have hk40:(k:Int) < 40:=by omega
   have HAT:=Lib.hid hat
   clear hat
   go_wp2_with fail
   clear hr0
   go_loopw [5] (fun x wi=>∃ q:Nat,k + 1≤q∧q≤E.length∧x=.int .i64 q∧RAt wi w1.heap.size E.length (rpart E.length k q (poRM E))∧Below w1.heap.size w1 wi) (fun x _=>E.length - (intOf x).toNat)
   case atStart=>
    refine ⟨k + 1,Nat.le_refl _,by omega,by go_num,HAT.out.congr fun i j _ _=>?_,hbe⟩
    unfold rpart
    by_cases e1:i=k
    ·subst e1
     by_cases e2:j < i + 1
     ·have:poRM E i j=false:=by
       unfold poRM
       have:¬ i < j:=by omega
       simp [this]
      simp [this]
     ·simp [e2]
    ·simp [e1]
   case round=>
    obtain ⟨q,hq1,hq,rfl,hati,hbi⟩:=hrel
    have hr0:=hati.c0
    by_cases hql:q < E.length
    ·have hdq:decide ((q:Int) < (E.length:Int))=true:=by simp; omega
     have hqi:(q:Int) < (E.length:Int):=by omega
     have hq40:(q:Int) < 40:=by omega
     have hd:=hati.ci k q (by omega) (by omega)
     rw [rpart_at] at hd
     have hfz:=hati.frozen (1 + k * 40 + q)
     have HATI:=Lib.hid hati
     have HST:=Lib.hid (rpart_step E.length k q (poRM E))
     have hX:poRM E k q=poR (Ev.at E k).th (Ev.at E q).th:=by
      unfold poRM
      have a1:k < q:=by omega
      simp [a1,hql]
     obtain ⟨c0,c1,c2,c3,c4,c5,c6,c7⟩:=HG0.out.next hbi
     rw [hG] at c0 c1 c2 c3 c4 c5 c6 c7
     dsimp only at c0 c1 c2 c3 c4 c5 c6 c7
     clear hati c0 c2 c3 c4 c5 c6 c7
     rcases HI1.out.next hbi with h0 | ⟨b,o,rfl,hbl,hcc⟩
     ·rw [h0] at hlt; simp at hlt
     ·have d0:=(hcc k hlt).c0
      have d1:=(hcc q hql).c0
      clear hcc
      change _=some (Value.int _ (Ev.at E k).th) at d0
      change _=some (Value.int _ (Ev.at E q).th) at d1
      generalize (Ev.at E k).th=x at *
      generalize (Ev.at E q).th=y at *
      have cs:(x=0∧¬ 0 < y) ∨ (x=0∧0 < y) ∨ (x ≠ 0∧¬ 0 < x) ∨ (0 < x∧x=y) ∨ (0 < x∧x ≠ y):=by omega
      rcases cs with ⟨hx,hy⟩ | ⟨hx,hy⟩ | ⟨hx,hy⟩ | ⟨hx,hy⟩ | ⟨hx,hy⟩
      ·have hX2:poRM E k q=false:=by rw [hX,hx]; unfold poR; simp [hy]
       have HX:Hid (poRM E k q=false):=Lib.hid hX2
       clear hX2 hX
       subst hx
       have hy1:decide (0 < y)=false:=by simp [hy]
       go_wp2_with fail
       go_region
       go_wp2_with fail
       go_roundw
       case rel=>
        refine ⟨q + 1,by omega,by omega,by go_num,?_,(hbi.setCell (Nat.le_refl _) _).drew⟩
        have h1:=HATI.out.set k q (poRM E k q) (by omega) (by omega)
        have h2:=(h1.congr fun i j _ _=>HST.out i j).drew
        rw [HX.out] at h2
        exact h2
       case measure=>simp [intOf]; omega
      ·have hX2:poRM E k q=true:=by rw [hX,hx]; unfold poR; simp [hy]
       have HX:Hid (poRM E k q=true):=Lib.hid hX2
       clear hX2 hX
       subst hx
       have hy1:decide (0 < y)=true:=by simp [hy]
       go_wp2_with fail
       go_region
       go_wp2_with fail
       go_roundw
       case rel=>
        refine ⟨q + 1,by omega,by omega,by go_num,?_,(hbi.setCell (Nat.le_refl _) _).drew⟩
        have h1:=HATI.out.set k q (poRM E k q) (by omega) (by omega)
        have h2:=(h1.congr fun i j _ _=>HST.out i j).drew
        rw [HX.out] at h2
        exact h2
       case measure=>simp [intOf]; omega
      ·have hX2:poRM E k q=false:=by rw [hX]; unfold poR; simp [hx,hy]
       have HX:Hid (poRM E k q=false):=Lib.hid hX2
       clear hX2 hX
       have hx1:(x == 0)=false:=by simp [hx]
       have hx2:decide (0 < x)=false:=by simp [hy]
       go_wp2_with fail
       go_region
       go_wp2_with fail
       go_roundw
       case rel=>
        refine ⟨q + 1,by omega,by omega,by go_num,?_,(hbi.setCell (Nat.le_refl _) _).drew⟩
        have h1:=HATI.out.set k q (poRM E k q) (by omega) (by omega)
        have h2:=(h1.congr fun i j _ _=>HST.out i j).drew
        rw [HX.out] at h2
        exact h2
       case measure=>simp [intOf]; omega
      ·have hX2:poRM E k q=true:=by rw [hX,← hy]; unfold poR; simp [hx]
       have HX:Hid (poRM E k q=true):=Lib.hid hX2
       clear hX2 hX
       have hx0:x ≠ 0:=by omega
       have hx1:(x == 0)=false:=by simp [hx0]
       have hx2:decide (0 < x)=true:=by simp [hx]
       subst hy
       go_wp2_with fail
       go_region
       go_wp2_with fail
       go_roundw
       case rel=>
        refine ⟨q + 1,by omega,by omega,by go_num,?_,(hbi.setCell (Nat.le_refl _) _).drew⟩
        have h1:=HATI.out.set k q (poRM E k q) (by omega) (by omega)
        have h2:=(h1.congr fun i j _ _=>HST.out i j).drew
        rw [HX.out] at h2
        exact h2
       case measure=>simp [intOf]; omega
      ·have hx00:x ≠ 0:=by omega
       have hX2:poRM E k q=false:=by rw [hX]; unfold poR; simp [hx00,hy]
       have HX:Hid (poRM E k q=false):=Lib.hid hX2
       clear hX2 hX
       have hx0:x ≠ 0:=by omega
       have hx1:(x == 0)=false:=by simp [hx0]
       have hx2:decide (0 < x)=true:=by simp [hx]
       have hy1:(x == y)=false:=by simp [hy]
       go_wp2_with fail
       go_region
       go_wp2_with fail
       go_roundw
       case rel=>
        refine ⟨q + 1,by omega,by omega,by go_num,?_,(hbi.setCell (Nat.le_refl _) _).drew⟩
        have h1:=HATI.out.set k q (poRM E k q) (by omega) (by omega)
        have h2:=(h1.congr fun i j _ _=>HST.out i j).drew
        rw [HX.out] at h2
        exact h2
       case measure=>simp [intOf]; omega
    ·have hqN:q=E.length:=by omega
     have HQ:=Lib.hid hqN
     have hdq:decide ((q:Int) < (E.length:Int))=false:=by simp; omega
     have HATI:=Lib.hid hati
     clear hqN hati
     go_wp2_with fail
     go_roundw
     case rel=>
      refine ⟨k + 1,by omega,by go_num,?_,hbi⟩
      have h1:=HATI.out
      rw [HQ.out] at h1
      exact h1.congr fun i j _ _=>rpart_row E.length k _ i j
     case measure=>simp [intOf]; omega
  ·have hkN:k=E.length:=by omega
   have HKN:=Lib.hid hkN
   have hdk:decide ((k:Int) < (E.length:Int))=false:=by simp; omega
   have hr0:=hat.c0
   have HAT:=Lib.hid hat
   have HBf:=Lib.hid (below_next HB1.out hbe)
   clear hkN hat
   go_wp2_with fail
   go_ret
   exact ⟨_,rfl,HB1.out.size,HAT.out.congr fun i j _ _=>(rpart_full E.length k _ HKN.out i j).trans (full_congr HM.out i j),HBf.out⟩
theorem rpo_l (g:Gr) (w:World) (h:EsIn w g.ea g.E) (he:g.E.length≤40) :
  Calls Tryz.prog 92 #[g.v] w (MakesR g.n (poRM g.E) w):=by
 refine (rpo_at g w h he).mono ?_
 rintro e w' ⟨d,rfl,hs,ha,hb⟩
 exact ⟨d,rfl,⟨ha,wf_poR _⟩,hs,hb⟩
end Go.Proofs.YthcnhbclagegeaaGreatDoor
namespace Go.Proofs.YthcnhbclagegeaaGreatDoor
open Go.RowKit RelA
attribute [local irreducible] RelA.rcells
namespace RelA
def kindB (kind lo hi:Int) (e:Ev):Bool:=((e.kd == kind) && decide (lo≤e.md)) && decide (e.md≤hi)
def kM (g:Gr) (kind lo hi:Int):Nat→Nat→Bool:=diagM g.n fun i=>kindB kind lo hi (Ev.at g.E i)
def dgTo (_n k:Nat) (p:Nat→Bool):Nat→Nat→Bool:=fun i j=>(decide (i=j) && decide (i < k)) && p i
theorem dgTo_zero (n:Nat) (p:Nat→Bool) (i j:Nat):noneM i j=dgTo n 0 p i j:=by unfold noneM dgTo; simp
theorem dgTo_step (n k:Nat) (p:Nat→Bool) (i j:Nat):updM (dgTo n k p) k k (p k) i j=dgTo n (k + 1) p i j:=by
 unfold updM dgTo
 by_cases h:i=k∧j=k
 ·rw [if_pos h]; obtain ⟨rfl,rfl⟩:=h; simp
 ·rw [if_neg h]
  by_cases e:i=j
  ·subst e
   have h1:¬ i=k:=fun e=>h ⟨e,e⟩
   by_cases h2:i < k
   ·have:i < k + 1:=by omega
    simp [h2,this]
   ·have:¬ i < k + 1:=by omega
    simp [h2,this]
  ·simp [e]
theorem dgTo_at (n k:Nat) (p:Nat→Bool):dgTo n k p k k=false:=by unfold dgTo; simp
theorem dgTo_full (n k:Nat) (p:Nat→Bool) (h:k=n) (i j:Nat):dgTo n k p i j=diagM n p i j:=by subst h; rfl
end RelA
set_option maxRecDepth 20000 in
set_option maxHeartbeats 3200000 in
theorem rkind_l (g:Gr) (kind lo hi:Int) (w:World) (h:EsIn w g.ea g.E) (he:g.E.length≤40) :
  Calls Tryz.prog 93 #[g.v,.int .i64 kind,.int .i64 lo,.int .i64 hi] w (MakesR g.n (kM g kind lo hi) w):=by
 have hF:kM g kind lo hi=diagM g.n fun i=>kindB kind lo hi (Ev.at g.E i):=rfl
 rw [hF]
 clear hF
 have HG0:=Lib.hid (GBox.of_alloc w g 27)
 obtain ⟨G,hG⟩:∃ G,G=g:=⟨_,rfl⟩
 obtain ⟨locs,ea,E,ec,ra,R,rc,ca,C,cc,ma,Rmw,mc,da,Data,dc,ta,Ctrl,tc,ia,CtrlI,ic⟩:=g
 simp only [Gr.v,Gr.n,gcells] at he h HG0 ⊢
 rw [← hG] at HG0
 have HI:=Lib.hid h
 clear h
 obtain ⟨p,hp⟩:∃ p,p=fun i=>kindB kind lo hi (Ev.at E i):=⟨_,rfl⟩
 rw [← hp]
 go_enter Tryz.func93,Tryz.ntmps93
 go_wp2_with fail
 obtain ⟨w1,hw1⟩:∃ x,x=w.alloc (Obj.cells #[.int .i64 locs,.slice ea E.length ec,.slice ra R.length rc,.slice ca C.length cc,.slice ma Rmw.length mc,.slice da Data.length dc,.slice ta Ctrl.length tc,.slice ia CtrlI.length ic] 27 (0,0)):=⟨_,rfl⟩
 rw [← hw1] at HG0 ⊢
 have hs1:w1.heap.size=w.heap.size + 1:=by rw [hw1]; simp
 have HB1:Hid (Below w.heap.size w w1):=Lib.hid (by rw [hw1]; exact (Below.refl _ _).alloc (Nat.le_refl _) _)
 clear hw1
 have HI1:=Lib.hid (HI.out.next HB1.out)
 clear HI hs1
 refine (rnew_at E.length w1 he).mono ?_
 rintro e w2 ⟨rfl,hat,hbe1⟩
 have HAT1:=Lib.hid hat
 have HBE1:=Lib.hid hbe1
 clear hat hbe1
 go_wp2_with fail
 go_loopw [10] (fun x wr=>∃ k:Nat,k≤E.length∧x=.int .i64 k∧RAt wr w1.heap.size E.length (dgTo E.length k p)∧Below w1.heap.size w1 wr) (fun x _=>E.length - (intOf x).toNat)
 case atStart=>exact ⟨0,Nat.zero_le _,rfl,HAT1.out.congr fun i j _ _=>dgTo_zero _ _ i j,HBE1.out⟩
 case round=>
  obtain ⟨k,hk,rfl,hat,hbe⟩:=hrel
  by_cases hlt:k < E.length
  ·have hr0:=hat.c0
   have hdk:decide ((k:Int) < (E.length:Int))=true:=by simp; omega
   have hki:(k:Int) < (E.length:Int):=by omega
   have hk40:(k:Int) < 40:=by omega
   have hpk:p k=kindB kind lo hi (Ev.at E k):=by rw [hp]
   obtain ⟨c0,c1,c2,c3,c4,c5,c6,c7⟩:=HG0.out.next hbe
   rw [hG] at c0 c1 c2 c3 c4 c5 c6 c7
   dsimp only at c0 c1 c2 c3 c4 c5 c6 c7
   clear c0 c2 c3 c4 c5 c6 c7
   rcases HI1.out.next hbe with h0 | ⟨b,o,rfl,hbl,hcc⟩
   ·rw [h0] at hlt; simp at hlt
   ·obtain ⟨d0,d1,d2,d3,d4,d5⟩:=hcc k hlt
    clear hcc
    change _=some (Value.int _ (Ev.at E k).th) at d0
    change _=some (Value.int _ (Ev.at E k).kd) at d1
    change _=some (Value.int _ (Ev.at E k).md) at d2
    change _=some (Value.int _ (Ev.at E k).lc) at d3
    change _=some (Value.int _ (Ev.at E k).vl) at d4
    change _=some (Value.bool (Ev.at E k).ex) at d5
    generalize Ev.at E k=ev at *
    obtain ⟨x0,x1,x2,x3,x4,x5⟩:=ev
    unfold kindB at hpk
    dsimp only at d0 d1 d2 d3 d4 d5 hpk
    obtain ⟨w3,hw3⟩:∃ x,x=wr.alloc (Obj.cells #[.int .i64 x0,.int .i64 x1,.int .i64 x2,.int .i64 x3,.int .i64 x4,.bool x5] 53 (0,0)):=⟨_,rfl⟩
    have hbw:Below wr.heap.size wr w3:=by rw [hw3]; exact (Below.refl _ _).alloc (Nat.le_refl _) _
    have f1:w3.cell? ⟨wr.heap.size,1,none⟩=some (.int .i64 x1):=by rw [hw3,cell_of_row _ _ _ _ _ _ (heap_alloc_new _ _)]; rfl
    have f2:w3.cell? ⟨wr.heap.size,2,none⟩=some (.int .i64 x2):=by rw [hw3,cell_of_row _ _ _ _ _ _ (heap_alloc_new _ _)]; rfl
    have hat3:=hat.next hbw
    have hd:=hat3.ci k k (by omega) (by omega)
    rw [dgTo_at] at hd
    have hfz:=hat3.frozen (1 + k * 40 + k)
    have hs3:=hbe.size
    have hbe3:=below_trans1 hbe hs3 hbw
    have HAT3:=Lib.hid hat3
    have HST:=Lib.hid (dgTo_step E.length k p)
    have HBE3:=Lib.hid hbe3
    clear hat hat3 hbe hbw hbe3
    cases e1:(x1 == kind)
    ·have HX:Hid (p k=false):=Lib.hid (by rw [hpk,e1]; rfl)
     clear hpk
     go_wp2_with fail
     rw [← hw3]
     clear hw3
     go_region
     go_wp2_with fail
     go_roundw
     case rel=>
      refine ⟨k + 1,by omega,by go_num,?_,(HBE3.out.setCell (Nat.le_refl _) _).drew⟩
      have h1:=HAT3.out.set k k (p k) (by omega) (by omega)
      have h2:=(h1.congr fun i j _ _=>HST.out i j).drew
      rw [HX.out] at h2
      exact h2
     case measure=>simp [intOf]; omega
    ·cases e2:decide (lo≤x2)
     ·have HX:Hid (p k=false):=Lib.hid (by rw [hpk,e1,e2]; rfl)
      clear hpk
      go_wp2_with fail
      rw [← hw3]
      clear hw3
      go_region
      go_wp2_with fail
      go_roundw
      case rel=>
       refine ⟨k + 1,by omega,by go_num,?_,(HBE3.out.setCell (Nat.le_refl _) _).drew⟩
       have h1:=HAT3.out.set k k (p k) (by omega) (by omega)
       have h2:=(h1.congr fun i j _ _=>HST.out i j).drew
       rw [HX.out] at h2
       exact h2
      case measure=>simp [intOf]; omega
     ·cases e3:decide (x2≤hi)
      ·have HX:Hid (p k=false):=Lib.hid (by rw [hpk,e1,e2,e3]; rfl)
       clear hpk
       go_wp2_with fail
       rw [← hw3]
       clear hw3
       go_region
       go_wp2_with fail
       go_roundw
       case rel=>
        refine ⟨k + 1,by omega,by go_num,?_,(HBE3.out.setCell (Nat.le_refl _) _).drew⟩
        have h1:=HAT3.out.set k k (p k) (by omega) (by omega)
        have h2:=(h1.congr fun i j _ _=>HST.out i j).drew
        rw [HX.out] at h2
        exact h2
       case measure=>simp [intOf]; omega
      ·have HX:Hid (p k=true):=Lib.hid (by rw [hpk,e1,e2,e3]; rfl)
       clear hpk
       go_wp2_with fail
       rw [← hw3]
       clear hw3
       go_region
       go_wp2_with fail
       go_roundw
       case rel=>
        refine ⟨k + 1,by omega,by go_num,?_,(HBE3.out.setCell (Nat.le_refl _) _).drew⟩
        have h1:=HAT3.out.set k k (p k) (by omega) (by omega)
        have h2:=(h1.congr fun i j _ _=>HST.out i j).drew
        rw [HX.out] at h2
        exact h2
       case measure=>simp [intOf]; omega
  ·have hkN:k=E.length:=by omega
   have HKN:=Lib.hid hkN
   have hdk:decide ((k:Int) < (E.length:Int))=false:=by simp; omega
   have hr0:=hat.c0
   have HAT:=Lib.hid hat
   have HBf:=Lib.hid (below_next HB1.out hbe)
   clear hkN hat
   go_wp2_with fail
   go_ret
   exact ⟨_,rfl,⟨HAT.out.congr fun i j _ _=>dgTo_full E.length k p HKN.out i j,wf_diag _ _⟩,HB1.out.size,HBf.out⟩
end Go.Proofs.YthcnhbclagegeaaGreatDoor
namespace Go.Proofs.YthcnhbclagegeaaGreatDoor
open Go.RowKit RelA
attribute [local irreducible] RelA.rcells
namespace RelA
structure ROk (g:Gr):Prop where
 rlen:g.R.length=g.n
 rlt:∀ i,i < g.R.length→g.R.getD i 0 < (g.n:Int)
 clt:∀ l,l < g.C.length→∀ i,i < (g.C.getD l Ls.zero).L.length→0≤(g.C.getD l Ls.zero).L.getD i 0∧(g.C.getD l Ls.zero).L.getD i 0 < (g.n:Int)
theorem ofM_snoc (n:Nat) (l:List (Int × Int)) (p:Int × Int):ofM n (l ++ [p])=rstep n (ofM n l) p:=by
 unfold ofM rnewM
 rw [List.foldl_append]; rfl
theorem rstep_in {n:Nat} {M:Nat→Nat→Bool} {a b:Nat} (ha:a < n) (hb:b < n):rstep n M ((a:Int),(b:Int))=updM M a b true:=by
 unfold rstep inB
 have h1:decide (0≤(a:Int)∧(a:Int) < (n:Int))=true:=by simp; omega
 have h2:decide (0≤(b:Int)∧(b:Int) < (n:Int))=true:=by simp; omega
 rw [h1,h2]; rfl
theorem rstep_out {n:Nat} {M:Nat→Nat→Bool} {a b:Int} (ha:a < 0):rstep n M (a,b)=M:=by
 unfold rstep inB
 have h1:decide (0≤a∧a < (n:Int))=false:=by simp; omega
 rw [h1]; rfl
theorem ofM_wf (n:Nat) (l:List (Int × Int)):WFM n (ofM n l):=wf_new n l
end RelA
set_option maxRecDepth 20000 in
set_option maxHeartbeats 3200000 in
theorem rrf_l (g:Gr) (w:World) (h:NsIn w g.ra g.R) (he:g.E.length≤40) (hk:ROk g) :
  Calls Tryz.prog 103 #[g.v] w (MakesR g.n (rfM g) w):=by
 have hF:rfM g=ofM g.n (rfL g.R g.R.length):=rfl
 rw [hF]
 clear hF
 obtain ⟨hrlen,hrlt,_⟩:=hk
 have HG0:=Lib.hid (GBox.of_alloc w g 27)
 obtain ⟨G,hG⟩:∃ G,G=g:=⟨_,rfl⟩
 obtain ⟨locs,ea,E,ec,ra,R,rc,ca,C,cc,ma,Rmw,mc,da,Data,dc,ta,Ctrl,tc,ia,CtrlI,ic⟩:=g
 simp only [Gr.v,Gr.n,gcells] at he h hrlen hrlt HG0 ⊢
 rw [← hG] at HG0
 have HI:=Lib.hid h
 have HLT:=Lib.hid hrlt
 have hrle:R.length≤E.length:=by omega
 clear h hrlt hrlen
 go_enter Tryz.func103,Tryz.ntmps103
 go_wp2_with fail
 obtain ⟨w1,hw1⟩:∃ x,x=w.alloc (Obj.cells #[.int .i64 locs,.slice ea E.length ec,.slice ra R.length rc,.slice ca C.length cc,.slice ma Rmw.length mc,.slice da Data.length dc,.slice ta Ctrl.length tc,.slice ia CtrlI.length ic] 27 (0,0)):=⟨_,rfl⟩
 rw [← hw1] at HG0 ⊢
 have hs1:w1.heap.size=w.heap.size + 1:=by rw [hw1]; simp
 have HB1:Hid (Below w.heap.size w w1):=Lib.hid (by rw [hw1]; exact (Below.refl _ _).alloc (Nat.le_refl _) _)
 clear hw1
 have HI1:=Lib.hid (HI.out.next HB1.out)
 clear HI hs1
 refine (rnew_at E.length w1 he).mono ?_
 rintro e w2 ⟨rfl,hat,hbe1⟩
 have HAT1:=Lib.hid hat
 have HBE1:=Lib.hid hbe1
 clear hat hbe1
 go_wp2_with fail
 go_loopw [4] (fun x wr=>∃ k:Nat,k≤R.length∧x=.int .i64 k∧RAt wr w1.heap.size E.length (ofM E.length (rfL R k))∧Below w1.heap.size w1 wr) (fun x _=>R.length - (intOf x).toNat)
 case atStart=>exact ⟨0,Nat.zero_le _,rfl,HAT1.out,HBE1.out⟩
 case round=>
  obtain ⟨k,hk,rfl,hat,hbe⟩:=hrel
  obtain ⟨c0,c1,c2,c3,c4,c5,c6,c7⟩:=HG0.out.next hbe
  rw [hG] at c0 c1 c2 c3 c4 c5 c6 c7
  dsimp only at c0 c1 c2 c3 c4 c5 c6 c7
  clear c0 c1 c3 c4 c5 c6 c7
  by_cases hlt:k < R.length
  ·have hr0:=hat.c0
   have hdk:decide ((k:Int) < (R.length:Int))=true:=by simp; omega
   have hki:(k:Int) < (R.length:Int):=by omega
   have hk40:(k:Int) < 40:=by omega
   have hrl:=HLT.out k hlt
   have HS:=Lib.hid (by rw [rfL_succ,ofM_snoc]:ofM E.length (rfL R (k + 1))=rstep E.length (ofM E.length (rfL R k)) (R.getD k 0,(k:Int)))
   rcases HI1.out.next hbe with h0 | ⟨b,o,rfl,hbl,hcc⟩
   ·rw [h0] at hlt; simp at hlt
   ·have d0:=hcc k hlt
    clear hcc
    generalize R.getD k 0=r at *
    by_cases hr:0≤r
    ·obtain ⟨m,rfl⟩:=Int.eq_ofNat_of_zero_le hr
     have hm:m < E.length:=by omega
     have hm40:(m:Int) < 40:=by omega
     have hge:decide ((0:Int)≤(m:Int))=true:=by simp
     have hd:=hat.ci m k (by omega) (by omega)
     have hfz:=hat.frozen (1 + m * 40 + k)
     have HAT:=Lib.hid hat
     rw [rstep_in hm (by omega)] at HS
     have hs3:=hbe.size
     clear hat hr hrl
     go_wp2_with fail
     go_region
     go_wp2_with fail
     go_roundw
     case rel=>
      refine ⟨k + 1,by omega,by go_num,?_,(hbe.setCell (Nat.le_refl _) _).drew⟩
      have h1:=HAT.out.set m k true (by omega) (by omega)
      rw [← HS.out] at h1
      exact h1.drew
     case measure=>simp [intOf]; omega
    ·have hge:decide ((0:Int)≤r)=false:=by simp; omega
     rw [rstep_out (by omega)] at HS
     have HAT:=Lib.hid hat
     clear hat hrl
     go_wp2_with fail
     go_roundw
     case rel=>exact ⟨k + 1,by omega,by go_num,by rw [HS.out]; exact HAT.out,hbe⟩
     case measure=>simp [intOf]; omega
  ·have hkN:k=R.length:=by omega
   subst hkN
   have hdk:decide ((R.length:Int) < (R.length:Int))=false:=by simp
   have HAT:=Lib.hid hat
   have HBf:=Lib.hid (below_next HB1.out hbe)
   clear hat
   go_wp2_with fail
   go_ret
   exact ⟨_,rfl,⟨HAT.out,ofM_wf _ _⟩,HB1.out.size,HBf.out⟩
namespace RelA
def ptM (E:List Ev) (M:Nat→Nat→Bool) (one:Bool):Nat→Nat→Bool:=fun i j=>M i j && (((Ev.at E i).th == (Ev.at E j).th) == one)
theorem pt_true (E:List Ev) (M:Nat→Nat→Bool):ptM E M true=innerM E M:=by
 funext i j; unfold ptM innerM; cases ((Ev.at E i).th == (Ev.at E j).th) <;> rfl
theorem pt_false (E:List Ev) (M:Nat→Nat→Bool):ptM E M false=outerM E M:=by
 funext i j; unfold ptM outerM; cases ((Ev.at E i).th == (Ev.at E j).th) <;> rfl
theorem wf_pt {n:Nat} {E:List Ev} {M:Nat→Nat→Bool} {one:Bool} (h:WFM n M):WFM n (ptM E M one):=fun i j a=>by
 unfold ptM at a; rw [Bool.and_eq_true] at a; exact h i j a.1
end RelA
set_option maxRecDepth 20000 in
set_option maxHeartbeats 3200000 in
theorem rpart_l (g:Gr) (rb:Nat) (M:Nat→Nat→Bool) (one:Bool) (w:World) (h:EsIn w g.ea g.E) (he:g.E.length≤40) (hr:Rr w rb g.n M) :
  Calls Tryz.prog 157 #[g.v,.pointer (some ⟨rb,0,none⟩),.bool one] w (MakesR g.n (ptM g.E M one) w):=by
 have HG0:=Lib.hid (GBox.of_alloc w g 27)
 obtain ⟨G,hG⟩:∃ G,G=g:=⟨_,rfl⟩
 obtain ⟨locs,ea,E,ec,ra,R,rc,ca,C,cc,ma,Rmw,mc,da,Data,dc,ta,Ctrl,tc,ia,CtrlI,ic⟩:=g
 simp only [Gr.v,Gr.n,gcells] at he h hr HG0 ⊢
 rw [← hG] at HG0
 have HI:=Lib.hid h
 have HR:=Lib.hid hr.at_
 have HW:Hid (WFM E.length (ptM E M one)):=Lib.hid (wf_pt hr.wf)
 clear h hr
 go_enter Tryz.func157,Tryz.ntmps157
 have hR0:=fun o=>((HR.out.alloc o).c0)
 go_wp2_with fail
 obtain ⟨w1,hw1⟩:∃ x,x=w.alloc (Obj.cells #[.int .i64 locs,.slice ea E.length ec,.slice ra R.length rc,.slice ca C.length cc,.slice ma Rmw.length mc,.slice da Data.length dc,.slice ta Ctrl.length tc,.slice ia CtrlI.length ic] 27 (0,0)):=⟨_,rfl⟩
 rw [← hw1] at HG0 ⊢
 have hs1:w1.heap.size=w.heap.size + 1:=by rw [hw1]; simp
 have HB1:Hid (Below w.heap.size w w1):=Lib.hid (by rw [hw1]; exact (Below.refl _ _).alloc (Nat.le_refl _) _)
 clear hw1
 clear hR0
 have HI1:=Lib.hid (HI.out.next HB1.out)
 have HR1:=Lib.hid (HR.out.next HB1.out)
 clear HI hs1 HR
 refine (rnew_at E.length w1 he).mono ?_
 rintro e w2 ⟨rfl,hat,hbe1⟩
 have HAT1:=Lib.hid hat
 have HBE1:=Lib.hid hbe1
 clear hat hbe1
 go_wp2_with fail
 go_loopw [8] (fun x wr=>∃ k:Nat,k≤E.length∧x=.int .i64 k∧RAt wr w1.heap.size E.length (rpart E.length k 0 (ptM E M one))∧Below w1.heap.size w1 wr) (fun x _=>E.length - (intOf x).toNat)
 case atStart=>exact ⟨0,Nat.zero_le _,rfl,HAT1.out.congr fun i j _ _=>(rpart_zero _ _ i j).symm,HBE1.out⟩
 case round=>
  obtain ⟨k,hk,rfl,hat,hbe⟩:=hrel
  have hr0:=(HR1.out.next hbe).c0
  obtain ⟨c0,c1,c2,c3,c4,c5,c6,c7⟩:=HG0.out.next hbe
  rw [hG] at c0 c1 c2 c3 c4 c5 c6 c7
  dsimp only at c0 c1 c2 c3 c4 c5 c6 c7
  clear c0 c2 c3 c4 c5 c6 c7
  by_cases hlt:k < E.length
  ·obtain ⟨wo,rfl⟩:∃ wo:World,wo=wr:=⟨_,rfl⟩
   have hdk:decide ((k:Int) < (E.length:Int))=true:=by simp; omega
   have hki:(k:Int) < (E.length:Int):=by omega
   have hk40:(k:Int) < 40:=by omega
   have HAT:=Lib.hid hat
   clear hat
   go_wp2_with fail
   clear hr0 c1
   go_loopw [9] (fun x wi=>∃ q:Nat,q≤E.length∧x=.int .i64 q∧RAt wi w1.heap.size E.length (rpart E.length k q (ptM E M one))∧Below w1.heap.size w1 wi) (fun x _=>E.length - (intOf x).toNat)
   case atStart=>exact ⟨0,Nat.zero_le _,rfl,HAT.out,hbe⟩
   case round=>
    obtain ⟨q,hq,rfl,hati,hbi⟩:=hrel
    have hr0:=(HR1.out.next hbi).c0
    obtain ⟨c0,c1,c2,c3,c4,c5,c6,c7⟩:=HG0.out.next hbi
    rw [hG] at c0 c1 c2 c3 c4 c5 c6 c7
    dsimp only at c0 c1 c2 c3 c4 c5 c6 c7
    clear c0 c2 c3 c4 c5 c6 c7
    by_cases hql:q < E.length
    ·have hdq:decide ((q:Int) < (E.length:Int))=true:=by simp; omega
     have hqi:(q:Int) < (E.length:Int):=by omega
     have hq40:(q:Int) < 40:=by omega
     have hd:=hati.ci k q (by omega) (by omega)
     rw [rpart_at] at hd
     have hm:=(HR1.out.next hbi).ci k q (by omega) (by omega)
     have hfz:=hati.frozen (1 + k * 40 + q)
     have HATI:=Lib.hid hati
     have HST:=Lib.hid (rpart_step E.length k q (ptM E M one))
     have hX:ptM E M one k q=(M k q && (((Ev.at E k).th == (Ev.at E q).th) == one)):=rfl
     clear hati
     rcases HI1.out.next hbi with h0 | ⟨b,o,rfl,hbl,hcc⟩
     ·rw [h0] at hlt; simp at hlt
     ·have d0:=(hcc k hlt).c0
      have d1:=(hcc q hql).c0
      clear hcc
      change _=some (Value.int _ (Ev.at E k).th) at d0
      change _=some (Value.int _ (Ev.at E q).th) at d1
      generalize (Ev.at E k).th=x at *
      generalize (Ev.at E q).th=y at *
      generalize M k q=mv at *
      cases mv
      ·have HX:Hid (ptM E M one k q=false):=Lib.hid (by rw [hX]; rfl)
       clear hX
       go_wp2_with fail
       go_region
       go_wp2_with fail
       go_roundw
       case rel=>
        refine ⟨q + 1,by omega,by go_num,?_,(hbi.setCell (Nat.le_refl _) _).drew⟩
        have h2:=(RAt.congr (HATI.out.set k q _ (by omega) (by omega)) fun i j _ _=>HST.out i j).drew
        rw [HX.out] at h2
        exact h2
       case measure=>simp [intOf]; omega
      ·cases e1:(x == y) <;> cases one
       all_goals
        rw [e1,Bool.true_and] at hX
        have HX:=Lib.hid hX
        clear hX
        go_wp2_with fail
        go_region
        go_wp2_with fail
        go_roundw
        case rel=>
         refine ⟨q + 1,by omega,by go_num,?_,(hbi.setCell (Nat.le_refl _) _).drew⟩
         have h2:=(RAt.congr (HATI.out.set k q _ (by omega) (by omega)) fun i j _ _=>HST.out i j).drew
         rw [HX.out] at h2
         exact h2
        case measure=>simp [intOf]; omega
    ·have hqN:q=E.length:=by omega
     have HQ:=Lib.hid hqN
     have hdq:decide ((q:Int) < (E.length:Int))=false:=by simp; omega
     have HATI:=Lib.hid hati
     clear hqN hati
     go_wp2_with fail
     go_roundw
     case rel=>
      refine ⟨k + 1,by omega,by go_num,?_,hbi⟩
      have h1:=HATI.out
      rw [HQ.out] at h1
      exact h1.congr fun i j _ _=>rpart_row E.length k _ i j
     case measure=>simp [intOf]; omega
  ·have hkN:k=E.length:=by omega
   have HKN:=Lib.hid hkN
   have hdk:decide ((k:Int) < (E.length:Int))=false:=by simp; omega
   have HAT:=Lib.hid hat
   have HBf:=Lib.hid (below_next HB1.out hbe)
   clear hkN hat
   go_wp2_with fail
   go_ret
   exact ⟨_,rfl,⟨HAT.out.congr fun i j _ _=>(rpart_full E.length k _ HKN.out i j).trans (full_congr HW.out i j),HW.out⟩,HB1.out.size,HBf.out⟩
end Go.Proofs.YthcnhbclagegeaaGreatDoor
