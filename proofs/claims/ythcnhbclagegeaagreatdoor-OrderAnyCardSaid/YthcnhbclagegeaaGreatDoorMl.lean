/-
  What the functions that the law reaches do, one by one: contracts. Conditions: those that each of them prints.
-/
import Derived.Test.YthcnhbclagegeaaGreatDoorMj
import Derived.BigRegion
import Derived.Test.YthcnhbclagegeaaGreatDoorMk
import Derived.Deep.RegionHeld3
namespace Go.Proofs.YthcnhbclagegeaaGreatDoor
open Go.RowKit RelA
attribute [local irreducible] RelA.rcells
set_option maxRecDepth 20000 in
set_option maxHeartbeats 3200000 in
theorem rco_l (g:Gr) (w:World) (h:LsIn w g.ca g.C) (he:g.E.length≤40) (h4:g.C.length≤4) (hk:ROk g) (h40:∀ q,q < g.C.length→(g.C.getD q Ls.zero).L.length≤40) :
  Calls Tryz.prog 108 #[g.v] w (MakesR g.n (coM g) w):=by
 have hF:coM g=ofM g.n (coAll g.C g.C.length):=rfl
 rw [hF]
 clear hF
 have hclt:=hk.clt
 clear hk
 have HG0:=Lib.hid (GBox.of_alloc w g 27)
 obtain ⟨G,hG⟩:∃ G,G=g:=⟨_,rfl⟩
 obtain ⟨locs,ea,E,ec,ra,R,rc,ca,C,cc,ma,Rmw,mc,da,Data,dc,ta,Ctrl,tc,ia,CtrlI,ic⟩:=g
 simp only [Gr.v,Gr.n,gcells] at he h h4 hclt h40 HG0 ⊢
 rw [← hG] at HG0
 have HI:=Lib.hid h
 have HLT:=Lib.hid hclt
 have H40:=Lib.hid h40
 clear h hclt h40
 go_enter Tryz.func108,Tryz.ntmps108
 go_wp2_with fail
 obtain ⟨w1,hw1⟩:∃ x,x=w.alloc (Obj.cells #[.int .i64 locs,.slice ea E.length ec,.slice ra R.length rc,.slice ca C.length cc,.slice ma Rmw.length mc,.slice da Data.length dc,.slice ta Ctrl.length tc,.slice ia CtrlI.length ic] 27 (0,0)):=⟨_,rfl⟩
 rw [← hw1] at HG0 ⊢
 have hs1:w1.heap.size=w.heap.size + 1:=by rw [hw1]; simp
 have HB1:Hid (Below w.heap.size w w1):=Lib.hid (by rw [hw1]; exact (Below.refl _ _).alloc (Nat.le_refl _) _)
 clear hw1
 have HI1:=Lib.hid (HI.out.next HB1.out)
 clear HI hs1
 refine (rnew_at E.length w1 he).mono ?_
 rintro e w2 ⟨rfl,hat,hbe1⟩
 have HAT1:=Lib.hid hat
 have HBE1:=Lib.hid hbe1
 clear hat hbe1
 go_wp2_with fail
 go_loopw [4] (fun x wr=>∃ t:Nat,t≤C.length∧x=.int .i64 t∧RAt wr w1.heap.size E.length (ofM E.length (coAll C t))∧Below w1.heap.size w1 wr) (fun x _=>C.length - (intOf x).toNat)
 case atStart=>exact ⟨0,Nat.zero_le _,rfl,HAT1.out,HBE1.out⟩
 case round=>
  obtain ⟨t,htC,rfl,hat,hbe⟩:=hrel
  obtain ⟨c0,c1,c2,c3,c4,c5,c6,c7⟩:=HG0.out.next hbe
  rw [hG] at c0 c1 c2 c3 c4 c5 c6 c7
  dsimp only at c0 c1 c2 c3 c4 c5 c6 c7
  clear c0 c1 c2 c4 c5 c6 c7
  by_cases hlt:t < C.length
  ·obtain ⟨wo,rfl⟩:∃ wo:World,wo=wr:=⟨_,rfl⟩
   have hdk:decide ((t:Int) < (C.length:Int))=true:=by simp; omega
   have hki:(t:Int) < (C.length:Int):=by omega
   have ht4:(t:Int) < 4:=by omega
   have HAT:=Lib.hid hat
   clear hat
   rcases HI1.out with h0 | ⟨b,o,rfl,hbl,hcq⟩
   ·rw [h0] at hlt; simp at hlt
   ·obtain ⟨d0,hns,hlc⟩:=hcq t hlt
    have hL40:=H40.out t hlt
    have HS:=Lib.hid (coAll_succ C t)
    have HLX:=Lib.hid (HLT.out t hlt)
    clear hcq
    generalize C.getD t Ls.zero=ls at *
    obtain ⟨la,L,lc⟩:=ls
    dsimp only at d0 hns hL40 HS hlc HLX
    have HNS:=Lib.hid hns
    have D0:=Lib.hid d0
    clear hns d0
    go_wp2_with fail
    clear c3
    go_loopw [5] (fun x wi=>∃ k:Nat,k≤L.length∧x=.int .i64 k∧RAt wi w1.heap.size E.length (ofM E.length (coAll C t ++ coOne L k))∧Below w1.heap.size w1 wi) (fun x _=>L.length - (intOf x).toNat)
    case atStart=>exact ⟨0,Nat.zero_le _,rfl,by simp only [coOne,List.range_zero,List.flatMap_nil,List.append_nil]; exact HAT.out,hbe⟩
    case round=>
     obtain ⟨k,hk,rfl,hati,hbi⟩:=hrel
     obtain ⟨c0,c1,c2,c3,c4,c5,c6,c7⟩:=HG0.out.next hbi
     rw [hG] at c0 c1 c2 c3 c4 c5 c6 c7
     dsimp only at c0 c1 c2 c3 c4 c5 c6 c7
     clear c0 c1 c2 c4 c5 c6 c7
     have d0:=cell_next D0.out hbi
     by_cases hkl:k < L.length
     ·obtain ⟨wo2,rfl⟩:∃ wo2:World,wo2=wr:=⟨_,rfl⟩
      have hdk2:decide ((k:Int) < (L.length:Int))=true:=by simp; omega
      have hki2:(k:Int) < (L.length:Int):=by omega
      have hk40:(k:Int) < 40:=by omega
      have HATI:=Lib.hid hati
      have HS2:=Lib.hid (coOne_succ L k)
      clear hati
      go_wp2_with fail
      clear c3 d0
      go_loopw [6] (fun x wj=>∃ q:Nat,k + 1≤q∧q≤L.length∧x=.int .i64 q∧RAt wj w1.heap.size E.length (ofM E.length (coAll C t ++ (coOne L k ++ coIn L k (q - (k + 1)))))∧Below w1.heap.size w1 wj) (fun x _=>L.length - (intOf x).toNat)
      case atStart=>exact ⟨k + 1,Nat.le_refl _,by omega,by go_num,by simp only [Nat.sub_self,coIn,List.range_zero,List.map_nil,List.append_nil]; exact HATI.out,hbi⟩
      case round=>
       obtain ⟨q,hq1,hq,rfl,hatj,hbj⟩:=hrel
       obtain ⟨c0,c1,c2,c3,c4,c5,c6,c7⟩:=HG0.out.next hbj
       rw [hG] at c0 c1 c2 c3 c4 c5 c6 c7
       dsimp only at c0 c1 c2 c3 c4 c5 c6 c7
       clear c0 c1 c2 c4 c5 c6 c7
       have d0:=cell_next D0.out hbj
       by_cases hql:q < L.length
       ·have hdq:decide ((q:Int) < (L.length:Int))=true:=by simp; omega
        have hqi:(q:Int) < (L.length:Int):=by omega
        have hq40:(q:Int) < 40:=by omega
        rcases HNS.out.next hbj with h0 | ⟨b2,o2,rfl,hbl2,hcc2⟩
        ·rw [h0] at hkl; simp at hkl
        ·have f0:=hcc2 k hkl
         have f1:=hcc2 q hql
         clear hcc2
         have HS3:=Lib.hid (show coIn L k (q + 1 - (k + 1))=coIn L k (q - (k + 1)) ++ [(L.getD k 0,L.getD q 0)] by
          have e1:q + 1 - (k + 1)=(q - (k + 1)) + 1:=by omega
          have e2:k + 1 + (q - (k + 1))=q:=by omega
          rw [e1,coIn_succ,e2])
         obtain ⟨hx0,hxn⟩:=HLX.out k hkl
         obtain ⟨hy0,hyn⟩:=HLX.out q hql
         generalize L.getD k 0=x at *
         generalize L.getD q 0=y at *
         obtain ⟨i,rfl⟩:=Int.eq_ofNat_of_zero_le hx0
         obtain ⟨j,rfl⟩:=Int.eq_ofNat_of_zero_le hy0
         have hi:i < E.length:=by omega
         have hj:j < E.length:=by omega
         have hi40:(i:Int) < 40:=by omega
         have hj40:(j:Int) < 40:=by omega
         have hd:=hatj.ci i j (by omega) (by omega)
         have hfz:=hatj.frozen (1 + i * 40 + j)
         have HATJ:=Lib.hid hatj
         have HRS:=Lib.hid (show ofM E.length (coAll C t ++ (coOne L k ++ coIn L k (q + 1 - (k + 1))))=updM (ofM E.length (coAll C t ++ (coOne L k ++ coIn L k (q - (k + 1))))) i j true by
          rw [HS3.out,← List.append_assoc,← List.append_assoc,ofM_snoc,List.append_assoc,rstep_in hi hj])
         clear hatj hx0 hy0 hxn hyn
         go_wp2_with fail
         go_region
         go_wp2_with fail
         go_roundw
         case rel=>
          refine ⟨q + 1,by omega,by omega,by go_num,?_,(hbj.setCell (Nat.le_refl _) _).drew⟩
          rw [HRS.out]
          exact (HATJ.out.set i j true (by omega) (by omega)).drew
         case measure=>simp [intOf]; omega
       ·have hqN:q=L.length:=by omega
        have HQ:=Lib.hid hqN
        have hdq:decide ((q:Int) < (L.length:Int))=false:=by simp; omega
        have HATJ:=Lib.hid hatj
        clear hqN hatj
        go_wp2_with fail
        go_roundw
        case rel=>
         refine ⟨k + 1,by omega,by go_num,?_,hbj⟩
         have h1:=HATJ.out
         rw [HQ.out,← HS2.out] at h1
         exact h1
        case measure=>simp [intOf]; omega
     ·have hkN:k=L.length:=by omega
      have HQ:=Lib.hid hkN
      have hdk2:decide ((k:Int) < (L.length:Int))=false:=by simp; omega
      have HATI:=Lib.hid hati
      clear hkN hati
      go_wp2_with fail
      go_roundw
      case rel=>
       refine ⟨t + 1,by omega,by go_num,?_,hbi⟩
       have h1:=HATI.out
       rw [HQ.out,← HS.out] at h1
       exact h1
      case measure=>simp [intOf]; omega
  ·have hkN:t=C.length:=by omega
   subst hkN
   have hdk:decide ((C.length:Int) < (C.length:Int))=false:=by simp
   have HAT:=Lib.hid hat
   have HBf:=Lib.hid (below_next HB1.out hbe)
   clear hat
   go_wp2_with fail
   go_ret
   exact ⟨_,rfl,⟨HAT.out,ofM_wf _ _⟩,HB1.out.size,HBf.out⟩
end Go.Proofs.YthcnhbclagegeaaGreatDoor
namespace Go.Proofs.YthcnhbclagegeaaGreatDoor
open Go.RowKit RelA
attribute [local irreducible] RelA.rcells
attribute [local go_sem ↓] Go.wp_at_zero Go.wp_at_succ
namespace RelA
end RelA
namespace RelA
def facqM (g:Gr):Nat→Nat→Bool:=orM (kM g 3 1 1) (kM g 3 3 4)
end RelA
end Go.Proofs.YthcnhbclagegeaaGreatDoor
namespace Go.Proofs.YthcnhbclagegeaaGreatDoor
open Go.RowKit RelA
attribute [local irreducible] RelA.rcells
attribute [local go_sem ↓] Go.wp_at_zero Go.wp_at_succ
namespace RelA
noncomputable def rrsM (g:Gr):Nat→Nat→Bool:=orM (seqM (seqM (kM g 2 0 2) (locM g.E)) (kM g 2 0 2)) (seqM (kM g 2 0 2) (starM g.n (seqM (seqM (maybeM g.n (locM g.E)) (rfM g)) (ofM g.n g.Rmw))))
noncomputable def rreleaseM (g:Gr):Nat→Nat→Bool:=seqM (orM (kM g 2 2 2) (seqM (kM g 3 2 4) (poM g.E))) (rrsM g)
noncomputable def rswM (g:Gr):Nat→Nat→Bool:=
 seqM (seqM (rreleaseM g) (orM (innerM g.E (rfM g)) (seqM (maybeM g.n (locM g.E)) (outerM g.E (rfM g))))) (orM (kM g 1 1 1) (seqM (poM g.E) (facqM g)))
noncomputable def rhbM (g:Gr):Nat→Nat→Bool:=plusM (orM (poM g.E) (rswM g))
end RelA
theorem rpo_p (g:Gr) (w:World) (h:EsIn w g.ea g.E) (he:g.E.length≤40) (hth:ThOk g.E) :
  Calls Tryz.prog 92 #[g.v] w (MakesR g.n (poM g.E) w):=by
 rw [← poR_eq hth]; exact rpo_l g w h he
end Go.Proofs.YthcnhbclagegeaaGreatDoor
