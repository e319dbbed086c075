/-
  What the functions that the law reaches do, one by one: contracts. Conditions: those that each of them prints.
-/
import Derived.Test.YteghpophcnehgaaMe
namespace Go.Proofs.Yteghpophcnehgaa
open Go.RowKit ExprA SndA
namespace SndA
def SmallN (w w':World) (tb T N:Nat) (P:List Th):Prop:=(T=3∧ProgN w w' tb 3 2 N P) ∨ (T=2∧ProgN w w' tb 2 3 N P)
theorem prog_res {w w2 wf:World} {o:Obj} {tb T most N:Nat} {P:List Th} {u0 u1:Value} (h:ProgN (w.alloc o) w2 tb T most N P) (hf:wf=(w2.setCell ⟨w.heap.size,0,none⟩ u0).setCell ⟨w.heap.size,1,none⟩ u1):ProgN w wf tb T most N P:=by
 have hs:(w.alloc o).heap.size=w.heap.size + 1:=by simp
 have hne:∀ b,b ≠ w.heap.size→wf.heap[b]?=w2.heap[b]?:=fun b hb=>by
  rw [hf,Below.heap_setCell (w2.setCell ⟨w.heap.size,0,none⟩ u0) ⟨w.heap.size,1,none⟩ u1 b hb,Below.heap_setCell w2 ⟨w.heap.size,0,none⟩ u0 b hb]
 have hsz:wf.heap.size=w2.heap.size:=by rw [hf]; simp
 have hn:=h.new
 have h0:Below w.heap.size w w2:=below_next ((Below.refl _ _).alloc (Nat.le_refl _) o) h.bel
 refine ⟨h.len,?_,fun t ht=>?_,h.good,h.most,h.tot,by omega,?_⟩
 ·obtain ⟨cs,c1,c2⟩:=h.cells
  exact ⟨cs,by rw [hne tb (by omega)]; exact c1,c2⟩
 ·rw [hsz]
  exact ((h.ths t ht).keep (fun b hb _=>hne b (by omega))).mono (by omega) (Nat.le_refl _)
 ·rw [hf]
  exact (h0.setCell (show w.heap.size≤w.heap.size from Nat.le_refl _) u0).setCell (show w.heap.size≤w.heap.size from Nat.le_refl _) u1
theorem res_cells {w w2:World} {cs:Array Value} {t:TypeId} (h:Below (w.alloc (.cells cs t (0,0))).heap.size (w.alloc (.cells cs t (0,0))) w2):w2.heap[w.heap.size]?=some (.cells cs t (0,0)):=(h.block _ (by simp)).trans (heap_alloc_new _ _)
end SndA
set_option maxRecDepth 100000 in
set_option maxHeartbeats 16000000 in
theorem small_any (a:Option Addr) (R:List Int) (c:Nat) (w:World) (h:NIn w a R) (hR:R.length≤9223372036854775807) :
  Calls Try.prog 4 #[.slice a R.length c] w fun e w'=>∃ tb T P,e=.returned (.agg #[.int .i64 2,.slice (some ⟨tb,0,none⟩) T T])∧SmallN w w' tb T R.length P:=by
 have hRi:(R.length:Int)≤9223372036854775807:=by omega
 have HO:Hid (∀ o:Obj,NIn (w.alloc o) a R):=Lib.hid (fun o=>h.next ((Below.refl _ _).alloc (Nat.le_refl _) o))
 have H3:=Lib.hid (fun o:Obj=>progn_any a R c 3 2 (w.alloc o) (HO.out o) hR (by decide) (by decide) (by decide))
 have H2:=Lib.hid (fun o:Obj=>progn_any a R c 2 3 (w.alloc o) (HO.out o) hR (by decide) (by decide) (by decide))
 rw [show ((3:Nat):Int)=3 from rfl,show ((2:Nat):Int)=2 from rfl] at H3 H2
 by_cases h0:R.length=0
 ·have d0:decide ((0:Int) < (R.length:Int))=false:=by rw [decide_eq_false_iff_not]; omega
  have i0:¬ (0:Int) < (R.length:Int):=by omega
  have n0:decide (0 < R.length)=false:=by rw [decide_eq_false_iff_not]; omega
  clear h0 h
  go_enter Try.func4,Try.ntmps4
  go_wp2_with fail
  refine (H2.out _).mono ?_
  rintro e w2 ⟨tb,P,rfl,hP⟩
  have HP:=Lib.hid hP
  have hc:=res_cells hP.bel
  have c0:w2.cell? ⟨w.heap.size,0,none⟩=some (.int .i64 0):=cell_of_row _ _ _ _ _ _ hc
  have c1:w2.cell? ⟨w.heap.size,1,none⟩=some (.slice none 0 0):=cell_of_row _ _ _ _ _ _ hc
  have f0:w2.frozen? ⟨w.heap.size,0,none⟩=false:=frozen_of_row w2 _ 0 _ _ hc
  have f1:w2.frozen? ⟨w.heap.size,1,none⟩=false:=frozen_of_row w2 _ 1 _ _ hc
  have HC:=Lib.hid hc
  clear hP hc
  go_wp2_with fail
  refine bodyPost_ret (v:=.agg #[.int .i64 2,.slice (some ⟨tb,0,none⟩) 2 2]) ?_ rfl ⟨tb,2,P,rfl,.inr ⟨rfl,prog_res HP.out rfl⟩⟩
  exact results_cell_row rfl _ _ w.heap.size 25 #[.int .i64 2,.slice (some ⟨tb,0,none⟩) 2 2] (0,0) _ rfl (set2_at w2 w.heap.size 25 _ _ _ _ HC.out) Try.underlying25 rfl (by kernel_rfl)
 ·have d0:decide ((0:Int) < (R.length:Int))=true:=by rw [decide_eq_true_iff]; omega
  have i0:(0:Int) < (R.length:Int):=by omega
  have n0:decide (0 < R.length)=true:=by rw [decide_eq_true_iff]; omega
  rcases h with h | ⟨b,o,rfl,hbl,hcc⟩
  ·rw [h] at h0; exact absurd rfl h0
  ·have cl:=hcc 0 (by omega)
   rw [Nat.add_zero] at cl
   clear hcc h0
   generalize R.getD 0 0=r0 at *
   have HP4:=Lib.hid (fun w=>place_any r0 4 w (by decide) (by decide))
   rw [show ((4:Nat):Int)=4 from rfl] at HP4
   obtain ⟨k,hk⟩:∃ k:Nat,r0 % 4=(k:Int):=⟨(r0 % 4).toNat,by omega⟩
   rw [hk] at HP4
   clear hk
   by_cases hz:k=0
   ·have qz:((k:Int) == 0)=true:=by rw [hz]; decide
    clear hz
    go_enter Try.func4,Try.ntmps4
    go_wp2_with fail
    refine (HP4.out _).mono ?_
    rintro e w1 ⟨rfl,rfl⟩
    go_wp2_with fail
    refine (H3.out _).mono ?_
    rintro e w2 ⟨tb,P,rfl,hP⟩
    have HP:=Lib.hid hP
    have hc:=res_cells hP.bel
    have c0:w2.cell? ⟨w.heap.size,0,none⟩=some (.int .i64 0):=cell_of_row _ _ _ _ _ _ hc
    have c1:w2.cell? ⟨w.heap.size,1,none⟩=some (.slice none 0 0):=cell_of_row _ _ _ _ _ _ hc
    have f0:w2.frozen? ⟨w.heap.size,0,none⟩=false:=frozen_of_row w2 _ 0 _ _ hc
    have f1:w2.frozen? ⟨w.heap.size,1,none⟩=false:=frozen_of_row w2 _ 1 _ _ hc
    have HC:=Lib.hid hc
    clear hP hc
    go_wp2_with fail
    refine bodyPost_ret (v:=.agg #[.int .i64 2,.slice (some ⟨tb,0,none⟩) 3 3]) ?_ rfl ⟨tb,3,P,rfl,.inl ⟨rfl,prog_res HP.out rfl⟩⟩
    exact results_cell_row rfl _ _ w.heap.size 25 #[.int .i64 2,.slice (some ⟨tb,0,none⟩) 3 3] (0,0) _ rfl (set2_at w2 w.heap.size 25 _ _ _ _ HC.out) Try.underlying25 rfl (by kernel_rfl)
   ·have qz:((k:Int) == 0)=false:=by rw [beq_eq_false_iff_ne]; omega
    clear hz
    go_enter Try.func4,Try.ntmps4
    go_wp2_with fail
    refine (HP4.out _).mono ?_
    rintro e w1 ⟨rfl,rfl⟩
    go_wp2_with fail
    refine (H2.out _).mono ?_
    rintro e w2 ⟨tb,P,rfl,hP⟩
    have HP:=Lib.hid hP
    have hc:=res_cells hP.bel
    have c0:w2.cell? ⟨w.heap.size,0,none⟩=some (.int .i64 0):=cell_of_row _ _ _ _ _ _ hc
    have c1:w2.cell? ⟨w.heap.size,1,none⟩=some (.slice none 0 0):=cell_of_row _ _ _ _ _ _ hc
    have f0:w2.frozen? ⟨w.heap.size,0,none⟩=false:=frozen_of_row w2 _ 0 _ _ hc
    have f1:w2.frozen? ⟨w.heap.size,1,none⟩=false:=frozen_of_row w2 _ 1 _ _ hc
    have HC:=Lib.hid hc
    clear hP hc
    go_wp2_with fail
    refine bodyPost_ret (v:=.agg #[.int .i64 2,.slice (some ⟨tb,0,none⟩) 2 2]) ?_ rfl ⟨tb,2,P,rfl,.inr ⟨rfl,prog_res HP.out rfl⟩⟩
    exact results_cell_row rfl _ _ w.heap.size 25 #[.int .i64 2,.slice (some ⟨tb,0,none⟩) 2 2] (0,0) _ rfl (set2_at w2 w.heap.size 25 _ _ _ _ HC.out) Try.underlying25 rfl (by kernel_rfl)
end Go.Proofs.Yteghpophcnehgaa
namespace Go.Proofs.Yteghpophcnehgaa
open Go.RowKit ExprA SndA
namespace SndA
theorem cur_get {cur:Array Value} {L:List Ins} (h:cur.toList.take (L.length * 7)=lcells L) {q j:Nat} (hq:q < L.length) (hj:j < 7):cur[q * 7 + j]?=(inscells (L.getD q Ins.zero))[j]?:=by
 rw [← lcells_get L q hq j hj,← h,List.getElem?_take,if_pos (by omega)]
 simp
theorem lcells_of {w:World} {g:Nat} {cur:Array Value} {L:List Ins} (hh:w.heap[g]?=some (.cells cur 47 (0,0))) (h:cur.toList.take (L.length * 7)=lcells L) (q:Nat) (hq:q < L.length):LCells w g (0 + q * 7) (L.getD q Ins.zero):=by
 have f:∀ j,j < 7→w.cell? ⟨g,0 + q * 7 + j,none⟩=(inscells (L.getD q Ins.zero))[j]?:=fun j hj=>by
  rw [cell_of_row _ _ _ _ _ _ hh,Nat.zero_add]; exact cur_get h hq hj
 exact ⟨f 0 (by decide),f 1 (by decide),f 2 (by decide),f 3 (by decide),f 4 (by decide),f 5 (by decide),f 6 (by decide)⟩
theorem lin_of {w:World} {lo hi:Nat} {th:Th} (h:ThF w lo hi th):LIn w th.a th.L:=by
 rcases h.row with ⟨_,h2,_⟩ | ⟨g,cur,h1,_,_,h4,h5,_⟩
 ·exact .inl h2
 ·exact .inr ⟨g,0,h1,lt_of_heap h4,fun q hq=>lcells_of h4 h5 q hq⟩
structure PM (lo:Nat) (x:World) (tb T:Nat) (P:List Th):Prop where
 cells:∃ cs:Array Value,x.heap[tb]?=some (.cells cs 44 (0,0))∧cs.size=T∧∀ t,t < T→cs[t]?=some (P.getD t Th.zero).v
 ths:∀ t,t < T→ThF x lo x.heap.size (P.getD t Th.zero)
theorem PM.next {lo tb T:Nat} {x y:World} {P:List Th} (h:PM lo x tb T P) (hb:Below x.heap.size x y):PM lo y tb T P:=by
 obtain ⟨cs,c1,c2⟩:=h.cells
 exact ⟨⟨cs,(hb.block tb (lt_of_heap c1)).trans c1,c2⟩,fun t ht=>((h.ths t ht).keep (fun b _ hl=>hb.block b hl)).mono (Nat.le_refl _) hb.size⟩
def isRead (k:Int):Bool:=k == 1 || k == 4
def loadsTo (L:List Ins):Nat→Nat
 | 0=>0
 | q + 1=>loadsTo L q + (if isRead (L.getD q Ins.zero).k then 1 else 0)
def loadsAll (P:List Th):Nat→Nat
 | 0=>0
 | t + 1=>loadsAll P t + loadsTo (P.getD t Th.zero).L (P.getD t Th.zero).L.length
theorem loadsTo_le (L:List Ins) (q:Nat):loadsTo L q≤q:=by
 induction q with
 | zero=>exact Nat.le_refl _
 | succ q ih=>show loadsTo L q + _≤_; split <;> omega
theorem loadsAll_le {P:List Th} {T:Nat} (h:∀ t,t < T→(P.getD t Th.zero).L.length≤1000):∀ t,t≤T→loadsAll P t≤1000 * t:=by
 intro t
 induction t with
 | zero=>intro _; exact Nat.le_refl _
 | succ t ih=>
  intro ht
  have h1:=ih (by omega)
  have h2:=loadsTo_le (P.getD t Th.zero).L (P.getD t Th.zero).L.length
  have h3:=h t (by omega)
  show loadsAll P t + _≤_
  omega
end SndA
set_option maxRecDepth 100000 in
set_option maxHeartbeats 16000000 in
theorem loads_any (lo tb T:Nat) (P:List Th) (w:World) (h:PM lo w tb T P) (hT:T≤100) (hl:∀ t,t < T→(P.getD t Th.zero).L.length≤1000) :
  Calls Try.prog 5 #[.agg #[.int .i64 2,.slice (some ⟨tb,0,none⟩) T T]] w fun e w'=>e=.returned (.int .i64 (loadsAll P T:Nat))∧Below w.heap.size w w':=by
 have hTi:(T:Int)≤100:=by omega
 have HLN:=Lib.hid hl
 have HB0:Hid (∀ o:Obj,Below w.heap.size w (w.alloc o)):=Lib.hid (fun o=>(Below.refl _ _).alloc (Nat.le_refl _) o)
 have HPM:=Lib.hid h
 clear h hl
 go_enter Try.func5,Try.ntmps5
 go_wp2_with fail
 obtain ⟨bx,hbx⟩:∃ x,x=w.heap.size:=⟨_,rfl⟩
 obtain ⟨wb,hwb⟩:∃ x,x=w.alloc (.cells #[.int .i64 2,.slice (some ⟨tb,0,none⟩) T T] 25 (0,0)):=⟨_,rfl⟩
 have HBW:Hid (Below w.heap.size w wb):=Lib.hid (by rw [hwb]; exact HB0.out _)
 have HBX:Hid (wb.heap[bx]?=some (.cells #[.int .i64 2,.slice (some ⟨tb,0,none⟩) T T] 25 (0,0))):=Lib.hid (by rw [hwb,hbx]; exact heap_alloc_new _ _)
 rw [← hwb,← hbx]
 clear hwb hbx HB0
 go_loopw [3,4] (fun n x wr=>∃ t:Nat,t≤T∧x=.int .i64 (t:Int)∧n=.int .i64 (loadsAll P t:Nat)∧Below wb.heap.size wb wr) (fun _ x _=>T - (intOf x).toNat)
 case atStart=>exact ⟨0,Nat.zero_le _,rfl,rfl,Below.refl _ _⟩
 case round=>
  obtain ⟨t,ht,rfl,rfl,hbe⟩:=hrel
  have HBE:=Lib.hid hbe
  clear hbe
  obtain ⟨wo,hwo⟩:∃ x,x=wr:=⟨_,rfl⟩
  subst hwo
  have hti:(t:Int)≤100:=by omega
  have HA:=Lib.hid (loadsAll_le HLN.out t ht)
  have HBX2:Hid (wo.heap[bx]?=some (.cells #[.int .i64 2,.slice (some ⟨tb,0,none⟩) T T] 25 (0,0))):=Lib.hid ((HBE.out.block bx (lt_of_heap HBX.out)).trans HBX.out)
  have HPW:=Lib.hid (HPM.out.next (below_next HBW.out HBE.out))
  have cb1:wo.cell? ⟨bx,1,none⟩=some (.slice (some ⟨tb,0,none⟩) T T):=cell_of_row _ _ _ _ _ _ HBX2.out
  by_cases hlt:t < T
  ·have d1:decide ((t:Int) < (T:Int))=true:=by rw [decide_eq_true_iff]; omega
   have i1:(t:Int) < (T:Int):=by omega
   obtain ⟨th,hth⟩:∃ x,x=P.getD t Th.zero:=⟨_,rfl⟩
   obtain ⟨ta,L,tc⟩:=th
   have HTH:Hid (P.getD t Th.zero=⟨ta,L,tc⟩):=Lib.hid hth.symm
   clear hth
   have hn:L.length≤1000:=by have:=HLN.out t hlt; rw [HTH.out] at this; exact this
   have hni:(L.length:Int)≤1000:=by omega
   have HS:Hid (loadsAll P (t + 1)=loadsAll P t + loadsTo L L.length):=Lib.hid (by
    show loadsAll P t + loadsTo (P.getD t Th.zero).L (P.getD t Th.zero).L.length=_
    rw [HTH.out])
   generalize loadsAll P t=na at *
   have hna:na≤100000:=by have:=HA.out; omega
   clear HA
   go_wp2_with fail
   go_loopw [3,5] (fun n x wq=>∃ q:Nat,q≤L.length∧x=.int .i64 (q:Int)∧n=.int .i64 ((na + loadsTo L q:Nat):Int)∧Below wo.heap.size wo wq) (fun _ x _=>L.length - (intOf x).toNat)
   case atStart=>exact ⟨0,Nat.zero_le _,rfl,rfl,Below.refl _ _⟩
   case round=>
    obtain ⟨q,hq,rfl,rfl,hbq⟩:=hrel
    have HBQ:=Lib.hid hbq
    clear hbq
    have hszq:=HBQ.out.size
    have hqi:(q:Int)≤1000:=by omega
    have hlq:=loadsTo_le L q
    have HBX3:Hid (wr.heap[bx]?=some (.cells #[.int .i64 2,.slice (some ⟨tb,0,none⟩) T T] 25 (0,0))):=Lib.hid ((HBQ.out.block bx (lt_of_heap HBX2.out)).trans HBX2.out)
    have cb2:wr.cell? ⟨bx,1,none⟩=some (.slice (some ⟨tb,0,none⟩) T T):=cell_of_row _ _ _ _ _ _ HBX3.out
    have HPR:=Lib.hid (HPW.out.next HBQ.out)
    have ctt:wr.cell? ⟨tb,t,none⟩=some (.slice ta L.length tc):=by
     obtain ⟨cs,c1,c2,c3⟩:=HPR.out.cells
     rw [cell_of_row _ _ _ _ _ _ c1,c3 t hlt,HTH.out]
     rfl
    have HLI:Hid (LIn wr ta L):=Lib.hid (by
     have:=lin_of (HPR.out.ths t hlt)
     rw [HTH.out] at this
     exact this)
    by_cases hql:q < L.length
    ·have e1:decide ((q:Int) < (L.length:Int))=true:=by rw [decide_eq_true_iff]; omega
     have e1i:(q:Int) < (L.length:Int):=by omega
     rcases HLI.out with h0 | ⟨b,o,rfl,hbl,hcc⟩
     ·rw [h0] at hql; simp at hql
     ·obtain ⟨c0,c1,c2,c3,c4,c5,c6⟩:=hcc q hql
      clear hcc
      have HST:Hid (loadsTo L (q + 1)=loadsTo L q + (if isRead (L.getD q Ins.zero).k then 1 else 0)):=Lib.hid rfl
      generalize L.getD q Ins.zero=pp at *
      obtain ⟨pk,pm,pm2,pr,pl,pn,pa,pE,pc⟩:=pp
      dsimp only at c0 c1 c2 c3 c4 c5 c6 HST
      generalize loadsTo L q=lq at *
      by_cases h1:pk=1
      ·have k1:(pk == 1)=true:=by simp [h1]
       have HS1:Hid (loadsTo L (q + 1)=lq + 1):=Lib.hid (by rw [HST.out,h1]; rfl)
       clear h1 HST
       go_wp2_with fail
       go_roundw
       case rel=>exact ⟨q + 1,hql,by go_num,by rw [HS1.out]; go_num,HBQ.out.alloc hszq _⟩
       case measure=>simp [intOf]; omega
      ·have k1:(pk == 1)=false:=by simp [h1]
       by_cases h4:pk=4
       ·have k4:(pk == 4)=true:=by simp [h4]
        have HS1:Hid (loadsTo L (q + 1)=lq + 1):=Lib.hid (by rw [HST.out,h4]; rfl)
        clear h1 h4 HST
        go_wp2_with fail
        go_roundw
        case rel=>exact ⟨q + 1,hql,by go_num,by rw [HS1.out]; go_num,HBQ.out.alloc hszq _⟩
        case measure=>simp [intOf]; omega
       ·have k4:(pk == 4)=false:=by simp [h4]
        have HS1:Hid (loadsTo L (q + 1)=lq):=Lib.hid (by rw [HST.out]; unfold isRead; rw [k1,k4]; rfl)
        clear h1 h4 HST
        go_wp2_with fail
        go_roundw
        case rel=>exact ⟨q + 1,hql,by go_num,by rw [HS1.out],HBQ.out.alloc hszq _⟩
        case measure=>simp [intOf]; omega
    ·have e1:decide ((q:Int) < (L.length:Int))=false:=by rw [decide_eq_false_iff_not]; omega
     have e1i:¬ (q:Int) < (L.length:Int):=by omega
     have HQ:Hid (loadsTo L L.length=loadsTo L q):=Lib.hid (by rw [show q=L.length by omega])
     generalize loadsTo L q=lq at *
     go_wp2_with fail
     go_roundw
     case rel=>exact ⟨t + 1,hlt,by go_num,by rw [HS.out,HQ.out],below_next HBE.out HBQ.out⟩
     case measure=>simp [intOf]; omega
  ·have d1:decide ((t:Int) < (T:Int))=false:=by rw [decide_eq_false_iff_not]; omega
   have i1:¬ (t:Int) < (T:Int):=by omega
   have HE:Hid (t=T):=Lib.hid (by omega)
   go_wp2_with fail
   go_ret
   rw [HE.out]
   exact ⟨rfl,below_next HBW.out HBE.out⟩
end Go.Proofs.Yteghpophcnehgaa
