/-
  What the functions that the law reaches do, one by one: contracts. Conditions: those that each of them prints.
-/
import Derived.Test.YteghpophcnehgaaMd
import Derived.Deep.AppendLies
import Derived.Deep.OwnRows
import Derived.Deep.DeepCutAuto
import Derived.Deep.CutBlock
import Derived.Deep.RegionLaw
namespace Go.Proofs.Yteghpophcnehgaa
open Go.RowKit ExprA SndA
namespace SndA
structure ProgN (w w':World) (tb T most N:Nat) (P:List Th):Prop where
 len:P.length=T
 cells:∃ cs:Array Value,w'.heap[tb]?=some (.cells cs 44 (0,0))∧cs.size=T∧∀ t,t < T→cs[t]?=some (P.getD t Th.zero).v
 ths:∀ t,t < T→ThF w' w.heap.size w'.heap.size (P.getD t Th.zero)
 good:∀ t,t < T→GoodTh (P.getD t Th.zero).L.length (P.getD t Th.zero).L
 most:∀ t,t < T→(P.getD t Th.zero).L.length≤most
 tot:∀ t,t < T→(P.getD t Th.zero).L.length=0 ∨ t + ((P.getD t Th.zero).L.length - 1) * T < N
 new:w.heap.size≤tb
 bel:Below w.heap.size w w'
def OutF (wr:World) (bx T most N t:Nat) (P:Nat→Th):Prop:=bx < wr.heap.size∧∀ s,s < t→ThF wr (bx + 1) wr.heap.size (P s)∧GoodTh (P s).L.length (P s).L∧(P s).L.length≤most∧((P s).L.length=0 ∨ s + ((P s).L.length - 1) * T < N)
theorem outF_zero {wr:World} {bx T most N:Nat} {P:Nat→Th} (h:bx < wr.heap.size):OutF wr bx T most N 0 P:=⟨h,fun _ hs=>absurd hs (Nat.not_lt_zero _)⟩
theorem mbound {m t n T:Nat} (h:m=t + n * T) (hn:n≤100) (hT:T≤100) (ht:t≤100):m≤10100:=by
 have:=Nat.mul_le_mul hn hT
 omega
theorem jbound {t n k T N:Nat} (hk:k < n) (h:n=0 ∨ t + (n - 1) * T < N):t + k * T < N:=by
 rcases h with h | h
 ·omega
 ·have:=Nat.mul_le_mul_right T (show k≤n - 1 by omega)
  omega
theorem out_step {w wq wi:World} {p tb bx T most N t n sk:Nat} {P:Nat→Th} {VS:Nat→Value} {v:Value} {L:List Ins} (hVS:VS=fun s=>if s < t then (P s).v else Value.slice none 0 0)
  (hF:OutF wq bx T most N t P) (hP:PS w wi p tb bx T (fun s=>if s=t then v else VS s)) (hT:TS wi wq.heap.size n v L sk) (hK:Keep (bx + 1) wq.heap.size wq wi) (hL:L.length=n) (hn:n≤most) (hN:n=0 ∨ t + (n - 1) * T < N) :
  ∃ P',PS w wi p tb bx T (fun s=>if s < t + 1 then (P' s).v else .slice none 0 0)∧OutF wi bx T most N (t + 1) P':=by
 obtain ⟨th,e1,e2,e3⟩:=ts_end hT
 have hsz:=hT.size
 refine ⟨fun s=>if s=t then th else P s,?_,Nat.lt_of_lt_of_le hF.1 hsz,fun s hs=>?_⟩
 ·have e:(fun s=>if s < t + 1 then (if s=t then th else P s).v else Value.slice none 0 0)=(fun s=>if s=t then v else VS s):=by
   funext s
   rw [hVS]
   by_cases h:s=t
   ·subst h; simp [e2]
   ·by_cases g:s < t
    ·simp [h,g,Nat.lt_succ_of_lt g]
    ·have:¬ s < t + 1:=by omega
     simp [h,g,this]
  rw [e]
  exact hP
 ·by_cases h:s=t
  ·subst h
   simp only [if_true]
   subst e1
   refine ⟨e3.mono (by have:=hF.1; omega) (Nat.le_refl _),⟨fun q hq=>by rw [hL]; exact hT.good q hq,by have:=hT.few; omega⟩,by omega,?_⟩
   rw [hL]; exact hN
  ·simp only [h,if_false]
   obtain ⟨f1,f2,f3,f4⟩:=hF.2 s (by omega)
   exact ⟨(f1.keep hK).mono (Nat.le_refl _) hsz,f2,f3,f4⟩
theorem set2_at (w:World) (l:Nat) (t:TypeId) (u0 u1 v0 v1:Value) (h:w.heap[l]?=some (.cells #[u0,u1] t (0,0))):((w.setCell ⟨l,0,none⟩ v0).setCell ⟨l,1,none⟩ v1).heap[l]?=some (.cells #[v0,v1] t (0,0)):=by
 have s0:(w.setCell ⟨l,0,none⟩ v0).heap[l]?=some (.cells #[v0,u1] t (0,0)):=heap_setCell_same w l 0 #[u0,u1] t v0 h
 exact heap_setCell_same (w.setCell ⟨l,0,none⟩ v0) l 1 #[v0,u1] t v1 s0
theorem getD_range {T t:Nat} (P:Nat→Th) (h:t < T):((List.range T).map P).getD t Th.zero=P t:=by
 simp [List.getD_eq_getElem?_getD,h]
theorem prog_end {w wo wf:World} {p tb bx T most N:Nat} {P:Nat→Th} {u0 u1:Value} (ho:p=w.heap.size∧tb=w.heap.size + 1∧bx=w.heap.size + 1 + 1) (hP:PS w wo p tb bx T (fun s=>if s < T then (P s).v else .slice none 0 0)) (hF:OutF wo bx T most N T P)
  (hf:wf=(wo.setCell ⟨p,0,none⟩ u0).setCell ⟨p,1,none⟩ u1):ProgN w wf tb T most N ((List.range T).map P):=by
 obtain ⟨h1,h2,h3⟩:=ho
 have hne:∀ b,b ≠ p→wf.heap[b]?=wo.heap[b]?:=fun b hb=>by
  rw [hf,Below.heap_setCell (wo.setCell ⟨p,0,none⟩ u0) ⟨p,1,none⟩ u1 b hb,Below.heap_setCell wo ⟨p,0,none⟩ u0 b hb]
 have hsz:wf.heap.size=wo.heap.size:=by rw [hf]; simp
 refine ⟨by simp,?_,fun t ht=>?_,fun t ht=>?_,fun t ht=>?_,fun t ht=>?_,by omega,?_⟩
 ·obtain ⟨cs,c1,c2,c3⟩:=hP.thr
  refine ⟨cs,by rw [hne tb (by omega)]; exact c1,c2,fun t ht=>?_⟩
  have:=c3 t ht
  simp only [ht,if_true] at this
  rw [getD_range P ht]; exact this
 ·rw [getD_range P ht,hsz]
  exact ((hF.2 t ht).1.keep (fun b hb _=>hne b (by omega))).mono (by omega) (Nat.le_refl _)
 ·rw [getD_range P ht]; exact (hF.2 t ht).2.1
 ·rw [getD_range P ht]; exact (hF.2 t ht).2.2.1
 ·rw [getD_range P ht]; exact (hF.2 t ht).2.2.2
 ·rw [hf]
  exact (hP.bel.setCell (show w.heap.size≤p by omega) u0).setCell (show w.heap.size≤p by omega) u1
theorem infoL:(Try.prog.info? 44).map (fun i=>(i.zero,i.size,i.bytes))=some (some (.slice none 0 0),1,24):=by kernel_rfl
theorem infoI:(Try.prog.info? 47).map (fun i=>(i.zero,i.size,i.bytes))=some (some (.agg #[.int .i64 0,.int .i64 0,.int .i64 0,.int .i64 0,.int .i64 0,.slice none 0 0,.int .i64 0]),7,72):=by kernel_rfl
theorem made_at (T s:Nat) (h:s < T):(madeCells #[Value.slice none 0 0] T)[s]?=some (.slice none 0 0):=by simp [madeCells,h,Nat.mod_one]
theorem instrn_f (v:Int) (left:Nat) (w:World) (hleft:left≤1000):Calls Try.prog 23 #[.int .i64 v,.int .i64 2,.int .i64 (left:Int)] w fun e w'=>∃ (k m m2 r l n:Int) (a:Option Addr) (E:List (Int × Int)) (c:Nat),e=.returned (.agg #[.int .i64 k,.int .i64 m,.int .i64 m2,.int .i64 r,.int .i64 l,.slice a E.length c,.int .i64 n])∧GI left ⟨k,m,m2,r,l,n,a,E,c⟩∧InsNew w w' ⟨k,m,m2,r,l,n,a,E,c⟩∧Below w.heap.size w w':=by
 refine (instrn_any v left w hleft).mono ?_
 rintro e w' ⟨⟨k,m,m2,r,l,n,a,E,c⟩,rfl,h1,h2,h3⟩
 exact ⟨k,m,m2,r,l,n,a,E,c,rfl,h1,h2,h3⟩
end SndA
set_option maxRecDepth 100000 in
set_option maxHeartbeats 16000000 in
theorem progn_any (a:Option Addr) (R:List Int) (c T most:Nat) (w:World) (h:NIn w a R) (hR:R.length≤9223372036854775807) (hT1:1≤T) (hT:T≤100) (hm:most≤100) :
  Calls Try.prog 13 #[.slice a R.length c,.int .i64 (T:Int),.int .i64 (most:Int)] w fun e w'=>∃ tb P,e=.returned (.agg #[.int .i64 2,.slice (some ⟨tb,0,none⟩) T T])∧ProgN w w' tb T most R.length P:=by
 have HN:=Lib.hid h
 clear h
 have hT0:(0:Int)≤(T:Int):=by omega
 have hTi:(T:Int)≤100:=by omega
 have hmi:(most:Int)≤100:=by omega
 have hRi:(R.length:Int)≤9223372036854775807:=by omega
 have hmk:=run_make_row' (P:=Try.prog) 23 44 (.slice none 0 0) 24 Try.underlying23 infoL rfl .i64 .i64 T (by omega) (by omega)
 obtain ⟨i0,hi,hz0,hz1,hz2⟩:=info_parts infoI
 go_enter Try.func13,Try.ntmps13
 go_wp2_with fail
 obtain ⟨W,hW⟩:∃ W,W=((w.alloc (.cells #[.int .i64 0,.slice none 0 0] 25 (0,0))).alloc (.cells (madeCells #[.slice none 0 0] T) 44 (0,0))).alloc (.cells #[.int .i64 2,.slice (some ⟨w.heap.size + 1,0,none⟩) T T] 25 (0,0)):=⟨_,rfl⟩
 have hPS:PS w W w.heap.size (w.heap.size + 1) (w.heap.size + 1 + 1) T (fun _=>.slice none 0 0):=by
  have b1:Below w.heap.size w W:=by rw [hW]; exact (((Below.refl _ _).alloc (Nat.le_refl _) _).alloc (by simp) _).alloc (by simp; omega) _
  refine ⟨b1,?_,?_,⟨madeCells #[.slice none 0 0] T,?_,size_madeCells _ _,fun s hs=>made_at T s hs⟩⟩
  ·rw [hW,alloc_old _ _ _ (by simp; omega),alloc_old _ _ _ (by simp),alloc_at _ _ _ rfl]
  ·rw [hW,alloc_at _ _ _ (by simp)]
  ·rw [hW,alloc_old _ _ _ (by simp),alloc_at _ _ _ (by simp)]
 have hW2:W.heap.size=w.heap.size + 1 + 1 + 1:=by rw [hW]; simp
 rw [← hW]
 clear hW
 obtain ⟨bx,hbx⟩:∃ x,x=w.heap.size + 1 + 1:=⟨_,rfl⟩
 obtain ⟨tb,htb⟩:∃ x,x=w.heap.size + 1:=⟨_,rfl⟩
 obtain ⟨p,hp⟩:∃ x,x=w.heap.size:=⟨_,rfl⟩
 have HPS:Hid (PS w W p tb bx T (fun _=>.slice none 0 0)):=Lib.hid (by rw [hbx,htb,hp]; exact hPS)
 have hlb:W.heap.size=bx + 1:=by
  rw [hW2,hbx]
 rw [← hbx,← htb,← hp]
 have HORD:Hid (p=w.heap.size∧tb=w.heap.size + 1∧bx=w.heap.size + 1 + 1):=Lib.hid ⟨hp,htb,hbx⟩
 clear hPS hp htb hbx hmk hW2
 go_loopw [8] (fun x wr=>∃ (t:Nat) (P:Nat→Th),t≤T∧x=.int .i64 (t:Int)∧PS w wr p tb bx T (fun s=>if s < t then (P s).v else .slice none 0 0)∧OutF wr bx T most R.length t P) (fun x _=>T - (intOf x).toNat)
 case atStart=>exact ⟨0,fun _=>Th.zero,Nat.zero_le _,rfl,by have e:(fun s:Nat=>if s < 0 then (Th.zero).v else Value.slice none 0 0)=(fun _=>Value.slice none 0 0):=by { funext s; simp }; rw [e]; exact HPS.out,outF_zero (by omega)⟩
 case round=>
  obtain ⟨t,P,ht,rfl,hPS,hF⟩:=hrel
  have HPW:=Lib.hid hPS
  have HF:=Lib.hid hF
  clear hPS hF HPS hlb
  obtain ⟨wo,hwo⟩:∃ x,x=wr:=⟨_,rfl⟩
  subst hwo
  have hti:(t:Int)≤100:=by omega
  by_cases hlt:t < T
  ·have hd1:decide ((t:Int) < (T:Int))=true:=by simp; omega
   have hdi:(t:Int) < (T:Int):=by omega
   go_wp2_with fail
   go_loopw [9,11] (fun x y wq=>∃ n m:Nat,wq=wo∧m=t + n * T∧n≤most∧(n=0 ∨ t + (n - 1) * T < R.length)∧x=.int .i64 (n:Int)∧y=.int .i64 (m:Int)) (fun x _ _=>most - (intOf x).toNat)
   case atStart=>exact ⟨0,t,rfl,by omega,Nat.zero_le _,.inl rfl,rfl,rfl⟩
   case round=>
    obtain ⟨n,m,rfl,hmn,hnm,hnl,rfl,rfl⟩:=hrel
    have HMN:=Lib.hid hmn
    have HNL:=Lib.hid hnl
    have hmb:m≤10100:=mbound hmn (by omega) (by omega) (by omega)
    clear hmn hnl
    have hmi2:(m:Int)≤10100:=by omega
    have hni:(n:Int)≤100:=by omega
    by_cases hc1:m < R.length
    ·have e1:decide ((m:Int) < (R.length:Int))=true:=by simp; omega
     have e1i:(m:Int) < (R.length:Int):=by omega
     by_cases hc2:n < most
     ·have e2:decide ((n:Int) < (most:Int))=true:=by simp; omega
      have e2i:(n:Int) < (most:Int):=by omega
      go_wp2_with fail
      go_roundw
      case rel=>exact ⟨n + 1,m + T,trivial,by rw [HMN.out,Nat.add_mul]; omega,hc2,.inr (by have:=HMN.out; simp; omega),by go_num,by go_num⟩
      case measure=>simp [intOf]; omega
     ·have e2:decide ((n:Int) < (most:Int))=false:=by simp; omega
      have e2i:¬ (n:Int) < (most:Int):=by omega
      go_wp2_with fail
      obtain ⟨wq,hwq⟩:∃ x,x=wr:=⟨_,rfl⟩
      subst hwq
      have HVS:Hid (∃ VS:Nat→Value,VS=fun s=>if s < t then (P s).v else Value.slice none 0 0):=Lib.hid ⟨_,rfl⟩
      obtain ⟨VS,hVS⟩:=HVS.out
      have HPT:Hid (PS w wq p tb bx T (fun s=>if s=t then Value.slice none 0 0 else VS s)):=Lib.hid (by
       have e:(fun s=>if s=t then Value.slice none 0 0 else VS s)=VS:=by
        funext s
        rw [hVS]
        by_cases h:s=t
        ·subst h; simp
        ·simp [h]
       rw [e,hVS]; exact HPW.out)
      have HVE:=Lib.hid hVS
      clear HVS hVS HPW
      go_loopw [10,12] (fun x y wi=>∃ (k sk:Nat) (L:List Ins) (v:Value),k≤n∧L.length=k∧sk≤k∧x=.int .i64 (sk:Int)∧y=.int .i64 (k:Int)∧PS w wi p tb bx T (fun s=>if s=t then v else VS s)∧TS wi wq.heap.size n v L sk∧Keep (bx + 1) wq.heap.size wq wi) (fun _ y _=>n - (intOf y).toNat)
      case atStart=>exact ⟨0,0,[],_,Nat.zero_le _,rfl,Nat.le_refl _,rfl,rfl,HPT.out,ts_start,fun _ _ _=>rfl⟩
      case round=>
       obtain ⟨k,sk,L,v,hkn,hLk,hsk,rfl,rfl,hPS,hTS,hKP⟩:=hrel
       have HPI:=Lib.hid hPS
       have HTS:=Lib.hid hTS
       have HKP:=Lib.hid hKP
       have HLK:=Lib.hid hLk
       clear hPS hTS hKP hLk HPT
       obtain ⟨wi,hwi⟩:∃ x,x=wr:=⟨_,rfl⟩
       subst hwi
       have hki:(k:Int)≤100:=by omega
       have hski:(sk:Int)≤100:=by omega
       by_cases hkl:k < n
       ·have f1:decide ((k:Int) < (n:Int))=true:=by simp; omega
        have f1i:(k:Int) < (n:Int):=by omega
        obtain ⟨kt,hkt⟩:∃ x,x=k * T:=⟨_,rfl⟩
        obtain ⟨j,hj⟩:∃ x,x=t + kt:=⟨_,rfl⟩
        have hjl:j < R.length:=by rw [hj,hkt]; exact jbound hkl HNL.out
        have ekt:(k:Int) * (T:Int)=((kt:Nat):Int):=by rw [hkt,Int.natCast_mul]
        have zkt:IntKind.i64.wrap ((k:Int) * (T:Int))=(kt:Int):=by rw [ekt]; exact IntWalk.i64_in _ (by omega)
        clear ekt
        have zj:IntKind.i64.wrap ((t:Int) + (kt:Int))=(j:Int):=by rw [IntWalk.i64_in _ (by omega)]; omega
        obtain ⟨n1,hn1⟩:∃ x,x=n - 1:=⟨_,rfl⟩
        obtain ⟨left,hleft⟩:∃ x,x=n1 - k:=⟨_,rfl⟩
        have zn:IntKind.i64.wrap ((n:Int) - 1)=(n1:Int):=by rw [IntWalk.i64_in _ (by omega)]; omega
        have zl:IntKind.i64.wrap ((n1:Int) - (k:Int))=(left:Int):=by rw [IntWalk.i64_in _ (by omega)]; omega
        have HLE:Hid (left=n - 1 - k):=Lib.hid (by rw [hleft,hn1])
        have HI:=Lib.hid (fun v w=>instrn_f v left w (by omega))
        have hji:(j:Int) < (R.length:Int):=by omega
        have cb0:wi.cell? ⟨bx,0,none⟩=some (.int .i64 2):=cell_of_row _ _ _ _ _ _ HPI.out.box
        rcases HN.out.next HPI.out.bel with h0 | ⟨b,o,rfl,hbl,hcc⟩
        ·rw [h0] at hjl; simp at hjl
        ·have cl:=hcc j hjl
         have hbxl:bx < wi.heap.size:=lt_of_heap HPI.out.box
         clear hcc hj hkt hn1 hleft
         generalize R.getD j 0=rq at *
         go_upto_block 5 with (fail)
         go_cut [10] (fun s10 wf=>∃ (sk2:Nat) (v2:Value) (i2:Ins),s10=.int .i64 (sk2:Int)∧sk2≤k + 1∧PS w wf p tb bx T (fun s=>if s=t then v2 else VS s)∧TS wf wq.heap.size n v2 (L ++ [i2]) sk2∧Keep (bx + 1) wq.heap.size wq wf)
         case first=>
          go_upto_region 13 with (fail)
          go_cut [13] (fun s13 wx=>∃ (gx:Nat) (i:Ins),s13=.pointer (some ⟨gx,0,none⟩)∧XAt wi wx gx i∧GI left i)
          case first=>
           go_region_with ((go_at_call 23; refine (HI.out _ _).mono ?_; rintro e w2 ⟨ik,im,im2,ir,il,iN,ia,iE,ic,rfl,hgi,hnew,hb2⟩; try (have hxo:w2.heap[wi.heap.size]?=some (.cells #[.int .i64 0,.int .i64 0,.int .i64 0,.int .i64 0,.int .i64 0,.slice none 0 0,.int .i64 0] 47 (0,0)):=(hb2.block wi.heap.size (by simp)).trans (heap_alloc_new _ _); have x0:=cell_of_row w2 wi.heap.size 0 _ _ _ hxo; have y0:=frozen_of_row w2 wi.heap.size 0 _ _ hxo; have x1:=cell_of_row w2 wi.heap.size 1 _ _ _ hxo; have y1:=frozen_of_row w2 wi.heap.size 1 _ _ hxo; have x2:=cell_of_row w2 wi.heap.size 2 _ _ _ hxo; have y2:=frozen_of_row w2 wi.heap.size 2 _ _ hxo; have x3:=cell_of_row w2 wi.heap.size 3 _ _ _ hxo; have y3:=frozen_of_row w2 wi.heap.size 3 _ _ hxo; have x4:=cell_of_row w2 wi.heap.size 4 _ _ _ hxo; have y4:=frozen_of_row w2 wi.heap.size 4 _ _ hxo; have x5:=cell_of_row w2 wi.heap.size 5 _ _ _ hxo; have y5:=frozen_of_row w2 wi.heap.size 5 _ _ hxo; have x6:=cell_of_row w2 wi.heap.size 6 _ _ _ hxo; have y6:=frozen_of_row w2 wi.heap.size 6 _ _ hxo)))
           all_goals
            go_wp2_with fail
            go_meet
            first | (have hgd:=hxo; clear hgd; exact ⟨_,_,rfl,xat_b rfl hb2 hnew,hgi⟩) | exact ⟨_,_,rfl,xat_a hb2 hnew,hgi⟩
          case rest=>
           obtain ⟨gx,⟨ik,im,im2,ir,il,iN,ia,iE,ic⟩,rfl,hX,hgi⟩:=hcut
           obtain ⟨wx,hwx⟩:∃ x,x=wc:=⟨_,rfl⟩
           subst hwx
           have c0:wx.cell? ⟨gx,0,none⟩=some (.int .i64 ik):=cell_of_row _ _ _ _ _ _ hX.at_
           have z0:wx.frozen? ⟨gx,0,none⟩=false:=frozen_of_row wx gx 0 _ _ hX.at_
           have c1:wx.cell? ⟨gx,1,none⟩=some (.int .i64 im):=cell_of_row _ _ _ _ _ _ hX.at_
           have z1:wx.frozen? ⟨gx,1,none⟩=false:=frozen_of_row wx gx 1 _ _ hX.at_
           have c2:wx.cell? ⟨gx,2,none⟩=some (.int .i64 im2):=cell_of_row _ _ _ _ _ _ hX.at_
           have z2:wx.frozen? ⟨gx,2,none⟩=false:=frozen_of_row wx gx 2 _ _ hX.at_
           have c3:wx.cell? ⟨gx,3,none⟩=some (.int .i64 ir):=cell_of_row _ _ _ _ _ _ hX.at_
           have z3:wx.frozen? ⟨gx,3,none⟩=false:=frozen_of_row wx gx 3 _ _ hX.at_
           have c4:wx.cell? ⟨gx,4,none⟩=some (.int .i64 il):=cell_of_row _ _ _ _ _ _ hX.at_
           have z4:wx.frozen? ⟨gx,4,none⟩=false:=frozen_of_row wx gx 4 _ _ hX.at_
           have c5:wx.cell? ⟨gx,5,none⟩=some (.slice ia iE.length ic):=cell_of_row _ _ _ _ _ _ hX.at_
           have z5:wx.frozen? ⟨gx,5,none⟩=false:=frozen_of_row wx gx 5 _ _ hX.at_
           have c6:wx.cell? ⟨gx,6,none⟩=some (.int .i64 iN):=cell_of_row _ _ _ _ _ _ hX.at_
           have z6:wx.frozen? ⟨gx,6,none⟩=false:=frozen_of_row wx gx 6 _ _ hX.at_
           have HX:=Lib.hid hX
           have HGI:=Lib.hid hgi
           clear hX hgi zkt zj zn zl cl cb0 hbxl hbl
           have HCS:Hid ((ik ≠ 6∧(ik == 6)=false) ∨ ((ik == 6)=true∧ik=6∧sk + 1≤2) ∨ ((ik == 6)=true∧ik=6∧2 < sk + 1)):=Lib.hid (by
            by_cases h:ik=6
            ·rcases Nat.lt_or_ge 2 (sk + 1) with g | g
             ·exact .inr (.inr ⟨by simp [h],h,g⟩)
             ·exact .inr (.inl ⟨by simp [h],h,g⟩)
            ·exact .inl ⟨h,by simp [h]⟩)
           go_upto_if 59 with (fail)
           go_cut [10] (fun s10 wx2=>∃ (sk2:Nat) (i2:Ins),s10=.int .i64 (sk2:Int)∧sk2≤k + 1∧XAt wi wx2 gx i2∧GI left i2∧cnt6 (L ++ [i2])≤min sk2 2)
           case first=>
            rcases HCS.out with ⟨h6,q6⟩ | ⟨q6,h6,hs2⟩ | ⟨q6,h6,hs2⟩
            ·clear HCS
             have H6:=Lib.hid h6
             clear h6
             go_wp2_with fail
             go_meet
             exact ⟨sk,_,rfl,by omega,HX.out,HGI.out,by rw [cnt6_snoc,if_neg H6.out]; exact HTS.out.few⟩
            ·clear HCS
             have H6:=Lib.hid h6
             have HS2:=Lib.hid hs2
             have g2:¬ (2:Int) < (sk:Int) + 1:=by omega
             have g2d:decide ((2:Int) < (sk:Int) + 1)=false:=by simp; omega
             clear h6 hs2
             go_wp2_with fail
             go_meet
             exact ⟨sk + 1,_,by go_num,by omega,HX.out,HGI.out,by rw [cnt6_snoc,if_pos H6.out]; have:=HTS.out.few; have:=HS2.out; omega⟩
            ·clear HCS
             have HS2:=Lib.hid hs2
             have g2:(2:Int) < (sk:Int) + 1:=by omega
             have g2d:decide ((2:Int) < (sk:Int) + 1)=true:=by simp; omega
             clear h6 hs2
             go_wp2_with fail
             go_meet
             exact ⟨sk + 1,_,by go_num,by omega,xat_set HX.out,gi_fence _,by rw [cnt6_snoc,if_neg (by decide)]; have:=HTS.out.few; omega⟩
           case rest=>
            obtain ⟨sk2,i2,rfl,hsk2,hX2,hgi2,hfew⟩:=hcut
            obtain ⟨wy,hwy⟩:∃ x,x=wc:=⟨_,rfl⟩
            subst hwy
            clear c0 c1 c2 c3 c4 c5 c6 z0 z1 z2 z3 z4 z5 z6 HX HGI HCS
            obtain ⟨jk,jm,jm2,jr,jl,jN,ja,jE,jc⟩:=i2
            have c0:wy.cell? ⟨gx,0,none⟩=some (.int .i64 jk):=cell_of_row _ _ _ _ _ _ hX2.at_
            have c1:wy.cell? ⟨gx,1,none⟩=some (.int .i64 jm):=cell_of_row _ _ _ _ _ _ hX2.at_
            have c2:wy.cell? ⟨gx,2,none⟩=some (.int .i64 jm2):=cell_of_row _ _ _ _ _ _ hX2.at_
            have c3:wy.cell? ⟨gx,3,none⟩=some (.int .i64 jr):=cell_of_row _ _ _ _ _ _ hX2.at_
            have c4:wy.cell? ⟨gx,4,none⟩=some (.int .i64 jl):=cell_of_row _ _ _ _ _ _ hX2.at_
            have c5:wy.cell? ⟨gx,5,none⟩=some (.slice ja jE.length jc):=cell_of_row _ _ _ _ _ _ hX2.at_
            have c6:wy.cell? ⟨gx,6,none⟩=some (.int .i64 jN):=cell_of_row _ _ _ _ _ _ hX2.at_
            have HX:=Lib.hid hX2
            have HGI:=Lib.hid hgi2
            have HFW:=Lib.hid hfew
            clear hX2 hgi2 hfew
            have HOW:Hid (World.ownsRow wy wq.heap.size 47 7 v L.length (lcells L)):=Lib.hid (own_below HTS.out.own HX.out.bel)
            obtain ⟨cs,ct1,ct2,ct3⟩:=HPI.out.thr
            have htw:tb < wi.heap.size:=lt_of_heap ct1
            have HTB:Hid ((World.heap wy)[tb]?=some (.cells cs 44 (0,0))):=Lib.hid ((HX.out.bel.block tb htw).trans ct1)
            have HCT:Hid (cs[t]?=some v):=Lib.hid (by rw [ct3 t hlt]; simp)
            have HBB:Hid ((World.heap wy)[bx]?=some (.cells #[.int .i64 2,.slice (some ⟨tb,0,none⟩) T T] 25 (0,0))):=Lib.hid ((HX.out.bel.block bx (lt_of_heap HPI.out.box)).trans HPI.out.box)
            have cbx:World.cell? wy ⟨bx,1,none⟩=some (.slice (some ⟨tb,0,none⟩) T T):=cell_of_row _ _ _ _ _ _ HBB.out
            have ctt:World.cell? wy ⟨tb,t,none⟩=some v:=(cell_of_row _ _ _ _ _ _ HTB.out).trans HCT.out
            have htbx:tb < (World.heap wy).size:=lt_of_heap HTB.out
            have hgxx:gx < (World.heap wy).size:=lt_of_heap HX.out.at_
            have hbxx:bx < (World.heap wy).size:=lt_of_heap HBB.out
            have hmq:=HTS.out.size
            have HLT:Hid (p < tb∧tb < bx∧bx < wq.heap.size):=Lib.hid ⟨by have:=HORD.out; omega,by have:=HORD.out; omega,HF.out.1⟩
            have hszx:wi.heap.size≤(World.heap wy).size:=HX.out.bel.size
            have HFT:Hid (some tb ≠ v.ownBlock):=Lib.hid (own_far HTS.out.own (by have:=HLT.out; omega))
            have HFB:Hid (some bx ≠ v.ownBlock):=Lib.hid (own_far HTS.out.own (by have:=HLT.out; omega))
            have hLk100:L.length≤100:=by have:=HLK.out; omega
            clear ct1 ct2 ct3
            go_upto_region 18 with (fail)
            go_region_law ((refine step_append_lies _ (by rfl) _ _ _ (by rfl) wq.heap.size 47 i0 _ 7 72 Try.underlying44 hi hz0 hz1 hz2 rfl (by omega) v L.length (lcells L) (by rfl) (by first | exact HOW.out.alloc _ | exact (HOW.out.alloc _).drew | exact HOW.out.drew.alloc _) ⟨(World.heap wy).size,0,none⟩ 1 1 (inscells ⟨jk,jm,jm2,jr,jl,jN,ja,jE,jc⟩) (by rfl) (by rfl) (World.news_of_block (cs:=(inscells ⟨jk,jm,jm2,jr,jl,jN,ja,jE,jc⟩).toArray) (t:=47) (fr:=(0,0)) (heap_alloc_new wy _)) (inscells_one _) (by omega) (by unfold maxLen; omega) (by omega) (by simp; omega) ((World.heap wy).size + 1) (by simp) ?_; intro gg gcap wz hown1 hgrow1 hat1 hlt1; have htz:(World.heap wz)[tb]?=some (.cells cs 44 (0,0)):=(hgrow1.block tb (by simp; omega) HFT.out).trans ((alloc_old wy _ tb (by omega)).trans HTB.out); have ctz:=(cell_of_row wz tb t _ _ _ htz).trans HCT.out; have ftz:=frozen_of_row wz tb t _ _ htz; have hbz:=(hgrow1.block bx (by simp; omega) HFB.out).trans ((alloc_old wy _ bx (by omega)).trans HBB.out); have cbz:World.cell? wz ⟨bx,1,none⟩=some (.slice (some ⟨tb,0,none⟩) T T):=cell_of_row _ _ _ _ _ _ hbz))
            all_goals
             go_wp2_with fail
             go_meet
             exact ⟨sk2,_,_,rfl,hsk2,ts_step HLT.out (by have:=HORD.out; omega) HPI.out HTS.out HKP.out HX.out.bel HX.out.tok (by rw [HLK.out,← HLE.out]; exact HGI.out) HFW.out (by first | exact ((Below.refl _ _).alloc (Nat.le_refl _) _).drew | exact (Below.refl _ _).drew.alloc (Nat.le_refl _) _) hown1 hgrow1 rfl hlt⟩
         case rest=>
          obtain ⟨sk2,v2,i2,rfl,hsk2,r1,r2,r3⟩:=hcut
          have R1:=Lib.hid r1
          have R2:=Lib.hid r2
          have R3:=Lib.hid r3
          clear r1 r2 r3 zkt zj zn zl cl cb0 hbxl hbl
          go_wp2_with fail
          go_roundw
          case rel=>
           first
           | exact ⟨k + 1,sk2,L ++ [i2],v2,hkl,by rw [List.length_append,HLK.out]; rfl,hsk2,rfl,by go_num,R1.out,R2.out,R3.out⟩
           | exact ⟨⟨k + 1,sk2,L ++ [i2],v2,hkl,by rw [List.length_append,HLK.out]; rfl,hsk2,rfl,by go_num,R1.out,R2.out,R3.out⟩,rfl⟩
          case measure=>simp [intOf]; omega
       ·have f1:decide ((k:Int) < (n:Int))=false:=by simp; omega
        have f1i:¬ (k:Int) < (n:Int):=by omega
        have HO:Hid (∃ P',PS w wi p tb bx T (fun s=>if s < t + 1 then (P' s).v else .slice none 0 0)∧OutF wi bx T most R.length (t + 1) P'):=Lib.hid (out_step HVE.out HF.out HPI.out HTS.out HKP.out (by have:=HLK.out; omega) hnm HNL.out)
        obtain ⟨P2,ho1,ho2⟩:=HO.out
        have H1:=Lib.hid ho1
        have H2:=Lib.hid ho2
        clear ho1 ho2 HO HPI HTS HKP HLK HVE HF
        go_wp2_with fail
        go_roundw
        case rel=>exact ⟨t + 1,P2,hlt,by go_num,H1.out,H2.out⟩
        case measure=>simp [intOf]; omega
    ·have e1:decide ((m:Int) < (R.length:Int))=false:=by simp; omega
     have e1i:¬ (m:Int) < (R.length:Int):=by omega
     go_wp2_with fail
     obtain ⟨wq,hwq⟩:∃ x,x=wr:=⟨_,rfl⟩
     subst hwq
     have HVS:Hid (∃ VS:Nat→Value,VS=fun s=>if s < t then (P s).v else Value.slice none 0 0):=Lib.hid ⟨_,rfl⟩
     obtain ⟨VS,hVS⟩:=HVS.out
     have HPT:Hid (PS w wq p tb bx T (fun s=>if s=t then Value.slice none 0 0 else VS s)):=Lib.hid (by
      have e:(fun s=>if s=t then Value.slice none 0 0 else VS s)=VS:=by
       funext s
       rw [hVS]
       by_cases h:s=t
       ·subst h; simp
       ·simp [h]
      rw [e,hVS]; exact HPW.out)
     have HVE:=Lib.hid hVS
     clear HVS hVS HPW
     go_loopw [10,12] (fun x y wi=>∃ (k sk:Nat) (L:List Ins) (v:Value),k≤n∧L.length=k∧sk≤k∧x=.int .i64 (sk:Int)∧y=.int .i64 (k:Int)∧PS w wi p tb bx T (fun s=>if s=t then v else VS s)∧TS wi wq.heap.size n v L sk∧Keep (bx + 1) wq.heap.size wq wi) (fun _ y _=>n - (intOf y).toNat)
     case atStart=>exact ⟨0,0,[],_,Nat.zero_le _,rfl,Nat.le_refl _,rfl,rfl,HPT.out,ts_start,fun _ _ _=>rfl⟩
     case round=>
      obtain ⟨k,sk,L,v,hkn,hLk,hsk,rfl,rfl,hPS,hTS,hKP⟩:=hrel
      have HPI:=Lib.hid hPS
      have HTS:=Lib.hid hTS
      have HKP:=Lib.hid hKP
      have HLK:=Lib.hid hLk
      clear hPS hTS hKP hLk HPT
      obtain ⟨wi,hwi⟩:∃ x,x=wr:=⟨_,rfl⟩
      subst hwi
      have hki:(k:Int)≤100:=by omega
      have hski:(sk:Int)≤100:=by omega
      by_cases hkl:k < n
      ·have f1:decide ((k:Int) < (n:Int))=true:=by simp; omega
       have f1i:(k:Int) < (n:Int):=by omega
       obtain ⟨kt,hkt⟩:∃ x,x=k * T:=⟨_,rfl⟩
       obtain ⟨j,hj⟩:∃ x,x=t + kt:=⟨_,rfl⟩
       have hjl:j < R.length:=by rw [hj,hkt]; exact jbound hkl HNL.out
       have ekt:(k:Int) * (T:Int)=((kt:Nat):Int):=by rw [hkt,Int.natCast_mul]
       have zkt:IntKind.i64.wrap ((k:Int) * (T:Int))=(kt:Int):=by rw [ekt]; exact IntWalk.i64_in _ (by omega)
       clear ekt
       have zj:IntKind.i64.wrap ((t:Int) + (kt:Int))=(j:Int):=by rw [IntWalk.i64_in _ (by omega)]; omega
       obtain ⟨n1,hn1⟩:∃ x,x=n - 1:=⟨_,rfl⟩
       obtain ⟨left,hleft⟩:∃ x,x=n1 - k:=⟨_,rfl⟩
       have zn:IntKind.i64.wrap ((n:Int) - 1)=(n1:Int):=by rw [IntWalk.i64_in _ (by omega)]; omega
       have zl:IntKind.i64.wrap ((n1:Int) - (k:Int))=(left:Int):=by rw [IntWalk.i64_in _ (by omega)]; omega
       have HLE:Hid (left=n - 1 - k):=Lib.hid (by rw [hleft,hn1])
       have HI:=Lib.hid (fun v w=>instrn_f v left w (by omega))
       have hji:(j:Int) < (R.length:Int):=by omega
       have cb0:wi.cell? ⟨bx,0,none⟩=some (.int .i64 2):=cell_of_row _ _ _ _ _ _ HPI.out.box
       rcases HN.out.next HPI.out.bel with h0 | ⟨b,o,rfl,hbl,hcc⟩
       ·rw [h0] at hjl; simp at hjl
       ·have cl:=hcc j hjl
        have hbxl:bx < wi.heap.size:=lt_of_heap HPI.out.box
        clear hcc hj hkt hn1 hleft
        generalize R.getD j 0=rq at *
        go_upto_block 5 with (fail)
        go_cut [10] (fun s10 wf=>∃ (sk2:Nat) (v2:Value) (i2:Ins),s10=.int .i64 (sk2:Int)∧sk2≤k + 1∧PS w wf p tb bx T (fun s=>if s=t then v2 else VS s)∧TS wf wq.heap.size n v2 (L ++ [i2]) sk2∧Keep (bx + 1) wq.heap.size wq wf)
        case first=>
         go_upto_region 13 with (fail)
         go_cut [13] (fun s13 wx=>∃ (gx:Nat) (i:Ins),s13=.pointer (some ⟨gx,0,none⟩)∧XAt wi wx gx i∧GI left i)
         case first=>
          go_region_with ((go_at_call 23; refine (HI.out _ _).mono ?_; rintro e w2 ⟨ik,im,im2,ir,il,iN,ia,iE,ic,rfl,hgi,hnew,hb2⟩; try (have hxo:w2.heap[wi.heap.size]?=some (.cells #[.int .i64 0,.int .i64 0,.int .i64 0,.int .i64 0,.int .i64 0,.slice none 0 0,.int .i64 0] 47 (0,0)):=(hb2.block wi.heap.size (by simp)).trans (heap_alloc_new _ _); have x0:=cell_of_row w2 wi.heap.size 0 _ _ _ hxo; have y0:=frozen_of_row w2 wi.heap.size 0 _ _ hxo; have x1:=cell_of_row w2 wi.heap.size 1 _ _ _ hxo; have y1:=frozen_of_row w2 wi.heap.size 1 _ _ hxo; have x2:=cell_of_row w2 wi.heap.size 2 _ _ _ hxo; have y2:=frozen_of_row w2 wi.heap.size 2 _ _ hxo; have x3:=cell_of_row w2 wi.heap.size 3 _ _ _ hxo; have y3:=frozen_of_row w2 wi.heap.size 3 _ _ hxo; have x4:=cell_of_row w2 wi.heap.size 4 _ _ _ hxo; have y4:=frozen_of_row w2 wi.heap.size 4 _ _ hxo; have x5:=cell_of_row w2 wi.heap.size 5 _ _ _ hxo; have y5:=frozen_of_row w2 wi.heap.size 5 _ _ hxo; have x6:=cell_of_row w2 wi.heap.size 6 _ _ _ hxo; have y6:=frozen_of_row w2 wi.heap.size 6 _ _ hxo)))
          all_goals
           go_wp2_with fail
           go_meet
           first | (have hgd:=hxo; clear hgd; exact ⟨_,_,rfl,xat_b rfl hb2 hnew,hgi⟩) | exact ⟨_,_,rfl,xat_a hb2 hnew,hgi⟩
         case rest=>
          obtain ⟨gx,⟨ik,im,im2,ir,il,iN,ia,iE,ic⟩,rfl,hX,hgi⟩:=hcut
          obtain ⟨wx,hwx⟩:∃ x,x=wc:=⟨_,rfl⟩
          subst hwx
          have c0:wx.cell? ⟨gx,0,none⟩=some (.int .i64 ik):=cell_of_row _ _ _ _ _ _ hX.at_
          have z0:wx.frozen? ⟨gx,0,none⟩=false:=frozen_of_row wx gx 0 _ _ hX.at_
          have c1:wx.cell? ⟨gx,1,none⟩=some (.int .i64 im):=cell_of_row _ _ _ _ _ _ hX.at_
          have z1:wx.frozen? ⟨gx,1,none⟩=false:=frozen_of_row wx gx 1 _ _ hX.at_
          have c2:wx.cell? ⟨gx,2,none⟩=some (.int .i64 im2):=cell_of_row _ _ _ _ _ _ hX.at_
          have z2:wx.frozen? ⟨gx,2,none⟩=false:=frozen_of_row wx gx 2 _ _ hX.at_
          have c3:wx.cell? ⟨gx,3,none⟩=some (.int .i64 ir):=cell_of_row _ _ _ _ _ _ hX.at_
          have z3:wx.frozen? ⟨gx,3,none⟩=false:=frozen_of_row wx gx 3 _ _ hX.at_
          have c4:wx.cell? ⟨gx,4,none⟩=some (.int .i64 il):=cell_of_row _ _ _ _ _ _ hX.at_
          have z4:wx.frozen? ⟨gx,4,none⟩=false:=frozen_of_row wx gx 4 _ _ hX.at_
          have c5:wx.cell? ⟨gx,5,none⟩=some (.slice ia iE.length ic):=cell_of_row _ _ _ _ _ _ hX.at_
          have z5:wx.frozen? ⟨gx,5,none⟩=false:=frozen_of_row wx gx 5 _ _ hX.at_
          have c6:wx.cell? ⟨gx,6,none⟩=some (.int .i64 iN):=cell_of_row _ _ _ _ _ _ hX.at_
          have z6:wx.frozen? ⟨gx,6,none⟩=false:=frozen_of_row wx gx 6 _ _ hX.at_
          have HX:=Lib.hid hX
          have HGI:=Lib.hid hgi
          clear hX hgi zkt zj zn zl cl cb0 hbxl hbl
          have HCS:Hid ((ik ≠ 6∧(ik == 6)=false) ∨ ((ik == 6)=true∧ik=6∧sk + 1≤2) ∨ ((ik == 6)=true∧ik=6∧2 < sk + 1)):=Lib.hid (by
           by_cases h:ik=6
           ·rcases Nat.lt_or_ge 2 (sk + 1) with g | g
            ·exact .inr (.inr ⟨by simp [h],h,g⟩)
            ·exact .inr (.inl ⟨by simp [h],h,g⟩)
           ·exact .inl ⟨h,by simp [h]⟩)
          go_upto_if 59 with (fail)
          go_cut [10] (fun s10 wx2=>∃ (sk2:Nat) (i2:Ins),s10=.int .i64 (sk2:Int)∧sk2≤k + 1∧XAt wi wx2 gx i2∧GI left i2∧cnt6 (L ++ [i2])≤min sk2 2)
          case first=>
           rcases HCS.out with ⟨h6,q6⟩ | ⟨q6,h6,hs2⟩ | ⟨q6,h6,hs2⟩
           ·clear HCS
            have H6:=Lib.hid h6
            clear h6
            go_wp2_with fail
            go_meet
            exact ⟨sk,_,rfl,by omega,HX.out,HGI.out,by rw [cnt6_snoc,if_neg H6.out]; exact HTS.out.few⟩
           ·clear HCS
            have H6:=Lib.hid h6
            have HS2:=Lib.hid hs2
            have g2:¬ (2:Int) < (sk:Int) + 1:=by omega
            have g2d:decide ((2:Int) < (sk:Int) + 1)=false:=by simp; omega
            clear h6 hs2
            go_wp2_with fail
            go_meet
            exact ⟨sk + 1,_,by go_num,by omega,HX.out,HGI.out,by rw [cnt6_snoc,if_pos H6.out]; have:=HTS.out.few; have:=HS2.out; omega⟩
           ·clear HCS
            have HS2:=Lib.hid hs2
            have g2:(2:Int) < (sk:Int) + 1:=by omega
            have g2d:decide ((2:Int) < (sk:Int) + 1)=true:=by simp; omega
            clear h6 hs2
            go_wp2_with fail
            go_meet
            exact ⟨sk + 1,_,by go_num,by omega,xat_set HX.out,gi_fence _,by rw [cnt6_snoc,if_neg (by decide)]; have:=HTS.out.few; omega⟩
          case rest=>
           obtain ⟨sk2,i2,rfl,hsk2,hX2,hgi2,hfew⟩:=hcut
           obtain ⟨wy,hwy⟩:∃ x,x=wc:=⟨_,rfl⟩
           subst hwy
           clear c0 c1 c2 c3 c4 c5 c6 z0 z1 z2 z3 z4 z5 z6 HX HGI HCS
           obtain ⟨jk,jm,jm2,jr,jl,jN,ja,jE,jc⟩:=i2
           have c0:wy.cell? ⟨gx,0,none⟩=some (.int .i64 jk):=cell_of_row _ _ _ _ _ _ hX2.at_
           have c1:wy.cell? ⟨gx,1,none⟩=some (.int .i64 jm):=cell_of_row _ _ _ _ _ _ hX2.at_
           have c2:wy.cell? ⟨gx,2,none⟩=some (.int .i64 jm2):=cell_of_row _ _ _ _ _ _ hX2.at_
           have c3:wy.cell? ⟨gx,3,none⟩=some (.int .i64 jr):=cell_of_row _ _ _ _ _ _ hX2.at_
           have c4:wy.cell? ⟨gx,4,none⟩=some (.int .i64 jl):=cell_of_row _ _ _ _ _ _ hX2.at_
           have c5:wy.cell? ⟨gx,5,none⟩=some (.slice ja jE.length jc):=cell_of_row _ _ _ _ _ _ hX2.at_
           have c6:wy.cell? ⟨gx,6,none⟩=some (.int .i64 jN):=cell_of_row _ _ _ _ _ _ hX2.at_
           have HX:=Lib.hid hX2
           have HGI:=Lib.hid hgi2
           have HFW:=Lib.hid hfew
           clear hX2 hgi2 hfew
           have HOW:Hid (World.ownsRow wy wq.heap.size 47 7 v L.length (lcells L)):=Lib.hid (own_below HTS.out.own HX.out.bel)
           obtain ⟨cs,ct1,ct2,ct3⟩:=HPI.out.thr
           have htw:tb < wi.heap.size:=lt_of_heap ct1
           have HTB:Hid ((World.heap wy)[tb]?=some (.cells cs 44 (0,0))):=Lib.hid ((HX.out.bel.block tb htw).trans ct1)
           have HCT:Hid (cs[t]?=some v):=Lib.hid (by rw [ct3 t hlt]; simp)
           have HBB:Hid ((World.heap wy)[bx]?=some (.cells #[.int .i64 2,.slice (some ⟨tb,0,none⟩) T T] 25 (0,0))):=Lib.hid ((HX.out.bel.block bx (lt_of_heap HPI.out.box)).trans HPI.out.box)
           have cbx:World.cell? wy ⟨bx,1,none⟩=some (.slice (some ⟨tb,0,none⟩) T T):=cell_of_row _ _ _ _ _ _ HBB.out
           have ctt:World.cell? wy ⟨tb,t,none⟩=some v:=(cell_of_row _ _ _ _ _ _ HTB.out).trans HCT.out
           have htbx:tb < (World.heap wy).size:=lt_of_heap HTB.out
           have hgxx:gx < (World.heap wy).size:=lt_of_heap HX.out.at_
           have hbxx:bx < (World.heap wy).size:=lt_of_heap HBB.out
           have hmq:=HTS.out.size
           have HLT:Hid (p < tb∧tb < bx∧bx < wq.heap.size):=Lib.hid ⟨by have:=HORD.out; omega,by have:=HORD.out; omega,HF.out.1⟩
           have hszx:wi.heap.size≤(World.heap wy).size:=HX.out.bel.size
           have HFT:Hid (some tb ≠ v.ownBlock):=Lib.hid (own_far HTS.out.own (by have:=HLT.out; omega))
           have HFB:Hid (some bx ≠ v.ownBlock):=Lib.hid (own_far HTS.out.own (by have:=HLT.out; omega))
           have hLk100:L.length≤100:=by have:=HLK.out; omega
           clear ct1 ct2 ct3
           go_upto_region 18 with (fail)
           go_region_law ((refine step_append_lies _ (by rfl) _ _ _ (by rfl) wq.heap.size 47 i0 _ 7 72 Try.underlying44 hi hz0 hz1 hz2 rfl (by omega) v L.length (lcells L) (by rfl) (by first | exact HOW.out.alloc _ | exact (HOW.out.alloc _).drew | exact HOW.out.drew.alloc _) ⟨(World.heap wy).size,0,none⟩ 1 1 (inscells ⟨jk,jm,jm2,jr,jl,jN,ja,jE,jc⟩) (by rfl) (by rfl) (World.news_of_block (cs:=(inscells ⟨jk,jm,jm2,jr,jl,jN,ja,jE,jc⟩).toArray) (t:=47) (fr:=(0,0)) (heap_alloc_new wy _)) (inscells_one _) (by omega) (by unfold maxLen; omega) (by omega) (by simp; omega) ((World.heap wy).size + 1) (by simp) ?_; intro gg gcap wz hown1 hgrow1 hat1 hlt1; have htz:(World.heap wz)[tb]?=some (.cells cs 44 (0,0)):=(hgrow1.block tb (by simp; omega) HFT.out).trans ((alloc_old wy _ tb (by omega)).trans HTB.out); have ctz:=(cell_of_row wz tb t _ _ _ htz).trans HCT.out; have ftz:=frozen_of_row wz tb t _ _ htz; have hbz:=(hgrow1.block bx (by simp; omega) HFB.out).trans ((alloc_old wy _ bx (by omega)).trans HBB.out); have cbz:World.cell? wz ⟨bx,1,none⟩=some (.slice (some ⟨tb,0,none⟩) T T):=cell_of_row _ _ _ _ _ _ hbz))
           all_goals
            go_wp2_with fail
            go_meet
            exact ⟨sk2,_,_,rfl,hsk2,ts_step HLT.out (by have:=HORD.out; omega) HPI.out HTS.out HKP.out HX.out.bel HX.out.tok (by rw [HLK.out,← HLE.out]; exact HGI.out) HFW.out (by first | exact ((Below.refl _ _).alloc (Nat.le_refl _) _).drew | exact (Below.refl _ _).drew.alloc (Nat.le_refl _) _) hown1 hgrow1 rfl hlt⟩
        case rest=>
         obtain ⟨sk2,v2,i2,rfl,hsk2,r1,r2,r3⟩:=hcut
         have R1:=Lib.hid r1
         have R2:=Lib.hid r2
         have R3:=Lib.hid r3
         clear r1 r2 r3 zkt zj zn zl cl cb0 hbxl hbl
         go_wp2_with fail
         go_roundw
         case rel=>
          first
          | exact ⟨k + 1,sk2,L ++ [i2],v2,hkl,by rw [List.length_append,HLK.out]; rfl,hsk2,rfl,by go_num,R1.out,R2.out,R3.out⟩
          | exact ⟨⟨k + 1,sk2,L ++ [i2],v2,hkl,by rw [List.length_append,HLK.out]; rfl,hsk2,rfl,by go_num,R1.out,R2.out,R3.out⟩,rfl⟩
         case measure=>simp [intOf]; omega
      ·have f1:decide ((k:Int) < (n:Int))=false:=by simp; omega
       have f1i:¬ (k:Int) < (n:Int):=by omega
       have HO:Hid (∃ P',PS w wi p tb bx T (fun s=>if s < t + 1 then (P' s).v else .slice none 0 0)∧OutF wi bx T most R.length (t + 1) P'):=Lib.hid (out_step HVE.out HF.out HPI.out HTS.out HKP.out (by have:=HLK.out; omega) hnm HNL.out)
       obtain ⟨P2,ho1,ho2⟩:=HO.out
       have H1:=Lib.hid ho1
       have H2:=Lib.hid ho2
       clear ho1 ho2 HO HPI HTS HKP HLK HVE HF
       go_wp2_with fail
       go_roundw
       case rel=>exact ⟨t + 1,P2,hlt,by go_num,H1.out,H2.out⟩
       case measure=>simp [intOf]; omega
  ·have hd1:decide ((t:Int) < (T:Int))=false:=by simp; omega
   have hdi:¬ (t:Int) < (T:Int):=by omega
   have htT:t=T:=by omega
   have HT2:Hid (t=T):=Lib.hid htT
   have cb0:wo.cell? ⟨bx,0,none⟩=some (.int .i64 2):=cell_of_row _ _ _ _ _ _ HPW.out.box
   have cb1:wo.cell? ⟨bx,1,none⟩=some (.slice (some ⟨tb,0,none⟩) T T):=cell_of_row _ _ _ _ _ _ HPW.out.box
   have cp0:wo.cell? ⟨p,0,none⟩=some (.int .i64 0):=cell_of_row _ _ _ _ _ _ HPW.out.res
   have cp1:wo.cell? ⟨p,1,none⟩=some (.slice none 0 0):=cell_of_row _ _ _ _ _ _ HPW.out.res
   have fp0:wo.frozen? ⟨p,0,none⟩=false:=frozen_of_row wo p 0 _ _ HPW.out.res
   have fp1:wo.frozen? ⟨p,1,none⟩=false:=frozen_of_row wo p 1 _ _ HPW.out.res
   clear htT
   go_wp2_with fail
   refine bodyPost_ret (v:=.agg #[.int .i64 2,.slice (some ⟨tb,0,none⟩) T T]) ?_ rfl ⟨tb,rfl,(List.range T).map P,prog_end HORD.out (by have:=HPW.out; rw [HT2.out] at this; exact this) (by have:=HF.out; rw [HT2.out] at this; exact this) rfl⟩
   exact results_cell_row rfl _ _ p 25 #[.int .i64 2,.slice (some ⟨tb,0,none⟩) T T] (0,0) _ rfl (set2_at wo p 25 _ _ _ _ HPW.out.res) Try.underlying25 rfl (by kernel_rfl)
end Go.Proofs.Yteghpophcnehgaa
