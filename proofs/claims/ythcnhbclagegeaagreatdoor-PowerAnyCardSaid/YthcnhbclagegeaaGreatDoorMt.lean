/-
  What the functions that the law reaches do, one by one: contracts. Conditions: those that each of them prints.
-/
import Derived.Test.YthcnhbclagegeaaGreatDoorMr
import Derived.Test.YthcnhbclagegeaaGreatDoorMs
import Derived.Deep.RegionHeld3
import Derived.Test.YthcnhbclagegeaaGreatDoorMq
set_option maxRecDepth 20000
set_option maxHeartbeats 8000000
namespace Go.Proofs.YthcnhbclagegeaaGreatDoor
open Go.RowKit RelA
section
attribute [local go_sem ↓] Go.wp_at_zero Go.wp_at_succ
namespace RelA
def Zka (f:Nat->Bool):Array Value:=((List.range 40).map fun i=>Value.bool (f i)).toArray
def BAt (w:World) (c:Nat) (f:Nat->Bool):Prop:=w.heap[c]?=some (.cells (Zka f) 73 (0,0))
theorem Ztx (f:Nat->Bool) (i:Nat) (hi:i<40):(Zka f)[i]?=some (.bool (f i)):=by
 unfold Zka;simp[hi]
theorem BAt.ci {w:World} {c:Nat} {f:Nat->Bool} (h:BAt w c f) (i:Nat) (hi:i<40):w.cell? ⟨c,i,none⟩=some (.bool (f i)):=by
 rw[cell_of_row w c _ _ _ _ h];exact Ztx f i hi
theorem BAt.lt {w:World} {c:Nat} {f:Nat->Bool} (h:BAt w c f):c<w.heap.size:=block_lt_of_cell (h.ci 0 (by omega))
theorem BAt.next {w w':World} {c:Nat} {f:Nat->Bool} (h:BAt w c f) (hb:Below w.heap.size w w'):BAt w' c f:=by
 unfold BAt;rw[hb.block c h.lt];exact h
theorem BAt.frozen {w:World} {c:Nat} {f:Nat->Bool} (h:BAt w c f) (j:Nat):w.frozen? ⟨c,j,none⟩=false:=frozen_of_row w c j _ _ h
def Yhx (f:Nat->Bool) (a:Nat) (v:Bool):Nat->Bool:=fun i=>if i=a then v else f i
theorem Ztw (f:Nat->Bool) (a:Nat) (v:Bool):(Zka f).setIfInBounds a (.bool v)=Zka (Yhx f a v):=by
 apply Array.ext'
 rw[Array.toList_setIfInBounds]
 unfold Zka
 apply List.ext_getElem?
 intro k
 rw[List.getElem?_set]
 by_cases e:a=k
 ·subst e
  by_cases hk:a<40
  ·simp[hk,Yhx]
  ·simp[hk]
 ·have e':¬ k=a:=fun x=>e x.symm
  rw[if_neg e]
  by_cases hk:k<40
  ·simp[hk,Yhx,e']
  ·simp[hk]
theorem BAt.set {w:World} {c:Nat} {f:Nat->Bool} (h:BAt w c f) (a:Nat) (v:Bool):BAt (w.setCell ⟨c,a,none⟩ (.bool v)) c (Yhx f a v):=by
 unfold BAt
 rw[heap_setCell_same w c a (Zka f) 73 _ h,Ztw f a v]
def Zkz (L:List Int):Nat->Nat->Bool
 | 0,_=>false
 | k+1,i=>Zkz L k i||decide (L.getD k 0=i)
theorem Zrk (L:List Int) (i k:Nat):Zkz L k i=true↔∃ j,j<k/\L.getD j 0=i:=by
 induction k with
 | zero=>exact⟨fun h=>(by cases h),fun ⟨j,h,_⟩=>(by omega)⟩
 | succ k ih=>
  show(Zkz L k i||decide (L.getD k 0=i))=true↔_
  rw[Bool.or_eq_true,ih,decide_eq_true_eq]
  constructor
  ·rintro(⟨j,h,e⟩ | e)
   ·exact⟨j,by omega,e⟩
   ·exact⟨k,by omega,e⟩
  ·rintro⟨j,h,e⟩
   by_cases c:j=k
   ·subst c;exact .inr e
   ·exact .inl ⟨j,by omega,e⟩
theorem Zs3 (L:List Int) (k m:Nat) (e:L.getD k 0=m):Yhx (Zkz L k) m true=Zkz L (k+1):=by
 funext i
 show(if i=m then true else Zkz L k i)=(Zkz L k i||decide (L.getD k 0=i))
 rw[e]
 by_cases c:i=m
 ·subst c;simp
 ·rw[if_neg c,decide_eq_false (show ¬ ((m:Nat):Int)=i by omega),Bool.or_false]
def Zpp (g:Gr):Prop:=(g.C.length:Int)=g.locs/\∀ t,t<g.C.length->CoOk g.E t (g.C.getD t Ls.zero).L
end RelA
end
section
attribute [local go_sem ↓] Go.wp_at_zero Go.wp_at_succ
theorem Xbt (g:Gr) (w:World) (hes:EsIn w g.ea g.E) (hco:LsIn w g.ca g.C) (he:g.E.length<=40) (hc9:g.C.length<=10) (hl:∀ q,q<g.C.length->(g.C.getD q Ls.zero).L.length<=100)
  (hpos:(g.C.length:Int)=g.locs->∀ t:Nat,t<g.C.length->0<Zix g.E t g.E.length) :
  Calls Tryz.prog 171 #[g.v] w (Exact (Zpp g) w):=by
 have HWR:=jh (fun loc w'=>Zmu g loc w')
 have HH:=jh (fun i lb loc w' (hb:Below w.heap.size w w')=>Zq8 g.ea g.E g.ec i lb loc w' (hes.next hb) (by omega))
 have HCN:=jh (fun lb (t:Nat) w' (hb:Below w.heap.size w w') (hk:w'.cell? ⟨lb,0,none⟩=some (.int .i64 t))=>Ybw g.ea g.E g.ec lb t w' (hes.next hb) (by omega) hk)
 have HK:Hid ((g.C.length:Int)=g.locs->(∀ t,t<g.C.length->CoOk g.E t (g.C.getD t Ls.zero).L)->Zpp g):=jh (fun a b=>⟨a,b⟩)
 have HNL:Hid (¬ (g.C.length:Int)=g.locs->¬ Zpp g):=jh (fun a h=>a h.1)
 have HNC:Hid (∀ t,t<g.C.length->¬ CoOk g.E t (g.C.getD t Ls.zero).L->¬ Zpp g):=jh (fun t ht a h=>a (h.2 t ht))
 obtain⟨K,hK⟩:∃ K,K=Zpp g:=⟨_,rfl⟩
 rw[<- hK] at HK HNL HNC ⊢
 clear hK
 have HPO:=jh hpos
 have HLL:=jh hl
 have HCO:=jh hco
 clear hpos hl hco
 have HG0:=jh (GBox.of_alloc w g 27)
 obtain⟨G,hG⟩:∃ G,G=g:=⟨_,rfl⟩
 obtain⟨locs,ea,E,ec,ra,R,rc,ca,C,cc,ma,Rmw,mc,da,Data,dc,ta,Ctrl,tc,ia,CtrlI,ic⟩:=g
 simp only[Gr.v,Zaw] at hes he hc9 HWR HH HCN HK HNL HNC HPO HLL HCO HG0 ⊢
 rw[<- hG] at HG0
 clear hes
 have c0:=HG0.out.c0
 have c3:=HG0.out.c3
 rw[hG] at c0 c3
 dsimp only at c0 c3
 by_cases e0:¬ (C.length:Int)=locs
 ·have l0:((C.length:Int)!=locs)=true:=by simp[e0]
  have HNO:=jh (HNL.out e0)
  have HB:Hid (∀ o,Below w.heap.size w (w.alloc o)):=jh (fun o=>(Below.refl _ _).alloc (Nat.le_refl _) o)
  go_enter Tryz.func171,Tryz.ntmps171
  go_wp2_with fail
  go_ret
  exact Exact.no (HB.out _) HNO.out
 have e0:=Classical.not_not.1 e0
 have l0:((C.length:Int)!=locs)=false:=by simp[e0]
 have HLEN:=jh e0
 clear e0
 go_enter Tryz.func171,Tryz.ntmps171
 go_wp2_with fail
 obtain⟨w1,hw1⟩:∃ x,x=w.alloc (Obj.cells #[.int .i64 locs,.slice ea E.length ec,.slice ra R.length rc,.slice ca C.length cc,.slice ma Rmw.length mc,.slice da Data.length dc,.slice ta Ctrl.length tc,.slice ia CtrlI.length ic] 27 (0,0)):=⟨_,rfl⟩
 rw[<- hw1] at HG0 ⊢
 have HB1:Hid (Below w.heap.size w w1):=jh (by rw[hw1];exact jb)
 clear hw1
 clear c0 c3 l0
 have HC1:=jh (HCO.out.next HB1.out)
 clear HCO
 go_loopw [18] (fun v wr=>Below w1.heap.size w1 wr/\∃ t:Nat,t<=C.length/\v=.int .i64 t/\Hid (∀ j,j<t->CoOk E j (C.getD j Ls.zero).L)) (fun v _=>C.length-(intOf v).toNat)
 case atStart=>exact⟨Below.refl _ _,0,by omega,rfl,jh (fun j _=>by omega)⟩
 case round=>
  obtain⟨hbe,t,ht,rfl,HD⟩:=hrel
  by_cases htl:t<C.length
  ·have hdt:decide ((t:Int)<(C.length:Int))=true:=by simp;omega
   have hti:(t:Int)<(C.length:Int):=by omega
   have ht9:(t:Int)<1000:=by omega
   have HS:Hid (CoOk E t (C.getD t Ls.zero).L->∀ j,j<t+1->CoOk E j (C.getD j Ls.zero).L):=jh (fun hx j b=>by
    rcases Nat.lt_succ_iff_lt_or_eq.1 b with e | rfl
    ·exact HD.out j e
    ·exact hx)
   have HN:=jh (HNC.out t htl)
   have hpos:=HPO.out HLEN.out t htl
   have hl1:=HLL.out t htl
   rcases HC1.out.next hbe with h0 | ⟨cb,cx,rfl,hcbl,hccc⟩
   ·rw[h0] at htl;simp at htl
   obtain⟨s0,sN,sC⟩:=hccc t htl
   have HBE:=jh hbe
   clear hccc hcbl HD hbe
   generalize C.getD t Ls.zero=l at *
   obtain⟨la,L,lc⟩:=l
   dsimp only at s0 sN sC hl1 HS HN
   have HSN:=jh sN
   clear sN sC
   have HCW:=jh (Yg7 E t E.length)
   have HMK:Hid ((∀ j,j<L.length->∃ m:Nat,L.getD j 0=m/\m<E.length/\(Ev.at E m).kd=2/\(Ev.at E m).lc=t)->(∀ j,j<L.length->∀ q,q<j->L.getD q 0≠L.getD j 0)->L.length=Zix E t E.length->L.getD 0 0=t->CoOk E t L):=jh (fun a b c d=>⟨a,b,c,by rw[c];exact hpos,d⟩)
   have HNA:Hid (¬ L.length=Zix E t E.length->¬ CoOk E t L):=jh (fun a h=>a h.len)
   have HNB:Hid (¬ L.getD 0 0=t->¬ CoOk E t L):=jh (fun a h=>a h.fst)
   have HNE:Hid (∀ i,i<L.length->Zgm E (Zh6 t) (L.getD i 0)=false->¬ CoOk E t L):=jh (fun i hi a h=>by
    obtain⟨m,e,hm,k2,l2⟩:=h.at_ i hi
    rw[e,Zbv hm] at a
    unfold Zh6 at a
    rw[k2,l2] at a
    simp at a)
   have HNF:Hid (∀ i,i<L.length->(∃ j,j<i/\L.getD j 0=L.getD i 0)->¬ CoOk E t L):=jh (fun i hi a h=>by
    obtain⟨j,hj,e⟩:=a
    exact h.ne i hi j hj e)
   have hcl:=Zmr E t E.length
   generalize CoOk E t L=T at *
   obtain⟨N,hN⟩:∃ N,N=Zix E t E.length:=⟨_,rfl⟩
   rw[<- hN] at HCW HMK HNA hpos hcl
   clear hN
   have hN9:(N:Int)<1000:=by omega
   obtain⟨c0,c1,c2,c3,c4,c5,c6,c7⟩:=HG0.out.next HBE.out
   rw[hG] at c0 c1 c2 c3 c4 c5 c6 c7
   dsimp only at c0 c1 c2 c3 c4 c5 c6 c7
   go_wp2_with fail
   refine(HWR.out _ _).mono ?_
   rintro e w2 ⟨lb,rfl,hlb,hb2⟩
   have HB2:=jh (Zab HBE.out hb2)
   have HR2:=jh hb2
   have HLB:=jh (Zaa hlb ((Below.refl _ _).alloc (Nat.le_refl _) (Obj.cells #[.slice ea E.length ec,.func (.func 203) #[] #[.pointer (some ⟨lb,0,none⟩)]] 102 (0,0))))
   clear c0 c1 c2 c3 c4 c5 c6 c7 s0 hlb hb2
   have f0:(w2.alloc (Obj.cells #[.slice ea E.length ec,.func (.func 203) #[] #[.pointer (some ⟨lb,0,none⟩)]] 102 (0,0))).cell? ⟨w2.heap.size,0,none⟩=some (.slice ea E.length ec):=by rw[cell_of_row _ _ _ _ _ _ (heap_alloc_new _ _)];rfl
   have f1:(w2.alloc (Obj.cells #[.slice ea E.length ec,.func (.func 203) #[] #[.pointer (some ⟨lb,0,none⟩)]] 102 (0,0))).cell? ⟨w2.heap.size,1,none⟩=some (.func (.func 203) #[] #[.pointer (some ⟨lb,0,none⟩)]):=by rw[cell_of_row _ _ _ _ _ _ (heap_alloc_new _ _)];rfl
   have HB3:=jh (Zab HB2.out ((Below.refl _ _).alloc (Nat.le_refl _) (Obj.cells #[.slice ea E.length ec,.func (.func 203) #[] #[.pointer (some ⟨lb,0,none⟩)]] 102 (0,0))))
   have F0:=jh f0
   have F1:=jh f1
   go_wp2_with fail
   refine(HCN.out _ _ _ (Zab HB1.out HB3.out) HLB.out).mono ?_
   rintro e W3 ⟨rfl,hb3⟩
   rw[HCW.out]
   have HB4:=jh (Zab HB3.out hb3)
   have HR4:=jh (Zab (Zab HR2.out jb) hb3)
   have HG0z:=jh (Zaa F0.out hb3)
   have HG1z:=jh (Zaa F1.out hb3)
   have HLZ:=jh (Zaa HLB.out hb3)
   clear f0 f1 F0 F1 hb3 HLB HB3 HB2
   by_cases q0:¬ L.length=N
   ·have m0:((L.length:Int)!=(N:Int))=true:=by simp;omega
    have HNO:=jh (HN.out (HNA.out q0))
    go_wp2_with fail
    go_ret
    exact Exact.no (Zab HB1.out HB4.out) HNO.out
   have q0:=Classical.not_not.1 q0
   have m0:((L.length:Int)!=(N:Int))=false:=by simp;omega
   have hl0:0<L.length:=by omega
   have hl0i:(0:Int)<(L.length:Int):=by omega
   rcases HSN.out.next HR4.out with h0 | ⟨lb2,lo,rfl,hlbl,hlcc⟩
   ·rw[h0] at hl0;simp at hl0
   have r0:=hlcc 0 hl0
   rw[Nat.add_zero] at r0
   have HLC:=jh hlcc
   clear hlcc hlbl HSN HR2 HR4 HNA
   by_cases q1:L.getD 0 0=t
   rotate_left
   ·have m1:(L.getD 0 0 !=(t:Int))=true:=bne_iff_ne.2 q1
    have HNO:=jh (HN.out (HNB.out q1))
    clear HNB HMK HNE HNF HLC HS HN q1
    generalize L.getD 0 0=z at *
    go_wp2_with fail
    go_ret
    exact Exact.no (Zab HB1.out HB4.out) HNO.out
   have m1:((t:Int)!=(t:Int))=false:=by simp
   rw[q1] at r0
   have HTT:=jh (fun a b=>HMK.out a b q0 q1)
   clear q1 HNB HMK
   go_wp2_with fail
   clear r0 m0 m1
   go_loopw [40] (fun v wi=>Below W3.heap.size W3 wi/\∃ i:Nat,i<=L.length/\v=.int .i64 i/\BAt wi W3.heap.size (Zkz L i)/\Hid ((∀ j,j<i->∃ m:Nat,L.getD j 0=m/\m<E.length/\(Ev.at E m).kd=2/\(Ev.at E m).lc=t)/\(∀ j,j<i->∀ q,q<j->L.getD q 0≠L.getD j 0))) (fun v _=>L.length-(intOf v).toNat)
   case atStart=>exact⟨jb,0,by omega,rfl,(by unfold BAt;exact heap_alloc_new _ _),jh ⟨fun j a=>by omega,fun j a=>by omega⟩⟩
   case round=>
    obtain⟨hbi,i,hi,rfl,hat,HD⟩:=hrel
    by_cases hil:i<L.length
    ·have hdi:decide ((i:Int)<(L.length:Int))=true:=by simp;omega
     have hii:(i:Int)<(L.length:Int):=by omega
     have hi9:(i:Int)<1000:=by omega
     have r0:=Zaa (HLC.out i hil) hbi
     have f0:=Zaa HG0z.out hbi
     have f1:=Zaa HG1z.out hbi
     have HBI:=jh hbi
     have HB5:=jh (Zab HB4.out hbi)
     have HHX:=jh (HH.out (L.getD i 0) lb t _ (Zab HB1.out HB5.out) (Zaa HLZ.out hbi))
     have HAT:=jh hat
     have HSB:=jh (fun m=>Zs3 L i m)
     have HSA:=jh (fun m=>(Zrk L m i).1)
     have HSN:Hid (∀ m:Nat,Zkz L i m=false->∀ j,j<i->L.getD j 0≠(m:Int)):=jh (fun m h j hj e=>by
      rw[(Zrk L m i).2 ⟨j,hj,e⟩] at h
      cases h)
     have HNEi:=jh (HNE.out i hil)
     have HNFi:=jh (HNF.out i hil)
     have HDN:Hid ((∃ m:Nat,L.getD i 0=m/\m<E.length/\(Ev.at E m).kd=2/\(Ev.at E m).lc=t)->(∀ q,q<i->L.getD q 0≠L.getD i 0)->(∀ j,j<i+1->∃ m:Nat,L.getD j 0=m/\m<E.length/\(Ev.at E m).kd=2/\(Ev.at E m).lc=t)/\(∀ j,j<i+1->∀ q,q<j->L.getD q 0≠L.getD j 0)):=jh (fun a b=>⟨fun j h=>by
      rcases Nat.lt_succ_iff_lt_or_eq.1 h with e | rfl
      ·exact HD.out.1 j e
      ·exact a,fun j h=>by
      rcases Nat.lt_succ_iff_lt_or_eq.1 h with e | rfl
      ·exact HD.out.2 j e
      ·exact b⟩)
     clear hat HD hbi
     obtain⟨r,hr⟩:∃ r,r=L.getD i 0:=⟨_,rfl⟩
     rw[<- hr] at r0 HHX HSB HNEi HNFi HDN
     clear hr
     cases hh:Zgm E (Zh6 t) r
     ·have HNO:=jh (HN.out (HNEi.out hh))
      rw[hh] at HHX
      clear hh HNEi HNFi HDN HSB HSA HSN
      go_wp2_with fail
      refine HHX.out.mono ?_
      rintro e w5 ⟨rfl,hb5⟩
      have HB6:=jh (Zab HB5.out hb5)
      clear hb5 r0 f0 f1
      go_wp2_with fail
      go_ret
      exact Exact.no (Zab HB1.out HB6.out) HNO.out
     ·rw[hh] at HHX
      have hx0:0<=r:=Classical.byContradiction fun hx=>by rw[Zd8 hx] at hh;cases hh
      obtain⟨m,rfl⟩:=Int.eq_ofNat_of_zero_le hx0
      have hm:m<E.length:=Classical.byContradiction fun hx=>by rw[Zdf hx] at hh;cases hh
      rw[Zbv hm] at hh
      unfold Zh6 at hh
      rw[Bool.and_eq_true,beq_iff_eq,beq_iff_eq] at hh
      have HEM:=jh (fun b=>HDN.out ⟨m,rfl,hm,hh.1,hh.2⟩ b)
      clear hh hx0 HNEi HDN
      have hm40:(m:Int)<40:=by omega
      go_wp2_with fail
      refine HHX.out.mono ?_
      rintro e w5 ⟨rfl,hb5⟩
      have HB6:=jh (Zab HB5.out hb5)
      have HI5:=jh (Zab HBI.out hb5)
      have hat5:=HAT.out.next hb5
      have hc:=hat5.ci m (by omega)
      have hfz:=hat5.frozen m
      have HNX:=jh (hat5.set m true)
      rw[HSB.out m rfl] at HNX
      clear hb5 r0 f0 f1 hat5 HB5 HBI HAT HSB
      cases hs:Zkz L i m
      ·have HL:=jh (HEM.out (HSN.out m hs))
       rw[hs] at hc
       clear hs HSA HSN HEM
       go_wp2_with fail
       go_roundw
       case rel=>exact⟨HI5.out.setCell (Nat.le_refl _) _,i+1,by omega,by go_num,HNX.out,HL⟩
       case measure=>simp[intOf];omega
      ·have HNO:=jh (HN.out (HNFi.out (HSA.out m hs)))
       rw[hs] at hc
       clear hs HSA HSN HEM HNX
       go_wp2_with fail
       go_ret
       exact Exact.no (Zab HB1.out HB6.out) HNO.out
    ·have hdi:decide ((i:Int)<(L.length:Int))=false:=by simp;omega
     have HL:=jh (HS.out (HTT.out (fun j h=>HD.out.1 j (by omega)) (fun j h=>HD.out.2 j (by omega))))
     have HBE2:=jh (Zab HB4.out hbi)
     clear hat HD hbi
     go_wp2_with fail
     go_roundw
     case rel=>exact⟨HBE2.out,t+1,by omega,by go_num,HL⟩
     case measure=>simp[intOf];omega
  ·have hdt:decide ((t:Int)<(C.length:Int))=false:=by simp;omega
   have HL:=jh (HK.out HLEN.out (fun j a=>HD.out j (by omega)))
   have HB:=jh (Zab HB1.out hbe)
   clear hbe
   go_wp2_with fail
   go_ret
   exact Exact.yes HB.out HL.out
end
section
attribute [local go_sem ↓] Go.wp_at_zero Go.wp_at_succ
attribute [local irreducible] wpO Go.wpAnyH
namespace RelA
theorem Zzn {E:List Ev} {L:List (Int×Int)} (k:Nat) (hk:k<L.length) (h:¬ Zd0 E (L.getD k (0,0))):¬ RmwsOk E L:=fun x=>h (x.at_ k hk)
end RelA
theorem Ypu (g:Gr) (w:World) (hes:EsIn w g.ea g.E) (he:g.E.length<=40) (h:PIn w g.ma g.Rmw g.mc) (hl:g.Rmw.length<=400) :
  Calls Tryz.prog 172 #[g.v] w (Exact (RmwsOk g.E g.Rmw) w):=by
 have HRI:=jh (fun w' (hb:Below w.heap.size w w')=>Zrp g.ma g.Rmw g.mc w' (h.next hb) hl)
 have HRD:=jh (fun w'=>Zvy g w')
 have HWR:=jh (fun loc w'=>Zmu g loc w')
 have HHR:=jh (fun i w' (hb:Below w.heap.size w w')=>Ydm g.ea g.E g.ec i w' (hes.next hb) (by omega))
 have HHW:=jh (fun i lb loc w' (hb:Below w.heap.size w w')=>Zq8 g.ea g.E g.ec i lb loc w' (hes.next hb) (by omega))
 have HCN:=jh (fun w' (hb:Below w.heap.size w w')=>Ybv g.ea g.E g.ec w' (hes.next hb) (by omega))
 have HG0:=jh (GBox.of_alloc w g 27)
 obtain⟨G,hG⟩:∃ G,G=g:=⟨_,rfl⟩
 obtain⟨locs,ea,E,ec,ra,R,rc,ca,C,cc,ma,Rmw,mc,da,Data,dc,ta,Ctrl,tc,ia,CtrlI,ic⟩:=g
 simp only[Gr.v,Zaw] at hes he h hl HRI HRD HWR HHR HHW HCN HG0 ⊢
 rw[<- hG] at HG0
 have HI:=jh h
 have HES:=jh hes
 clear h hes
 go_enter Tryz.func172,Tryz.ntmps172
 go_wp2_with fail
 obtain⟨w1,hw1⟩:∃ x,x=w.alloc (Obj.cells #[.int .i64 locs,.slice ea E.length ec,.slice ra R.length rc,.slice ca C.length cc,.slice ma Rmw.length mc,.slice da Data.length dc,.slice ta Ctrl.length tc,.slice ia CtrlI.length ic] 27 (0,0)):=⟨_,rfl⟩
 rw[<- hw1] at HG0 ⊢
 have HB1:Hid (Below w.heap.size w w1):=jh (by rw[hw1];exact jb)
 clear hw1
 have HI1:=jh (HI.out.next HB1.out)
 have HE1:=jh (HES.out.next HB1.out)
 clear HI HES
 refine(HRI.out _ HB1.out).mono ?_
 rintro e w2 ⟨x,rfl,hx,hb2⟩
 have HX:=jh hx
 have HB2:=jh hb2
 have HB2w:=jh (Zab HB1.out hb2)
 obtain⟨c0,c1,c2,c3,c4,c5,c6,c7⟩:=HG0.out.next hb2
 rw[hG] at c0 c1 c2 c3 c4 c5 c6 c7
 dsimp only at c0 c1 c2 c3 c4 c5 c6 c7
 clear hx hb2
 cases x
 ·have HNO:Hid (¬ RmwsOk E Rmw):=jh (fun h=>by have:=HX.out.2 h.up;cases this)
  go_wp2_with fail
  go_ret
  exact Exact.no HB2w.out HNO.out
 have HUP:=jh (HX.out.1 rfl)
 clear HX
 go_wp2_with fail
 clear c0 c1 c2 c3 c4 c5 c6 c7
 go_loopw [15] (fun v wr=>Below w1.heap.size w1 wr/\∃ k:Nat,k<=Rmw.length/\v=.int .i64 k/\Hid (∀ j,j<k->Zd0 E (Rmw.getD j (0,0)))) (fun v _=>Rmw.length-(intOf v).toNat)
 case atStart=>exact⟨HB2.out,0,by omega,rfl,jh (fun j _=>by omega)⟩
 case round=>
  obtain⟨hbe,k,hk,rfl,HD⟩:=hrel
  clear HB2 HB2w
  by_cases hlt:k<Rmw.length
  ·have hdk:decide ((k:Int)<(Rmw.length:Int))=true:=by simp;omega
   have hki:(k:Int)<(Rmw.length:Int):=by omega
   have hk9:(k:Int)<1000:=by omega
   have HS:Hid (Zd0 E (Rmw.getD k (0,0))->∀ j,j<k+1->Zd0 E (Rmw.getD j (0,0))):=jh (fun hx j b=>by
    rcases Nat.lt_succ_iff_lt_or_eq.1 b with e | rfl
    ·exact HD.out j e
    ·exact hx)
   have HN:Hid (¬ Zd0 E (Rmw.getD k (0,0))->¬ RmwsOk E Rmw):=jh (fun hx=>Zzn k hlt hx)
   rcases HI1.out.next hbe with⟨_,h0,_⟩ | ⟨_,_,h0⟩ | ⟨b,o,rfl,hbl,hcc⟩
   ·rw[h0] at hlt;simp at hlt
   ·rw[h0] at hlt;simp at hlt
   obtain⟨p0,p1⟩:=hcc k hlt
   have HBE:=jh hbe
   clear hcc HD hbl hbe
   generalize Rmw.getD k (0,0)=p at *
   obtain⟨x,y⟩:=p
   dsimp only at p0 p1
   have HW:Hid (∀ o,Below w1.heap.size w1 (wr.alloc o)):=jh (fun o=>Zab HBE.out ((Below.refl _ _).alloc (Nat.le_refl _) o))
   go_wp2_with fail
   obtain⟨c0,c1,c2,c3,c4,c5,c6,c7⟩:=HG0.out.next (HW.out (Obj.cells #[.int .i64 x,.int .i64 y] 56 (0,0)))
   rw[hG] at c0 c1 c2 c3 c4 c5 c6 c7
   dsimp only at c0 c1 c2 c3 c4 c5 c6 c7
   have pb0:(wr.alloc (Obj.cells #[.int .i64 x,.int .i64 y] 56 (0,0))).cell? ⟨wr.heap.size,0,none⟩=some (.int .i64 x):=by rw[cell_of_row _ _ _ _ _ _ (heap_alloc_new _ _)];rfl
   have pb1:(wr.alloc (Obj.cells #[.int .i64 x,.int .i64 y] 56 (0,0))).cell? ⟨wr.heap.size,1,none⟩=some (.int .i64 y):=by rw[cell_of_row _ _ _ _ _ _ (heap_alloc_new _ _)];rfl
   have hBl:Bl w1 (wr.alloc (Obj.cells #[.int .i64 x,.int .i64 y] 56 (0,0))):=⟨HW.out _⟩
   clear p0 p1 HBE HW
   generalize wr.alloc (Obj.cells #[.int .i64 x,.int .i64 y] 56 (0,0))=W0 at *
   have HHX:=jh (fun w' (hb:Below w1.heap.size w1 w')=>HHR.out x w' (Zab HB1.out hb))
   cases hh:Zgm E Zyb x
   ·rw[hh] at HHX
    have HNO:=jh (HN.out (by
     rintro⟨m,n,e,hnm,hn,_,k1,_⟩
     obtain⟨rfl,rfl⟩:=Prod.mk.inj e
     rw[Zbv (by omega)] at hh
     unfold Zyb at hh
     rw[k1] at hh
     exact absurd hh (by decide)))
    clear hh HS HN
    go_region_held3 (fun W=>W.cell? ⟨w.heap.size,0,none⟩=some (.int .i64 locs)/\W.cell? ⟨w.heap.size,1,none⟩=some (.slice ea E.length ec)/\W.cell? ⟨w.heap.size,2,none⟩=some (.slice ra R.length rc)/\W.cell? ⟨w.heap.size,3,none⟩=some (.slice ca C.length cc)/\W.cell? ⟨w.heap.size,4,none⟩=some (.slice (some ⟨b,o,none⟩) Rmw.length mc)/\W.cell? ⟨w.heap.size,5,none⟩=some (.slice da Data.length dc)/\W.cell? ⟨w.heap.size,6,none⟩=some (.slice ta Ctrl.length tc)/\W.cell? ⟨w.heap.size,7,none⟩=some (.slice ia CtrlI.length ic)/\W.cell? ⟨wr.heap.size,0,none⟩=some (.int .i64 x)/\W.cell? ⟨wr.heap.size,1,none⟩=some (.int .i64 y)/\Bl w1 W)
     (first | (go_split_ands; exact ⟨Zaa ‹_› hbe,Zaa ‹_› hbe,Zaa ‹_› hbe,Zaa ‹_› hbe,Zaa ‹_› hbe,Zaa ‹_› hbe,Zaa ‹_› hbe,Zaa ‹_› hbe,Zaa ‹_› hbe,Zaa ‹_› hbe,⟨Zab (Bl.out ‹_›) hbe⟩⟩) | (go_split_ands; exact ⟨Zaa ‹_› (Below.refl _ _).drew,Zaa ‹_› (Below.refl _ _).drew,Zaa ‹_› (Below.refl _ _).drew,Zaa ‹_› (Below.refl _ _).drew,Zaa ‹_› (Below.refl _ _).drew,Zaa ‹_› (Below.refl _ _).drew,Zaa ‹_› (Below.refl _ _).drew,Zaa ‹_› (Below.refl _ _).drew,Zaa ‹_› (Below.refl _ _).drew,Zaa ‹_› (Below.refl _ _).drew,⟨(Bl.out ‹_›).drew⟩⟩) | (go_split_ands; exact ⟨Zaa ‹_› jb,Zaa ‹_› jb,Zaa ‹_› jb,Zaa ‹_› jb,Zaa ‹_› jb,Zaa ‹_› jb,Zaa ‹_› jb,Zaa ‹_› jb,Zaa ‹_› jb,Zaa ‹_› jb,⟨Zab (Bl.out ‹_›) jb⟩⟩) | fail "keep")
     (first | (go_at_call 153;have hgd:=HA1;clear hgd;refine(HHX.out _ (Bl.out (by go_split_ands;assumption))).mono ?_;rintro en wn ⟨rfl,hbe⟩) | (go_at_call 194;refine(HRD.out _).mono ?_;rintro en wn ⟨rfl,hbe⟩;have HA1:=jh True.intro))
    go_split_ands
    have HB:=jh (Bl.out ‹Bl w1 _›)
    go_wp2_with fail
    go_ret
    exact Exact.no (Zab HB1.out HB.out) HNO.out
   rw[hh] at HHX
   have hx0:0<=x:=Classical.byContradiction fun hx=>by rw[Zd8 hx] at hh;cases hh
   obtain⟨m,rfl⟩:=Int.eq_ofNat_of_zero_le hx0
   have hm:m<E.length:=Classical.byContradiction fun hx=>by rw[Zdf hx] at hh;cases hh
   rw[Zbv hm] at hh
   have hk1:(Ev.at E m).kd=1:=by unfold Zyb at hh;simpa using hh
   clear hh hx0
   go_region_held3 (fun W=>W.cell? ⟨w.heap.size,0,none⟩=some (.int .i64 locs)/\W.cell? ⟨w.heap.size,1,none⟩=some (.slice ea E.length ec)/\W.cell? ⟨w.heap.size,2,none⟩=some (.slice ra R.length rc)/\W.cell? ⟨w.heap.size,3,none⟩=some (.slice ca C.length cc)/\W.cell? ⟨w.heap.size,4,none⟩=some (.slice (some ⟨b,o,none⟩) Rmw.length mc)/\W.cell? ⟨w.heap.size,5,none⟩=some (.slice da Data.length dc)/\W.cell? ⟨w.heap.size,6,none⟩=some (.slice ta Ctrl.length tc)/\W.cell? ⟨w.heap.size,7,none⟩=some (.slice ia CtrlI.length ic)/\W.cell? ⟨wr.heap.size,0,none⟩=some (.int .i64 (m:Int))/\W.cell? ⟨wr.heap.size,1,none⟩=some (.int .i64 y)/\Bl w1 W)
    (first | (go_split_ands; exact ⟨Zaa ‹_› hbe,Zaa ‹_› hbe,Zaa ‹_› hbe,Zaa ‹_› hbe,Zaa ‹_› hbe,Zaa ‹_› hbe,Zaa ‹_› hbe,Zaa ‹_› hbe,Zaa ‹_› hbe,Zaa ‹_› hbe,⟨Zab (Bl.out ‹_›) hbe⟩⟩) | (go_split_ands; exact ⟨Zaa ‹_› (Below.refl _ _).drew,Zaa ‹_› (Below.refl _ _).drew,Zaa ‹_› (Below.refl _ _).drew,Zaa ‹_› (Below.refl _ _).drew,Zaa ‹_› (Below.refl _ _).drew,Zaa ‹_› (Below.refl _ _).drew,Zaa ‹_› (Below.refl _ _).drew,Zaa ‹_› (Below.refl _ _).drew,Zaa ‹_› (Below.refl _ _).drew,Zaa ‹_› (Below.refl _ _).drew,⟨(Bl.out ‹_›).drew⟩⟩) | (go_split_ands; exact ⟨Zaa ‹_› jb,Zaa ‹_› jb,Zaa ‹_› jb,Zaa ‹_› jb,Zaa ‹_› jb,Zaa ‹_› jb,Zaa ‹_› jb,Zaa ‹_› jb,Zaa ‹_› jb,Zaa ‹_› jb,⟨Zab (Bl.out ‹_›) jb⟩⟩) | fail "keep")
    (first | (go_at_call 153;have hgd:=HA1;clear hgd;refine(HHX.out _ (Bl.out (by go_split_ands;assumption))).mono ?_;rintro en wn ⟨rfl,hbe⟩) | (go_at_call 194;refine(HRD.out _).mono ?_;rintro en wn ⟨rfl,hbe⟩;have HA1:=jh True.intro))
   go_split_ands
   have HB:=jh (Bl.out ‹Bl w1 _›)
   clear c0 c1 c2 c3 c4 c5 c6 c7 pb0 pb1 hBl HHX HA1
   have pb0:wn.cell? ⟨wr.heap.size,0,none⟩=some (.int .i64 (m:Int)):=by assumption
   have pb1:wn.cell? ⟨wr.heap.size,1,none⟩=some (.int .i64 y):=by assumption
   have HGB:Hid (GBox wn w.heap.size G):=jh (by rw[hG];exact⟨‹_›,‹_›,‹_›,‹_›,‹_›,‹_›,‹_›,‹_›⟩)
   rcases HE1.out.next HB.out with h0 | ⟨eb,eo,rfl,hebl,hecc⟩
   ·rw[h0] at hm;simp at hm
   obtain⟨d0,d1,d2,d3,d4,d5⟩:=hecc m hm
   clear hecc hebl
   change _=some (Value.int _ (Ev.at E m).th) at d0
   change _=some (Value.int _ (Ev.at E m).kd) at d1
   change _=some (Value.int _ (Ev.at E m).md) at d2
   change _=some (Value.int _ (Ev.at E m).lc) at d3
   change _=some (Value.int _ (Ev.at E m).vl) at d4
   change _=some (Value.bool (Ev.at E m).ex) at d5
   have hmi:(m:Int)<(E.length:Int):=by omega
   have HOK:Hid (∀ n:Nat,y=n->n=m+1->n<E.length->(Ev.at E m).th=(Ev.at E n).th->(Ev.at E n).kd=2->(Ev.at E m).lc=(Ev.at E n).lc->(Ev.at E m).ex=true->(Ev.at E n).ex=true->Zd0 E ((m:Int),y)):=jh (fun n a b c d e f g h=>⟨m,n,by rw[a],b,c,d,hk1,e,f,g,h⟩)
   have HNK:Hid (Zd0 E ((m:Int),y)->∃ n:Nat,y=n/\n=m+1/\n<E.length/\(Ev.at E m).th=(Ev.at E n).th/\(Ev.at E n).kd=2/\(Ev.at E m).lc=(Ev.at E n).lc/\(Ev.at E m).ex=true/\(Ev.at E n).ex=true):=jh (by
    rintro⟨m2,n,e,a,b,c,_,d,f,g,h⟩
    obtain⟨e1,e2⟩:=Prod.mk.inj e
    obtain rfl:m=m2:=by omega
    exact⟨n,e2,a,b,c,d,f,g,h⟩)
   generalize Zd0 E ((m:Int),y)=T at *
   rw[hk1] at d1
   clear hk1
   generalize Ev.at E m=ev at *
   obtain⟨x0,x1,x2,x3,x4,x5⟩:=ev
   dsimp only at d0 d1 d2 d3 d4 d5 HOK HNK
   have hw1:IntKind.i64.wrap ((m:Int)+1)=(m:Int)+1:=IntWalk.i64_in _ (by omega)
   have HW:Hid (∀ o,Below w1.heap.size w1 (wn.alloc o)):=jh (fun o=>Zab HB.out ((Below.refl _ _).alloc (Nat.le_refl _) o))
   obtain⟨c0,c1,c2,c3,c4,c5,c6,c7⟩:=HGB.out
   rw[hG] at c0 c1 c2 c3 c4 c5 c6 c7
   dsimp only at c0 c1 c2 c3 c4 c5 c6 c7
   have pz0:=Zaa pb0 ((Below.refl _ _).alloc (Nat.le_refl _) (Obj.cells #[.int .i64 x0,.int .i64 1,.int .i64 x2,.int .i64 x3,.int .i64 x4,.bool x5] 53 (0,0)))
   have pz1:=Zaa pb1 ((Below.refl _ _).alloc (Nat.le_refl _) (Obj.cells #[.int .i64 x0,.int .i64 1,.int .i64 x2,.int .i64 x3,.int .i64 x4,.bool x5] 53 (0,0)))
   go_wp2_with fail
   clear c0 c1 c2 c3 c4 c5 c6 c7 d0 d1 d2 d3 d4 d5 pb0 pb1
   obtain⟨c0,c1,c2,c3,c4,c5,c6,c7⟩:=HGB.out.next ((Below.refl _ _).alloc (Nat.le_refl _) (Obj.cells #[.int .i64 x0,.int .i64 1,.int .i64 x2,.int .i64 x3,.int .i64 x4,.bool x5] 53 (0,0)))
   rw[hG] at c0 c1 c2 c3 c4 c5 c6 c7
   dsimp only at c0 c1 c2 c3 c4 c5 c6 c7
   have rb0:(wn.alloc (Obj.cells #[.int .i64 x0,.int .i64 1,.int .i64 x2,.int .i64 x3,.int .i64 x4,.bool x5] 53 (0,0))).cell? ⟨wn.heap.size,0,none⟩=some (.int .i64 x0):=by rw[cell_of_row _ _ _ _ _ _ (heap_alloc_new _ _)];rfl
   have rb3:(wn.alloc (Obj.cells #[.int .i64 x0,.int .i64 1,.int .i64 x2,.int .i64 x3,.int .i64 x4,.bool x5] 53 (0,0))).cell? ⟨wn.heap.size,3,none⟩=some (.int .i64 x3):=by rw[cell_of_row _ _ _ _ _ _ (heap_alloc_new _ _)];rfl
   have rb5:(wn.alloc (Obj.cells #[.int .i64 x0,.int .i64 1,.int .i64 x2,.int .i64 x3,.int .i64 x4,.bool x5] 53 (0,0))).cell? ⟨wn.heap.size,5,none⟩=some (.bool x5):=by rw[cell_of_row _ _ _ _ _ _ (heap_alloc_new _ _)];rfl
   have HBW:=jh (HW.out (Obj.cells #[.int .i64 x0,.int .i64 1,.int .i64 x2,.int .i64 x3,.int .i64 x4,.bool x5] 53 (0,0)))
   clear HW HGB HB
   generalize wn.alloc (Obj.cells #[.int .i64 x0,.int .i64 1,.int .i64 x2,.int .i64 x3,.int .i64 x4,.bool x5] 53 (0,0))=W1 at *
   by_cases e3:y=(m:Int)+1
   rotate_left
   ·have l3:(y !=(m:Int)+1)=true:=bne_iff_ne.2 e3
    have HNO:=jh (HN.out (fun ht=>by obtain⟨n,a,c,_⟩:=HNK.out ht;omega))
    clear HOK HNK HS HN
    refine Zft (S:=(fun W=>W.cell? ⟨w.heap.size,0,none⟩=some (.int .i64 locs)/\W.cell? ⟨w.heap.size,1,none⟩=some (.slice (some ⟨eb,eo,none⟩) E.length ec)/\W.cell? ⟨w.heap.size,2,none⟩=some (.slice ra R.length rc)/\W.cell? ⟨w.heap.size,3,none⟩=some (.slice ca C.length cc)/\W.cell? ⟨w.heap.size,4,none⟩=some (.slice (some ⟨b,o,none⟩) Rmw.length mc)/\W.cell? ⟨w.heap.size,5,none⟩=some (.slice da Data.length dc)/\W.cell? ⟨w.heap.size,6,none⟩=some (.slice ta Ctrl.length tc)/\W.cell? ⟨w.heap.size,7,none⟩=some (.slice ia CtrlI.length ic)/\W.cell? ⟨wr.heap.size,0,none⟩=some (.int .i64 (m:Int))/\W.cell? ⟨wr.heap.size,1,none⟩=some (.int .i64 y)/\W.cell? ⟨wn.heap.size,0,none⟩=some (.int .i64 x0)/\W.cell? ⟨wn.heap.size,3,none⟩=some (.int .i64 x3)/\W.cell? ⟨wn.heap.size,5,none⟩=some (.bool x5)/\Bl w1 W)) [0,1,2,3,4,5,6,7,8,9,11,12,10,13,14,15] 16 [false,false,false,false,false,false,false,false,false,false,false,false,false,false,false,false] (by kernel_rfl) (by rfl) (by rfl) ⟨c0,c1,c2,c3,c4,c5,c6,c7,pz0,pz1,rb0,rb3,rb5,⟨HBW.out.drew⟩⟩ (fun hHeld=>?_)
    repeat (first | (refine Zcd rfl (by kernel_rfl) (by rfl) (fun _ _ _ h=>h) (by assumption) ?_;simp only[Act.put,List.getElem_toArray,List.getElem_cons_succ,List.getElem_cons_zero,List.setIfInBounds_toArray,List.set_cons_zero,List.set_cons_succ]) | (refine Zf7 rfl (by kernel_rfl) (by rfl) (fun _ _ _ _ h=>h) (by assumption) ?_;apply Exists.intro;refine⟨fun W hW=>?_,?_⟩;((try dsimp only at hW);(try simp only[List.getElem_toArray,List.getElem_cons_succ,List.getElem_cons_zero]);go_simp;first | done | with_reducible rfl);simp only[Act.put,List.getElem_toArray,List.getElem_cons_succ,List.getElem_cons_zero,List.setIfInBounds_toArray,List.set_cons_zero,List.set_cons_succ]))
    refine Zii (by kernel_rfl) ?_
    obtain⟨c0,c1,c2,c3,c4,c5,c6,c7,pz0,pz1,rb0,rb3,rb5,hBl⟩:=hHeld
    have HB:=jh hBl.out
    go_wp2_with fail
    go_ret
    exact Exact.no (Zab HB1.out HB.out) HNO.out
   obtain⟨n,rfl⟩:=Int.eq_ofNat_of_zero_le (show 0<=y by omega)
   have hnm:n=m+1:=by omega
   have l3:((n:Int)!=(m:Int)+1)=false:=by simp[e3]
   have HNM:=jh hnm
   clear e3 hnm
   have HHX:=jh (fun lb (w':World) (hb:Below w1.heap.size w1 w')=>HHW.out n lb x3 w' (Zab HB1.out hb))
   cases hh:Zgm E (Zh6 x3) n
   ·have HNO:=jh (HN.out (fun ht=>by
     obtain⟨n2,a,_,c,_,k2,l2,_⟩:=HNK.out ht
     obtain rfl:n=n2:=by omega
     rw[Zbv c] at hh
     unfold Zh6 at hh
     rw[k2,<- l2] at hh
     simp at hh))
    rw[hh] at HHX
    clear hh HOK HNK HS HN
    refine Zft (S:=(fun W=>W.cell? ⟨w.heap.size,0,none⟩=some (.int .i64 locs)/\W.cell? ⟨w.heap.size,1,none⟩=some (.slice (some ⟨eb,eo,none⟩) E.length ec)/\W.cell? ⟨w.heap.size,2,none⟩=some (.slice ra R.length rc)/\W.cell? ⟨w.heap.size,3,none⟩=some (.slice ca C.length cc)/\W.cell? ⟨w.heap.size,4,none⟩=some (.slice (some ⟨b,o,none⟩) Rmw.length mc)/\W.cell? ⟨w.heap.size,5,none⟩=some (.slice da Data.length dc)/\W.cell? ⟨w.heap.size,6,none⟩=some (.slice ta Ctrl.length tc)/\W.cell? ⟨w.heap.size,7,none⟩=some (.slice ia CtrlI.length ic)/\W.cell? ⟨wr.heap.size,0,none⟩=some (.int .i64 (m:Int))/\W.cell? ⟨wr.heap.size,1,none⟩=some (.int .i64 (n:Int))/\W.cell? ⟨wn.heap.size,0,none⟩=some (.int .i64 x0)/\W.cell? ⟨wn.heap.size,3,none⟩=some (.int .i64 x3)/\W.cell? ⟨wn.heap.size,5,none⟩=some (.bool x5)/\Bl w1 W)) [0,1,2,3,4,5,6,7,8,9,11,12,10,13,14,15] 16 [false,false,false,false,false,false,false,false,false,false,false,false,false,false,false,false] (by kernel_rfl) (by rfl) (by rfl) ⟨c0,c1,c2,c3,c4,c5,c6,c7,pz0,pz1,rb0,rb3,rb5,⟨HBW.out.drew⟩⟩ (fun hHeld=>?_)
    repeat (first | (refine Zcd rfl (by kernel_rfl) (by rfl) (fun _ _ _ h=>h) (by assumption) ?_;simp only[Act.put,List.getElem_toArray,List.getElem_cons_succ,List.getElem_cons_zero,List.setIfInBounds_toArray,List.set_cons_zero,List.set_cons_succ]) | (refine Zf7 rfl (by kernel_rfl) (by rfl) (fun _ _ _ _ h=>h) (by assumption) ?_;apply Exists.intro;refine⟨fun W hW=>?_,?_⟩;((try dsimp only at hW);(try simp only[List.getElem_toArray,List.getElem_cons_succ,List.getElem_cons_zero]);go_simp;first | done | with_reducible rfl);simp only[Act.put,List.getElem_toArray,List.getElem_cons_succ,List.getElem_cons_zero,List.setIfInBounds_toArray,List.set_cons_zero,List.set_cons_succ]))
    refine Zej rfl (by kernel_rfl) (by rfl) (fun K hK=>?_)
    try simp only[List.getElem_toArray,List.getElem_cons_succ,List.getElem_cons_zero]
    go_simp
    obtain⟨c0,c1,c2,c3,c4,c5,c6,c7,pz0,pz1,rb0,rb3,rb5,hBl⟩:=hHeld
    go_at_call 191
    refine(HWR.out _ _).mono ?_
    rintro en wq ⟨lb,rfl,hlb,hbe⟩
    dsimp only
    refine hK.out _ _ ⟨Zaa c0 hbe,Zaa c1 hbe,Zaa c2 hbe,Zaa c3 hbe,Zaa c4 hbe,Zaa c5 hbe,Zaa c6 hbe,Zaa c7 hbe,Zaa pz0 hbe,Zaa pz1 hbe,Zaa rb0 hbe,Zaa rb3 hbe,Zaa rb5 hbe,⟨Zab hBl.out hbe⟩⟩ (fun hHeld=>?_)
    clear hK K hbe c0 c1 c2 c3 c4 c5 c6 c7 pz0 pz1 rb0 rb3 rb5 hBl
    simp only[List.setIfInBounds_toArray,List.set_cons_zero,List.set_cons_succ]
    repeat (first | (refine Zcd rfl (by kernel_rfl) (by rfl) (fun _ _ _ h=>h) (by assumption) ?_;simp only[Act.put,List.getElem_toArray,List.getElem_cons_succ,List.getElem_cons_zero,List.setIfInBounds_toArray,List.set_cons_zero,List.set_cons_succ]) | (refine Zf7 rfl (by kernel_rfl) (by rfl) (fun _ _ _ _ h=>h) (by assumption) ?_;apply Exists.intro;refine⟨fun W hW=>?_,?_⟩;((try dsimp only at hW);(try simp only[List.getElem_toArray,List.getElem_cons_succ,List.getElem_cons_zero]);go_simp;first | done | with_reducible rfl);simp only[Act.put,List.getElem_toArray,List.getElem_cons_succ,List.getElem_cons_zero,List.setIfInBounds_toArray,List.set_cons_zero,List.set_cons_succ]))
    refine Zej rfl (by kernel_rfl) (by rfl) (fun K hK=>?_)
    try simp only[List.getElem_toArray,List.getElem_cons_succ,List.getElem_cons_zero]
    go_simp
    obtain⟨c0,c1,c2,c3,c4,c5,c6,c7,pz0,pz1,rb0,rb3,rb5,hBl⟩:=hHeld
    go_at_call 153
    refine(HHX.out _ _ hBl.out hlb).mono ?_
    clear hlb
    rintro en wq ⟨rfl,hbe⟩
    dsimp only
    refine hK.out _ _ ⟨Zaa c0 hbe,Zaa c1 hbe,Zaa c2 hbe,Zaa c3 hbe,Zaa c4 hbe,Zaa c5 hbe,Zaa c6 hbe,Zaa c7 hbe,Zaa pz0 hbe,Zaa pz1 hbe,Zaa rb0 hbe,Zaa rb3 hbe,Zaa rb5 hbe,⟨Zab hBl.out hbe⟩⟩ (fun hHeld=>?_)
    clear hK K hbe c0 c1 c2 c3 c4 c5 c6 c7 pz0 pz1 rb0 rb3 rb5 hBl
    simp only[List.setIfInBounds_toArray,List.set_cons_zero,List.set_cons_succ]
    repeat (first | (refine Zcd rfl (by kernel_rfl) (by rfl) (fun _ _ _ h=>h) (by assumption) ?_;simp only[Act.put,List.getElem_toArray,List.getElem_cons_succ,List.getElem_cons_zero,List.setIfInBounds_toArray,List.set_cons_zero,List.set_cons_succ]) | (refine Zf7 rfl (by kernel_rfl) (by rfl) (fun _ _ _ _ h=>h) (by assumption) ?_;apply Exists.intro;refine⟨fun W hW=>?_,?_⟩;((try dsimp only at hW);(try simp only[List.getElem_toArray,List.getElem_cons_succ,List.getElem_cons_zero]);go_simp;first | done | with_reducible rfl);simp only[Act.put,List.getElem_toArray,List.getElem_cons_succ,List.getElem_cons_zero,List.setIfInBounds_toArray,List.set_cons_zero,List.set_cons_succ]))
    refine Zii (by kernel_rfl) ?_
    obtain⟨c0,c1,c2,c3,c4,c5,c6,c7,pz0,pz1,rb0,rb3,rb5,hBl⟩:=hHeld
    have HB:=jh hBl.out
    go_wp2_with fail
    go_ret
    exact Exact.no (Zab HB1.out HB.out) HNO.out
   rw[hh] at HHX
   have hn:n<E.length:=Classical.byContradiction fun hx=>by rw[Zdf hx] at hh;cases hh
   rw[Zbv hn] at hh
   unfold Zh6 at hh
   rw[Bool.and_eq_true,beq_iff_eq,beq_iff_eq] at hh
   have HOK2:=jh (fun a=>HOK.out n rfl HNM.out hn a hh.1 hh.2.symm)
   have HNK2:Hid (T->x0=(Ev.at E n).th/\x5=true/\(Ev.at E n).ex=true):=jh (fun ht=>by
    obtain⟨n2,a,_,_,c,_,_,d,f⟩:=HNK.out ht
    obtain rfl:n=n2:=by omega
    exact⟨c,d,f⟩)
   clear HOK HNK hh
   have hni:(n:Int)<(E.length:Int):=by omega
   refine Zft (S:=(fun W=>W.cell? ⟨w.heap.size,0,none⟩=some (.int .i64 locs)/\W.cell? ⟨w.heap.size,1,none⟩=some (.slice (some ⟨eb,eo,none⟩) E.length ec)/\W.cell? ⟨w.heap.size,2,none⟩=some (.slice ra R.length rc)/\W.cell? ⟨w.heap.size,3,none⟩=some (.slice ca C.length cc)/\W.cell? ⟨w.heap.size,4,none⟩=some (.slice (some ⟨b,o,none⟩) Rmw.length mc)/\W.cell? ⟨w.heap.size,5,none⟩=some (.slice da Data.length dc)/\W.cell? ⟨w.heap.size,6,none⟩=some (.slice ta Ctrl.length tc)/\W.cell? ⟨w.heap.size,7,none⟩=some (.slice ia CtrlI.length ic)/\W.cell? ⟨wr.heap.size,0,none⟩=some (.int .i64 (m:Int))/\W.cell? ⟨wr.heap.size,1,none⟩=some (.int .i64 (n:Int))/\W.cell? ⟨wn.heap.size,0,none⟩=some (.int .i64 x0)/\W.cell? ⟨wn.heap.size,3,none⟩=some (.int .i64 x3)/\W.cell? ⟨wn.heap.size,5,none⟩=some (.bool x5)/\Bl w1 W)) [0,1,2,3,4,5,6,7,8,9,11,12,10,13,14,15] 16 [false,false,false,false,false,false,false,false,false,false,false,false,false,false,false,false] (by kernel_rfl) (by rfl) (by rfl) ⟨c0,c1,c2,c3,c4,c5,c6,c7,pz0,pz1,rb0,rb3,rb5,⟨HBW.out.drew⟩⟩ (fun hHeld=>?_)
   repeat (first | (refine Zcd rfl (by kernel_rfl) (by rfl) (fun _ _ _ h=>h) (by assumption) ?_;simp only[Act.put,List.getElem_toArray,List.getElem_cons_succ,List.getElem_cons_zero,List.setIfInBounds_toArray,List.set_cons_zero,List.set_cons_succ]) | (refine Zf7 rfl (by kernel_rfl) (by rfl) (fun _ _ _ _ h=>h) (by assumption) ?_;apply Exists.intro;refine⟨fun W hW=>?_,?_⟩;((try dsimp only at hW);(try simp only[List.getElem_toArray,List.getElem_cons_succ,List.getElem_cons_zero]);go_simp;first | done | with_reducible rfl);simp only[Act.put,List.getElem_toArray,List.getElem_cons_succ,List.getElem_cons_zero,List.setIfInBounds_toArray,List.set_cons_zero,List.set_cons_succ]))
   refine Zej rfl (by kernel_rfl) (by rfl) (fun K hK=>?_)
   try simp only[List.getElem_toArray,List.getElem_cons_succ,List.getElem_cons_zero]
   go_simp
   obtain⟨c0,c1,c2,c3,c4,c5,c6,c7,pz0,pz1,rb0,rb3,rb5,hBl⟩:=hHeld
   go_at_call 191
   refine(HWR.out _ _).mono ?_
   rintro en wq ⟨lb,rfl,hlb,hbe⟩
   dsimp only
   refine hK.out _ _ ⟨Zaa c0 hbe,Zaa c1 hbe,Zaa c2 hbe,Zaa c3 hbe,Zaa c4 hbe,Zaa c5 hbe,Zaa c6 hbe,Zaa c7 hbe,Zaa pz0 hbe,Zaa pz1 hbe,Zaa rb0 hbe,Zaa rb3 hbe,Zaa rb5 hbe,⟨Zab hBl.out hbe⟩⟩ (fun hHeld=>?_)
   clear hK K hbe c0 c1 c2 c3 c4 c5 c6 c7 pz0 pz1 rb0 rb3 rb5 hBl
   simp only[List.setIfInBounds_toArray,List.set_cons_zero,List.set_cons_succ]
   repeat (first | (refine Zcd rfl (by kernel_rfl) (by rfl) (fun _ _ _ h=>h) (by assumption) ?_;simp only[Act.put,List.getElem_toArray,List.getElem_cons_succ,List.getElem_cons_zero,List.setIfInBounds_toArray,List.set_cons_zero,List.set_cons_succ]) | (refine Zf7 rfl (by kernel_rfl) (by rfl) (fun _ _ _ _ h=>h) (by assumption) ?_;apply Exists.intro;refine⟨fun W hW=>?_,?_⟩;((try dsimp only at hW);(try simp only[List.getElem_toArray,List.getElem_cons_succ,List.getElem_cons_zero]);go_simp;first | done | with_reducible rfl);simp only[Act.put,List.getElem_toArray,List.getElem_cons_succ,List.getElem_cons_zero,List.setIfInBounds_toArray,List.set_cons_zero,List.set_cons_succ]))
   refine Zej rfl (by kernel_rfl) (by rfl) (fun K hK=>?_)
   try simp only[List.getElem_toArray,List.getElem_cons_succ,List.getElem_cons_zero]
   go_simp
   obtain⟨c0,c1,c2,c3,c4,c5,c6,c7,pz0,pz1,rb0,rb3,rb5,hBl⟩:=hHeld
   go_at_call 153
   refine(HHX.out _ _ hBl.out hlb).mono ?_
   clear hlb
   rintro en wq ⟨rfl,hbe⟩
   dsimp only
   refine hK.out _ _ ⟨Zaa c0 hbe,Zaa c1 hbe,Zaa c2 hbe,Zaa c3 hbe,Zaa c4 hbe,Zaa c5 hbe,Zaa c6 hbe,Zaa c7 hbe,Zaa pz0 hbe,Zaa pz1 hbe,Zaa rb0 hbe,Zaa rb3 hbe,Zaa rb5 hbe,⟨Zab hBl.out hbe⟩⟩ (fun hHeld=>?_)
   clear hK K hbe c0 c1 c2 c3 c4 c5 c6 c7 pz0 pz1 rb0 rb3 rb5 hBl
   simp only[List.setIfInBounds_toArray,List.set_cons_zero,List.set_cons_succ]
   repeat (first | (refine Zcd rfl (by kernel_rfl) (by rfl) (fun _ _ _ h=>h) (by assumption) ?_;simp only[Act.put,List.getElem_toArray,List.getElem_cons_succ,List.getElem_cons_zero,List.setIfInBounds_toArray,List.set_cons_zero,List.set_cons_succ]) | (refine Zf7 rfl (by kernel_rfl) (by rfl) (fun _ _ _ _ h=>h) (by assumption) ?_;apply Exists.intro;refine⟨fun W hW=>?_,?_⟩;((try dsimp only at hW);(try simp only[List.getElem_toArray,List.getElem_cons_succ,List.getElem_cons_zero]);go_simp;first | done | with_reducible rfl);simp only[Act.put,List.getElem_toArray,List.getElem_cons_succ,List.getElem_cons_zero,List.setIfInBounds_toArray,List.set_cons_zero,List.set_cons_succ]))
   refine Zii (by kernel_rfl) ?_
   obtain⟨c0,c1,c2,c3,c4,c5,c6,c7,pz0,pz1,rb0,rb3,rb5,hBl⟩:=hHeld
   have HB:=jh hBl.out
   clear hBl HHX HBW
   rcases HE1.out.next HB.out with h0 | ⟨eb2,eo2,hea,hebl,hecc⟩
   ·rw[h0] at hm;simp at hm
   obtain⟨rfl,rfl⟩:eb=eb2/\eo=eo2:=by simpa using hea
   obtain⟨f0,f1,f2,f3,f4,f5⟩:=hecc n hn
   clear hecc hebl hea
   change _=some (Value.int _ (Ev.at E n).th) at f0
   change _=some (Value.int _ (Ev.at E n).kd) at f1
   change _=some (Value.int _ (Ev.at E n).md) at f2
   change _=some (Value.int _ (Ev.at E n).lc) at f3
   change _=some (Value.int _ (Ev.at E n).vl) at f4
   change _=some (Value.bool (Ev.at E n).ex) at f5
   generalize Ev.at E n=fv at *
   obtain⟨y0,y1,y2,y3,y4,y5⟩:=fv
   dsimp only at f0 f1 f2 f3 f4 f5 HOK2 HNK2
   have rz0:=fun o=>Zaa rb0 ((Below.refl _ _).alloc (Nat.le_refl _) o)
   have rz5:=fun o=>Zaa rb5 ((Below.refl _ _).alloc (Nat.le_refl _) o)
   have HBZ:Hid (∀ o,Below w1.heap.size w1 (World.alloc _ o)):=jh (fun o=>Zab HB.out ((Below.refl _ _).alloc (Nat.le_refl _) o))
   clear HB rb0 rb3 rb5 c0 c2 c3 c4 c5 c6 c7 pz0
   by_cases q0:y0=x0
   rotate_left
   ·have m0:(y0 !=x0)=true:=bne_iff_ne.2 q0
    have HNO:=jh (HN.out (fun ht=>q0 (HNK2.out ht).1.symm))
    clear HOK2 HNK2 HS HN
    go_wp2_with fail
    go_ret
    exact Exact.no (Zab HB1.out (HBZ.out _)) HNO.out
   subst q0
   have m0:(y0 !=y0)=false:=by simp
   cases y5
   ·have HNO:=jh (HN.out (fun ht=>by have:=(HNK2.out ht).2.2;cases this))
    clear HOK2 HNK2 HS HN
    go_wp2_with fail
    go_ret
    exact Exact.no (Zab HB1.out (HBZ.out _)) HNO.out
   cases x5
   ·have HNO:=jh (HN.out (fun ht=>by have:=(HNK2.out ht).2.1;cases this))
    clear HOK2 HNK2 HS HN
    go_wp2_with fail
    go_ret
    exact Exact.no (Zab HB1.out (HBZ.out _)) HNO.out
   have HL:=jh (HS.out (HOK2.out rfl rfl rfl))
   clear HOK2 HNK2 HS HN
   go_wp2_with fail
   go_roundw
   case rel=>exact⟨HBZ.out _,k+1,by omega,by go_num,HL⟩
   case measure=>simp[intOf];omega
  ·have hdk:decide ((k:Int)<(Rmw.length:Int))=false:=by simp;omega
   have HIF:=jh (Zzo (fun j (hj:j<Rmw.length)=>HD.out j (by omega)) HUP.out)
   have HBE:=jh hbe
   obtain⟨c0,c1,c2,c3,c4,c5,c6,c7⟩:=HG0.out.next hbe
   rw[hG] at c0 c1 c2 c3 c4 c5 c6 c7
   dsimp only at c0 c1 c2 c3 c4 c5 c6 c7
   clear hbe HD
   go_wp2_with fail
   clear c0 c1 c2 c3 c4 c5 c6 c7
   obtain⟨c0,c1,c2,c3,c4,c5,c6,c7⟩:=HG0.out.next (Zab HBE.out ((Below.refl _ _).alloc (Nat.le_refl _) (Obj.cells #[.slice ea E.length ec,.func (.func 195) #[] #[]] 102 (0,0))))
   rw[hG] at c0 c1 c2 c3 c4 c5 c6 c7
   dsimp only at c0 c1 c2 c3 c4 c5 c6 c7
   have sb0:(wr.alloc (Obj.cells #[.slice ea E.length ec,.func (.func 195) #[] #[]] 102 (0,0))).cell? ⟨wr.heap.size,0,none⟩=some (.slice ea E.length ec):=by rw[cell_of_row _ _ _ _ _ _ (heap_alloc_new _ _)];rfl
   have sb1:(wr.alloc (Obj.cells #[.slice ea E.length ec,.func (.func 195) #[] #[]] 102 (0,0))).cell? ⟨wr.heap.size,1,none⟩=some (.func (.func 195) #[] #[]):=by rw[cell_of_row _ _ _ _ _ _ (heap_alloc_new _ _)];rfl
   have hBl:Bl w1 (wr.alloc (Obj.cells #[.slice ea E.length ec,.func (.func 195) #[] #[]] 102 (0,0))):=⟨Zab HBE.out jb⟩
   have HC2:=jh (fun (w':World) (hb:Below w1.heap.size w1 w')=>HCN.out w' (Zab HB1.out hb))
   clear HBE
   generalize wr.alloc (Obj.cells #[.slice ea E.length ec,.func (.func 195) #[] #[]] 102 (0,0))=W0 at *
   have hcl:=Zqh E Zk5 E.length
   generalize Zi6 E Zk5 E.length=N at *
   have hN9:(N:Int)<1000:=by omega
   have hw1:IntKind.i64.wrap (2*(Rmw.length:Int))=2*(Rmw.length:Int):=IntWalk.i64_in _ (by omega)
   by_cases q0:(N:Int)=2*(Rmw.length:Int)
   ·have m0:((N:Int)==2*(Rmw.length:Int))=true:=by rw[q0];exact beq_self_eq_true _
    have HYES:=jh (HIF.out.2 (by omega))
    clear q0 HIF
    go_region_held3 (fun W=>W.cell? ⟨w.heap.size,0,none⟩=some (.int .i64 locs)/\W.cell? ⟨w.heap.size,1,none⟩=some (.slice ea E.length ec)/\W.cell? ⟨w.heap.size,2,none⟩=some (.slice ra R.length rc)/\W.cell? ⟨w.heap.size,3,none⟩=some (.slice ca C.length cc)/\W.cell? ⟨w.heap.size,4,none⟩=some (.slice ma Rmw.length mc)/\W.cell? ⟨w.heap.size,5,none⟩=some (.slice da Data.length dc)/\W.cell? ⟨w.heap.size,6,none⟩=some (.slice ta Ctrl.length tc)/\W.cell? ⟨w.heap.size,7,none⟩=some (.slice ia CtrlI.length ic)/\W.cell? ⟨wr.heap.size,0,none⟩=some (.slice ea E.length ec)/\W.cell? ⟨wr.heap.size,1,none⟩=some (.func (.func 195) #[] #[])/\Bl w1 W)
     (first | (go_split_ands; exact ⟨Zaa ‹_› hbe,Zaa ‹_› hbe,Zaa ‹_› hbe,Zaa ‹_› hbe,Zaa ‹_› hbe,Zaa ‹_› hbe,Zaa ‹_› hbe,Zaa ‹_› hbe,Zaa ‹_› hbe,Zaa ‹_› hbe,⟨Zab (Bl.out ‹_›) hbe⟩⟩) | (go_split_ands; exact ⟨Zaa ‹_› (Below.refl _ _).drew,Zaa ‹_› (Below.refl _ _).drew,Zaa ‹_› (Below.refl _ _).drew,Zaa ‹_› (Below.refl _ _).drew,Zaa ‹_› (Below.refl _ _).drew,Zaa ‹_› (Below.refl _ _).drew,Zaa ‹_› (Below.refl _ _).drew,Zaa ‹_› (Below.refl _ _).drew,Zaa ‹_› (Below.refl _ _).drew,Zaa ‹_› (Below.refl _ _).drew,⟨(Bl.out ‹_›).drew⟩⟩) | (go_split_ands; exact ⟨Zaa ‹_› jb,Zaa ‹_› jb,Zaa ‹_› jb,Zaa ‹_› jb,Zaa ‹_› jb,Zaa ‹_› jb,Zaa ‹_› jb,Zaa ‹_› jb,Zaa ‹_› jb,Zaa ‹_› jb,⟨Zab (Bl.out ‹_›) jb⟩⟩) | fail "keep")
     (first | (go_at_call 192;refine(HC2.out _ (Bl.out (by go_split_ands;assumption))).mono ?_;rintro en wn ⟨rfl,hbe⟩))
    go_split_ands
    have HB:=jh (Bl.out ‹Bl w1 _›)
    go_wp2_with fail
    go_ret
    exact Exact.yes (Zab HB1.out HB.out) HYES.out
   ·have m0:((N:Int)==2*(Rmw.length:Int))=false:=beq_eq_false_iff_ne.2 q0
    have HNO:Hid (¬ RmwsOk E Rmw):=jh (fun h=>by have:=HIF.out.1 h;omega)
    clear q0 HIF
    go_region_held3 (fun W=>W.cell? ⟨w.heap.size,0,none⟩=some (.int .i64 locs)/\W.cell? ⟨w.heap.size,1,none⟩=some (.slice ea E.length ec)/\W.cell? ⟨w.heap.size,2,none⟩=some (.slice ra R.length rc)/\W.cell? ⟨w.heap.size,3,none⟩=some (.slice ca C.length cc)/\W.cell? ⟨w.heap.size,4,none⟩=some (.slice ma Rmw.length mc)/\W.cell? ⟨w.heap.size,5,none⟩=some (.slice da Data.length dc)/\W.cell? ⟨w.heap.size,6,none⟩=some (.slice ta Ctrl.length tc)/\W.cell? ⟨w.heap.size,7,none⟩=some (.slice ia CtrlI.length ic)/\W.cell? ⟨wr.heap.size,0,none⟩=some (.slice ea E.length ec)/\W.cell? ⟨wr.heap.size,1,none⟩=some (.func (.func 195) #[] #[])/\Bl w1 W)
     (first | (go_split_ands; exact ⟨Zaa ‹_› hbe,Zaa ‹_› hbe,Zaa ‹_› hbe,Zaa ‹_› hbe,Zaa ‹_› hbe,Zaa ‹_› hbe,Zaa ‹_› hbe,Zaa ‹_› hbe,Zaa ‹_› hbe,Zaa ‹_› hbe,⟨Zab (Bl.out ‹_›) hbe⟩⟩) | (go_split_ands; exact ⟨Zaa ‹_› (Below.refl _ _).drew,Zaa ‹_› (Below.refl _ _).drew,Zaa ‹_› (Below.refl _ _).drew,Zaa ‹_› (Below.refl _ _).drew,Zaa ‹_› (Below.refl _ _).drew,Zaa ‹_› (Below.refl _ _).drew,Zaa ‹_› (Below.refl _ _).drew,Zaa ‹_› (Below.refl _ _).drew,Zaa ‹_› (Below.refl _ _).drew,Zaa ‹_› (Below.refl _ _).drew,⟨(Bl.out ‹_›).drew⟩⟩) | (go_split_ands; exact ⟨Zaa ‹_› jb,Zaa ‹_› jb,Zaa ‹_› jb,Zaa ‹_› jb,Zaa ‹_› jb,Zaa ‹_› jb,Zaa ‹_› jb,Zaa ‹_› jb,Zaa ‹_› jb,Zaa ‹_› jb,⟨Zab (Bl.out ‹_›) jb⟩⟩) | fail "keep")
     (first | (go_at_call 192;refine(HC2.out _ (Bl.out (by go_split_ands;assumption))).mono ?_;rintro en wn ⟨rfl,hbe⟩))
    go_split_ands
    have HB:=jh (Bl.out ‹Bl w1 _›)
    go_wp2_with fail
    go_ret
    exact Exact.no (Zab HB1.out HB.out) HNO.out
end
section
attribute [local go_sem ↓] Go.wp_at_zero Go.wp_at_succ
namespace RelA
theorem Yg6 {g:Gr} (_:1<=g.locs) (ln:g.locs<=g.E.length) (hE:∀ i,i<g.E.length->Zk6 g i=true) (t:Nat) (ht:(t:Int)<g.locs):0<Zix g.E t g.E.length:=by
 have hm:∀ k,t<k->0<Zix g.E t k:=by
  intro k
  induction k with
  | zero=>intro h;omega
  | succ k ih=>
   intro h
   unfold Zix
   by_cases c:t=k
   ·subst c
    have he:=hE t (by omega)
    rw[Zu7 ht] at he
    simp only[Bool.and_eq_true,beq_iff_eq] at he
    rw[if_pos ⟨he.1.1.1.1.2,he.1.1.2⟩]
    omega
   ·have:=ih (by omega)
    omega
 exact hm _ (by omega)
theorem Zqt {g:Gr}:CheckOk g↔(1<=g.locs/\g.locs<=4/\g.locs<=(g.E.length:Int)/\(g.E.length:Int)<=40)/\(∀ i,i<g.E.length->Zk6 g i=true)/\Zs2 g.E g.R/\Zpp g/\RmwsOk g.E g.Rmw/\Zdq g.E g.Data/\Zdq g.E g.Ctrl/\Zdq g.E g.CtrlI:=by
 constructor
 ·intro h
  exact⟨⟨h.l1,h.l4,h.ln,by have:=h.n40;omega⟩,fun i hi=>(h.at_ i hi).1,⟨h.rlen,fun i hi=>(h.at_ i hi).2⟩,⟨h.clen,h.co⟩,h.rmw,h.data,h.ctrl,h.ctrli⟩
 ·rintro⟨⟨a,b,c,d⟩,e,f,k,l,m,n,o⟩
  exact⟨a,b,c,by omega,f.1,k.1,fun i hi=>⟨e i hi,f.2 i hi⟩,k.2,l,m,n,o⟩
end RelA
theorem Zwq (g:Gr) (w:World) (h:GIn0 w g) :
  Calls Tryz.prog 128 #[g.v] w (Exact (CheckOk g) w):=by
 have he50:=h.e50
 have HQ:=jh (Zqt (g:=g))
 have HB0:Hid (∀ o,Below w.heap.size w (w.alloc o)):=jh (fun o=>(Below.refl _ _).alloc (Nat.le_refl _) o)
 have HEV:=jh (fun w' (hb:Below w.heap.size w w') (a:1<=g.locs) (b:g.locs<=4)=>Ybr g w' (h.es.next hb) (by omega) a b)
 have HRF:=jh (fun w' (hb:Below w.heap.size w w')=>Yw9 g w' (h.es.next hb) (h.rf.next hb) (by omega) (by have:=h.r60;omega))
 have HCO:=jh (fun w' (hb:Below w.heap.size w w') (n40:g.E.length<=40) (hpos:(g.C.length:Int)=g.locs->∀ t:Nat,t<g.C.length->0<Zix g.E t g.E.length)=>Xbt g w' (h.es.next hb) (h.co.next hb) n40 (by have:=h.c6;omega) (fun q hq=>by have:=h.l50 q hq;omega) hpos)
 have HMW:=jh (fun w' (hb:Below w.heap.size w w') (n40:g.E.length<=40)=>Ypu g w' (h.es.next hb) n40 (h.rmw.next hb) (by have:=h.m50;omega))
 have HD1:=jh (fun w' (hb:Below w.heap.size w w')=>Zvc g g.da g.Data g.dc w' (h.es.next hb) (by omega) (h.data.next hb) (by have:=h.d300;omega))
 have HD2:=jh (fun w' (hb:Below w.heap.size w w')=>Zvc g g.ta g.Ctrl g.tc w' (h.es.next hb) (by omega) (h.ctrl.next hb) (by have:=h.t300;omega))
 have HD3:=jh (fun w' (hb:Below w.heap.size w w')=>Zvc g g.ia g.CtrlI g.ic w' (h.es.next hb) (by omega) (h.ctrli.next hb) (by have:=h.i300;omega))
 have HPO:=jh (fun (a:1<=g.locs) (b:g.locs<=g.E.length) (hE:∀ i,i<g.E.length->Zk6 g i=true) (c:(g.C.length:Int)=g.locs) (t:Nat) (ht:t<g.C.length)=>Yg6 a b hE t (by omega))
 clear h
 obtain⟨K,hK⟩:∃ K,K=CheckOk g:=⟨_,rfl⟩
 obtain⟨PE,hPE⟩:∃ P,P=∀ i,i<g.E.length->Zk6 g i=true:=⟨_,rfl⟩
 obtain⟨PR,hPR⟩:∃ P,P=Zs2 g.E g.R:=⟨_,rfl⟩
 obtain⟨PC,hPC⟩:∃ P,P=Zpp g:=⟨_,rfl⟩
 obtain⟨PM,hPM⟩:∃ P,P=RmwsOk g.E g.Rmw:=⟨_,rfl⟩
 obtain⟨P1,hP1⟩:∃ P,P=Zdq g.E g.Data:=⟨_,rfl⟩
 obtain⟨P2,hP2⟩:∃ P,P=Zdq g.E g.Ctrl:=⟨_,rfl⟩
 obtain⟨P3,hP3⟩:∃ P,P=Zdq g.E g.CtrlI:=⟨_,rfl⟩
 rw[<- hK,<- hPE,<- hPR,<- hPC,<- hPM,<- hP1,<- hP2,<- hP3] at HQ
 rw[<- hK]
 rw[<- hPE] at HEV HPO
 rw[<- hPR] at HRF
 rw[<- hPC] at HCO
 rw[<- hPM] at HMW
 rw[<- hP1] at HD1
 rw[<- hP2] at HD2
 rw[<- hP3] at HD3
 clear hK hPE hPR hPC hPM hP1 hP2 hP3
 have HG0:=jh (GBox.of_alloc w g 27)
 obtain⟨G,hG⟩:∃ G,G=g:=⟨_,rfl⟩
 obtain⟨locs,ea,E,ec,ra,R,rc,ca,C,cc,ma,Rmw,mc,da,Data,dc,ta,Ctrl,tc,ia,CtrlI,ic⟩:=g
 simp only[Gr.v,Zaw] at he50 HQ HEV HRF HCO HMW HD1 HD2 HD3 HPO HG0 ⊢
 rw[<- hG] at HG0
 have hE:(E.length:Int)<=50:=by omega
 have c0a:=HG0.out.c0
 have c1a:=HG0.out.c1
 have c2a:=HG0.out.c2
 have c3a:=HG0.out.c3
 have c4a:=HG0.out.c4
 have c5a:=HG0.out.c5
 have c6a:=HG0.out.c6
 have c7a:=HG0.out.c7
 rw[hG] at c0a c1a c2a c3a c4a c5a c6a c7a
 dsimp only at c0a c1a c2a c3a c4a c5a c6a c7a
 by_cases e1:1<=locs
 rotate_left
 ·have l1:decide (1<=locs)=false:=by simp[e1]<;>omega
  have HNO:Hid (¬ K):=jh (fun k=>e1 (HQ.out.1 k).1.1)
  go_enter Tryz.func128,Tryz.ntmps128
  go_wp2_with fail
  go_ret
  exact Exact.no (HB0.out _) HNO.out
 have l1:decide (1<=locs)=true:=by simp[e1]<;>omega
 by_cases e2:locs<=4
 rotate_left
 ·have l2:decide (locs<=4)=false:=by simp[e2]<;>omega
  have HNO:Hid (¬ K):=jh (fun k=>e2 (HQ.out.1 k).1.2.1)
  go_enter Tryz.func128,Tryz.ntmps128
  go_wp2_with fail
  go_ret
  exact Exact.no (HB0.out _) HNO.out
 have l2:decide (locs<=4)=true:=by simp[e2]<;>omega
 by_cases e3:locs<=(E.length:Int)
 rotate_left
 ·have l3:decide (locs<=(E.length:Int))=false:=by simp[e3]<;>omega
  have HNO:Hid (¬ K):=jh (fun k=>e3 (HQ.out.1 k).1.2.2.1)
  go_enter Tryz.func128,Tryz.ntmps128
  go_wp2_with fail
  go_ret
  exact Exact.no (HB0.out _) HNO.out
 have l3:decide (locs<=(E.length:Int))=true:=by simp[e3]<;>omega
 by_cases e4:(E.length:Int)<=40
 rotate_left
 ·have l4:decide ((E.length:Int)<=40)=false:=by simp[e4]<;>omega
  have n4:decide (E.length<=40)=false:=by simp<;>omega
  have HNO:Hid (¬ K):=jh (fun k=>e4 (HQ.out.1 k).1.2.2.2)
  go_enter Tryz.func128,Tryz.ntmps128
  go_wp2_with fail
  go_ret
  exact Exact.no (HB0.out _) HNO.out
 have l4:decide ((E.length:Int)<=40)=true:=by simp[e4]<;>omega
 have n4:decide (E.length<=40)=true:=by simp<;>omega
 have hl40:E.length<=40:=by omega
 have HM:=jh (fun a b c d e f k=>HQ.out.2 ⟨⟨e1,e2,e3,e4⟩,a,b,c,d,e,f,k⟩)
 have HNE:=jh (fun (x:¬ PE) (k:K)=>x (HQ.out.1 k).2.1)
 have HNR:=jh (fun (x:¬ PR) (k:K)=>x (HQ.out.1 k).2.2.1)
 have HNC:=jh (fun (x:¬ PC) (k:K)=>x (HQ.out.1 k).2.2.2.1)
 have HNM:=jh (fun (x:¬ PM) (k:K)=>x (HQ.out.1 k).2.2.2.2.1)
 have HN1:=jh (fun (x:¬ P1) (k:K)=>x (HQ.out.1 k).2.2.2.2.2.1)
 have HN2:=jh (fun (x:¬ P2) (k:K)=>x (HQ.out.1 k).2.2.2.2.2.2.1)
 have HN3:=jh (fun (x:¬ P3) (k:K)=>x (HQ.out.1 k).2.2.2.2.2.2.2)
 have HEV2:=jh (fun w' hb=>HEV.out w' hb e1 e2)
 have HPO2:=jh (fun pe=>HPO.out e1 e3 pe)
 clear HEV HPO HQ
 go_enter Tryz.func128,Tryz.ntmps128
 go_wp2_with fail
 obtain⟨w1,hw1⟩:∃ x,x=w.alloc (Obj.cells #[.int .i64 locs,.slice ea E.length ec,.slice ra R.length rc,.slice ca C.length cc,.slice ma Rmw.length mc,.slice da Data.length dc,.slice ta Ctrl.length tc,.slice ia CtrlI.length ic] 27 (0,0)):=⟨_,rfl⟩
 rw[<- hw1] at HG0 ⊢
 have HB:Hid (Below w.heap.size w w1):=jh (by rw[hw1];exact jb)
 have HBE:Hid (Below w1.heap.size w1 w1):=jh (Below.refl _ _)
 clear hw1 l1 l2 l3 l4 n4 e1 e2 e3 e4 c0a c1a c2a c3a c4a c5a c6a c7a
 refine(HEV2.out _ HB.out).mono ?_
 rintro e wn ⟨x,rfl,hx,hb⟩
 have HX:=jh hx
 have HB:=jh (Zab HB.out hb)
 have HBE:=jh (Zab HBE.out hb)
 clear hx hb
 obtain⟨c0,c1,c2,c3,c4,c5,c6,c7⟩:=HG0.out.next HBE.out
 rw[hG] at c0 c1 c2 c3 c4 c5 c6 c7
 dsimp only at c0 c1 c2 c3 c4 c5 c6 c7
 cases x
 ·have HNO:Hid (¬ K):=jh (HNE.out (fun p=>by have:=HX.out.2 p;cases this))
  go_wp2_with fail
  go_ret
  exact Exact.no HB.out HNO.out
 have HX0:=jh (HX.out.1 rfl)
 clear HX
 go_wp2_with fail
 clear c0 c1 c2 c3 c4 c5 c6 c7
 refine(HRF.out _ HB.out).mono ?_
 rintro e wn ⟨x,rfl,hx,hb⟩
 have HX:=jh hx
 have HB:=jh (Zab HB.out hb)
 have HBE:=jh (Zab HBE.out hb)
 clear hx hb
 obtain⟨c0,c1,c2,c3,c4,c5,c6,c7⟩:=HG0.out.next HBE.out
 rw[hG] at c0 c1 c2 c3 c4 c5 c6 c7
 dsimp only at c0 c1 c2 c3 c4 c5 c6 c7
 cases x
 ·have HNO:Hid (¬ K):=jh (HNR.out (fun p=>by have:=HX.out.2 p;cases this))
  go_wp2_with fail
  go_ret
  exact Exact.no HB.out HNO.out
 have HX1:=jh (HX.out.1 rfl)
 clear HX
 go_wp2_with fail
 clear c0 c1 c2 c3 c4 c5 c6 c7
 refine(HCO.out _ HB.out hl40 (HPO2.out HX0.out)).mono ?_
 rintro e wn ⟨x,rfl,hx,hb⟩
 have HX:=jh hx
 have HB:=jh (Zab HB.out hb)
 have HBE:=jh (Zab HBE.out hb)
 clear hx hb
 obtain⟨c0,c1,c2,c3,c4,c5,c6,c7⟩:=HG0.out.next HBE.out
 rw[hG] at c0 c1 c2 c3 c4 c5 c6 c7
 dsimp only at c0 c1 c2 c3 c4 c5 c6 c7
 cases x
 ·have HNO:Hid (¬ K):=jh (HNC.out (fun p=>by have:=HX.out.2 p;cases this))
  go_wp2_with fail
  go_ret
  exact Exact.no HB.out HNO.out
 have HX2:=jh (HX.out.1 rfl)
 clear HX
 go_wp2_with fail
 clear c0 c1 c2 c3 c4 c5 c6 c7
 refine(HMW.out _ HB.out hl40).mono ?_
 rintro e wn ⟨x,rfl,hx,hb⟩
 have HX:=jh hx
 have HB:=jh (Zab HB.out hb)
 have HBE:=jh (Zab HBE.out hb)
 clear hx hb
 obtain⟨c0,c1,c2,c3,c4,c5,c6,c7⟩:=HG0.out.next HBE.out
 rw[hG] at c0 c1 c2 c3 c4 c5 c6 c7
 dsimp only at c0 c1 c2 c3 c4 c5 c6 c7
 cases x
 ·have HNO:Hid (¬ K):=jh (HNM.out (fun p=>by have:=HX.out.2 p;cases this))
  go_wp2_with fail
  go_ret
  exact Exact.no HB.out HNO.out
 have HX3:=jh (HX.out.1 rfl)
 clear HX
 go_wp2_with fail
 clear c0 c1 c2 c3 c4 c5 c6 c7
 refine(HD1.out _ HB.out).mono ?_
 rintro e wn ⟨x,rfl,hx,hb⟩
 have HX:=jh hx
 have HB:=jh (Zab HB.out hb)
 have HBE:=jh (Zab HBE.out hb)
 clear hx hb
 obtain⟨c0,c1,c2,c3,c4,c5,c6,c7⟩:=HG0.out.next HBE.out
 rw[hG] at c0 c1 c2 c3 c4 c5 c6 c7
 dsimp only at c0 c1 c2 c3 c4 c5 c6 c7
 cases x
 ·have HNO:Hid (¬ K):=jh (HN1.out (fun p=>by have:=HX.out.2 p;cases this))
  go_wp2_with fail
  go_ret
  exact Exact.no HB.out HNO.out
 have HX4:=jh (HX.out.1 rfl)
 clear HX
 go_wp2_with fail
 clear c0 c1 c2 c3 c4 c5 c6 c7
 refine(HD2.out _ HB.out).mono ?_
 rintro e wn ⟨x,rfl,hx,hb⟩
 have HX:=jh hx
 have HB:=jh (Zab HB.out hb)
 have HBE:=jh (Zab HBE.out hb)
 clear hx hb
 obtain⟨c0,c1,c2,c3,c4,c5,c6,c7⟩:=HG0.out.next HBE.out
 rw[hG] at c0 c1 c2 c3 c4 c5 c6 c7
 dsimp only at c0 c1 c2 c3 c4 c5 c6 c7
 cases x
 ·have HNO:Hid (¬ K):=jh (HN2.out (fun p=>by have:=HX.out.2 p;cases this))
  go_wp2_with fail
  go_ret
  exact Exact.no HB.out HNO.out
 have HX5:=jh (HX.out.1 rfl)
 clear HX
 go_wp2_with fail
 clear c0 c1 c2 c3 c4 c5 c6 c7
 refine(HD3.out _ HB.out).mono ?_
 rintro e wn ⟨x,rfl,hx,hb⟩
 have HX:=jh hx
 have HB:=jh (Zab HB.out hb)
 have HBE:=jh (Zab HBE.out hb)
 clear hx hb
 obtain⟨c0,c1,c2,c3,c4,c5,c6,c7⟩:=HG0.out.next HBE.out
 rw[hG] at c0 c1 c2 c3 c4 c5 c6 c7
 dsimp only at c0 c1 c2 c3 c4 c5 c6 c7
 cases x
 ·have HNO:Hid (¬ K):=jh (HN3.out (fun p=>by have:=HX.out.2 p;cases this))
  go_wp2_with fail
  go_ret
  exact Exact.no HB.out HNO.out
 have HX6:=jh (HX.out.1 rfl)
 clear HX
 go_wp2_with fail
 go_ret
 exact Exact.yes HB.out (HM.out HX0.out HX1.out HX2.out HX3.out HX4.out HX5.out HX6.out)
end
end Go.Proofs.YthcnhbclagegeaaGreatDoor
