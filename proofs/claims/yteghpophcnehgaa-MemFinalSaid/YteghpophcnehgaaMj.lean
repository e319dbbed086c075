/-
  What the functions that the law reaches do, one by one: contracts. Conditions: those that each of them prints.
-/
import Derived.Test.YteghpophcnehgaaMi
import Derived.WalkKit
namespace Go.Proofs.Yteghpophcnehgaa
open Go.RowKit ExprA SndA
set_option maxRecDepth 20000 in
set_option maxHeartbeats 4000000 in
theorem put_nil (x:Int) (w:World) :
  Calls Try.prog 85 #[.slice none 0 0,.int .i64 x] w fun e w'=>GivesN w (.slice none 0 0) w' e (PutOk [] x)∧Below w.heap.size w w':=by
 go_enter Try.func85,Try.ntmps85
 go_wp2_with fail
 go_loopw [5] (fun z5 wr=>w=wr∧z5=.int .i64 0) (fun _ _=>0)
 case atStart=>exact ⟨rfl,rfl⟩
 case round=>
  obtain ⟨rfl,rfl⟩:=hrel
  go_wp2_with fail
  refine putreg_l w (.slice none 0 0) (.slice none 0 0) (.slice none 0 0) none none 0 0 0 x [] (Nat.le_refl _) (Nat.zero_le _) rfl rfl (.inl rfl) (.inl rfl) _ _ _ _ _ _ _ _ _ _ _ _ _ _ _ _ _ _ _ _ _ _ _ _ _ _ _ _ _ _ _ _ _ _ _ _ _ _ _ _ _  _ (fun _ _ _ _ _ h=>h) ?_ ?_ ?_
  ·intro a w' e1 e2
   go_simp
   try (intro q; omega)
  ·intro a w' e1 e2
   go_simp
   try (intro q; omega)
  ·intro y33 y34 y35 y36 y37 y38 y39 y40 y41 y42 y43 v4 W' hv hf hb
   have HV:=Lib.hid hv
   have HB:=Lib.hid hb
   clear hv hb
   go_wp2_with fail
   go_ret
   exact ⟨⟨v4,_,rfl,HV.out,put_in (k:=0) (fun j hj=>absurd hj (Nat.not_lt_zero _)) (Nat.le_refl _) (fun hj=>absurd hj (Nat.not_lt_zero _)),.inr hf⟩,HB.out⟩
set_option maxRecDepth 20000 in
set_option maxHeartbeats 4000000 in
theorem put_some (g c:Nat) (L:List Int) (x:Int) (w:World) (HLV:Hid (LV w (.slice (some ⟨g,0,none⟩) L.length c) L)) (hL:L.length≤1000) (hc:L.length≤c) (hcell:∀ i,i < L.length→w.cell? ⟨g,i,none⟩=some (.int .i64 (L.getD i 0))) :
  Calls Try.prog 85 #[.slice (some ⟨g,0,none⟩) L.length c,.int .i64 x] w fun e w'=>GivesN w (.slice (some ⟨g,0,none⟩) L.length c) w' e (PutOk L x)∧Below w.heap.size w w':=by
 have hli:(L.length:Int)≤1000:=by omega
 have HCE:=Lib.hid hcell
 clear hcell
 go_enter Try.func85,Try.ntmps85
 go_wp2_with fail
 go_loopw [5] (fun z5 wr=>w=wr∧∃ k:Nat,k≤L.length∧z5=.int .i64 k∧Hid (∀ j,j < k→L.getD j 0 < x)) (fun z5 _=>L.length - (intOf z5).toNat)
 case atStart=>exact ⟨rfl,0,Nat.zero_le _,rfl,Lib.hid (fun j hj=>absurd hj (Nat.not_lt_zero _))⟩
 case round=>
  obtain ⟨rfl,k,hk,rfl,HJ⟩:=hrel
  have hk1:(k:Int)≤1000:=by omega
  by_cases hlt:k < L.length
  ·have d1:decide ((k:Int) < (L.length:Int))=true:=by simp; omega
   have i1:(k:Int) < (L.length:Int):=by omega
   have ce:=HCE.out k hlt
   obtain ⟨y,hy⟩:∃ y,L.getD k 0=y:=⟨_,rfl⟩
   rw [hy] at ce
   by_cases hyx:y < x
   ·have d2:decide (y < x)=true:=by simp; omega
    go_wp2_with fail
    go_roundw
    case rel=>exact ⟨trivial,k + 1,by omega,by go_num,Lib.hid (fun j hj=>by
     by_cases q:j=k
     ·subst q; rw [hy]; exact hyx
     ·exact HJ.out j (by omega))⟩
    case measure=>simp [intOf]; omega
   ·have d2:decide (y < x)=false:=by simp; omega
    by_cases he:y=x
    ·have d3:decide (y=x)=true:=by simp; omega
     subst he
     go_wp2_with fail
     go_ret
     exact ⟨⟨_,_,rfl,HLV.out,put_same hlt hy,.inl rfl⟩,Below.refl _ _⟩
    ·have d3:decide (y=x)=false:=by simp; omega
     have HP:=Lib.hid (put_in (k:=k) HJ.out hk (fun _=>by rw [hy]; omega))
     have j2:k≤c:=by omega
     have n1:Hid (k=0 ∨ ∃ ad,some (⟨g,0,none⟩:Addr)=some ad∧∀ W,Below w.heap.size w W→∀ j u,(nints (L.take k))[j]?=some u→W.cell? (ad.add j)=some u):=Lib.hid (.inr ⟨_,rfl,fun W hb=>news_cells (fun i hi=>by
      have hi2:i < k:=by simp at hi; omega
      have:=cell_next (HCE.out i (by omega)) hb
      rw [Nat.zero_add,this]; simp [List.getD_eq_getElem?_getD,hi2])⟩)
     by_cases hkc:k=c
     ·exfalso; omega
     ·have n2:Hid (L.length - k=0 ∨ ∃ ad,some (⟨g,k,none⟩:Addr)=some ad∧∀ W,Below w.heap.size w W→∀ j u,(nints (L.drop k))[j]?=some u→W.cell? (ad.add j)=some u):=Lib.hid (.inr ⟨_,rfl,fun W hb=>news_cells (fun i hi=>by
       have hi2:k + i < L.length:=by simp at hi; omega
       have:=cell_next (HCE.out (k + i) hi2) hb
       rw [this]; simp [List.getD_eq_getElem?_getD])⟩)
      go_wp2_with fail
      refine putreg_l w (.slice (some ⟨g,0,none⟩) L.length c) (.slice (some ⟨g,0,none⟩) k c) (.slice (some ⟨g,k,none⟩) (L.length - k) (c - k)) (some ⟨g,0,none⟩) (some ⟨g,k,none⟩) c (c - k) k x L hk hL rfl rfl n1.out n2.out _ _ _ _ _ _ _ _ _ _ _ _ _ _ _ _ _ _ _ _ _ _ _ _ _ _ _ _ _ _ _ _ _ _ _ _ _ _ _ _ _  _ (fun _ _ _ _ _ h=>h) ?_ ?_ ?_
      ·intro a w' e1 e2
       go_simp
       try (intro q; omega)
      ·intro a w' e1 e2
       go_simp
       try (intro q; omega)
      ·intro y33 y34 y35 y36 y37 y38 y39 y40 y41 y42 y43 v4 W' hv hf hb
       have HV:=Lib.hid hv
       have HB:=Lib.hid hb
       clear hv hb
       go_wp2_with fail
       go_ret
       exact ⟨⟨v4,_,rfl,HV.out,HP.out,.inr hf⟩,HB.out⟩
  ·have d1:decide ((k:Int) < (L.length:Int))=false:=by simp; omega
   obtain rfl:k=L.length:=by omega
   have HP:=Lib.hid (put_in (k:=L.length) HJ.out hk (fun q=>absurd q (Nat.lt_irrefl _)))
   have n1:Hid (L.length=0 ∨ ∃ ad,some (⟨g,0,none⟩:Addr)=some ad∧∀ W,Below w.heap.size w W→∀ j u,(nints (L.take L.length))[j]?=some u→W.cell? (ad.add j)=some u):=Lib.hid (.inr ⟨_,rfl,fun W hb=>news_cells (fun i hi=>by
    have hi2:i < L.length:=by simpa using hi
    have:=cell_next (HCE.out i (by omega)) hb
    rw [Nat.zero_add,this]; simp)⟩)
   by_cases hkc:L.length=c
   ·go_wp2_with fail
    refine putreg_l w (.slice (some ⟨g,0,none⟩) L.length c) (.slice (some ⟨g,0,none⟩) L.length c) (.slice (some ⟨g,0,none⟩) (L.length - L.length) (c - L.length)) (some ⟨g,0,none⟩) (some ⟨g,0,none⟩) c (c - L.length) L.length x L hk hL rfl rfl n1.out (.inl (Nat.sub_self _)) _ _ _ _ _ _ _ _ _ _ _ _ _ _ _ _ _ _ _ _ _ _ _ _ _ _ _ _ _ _ _ _ _ _ _ _ _ _ _ _ _  _ (fun _ _ _ _ _ h=>h) ?_ ?_ ?_
    ·intro a w' e1 e2
     go_simp
     try (intro q; omega)
    ·intro a w' e1 e2
     go_simp
     try (intro q; omega)
    ·intro y33 y34 y35 y36 y37 y38 y39 y40 y41 y42 y43 v4 W' hv hf hb
     have HV:=Lib.hid hv
     have HB:=Lib.hid hb
     clear hv hb
     go_wp2_with fail
     go_ret
     exact ⟨⟨v4,_,rfl,HV.out,HP.out,.inr hf⟩,HB.out⟩
   ·go_wp2_with fail
    refine putreg_l w (.slice (some ⟨g,0,none⟩) L.length c) (.slice (some ⟨g,0,none⟩) L.length c) (.slice (some ⟨g,L.length,none⟩) (L.length - L.length) (c - L.length)) (some ⟨g,0,none⟩) (some ⟨g,L.length,none⟩) c (c - L.length) L.length x L hk hL rfl rfl n1.out (.inl (Nat.sub_self _)) _ _ _ _ _ _ _ _ _ _ _ _ _ _ _ _ _ _ _ _ _ _ _ _ _ _ _ _ _ _ _ _ _ _ _ _ _ _ _ _ _  _ (fun _ _ _ _ _ h=>h) ?_ ?_ ?_
    ·intro a w' e1 e2
     go_simp
     try (intro q; omega)
    ·intro a w' e1 e2
     go_simp
     try (intro q; omega)
    ·intro y33 y34 y35 y36 y37 y38 y39 y40 y41 y42 y43 v4 W' hv hf hb
     have HV:=Lib.hid hv
     have HB:=Lib.hid hb
     clear hv hb
     go_wp2_with fail
     go_ret
     exact ⟨⟨v4,_,rfl,HV.out,HP.out,.inr hf⟩,HB.out⟩
theorem put_any (v:Value) (L:List Int) (x:Int) (w:World) (h:LV w v L) (hL:L.length≤1000) :
  Calls Try.prog 85 #[v,.int .i64 x] w fun e w'=>GivesN w v w' e (PutOk L x)∧Below w.heap.size w w':=by
 have HLV:=Lib.hid h
 rcases h.form with ⟨rfl,rfl⟩ | ⟨g,c,rfl,_,hc,_,hcell⟩
 ·exact put_nil x w
 ·exact put_some g c L x w HLV hL hc hcell
end Go.Proofs.Yteghpophcnehgaa
namespace Go.Proofs.Yteghpophcnehgaa
open Go.RowKit ExprA SndA
namespace SndA
theorem LV.sl {w:World} {v:Value} {L:List Int} (h:LV w v L):∃ a c,v=.slice a L.length c∧∀ i,i < L.length→∃ g,a=some ⟨g,0,none⟩∧w.cell? ⟨g,i,none⟩=some (.int .i64 (L.getD i 0)):=by
 rcases h.form with ⟨rfl,rfl⟩ | ⟨g,c,rfl,_,_,_,hcell⟩
 ·exact ⟨none,0,rfl,fun i hi=>absurd hi (Nat.not_lt_zero _)⟩
 ·exact ⟨_,c,rfl,fun i hi=>⟨g,rfl,hcell i hi⟩⟩
structure BothOk (A B L':List Int):Prop where
 up:Rise A→Rise L'
 mem:∀ x ∈ L',x ∈ A ∨ x ∈ B
 all:(∀ x ∈ A,x ∈ L')∧∀ x ∈ B,x ∈ L'
 len:L'.length≤A.length + B.length
theorem both_zero (A:List Int):BothOk A [] A:=⟨id,fun _ h=>.inl h,⟨fun _ h=>h,fun _ h=>by cases h⟩,Nat.le_refl _⟩
theorem both_step {A B L M:List Int} {i:Nat} (hi:i < B.length) (h:BothOk A (B.take i) L) (g:PutOk L (B.getD i 0) M):BothOk A (B.take (i + 1)) M:=by
 have e:B.take (i + 1)=B.take i ++ [B.getD i 0]:=by
  rw [List.take_add_one,List.getD_eq_getElem?_getD,List.getElem?_eq_getElem hi]; rfl
 rw [e]
 refine ⟨fun r=>g.up (h.up r),fun x hx=>?_,⟨fun x hx=>g.all.2 x (h.all.1 x hx),fun x hx=>?_⟩,?_⟩
 ·rcases g.mem x hx with q | q
  ·exact .inr (List.mem_append_right _ (by simp [q]))
  ·rcases h.mem x q with r | r
   ·exact .inl r
   ·exact .inr (List.mem_append_left _ r)
 ·rcases List.mem_append.1 hx with q | q
  ·exact g.all.2 x (h.all.2 x q)
  ·rw [List.mem_singleton] at q; subst q; exact g.all.1
 ·have:=g.len
  have:=h.len
  simp only [List.length_append,List.length_singleton]; omega
end SndA
set_option maxRecDepth 20000 in
set_option maxHeartbeats 4000000 in
theorem both_any (va vb:Value) (A B:List Int) (w:World) (ha:LV w va A) (hb:LV w vb B) (hl:A.length + B.length≤1000) :
  Calls Try.prog 77 #[va,vb] w fun e w'=>GivesN w va w' e (BothOk A B)∧Below w.heap.size w w':=by
 have HA:=Lib.hid ha
 obtain ⟨ab,cb,rfl,hcb⟩:=hb.sl
 have HC:=Lib.hid hcb
 clear ha hb hcb
 have hBi:(B.length:Int)≤1000:=by omega
 go_enter Try.func77,Try.ntmps77
 go_wp2_with fail
 go_loopw [0,5] (fun z0 z5 wr=>∃ (i:Nat) (L:List Int),i≤B.length∧z5=.int .i64 i∧Hid (LV wr z0 L)∧Hid (BothOk A (B.take i) L)∧Hid (NewV w va z0)∧Hid (Below w.heap.size w wr)) (fun _ z5 _=>B.length - (intOf z5).toNat)
 case atStart=>exact ⟨0,A,Nat.zero_le _,rfl,HA,Lib.hid (both_zero A),Lib.hid (.inl rfl),Lib.hid (Below.refl _ _)⟩
 case round=>
  obtain ⟨i,L,hi,rfl,HL,HB,HN,HW⟩:=hrel
  have hi1:(i:Int)≤1000:=by omega
  by_cases hlt:i < B.length
  ·have d1:decide ((i:Int) < (B.length:Int))=true:=by simp; omega
   have i1:(i:Int) < (B.length:Int):=by omega
   obtain ⟨g,hg,hce⟩:=HC.out i hlt
   have ce:=cell_next hce HW.out
   clear hce
   subst hg
   obtain ⟨y,hy⟩:∃ y,B.getD i 0=y:=⟨_,rfl⟩
   rw [hy] at ce
   go_wp2_with fail
   refine (put_any _ L y _ HL.out (by have:=HB.out.len; simp at this; omega)).mono ?_
   rintro e w' ⟨⟨v',L',rfl,hv,hp,hn⟩,hb⟩
   have HN2:=Lib.hid (HN.out.step hn HW.out.size)
   have HV:=Lib.hid hv
   have HP:=Lib.hid (both_step hlt HB.out (by rw [hy]; exact hp))
   have HW2:=Lib.hid (below_next HW.out hb)
   clear hv hp hb hn
   go_wp2_with fail
   go_roundw
   case rel=>exact ⟨i + 1,L',by omega,by go_num,HV,HP,HN2,HW2⟩
   case measure=>simp [intOf]; omega
  ·have d1:decide ((i:Int) < (B.length:Int))=false:=by simp; omega
   obtain rfl:i=B.length:=by omega
   go_wp2_with fail
   go_ret
   exact ⟨⟨_,L,rfl,HL.out,by have:=HB.out; rwa [List.take_length] at this,HN.out⟩,HW.out⟩
end Go.Proofs.Yteghpophcnehgaa
