/-
  What the functions that the law reaches do, one by one: contracts. Conditions: those that each of them prints.
-/
import Derived.Test.YteghpophcnehgaaMl
import Derived.WalkKit
import Derived.Deep.Quiet
namespace Go.Proofs.Yteghpophcnehgaa
open Go.RowKit ExprA SndA
namespace SndA
def lexlt (a b:Int × Int):Prop:=a.1 < b.1 ∨ a.1=b.1∧a.2 < b.2
theorem lex_trans {a b c:Int × Int} (h:lexlt a b) (g:lexlt b c):lexlt a c:=by unfold lexlt at *; omega
theorem lex_next {a b:Int × Int} (h:¬ lexlt a b) (hn:a ≠ b):lexlt b a:=by
 unfold lexlt at *
 obtain ⟨x,y⟩:=a
 obtain ⟨u,v⟩:=b
 simp only [ne_eq,Prod.mk.injEq] at hn
 simp only at h ⊢
 omega
theorem ins_pw {α:Type} (r:α→α→Prop) (tr:∀ {a b c},r a b→r b c→r a c) {L:List α} {p:α} {k:Nat} (h:L.Pairwise r) (h1:∀ x ∈ L.take k,r x p) (h2:∀ x ∈ L.drop k,r p x):(L.take k ++ [p] ++ L.drop k).Pairwise r:=by
 refine List.pairwise_append.2 ⟨List.pairwise_append.2 ⟨List.Pairwise.sublist (List.take_sublist k L) h,List.pairwise_singleton _ _,fun a ha b hb=>?_⟩,List.Pairwise.sublist (List.drop_sublist k L) h,fun a ha b hb=>?_⟩
 ·rw [List.mem_singleton] at hb; subst hb; exact h1 a ha
 ·rcases List.mem_append.1 ha with q | q
  ·exact tr (h1 a q) (h2 b hb)
  ·rw [List.mem_singleton] at q; subst q; exact h2 b hb
structure PairsOk (L:List (Int × Int)) (A:List Int) (b:Int) (M:List (Int × Int)):Prop where
 up:L.Pairwise lexlt→(∀ p ∈ L,p.2 < b)→Rise A→M.Pairwise lexlt
 mem:∀ p ∈ M,p ∈ L ∨ (p.2=b∧p.1 ∈ A)
 len:M.length=L.length + A.length
theorem pairs_zero (L:List (Int × Int)) (b:Int):PairsOk L [] b L:=⟨fun h _ _=>h,fun _ h=>.inl h,rfl⟩
theorem pairs_step {L M:List (Int × Int)} {A:List Int} {b r:Int} {i k:Nat} (hi:i < A.length) (hr:A.getD i 0=r) (h:PairsOk L (A.take i) b M) (hk:k≤M.length) (h1:∀ j,j < k→lexlt (M.getD j (0,0)) (r,b)) (h2:k < M.length→¬ lexlt (M.getD k (0,0)) (r,b)) :
  PairsOk L (A.take (i + 1)) b (M.take k ++ [(r,b)] ++ M.drop k):=by
 have e:=take_one hi (0:Int)
 rw [hr] at e
 rw [e]
 refine ⟨fun g1 g2 g3=>?_,fun p hp=>?_,?_⟩
 ·have g4:Rise (A.take i):=List.Pairwise.sublist (List.sublist_append_left _ _) g3
  have hM:=h.up g1 g2 g4
  have hno:(r,b) ∉ M:=fun q=>by
   rcases h.mem _ q with s | ⟨_,s⟩
   ·exact absurd (g2 _ s) (Int.lt_irrefl _)
   ·exact absurd ((List.pairwise_append.1 g3).2.2 r s r (List.mem_singleton.2 rfl)) (Int.lt_irrefl _)
  refine ins_pw lexlt lex_trans hM (fun x hx=>?_) (fun x hx=>?_)
  ·obtain ⟨j,hj,rfl⟩:=List.mem_iff_getElem.1 hx
   have hj2:j < k:=by simp at hj; omega
   have:=h1 j hj2
   rw [List.getElem_take]
   rwa [List.getD_eq_getElem?_getD,List.getElem?_eq_getElem (by omega)] at this
  ·obtain ⟨j,hj,rfl⟩:=List.mem_iff_getElem.1 hx
   have hj2:k + j < M.length:=by simp at hj; omega
   rw [List.getElem_drop]
   have h0:lexlt (r,b) (M.getD k (0,0)):=lex_next (h2 (by omega)) (fun q=>hno (by rw [← q,List.getD_eq_getElem?_getD,List.getElem?_eq_getElem (by omega)]; exact List.getElem_mem _))
   rw [List.getD_eq_getElem?_getD,List.getElem?_eq_getElem (by omega)] at h0
   simp only [Option.getD_some] at h0
   rcases Nat.eq_zero_or_pos j with c | c
   ·subst c; simpa using h0
   ·exact lex_trans h0 (List.pairwise_iff_getElem.1 hM k (k + j) (by omega) hj2 (by omega))
 ·rcases List.mem_append.1 hp with q | q
  ·rcases List.mem_append.1 q with s | s
   ·rcases h.mem p (List.mem_of_mem_take s) with u | ⟨u,v⟩
    ·exact .inl u
    ·exact .inr ⟨u,List.mem_append_left _ v⟩
   ·rw [List.mem_singleton] at s; subst s; exact .inr ⟨rfl,by simp⟩
  ·rcases h.mem p (List.mem_of_mem_drop q) with u | ⟨u,v⟩
   ·exact .inl u
   ·exact .inr ⟨u,List.mem_append_left _ v⟩
 ·have:=h.len
  simp only [List.length_append,List.length_take,List.length_drop,List.length_singleton] at this ⊢
  omega
def GivesP (w:World) (v0:Value) (w':World) (e:Ending) (P:List (Int × Int)→Prop):Prop:=∃ v' L',e=.returned v'∧PV w' v' L'∧P L'∧NewV w v0 v'
end SndA
set_option maxRecDepth 20000 in
set_option maxHeartbeats 8000000 in
theorem pairs_any (v va:Value) (L:List (Int × Int)) (A:List Int) (b:Int) (w:World) (hv:PV w v L) (ha:LV w va A) (hl:L.length + A.length≤1000) :
  Calls Try.prog 78 #[v,va,.int .i64 b] w fun e w'=>GivesP w v w' e (PairsOk L A b)∧Below w.heap.size w w':=by
 have HV0:=Lib.hid hv
 obtain ⟨ab,cb,rfl,hcb⟩:=ha.sl
 have HC:=Lib.hid hcb
 clear ha hv hcb
 have hAi:(A.length:Int)≤1000:=by omega
 go_enter Try.func78,Try.ntmps78
 go_wp2_with fail
 go_loopw [0,7] (fun z0 z7 wr=>∃ (q:Nat) (M:List (Int × Int)),q≤A.length∧z7=.int .i64 q∧Hid (PV wr z0 M)∧Hid (PairsOk L (A.take q) b M)∧Hid (NewV w v z0)∧Hid (Below w.heap.size w wr)) (fun _ z7 _=>A.length - (intOf z7).toNat)
 case atStart=>exact ⟨0,L,Nat.zero_le _,rfl,HV0,Lib.hid (pairs_zero L b),Lib.hid (.inl rfl),Lib.hid (Below.refl _ _)⟩
 case round=>
  obtain ⟨q,M,hq,rfl,HM,HK,HN,HB⟩:=hrel
  have hqi:(q:Int)≤1000:=by omega
  have hMl:M.length≤1000:=by have:=HK.out.len; simp only [List.length_take] at this; omega
  have hMi:(M.length:Int)≤1000:=by omega
  by_cases hlt:q < A.length
  ·have d1:decide ((q:Int) < (A.length:Int))=true:=by simp; omega
   have i1:(q:Int) < (A.length:Int):=by omega
   obtain ⟨ga,hga,hce⟩:=HC.out q hlt
   have ce:=cell_next hce HB.out
   clear hce
   subst hga
   obtain ⟨r,hr⟩:∃ r,A.getD q 0=r:=⟨_,rfl⟩
   rw [hr] at ce
   go_wp2_with fail
   obtain ⟨w1,hw1⟩:∃ x,x=wr.alloc (Obj.cells #[.int .i64 r,.int .i64 b] 123 (0,0)):=⟨_,rfl⟩
   obtain ⟨pb,hpb⟩:∃ x,x=wr.heap.size:=⟨_,rfl⟩
   have hbx:w1.heap[pb]?=some (Obj.cells #[.int .i64 r,.int .i64 b] 123 (0,0)):=by rw [hw1,hpb]; exact heap_alloc_new _ _
   have b0:w1.cell? ⟨pb,0,none⟩=some (.int .i64 r):=by simp only [World.cell?,hbx]; rfl
   have b1:w1.cell? ⟨pb,1,none⟩=some (.int .i64 b):=by simp only [World.cell?,hbx]; rfl
   have HB0:Hid (Below wr.heap.size wr w1):=Lib.hid (by rw [hw1]; exact (Below.refl _ _).alloc (Nat.le_refl _) _)
   have HB1:=Lib.hid (below_next HB.out HB0.out)
   have HM1:=Lib.hid (HM.out.next HB0.out)
   rw [← hw1,← hpb]
   clear hw1 hpb hbx ce
   rcases HM1.out.form with ⟨rfl,rfl⟩ | ⟨g,cc,rfl,hg,hcp,hcm,hcell⟩
   ·have HP:=Lib.hid (pairs_step (k:=0) hlt hr HK.out (Nat.le_refl _) (fun j hj=>absurd hj (Nat.not_lt_zero _)) (fun hj=>absurd hj (Nat.not_lt_zero _)))
    go_loopw [9] (fun y wq=>y=.int .i64 0∧Hid (Below w1.heap.size w1 wq)) (fun _ _=>0)
    case atStart=>exact ⟨rfl,Lib.hid (Below.refl _ _)⟩
    case round=>
     obtain ⟨rfl,HBQ⟩:=hrel
     obtain ⟨wq,hwq⟩:∃ x,x=wr:=⟨_,rfl⟩
     subst hwq
     go_wp2_with fail
     go_quiet (fail)
     go_wp2_with fail
     generalize hW:World.drewN wq _=W
     have HBW:Hid (Below w1.heap.size w1 W):=Lib.hid (by rw [← hW]; exact below_next HBQ.out (bel_drewN _ _))
     clear hW
     have e1:=cell_next b0 HBW.out
     have e2:=cell_next b1 HBW.out
     refine pairreg_l W (.slice none 0 0) (.slice none 0 0) (.slice none 0 0) none none pb 0 0 0 r b [] (Nat.le_refl _) (Nat.zero_le _) e1 e2 rfl rfl (.inl rfl) (.inl rfl) _ _ _ _ _ _ _ _ _ _ _ _ _ _ _ _ _ _ _ _ _ _ _ _ _ _ _ _ _ _ _ _ _ _ _ _ _ _ _ _ _ _ _ _ _ _ _ _ _ _ _ _ _ _ _ _ _ _ _ _ _ _ _ _ _ _ _  _ (fun _ _ _ _ _ h=>h) ?_ ?_ ?_
     ·intro a w' e1 e2
      go_simp
      try (intro q; omega)
     ·intro a w' e1 e2
      go_simp
      try (intro q; omega)
     ·intro y58 y59 y60 y61 y62 y63 y64 y65 y66 y67 y68 v0 W' hv hf hb
      have HV:=Lib.hid hv
      have HN2:Hid (NewV w v v0):=Lib.hid (.inr fun b q=>Nat.le_trans (Nat.le_trans HB1.out.size HBW.out.size) (hf b q))
      have HB3:=Lib.hid (below_next HBW.out hb)
      clear hv hb hf
      go_wp2_with fail
      go_roundw
      case rel=>exact ⟨q + 1,_,hlt,by go_num,HV,HP,HN2,Lib.hid (below_next HB1.out HB3.out)⟩
      case measure=>simp [intOf]; omega
   ·have HCE:=Lib.hid hcell
    clear hcell
    have hcc1:(M.length:Int)≤(cc:Int):=by omega
    go_loopw [9] (fun y wq=>∃ k:Nat,k≤M.length∧y=.int .i64 (k:Int)∧Hid (Below w1.heap.size w1 wq)∧Hid (∀ j,j < k→lexlt (M.getD j (0,0)) (r,b))) (fun y _=>M.length - (intOf y).toNat)
    case atStart=>exact ⟨0,Nat.zero_le _,rfl,Lib.hid (Below.refl _ _),Lib.hid (fun j hj=>absurd hj (Nat.not_lt_zero _))⟩
    case round=>
     obtain ⟨k,hk,rfl,HBQ,HJ⟩:=hrel
     obtain ⟨wq,hwq⟩:∃ x,x=wr:=⟨_,rfl⟩
     subst hwq
     have hki:(k:Int)≤1000:=by omega
     have y0:=cell_next b0 HBQ.out
     have y1:=cell_next b1 HBQ.out
     by_cases hkl:k < M.length
     ·have d3:decide ((k:Int) < (M.length:Int))=true:=by rw [decide_eq_true_iff]; omega
      have i3:(k:Int) < (M.length:Int):=by omega
      have z0:=cell_next (HCE.out k hkl).1 HBQ.out
      have z1:=cell_next (HCE.out k hkl).2 HBQ.out
      have hkc:(k:Int) < (cc:Int):=by omega
      obtain ⟨x,y,hxe⟩:∃ x y,M.getD k (0,0)=(x,y):=⟨_,_,rfl⟩
      rw [hxe] at z0 z1
      dsimp only at z0 z1
      by_cases hx:x < r
      ·have d4:decide (x < r)=true:=by simp [hx]
       have HJ2:Hid (∀ j,j < k + 1→lexlt (M.getD j (0,0)) (r,b)):=Lib.hid (fun j hj=>by
        by_cases q:j=k
        ·subst q; rw [hxe]; exact .inl hx
        ·exact HJ.out j (by omega))
       clear hx
       go_wp2_with fail
       go_quiet (fail)
       go_wp2_with fail
       go_roundw
       case rel=>exact ⟨k + 1,hkl,by go_num,Lib.hid (below_next HBQ.out (bel_drewN _ _)),HJ2⟩
       case measure=>simp [intOf]; omega
      ·have d4:decide (x < r)=false:=by simp [hx]
       by_cases hxr:x=r
       ·have d5:(x == r)=true:=by simp [hxr]
        by_cases hy:y < b
        ·have d6:decide (y < b)=true:=by simp [hy]
         have HJ2:Hid (∀ j,j < k + 1→lexlt (M.getD j (0,0)) (r,b)):=Lib.hid (fun j hj=>by
          by_cases q:j=k
          ·subst q; rw [hxe]; exact .inr ⟨hxr,hy⟩
          ·exact HJ.out j (by omega))
         clear hx hy hxr
         go_wp2_with fail
         go_quiet (fail)
         go_wp2_with fail
         go_roundw
         case rel=>exact ⟨k + 1,hkl,by go_num,Lib.hid (below_next HBQ.out (bel_drewN _ _)),HJ2⟩
         case measure=>simp [intOf]; omega
        ·have d6:decide (y < b)=false:=by simp [hy]
         have HP:=Lib.hid (pairs_step (k:=k) hlt hr HK.out hk HJ.out (fun _ q=>by rw [hxe] at q; unfold lexlt at q; simp only at q; omega))
         clear hx hy hxr
         have j1:k≤cc:=by omega
         have j3:¬ cc=k:=by omega
         go_wp2_with fail
         go_quiet (fail)
         go_wp2_with fail
         generalize hW:World.drewN wq _=W
         have HBW:Hid (Below w1.heap.size w1 W):=Lib.hid (by rw [← hW]; exact below_next HBQ.out (bel_drewN _ _))
         clear hW
         have e1:=cell_next b0 HBW.out
         have e2:=cell_next b1 HBW.out
         have HCW:Hid (∀ i,i < M.length→W.cell? ⟨g,i * 2,none⟩=some (.int .i64 (M.getD i (0,0)).1)∧W.cell? ⟨g,i * 2 + 1,none⟩=some (.int .i64 (M.getD i (0,0)).2)):=Lib.hid (fun i hi=>⟨cell_next (HCE.out i hi).1 HBW.out,cell_next (HCE.out i hi).2 HBW.out⟩)
         refine pairreg_l W (.slice (some ⟨g,0,none⟩) M.length cc) (.slice (some ⟨g,0,none⟩) k cc) (.slice (some ⟨g,k * 2,none⟩) (M.length - k) (cc - k)) (some ⟨g,0,none⟩) (some ⟨g,k * 2,none⟩) pb cc (cc - k) k r b M hk hMl e1 e2 rfl rfl (.inr ⟨_,rfl,ptake_news HCW.out hk⟩) (.inr ⟨_,rfl,pdrop_news HCW.out⟩) _ _ _ _ _ _ _ _ _ _ _ _ _ _ _ _ _ _ _ _ _ _ _ _ _ _ _ _ _ _ _ _ _ _ _ _ _ _ _ _ _ _ _ _ _ _ _ _ _ _ _ _ _ _ _ _ _ _ _ _ _ _ _ _ _ _ _  _ (fun _ _ _ _ _ h=>h) ?_ ?_ ?_
         ·intro a w' e1 e2
          go_simp
          try (intro q; omega)
         ·intro a w' e1 e2
          go_simp
          try (intro q; omega)
         ·intro y58 y59 y60 y61 y62 y63 y64 y65 y66 y67 y68 v0 W' hv hf hb
          have HV:=Lib.hid hv
          have HN2:Hid (NewV w v v0):=Lib.hid (.inr fun b q=>Nat.le_trans (Nat.le_trans HB1.out.size HBW.out.size) (hf b q))
          have HB3:=Lib.hid (below_next HBW.out hb)
          clear hv hb hf
          go_wp2_with fail
          go_roundw
          case rel=>exact ⟨q + 1,_,hlt,by go_num,HV,HP,HN2,Lib.hid (below_next HB1.out HB3.out)⟩
          case measure=>simp [intOf]; omega
       ·have d5:(x == r)=false:=by simp [hxr]
        have HP:=Lib.hid (pairs_step (k:=k) hlt hr HK.out hk HJ.out (fun _ q=>by rw [hxe] at q; unfold lexlt at q; simp only at q; omega))
        clear hx hxr
        have j1:k≤cc:=by omega
        have j3:¬ cc=k:=by omega
        go_wp2_with fail
        go_quiet (fail)
        go_wp2_with fail
        generalize hW:World.drewN wq _=W
        have HBW:Hid (Below w1.heap.size w1 W):=Lib.hid (by rw [← hW]; exact below_next HBQ.out (bel_drewN _ _))
        clear hW
        have e1:=cell_next b0 HBW.out
        have e2:=cell_next b1 HBW.out
        have HCW:Hid (∀ i,i < M.length→W.cell? ⟨g,i * 2,none⟩=some (.int .i64 (M.getD i (0,0)).1)∧W.cell? ⟨g,i * 2 + 1,none⟩=some (.int .i64 (M.getD i (0,0)).2)):=Lib.hid (fun i hi=>⟨cell_next (HCE.out i hi).1 HBW.out,cell_next (HCE.out i hi).2 HBW.out⟩)
        refine pairreg_l W (.slice (some ⟨g,0,none⟩) M.length cc) (.slice (some ⟨g,0,none⟩) k cc) (.slice (some ⟨g,k * 2,none⟩) (M.length - k) (cc - k)) (some ⟨g,0,none⟩) (some ⟨g,k * 2,none⟩) pb cc (cc - k) k r b M hk hMl e1 e2 rfl rfl (.inr ⟨_,rfl,ptake_news HCW.out hk⟩) (.inr ⟨_,rfl,pdrop_news HCW.out⟩) _ _ _ _ _ _ _ _ _ _ _ _ _ _ _ _ _ _ _ _ _ _ _ _ _ _ _ _ _ _ _ _ _ _ _ _ _ _ _ _ _ _ _ _ _ _ _ _ _ _ _ _ _ _ _ _ _ _ _ _ _ _ _ _ _ _ _  _ (fun _ _ _ _ _ h=>h) ?_ ?_ ?_
        ·intro a w' e1 e2
         go_simp
         try (intro q; omega)
        ·intro a w' e1 e2
         go_simp
         try (intro q; omega)
        ·intro y58 y59 y60 y61 y62 y63 y64 y65 y66 y67 y68 v0 W' hv hf hb
         have HV:=Lib.hid hv
         have HN2:Hid (NewV w v v0):=Lib.hid (.inr fun b q=>Nat.le_trans (Nat.le_trans HB1.out.size HBW.out.size) (hf b q))
         have HB3:=Lib.hid (below_next HBW.out hb)
         clear hv hb hf
         go_wp2_with fail
         go_roundw
         case rel=>exact ⟨q + 1,_,hlt,by go_num,HV,HP,HN2,Lib.hid (below_next HB1.out HB3.out)⟩
         case measure=>simp [intOf]; omega
     ·have d3:decide ((k:Int) < (M.length:Int))=false:=by rw [decide_eq_false_iff_not]; omega
      have i3:¬ (k:Int) < (M.length:Int):=by omega
      obtain rfl:k=M.length:=by omega
      have HP:=Lib.hid (pairs_step (k:=M.length) hlt hr HK.out hk HJ.out (fun q=>absurd q (Nat.lt_irrefl _)))
      by_cases hkc:M.length=cc
      ·subst hkc
       go_wp2_with fail
       go_quiet (fail)
       go_wp2_with fail
       generalize hW:World.drewN wq _=W
       have HBW:Hid (Below w1.heap.size w1 W):=Lib.hid (by rw [← hW]; exact below_next HBQ.out (bel_drewN _ _))
       clear hW
       have e1:=cell_next b0 HBW.out
       have e2:=cell_next b1 HBW.out
       have HCW:Hid (∀ i,i < M.length→W.cell? ⟨g,i * 2,none⟩=some (.int .i64 (M.getD i (0,0)).1)∧W.cell? ⟨g,i * 2 + 1,none⟩=some (.int .i64 (M.getD i (0,0)).2)):=Lib.hid (fun i hi=>⟨cell_next (HCE.out i hi).1 HBW.out,cell_next (HCE.out i hi).2 HBW.out⟩)
       refine pairreg_l W (.slice (some ⟨g,0,none⟩) M.length M.length) (.slice (some ⟨g,0,none⟩) M.length M.length) (.slice (some ⟨g,0,none⟩) (M.length - M.length) (M.length - M.length)) (some ⟨g,0,none⟩) (some ⟨g,0,none⟩) pb M.length (M.length - M.length) M.length r b M hk hMl e1 e2 rfl rfl (.inr ⟨_,rfl,ptake_news HCW.out hk⟩) (.inl (Nat.sub_self _)) _ _ _ _ _ _ _ _ _ _ _ _ _ _ _ _ _ _ _ _ _ _ _ _ _ _ _ _ _ _ _ _ _ _ _ _ _ _ _ _ _ _ _ _ _ _ _ _ _ _ _ _ _ _ _ _ _ _ _ _ _ _ _ _ _ _ _  _ (fun _ _ _ _ _ h=>h) ?_ ?_ ?_
       ·intro a w' e1 e2
        go_simp
        try (intro q; omega)
       ·intro a w' e1 e2
        go_simp
        try (intro q; omega)
       ·intro y58 y59 y60 y61 y62 y63 y64 y65 y66 y67 y68 v0 W' hv hf hb
        have HV:=Lib.hid hv
        have HN2:Hid (NewV w v v0):=Lib.hid (.inr fun b q=>Nat.le_trans (Nat.le_trans HB1.out.size HBW.out.size) (hf b q))
        have HB3:=Lib.hid (below_next HBW.out hb)
        clear hv hb hf
        go_wp2_with fail
        go_roundw
        case rel=>exact ⟨q + 1,_,hlt,by go_num,HV,HP,HN2,Lib.hid (below_next HB1.out HB3.out)⟩
        case measure=>simp [intOf]; omega
      ·go_wp2_with fail
       go_quiet (fail)
       go_wp2_with fail
       generalize hW:World.drewN wq _=W
       have HBW:Hid (Below w1.heap.size w1 W):=Lib.hid (by rw [← hW]; exact below_next HBQ.out (bel_drewN _ _))
       clear hW
       have e1:=cell_next b0 HBW.out
       have e2:=cell_next b1 HBW.out
       have HCW:Hid (∀ i,i < M.length→W.cell? ⟨g,i * 2,none⟩=some (.int .i64 (M.getD i (0,0)).1)∧W.cell? ⟨g,i * 2 + 1,none⟩=some (.int .i64 (M.getD i (0,0)).2)):=Lib.hid (fun i hi=>⟨cell_next (HCE.out i hi).1 HBW.out,cell_next (HCE.out i hi).2 HBW.out⟩)
       refine pairreg_l W (.slice (some ⟨g,0,none⟩) M.length cc) (.slice (some ⟨g,0,none⟩) M.length cc) (.slice (some ⟨g,M.length * 2,none⟩) (M.length - M.length) (cc - M.length)) (some ⟨g,0,none⟩) (some ⟨g,M.length * 2,none⟩) pb cc (cc - M.length) M.length r b M hk hMl e1 e2 rfl rfl (.inr ⟨_,rfl,ptake_news HCW.out hk⟩) (.inl (Nat.sub_self _)) _ _ _ _ _ _ _ _ _ _ _ _ _ _ _ _ _ _ _ _ _ _ _ _ _ _ _ _ _ _ _ _ _ _ _ _ _ _ _ _ _ _ _ _ _ _ _ _ _ _ _ _ _ _ _ _ _ _ _ _ _ _ _ _ _ _ _  _ (fun _ _ _ _ _ h=>h) ?_ ?_ ?_
       ·intro a w' e1 e2
        go_simp
        try (intro q; omega)
       ·intro a w' e1 e2
        go_simp
        try (intro q; omega)
       ·intro y58 y59 y60 y61 y62 y63 y64 y65 y66 y67 y68 v0 W' hv hf hb
        have HV:=Lib.hid hv
        have HN2:Hid (NewV w v v0):=Lib.hid (.inr fun b q=>Nat.le_trans (Nat.le_trans HB1.out.size HBW.out.size) (hf b q))
        have HB3:=Lib.hid (below_next HBW.out hb)
        clear hv hb hf
        go_wp2_with fail
        go_roundw
        case rel=>exact ⟨q + 1,_,hlt,by go_num,HV,HP,HN2,Lib.hid (below_next HB1.out HB3.out)⟩
        case measure=>simp [intOf]; omega
  ·have d1:decide ((q:Int) < (A.length:Int))=false:=by simp; omega
   obtain rfl:q=A.length:=by omega
   go_wp2_with fail
   go_ret
   exact ⟨⟨_,M,rfl,HM.out,by have:=HK.out; rwa [List.take_length] at this,HN.out⟩,HB.out⟩
end Go.Proofs.Yteghpophcnehgaa
