/-
  What the functions that the law reaches do, one by one: contracts. Conditions: those that each of them prints.
-/
import Derived.Test.YteghpophcnehgaaMzl
import Derived.WalkKit
import Derived.Deep.DeepCutAuto
import Derived.Deep.CutBlock
namespace Go.Proofs.Yteghpophcnehgaa
open Go.RowKit ExprA SndA
namespace SndA
def LotOk (n:Nat) (L:List (List Int)):Prop:=L.length≤n∧∀ l ∈ L,l.length≤3
def LotsV (b:Nat) (w':World) (e:Ending):Prop:=∃ v M ms,e=.returned v∧L3 b w' v M ms∧M.length≤200001∧∀ L ∈ M,LotOk 4 L
theorem L3.one1 (w:World):L3 w.heap.size (w.alloc (.cells #[.slice none 0 0] 35 (0,0))) (.slice (some ⟨w.heap.size,0,none⟩) 1 1) [[]] [.slice none 0 0]:=
 ⟨⟨rfl,.inr ⟨w.heap.size,1,_,rfl,Nat.le_refl _,heap_alloc_new _ _,Nat.le_refl _,by decide,rfl,rfl⟩⟩,rfl,fun i hi=>by
  have:i=0:=by simp at hi; exact hi
  subst this
  exact ⟨[],LB.nil _ _⟩⟩
theorem mem_getD {α:Type} {L:List α} {i:Nat} (h:i < L.length) (d:α):L.getD i d ∈ L:=by
 rw [List.getD_eq_getElem?_getD,List.getElem?_eq_getElem h]; exact List.getElem_mem _
end SndA
set_option maxRecDepth 100000 in
set_option maxHeartbeats 32000000 in
theorem rlots_any (va:Value) (A:List (List (List Int))) (avl:List Value) (w:World) (hA:L3 0 w va A avl) (hAl:A.length≤4) (hAo:∀ L ∈ A,L.length≤20001∧∀ l ∈ L,l.length≤3) :
  Calls Try.prog 20 #[va] w fun e w'=>LotsV w.heap.size w' e∧Below w.heap.size w w':=by
 have HA:=Lib.hid hA
 have HAO:=Lib.hid hAo
 have hAi:(A.length:Int)≤4:=by omega
 obtain ⟨aa,ac,rfl⟩:=own_len hA.own
 clear hA hAo
 obtain ⟨w1,hw1⟩:∃ x,x=w.alloc (Obj.cells #[.slice none 0 0] 35 (0,0)):=⟨_,rfl⟩
 obtain ⟨sb,hsb⟩:∃ x,x=w.heap.size:=⟨_,rfl⟩
 have HL1:Hid (L3 w.heap.size w1 (.slice (some ⟨sb,0,none⟩) 1 1) [[]] [.slice none 0 0]):=Lib.hid (by rw [hw1,hsb]; exact L3.one1 w)
 have HB1:Hid (Below w.heap.size w w1):=Lib.hid (by rw [hw1]; exact (Below.refl _ _).alloc (Nat.le_refl _) _)
 have HSB:Hid (w.heap.size=sb):=Lib.hid hsb.symm
 have HW1:=Lib.hid hw1.symm
 clear hw1 hsb
 go_enter Try.func20,Try.ntmps20
 go_upto_region 2 with (fail)
 rw [HSB.out,HW1.out]
 go_wp2_with fail
 go_loopw [3,4] (fun x3 x4 wr=>∃ (i:Nat) (M:List (List (List Int))) (ms:List Value),i≤A.length∧x4=.int .i64 (i:Int)∧M.length≤200001∧Hid (L3 w.heap.size wr x3 M ms)∧Hid (∀ L ∈ M,LotOk i L)∧Hid (Below w.heap.size w wr)) (fun _ x4 _=>A.length - (intOf x4).toNat)
 case atStart=>exact ⟨0,[[]],_,Nat.zero_le _,rfl,by simp,HL1,Lib.hid (fun L hL=>by rw [List.mem_singleton] at hL; subst hL; exact ⟨Nat.le_refl _,fun l hl=>by cases hl⟩),HB1⟩
 case round=>
  obtain ⟨i,M,ms,hi,rfl,hMl,HM,HMO,HB⟩:=hrel
  obtain ⟨ma,mc,rfl⟩:=own_len HM.out.own
  have hii:(i:Int)≤4:=by omega
  have hMi:(M.length:Int)≤200001:=by omega
  by_cases hlt:i < A.length
  ·have d1:decide ((i:Int) < (A.length:Int))=true:=by rw [decide_eq_true_iff]; omega
   have i1:(i:Int) < (A.length:Int):=by omega
   obtain ⟨ag,ac',hce,hg,hcA⟩:=HA.out.cell hlt
   simp only [Value.slice.injEq] at hce
   obtain ⟨rfl,-,rfl⟩:=hce
   obtain ⟨avs,hav⟩:=HA.out.el i hlt
   have hao:=HAO.out _ (mem_getD hlt [])
   have HAV:=Lib.hid hav
   have HAOi:=Lib.hid hao
   obtain ⟨ja,jc,hje⟩:=own_len hav.own
   rw [hje] at HAV hcA
   have HCA:=Lib.hid hcA
   clear hav hcA hje hao
   generalize A.getD i []=Ai at *
   have hjl:(Ai.length:Int)≤20001:=by have:=HAOi.out.1; omega
   obtain ⟨w2,hw2⟩:∃ x,x=wr:=⟨_,rfl⟩
   have HB:Hid (Below w.heap.size w w2):=by rw [hw2]; exact HB
   have HM:Hid (L3 w.heap.size w2 (.slice ma M.length mc) M ms):=by rw [hw2]; exact HM
   rw [← hw2]
   clear hw2
   go_wp2_with fail
   go_loopw [5,6] (fun x5 x6 wr=>∃ (k:Nat) (M':List (List (List Int))) (ms':List Value),k≤M.length∧x6=.int .i64 (k:Int)∧M'.length≤200001∧Hid (L3 w2.heap.size wr x5 M' ms')∧Hid (∀ L ∈ M',LotOk (i + 1) L)∧Hid (Below w2.heap.size w2 wr)) (fun _ x6 _=>M.length - (intOf x6).toNat)
   case atStart=>exact ⟨0,[],[],Nat.zero_le _,rfl,by simp,Lib.hid (L3.nil _ _),Lib.hid (fun L hL=>by cases hL),Lib.hid (Below.refl _ _)⟩
   case round=>
    obtain ⟨k,M',ms',hk,rfl,hMl',HM',HMO',HB'⟩:=hrel
    have hki:(k:Int)≤200001:=by omega
    by_cases hkl:k < M.length
    ·have dk:decide ((k:Int) < (M.length:Int))=true:=by rw [decide_eq_true_iff]; omega
     have ik:(k:Int) < (M.length:Int):=by omega
     obtain ⟨mg,mc',hme,hmg,hcM⟩:=HM.out.cell hkl
     simp only [Value.slice.injEq] at hme
     obtain ⟨rfl,-,rfl⟩:=hme
     obtain ⟨mvs,hmv⟩:=HM.out.el k hkl
     have HMV:=Lib.hid hmv
     have HCM:=Lib.hid hcM
     have HMOk:=Lib.hid (HMO.out _ (mem_getD hkl []))
     clear hmv hcM
     generalize M.getD k []=L1 at *
     generalize ms.getD k undef=x1 at *
     go_wp2_with fail
     go_loopw [5,7] (fun x5 x7 wr=>∃ (j:Nat) (M2:List (List (List Int))) (ms2:List Value),j≤Ai.length∧x7=.int .i64 (j:Int)∧M2.length≤200001∧Hid (L3 w2.heap.size wr x5 M2 ms2)∧Hid (∀ L ∈ M2,LotOk (i + 1) L)∧Hid (Below w2.heap.size w2 wr)) (fun _ x7 _=>Ai.length - (intOf x7).toNat)
     case atStart=>exact ⟨0,M',ms',Nat.zero_le _,rfl,hMl',HM',HMO',HB'⟩
     case round=>
      obtain ⟨j,M2,ms2,hj,rfl,hMl2,HM2,HMO2,HB2⟩:=hrel
      obtain ⟨na,nc,rfl⟩:=own_len HM2.out.own
      have hji:(j:Int)≤20001:=by omega
      have hM2i:(M2.length:Int)≤200001:=by omega
      have cA:=cell_next HCA.out (below_next HB.out HB2.out)
      by_cases hjl2:j < Ai.length
      ·have dj:decide ((j:Int) < (Ai.length:Int))=true:=by rw [decide_eq_true_iff]; omega
       have ij:(j:Int) < (Ai.length:Int):=by omega
       by_cases h20:M2.length≤200000
       ·have d2:decide ((M2.length:Int)≤200000)=true:=by rw [decide_eq_true_iff]; omega
        have i2:(M2.length:Int)≤200000:=by omega
        obtain ⟨jg,jc',hje,hjg,hcJ⟩:=(HAV.out.next (below_next HB.out HB2.out)).cell hjl2
        simp only [Value.slice.injEq] at hje
        obtain ⟨rfl,-,rfl⟩:=hje
        have hx3:=(HAV.out.next (below_next HB.out HB2.out)).el j hjl2
        have ho3:=HAOi.out.2 _ (mem_getD hjl2 [])
        have HCJ:=Lib.hid hcJ
        have HX3:=Lib.hid hx3
        have HO3:=Lib.hid ho3
        have HH1:Hid (M2.length≤200000∧L1.length≤10):=Lib.hid ⟨h20,by have:=HMOk.out.1; omega⟩
        clear hcJ hx3 ho3
        go_wp2_with fail
        refine lotreg_l w2 _ ag A.length _ mg M.length _ jg Ai.length _ i k j _ x1 _ M2 ms2 L1 mvs _ HM2.out HB2.out.size HH1.out.1 i1 ik ij (cell_next HCM.out HB2.out) (HMV.out.next HB2.out) HH1.out.2 cA HCJ.out HX3.out _ _ _ _ _ _ _ _ _ _ _ _ _ _ _ _ _ _ _ _ _ _ _ _ _ _ _ _ _ _ _ _ _ _ _ _ _ _ _ _ _ _ _ _ _ _ _ _ _ (fun _ _ _ _ _ h=>h) ?_
        intro y0 y1 y2 y3 y4 y5 y6 y7 y8 y9 y10 y11 y12 y13 y14 y15 y16 v5 x5 W5 hM5 hF5 hN5
        have HM5:=Lib.hid hM5
        have HB5:Hid (Below w2.heap.size w2 W5):=Lib.hid (HB2.out.trans (hF5.below (fun b hb q=>by have:=(HM2.out.own.lt b q).1; omega) HB2.out.size))
        have HMO5:Hid (∀ L ∈ M2 ++ [L1 ++ [Ai.getD j []]],LotOk (i + 1) L):=Lib.hid (fun L hL=>by
         rcases List.mem_append.1 hL with q | q
         ·exact HMO2.out L q
         ·rw [List.mem_singleton] at q; subst q
          refine ⟨by have:=HMOk.out.1; simp; omega,fun l hl=>?_⟩
          rcases List.mem_append.1 hl with r | r
          ·exact HMOk.out.2 l r
          ·rw [List.mem_singleton] at r; subst r; exact HO3.out)
        have HL5:Hid ((M2 ++ [L1 ++ [Ai.getD j []]]).length≤200001):=Lib.hid (by simp; have:=HH1.out.1; omega)
        clear hM5 hF5 hN5 cA
        go_wp2_with fail
        go_roundw
        case rel=>exact ⟨j + 1,_,_,hjl2,by go_num,HL5.out,HM5,HMO5,HB5⟩
        case measure=>simp [intOf]; omega
       ·have d2:decide ((M2.length:Int)≤200000)=false:=by rw [decide_eq_false_iff_not]; omega
        have i2:¬ (M2.length:Int)≤200000:=by omega
        go_wp2_with fail
        go_roundw
        case rel=>exact ⟨k + 1,M2,ms2,hkl,by go_num,hMl2,HM2,HMO2,HB2⟩
        case measure=>simp [intOf]; omega
      ·have dj:decide ((j:Int) < (Ai.length:Int))=false:=by rw [decide_eq_false_iff_not]; omega
       have ij:¬ (j:Int) < (Ai.length:Int):=by omega
       go_wp2_with fail
       go_roundw
       case rel=>exact ⟨k + 1,M2,ms2,hkl,by go_num,hMl2,HM2,HMO2,HB2⟩
       case measure=>simp [intOf]; omega
    ·have dk:decide ((k:Int) < (M.length:Int))=false:=by rw [decide_eq_false_iff_not]; omega
     have ik:¬ (k:Int) < (M.length:Int):=by omega
     have HB9:Hid (Below w.heap.size w wr):=Lib.hid (HB.out.trans (HB'.out.mono HB.out.size))
     have HM9:Hid (L3 w.heap.size wr _ M' ms'):=Lib.hid ⟨own_lower HM'.out.own HB.out.size,HM'.out.len,HM'.out.el⟩
     go_wp2_with fail
     go_roundw
     case rel=>exact ⟨i + 1,M',ms',hlt,by go_num,hMl',HM9,HMO',HB9⟩
     case measure=>simp [intOf]; omega
  ·have d1:decide ((i:Int) < (A.length:Int))=false:=by rw [decide_eq_false_iff_not]; omega
   have i1:¬ (i:Int) < (A.length:Int):=by omega
   go_wp2_with fail
   go_ret
   exact ⟨⟨_,M,ms,rfl,HM.out,hMl,fun L hL=>⟨by have:=(HMO.out L hL).1; omega,(HMO.out L hL).2⟩⟩,HB.out⟩
end Go.Proofs.Yteghpophcnehgaa
