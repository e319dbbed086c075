/-
  What the functions that the law reaches do, one by one: contracts. Conditions: those that each of them prints.
-/
import Derived.Test.YteghpophcnehgaaMz
import Derived.Test.YteghpophcnehgaaMy
import Derived.Deep.DeepCutAuto
import Derived.Deep.CutBlock
import Derived.Deep.Quiet
namespace Go.Proofs.Yteghpophcnehgaa
open Go.RowKit ExprA SndA
namespace SndA
theorem lcells_box (w:World) (i:Ins) (b:Nat) (fr:Nat × Nat) (h:w.heap[b]?=some (.cells #[.int .i64 i.k,.int .i64 i.m,.int .i64 i.m2,.int .i64 i.r,.int .i64 i.l,.slice i.a i.E.length i.c,.int .i64 i.n] 47 fr)):LCells w b 0 i:=by
 refine ⟨?_,?_,?_,?_,?_,?_,?_⟩ <;> exact cell_of_row _ _ _ _ _ _ h
end SndA
set_option maxRecDepth 100000 in
set_option maxHeartbeats 16000000 in
theorem rinstr_any (i:Ins) (locs left:Int) (w:World) (h:TIn w i.a i.E) (hI:InsOk i) (hL:i.E.length≤9) :
  Calls Try.prog 31 #[i.v,.int .i64 locs,.int .i64 left] w fun e w'=>SaysB e∧Below w.heap.size w w':=by
 have HT:=Lib.hid h
 have HK:Hid (i.k=1 ∨ i.k=2 ∨ i.k=3 ∨ i.k=4 ∨ i.k=5 ∨ i.k=6):=Lib.hid (by unfold InsOk at hI; omega)
 have HLn:=Lib.hid hL
 clear h hI
 obtain ⟨ib,hib⟩:∃ x,x=w.heap.size:=⟨_,rfl⟩
 obtain ⟨w1,hw1⟩:∃ x,x=w.alloc (Obj.cells #[.int .i64 i.k,.int .i64 i.m,.int .i64 i.m2,.int .i64 i.r,.int .i64 i.l,.slice i.a i.E.length i.c,.int .i64 i.n] 47 (0,0)):=⟨_,rfl⟩
 have HC1:Hid (LCells w1 ib 0 i):=Lib.hid (by rw [hw1,hib]; exact lcells_box _ _ _ _ (heap_alloc_new _ _))
 have HB1:Hid (Below w.heap.size w w1):=Lib.hid (by rw [hw1]; exact (Below.refl _ _).alloc (Nat.le_refl _) _)
 have HIB:Hid (w.heap.size=ib):=Lib.hid hib.symm
 have HLT:Hid (ib < w1.heap.size):=Lib.hid (by rw [hw1,hib]; simp)
 have HW1:=Lib.hid hw1.symm
 clear hw1 hib hL
 unfold Ins.v iagg
 go_enter Try.func31,Try.ntmps31
 go_upto_region 1 with (fail)
 rw [HIB.out,HW1.out]
 generalize Value.agg #[.int .i64 i.k,.int .i64 i.m,.int .i64 i.m2,.int .i64 i.r,.int .i64 i.l,.slice i.a i.E.length i.c,.int .i64 i.n]=S0
 have c0:=HC1.out.c0
 have c1:=HC1.out.c1
 have c2:=HC1.out.c2
 have c3:=HC1.out.c3
 have c4:=HC1.out.c4
 have c5:=HC1.out.c5
 have c6:=HC1.out.c6
 go_cut [7] (fun x wx=>(∃ b,x=.bool b)∧wx=w1)
 case first=>
  go_wp2_with fail
  all_goals go_meet
  all_goals exact ⟨⟨_,rfl⟩,rfl⟩
 case rest=>
  obtain ⟨⟨bR,rfl⟩,hwc⟩:=hcut
  subst hwc
  go_upto_region 2 with (fail)
  go_cut [8] (fun x wx=>(∃ b,x=.bool b)∧wx=wc)
  case first=>
   go_wp2_with fail
   all_goals go_meet
   all_goals exact ⟨⟨_,rfl⟩,rfl⟩
  case rest=>
   obtain ⟨⟨bL,rfl⟩,hwc2⟩:=hcut
   subst hwc2
   go_upto_region 3 with (fail)
   go_wp2_with fail
   refine (rcheck_any _ _ _ _ (HT.out.next HB1.out) (by have:=HLn.out; omega)).mono ?_
   rintro e w2 ⟨rfl,hb2⟩
   have HB2:=Lib.hid (below_next HB1.out hb2)
   have HC2:=Lib.hid (HC1.out.next hb2)
   have HL2:Hid (ib < w2.heap.size):=Lib.hid (Nat.lt_of_lt_of_le HLT.out hb2.size)
   clear hb2 c0 c1 c2 c3 c4 c5 c6 HC1 HLT
   generalize checkB i.E=bE
   have c0:=HC2.out.c0
   have c1:=HC2.out.c1
   have c2:=HC2.out.c2
   have c3:=HC2.out.c3
   have c4:=HC2.out.c4
   have c5:=HC2.out.c5
   have c6:=HC2.out.c6
   go_upto_region 4 with (fail)
   go_cut [10] (fun x wx=>∃ xb,x=.pointer (some ⟨xb,0,none⟩)∧w2.heap.size≤xb∧XM w2 xb i wx)
   case first=>
    go_wp2_with fail
    all_goals go_meet
    all_goals exact ⟨_,rfl,Nat.le_refl _,⟨(Below.refl _ _).alloc (Nat.le_refl _) _,_,_,_,_,_,_,_,_,_,heap_alloc_new _ _,.inl ⟨rfl,rfl,rfl⟩⟩⟩
   case rest=>
    obtain ⟨xb,rfl,hxb,hM⟩:=hcut
    have HX:=Lib.hid hxb
    have HM:=Lib.hid hM
    have HD:Hid (Below w2.heap.size w2 wc):=Lib.hid hM.1
    have HCx:=Lib.hid (HC2.out.next HD.out)
    clear hxb hM c0 c1 c2 c3 c4 c5 c6
    have c0:=HCx.out.c0
    have c1:=HCx.out.c1
    have c2:=HCx.out.c2
    have c3:=HCx.out.c3
    have c4:=HCx.out.c4
    have c5:=HCx.out.c5
    have c6:=HCx.out.c6
    have HEND:Hid True:=Lib.hid trivial
    rcases HK.out with k | k | k | k | k | k
    ·rw [k] at c0
     clear k
     go_upto_region 8 with (fail)
     go_cut [7,8,9,11] (fun x7 x8 x9 x wx=>(∃ b,x=.bool b)∧wx=wc)
     case first=>as_aux_lemma=>
      go_wp2_with fail
      all_goals go_meet
      all_goals exact ⟨⟨_,rfl⟩,rfl⟩
     case rest=>as_aux_lemma=>
      obtain ⟨⟨bO,rfl⟩,hwc3⟩:=hcut
      subst hwc3
      clear c0 c1 c2 c3 c4 c5 c6
      go_upto_region 9 with (fail)
      refine ins9_l w2 _ ib xb i HC2.out HX.out HM.out _ _ _ _ _ _ _ _ _ _ _ _ _ _ _ _ _ _ _ _ _ _ _ _ _ _ _ _ _ _ _ _ _ _ _ _ _ _ _ _ _ _ _ _ _ _ _ _ _ _ _ _ _ _ _ _ _ _ _ _ _ _ _ _ _ _ _ _ _ _ _ _ _ _ _ _ _ _ _ _ _ _ _ _ _ _ _ _ _ _ _ _ _ _ _ _ _ _ _ _ _ _ _ _ _ _ _ _ _ _ _ _ _ _ _ _ _ _ _ _ _ _ _ _ _ _ _ _ _ _ _ _ _ _ _ _ _ _ _ _ _ _ _ _ _ _ _ _ _ _ _ _ _ _ _ _ _ _ _ _ _ _ _ _ _ _ _ _ _ _ _ _ _ _ _ _ _ _ _ _ _ _ _ _ _ _ _ _ _ _ _ _ _ _ _ (fun _ _ _ _ _ h=>h) ?_
      intro y0 y1 y2 y3 y4 y5 y6 y7 y8 w3 hM3
      obtain ⟨hb3,jk,jm,jm2,jr,jl,jn,ja,jN,jc,hrow,hsl⟩:=hM3
      have HB3:=Lib.hid hb3
      have HSL:=Lib.hid hsl
      have HCy:=Lib.hid (HC2.out.next hb3)
      clear hb3 hsl
      have c0:=HCy.out.c0
      have c1:=HCy.out.c1
      have c2:=HCy.out.c2
      have c3:=HCy.out.c3
      have c4:=HCy.out.c4
      have c5:=HCy.out.c5
      have c6:=HCy.out.c6
      have d0:w3.cell? ⟨xb,0,none⟩=some (.int .i64 jk):=cell_of_row _ _ _ _ _ _ hrow
      have d1:w3.cell? ⟨xb,1,none⟩=some (.int .i64 jm):=cell_of_row _ _ _ _ _ _ hrow
      have d2:w3.cell? ⟨xb,2,none⟩=some (.int .i64 jm2):=cell_of_row _ _ _ _ _ _ hrow
      have d3:w3.cell? ⟨xb,3,none⟩=some (.int .i64 jr):=cell_of_row _ _ _ _ _ _ hrow
      have d4:w3.cell? ⟨xb,4,none⟩=some (.int .i64 jl):=cell_of_row _ _ _ _ _ _ hrow
      have d5:w3.cell? ⟨xb,5,none⟩=some (.slice ja jN jc):=cell_of_row _ _ _ _ _ _ hrow
      have d6:w3.cell? ⟨xb,6,none⟩=some (.int .i64 jn):=cell_of_row _ _ _ _ _ _ hrow
      clear hrow
      cases bO with
      | false=>
       go_wp2_with fail
       go_ret
       exact ⟨⟨_,rfl⟩,below_next HB2.out HB3.out⟩
      | true=>
       go_wp2_with fail
       have HTi:=HT.out.next (below_next HB2.out HB3.out)
       have hS:∃ jE:List (Int × Int),jE.length=jN∧TIn w3 ja jE∧jE.length≤100:=by
        rcases HSL.out with ⟨q1,q2,q3⟩ | ⟨q1,q2,q3⟩
        ·exact ⟨[],by rw [q2]; rfl,.inl rfl,by simp⟩
        ·exact ⟨i.E,q2.symm,by rw [q1]; exact HTi,by have:=HLn.out; omega⟩
       obtain ⟨jE,rfl,hj,hjl⟩:=hS
       refine (sameInstr_any i ⟨jk,jm,jm2,jr,jl,jn,ja,jE,jc⟩ w3 HTi hj (by have:=HLn.out; omega) hjl).mono ?_
       rintro e w4 ⟨⟨b,rfl⟩,hb4⟩
       have HB4:=Lib.hid (below_next (below_next HB2.out HB3.out) hb4)
       clear hb4 c0 c1 c2 c3 c4 c5 c6 d0 d1 d2 d3 d4 d5 d6
       go_wp2_with fail
       go_ret
       exact ⟨⟨_,rfl⟩,HB4.out⟩
    ·rw [k] at c0
     clear k
     go_upto_region 11 with (fail)
     go_cut [7,8,9,11] (fun x7 x8 x9 x wx=>(∃ b,x=.bool b)∧wx=wc)
     case first=>as_aux_lemma=>
      go_wp2_with fail
      all_goals go_meet
      all_goals exact ⟨⟨_,rfl⟩,rfl⟩
     case rest=>as_aux_lemma=>
      obtain ⟨⟨bO,rfl⟩,hwc3⟩:=hcut
      subst hwc3
      clear c0 c1 c2 c3 c4 c5 c6
      go_upto_region 12 with (fail)
      refine ins12_l w2 _ ib xb i HC2.out HX.out HM.out _ _ _ _ _ _ _ _ _ _ _ _ _ _ _ _ _ _ _ _ _ _ _ _ _ _ _ _ _ _ _ _ _ _ _ _ _ _ _ _ _ _ _ _ _ _ _ _ _ _ _ _ _ _ _ _ _ _ _ _ _ _ _ _ _ _ _ _ _ _ _ _ _ _ _ _ _ _ _ _ _ _ _ _ _ _ _ _ _ _ _ _ _ _ _ _ _ _ _ _ _ _ _ _ _ _ _ _ _ _ _ _ _ _ _ _ _ _ _ _ _ _ _ _ _ _ _ _ _ _ _ _ _ _ _ _ _ _ _ _ _ _ _ _ _ _ _ _ _ _ _ _ _ _ _ _ _ _ _ _ _ _ _ _ _ _ _ _ _ _ _ _ _ _ _ _ _ _ _ _ _ _ _ _ _ _ _ _ _ _ _ _ _ _ _ (fun _ _ _ _ _ h=>h) ?_
      intro y0 y1 y2 y3 y4 y5 y6 y7 y8 w3 hM3
      obtain ⟨hb3,jk,jm,jm2,jr,jl,jn,ja,jN,jc,hrow,hsl⟩:=hM3
      have HB3:=Lib.hid hb3
      have HSL:=Lib.hid hsl
      have HCy:=Lib.hid (HC2.out.next hb3)
      clear hb3 hsl
      have c0:=HCy.out.c0
      have c1:=HCy.out.c1
      have c2:=HCy.out.c2
      have c3:=HCy.out.c3
      have c4:=HCy.out.c4
      have c5:=HCy.out.c5
      have c6:=HCy.out.c6
      have d0:w3.cell? ⟨xb,0,none⟩=some (.int .i64 jk):=cell_of_row _ _ _ _ _ _ hrow
      have d1:w3.cell? ⟨xb,1,none⟩=some (.int .i64 jm):=cell_of_row _ _ _ _ _ _ hrow
      have d2:w3.cell? ⟨xb,2,none⟩=some (.int .i64 jm2):=cell_of_row _ _ _ _ _ _ hrow
      have d3:w3.cell? ⟨xb,3,none⟩=some (.int .i64 jr):=cell_of_row _ _ _ _ _ _ hrow
      have d4:w3.cell? ⟨xb,4,none⟩=some (.int .i64 jl):=cell_of_row _ _ _ _ _ _ hrow
      have d5:w3.cell? ⟨xb,5,none⟩=some (.slice ja jN jc):=cell_of_row _ _ _ _ _ _ hrow
      have d6:w3.cell? ⟨xb,6,none⟩=some (.int .i64 jn):=cell_of_row _ _ _ _ _ _ hrow
      clear hrow
      cases bO with
      | false=>
       go_wp2_with fail
       go_ret
       exact ⟨⟨_,rfl⟩,below_next HB2.out HB3.out⟩
      | true=>
       go_wp2_with fail
       have HTi:=HT.out.next (below_next HB2.out HB3.out)
       have hS:∃ jE:List (Int × Int),jE.length=jN∧TIn w3 ja jE∧jE.length≤100:=by
        rcases HSL.out with ⟨q1,q2,q3⟩ | ⟨q1,q2,q3⟩
        ·exact ⟨[],by rw [q2]; rfl,.inl rfl,by simp⟩
        ·exact ⟨i.E,q2.symm,by rw [q1]; exact HTi,by have:=HLn.out; omega⟩
       obtain ⟨jE,rfl,hj,hjl⟩:=hS
       refine (sameInstr_any i ⟨jk,jm,jm2,jr,jl,jn,ja,jE,jc⟩ w3 HTi hj (by have:=HLn.out; omega) hjl).mono ?_
       rintro e w4 ⟨⟨b,rfl⟩,hb4⟩
       have HB4:=Lib.hid (below_next (below_next HB2.out HB3.out) hb4)
       clear hb4 c0 c1 c2 c3 c4 c5 c6 d0 d1 d2 d3 d4 d5 d6
       go_wp2_with fail
       go_ret
       exact ⟨⟨_,rfl⟩,HB4.out⟩
    ·rw [k] at c0
     clear k
     go_upto_region 14 with (fail)
     go_cut [7,8,9,11] (fun x7 x8 x9 x wx=>(∃ b,x=.bool b)∧wx=wc)
     case first=>as_aux_lemma=>
      go_wp2_with fail
      all_goals go_meet
      all_goals exact ⟨⟨_,rfl⟩,rfl⟩
     case rest=>as_aux_lemma=>
      obtain ⟨⟨bO,rfl⟩,hwc3⟩:=hcut
      subst hwc3
      clear c0 c1 c2 c3 c4 c5 c6
      go_upto_region 15 with (fail)
      refine ins15_l w2 _ ib xb i HC2.out HX.out HM.out _ _ _ _ _ _ _ _ _ _ _ _ _ _ _ _ _ _ _ _ _ _ _ _ _ _ _ _ _ _ _ _ _ _ _ _ _ _ _ _ _ _ _ _ _ _ _ _ _ _ _ _ _ _ _ _ _ _ _ _ _ _ _ _ _ _ _ _ _ _ _ _ _ _ _ _ _ _ _ _ _ _ _ _ _ _ _ _ _ _ _ _ _ _ _ _ _ _ _ _ _ _ _ _ _ _ _ _ _ _ _ _ _ _ _ _ _ _ _ _ _ _ _ _ _ _ _ _ _ _ _ _ _ _ _ _ _ _ _ _ _ _ _ _ _ _ _ _ _ _ _ _ _ _ _ _ _ _ _ _ _ _ _ _ _ _ _ _ _ _ _ _ _ _ _ _ _ _ _ _ _ _ _ _ _ _ _ _ _ _ _ _ _ _ _ ?_
      intro y0 y1 y2 w3 hM3
      obtain ⟨hb3,jk,jm,jm2,jr,jl,jn,ja,jN,jc,hrow,hsl⟩:=hM3
      have HB3:=Lib.hid hb3
      have HSL:=Lib.hid hsl
      have HCy:=Lib.hid (HC2.out.next hb3)
      clear hb3 hsl
      have c0:=HCy.out.c0
      have c1:=HCy.out.c1
      have c2:=HCy.out.c2
      have c3:=HCy.out.c3
      have c4:=HCy.out.c4
      have c5:=HCy.out.c5
      have c6:=HCy.out.c6
      have d0:w3.cell? ⟨xb,0,none⟩=some (.int .i64 jk):=cell_of_row _ _ _ _ _ _ hrow
      have d1:w3.cell? ⟨xb,1,none⟩=some (.int .i64 jm):=cell_of_row _ _ _ _ _ _ hrow
      have d2:w3.cell? ⟨xb,2,none⟩=some (.int .i64 jm2):=cell_of_row _ _ _ _ _ _ hrow
      have d3:w3.cell? ⟨xb,3,none⟩=some (.int .i64 jr):=cell_of_row _ _ _ _ _ _ hrow
      have d4:w3.cell? ⟨xb,4,none⟩=some (.int .i64 jl):=cell_of_row _ _ _ _ _ _ hrow
      have d5:w3.cell? ⟨xb,5,none⟩=some (.slice ja jN jc):=cell_of_row _ _ _ _ _ _ hrow
      have d6:w3.cell? ⟨xb,6,none⟩=some (.int .i64 jn):=cell_of_row _ _ _ _ _ _ hrow
      clear hrow
      cases bO with
      | false=>
       go_wp2_with fail
       go_ret
       exact ⟨⟨_,rfl⟩,below_next HB2.out HB3.out⟩
      | true=>
       go_wp2_with fail
       have HTi:=HT.out.next (below_next HB2.out HB3.out)
       have hS:∃ jE:List (Int × Int),jE.length=jN∧TIn w3 ja jE∧jE.length≤100:=by
        rcases HSL.out with ⟨q1,q2,q3⟩ | ⟨q1,q2,q3⟩
        ·exact ⟨[],by rw [q2]; rfl,.inl rfl,by simp⟩
        ·exact ⟨i.E,q2.symm,by rw [q1]; exact HTi,by have:=HLn.out; omega⟩
       obtain ⟨jE,rfl,hj,hjl⟩:=hS
       refine (sameInstr_any i ⟨jk,jm,jm2,jr,jl,jn,ja,jE,jc⟩ w3 HTi hj (by have:=HLn.out; omega) hjl).mono ?_
       rintro e w4 ⟨⟨b,rfl⟩,hb4⟩
       have HB4:=Lib.hid (below_next (below_next HB2.out HB3.out) hb4)
       clear hb4 c0 c1 c2 c3 c4 c5 c6 d0 d1 d2 d3 d4 d5 d6
       go_wp2_with fail
       go_ret
       exact ⟨⟨_,rfl⟩,HB4.out⟩
    ·rw [k] at c0
     clear k
     go_upto_region 17 with (fail)
     go_cut [7,8,9,11] (fun x7 x8 x9 x wx=>(∃ b,x=.bool b)∧XM w2 xb i wx)
     case first=>as_aux_lemma=>
      have HSP:Hid (((i.m == 0)=true ∨ ((i.m == 0)=false∧(i.m == 1)=true) ∨ ((i.m == 0)=false∧(i.m == 1)=false))∧((i.m2 == 0)=true ∨ ((i.m2 == 0)=false∧(i.m2 == 2)=true) ∨ ((i.m2 == 0)=false∧(i.m2 == 2)=false))):=Lib.hid ⟨by cases (i.m == 0) <;> cases (i.m == 1) <;> simp,by cases (i.m2 == 0) <;> cases (i.m2 == 2) <;> simp⟩
      have HUS:Hid (∀ w1,Below wc.heap.size wc w1→Calls Try.prog 47 #[.slice i.a i.E.length i.c,.int .i64 i.r] w1 fun e w'=>SaysB e∧Below w1.heap.size w1 w'):=Lib.hid fun w1 hb=>uses_any _ _ _ _ _ ((HT.out.next (below_next HB2.out HD.out)).next hb) (by have:=HLn.out; omega)
      have HCN:Hid (∀ w5,Below wc.heap.size wc w5→LCells w5 ib 0 i):=Lib.hid fun w5 hb=>HCx.out.next hb
      have HMN:Hid (∀ w5,Below wc.heap.size wc w5→XM w2 xb i w5):=Lib.hid fun w5 hb=>XM.next (w:=wc) HM.out hb
      cases bR with
      | false=>
       go_wp2_with fail
       go_meet
       exact ⟨⟨_,rfl⟩,HM.out⟩
      | true=>
       cases bL with
       | false=>
        go_wp2_with fail
        go_meet
        exact ⟨⟨_,rfl⟩,HM.out⟩
       | true=>
        cases bE with
        | false=>
         go_wp2_with fail
         go_meet
         exact ⟨⟨_,rfl⟩,HM.out⟩
        | true=>
         by_cases h7:i.E.length≤7
         ·have d7:decide ((i.E.length:Int)≤7)=true:=by rw [decide_eq_true_iff]; omega
          have i7:(i.E.length:Int)≤7:=by omega
          go_wp2_with fail
          refine (HUS.out _ (Below.refl _ _)).mono ?_
          rintro e w5 ⟨⟨bU,rfl⟩,hbU⟩
          have HM5:=Lib.hid (HMN.out w5 hbU)
          have HC5:=Lib.hid (HCN.out w5 hbU)
          clear c0 c1 c2 c3 c4 c5 c6 hbU
          have c1:=HC5.out.c1
          have c2:=HC5.out.c2
          cases bU with
          | true=>
           go_wp2_with fail
           go_meet
           exact ⟨⟨_,rfl⟩,HM5.out⟩
          | false=>
           rcases HSP.out.1 with q | ⟨q,q1⟩ | ⟨q,q1⟩
           ·rcases HSP.out.2 with r | ⟨r,r1⟩ | ⟨r,r1⟩
            all_goals
             go_wp2_with fail
             go_meet
             exact ⟨⟨_,rfl⟩,HM5.out⟩
           ·rcases HSP.out.2 with r | ⟨r,r1⟩ | ⟨r,r1⟩
            all_goals
             go_wp2_with fail
             go_meet
             exact ⟨⟨_,rfl⟩,HM5.out⟩
           ·go_wp2_with fail
            go_meet
            exact ⟨⟨_,rfl⟩,HM5.out⟩
         ·have d7:decide ((i.E.length:Int)≤7)=false:=by rw [decide_eq_false_iff_not]; omega
          have i7:¬ (i.E.length:Int)≤7:=by omega
          go_wp2_with fail
          go_meet
          exact ⟨⟨_,rfl⟩,HM.out⟩
     case rest=>as_aux_lemma=>
      obtain ⟨⟨bO,rfl⟩,hwc3⟩:=hcut
      have HM:=Lib.hid hwc3
      clear hwc3
      clear c0 c1 c2 c3 c4 c5 c6
      go_upto_region 18 with (fail)
      refine ins18_l w2 _ ib xb i HC2.out HX.out HM.out _ _ _ _ _ _ _ _ _ _ _ _ _ _ _ _ _ _ _ _ _ _ _ _ _ _ _ _ _ _ _ _ _ _ _ _ _ _ _ _ _ _ _ _ _ _ _ _ _ _ _ _ _ _ _ _ _ _ _ _ _ _ _ _ _ _ _ _ _ _ _ _ _ _ _ _ _ _ _ _ _ _ _ _ _ _ _ _ _ _ _ _ _ _ _ _ _ _ _ _ _ _ _ _ _ _ _ _ _ _ _ _ _ _ _ _ _ _ _ _ _ _ _ _ _ _ _ _ _ _ _ _ _ _ _ _ _ _ _ _ _ _ _ _ _ _ _ _ _ _ _ _ _ _ _ _ _ _ _ _ _ _ _ _ _ _ _ _ _ _ _ _ _ _ _ _ _ _ _ _ _ _ _ _ _ _ _ _ _ _ _ _ _ _ _ (fun _ _ _ _ _ h=>h) ?_
      intro y0 y1 y2 y3 y4 y5 y6 y7 y8 y9 y10 y11 y12 y13 y14 w3 hM3
      obtain ⟨hb3,jk,jm,jm2,jr,jl,jn,ja,jN,jc,hrow,hsl⟩:=hM3
      have HB3:=Lib.hid hb3
      have HSL:=Lib.hid hsl
      have HCy:=Lib.hid (HC2.out.next hb3)
      clear hb3 hsl
      have c0:=HCy.out.c0
      have c1:=HCy.out.c1
      have c2:=HCy.out.c2
      have c3:=HCy.out.c3
      have c4:=HCy.out.c4
      have c5:=HCy.out.c5
      have c6:=HCy.out.c6
      have d0:w3.cell? ⟨xb,0,none⟩=some (.int .i64 jk):=cell_of_row _ _ _ _ _ _ hrow
      have d1:w3.cell? ⟨xb,1,none⟩=some (.int .i64 jm):=cell_of_row _ _ _ _ _ _ hrow
      have d2:w3.cell? ⟨xb,2,none⟩=some (.int .i64 jm2):=cell_of_row _ _ _ _ _ _ hrow
      have d3:w3.cell? ⟨xb,3,none⟩=some (.int .i64 jr):=cell_of_row _ _ _ _ _ _ hrow
      have d4:w3.cell? ⟨xb,4,none⟩=some (.int .i64 jl):=cell_of_row _ _ _ _ _ _ hrow
      have d5:w3.cell? ⟨xb,5,none⟩=some (.slice ja jN jc):=cell_of_row _ _ _ _ _ _ hrow
      have d6:w3.cell? ⟨xb,6,none⟩=some (.int .i64 jn):=cell_of_row _ _ _ _ _ _ hrow
      clear hrow
      cases bO with
      | false=>
       go_wp2_with fail
       go_ret
       exact ⟨⟨_,rfl⟩,below_next HB2.out HB3.out⟩
      | true=>
       go_wp2_with fail
       have HTi:=HT.out.next (below_next HB2.out HB3.out)
       have hS:∃ jE:List (Int × Int),jE.length=jN∧TIn w3 ja jE∧jE.length≤100:=by
        rcases HSL.out with ⟨q1,q2,q3⟩ | ⟨q1,q2,q3⟩
        ·exact ⟨[],by rw [q2]; rfl,.inl rfl,by simp⟩
        ·exact ⟨i.E,q2.symm,by rw [q1]; exact HTi,by have:=HLn.out; omega⟩
       obtain ⟨jE,rfl,hj,hjl⟩:=hS
       refine (sameInstr_any i ⟨jk,jm,jm2,jr,jl,jn,ja,jE,jc⟩ w3 HTi hj (by have:=HLn.out; omega) hjl).mono ?_
       rintro e w4 ⟨⟨b,rfl⟩,hb4⟩
       have HB4:=Lib.hid (below_next (below_next HB2.out HB3.out) hb4)
       clear hb4 c0 c1 c2 c3 c4 c5 c6 d0 d1 d2 d3 d4 d5 d6
       go_wp2_with fail
       go_ret
       exact ⟨⟨_,rfl⟩,HB4.out⟩
    ·rw [k] at c0
     clear k
     go_upto_region 20 with (fail)
     go_cut [7,8,9,11] (fun x7 x8 x9 x wx=>(∃ b,x=.bool b)∧wx=wc)
     case first=>as_aux_lemma=>
      go_wp2_with fail
      all_goals go_meet
      all_goals exact ⟨⟨_,rfl⟩,rfl⟩
     case rest=>as_aux_lemma=>
      obtain ⟨⟨bO,rfl⟩,hwc3⟩:=hcut
      subst hwc3
      clear c0 c1 c2 c3 c4 c5 c6
      go_upto_region 21 with (fail)
      refine ins21_l w2 _ ib xb i HC2.out HX.out HM.out _ _ _ _ _ _ _ _ _ _ _ _ _ _ _ _ _ _ _ _ _ _ _ _ _ _ _ _ _ _ _ _ _ _ _ _ _ _ _ _ _ _ _ _ _ _ _ _ _ _ _ _ _ _ _ _ _ _ _ _ _ _ _ _ _ _ _ _ _ _ _ _ _ _ _ _ _ _ _ _ _ _ _ _ _ _ _ _ _ _ _ _ _ _ _ _ _ _ _ _ _ _ _ _ _ _ _ _ _ _ _ _ _ _ _ _ _ _ _ _ _ _ _ _ _ _ _ _ _ _ _ _ _ _ _ _ _ _ _ _ _ _ _ _ _ _ _ _ _ _ _ _ _ _ _ _ _ _ _ _ _ _ _ _ _ _ _ _ _ _ _ _ _ _ _ _ _ _ _ _ _ _ _ _ _ _ _ _ _ _ _ _ _ _ _ (fun _ _ _ _ _ h=>h) ?_
      intro y0 y1 y2 y3 y4 y5 w3 hM3
      obtain ⟨hb3,jk,jm,jm2,jr,jl,jn,ja,jN,jc,hrow,hsl⟩:=hM3
      have HB3:=Lib.hid hb3
      have HSL:=Lib.hid hsl
      have HCy:=Lib.hid (HC2.out.next hb3)
      clear hb3 hsl
      have c0:=HCy.out.c0
      have c1:=HCy.out.c1
      have c2:=HCy.out.c2
      have c3:=HCy.out.c3
      have c4:=HCy.out.c4
      have c5:=HCy.out.c5
      have c6:=HCy.out.c6
      have d0:w3.cell? ⟨xb,0,none⟩=some (.int .i64 jk):=cell_of_row _ _ _ _ _ _ hrow
      have d1:w3.cell? ⟨xb,1,none⟩=some (.int .i64 jm):=cell_of_row _ _ _ _ _ _ hrow
      have d2:w3.cell? ⟨xb,2,none⟩=some (.int .i64 jm2):=cell_of_row _ _ _ _ _ _ hrow
      have d3:w3.cell? ⟨xb,3,none⟩=some (.int .i64 jr):=cell_of_row _ _ _ _ _ _ hrow
      have d4:w3.cell? ⟨xb,4,none⟩=some (.int .i64 jl):=cell_of_row _ _ _ _ _ _ hrow
      have d5:w3.cell? ⟨xb,5,none⟩=some (.slice ja jN jc):=cell_of_row _ _ _ _ _ _ hrow
      have d6:w3.cell? ⟨xb,6,none⟩=some (.int .i64 jn):=cell_of_row _ _ _ _ _ _ hrow
      clear hrow
      cases bO with
      | false=>
       go_wp2_with fail
       go_ret
       exact ⟨⟨_,rfl⟩,below_next HB2.out HB3.out⟩
      | true=>
       go_wp2_with fail
       have HTi:=HT.out.next (below_next HB2.out HB3.out)
       have hS:∃ jE:List (Int × Int),jE.length=jN∧TIn w3 ja jE∧jE.length≤100:=by
        rcases HSL.out with ⟨q1,q2,q3⟩ | ⟨q1,q2,q3⟩
        ·exact ⟨[],by rw [q2]; rfl,.inl rfl,by simp⟩
        ·exact ⟨i.E,q2.symm,by rw [q1]; exact HTi,by have:=HLn.out; omega⟩
       obtain ⟨jE,rfl,hj,hjl⟩:=hS
       refine (sameInstr_any i ⟨jk,jm,jm2,jr,jl,jn,ja,jE,jc⟩ w3 HTi hj (by have:=HLn.out; omega) hjl).mono ?_
       rintro e w4 ⟨⟨b,rfl⟩,hb4⟩
       have HB4:=Lib.hid (below_next (below_next HB2.out HB3.out) hb4)
       clear hb4 c0 c1 c2 c3 c4 c5 c6 d0 d1 d2 d3 d4 d5 d6
       go_wp2_with fail
       go_ret
       exact ⟨⟨_,rfl⟩,HB4.out⟩
    ·rw [k] at c0
     clear k
     go_upto_region 23 with (fail)
     go_cut [7,8,9,11] (fun x7 x8 x9 x wx=>(∃ b,x=.bool b)∧wx=wc)
     case first=>as_aux_lemma=>
      go_wp2_with fail
      all_goals go_meet
      all_goals exact ⟨⟨_,rfl⟩,rfl⟩
     case rest=>as_aux_lemma=>
      obtain ⟨⟨bO,rfl⟩,hwc3⟩:=hcut
      subst hwc3
      clear c0 c1 c2 c3 c4 c5 c6
      go_upto_region 24 with (fail)
      refine ins24_l w2 _ ib xb i HC2.out HX.out HM.out _ _ _ _ _ _ _ _ _ _ _ _ _ _ _ _ _ _ _ _ _ _ _ _ _ _ _ _ _ _ _ _ _ _ _ _ _ _ _ _ _ _ _ _ _ _ _ _ _ _ _ _ _ _ _ _ _ _ _ _ _ _ _ _ _ _ _ _ _ _ _ _ _ _ _ _ _ _ _ _ _ _ _ _ _ _ _ _ _ _ _ _ _ _ _ _ _ _ _ _ _ _ _ _ _ _ _ _ _ _ _ _ _ _ _ _ _ _ _ _ _ _ _ _ _ _ _ _ _ _ _ _ _ _ _ _ _ _ _ _ _ _ _ _ _ _ _ _ _ _ _ _ _ _ _ _ _ _ _ _ _ _ _ _ _ _ _ _ _ _ _ _ _ _ _ _ _ _ _ _ _ _ _ _ _ _ _ _ _ _ _ _ _ _ _ (fun _ _ _ _ _ h=>h) ?_
      intro y0 y1 y2 y3 y4 y5 w3 hM3
      obtain ⟨hb3,jk,jm,jm2,jr,jl,jn,ja,jN,jc,hrow,hsl⟩:=hM3
      have HB3:=Lib.hid hb3
      have HSL:=Lib.hid hsl
      have HCy:=Lib.hid (HC2.out.next hb3)
      clear hb3 hsl
      have c0:=HCy.out.c0
      have c1:=HCy.out.c1
      have c2:=HCy.out.c2
      have c3:=HCy.out.c3
      have c4:=HCy.out.c4
      have c5:=HCy.out.c5
      have c6:=HCy.out.c6
      have d0:w3.cell? ⟨xb,0,none⟩=some (.int .i64 jk):=cell_of_row _ _ _ _ _ _ hrow
      have d1:w3.cell? ⟨xb,1,none⟩=some (.int .i64 jm):=cell_of_row _ _ _ _ _ _ hrow
      have d2:w3.cell? ⟨xb,2,none⟩=some (.int .i64 jm2):=cell_of_row _ _ _ _ _ _ hrow
      have d3:w3.cell? ⟨xb,3,none⟩=some (.int .i64 jr):=cell_of_row _ _ _ _ _ _ hrow
      have d4:w3.cell? ⟨xb,4,none⟩=some (.int .i64 jl):=cell_of_row _ _ _ _ _ _ hrow
      have d5:w3.cell? ⟨xb,5,none⟩=some (.slice ja jN jc):=cell_of_row _ _ _ _ _ _ hrow
      have d6:w3.cell? ⟨xb,6,none⟩=some (.int .i64 jn):=cell_of_row _ _ _ _ _ _ hrow
      clear hrow
      cases bO with
      | false=>
       go_wp2_with fail
       go_ret
       exact ⟨⟨_,rfl⟩,below_next HB2.out HB3.out⟩
      | true=>
       go_wp2_with fail
       have HTi:=HT.out.next (below_next HB2.out HB3.out)
       have hS:∃ jE:List (Int × Int),jE.length=jN∧TIn w3 ja jE∧jE.length≤100:=by
        rcases HSL.out with ⟨q1,q2,q3⟩ | ⟨q1,q2,q3⟩
        ·exact ⟨[],by rw [q2]; rfl,.inl rfl,by simp⟩
        ·exact ⟨i.E,q2.symm,by rw [q1]; exact HTi,by have:=HLn.out; omega⟩
       obtain ⟨jE,rfl,hj,hjl⟩:=hS
       refine (sameInstr_any i ⟨jk,jm,jm2,jr,jl,jn,ja,jE,jc⟩ w3 HTi hj (by have:=HLn.out; omega) hjl).mono ?_
       rintro e w4 ⟨⟨b,rfl⟩,hb4⟩
       have HB4:=Lib.hid (below_next (below_next HB2.out HB3.out) hb4)
       clear hb4 c0 c1 c2 c3 c4 c5 c6 d0 d1 d2 d3 d4 d5 d6
       go_wp2_with fail
       go_ret
       exact ⟨⟨_,rfl⟩,HB4.out⟩
end Go.Proofs.Yteghpophcnehgaa
