/-
  What the functions that the law reaches do, one by one: contracts. Conditions: those that each of them prints.
-/
import Derived.Test.YteghpophcnehgaaMzg
import Derived.Deep.DeepCutAuto
import Derived.Deep.CutBlock
namespace Go.Proofs.Yteghpophcnehgaa
open Go.RowKit ExprA SndA
namespace SndA
def SkelV (w':World) (e:Ending):Prop:=∃ (n:Nat) (ve p4 p5 p6 p7:Value) (E:List Ev) (err:Int),e=.returned (.tuple #[.agg #[.int .i64 (n:Int),ve,.slice none 0 0,.slice none 0 0,p4,p5,p6,p7],.int .i64 err])∧w'.ownsRow 0 49 6 ve E.length (ecs E)∧Sl p4∧Sl p5∧Sl p6∧Sl p7∧n≤E.length∧n≤2∧E.length≤100
theorem set8_fr (w:World) (l:Nat) (v0 v1 v2 v3 v4 v5 v6 v7:Value):Fr (fun b=>b=l) w ((((((((w.setCell ⟨l,0,none⟩ v0).setCell ⟨l,1,none⟩ v1).setCell ⟨l,2,none⟩ v2).setCell ⟨l,3,none⟩ v3).setCell ⟨l,4,none⟩ v4).setCell ⟨l,5,none⟩ v5).setCell ⟨l,6,none⟩ v6).setCell ⟨l,7,none⟩ v7):=(((((((Fr.set _ l 0 _ (X:=fun b=>b=l) rfl).trans (Fr.set _ l 1 _ rfl)).trans (Fr.set _ l 2 _ rfl)).trans (Fr.set _ l 3 _ rfl)).trans (Fr.set _ l 4 _ rfl)).trans (Fr.set _ l 5 _ rfl)).trans (Fr.set _ l 6 _ rfl)).trans (Fr.set _ l 7 _ rfl)
end SndA
set_option maxRecDepth 100000 in
set_option maxHeartbeats 16000000 in
theorem rskel_any (tb T:Nat) (P:List Th) (vr:Value) (RL:List (List Int)) (rvs:List Value) (w:World) (h:PG w tb T P) (hr:LB 0 w vr RL rvs) (hrl:∀ i,i < RL.length→(RL.getD i []).length≤1000) (hrn:RL.length≤1000) :
  Calls Try.prog 21 #[pv tb T,vr] w fun e w'=>SkelV w' e∧Below w.heap.size w w':=by
 have HP:=Lib.hid h
 have HR:=Lib.hid hr
 have HRL:=Lib.hid hrl
 have hTi:(T:Int)≤4:=by have:=h.few; omega
 have hRi:(RL.length:Int)≤1000:=by omega
 obtain ⟨va,vc,rfl⟩:=own_len hr.own
 clear h hr hrl
 obtain ⟨W1,hW1⟩:∃ x,x=((w.alloc (Obj.cells #[.int .i64 2,.slice (some ⟨tb,0,none⟩) T T] 25 (0,0))).alloc (Obj.cells #[.int .i64 0,.slice none 0 0,.slice none 0 0,.slice none 0 0,.slice none 0 0,.slice none 0 0,.slice none 0 0,.slice none 0 0] 38 (0,0))):=⟨_,rfl⟩
 obtain ⟨qb,hqb⟩:∃ x,x=w.heap.size + 1:=⟨_,rfl⟩
 obtain ⟨hI,hQ,hb1,hs1⟩:W1.heap[w.heap.size]?=some (Obj.cells #[.int .i64 2,.slice (some ⟨tb,0,none⟩) T T] 25 (0,0))∧W1.heap[qb]?=some (Obj.cells #[.int .i64 0,.slice none 0 0,.slice none 0 0,.slice none 0 0,.slice none 0 0,.slice none 0 0,.slice none 0 0,.slice none 0 0] 38 (0,0))∧Below w.heap.size w W1∧W1.heap.size=w.heap.size + 1 + 1:=by
  have e1:=size_alloc1 w (Obj.cells #[.int .i64 2,.slice (some ⟨tb,0,none⟩) T T] 25 (0,0))
  rw [hW1,hqb]
  refine ⟨?_,?_,?_,?_⟩
  ·exact (alloc_old _ _ _ (by omega)).trans (heap_alloc_new _ _)
  ·exact at_new _ _ _ (by omega)
  ·exact ((Below.refl _ _).alloc (Nat.le_refl _) _).alloc (by omega) _
  ·rw [size_alloc1,e1]
 have HNE:Hid (w.heap.size < W1.heap.size∧qb < W1.heap.size∧w.heap.size≤qb):=Lib.hid (by omega)
 have HI0:Hid (W1.cell? ⟨w.heap.size,0,none⟩=some (.int .i64 2)):=Lib.hid (cell_of_row _ _ _ _ _ _ hI)
 have HI1:Hid (W1.cell? ⟨w.heap.size,1,none⟩=some (.slice (some ⟨tb,0,none⟩) T T)):=Lib.hid (cell_of_row _ _ _ _ _ _ hI)
 have HQ:=Lib.hid hQ
 have HB1:=Lib.hid hb1
 have HW1:=Lib.hid hW1.symm
 have HQB:=Lib.hid hqb.symm
 clear hW1 hqb hI hQ hb1 hs1
 unfold pv
 go_enter Try.func21,Try.ntmps21
 go_upto_region 1 with (fail)
 rw [HW1.out,HQB.out]
 have i0:=HI0.out
 have i1:=HI1.out
 go_wp2_with fail
 refine (rchk_any tb T P W1 (HP.out.next HB1.out)).mono ?_
 rintro e w2 ⟨⟨n,rfl⟩,hb2⟩
 have HB2:=Lib.hid hb2
 have HQ2:=Lib.hid ((hb2.block qb HNE.out.2.1).trans HQ.out)
 have x0:=cell_next i0 hb2
 have x1:=cell_next i1 hb2
 clear i0 i1 hb2
 by_cases hn:n=0
 ·subst hn
  go_wp2_with fail
  refine (first_any 2 w2 (by omega)).mono ?_
  rintro e w3 ⟨⟨ve0,rfl,hv0⟩,hb3⟩
  have HV0:=Lib.hid hv0
  have HB3:=Lib.hid (below_next HB2.out hb3)
  obtain ⟨a0,c0,rfl⟩:=own_len hv0
  clear hv0 hb3 x0 x1
  go_upto_region 4 with (fail)
  obtain ⟨gb,hgb⟩:∃ x,x=w3.heap.size:=⟨_,rfl⟩
  obtain ⟨W4,hW4⟩:∃ x,x=w3.alloc (Obj.cells #[.int .i64 2,.slice a0 2 c0,.slice none 0 0,.slice none 0 0,.slice none 0 0,.slice none 0 0,.slice none 0 0,.slice none 0 0] 38 (0,0)):=⟨_,rfl⟩
  have HG4:Hid (GS W1 W4 gb 2 (.slice a0 2 c0) (FE 2) (fun _=>.slice none 0 0) (fun _=>[])):=Lib.hid (by
   rw [hW4,hgb]
   exact ⟨heap_alloc_new _ _,own_lower (HV0.out.alloc _) HB2.out.size,fun _ _ _=>World.ownsRow_nil _ _ _ _,fun _ _ _ _ _ _ _ _ q=>(by cases q),HB3.out.size,HB3.out.alloc HB3.out.size _⟩)
  rw [← hW4,← hgb]
  clear hW4 hgb HV0
  go_wp2_with fail
  go_loopw [7] (fun x wr=>∃ (q:Nat) (ve':Value) (E':List Ev) (gv':Nat→Value) (pi':Nat→List (Int × Int)),q≤T∧x=.int .i64 (q:Int)∧2≤E'.length∧E'.length≤2 + 6 * q∧(∀ k,4≤k→k≤7→(pi' k).length≤36 * q)∧Hid (GS W1 wr gb 2 ve' E' gv' pi')) (fun x _=>T - (intOf x).toNat)
  case atStart=>exact ⟨0,_,FE 2,_,_,Nat.zero_le _,rfl,by simp [FE],by simp [FE],fun _ _ _=>by simp,HG4⟩
  case round=>
   obtain ⟨q,ve',E',gv',pi',hq,rfl,hE2,hE6,hpl,HS⟩:=hrel
   have hqi:(q:Int)≤4:=by omega
   have HBr:Hid (Below w.heap.size w wr):=Lib.hid (HB1.out.trans (HS.out.bel.mono HB1.out.size))
   have x0:=cell_next HI0.out HS.out.bel
   have x1:=cell_next HI1.out HS.out.bel
   have HQr:=Lib.hid ((HS.out.bel.block qb HNE.out.2.1).trans HQ.out)
   have HPL:=Lib.hid hpl
   clear hpl
   by_cases hlt:q < T
   ·have d1:decide ((q:Int) < (T:Int))=true:=by rw [decide_eq_true_iff]; omega
    have i1:(q:Int) < (T:Int):=by omega
    have HPr:=Lib.hid (HP.out.next HBr.out)
    have HRr:=Lib.hid (HR.out.next HBr.out)
    have ct:=HPr.out.cell q hlt
    have HTH:=Lib.hid (HPr.out.th q hlt)
    generalize P.getD q Th.zero=th at *
    obtain ⟨ta,tL,tc⟩:=th
    unfold Th.v at ct
    dsimp only at ct
    go_upto_if 28 with (fail)
    go_cut [8] (fun x wx=>wx=wr∧∃ rd,LV wr x rd∧rd.length≤1000)
    case first=>
     by_cases hqr:q < RL.length
     ·have dr:decide ((q:Int) < (RL.length:Int))=true:=by rw [decide_eq_true_iff]; omega
      have ir:(q:Int) < (RL.length:Int):=by omega
      obtain ⟨g,c',hv,hg,hcl⟩:=HRr.out.cell hqr
      simp only [Value.slice.injEq] at hv
      obtain ⟨rfl,-,rfl⟩:=hv
      have hel:=HRr.out.el q hqr
      have HEL:=Lib.hid hel
      have HLL:=Lib.hid (HRL.out q hqr)
      generalize RL.getD q []=rd1 at *
      obtain ⟨xa,xc,hxe⟩:=own_len hel
      rw [hxe] at hcl HEL
      clear hel hxe
      go_wp2_with fail
      go_meet
      exact ⟨rfl,_,HEL.out,HLL.out⟩
     ·have dr:decide ((q:Int) < (RL.length:Int))=false:=by rw [decide_eq_false_iff_not]; omega
      have ir:¬ (q:Int) < (RL.length:Int):=by omega
      go_wp2_with fail
      go_meet
      exact ⟨rfl,[],LV.nil _,by simp⟩
    case rest=>
     obtain ⟨hwc,rd,hrd,hrdl⟩:=hcut
     subst hwc
     have HRD:=Lib.hid hrd
     obtain ⟨xa,xc,rfl⟩:=own_len hrd
     have hrdi:(rd.length:Int)≤1000:=by omega
     have HLT:Hid (gb < wc.heap.size∧(∀ g,ve'.ownBlock=some g→g < wc.heap.size)∧∀ k,4≤k→k≤7→∀ g,(gv' k).ownBlock=some g→g < wc.heap.size):=Lib.hid ⟨HS.out.lt,fun g q=>(HS.out.oe.lt g q).2,fun k h4 h7 g q=>((HS.out.op k h4 h7).lt g q).2⟩
     clear hrd
     go_wp2_with fail
     refine (do_any ta tL tc _ rd wc HTH.out.lin (ThG.hyp HTH.out) HTH.out.len HRD.out hrdl).mono ?_
     rintro e w5 ⟨hdo,hb5⟩
     have HB5:=Lib.hid hb5
     have HS5:=Lib.hid (HS.out.next hb5)
     clear ct x0 x1 hb5
     rcases hdo with ⟨hs,rfl⟩ | ⟨hs,ve,vr,vd2,vc2,vi,vg,E,rm,pd,pc,pj,rfl,he,hr1,hr2,hr3,hr4,l1,l2,l3,l4,l5,⟨gA,gn,gC,rfl⟩,hnw⟩
     ·clear hs
      unfold R0
      go_upto_if 51 with (fail)
      obtain ⟨w6,hw6⟩:∃ x,x=w5.alloc (Obj.cells #[.slice none 0 0,.slice none 0 0,.slice none 0 0,.slice none 0 0,.slice none 0 0,.int .i64 0,.slice none 0 0] 76 (0,0)):=⟨_,rfl⟩
      have HS6:=Lib.hid (HS5.out.next ((Below.refl w5.heap.size w5).alloc (Nat.le_refl _) (Obj.cells #[.slice none 0 0,.slice none 0 0,.slice none 0 0,.slice none 0 0,.slice none 0 0,.int .i64 0,.slice none 0 0] 76 (0,0))))
      rw [← hw6] at HS6
      have HQ6:Hid (w6.heap[qb]?=some (Obj.cells #[.int .i64 0,.slice none 0 0,.slice none 0 0,.slice none 0 0,.slice none 0 0,.slice none 0 0,.slice none 0 0,.slice none 0 0] 38 (0,0))):=Lib.hid ((HS6.out.bel.block qb HNE.out.2.1).trans HQ.out)
      rw [← hw6]
      clear hw6
      have r0:w6.cell? ⟨qb,0,none⟩=some (.int .i64 0):=cell_of_row _ _ _ _ _ _ HQ6.out
      have s0:w6.frozen? ⟨qb,0,none⟩=false:=frozen_of_row _ _ _ _ _ HQ6.out
      have r1:w6.cell? ⟨qb,1,none⟩=some (.slice none 0 0):=cell_of_row _ _ _ _ _ _ HQ6.out
      have s1:w6.frozen? ⟨qb,1,none⟩=false:=frozen_of_row _ _ _ _ _ HQ6.out
      have r2:w6.cell? ⟨qb,2,none⟩=some (.slice none 0 0):=cell_of_row _ _ _ _ _ _ HQ6.out
      have s2:w6.frozen? ⟨qb,2,none⟩=false:=frozen_of_row _ _ _ _ _ HQ6.out
      have r3:w6.cell? ⟨qb,3,none⟩=some (.slice none 0 0):=cell_of_row _ _ _ _ _ _ HQ6.out
      have s3:w6.frozen? ⟨qb,3,none⟩=false:=frozen_of_row _ _ _ _ _ HQ6.out
      have r4:w6.cell? ⟨qb,4,none⟩=some (.slice none 0 0):=cell_of_row _ _ _ _ _ _ HQ6.out
      have s4:w6.frozen? ⟨qb,4,none⟩=false:=frozen_of_row _ _ _ _ _ HQ6.out
      have r5:w6.cell? ⟨qb,5,none⟩=some (.slice none 0 0):=cell_of_row _ _ _ _ _ _ HQ6.out
      have s5:w6.frozen? ⟨qb,5,none⟩=false:=frozen_of_row _ _ _ _ _ HQ6.out
      have r6:w6.cell? ⟨qb,6,none⟩=some (.slice none 0 0):=cell_of_row _ _ _ _ _ _ HQ6.out
      have s6:w6.frozen? ⟨qb,6,none⟩=false:=frozen_of_row _ _ _ _ _ HQ6.out
      have r7:w6.cell? ⟨qb,7,none⟩=some (.slice none 0 0):=cell_of_row _ _ _ _ _ _ HQ6.out
      have s7:w6.frozen? ⟨qb,7,none⟩=false:=frozen_of_row _ _ _ _ _ HQ6.out
      go_wp2_with fail
      refine bodyPost_ret (v:=.tuple #[.agg #[.int .i64 0,.slice none 0 0,.slice none 0 0,.slice none 0 0,.slice none 0 0,.slice none 0 0,.slice none 0 0,.slice none 0 0],.int .i64 6]) ?_ rfl ⟨⟨0,.slice none 0 0,.slice none 0 0,.slice none 0 0,.slice none 0 0,.slice none 0 0,[],6,rfl,World.ownsRow_nil _ _ _ _,⟨_,_,_,rfl⟩,⟨_,_,_,rfl⟩,⟨_,_,_,rfl⟩,⟨_,_,_,rfl⟩,Nat.le_refl _,by omega,by simp⟩,?_⟩
      ·refine (results_cell_row2 (P:=Try.prog) (fn:=Try.f21) (p:=4) (u:=5) (ty:=38) rfl _ _ qb 38 #[.int .i64 0,.slice none 0 0,.slice none 0 0,.slice none 0 0,.slice none 0 0,.slice none 0 0,.slice none 0 0,.slice none 0 0] (0,0) _ rfl (set8_at w6 qb 38 _ _ _ _ _ _ _ _ _ _ _ _ _ _ _ _ HQ6.out) Try.underlying38 rfl (by kernel_rfl)).trans ?_
       rfl
      ·exact below_set8 (HB1.out.trans (HS6.out.bel.mono HB1.out.size)) qb _ _ _ _ _ _ _ _ HNE.out.2.2
     ·obtain ⟨ea,ec,rfl⟩:=own_len he
      obtain ⟨ra,rc,rfl⟩:=own_len hr1
      obtain ⟨da,dc,rfl⟩:=own_len hr2
      obtain ⟨ca,cc,rfl⟩:=own_len hr3
      obtain ⟨ia,ic,rfl⟩:=own_len hr4
      have HE:=Lib.hid he
      have HPP:Hid (PV w5 (.slice ra rm.length rc) rm∧PV w5 (.slice da pd.length dc) pd∧PV w5 (.slice ca pc.length cc) pc):=Lib.hid ⟨hr1,hr2,hr3⟩
      have HNW:=Lib.hid hnw
      have HLN:Hid (E.length≤6∧rm.length≤3∧pd.length≤36∧pc.length≤36):=Lib.hid ⟨l1,l2,l3,l4⟩
      have HWC:Hid (wc.heap.size≤w5.heap.size):=Lib.hid HB5.out.size
      clear he hr1 hr2 hr3 hr4 hnw l1 l2 l3 l4 l5 hs
      generalize (doU tL rd).2=u0 at *
      by_cases hu:u0=rd.length
      ·have hub:((u0:Int) == (rd.length:Int))=true:=by simp [hu]
       clear hu
       go_upto_if 51 with (fail)
       go_wp2_with fail
       have hbA:Below w5.heap.size w5 (w5.alloc (Obj.cells #[.slice ea E.length ec,.slice ra rm.length rc,.slice da pd.length dc,.slice ca pc.length cc,.slice none 0 0,.int .i64 (u0:Int),.slice gA gn gC] 76 (0,0))):=(Below.refl _ _).alloc (Nat.le_refl _) _
       have HLY:=Lib.hid (rlay_any W1 _ gb wc.heap.size 2 (u0:Int) ((q:Int) + 1) ve' E' gv' pi' (.slice ea E.length ec) (.slice ra rm.length rc) (.slice da pd.length dc) (.slice ca pc.length cc) (.slice none 0 0) (.slice gA gn gC) E rm pd pc [] (HS5.out.next hbA) (by omega) (fun k h4 h7=>by have:=HPL.out k h4 h7; omega) HLT.out.1 HLT.out.2.1 HLT.out.2.2 (Nat.le_trans HWC.out hbA.size) (own_below HE.out hbA) (HPP.out.1.next hbA) (HPP.out.2.1.next hbA) (HPP.out.2.2.next hbA) (PV.nil _) (by have:=HLN.out; simp; omega) ⟨_,_,_,rfl⟩ (fun g hg=>HNW.out g (by
        rcases hg with h | h | h | h
        ·exact .inl h
        ·exact .inr (.inl h)
        ·exact .inr (.inr (.inl h))
        ·cases h)))
       clear hbA
       refine HLY.out.mono ?_
       rintro e w7 ⟨x,ve7,E7,gv7,pi7,rfl,hG7,hE7,hp7⟩
       have HG7:=Lib.hid hG7
       have hel:=HLN.out.1
       have HP7:Hid (∀ k,4≤k→k≤7→(pi7 k).length≤36 * (q + 1)):=Lib.hid fun k h4 h7=>by have:=HPL.out k h4 h7; have:=hp7 k h4 h7; omega
       clear hG7 hp7 HLY
       go_wp2_with fail
       go_roundw
       case rel=>exact ⟨q + 1,ve7,E7,gv7,pi7,hlt,by go_num,by omega,by omega,HP7.out,HG7⟩
       case measure=>simp [intOf]; omega
      ·have hub:((u0:Int) == (rd.length:Int))=false:=by simp; omega
       clear hu
       go_upto_if 51 with (fail)
       obtain ⟨w6,hw6⟩:∃ x,x=w5.alloc (Obj.cells #[.slice ea E.length ec,.slice ra rm.length rc,.slice da pd.length dc,.slice ca pc.length cc,.slice ia pj.length ic,.int .i64 (u0:Int),.slice gA gn gC] 76 (0,0)):=⟨_,rfl⟩
       have HS6:=Lib.hid (HS5.out.next ((Below.refl w5.heap.size w5).alloc (Nat.le_refl _) (Obj.cells #[.slice ea E.length ec,.slice ra rm.length rc,.slice da pd.length dc,.slice ca pc.length cc,.slice ia pj.length ic,.int .i64 (u0:Int),.slice gA gn gC] 76 (0,0))))
       rw [← hw6] at HS6
       have HQ6:Hid (w6.heap[qb]?=some (Obj.cells #[.int .i64 0,.slice none 0 0,.slice none 0 0,.slice none 0 0,.slice none 0 0,.slice none 0 0,.slice none 0 0,.slice none 0 0] 38 (0,0))):=Lib.hid ((HS6.out.bel.block qb HNE.out.2.1).trans HQ.out)
       rw [← hw6]
       clear hw6
       have r0:w6.cell? ⟨qb,0,none⟩=some (.int .i64 0):=cell_of_row _ _ _ _ _ _ HQ6.out
       have s0:w6.frozen? ⟨qb,0,none⟩=false:=frozen_of_row _ _ _ _ _ HQ6.out
       have r1:w6.cell? ⟨qb,1,none⟩=some (.slice none 0 0):=cell_of_row _ _ _ _ _ _ HQ6.out
       have s1:w6.frozen? ⟨qb,1,none⟩=false:=frozen_of_row _ _ _ _ _ HQ6.out
       have r2:w6.cell? ⟨qb,2,none⟩=some (.slice none 0 0):=cell_of_row _ _ _ _ _ _ HQ6.out
       have s2:w6.frozen? ⟨qb,2,none⟩=false:=frozen_of_row _ _ _ _ _ HQ6.out
       have r3:w6.cell? ⟨qb,3,none⟩=some (.slice none 0 0):=cell_of_row _ _ _ _ _ _ HQ6.out
       have s3:w6.frozen? ⟨qb,3,none⟩=false:=frozen_of_row _ _ _ _ _ HQ6.out
       have r4:w6.cell? ⟨qb,4,none⟩=some (.slice none 0 0):=cell_of_row _ _ _ _ _ _ HQ6.out
       have s4:w6.frozen? ⟨qb,4,none⟩=false:=frozen_of_row _ _ _ _ _ HQ6.out
       have r5:w6.cell? ⟨qb,5,none⟩=some (.slice none 0 0):=cell_of_row _ _ _ _ _ _ HQ6.out
       have s5:w6.frozen? ⟨qb,5,none⟩=false:=frozen_of_row _ _ _ _ _ HQ6.out
       have r6:w6.cell? ⟨qb,6,none⟩=some (.slice none 0 0):=cell_of_row _ _ _ _ _ _ HQ6.out
       have s6:w6.frozen? ⟨qb,6,none⟩=false:=frozen_of_row _ _ _ _ _ HQ6.out
       have r7:w6.cell? ⟨qb,7,none⟩=some (.slice none 0 0):=cell_of_row _ _ _ _ _ _ HQ6.out
       have s7:w6.frozen? ⟨qb,7,none⟩=false:=frozen_of_row _ _ _ _ _ HQ6.out
       go_wp2_with fail
       refine bodyPost_ret (v:=.tuple #[.agg #[.int .i64 0,.slice none 0 0,.slice none 0 0,.slice none 0 0,.slice none 0 0,.slice none 0 0,.slice none 0 0,.slice none 0 0],.int .i64 6]) ?_ rfl ⟨⟨0,.slice none 0 0,.slice none 0 0,.slice none 0 0,.slice none 0 0,.slice none 0 0,[],6,rfl,World.ownsRow_nil _ _ _ _,⟨_,_,_,rfl⟩,⟨_,_,_,rfl⟩,⟨_,_,_,rfl⟩,⟨_,_,_,rfl⟩,Nat.le_refl _,by omega,by simp⟩,?_⟩
       ·refine (results_cell_row2 (P:=Try.prog) (fn:=Try.f21) (p:=4) (u:=5) (ty:=38) rfl _ _ qb 38 #[.int .i64 0,.slice none 0 0,.slice none 0 0,.slice none 0 0,.slice none 0 0,.slice none 0 0,.slice none 0 0,.slice none 0 0] (0,0) _ rfl (set8_at w6 qb 38 _ _ _ _ _ _ _ _ _ _ _ _ _ _ _ _ HQ6.out) Try.underlying38 rfl (by kernel_rfl)).trans ?_
        rfl
       ·exact below_set8 (HB1.out.trans (HS6.out.bel.mono HB1.out.size)) qb _ _ _ _ _ _ _ _ HNE.out.2.2
   ·have d1:decide ((q:Int) < (T:Int))=false:=by rw [decide_eq_false_iff_not]; omega
    have i1:¬ (q:Int) < (T:Int):=by omega
    have HOE:=Lib.hid HS.out.oe
    have hbx:=HS.out.box
    obtain ⟨ga,gc,rfl⟩:=own_len HS.out.oe
    obtain ⟨m4,k4,e4⟩:=own_len (HS.out.op 4 (by omega) (by omega))
    obtain ⟨m5,k5,e5⟩:=own_len (HS.out.op 5 (by omega) (by omega))
    obtain ⟨m6,k6,e6⟩:=own_len (HS.out.op 6 (by omega) (by omega))
    obtain ⟨m7,k7,e7⟩:=own_len (HS.out.op 7 (by omega) (by omega))
    rw [e4,e5,e6,e7] at hbx
    generalize (pi' 4).length=n4 at *
    generalize (pi' 5).length=n5 at *
    generalize (pi' 6).length=n6 at *
    generalize (pi' 7).length=n7 at *
    clear e4 e5 e6 e7
    have g0:wr.cell? ⟨gb,0,none⟩=some (.int .i64 2):=cell_of_row _ _ _ _ _ _ hbx
    have g1:wr.cell? ⟨gb,1,none⟩=some (.slice ga E'.length gc):=cell_of_row _ _ _ _ _ _ hbx
    have g2:wr.cell? ⟨gb,2,none⟩=some (.slice none 0 0):=cell_of_row _ _ _ _ _ _ hbx
    have g3:wr.cell? ⟨gb,3,none⟩=some (.slice none 0 0):=cell_of_row _ _ _ _ _ _ hbx
    have g4:wr.cell? ⟨gb,4,none⟩=some (.slice m4 n4 k4):=cell_of_row _ _ _ _ _ _ hbx
    have g5:wr.cell? ⟨gb,5,none⟩=some (.slice m5 n5 k5):=cell_of_row _ _ _ _ _ _ hbx
    have g6:wr.cell? ⟨gb,6,none⟩=some (.slice m6 n6 k6):=cell_of_row _ _ _ _ _ _ hbx
    have g7:wr.cell? ⟨gb,7,none⟩=some (.slice m7 n7 k7):=cell_of_row _ _ _ _ _ _ hbx
    clear hbx
    have r0:wr.cell? ⟨qb,0,none⟩=some (.int .i64 0):=cell_of_row _ _ _ _ _ _ HQr.out
    have s0:wr.frozen? ⟨qb,0,none⟩=false:=frozen_of_row _ _ _ _ _ HQr.out
    have r1:wr.cell? ⟨qb,1,none⟩=some (.slice none 0 0):=cell_of_row _ _ _ _ _ _ HQr.out
    have s1:wr.frozen? ⟨qb,1,none⟩=false:=frozen_of_row _ _ _ _ _ HQr.out
    have r2:wr.cell? ⟨qb,2,none⟩=some (.slice none 0 0):=cell_of_row _ _ _ _ _ _ HQr.out
    have s2:wr.frozen? ⟨qb,2,none⟩=false:=frozen_of_row _ _ _ _ _ HQr.out
    have r3:wr.cell? ⟨qb,3,none⟩=some (.slice none 0 0):=cell_of_row _ _ _ _ _ _ HQr.out
    have s3:wr.frozen? ⟨qb,3,none⟩=false:=frozen_of_row _ _ _ _ _ HQr.out
    have r4:wr.cell? ⟨qb,4,none⟩=some (.slice none 0 0):=cell_of_row _ _ _ _ _ _ HQr.out
    have s4:wr.frozen? ⟨qb,4,none⟩=false:=frozen_of_row _ _ _ _ _ HQr.out
    have r5:wr.cell? ⟨qb,5,none⟩=some (.slice none 0 0):=cell_of_row _ _ _ _ _ _ HQr.out
    have s5:wr.frozen? ⟨qb,5,none⟩=false:=frozen_of_row _ _ _ _ _ HQr.out
    have r6:wr.cell? ⟨qb,6,none⟩=some (.slice none 0 0):=cell_of_row _ _ _ _ _ _ HQr.out
    have s6:wr.frozen? ⟨qb,6,none⟩=false:=frozen_of_row _ _ _ _ _ HQr.out
    have r7:wr.cell? ⟨qb,7,none⟩=some (.slice none 0 0):=cell_of_row _ _ _ _ _ _ HQr.out
    have s7:wr.frozen? ⟨qb,7,none⟩=false:=frozen_of_row _ _ _ _ _ HQr.out
    go_wp2_with fail
    refine bodyPost_ret (v:=.tuple #[.agg #[.int .i64 2,.slice ga E'.length gc,.slice none 0 0,.slice none 0 0,.slice m4 n4 k4,.slice m5 n5 k5,.slice m6 n6 k6,.slice m7 n7 k7],.int .i64 0]) ?_ rfl ⟨⟨2,_,_,_,_,_,E',0,rfl,?_,⟨_,_,_,rfl⟩,⟨_,_,_,rfl⟩,⟨_,_,_,rfl⟩,⟨_,_,_,rfl⟩,hE2,by omega,by omega⟩,?_⟩
    ·refine (results_cell_row2 (P:=Try.prog) (fn:=Try.f21) (p:=4) (u:=5) (ty:=38) rfl _ _ qb 38 #[.int .i64 2,.slice ga E'.length gc,.slice none 0 0,.slice none 0 0,.slice m4 n4 k4,.slice m5 n5 k5,.slice m6 n6 k6,.slice m7 n7 k7] (0,0) _ rfl (set8_at wr qb 38 _ _ _ _ _ _ _ _ _ _ _ _ _ _ _ _ HQr.out) Try.underlying38 rfl (by kernel_rfl)).trans ?_
     rfl
    ·exact own_fr (own_lower HOE.out (Nat.zero_le _)) (set8_fr wr qb _ _ _ _ _ _ _ _) (fun g q r=>own_typ HOE.out HQr.out (by decide) (by rw [q,r]))
    ·exact below_set8 (HBr.out) qb _ _ _ _ _ _ _ _ HNE.out.2.2
 ·have hnb:(n == 0)=false:=by simp [hn]
  have r0:w2.cell? ⟨qb,0,none⟩=some (.int .i64 0):=cell_of_row _ _ _ _ _ _ HQ2.out
  have s0:w2.frozen? ⟨qb,0,none⟩=false:=frozen_of_row _ _ _ _ _ HQ2.out
  have r1:w2.cell? ⟨qb,1,none⟩=some (.slice none 0 0):=cell_of_row _ _ _ _ _ _ HQ2.out
  have s1:w2.frozen? ⟨qb,1,none⟩=false:=frozen_of_row _ _ _ _ _ HQ2.out
  have r2:w2.cell? ⟨qb,2,none⟩=some (.slice none 0 0):=cell_of_row _ _ _ _ _ _ HQ2.out
  have s2:w2.frozen? ⟨qb,2,none⟩=false:=frozen_of_row _ _ _ _ _ HQ2.out
  have r3:w2.cell? ⟨qb,3,none⟩=some (.slice none 0 0):=cell_of_row _ _ _ _ _ _ HQ2.out
  have s3:w2.frozen? ⟨qb,3,none⟩=false:=frozen_of_row _ _ _ _ _ HQ2.out
  have r4:w2.cell? ⟨qb,4,none⟩=some (.slice none 0 0):=cell_of_row _ _ _ _ _ _ HQ2.out
  have s4:w2.frozen? ⟨qb,4,none⟩=false:=frozen_of_row _ _ _ _ _ HQ2.out
  have r5:w2.cell? ⟨qb,5,none⟩=some (.slice none 0 0):=cell_of_row _ _ _ _ _ _ HQ2.out
  have s5:w2.frozen? ⟨qb,5,none⟩=false:=frozen_of_row _ _ _ _ _ HQ2.out
  have r6:w2.cell? ⟨qb,6,none⟩=some (.slice none 0 0):=cell_of_row _ _ _ _ _ _ HQ2.out
  have s6:w2.frozen? ⟨qb,6,none⟩=false:=frozen_of_row _ _ _ _ _ HQ2.out
  have r7:w2.cell? ⟨qb,7,none⟩=some (.slice none 0 0):=cell_of_row _ _ _ _ _ _ HQ2.out
  have s7:w2.frozen? ⟨qb,7,none⟩=false:=frozen_of_row _ _ _ _ _ HQ2.out
  go_wp2_with fail
  refine bodyPost_ret (v:=.tuple #[.agg #[.int .i64 0,.slice none 0 0,.slice none 0 0,.slice none 0 0,.slice none 0 0,.slice none 0 0,.slice none 0 0,.slice none 0 0],.int .i64 3]) ?_ rfl ⟨⟨0,.slice none 0 0,.slice none 0 0,.slice none 0 0,.slice none 0 0,.slice none 0 0,[],3,rfl,World.ownsRow_nil _ _ _ _,⟨_,_,_,rfl⟩,⟨_,_,_,rfl⟩,⟨_,_,_,rfl⟩,⟨_,_,_,rfl⟩,Nat.le_refl _,by omega,by simp⟩,?_⟩
  ·refine (results_cell_row2 (P:=Try.prog) (fn:=Try.f21) (p:=4) (u:=5) (ty:=38) rfl _ _ qb 38 #[.int .i64 0,.slice none 0 0,.slice none 0 0,.slice none 0 0,.slice none 0 0,.slice none 0 0,.slice none 0 0,.slice none 0 0] (0,0) _ rfl (set8_at w2 qb 38 _ _ _ _ _ _ _ _ _ _ _ _ _ _ _ _ HQ2.out) Try.underlying38 rfl (by kernel_rfl)).trans ?_
   rfl
  ·exact below_set8 ((HB1.out.trans (HB2.out.mono HB1.out.size))) qb _ _ _ _ _ _ _ _ HNE.out.2.2
end Go.Proofs.Yteghpophcnehgaa
