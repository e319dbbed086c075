/-
  What the functions that the law reaches do, one by one: contracts. Conditions: those that each of them prints.
-/
import Derived.Test.YteghpophcnehgaaMze
import Derived.Test.YteghpophcnehgaaMzf
import Derived.Deep.DeepCutAuto
import Derived.Deep.CutBlock
import Derived.Test.YteghpophcnehgaaMza
import Derived.Test.YteghpophcnehgaaMzb
import Derived.Deep.Quiet
import Derived.Deep.RegionLaw
import Derived.Deep.RegionWith
namespace Go.Proofs.Yteghpophcnehgaa
open Go.RowKit ExprA SndA
namespace SndA
def LayV (w0 w':World) (gb:Nat) (locs:Int) (E E2:List Ev) (pi:Nat→List (Int × Int)) (e:Ending):Prop:=∃ x ve' E' gv' pi',e=.returned x∧GS w0 w' gb locs ve' E' gv' pi'∧E'.length=E.length + E2.length∧∀ k,4≤k→k≤7→(pi' k).length≤(pi k).length + 36
theorem ecs_get (L:List Ev) (q:Nat) (hq:q < L.length) (j:Nat) (hj:j < 6):(ecs L)[q * 6 + j]?=(L.getD q Ev.zero).cs[j]?:=by
 induction L generalizing q with
 | nil=>simp at hq
 | cons a L ih=>
  have e:ecs (a::L)=a.cs ++ ecs L:=rfl
  rw [e]
  cases q with
  | zero=>
   rw [List.getElem?_append_left (by show 0 * 6 + j < 6; omega)]
   simp
  | succ q=>
   rw [List.getElem?_append_right (by show 6≤(q + 1) * 6 + j; omega),show (q + 1) * 6 + j - a.cs.length=q * 6 + j from by show (q + 1) * 6 + j - 6=q * 6 + j; omega,ih q (by simpa using hq)]
   simp
theorem evs_at {W:World} {b:Nat} {v:Value} {E:List Ev} {q:Nat} (h:W.ownsRow b 49 6 v E.length (ecs E)) (hq:q < E.length):∃ g c,v=.slice (some ⟨g,0,none⟩) E.length c∧g < W.heap.size∧b≤g∧W.cell? ⟨g,q * 6,none⟩=some (.int .i64 (E.getD q Ev.zero).th)∧W.cell? ⟨g,q * 6 + 1,none⟩=some (.int .i64 (E.getD q Ev.zero).kd)∧W.cell? ⟨g,q * 6 + 2,none⟩=some (.int .i64 (E.getD q Ev.zero).md)∧W.cell? ⟨g,q * 6 + 3,none⟩=some (.int .i64 (E.getD q Ev.zero).lc)∧W.cell? ⟨g,q * 6 + 4,none⟩=some (.int .i64 (E.getD q Ev.zero).vl)∧W.cell? ⟨g,q * 6 + 5,none⟩=some (.bool (E.getD q Ev.zero).ex):=by
 have hc:=fun g hg=>World.ownsRow.cells h (g:=g) hg
 have hl:=World.ownsRow.lt h
 rcases h.2 with ⟨_,h2⟩ | ⟨g,cap,cur,rfl,_⟩
 ·omega
 ·have f:∀ j u,j < 6→(E.getD q Ev.zero).cs[j]?=some u→W.cell? ⟨g,q * 6 + j,none⟩=some u:=fun j u hj hu=>by
   have:=hc g rfl (q * 6 + j) u (by rw [ecs_get E q hq j hj]; exact hu)
   have e:(⟨g,0,none⟩:Addr).add (q * 6 + j)=⟨g,q * 6 + j,none⟩:=by unfold Addr.add; simp; intros; omega
   rw [e] at this; exact this
  exact ⟨g,cap,rfl,(hl g rfl).2,(hl g rfl).1,f 0 _ (by decide) rfl,f 1 _ (by decide) rfl,f 2 _ (by decide) rfl,f 3 _ (by decide) rfl,f 4 _ (by decide) rfl,f 5 _ (by decide) rfl⟩
end SndA
set_option maxRecDepth 100000 in
set_option maxHeartbeats 16000000 in
theorem rlay_any (w0 w:World) (gb bb:Nat) (locs u th:Int) (ve:Value) (E:List Ev) (gv:Nat→Value) (pi:Nat→List (Int × Int)) (ve2 vr vd vc vi vg:Value) (E2:List Ev) (rm pd pc pj:List (Int × Int)) (hG:GS w0 w gb locs ve E gv pi) (hE:E.length≤500) (hp:∀ k,4≤k→k≤7→(pi k).length≤500)
  (hb1:gb < bb) (hb2:∀ g,ve.ownBlock=some g→g < bb) (hb3:∀ k,4≤k→k≤7→∀ g,(gv k).ownBlock=some g→g < bb) (hbw:bb≤w.heap.size)
  (he2:w.ownsRow bb 49 6 ve2 E2.length (ecs E2)) (hr:PV w vr rm) (hd:PV w vd pd) (hc:PV w vc pc) (hi:PV w vi pj) (hl:E2.length≤6∧rm.length≤3∧pd.length≤36∧pc.length≤36∧pj.length≤36) (hvg:Sl vg)
  (hnw:∀ g,vr.ownBlock=some g ∨ vd.ownBlock=some g ∨ vc.ownBlock=some g ∨ vi.ownBlock=some g→bb≤g) :
  Calls Try.prog 38 #[.pointer (some ⟨gb,0,none⟩),.agg #[ve2,vr,vd,vc,vi,.int .i64 u,vg],.int .i64 th] w fun e w'=>LayV w0 w' gb locs E E2 pi e:=by
 have HG:=Lib.hid hG
 have HP:=Lib.hid hp
 have HB:Hid (gb < bb∧(∀ g,ve.ownBlock=some g→g < bb)∧(∀ k,4≤k→k≤7→∀ g,(gv k).ownBlock=some g→g < bb)∧bb≤w.heap.size):=Lib.hid ⟨hb1,hb2,hb3,hbw⟩
 have HE2:=Lib.hid he2
 have HPR:Hid (PV w vr rm∧PV w vd pd∧PV w vc pc∧PV w vi pj):=Lib.hid ⟨hr,hd,hc,hi⟩
 have HLN:=Lib.hid hl
 have HNW:=Lib.hid hnw
 have h6:(E2.length:Int)≤6:=by omega
 obtain ⟨ga,gn,gc,rfl⟩:=hvg
 obtain ⟨ea,ec,rfl⟩:=own_len he2
 obtain ⟨ra,rc,rfl⟩:=own_len hr
 obtain ⟨da,dc,rfl⟩:=own_len hd
 obtain ⟨ca,cc,rfl⟩:=own_len hc
 obtain ⟨ia,ic,rfl⟩:=own_len hi
 clear hG hp hb1 hb2 hb3 hbw he2 hr hd hc hi hl hnw
 obtain ⟨w1,hw1⟩:∃ x,x=w.alloc (Obj.cells #[.slice ea E2.length ec,.slice ra rm.length rc,.slice da pd.length dc,.slice ca pc.length cc,.slice ia pj.length ic,.int .i64 u,.slice ga gn gc] 76 (0,0)):=⟨_,rfl⟩
 obtain ⟨rb,hrb⟩:∃ x,x=w.heap.size:=⟨_,rfl⟩
 have HRB:Hid (w1.heap[rb]?=some (Obj.cells #[.slice ea E2.length ec,.slice ra rm.length rc,.slice da pd.length dc,.slice ca pc.length cc,.slice ia pj.length ic,.int .i64 u,.slice ga gn gc] 76 (0,0))):=Lib.hid (by rw [hw1,hrb]; exact heap_alloc_new _ _)
 have HB1:Hid (Below w.heap.size w w1):=Lib.hid (by rw [hw1]; exact (Below.refl _ _).alloc (Nat.le_refl _) _)
 have HRL:Hid (w.heap.size=rb∧w1.heap.size=rb + 1):=Lib.hid ⟨hrb.symm,by rw [hw1,hrb]; exact size_alloc1 _ _⟩
 have HW1:=Lib.hid hw1.symm
 clear hw1 hrb
 go_enter Try.func38,Try.ntmps38
 go_upto_region 1 with (fail)
 rw [HRL.out.1,HW1.out]
 have HG1:=Lib.hid (HG.out.next HB1.out)
 obtain ⟨oa,oc,rfl⟩:=own_len HG.out.oe
 have g1:=(HG1.out.c1).1
 go_wp2_with fail
 go_loopw [7] (fun x wr=>∃ (q:Nat) (ve':Value) (E':List Ev),q≤E2.length∧x=.int .i64 (q:Int)∧E'.length=E.length + q∧Hid (GS w0 wr gb locs ve' E' gv pi)∧Hid (Fr (fun b=>b < bb) w1 wr)∧Hid (NewB w1 (.slice oa E.length oc) ve')) (fun x _=>E2.length - (intOf x).toNat)
 case atStart=>exact ⟨0,_,E,Nat.zero_le _,rfl,rfl,HG1,Lib.hid (Fr.refl _ _),Lib.hid (NewB.refl _ _)⟩
 case round=>
  obtain ⟨q,ve',E',hq,rfl,hEl,HS,HF,HN⟩:=hrel
  have hqi:(q:Int)≤6:=by omega
  have hrx:wr.heap[rb]?=_:=(HF.out.keep rb (by have:=HRL.out.2; omega) (by have:=HRL.out.1; have:=HB.out.2.2.2; omega)).trans HRB.out
  have HRX:=Lib.hid hrx
  have r0:wr.cell? ⟨rb,0,none⟩=some (.slice ea E2.length ec):=cell_of_row _ _ _ _ _ _ hrx
  clear hrx g1
  by_cases hlt:q < E2.length
  ·have d1:decide ((q:Int) < (E2.length:Int))=true:=by rw [decide_eq_true_iff]; omega
   have i1:(q:Int) < (E2.length:Int):=by omega
   obtain ⟨g,c',hv,hg,hgb,e0,e1,e2,e3,e4,e5⟩:=evs_at HE2.out hlt
   simp only [Value.slice.injEq] at hv
   obtain ⟨rfl,-,rfl⟩:=hv
   have HFW:Hid (Fr (fun b=>b < bb) w wr):=Lib.hid ((Fr.of_below HB1.out).trans HF.out)
   have ng:¬ g < bb:=by omega
   have k0:=HFW.out.cell e0 ng
   have k1:=HFW.out.cell e1 ng
   have k2:=HFW.out.cell e2 ng
   have k3:=HFW.out.cell e3 ng
   have k4:=HFW.out.cell e4 ng
   have k5:=HFW.out.cell e5 ng
   clear e0 e1 e2 e3 e4 e5 ng hgb
   generalize E2.getD q Ev.zero=ev at *
   go_upto_region 7 with (fail)
   have HGa:=Lib.hid (HS.out.next ((Below.refl wr.heap.size wr).alloc (Nat.le_refl _) (Obj.cells #[.int .i64 th,.int .i64 ev.kd,.int .i64 ev.md,.int .i64 ev.lc,.int .i64 ev.vl,.bool ev.ex] 49 (0,0))))
   refine layreg7_l w0 _ gb rb wr.heap.size E.length locs ve' E' ⟨th,ev.kd,ev.md,ev.lc,ev.vl,ev.ex⟩ gv pi HGa.out (by omega) (heap_alloc_new _ _) _ _ _ _ _ _ _ _ _ _ _ _ _ _ _ _ _ _ _ _ _ _ _ _ _ _ _ _ _ _ _ _ _ _ _ _ _ _ _ _ _ _ _ _ _ _ _ _ _ _ _ _ _ _ _ _ _ _ _ _ _ _ _ _ _ _ _ _ _ _ _ _ _ _ _ _ _ _ _ _ _ _ _ (fun _ _ _ _ _ h=>h) ?_
   intro y0 y1 y2 y3 y4 y5 y6 y7 y8 y9 v1 W hG2 hF2 hN2
   have HG2:=Lib.hid hG2
   have HF2:Hid (Fr (fun b=>b < bb) w1 W):=Lib.hid ((HF.out.trans (Fr.of_below ((Below.refl wr.heap.size wr).alloc (Nat.le_refl _) _))).trans2 hF2 (fun x hx hxx=>by
    rcases hxx with rfl | hxx
    ·exact HB.out.1
    ·rcases HN.out with z | ⟨b2,z,z2⟩
     ·rw [z] at hxx; exact HB.out.2.1 x hxx
     ·rw [z] at hxx; simp only [Option.some.injEq] at hxx; omega))
   have HN2:Hid (NewB w1 (.slice oa E.length oc) v1):=Lib.hid (HN.out.trans hN2 (by have:=HF.out.size; simp; omega))
   clear hG2 hF2 hN2 k0 k1 k2 k3 k4 k5 r0
   go_wp2_with fail
   go_roundw
   case rel=>exact ⟨q + 1,v1,E' ++ [⟨th,ev.kd,ev.md,ev.lc,ev.vl,ev.ex⟩],hlt,by go_num,by simp; omega,HG2,HF2,HN2⟩
   case measure=>simp [intOf]; omega
  ·have d1:decide ((q:Int) < (E2.length:Int))=false:=by rw [decide_eq_false_iff_not]; omega
   have i1:¬ (q:Int) < (E2.length:Int):=by omega
   have hrb:¬ rb < bb:=by have:=HRL.out.1; have:=HB.out.2.2.2; omega
   have HFW:Hid (Fr (fun b=>b < bb) w wr):=Lib.hid ((Fr.of_below HB1.out).trans HF.out)
   go_wp2_with fail
   have hx0:wr.cell? ⟨rb,1,none⟩=some (.slice ra rm.length rc):=cell_of_row _ _ _ _ _ _ (HF.out.keep rb (by have:=HRL.out.2; omega) hrb |>.trans HRB.out)
   have hv0:PV wr (.slice ra rm.length rc) rm:=own_fr HPR.out.1 HFW.out (fun g q r=>by have:=HNW.out g (.inl q); omega)
   refine layreg8_l w0 _ gb rb E.length locs _ _ _ _ _ _ HS.out ?_ hx0 hv0 (by have:=HLN.out; omega) _ _ _ _ _ _ _ _ _ _ _ _ _ _ _ _ _ _ _ _ _ _ _ _ _ _ _ _ _ _ _ _ _ _ _ _ _ _ _ _ _ _ _ _ _ _ _ _ _ _ _ _ _ _ _ _ _ _ _ _ _ _ _ _ _ _ _ _ _ _ _ _ _ _ _ _ _ _ _ _ _ _ _ _ (fun _ _ _ _ _ h=>h) ?_
   ·have:=HP.out 4 (by omega) (by omega); omega
   intro y0_0 y0_1 y0_2 y0_3 y0_4 y0_5 y0_6 y0_7 y0_8 y0_9 y0_10 y0_11 x1 W1 hG3 hF3 hN3
   have HS1:=Lib.hid hG3
   have HFx1:Hid (Fr (fun b=>b < bb) w1 W1):=Lib.hid (HF.out.trans2 hF3 (fun x hx hxx=>by
    rcases hxx with rfl | hxx
    ·exact HB.out.1
    ·exact HB.out.2.2.1 4 (by omega) (by omega) x hxx))
   have HFW1:Hid (Fr (fun b=>b < bb) w W1):=Lib.hid ((Fr.of_below HB1.out).trans HFx1.out)
   clear hG3 hF3 hN3 hx0 hv0
   go_wp2_with fail
   have hx1:W1.cell? ⟨rb,2,none⟩=some (.slice da pd.length dc):=cell_of_row _ _ _ _ _ _ (HFx1.out.keep rb (by have:=HRL.out.2; omega) hrb |>.trans HRB.out)
   have hv1:PV W1 (.slice da pd.length dc) pd:=own_fr HPR.out.2.1 HFW1.out (fun g q r=>by have:=HNW.out g (.inr (.inl q)); omega)
   refine layreg9_l w0 _ gb rb E.length locs _ _ _ _ _ _ HS1.out ?_ hx1 hv1 (by have:=HLN.out; omega) _ _ _ _ _ _ _ _ _ _ _ _ _ _ _ _ _ _ _ _ _ _ _ _ _ _ _ _ _ _ _ _ _ _ _ _ _ _ _ _ _ _ _ _ _ _ _ _ _ _ _ _ _ _ _ _ _ _ _ _ _ _ _ _ _ _ _ _ _ _ _ _ _ _ _ _ _ _ _ _ _ _ _ _ (fun _ _ _ _ _ h=>h) ?_
   ·rw [updF_ne _ _ (by omega)]; have:=HP.out 5 (by omega) (by omega); omega
   intro y1_0 y1_1 y1_2 y1_3 y1_4 y1_5 y1_6 y1_7 y1_8 y1_9 y1_10 y1_11 x2 W2 hG3 hF3 hN3
   have HS2:=Lib.hid hG3
   have HFx2:Hid (Fr (fun b=>b < bb) w1 W2):=Lib.hid (HFx1.out.trans2 hF3 (fun x hx hxx=>by
    rcases hxx with rfl | hxx
    ·exact HB.out.1
    ·rw [updF_ne _ _ (by omega)] at hxx; exact HB.out.2.2.1 5 (by omega) (by omega) x hxx))
   have HFW2:Hid (Fr (fun b=>b < bb) w W2):=Lib.hid ((Fr.of_below HB1.out).trans HFx2.out)
   clear hG3 hF3 hN3 hx1 hv1
   go_wp2_with fail
   have hx2:W2.cell? ⟨rb,3,none⟩=some (.slice ca pc.length cc):=cell_of_row _ _ _ _ _ _ (HFx2.out.keep rb (by have:=HRL.out.2; omega) hrb |>.trans HRB.out)
   have hv2:PV W2 (.slice ca pc.length cc) pc:=own_fr HPR.out.2.2.1 HFW2.out (fun g q r=>by have:=HNW.out g (.inr (.inr (.inl q))); omega)
   refine layreg10_l w0 _ gb rb E.length locs _ _ _ _ _ _ HS2.out ?_ hx2 hv2 (by have:=HLN.out; omega) _ _ _ _ _ _ _ _ _ _ _ _ _ _ _ _ _ _ _ _ _ _ _ _ _ _ _ _ _ _ _ _ _ _ _ _ _ _ _ _ _ _ _ _ _ _ _ _ _ _ _ _ _ _ _ _ _ _ _ _ _ _ _ _ _ _ _ _ _ _ _ _ _ _ _ _ _ _ _ _ _ _ _ _ (fun _ _ _ _ _ h=>h) ?_
   ·rw [updF_ne _ _ (by omega),updF_ne _ _ (by omega)]; have:=HP.out 6 (by omega) (by omega); omega
   intro y2_0 y2_1 y2_2 y2_3 y2_4 y2_5 y2_6 y2_7 y2_8 y2_9 y2_10 y2_11 x3 W3 hG3 hF3 hN3
   have HS3:=Lib.hid hG3
   have HFx3:Hid (Fr (fun b=>b < bb) w1 W3):=Lib.hid (HFx2.out.trans2 hF3 (fun x hx hxx=>by
    rcases hxx with rfl | hxx
    ·exact HB.out.1
    ·rw [updF_ne _ _ (by omega)] at hxx; rw [updF_ne _ _ (by omega)] at hxx; exact HB.out.2.2.1 6 (by omega) (by omega) x hxx))
   have HFW3:Hid (Fr (fun b=>b < bb) w W3):=Lib.hid ((Fr.of_below HB1.out).trans HFx3.out)
   clear hG3 hF3 hN3 hx2 hv2
   go_wp2_with fail
   have hx3:W3.cell? ⟨rb,4,none⟩=some (.slice ia pj.length ic):=cell_of_row _ _ _ _ _ _ (HFx3.out.keep rb (by have:=HRL.out.2; omega) hrb |>.trans HRB.out)
   have hv3:PV W3 (.slice ia pj.length ic) pj:=own_fr HPR.out.2.2.2 HFW3.out (fun g q r=>by have:=HNW.out g (.inr (.inr (.inr q))); omega)
   refine layreg11_l w0 _ gb rb E.length locs _ _ _ _ _ _ HS3.out ?_ hx3 hv3 (by have:=HLN.out; omega) _ _ _ _ _ _ _ _ _ _ _ _ _ _ _ _ _ _ _ _ _ _ _ _ _ _ _ _ _ _ _ _ _ _ _ _ _ _ _ _ _ _ _ _ _ _ _ _ _ _ _ _ _ _ _ _ _ _ _ _ _ _ _ _ _ _ _ _ _ _ _ _ _ _ _ _ _ _ _ _ _ _ _ _ (fun _ _ _ _ _ h=>h) ?_
   ·rw [updF_ne _ _ (by omega),updF_ne _ _ (by omega),updF_ne _ _ (by omega)]; have:=HP.out 7 (by omega) (by omega); omega
   intro y3_0 y3_1 y3_2 y3_3 y3_4 y3_5 y3_6 y3_7 y3_8 y3_9 y3_10 y3_11 x4 W4 hG3 hF3 hN3
   have HS4:=Lib.hid hG3
   have HFx4:Hid (Fr (fun b=>b < bb) w1 W4):=Lib.hid (HFx3.out.trans2 hF3 (fun x hx hxx=>by
    rcases hxx with rfl | hxx
    ·exact HB.out.1
    ·rw [updF_ne _ _ (by omega)] at hxx; rw [updF_ne _ _ (by omega)] at hxx; rw [updF_ne _ _ (by omega)] at hxx; exact HB.out.2.2.1 7 (by omega) (by omega) x hxx))
   have HFW4:Hid (Fr (fun b=>b < bb) w W4):=Lib.hid ((Fr.of_below HB1.out).trans HFx4.out)
   clear hG3 hF3 hN3 hx3 hv3
   go_wp2_with fail
   go_end0
   refine ⟨_,_,E',_,_,rfl,HS4.out,by omega,fun k h4 h7=>?_⟩
   have hln:=HLN.out
   have c:k=4 ∨ k=5 ∨ k=6 ∨ k=7:=by omega
   rcases c with c | c | c | c <;> subst c <;> simp [updF] <;> omega
end Go.Proofs.Yteghpophcnehgaa
namespace Go.Proofs.Yteghpophcnehgaa
open Go.RowKit ExprA SndA
set_option maxRecDepth 100000 in
set_option maxHeartbeats 16000000 in
theorem rchk_any (tb T:Nat) (P:List Th) (w:World) (h:PG w tb T P) :
  Calls Try.prog 18 #[pv tb T] w fun e w'=>SaysI e∧Below w.heap.size w w':=by
 have HP:=Lib.hid h
 have hT0:((T:Int) == 0)=false:=by have:=h.one; simp; omega
 have hT4:decide ((4:Int) < (T:Int))=false:=by have:=h.few; rw [decide_eq_false_iff_not]; omega
 have hTi:(T:Int)≤4:=by have:=h.few; omega
 obtain ⟨pb,hpb⟩:∃ x,x=w.heap.size:=⟨_,rfl⟩
 obtain ⟨w1,hw1⟩:∃ x,x=w.alloc (Obj.cells #[.int .i64 2,.slice (some ⟨tb,0,none⟩) T T] 25 (0,0)):=⟨_,rfl⟩
 have hbox:w1.heap[pb]?=some (Obj.cells #[.int .i64 2,.slice (some ⟨tb,0,none⟩) T T] 25 (0,0)):=by rw [hw1,hpb]; exact heap_alloc_new _ _
 have HX0:Hid (w1.cell? ⟨pb,0,none⟩=some (.int .i64 2)):=Lib.hid (cell_of_row _ _ _ _ _ _ hbox)
 have HX1:Hid (w1.cell? ⟨pb,1,none⟩=some (.slice (some ⟨tb,0,none⟩) T T)):=Lib.hid (cell_of_row _ _ _ _ _ _ hbox)
 have HB1:Hid (Below w.heap.size w w1):=Lib.hid (by rw [hw1]; exact (Below.refl _ _).alloc (Nat.le_refl _) _)
 have HPB:Hid (w.heap.size=pb):=Lib.hid hpb.symm
 have HW1:=Lib.hid hw1.symm
 clear hw1 hpb hbox h
 unfold pv
 go_enter Try.func18,Try.ntmps18
 go_upto_region 1 with (fail)
 rw [HPB.out,HW1.out]
 have x0:=HX0.out
 have x1:=HX1.out
 go_wp2_with fail
 go_quiet (fail)
 go_wp2_with fail
 have HD1:Hid (∀ n,Below w1.heap.size w1 (w1.drewN n)):=Lib.hid (fun n=>bel_drewN w1 n)
 clear x0 x1
 go_loopw [3,4,5] (fun x3 x4 x5 wr=>∃ (q m:Nat) (bb:Bool),q≤T∧m≤2 + 6 * q∧x3=.int .i64 (m:Int)∧x4=.bool bb∧x5=.int .i64 (q:Int)∧Hid (Below w1.heap.size w1 wr)) (fun _ _ x5 _=>T - (intOf x5).toNat)
 case atStart=>exact ⟨0,2,false,Nat.zero_le _,by omega,rfl,rfl,rfl,by first | exact HD1 | exact Lib.hid (HD1.out _) | exact Lib.hid (bel_drewN w1 1)⟩
 case round=>
  obtain ⟨q,m,bb,hq,hm,rfl,rfl,rfl,HB⟩:=hrel
  have hqi:(q:Int)≤4:=by omega
  have hmi:(m:Int)≤100:=by have:=HP.out.few; omega
  have x0:=cell_next HX0.out HB.out
  have x1:=cell_next HX1.out HB.out
  by_cases hlt:q < T
  ·have d1:decide ((q:Int) < (T:Int))=true:=by rw [decide_eq_true_iff]; omega
   have i1:(q:Int) < (T:Int):=by omega
   have HPr:=Lib.hid (HP.out.next (below_next HB1.out HB.out))
   have ct:=HPr.out.cell q hlt
   have HTH:=Lib.hid (HPr.out.th q hlt)
   clear hT0 hT4
   generalize P.getD q Th.zero=th at *
   obtain ⟨ta,tL,tc⟩:=th
   have h3:tL.length≤3:=HTH.out.len
   have h3i:(tL.length:Int)≤3:=by omega
   have d12:decide ((12:Int) < (tL.length:Int))=false:=by rw [decide_eq_false_iff_not]; omega
   unfold Th.v at ct
   dsimp only at ct
   go_wp2_with fail
   go_loopw [7] (fun x7 wr2=>∃ (k:Nat),k≤tL.length∧x7=.int .i64 (k:Int)∧Hid (Below wr.heap.size wr wr2)) (fun x7 _=>tL.length - (intOf x7).toNat)
   case atStart=>exact ⟨0,Nat.zero_le _,rfl,Lib.hid (Below.refl _ _)⟩
   case round=>
    obtain ⟨k,hk,rfl,HB2⟩:=hrel
    have hki:(k:Int)≤3:=by omega
    have y0:=cell_next x0 HB2.out
    have y1:=cell_next x1 HB2.out
    by_cases hkl:k < tL.length
    ·have dk:decide ((k:Int) < (tL.length:Int))=true:=by rw [decide_eq_true_iff]; omega
     have ik:(k:Int) < (tL.length:Int):=by omega
     have HT2:=Lib.hid (HTH.out.next HB2.out)
     have HI:Hid (∀ wx,Below wr.heap.size wr wx→∀ lf:Int,Calls Try.prog 31 #[(tL.getD k Ins.zero).v,.int .i64 2,.int .i64 lf] wx fun e w'=>SaysB e∧Below wx.heap.size wx w'):=Lib.hid fun wx hb lf=>by
      have hh:=(HT2.out.ins k hkl)
      exact rinstr_any _ 2 lf wx (hh.2.1.next hb) hh.1 hh.2.2.1
     rcases HT2.out.lin with h0 | ⟨b,o,rfl,hbl,hcc⟩
     ·simp only at h0; rw [h0] at hkl; exact absurd hkl (Nat.not_lt_zero _)
     ·have hl:=hcc k hkl
      have HCC:=Lib.hid hl
      have c0:=hl.c0
      have c1:=hl.c1
      have c2:=hl.c2
      have c3:=hl.c3
      have c4:=hl.c4
      have c5:=hl.c5
      have c6:=hl.c6
      clear hl hcc x0 x1
      unfold Ins.v iagg at HI
      generalize tL.getD k Ins.zero=iq at *
      go_wp2_with fail
      go_region_with (go_at_call 31; refine (HI.out _ (by first | exact Below.refl _ _ | exact bel_drewN _ 1) _).mono ?_; rintro e w2 ⟨⟨bI,rfl⟩,hb2⟩)
      all_goals
       have HB3:=Lib.hid (below_next HB2.out (below_next (bel_drewN _ 1) hb2))
       clear hb2 c0 c1 c2 c3 c4 c5 c6 y0 y1
       cases bI with
       | false=>
        go_wp2_with fail
        go_ret
        exact ⟨⟨_,rfl⟩,below_next HB1.out (below_next HB.out HB3.out)⟩
       | true=>
        go_wp2_with fail
        go_roundw
        case rel=>exact ⟨k + 1,hkl,by go_num,HB3⟩
        case measure=>simp [intOf]; omega
    ·have dk:decide ((k:Int) < (tL.length:Int))=false:=by rw [decide_eq_false_iff_not]; omega
     have ik:¬ (k:Int) < (tL.length:Int):=by omega
     have HT2:=Lib.hid (HTH.out.next HB2.out)
     clear ct x0 x1
     go_wp2_with fail
     refine (revents_any ta tL tc _ HT2.out.lin (by omega)).mono ?_
     rintro e w2 ⟨⟨n,rfl,hn⟩,hb2⟩
     have hni:(n:Int)≤6:=by omega
     have HT3:=Lib.hid (HT2.out.next hb2)
     have HB3:=Lib.hid (below_next HB.out (below_next HB2.out hb2))
     clear hb2 y0 y1
     cases bb with
     | true=>
      go_wp2_with fail
      go_roundw
      case rel=>exact ⟨q + 1,m + n,true,hlt,by omega,by go_num,rfl,by go_num,HB3⟩
      case measure=>simp [intOf]; omega
     | false=>
      go_wp2_with fail
      refine (rpaths_any ta tL tc _ HT3.out.lin (by omega)).mono ?_
      rintro e w3 ⟨⟨n2,rfl,hn2⟩,hb3⟩
      have HB4:=Lib.hid (below_next HB3.out hb3)
      clear hb3
      go_wp2_with fail
      go_roundw
      case rel=>exact ⟨q + 1,m + n,_,hlt,by omega,by go_num,rfl,by go_num,HB4⟩
      case measure=>simp [intOf]; omega
  ·have d1:decide ((q:Int) < (T:Int))=false:=by rw [decide_eq_false_iff_not]; omega
   have i1:¬ (q:Int) < (T:Int):=by omega
   cases bb with
   | true=>
    go_wp2_with fail
    go_ret
    exact ⟨⟨_,rfl⟩,below_next HB1.out HB.out⟩
   | false=>
    have dm:decide ((40:Int) < (m:Int))=false:=by rw [decide_eq_false_iff_not]; omega
    go_wp2_with fail
    go_ret
    exact ⟨⟨_,rfl⟩,below_next HB1.out HB.out⟩
end Go.Proofs.Yteghpophcnehgaa
