/-
  What the functions that the law reaches do, one by one: contracts. Conditions: those that each of them prints.
-/
import Derived.Test.YteghpophcnehgaaMzi
import Derived.WalkKit
import Derived.Deep.DeepCutAuto
import Derived.Deep.CutBlock
namespace Go.Proofs.Yteghpophcnehgaa
open Go.RowKit ExprA SndA
namespace SndA
theorem XE.of {eb rb cb:Nat} {vL vL':Value} {w:World} (h:NewB w vL vL'):∀ x,x < w.heap.size→XE eb rb cb vL' x→XE eb rb cb vL x:=fun x hx q=>by
 rcases q with q | q | q | q
 ·exact .inl q
 ·exact .inr (.inl q)
 ·exact .inr (.inr (.inl q))
 ·rcases h with z | ⟨b,z,z2⟩
  ·rw [z] at q; exact .inr (.inr (.inr q))
  ·rw [z] at q; simp only [Option.some.injEq] at q; omega
theorem XE.lt {eb rb cb:Nat} {vL:Value} {w0 W:World} {G:List G8} {big:Bool} {g:G8} {E:List Ev} {R:List Int} {C:List (List Int)} {cvs:List Value} (h:CS w0 W eb rb cb vL G big g E R C cvs):∀ x,XE eb rb cb vL x→x < W.heap.size:=fun x q=>by
 rcases q with q | q | q | q
 ·rw [q]; exact h.lt.1
 ·rw [q]; exact h.lt.2.1
 ·rw [q]; exact h.lt.2.2.1
 ·exact h.lt.2.2.2 x q
theorem XE.new {eb rb cb:Nat} {vL v:Value} {w0 W:World} {G:List G8} {big:Bool} {g:G8} {E:List Ev} {R:List Int} {C:List (List Int)} {cvs:List Value} (h:CS w0 W eb rb cb vL G big g E R C cvs) {l:List Int} (hv:LV W v l) (hr:∀ b,v.ownBlock=some b→b ≠ rb):∀ b,v.ownBlock=some b→¬ XE eb rb cb vL b:=fun b q r=>by
 rcases r with r | r | r | r
 ·exact own_typ hv h.box (by decide) (by rw [← r]; exact q)
 ·exact hr b q r
 ·exact own_typ hv h.cr.co (by decide) (by rw [← r]; exact q)
 ·exact own_kg hv (by decide) (by decide) q (h.kg.2 b r)
theorem bigd {n:Nat}:decide ((20000:Int) < (n:Int))=decide (20000 < n):=by
 by_cases h:20000 < n
 ·rw [decide_eq_true h,decide_eq_true_iff]; omega
 ·rw [decide_eq_false h,decide_eq_false_iff_not]; omega
end SndA
set_option maxRecDepth 100000 in
set_option maxHeartbeats 32000000 in
theorem rco_any (m:Nat):∀ (w0 w:World) (eb rb cb loc:Nat) (vL:Value) (G:List G8) (big:Bool) (g:G8) (E:List Ev) (R:List Int) (C:List (List Int)) (cvs:List Value),CS w0 w eb rb cb vL G big g E R C cvs→w0.heap.size≤w.heap.size→loc≤C.length→G.length≤20001→big=decide (20000 < G.length)→(C.length - loc) * (E.length + 1) + miss (C.getD loc []) E.length < m →
  Calls Try.prog 59 #[.pointer (some ⟨eb,0,none⟩),g.v,.int .i64 (loc:Int)] w fun e w'=>CoV w0 w w' eb rb cb vL g E C.length e:=by
 induction m with
 | zero=>intro w0 w eb rb cb loc vL G big g E R C cvs _ _ _ _ _ h; exact absurd h (Nat.not_lt_zero _)
 | succ m ih=>
 intro w0 w eb rb cb loc vL G big g E R C cvs hS hw0 hloc hGl hbig hm
 have HIH:=Lib.hid ih
 have HW0:=Lib.hid hw0
 have HM:=Lib.hid hm
 have hli:(loc:Int)≤2:=by have:=hS.cr.lc; omega
 have hni:(C.length:Int)≤2:=by have:=hS.cr.lc; omega
 have hei:(E.length:Int)≤100:=by have:=hS.cr.le; omega
 have HLE:Hid (C.length≤E.length∧loc≤C.length∧G.length≤20001):=Lib.hid ⟨hS.cr.lle,hloc,hGl⟩
 obtain ⟨gn,ve,vr,vc,p4,p5,p6,p7⟩:=g
 obtain ⟨ea,ec,h1⟩:=own_len hS.cr.ev
 have h2:=hS.cr.gr
 have h3:=hS.cr.gc
 have h4:=hS.cr.gn
 obtain ⟨⟨a4,n4,c4,s4⟩,⟨a5,n5,c5,s5⟩,⟨a6,n6,c6,s6⟩,⟨a7,n7,c7,s7⟩⟩:=hS.cr.sl
 dsimp only at h1 h2 h3 h4 s4 s5 s6 s7
 subst h1 h2 h3 h4 s4 s5 s6 s7
 obtain ⟨la,lc,rfl⟩:=own_len hS.own
 have HS:=Lib.hid hS
 obtain ⟨w1,hw1⟩:∃ x,x=w.alloc (Obj.cells #[.int .i64 (C.length:Int),.slice ea E.length ec,.slice (some ⟨rb,0,none⟩) E.length E.length,.slice (some ⟨cb,0,none⟩) C.length C.length,.slice a4 n4 c4,.slice a5 n5 c5,.slice a6 n6 c6,.slice a7 n7 c7] 38 (0,0)):=⟨_,rfl⟩
 obtain ⟨pb,hpb⟩:∃ x,x=w.heap.size:=⟨_,rfl⟩
 have HB1:Hid (Below w.heap.size w w1):=Lib.hid (by rw [hw1]; exact (Below.refl _ _).alloc (Nat.le_refl _) _)
 have HPB:Hid (w1.heap[pb]?=some (Obj.cells #[.int .i64 (C.length:Int),.slice ea E.length ec,.slice (some ⟨rb,0,none⟩) E.length E.length,.slice (some ⟨cb,0,none⟩) C.length C.length,.slice a4 n4 c4,.slice a5 n5 c5,.slice a6 n6 c6,.slice a7 n7 c7] 38 (0,0))):=Lib.hid (by rw [hw1,hpb]; exact heap_alloc_new _ _)
 have HSZ:Hid (w.heap.size=pb∧w1.heap.size=pb + 1):=Lib.hid ⟨hpb.symm,by rw [hw1,hpb]; exact size_alloc1 _ _⟩
 have HW1:=Lib.hid hw1.symm
 have HS1:=Lib.hid (hS.next HB1.out)
 have HNX:Hid (¬ XE eb rb cb (.slice la G.length lc) pb):=Lib.hid (fun q=>by have:=XE.lt hS _ q; omega)
 clear hw1 hpb hS hm hw0 ih hGl hloc
 unfold G8.v
 dsimp only
 go_enter Try.func59,Try.ntmps59
 go_upto_region 1 with (fail)
 rw [HSZ.out.1,HW1.out]
 obtain ⟨k0,k1,k2⟩:=HS1.out.ce
 by_cases hb20:20000 < G.length
 ·have e:big=true:=by rw [hbig]; exact decide_eq_true hb20
  subst e
  have HBG:=Lib.hid hbig
  clear hbig hb20
  go_wp2_with fail
  try simp only [Exit.inBlock,Exit.then]
  refine bodyPost_ret (results_none rfl _ _ _) rfl ?_
  exact ⟨_,_,G,true,R,C,cvs,rfl,HS1.out,rfl,HLE.out.2.2,HBG.out,Fr.of_below HB1.out,NewB.refl _ _⟩
 ·have e:big=false:=by rw [hbig]; exact decide_eq_false hb20
  subst e
  have HG20:Hid (G.length≤20000):=Lib.hid (by omega)
  have HBG:=Lib.hid hbig
  clear hbig hb20
  clear k0 k2
  have p0:w1.cell? ⟨pb,0,none⟩=some (.int .i64 (C.length:Int)):=cell_of_row _ _ _ _ _ _ HPB.out
  by_cases hln:loc=C.length
  ·have hlb:((loc:Int) == (C.length:Int))=true:=by simp [hln]
   clear hln
   go_upto_region 3 with (fail)
   refine coreg3_l w0 w1 eb rb cb pb _ G false _ E R C cvs HS1.out (Nat.le_trans HW0.out HB1.out.size) HG20.out HPB.out ⟨_,_,_,rfl⟩ _ _ _ _ _ _ _ _ _ _ _ _ _ _ _ _ _ _ _ _ _ _ _ _ _ _ _ _ _ _ _ _ _ _ _ _ _ _ _ _ _ _ _ _ _ _ _ _ _ _ _ _ _ _ _ _ _ _ _ _ _ _ _ _ _ _ _ _ _ _ _ _ _ _ _ _ _ _ _ _ _ _ _ _ _ _ _ _ _ _ _ _ _ _ _ _ _ _ _ _ _ _ _ _ _ _ _ _ _ (fun _ _ _ _ _ h=>h) ?_
   intro y0 y1 y2 y3 y4 y5 y6 y7 y8 y9 y10 vL3 g3 W3 hS3 hF3 hN3
   have hG3:(G ++ [g3]).length=G.length + 1:=by simp
   obtain ⟨l3,c3,hv3⟩:=own_len hS3.own
   subst hv3
   generalize G ++ [g3]=G3 at hS3 hG3 hN3 ⊢
   have HS3:=Lib.hid hS3
   have HF3:=Lib.hid hF3
   have HN3:=Lib.hid hN3
   have HG3:=Lib.hid hG3
   have hgi:(G3.length:Int)≤20001:=by have:=HG20.out; omega
   obtain ⟨q0,q1,q2⟩:=hS3.ce
   clear hS3 hF3 hN3 hG3 p0 k1
   go_wp2_with fail
   try simp only [Exit.inBlock,Exit.then]
   refine bodyPost_ret (results_none rfl _ _ _) rfl ?_
   have hS4:=HS3.out.setB (decide ((20000:Int) < (G3.length:Int)))
   exact ⟨_,_,G3,_,R,C,cvs,rfl,hS4,rfl,by have:=HG3.out; have:=HG20.out; omega,bigd,((Fr.of_below HB1.out).trans2 HF3.out (fun _ _ q=>q)).trans (Fr.set W3 eb 1 _ (.inl rfl)),(NewB.refl _ _ |>.trans HN3.out HB1.out.size)⟩
  ·have hlt:loc < C.length:=by have:=HLE.out.2.1; omega
   have hlb:((loc:Int) == (C.length:Int))=false:=by simp; omega
   have hlc:(loc:Int) < (C.length:Int):=by omega
   have p3:w1.cell? ⟨pb,3,none⟩=some (.slice (some ⟨cb,0,none⟩) C.length C.length):=cell_of_row _ _ _ _ _ _ HPB.out
   obtain ⟨d1,d2⟩:=HS1.out.cr.cell hlt
   obtain ⟨hwas,hwr⟩:=HS1.out.cr.el loc hlt
   have HOK:=Lib.hid (HS1.out.cr.ok loc hlt)
   have HGD:Hid (C.getD loc []=C.getD loc []):=Lib.hid rfl
   obtain ⟨wq,hwq⟩:∃ x,x=C.getD loc []:=⟨_,rfl⟩
   rw [← hwq] at hwas HOK HM
   have HWQ:=Lib.hid hwq.symm
   clear hwq HGD
   obtain ⟨xa,xc,hxe⟩:=own_len hwas
   rw [hxe] at hwas hwr d1
   have HWAS:=Lib.hid hwas
   have HWR:=Lib.hid hwr
   have HNW:Hid (∀ b,Value.ownBlock (.slice xa wq.length xc)=some b→¬ XE eb rb cb (.slice la G.length lc) b):=Lib.hid (XE.new HS1.out hwas hwr)
   have hwl:(wq.length:Int)≤100:=by have:=HOK.out.2; omega
   clear hwas hwr hxe d2 hln
   go_upto_block 0 with (fail)
   go_wp2_with fail
   go_loopw [6,8] (fun x6 x8 wr=>∃ (q:Nat) (mr:Bool) (vL':Value) (G':List G8) (big':Bool) (R':List Int) (C':List (List Int)) (cvs':List Value),C.length≤q∧q≤E.length∧x6=.bool mr∧x8=.int .i64 (q:Int)∧Hid (CS w0 wr eb rb cb vL' G' big' ⟨(C.length:Int),.slice ea E.length ec,.slice (some ⟨rb,0,none⟩) E.length E.length,.slice (some ⟨cb,0,none⟩) C.length C.length,.slice a4 n4 c4,.slice a5 n5 c5,.slice a6 n6 c6,.slice a7 n7 c7⟩ E R' C' cvs')∧C'.length=C.length∧Hid (G'.length≤20001∧big'=decide (20000 < G'.length))∧Hid (Fr (XE eb rb cb (.slice la G.length lc)) w1 wr)∧Hid (NewB w1 (.slice la G.length lc) vL')) (fun _ x8 _=>E.length - (intOf x8).toNat)
   case atStart=>exact ⟨C.length,false,_,G,false,R,C,cvs,Nat.le_refl _,HLE.out.1,rfl,rfl,HS1,rfl,Lib.hid ⟨HLE.out.2.2,HBG.out⟩,Lib.hid (Fr.refl _ _),Lib.hid (NewB.refl _ _)⟩
   case round=>
    obtain ⟨q,mr,vL',G',big',R',C',cvs',hq0,hq,rfl,rfl,HSr,hCl,HGr,HFr,HNr⟩:=hrel
    have hqi:(q:Int)≤100:=by omega
    have HCL:=Lib.hid hCl
    have HQQ:Hid (q≤E.length):=Lib.hid hq
    have HPr:Hid (wr.heap[pb]?=some (Obj.cells #[.int .i64 (C.length:Int),.slice ea E.length ec,.slice (some ⟨rb,0,none⟩) E.length E.length,.slice (some ⟨cb,0,none⟩) C.length C.length,.slice a4 n4 c4,.slice a5 n5 c5,.slice a6 n6 c6,.slice a7 n7 c7] 38 (0,0))):=Lib.hid ((HFr.out.keep pb (by have:=HSZ.out.2; omega) HNX.out).trans HPB.out)
    have p1:wr.cell? ⟨pb,1,none⟩=some (.slice ea E.length ec):=cell_of_row _ _ _ _ _ _ HPr.out
    have HWr:Hid (LV wr (.slice xa wq.length xc) wq):=Lib.hid (own_fr HWAS.out HFr.out HNW.out)
    clear hCl hq p0 k1 p3 d1
    by_cases hlt2:q < E.length
    ·have dq:decide ((q:Int) < (E.length:Int))=true:=by rw [decide_eq_true_iff]; omega
     have iq:(q:Int) < (E.length:Int):=by omega
     obtain ⟨g,c',hv,hg,-,e0,e1,e2,e3,e4,e5⟩:=evs_at HSr.out.cr.ev hlt2
     simp only [Value.slice.injEq] at hv
     obtain ⟨rfl,-,rfl⟩:=hv
     generalize E.getD q Ev.zero=ev at *
     go_upto_region 11 with (fail)
     obtain ⟨wy,hwy⟩:∃ x,x=wr.alloc (Obj.cells #[.int .i64 ev.th,.int .i64 ev.kd,.int .i64 ev.md,.int .i64 ev.lc,.int .i64 ev.vl,.bool ev.ex] 49 (0,0)):=⟨_,rfl⟩
     obtain ⟨xb,hxb⟩:∃ x,x=wr.heap.size:=⟨_,rfl⟩
     have HXB:Hid (wy.heap[xb]?=some (Obj.cells #[.int .i64 ev.th,.int .i64 ev.kd,.int .i64 ev.md,.int .i64 ev.lc,.int .i64 ev.vl,.bool ev.ex] 49 (0,0))):=Lib.hid (by rw [hwy,hxb]; exact heap_alloc_new _ _)
     have HBy:Hid (Below wr.heap.size wr wy):=Lib.hid (by rw [hwy]; exact (Below.refl _ _).alloc (Nat.le_refl _) _)
     rw [← hwy,← hxb]
     clear hwy hxb e0 e1 e2 e3 e4 e5 p1
     have f1:wy.cell? ⟨xb,1,none⟩=some (.int .i64 ev.kd):=cell_of_row _ _ _ _ _ _ HXB.out
     have f3:wy.cell? ⟨xb,3,none⟩=some (.int .i64 ev.lc):=cell_of_row _ _ _ _ _ _ HXB.out
     go_cut [10] (fun x10 wx=>(∃ b,x10=.bool b)∧wx=wy)
     case first=>
      go_wp2_with fail
      all_goals go_meet
      all_goals exact ⟨⟨_,rfl⟩,rfl⟩
     case rest=>
      obtain ⟨⟨bi,rfl⟩,hwc⟩:=hcut
      subst hwc
      clear f1 f3
      have HWy:=Lib.hid (HWr.out.next HBy.out)
      go_wp2_with fail
      go_loopw [10,11] (fun x10 x11 wr2=>∃ (k:Nat) (b:Bool),k≤wq.length∧x10=.bool b∧x11=.int .i64 (k:Int)∧Hid (b=false→(q:Int) ∉ wq.take k)∧Hid (Below wc.heap.size wc wr2)) (fun _ x11 _=>wq.length - (intOf x11).toNat)
      case atStart=>exact ⟨0,bi,Nat.zero_le _,rfl,rfl,Lib.hid (fun _=>by simp),Lib.hid (Below.refl _ _)⟩
      case round=>
       obtain ⟨k,b,hk,rfl,rfl,HNI,HB2⟩:=hrel
       have hki:(k:Int)≤100:=by omega
       by_cases hkl:k < wq.length
       ·have dk:decide ((k:Int) < (wq.length:Int))=true:=by rw [decide_eq_true_iff]; omega
        have ik:(k:Int) < (wq.length:Int):=by omega
        have HTK:Hid (wq.take (k + 1)=wq.take k ++ [wq.getD k 0]):=Lib.hid (take_one hkl _)
        obtain ⟨gw,hxa,hg1,hg2,hg3,hcw⟩:=own_cell (HWy.out.next HB2.out) hkl rfl
        have HXA:=Lib.hid hxa
        subst hxa
        clear hg1 hg2 hg3
        generalize wq.getD k 0=y at *
        cases b with
        | true=>
         clear hcw
         go_wp2_with fail
         go_roundw
         case rel=>exact ⟨k + 1,true,hkl,rfl,by go_num,Lib.hid (fun z=>by cases z),HB2⟩
         case measure=>simp [intOf]; omega
        | false=>
         by_cases hy:y=(q:Int)
         ·have d7:(y == (q:Int))=true:=by simp [hy]
          clear hy
          go_wp2_with fail
          go_roundw
          case rel=>exact ⟨k + 1,true,hkl,rfl,by go_num,Lib.hid (fun z=>by cases z),HB2⟩
          case measure=>simp [intOf]; omega
         ·have d7:(y == (q:Int))=false:=by simp [hy]
          have HNI2:Hid (false=false→(q:Int) ∉ wq.take (k + 1)):=Lib.hid (fun z r=>by
           rw [HTK.out] at r
           rcases List.mem_append.1 r with r | r
           ·exact HNI.out z r
           ·rw [List.mem_singleton] at r; exact hy r.symm)
          clear hy
          go_wp2_with fail
          go_roundw
          case rel=>exact ⟨k + 1,false,hkl,rfl,by go_num,HNI2,HB2⟩
          case measure=>simp [intOf]; omega
       ·have dk:decide ((k:Int) < (wq.length:Int))=false:=by rw [decide_eq_false_iff_not]; omega
        have ik:¬ (k:Int) < (wq.length:Int):=by omega
        have HNI3:Hid (b=false→(q:Int) ∉ wq):=Lib.hid (by have:=HNI.out; rwa [List.take_of_length_le (by omega)] at this)
        have HB3:=Lib.hid (below_next HBy.out HB2.out)
        have HS3:=Lib.hid (HSr.out.next HB3.out)
        have HF3:Hid (Fr (XE eb rb cb (.slice la G.length lc)) w1 _):=Lib.hid (HFr.out.trans (Fr.of_below HB3.out))
        cases b with
        | true=>
         go_wp2_with fail
         go_roundw
         case rel=>exact ⟨q + 1,mr,vL',G',big',R',C',cvs',by omega,hlt2,rfl,by go_num,HS3,HCL.out,HGr,HF3,HNr⟩
         case measure=>simp [intOf]; omega
        | false=>
         have HWz:=Lib.hid (HWy.out.next HB2.out)
         have HPz:=Lib.hid ((HB3.out.block pb (blk_lt HPr.out)).trans HPr.out)
         have p3:wr.cell? ⟨pb,3,none⟩=some (.slice (some ⟨cb,0,none⟩) C'.length C'.length):=by rw [HCL.out]; exact cell_of_row _ _ _ _ _ _ HPz.out
         have HOK2:Hid (CoOk E.length (wq ++ [(q:Int)])∧(wq ++ [(q:Int)]).length + miss (wq ++ [(q:Int)]) E.length≤E.length∧miss (wq ++ [(q:Int)]) E.length + 1≤miss wq E.length):=Lib.hid (by
          have h1:=HOK.out
          have h2:=miss_snoc (HNI3.out rfl) E.length hlt2
          refine ⟨⟨by simp,fun x hx=>?_⟩,by simp; omega,h2⟩
          rcases List.mem_append.1 hx with r | r
          ·exact h1.1.2 x r
          ·rw [List.mem_singleton] at r; subst r; omega)
         have HCT:Hid (loc < C'.length):=Lib.hid (by rw [HCL.out]; exact hlt)
         have HLW:Hid (wq.length≤900):=Lib.hid (by omega)
         go_upto_region 18 with (fail)
         refine coreg18_l w0 _ eb rb cb pb loc q xc _ wq vL' G' big' _ E R' C' cvs' HS3.out HCT.out p3 HWz.out HLW.out ⟨HOK2.out.1,HOK2.out.2.1⟩ _ _ _ _ _ _ _ _ _ _ _ _ _ _ _ _ _ _ _ _ _ _ _ _ _ _ _ _ _ _ _ _ _ _ _ _ _ _ _ _ _ _ _ _ _ _ _ _ _ _ _ _ _ _ _ _ _ _ _ _ _ _ _ _ _ _ _ _ _ _ _ _ _ _ _ _ _ _ _ _ _ _ _ _ _ _ _ _ _ _ _ _ _ _ _ _ _ _ _ _ _ _ _ _ _ _ _ (fun _ _ _ _ _ h=>h) ?_
         intro y0 y1 y2 y3 y4 y5 y6 y7 y8 cv5 W5 hS5 hF5
         have HS5:=Lib.hid hS5
         have HF5:Hid (Fr (XE eb rb cb (.slice la G.length lc)) w1 W5):=Lib.hid (HF3.out.trans2 hF5 (XE.of HNr.out))
         have HP5:Hid (W5.heap[pb]?=some (Obj.cells #[.int .i64 (C.length:Int),.slice (some ⟨g,0,none⟩) E.length ec,.slice (some ⟨rb,0,none⟩) E.length E.length,.slice (some ⟨cb,0,none⟩) C.length C.length,.slice a4 n4 c4,.slice a5 n5 c5,.slice a6 n6 c6,.slice a7 n7 c7] 38 (0,0))):=Lib.hid ((HF5.out.keep pb (by have:=HSZ.out.2; omega) HNX.out).trans HPB.out)
         clear hS5 hF5 p3
         have g0:W5.cell? ⟨pb,0,none⟩=some (.int .i64 (C.length:Int)):=cell_of_row _ _ _ _ _ _ HP5.out
         have g1:W5.cell? ⟨pb,1,none⟩=some (.slice (some ⟨g,0,none⟩) E.length ec):=cell_of_row _ _ _ _ _ _ HP5.out
         have g2:W5.cell? ⟨pb,2,none⟩=some (.slice (some ⟨rb,0,none⟩) E.length E.length):=cell_of_row _ _ _ _ _ _ HP5.out
         have g3:W5.cell? ⟨pb,3,none⟩=some (.slice (some ⟨cb,0,none⟩) C.length C.length):=cell_of_row _ _ _ _ _ _ HP5.out
         have g4:W5.cell? ⟨pb,4,none⟩=some (.slice a4 n4 c4):=cell_of_row _ _ _ _ _ _ HP5.out
         have g5:W5.cell? ⟨pb,5,none⟩=some (.slice a5 n5 c5):=cell_of_row _ _ _ _ _ _ HP5.out
         have g6:W5.cell? ⟨pb,6,none⟩=some (.slice a6 n6 c6):=cell_of_row _ _ _ _ _ _ HP5.out
         have g7:W5.cell? ⟨pb,7,none⟩=some (.slice a7 n7 c7):=cell_of_row _ _ _ _ _ _ HP5.out
         go_wp2_with fail
         have HCO:=Lib.hid (HIH.out w0 W5 eb rb cb loc vL' G' big' ⟨(C.length:Int),.slice (some ⟨g,0,none⟩) E.length ec,.slice (some ⟨rb,0,none⟩) E.length E.length,.slice (some ⟨cb,0,none⟩) C.length C.length,.slice a4 n4 c4,.slice a5 n5 c5,.slice a6 n6 c6,.slice a7 n7 c7⟩ E R' (C'.set loc (wq ++ [(q:Int)])) cv5 HS5.out (Nat.le_trans HW0.out (Nat.le_trans HB1.out.size HF5.out.size)) (by rw [List.length_set]; exact Nat.le_of_lt HCT.out) HGr.out.1 HGr.out.2 (by
          have h1:=HM.out
          have h2:=HOK2.out.2.2
          have h3:(C'.set loc (wq ++ [(q:Int)])).getD loc []=wq ++ [(q:Int)]:=by simp [List.getD_eq_getElem?_getD,HCT.out]
          rw [List.length_set,HCL.out,h3]
          omega))
         refine HCO.out.mono ?_
         rintro e w6 ⟨x6,vL6,G6,big6,R6,C6,cv6,rfl,hS6,hC6,hG6,hb6,hF6,hN6⟩
         have HS6:=Lib.hid hS6
         have HC6:Hid (C6.length=C.length):=Lib.hid (by rw [hC6,List.length_set]; exact HCL.out)
         have HG6:=Lib.hid (And.intro hG6 hb6)
         have HF6:Hid (Fr (XE eb rb cb (.slice la G.length lc)) w1 w6):=Lib.hid (HF5.out.trans2 hF6 (XE.of HNr.out))
         have HN6:Hid (NewB w1 (.slice la G.length lc) vL6):=Lib.hid (HNr.out.trans hN6 HF5.out.size)
         clear hS6 hC6 hG6 hb6 hF6 hN6 HCO g0 g1 g2 g3 g4 g5 g6 g7
         go_wp2_with fail
         go_roundw
         case rel=>exact ⟨q + 1,true,vL6,G6,big6,R6,C6,cv6,by omega,hlt2,rfl,by go_num,HS6,HC6.out,HG6,HF6,HN6⟩
         case measure=>simp [intOf]; omega
    ·have dq:decide ((q:Int) < (E.length:Int))=false:=by rw [decide_eq_false_iff_not]; omega
     have iq:¬ (q:Int) < (E.length:Int):=by omega
     have HCT:Hid (loc < C'.length):=Lib.hid (by rw [HCL.out]; exact hlt)
     have p3:wr.cell? ⟨pb,3,none⟩=some (.slice (some ⟨cb,0,none⟩) C'.length C'.length):=by rw [HCL.out]; exact cell_of_row _ _ _ _ _ _ HPr.out
     obtain ⟨k3,k4⟩:=HSr.out.cr.cell HCT.out
     have hlc2:(loc:Int) < (C'.length:Int):=by have:=HCT.out; omega
     have HS7:=Lib.hid (HSr.out.setC HCT.out HWr.out HWR.out HOK.out)
     have HF7:Hid (Fr (XE eb rb cb (.slice la G.length lc)) w1 (wr.setCell ⟨cb,loc,none⟩ (.slice xa wq.length xc))):=Lib.hid (HFr.out.trans (Fr.set wr cb loc _ (.inr (.inr (.inl rfl)))))
     go_upto_region 21 with (fail)
     generalize World.setCell wr _ _=w7 at HS7 HF7 ⊢
     have HP7:Hid (w7.heap[pb]?=some (Obj.cells #[.int .i64 (C.length:Int),.slice ea E.length ec,.slice (some ⟨rb,0,none⟩) E.length E.length,.slice (some ⟨cb,0,none⟩) C.length C.length,.slice a4 n4 c4,.slice a5 n5 c5,.slice a6 n6 c6,.slice a7 n7 c7] 38 (0,0))):=Lib.hid ((HF7.out.keep pb (by have:=HSZ.out.2; omega) HNX.out).trans HPB.out)
     clear p1 p3 k3 k4
     cases mr with
     | true=>
      go_wp2_with fail
      go_end0
      exact ⟨_,vL',G',big',R',_,_,rfl,HS7.out,by rw [List.length_set]; exact HCL.out,HGr.out.1,HGr.out.2,(Fr.of_below HB1.out).trans2 HF7.out (fun _ _ z=>z),(NewB.refl _ _).trans HNr.out HB1.out.size⟩
     | false=>
      have g0:w7.cell? ⟨pb,0,none⟩=some (.int .i64 (C.length:Int)):=cell_of_row _ _ _ _ _ _ HP7.out
      have g1:w7.cell? ⟨pb,1,none⟩=some (.slice ea E.length ec):=cell_of_row _ _ _ _ _ _ HP7.out
      have g2:w7.cell? ⟨pb,2,none⟩=some (.slice (some ⟨rb,0,none⟩) E.length E.length):=cell_of_row _ _ _ _ _ _ HP7.out
      have g3:w7.cell? ⟨pb,3,none⟩=some (.slice (some ⟨cb,0,none⟩) C.length C.length):=cell_of_row _ _ _ _ _ _ HP7.out
      have g4:w7.cell? ⟨pb,4,none⟩=some (.slice a4 n4 c4):=cell_of_row _ _ _ _ _ _ HP7.out
      have g5:w7.cell? ⟨pb,5,none⟩=some (.slice a5 n5 c5):=cell_of_row _ _ _ _ _ _ HP7.out
      have g6:w7.cell? ⟨pb,6,none⟩=some (.slice a6 n6 c6):=cell_of_row _ _ _ _ _ _ HP7.out
      have g7:w7.cell? ⟨pb,7,none⟩=some (.slice a7 n7 c7):=cell_of_row _ _ _ _ _ _ HP7.out
      go_wp2_with fail
      have HCO:=Lib.hid (HIH.out w0 w7 eb rb cb (loc + 1) vL' G' big' ⟨(C.length:Int),.slice ea E.length ec,.slice (some ⟨rb,0,none⟩) E.length E.length,.slice (some ⟨cb,0,none⟩) C.length C.length,.slice a4 n4 c4,.slice a5 n5 c5,.slice a6 n6 c6,.slice a7 n7 c7⟩ E R' (C'.set loc wq) _ HS7.out (Nat.le_trans HW0.out (Nat.le_trans HB1.out.size HF7.out.size)) (by rw [List.length_set]; exact HCT.out) HGr.out.1 HGr.out.2 (by
       have h1:=HM.out
       have h2:=miss_le ((C'.set loc wq).getD (loc + 1) []) E.length
       have h3:=HCT.out
       have h4:=HCL.out
       rw [List.length_set,h4]
       have h5:(C.length - loc) * (E.length + 1)=(C.length - (loc + 1)) * (E.length + 1) + (E.length + 1):=by
        rw [show C.length - loc=(C.length - (loc + 1)) + 1 by omega,Nat.add_mul,Nat.one_mul]
       omega))
      rw [show (((loc + 1:Nat):Int))=(loc:Int) + 1 by omega] at HCO
      refine HCO.out.mono ?_
      rintro e w6 ⟨x6,vL6,G6,big6,R6,C6,cv6,rfl,hS6,hC6,hG6,hb6,hF6,hN6⟩
      have HS6:=Lib.hid hS6
      have HC6:Hid (C6.length=C.length):=Lib.hid (by rw [hC6,List.length_set]; exact HCL.out)
      have HG6:=Lib.hid (And.intro hG6 hb6)
      have HF6:Hid (Fr (XE eb rb cb (.slice la G.length lc)) w1 w6):=Lib.hid (HF7.out.trans2 hF6 (XE.of HNr.out))
      have HN6:Hid (NewB w1 (.slice la G.length lc) vL6):=Lib.hid (HNr.out.trans hN6 HF7.out.size)
      clear hS6 hC6 hG6 hb6 hF6 hN6 HCO g0 g1 g2 g3 g4 g5 g6 g7
      go_wp2_with fail
      go_end0
      exact ⟨_,vL6,G6,big6,R6,C6,cv6,rfl,HS6.out,HC6.out,HG6.out.1,HG6.out.2,(Fr.of_below HB1.out).trans2 HF6.out (fun _ _ z=>z),(NewB.refl _ _).trans HN6.out HB1.out.size⟩
end Go.Proofs.Yteghpophcnehgaa
