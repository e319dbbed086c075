/-
  What the functions that the law reaches do, one by one: contracts. Conditions: those that each of them prints.
-/
import Derived.Test.YteghpophcnehgaaMzj
import Derived.Deep.OwnRows
namespace Go.Proofs.Yteghpophcnehgaa
open Go.RowKit ExprA SndA
set_option maxRecDepth 100000 in
set_option maxHeartbeats 32000000 in
theorem rrf_any (m:Nat):∀ (w0 w:World) (eb rb cb i:Nat) (vL:Value) (G:List G8) (big:Bool) (g:G8) (E:List Ev) (R:List Int) (C:List (List Int)) (cvs:List Value),CS w0 w eb rb cb vL G big g E R C cvs→w0.heap.size≤w.heap.size→i≤E.length→G.length≤20001→big=decide (20000 < G.length)→E.length - i < m →
  Calls Try.prog 39 #[.pointer (some ⟨eb,0,none⟩),g.v,.int .i64 (i:Int)] w fun e w'=>CoV w0 w w' eb rb cb vL g E C.length e:=by
 induction m with
 | zero=>intro w0 w eb rb cb i vL G big g E R C cvs _ _ _ _ _ h; exact absurd h (Nat.not_lt_zero _)
 | succ m ih=>
 intro w0 w eb rb cb i vL G big g E R C cvs hS hw0 hloc hGl hbig hm
 have HIH:=Lib.hid ih
 have HW0:=Lib.hid hw0
 have HM:=Lib.hid hm
 have hli:(i:Int)≤100:=by have:=hS.cr.le; omega
 have hni:(C.length:Int)≤2:=by have:=hS.cr.lc; omega
 have hei:(E.length:Int)≤100:=by have:=hS.cr.le; omega
 have HLE:Hid (C.length≤E.length∧i≤E.length∧G.length≤20001):=Lib.hid ⟨hS.cr.lle,hloc,hGl⟩
 obtain ⟨gn,ve,vr,vc,p4,p5,p6,p7⟩:=g
 obtain ⟨ea,ec,h1⟩:=own_len hS.cr.ev
 have h2:=hS.cr.gr
 have h3:=hS.cr.gc
 have h4:=hS.cr.gn
 obtain ⟨⟨a4,n4,c4,s4⟩,⟨a5,n5,c5,s5⟩,⟨a6,n6,c6,s6⟩,⟨a7,n7,c7,s7⟩⟩:=hS.cr.sl
 dsimp only at h1 h2 h3 h4 s4 s5 s6 s7
 subst h1 h2 h3 h4 s4 s5 s6 s7
 obtain ⟨la,lc,rfl⟩:=own_len hS.own
 have HS:=Lib.hid hS
 obtain ⟨w1,hw1⟩:∃ x,x=w.alloc (Obj.cells #[.int .i64 (C.length:Int),.slice ea E.length ec,.slice (some ⟨rb,0,none⟩) E.length E.length,.slice (some ⟨cb,0,none⟩) C.length C.length,.slice a4 n4 c4,.slice a5 n5 c5,.slice a6 n6 c6,.slice a7 n7 c7] 38 (0,0)):=⟨_,rfl⟩
 obtain ⟨pb,hpb⟩:∃ x,x=w.heap.size:=⟨_,rfl⟩
 have HB1:Hid (Below w.heap.size w w1):=Lib.hid (by rw [hw1]; exact (Below.refl _ _).alloc (Nat.le_refl _) _)
 have HPB:Hid (w1.heap[pb]?=some (Obj.cells #[.int .i64 (C.length:Int),.slice ea E.length ec,.slice (some ⟨rb,0,none⟩) E.length E.length,.slice (some ⟨cb,0,none⟩) C.length C.length,.slice a4 n4 c4,.slice a5 n5 c5,.slice a6 n6 c6,.slice a7 n7 c7] 38 (0,0))):=Lib.hid (by rw [hw1,hpb]; exact heap_alloc_new _ _)
 have HSZ:Hid (w.heap.size=pb∧w1.heap.size=pb + 1):=Lib.hid ⟨hpb.symm,by rw [hw1,hpb]; exact size_alloc1 _ _⟩
 have HW1:=Lib.hid hw1.symm
 have HS1:=Lib.hid (hS.next HB1.out)
 have HNX:Hid (¬ XE eb rb cb (.slice la G.length lc) pb):=Lib.hid (fun q=>by have:=XE.lt hS _ q; omega)
 clear hw1 hpb hS hm hw0 ih hGl hloc
 unfold G8.v
 dsimp only
 go_enter Try.func39,Try.ntmps39
 go_upto_region 1 with (fail)
 rw [HSZ.out.1,HW1.out]
 obtain ⟨k0,k1,k2⟩:=HS1.out.ce
 by_cases hb20:20000 < G.length
 ·have e:big=true:=by rw [hbig]; exact decide_eq_true hb20
  subst e
  have HBG:=Lib.hid hbig
  clear hbig hb20
  go_wp2_with fail
  try simp only [Exit.inBlock,Exit.then]
  refine bodyPost_ret (results_none rfl _ _ _) rfl ?_
  exact ⟨_,_,G,true,R,C,cvs,rfl,HS1.out,rfl,HLE.out.2.2,HBG.out,Fr.of_below HB1.out,NewB.refl _ _⟩
 ·have e:big=false:=by rw [hbig]; exact decide_eq_false hb20
  subst e
  have HG20:Hid (G.length≤20000):=Lib.hid (by omega)
  have HBG:=Lib.hid hbig
  clear hbig hb20 k0 k2
  have p1:w1.cell? ⟨pb,1,none⟩=some (.slice ea E.length ec):=cell_of_row _ _ _ _ _ _ HPB.out
  by_cases hln:i=E.length
  ·have hlb:((i:Int) == (E.length:Int))=true:=by simp [hln]
   clear hln
   have g0:w1.cell? ⟨pb,0,none⟩=some (.int .i64 (C.length:Int)):=cell_of_row _ _ _ _ _ _ HPB.out
   have g1:w1.cell? ⟨pb,1,none⟩=some (.slice ea E.length ec):=cell_of_row _ _ _ _ _ _ HPB.out
   have g2:w1.cell? ⟨pb,2,none⟩=some (.slice (some ⟨rb,0,none⟩) E.length E.length):=cell_of_row _ _ _ _ _ _ HPB.out
   have g3:w1.cell? ⟨pb,3,none⟩=some (.slice (some ⟨cb,0,none⟩) C.length C.length):=cell_of_row _ _ _ _ _ _ HPB.out
   have g4:w1.cell? ⟨pb,4,none⟩=some (.slice a4 n4 c4):=cell_of_row _ _ _ _ _ _ HPB.out
   have g5:w1.cell? ⟨pb,5,none⟩=some (.slice a5 n5 c5):=cell_of_row _ _ _ _ _ _ HPB.out
   have g6:w1.cell? ⟨pb,6,none⟩=some (.slice a6 n6 c6):=cell_of_row _ _ _ _ _ _ HPB.out
   have g7:w1.cell? ⟨pb,7,none⟩=some (.slice a7 n7 c7):=cell_of_row _ _ _ _ _ _ HPB.out
   go_wp2_with fail
   have HCO:=Lib.hid (rco_any ((C.length - 0) * (E.length + 1) + miss (C.getD 0 []) E.length + 1) w0 w1 eb rb cb 0 _ G false _ E R C cvs HS1.out (Nat.le_trans HW0.out HB1.out.size) (Nat.zero_le _) HLE.out.2.2 HBG.out (Nat.lt_succ_self _))
   refine HCO.out.mono ?_
   rintro e w6 ⟨x6,vL6,G6,big6,R6,C6,cv6,rfl,hS6,hC6,hG6,hb6,hF6,hN6⟩
   have HS6:=Lib.hid hS6
   have HC6:=Lib.hid hC6
   have HG6:=Lib.hid (And.intro hG6 hb6)
   have HF6:=Lib.hid hF6
   have HN6:=Lib.hid hN6
   clear hS6 hC6 hG6 hb6 hF6 hN6 HCO p1 k1 g0 g1 g2 g3 g4 g5 g6 g7
   go_wp2_with fail
   try simp only [Exit.inBlock,Exit.then]
   refine bodyPost_ret (results_none rfl _ _ _) rfl ?_
   exact ⟨_,vL6,G6,big6,R6,C6,cv6,rfl,HS6.out,HC6.out,HG6.out.1,HG6.out.2,(Fr.of_below HB1.out).trans2 HF6.out (fun _ _ z=>z),(NewB.refl _ _).trans HN6.out HB1.out.size⟩
  ·have hlt:i < E.length:=by have:=HLE.out.2.1; omega
   have hlb:((i:Int) == (E.length:Int))=false:=by simp; omega
   have hlc:(i:Int) < (E.length:Int):=by omega
   have HLT:Hid (i < E.length):=Lib.hid hlt
   obtain ⟨g,c',hv,hg,-,e0,e1,e2,e3,e4,e5⟩:=evs_at HS1.out.cr.ev hlt
   simp only [Value.slice.injEq] at hv
   obtain ⟨rfl,-,rfl⟩:=hv
   generalize E.getD i Ev.zero=ev at *
   go_upto_region 5 with (fail)
   obtain ⟨w2,hw2⟩:∃ x,x=w1.alloc (Obj.cells #[.int .i64 ev.th,.int .i64 ev.kd,.int .i64 ev.md,.int .i64 ev.lc,.int .i64 ev.vl,.bool ev.ex] 49 (0,0)):=⟨_,rfl⟩
   obtain ⟨xb,hxb⟩:∃ x,x=w1.heap.size:=⟨_,rfl⟩
   have HXB:Hid (w2.heap[xb]?=some (Obj.cells #[.int .i64 ev.th,.int .i64 ev.kd,.int .i64 ev.md,.int .i64 ev.lc,.int .i64 ev.vl,.bool ev.ex] 49 (0,0))):=Lib.hid (by rw [hw2,hxb]; exact heap_alloc_new _ _)
   have HBx:Hid (Below w1.heap.size w1 w2):=Lib.hid (by rw [hw2]; exact (Below.refl _ _).alloc (Nat.le_refl _) _)
   have HXS:Hid (xb < w2.heap.size∧w1.heap.size≤xb):=Lib.hid ⟨blk_lt HXB.out,by omega⟩
   rw [← hw2,← hxb]
   clear hw2 hxb e0 e1 e2 e3 e4 e5 p1 k1
   have HS2:=Lib.hid (HS1.out.next HBx.out)
   have HNX2:Hid (¬ XE eb rb cb (.slice la G.length lc) xb):=Lib.hid (fun z=>by have:=XE.lt HS1.out _ z; have:=HXS.out.2; omega)
   have HP2:Hid (w2.heap[pb]?=some (Obj.cells #[.int .i64 (C.length:Int),.slice (some ⟨g,0,none⟩) E.length ec,.slice (some ⟨rb,0,none⟩) E.length E.length,.slice (some ⟨cb,0,none⟩) C.length C.length,.slice a4 n4 c4,.slice a5 n5 c5,.slice a6 n6 c6,.slice a7 n7 c7] 38 (0,0))):=Lib.hid ((HBx.out.block pb (blk_lt HPB.out)).trans HPB.out)
   have HB2:Hid (Below w.heap.size w w2):=Lib.hid (below_next HB1.out HBx.out)
   have f1:w2.cell? ⟨xb,1,none⟩=some (.int .i64 ev.kd):=cell_of_row _ _ _ _ _ _ HXB.out
   by_cases hkd:ev.kd=1
   ·have dkd:(ev.kd == 1)=true:=by simp [hkd]
    clear hkd
    go_upto_region 8 with (fail)
    clear dkd
    generalize Value.bool (ev.kd != 1)=b28
    go_wp2_with fail
    go_loopw [7] (fun x7 wr=>∃ (q:Nat) (vL':Value) (G':List G8) (big':Bool) (R':List Int) (C':List (List Int)) (cvs':List Value),q≤E.length∧x7=.int .i64 (q:Int)∧Hid (CS w0 wr eb rb cb vL' G' big' ⟨(C.length:Int),.slice (some ⟨g,0,none⟩) E.length ec,.slice (some ⟨rb,0,none⟩) E.length E.length,.slice (some ⟨cb,0,none⟩) C.length C.length,.slice a4 n4 c4,.slice a5 n5 c5,.slice a6 n6 c6,.slice a7 n7 c7⟩ E R' C' cvs')∧Hid (C'.length=C.length)∧Hid (G'.length≤20001∧big'=decide (20000 < G'.length))∧Hid (Fr (XE eb rb cb (.slice la G.length lc)) w2 wr)∧Hid (NewB w2 (.slice la G.length lc) vL')) (fun x7 _=>E.length - (intOf x7).toNat)
    case atStart=>exact ⟨0,_,G,false,R,C,cvs,Nat.zero_le _,rfl,HS2,Lib.hid rfl,Lib.hid ⟨HLE.out.2.2,HBG.out⟩,Lib.hid (Fr.refl _ _),Lib.hid (NewB.refl _ _)⟩
    case round=>
     obtain ⟨q,vL',G',big',R',C',cvs',hq,rfl,HSr,HCL,HGr,HFr,HNr⟩:=hrel
     have hqi:(q:Int)≤100:=by omega
     have HPr:Hid (wr.heap[pb]?=some (Obj.cells #[.int .i64 (C.length:Int),.slice (some ⟨g,0,none⟩) E.length ec,.slice (some ⟨rb,0,none⟩) E.length E.length,.slice (some ⟨cb,0,none⟩) C.length C.length,.slice a4 n4 c4,.slice a5 n5 c5,.slice a6 n6 c6,.slice a7 n7 c7] 38 (0,0))):=Lib.hid ((HFr.out.keep pb (blk_lt HP2.out) HNX.out).trans HP2.out)
     have HXr:Hid (wr.heap[xb]?=some (Obj.cells #[.int .i64 ev.th,.int .i64 ev.kd,.int .i64 ev.md,.int .i64 ev.lc,.int .i64 ev.vl,.bool ev.ex] 49 (0,0))):=Lib.hid ((HFr.out.keep xb HXS.out.1 HNX2.out).trans HXB.out)
     have p1:wr.cell? ⟨pb,1,none⟩=some (.slice (some ⟨g,0,none⟩) E.length ec):=cell_of_row _ _ _ _ _ _ HPr.out
     clear f1
     by_cases hlt2:q < E.length
     ·have dq:decide ((q:Int) < (E.length:Int))=true:=by rw [decide_eq_true_iff]; omega
      have iq:(q:Int) < (E.length:Int):=by omega
      obtain ⟨g2,c2,hv2,hg2,-,e0,e1,e2,e3,e4,e5⟩:=evs_at HSr.out.cr.ev hlt2
      simp only [Value.slice.injEq,Option.some.injEq,Addr.mk.injEq,and_true,true_and] at hv2
      obtain ⟨rfl,-⟩:=hv2
      generalize E.getD q Ev.zero=ex at *
      go_upto_region 12 with (fail)
      obtain ⟨wy,hwy⟩:∃ x,x=wr.alloc (Obj.cells #[.int .i64 ex.th,.int .i64 ex.kd,.int .i64 ex.md,.int .i64 ex.lc,.int .i64 ex.vl,.bool ex.ex] 49 (0,0)):=⟨_,rfl⟩
      obtain ⟨yb,hyb⟩:∃ x,x=wr.heap.size:=⟨_,rfl⟩
      have HYB:Hid (wy.heap[yb]?=some (Obj.cells #[.int .i64 ex.th,.int .i64 ex.kd,.int .i64 ex.md,.int .i64 ex.lc,.int .i64 ex.vl,.bool ex.ex] 49 (0,0))):=Lib.hid (by rw [hwy,hyb]; exact heap_alloc_new _ _)
      have HBy:Hid (Below wr.heap.size wr wy):=Lib.hid (by rw [hwy]; exact (Below.refl _ _).alloc (Nat.le_refl _) _)
      rw [← hwy,← hyb]
      clear hwy hyb e0 e1 e2 e3 e4 e5 p1
      have y1:wy.cell? ⟨yb,1,none⟩=some (.int .i64 ex.kd):=cell_of_row _ _ _ _ _ _ HYB.out
      have y3:wy.cell? ⟨yb,3,none⟩=some (.int .i64 ex.lc):=cell_of_row _ _ _ _ _ _ HYB.out
      have y4:wy.cell? ⟨yb,4,none⟩=some (.int .i64 ex.vl):=cell_of_row _ _ _ _ _ _ HYB.out
      have HXy:=Lib.hid ((HBy.out.block xb (blk_lt HXr.out)).trans HXr.out)
      have z3:wy.cell? ⟨xb,3,none⟩=some (.int .i64 ev.lc):=cell_of_row _ _ _ _ _ _ HXy.out
      have z4:wy.cell? ⟨xb,4,none⟩=some (.int .i64 ev.vl):=cell_of_row _ _ _ _ _ _ HXy.out
      go_cut [66] (fun x66 wx=>(∃ b,x66=.bool b)∧wx=wy)
      case first=>
       go_wp2_with fail
       all_goals go_meet
       all_goals exact ⟨⟨_,rfl⟩,rfl⟩
      case rest=>
       obtain ⟨⟨bi,rfl⟩,hwc⟩:=hcut
       subst hwc
       clear y1 y3 y4 z3 z4
       have HSy:=Lib.hid (HSr.out.next HBy.out)
       have HFy:Hid (Fr (XE eb rb cb (.slice la G.length lc)) w2 wc):=Lib.hid (HFr.out.trans (Fr.of_below HBy.out))
       cases bi with
       | false=>
        go_wp2_with fail
        go_roundw
        case rel=>exact ⟨q + 1,vL',G',big',R',C',cvs',hlt2,by go_num,HSy,HCL,HGr,HFy,HNr⟩
        case measure=>simp [intOf]; omega
       | true=>
        have HPy:=Lib.hid ((HBy.out.block pb (blk_lt HPr.out)).trans HPr.out)
        have p2:wc.cell? ⟨pb,2,none⟩=some (Value.slice (some ⟨rb,0,none⟩) E.length E.length):=cell_of_row _ _ _ _ _ _ HPy.out
        obtain ⟨k3,k4⟩:=HSy.out.cr.cellR HLT.out
        have HS7:=Lib.hid (HSy.out.setR i (q:Int))
        have HF7:Hid (Fr (XE eb rb cb (.slice la G.length lc)) w2 (wc.setCell ⟨rb,i,none⟩ (.int .i64 (q:Int)))):=Lib.hid (HFy.out.trans (Fr.set wc rb i _ (.inr (.inl rfl))))
        go_upto_region 14 with (fail)
        generalize World.setCell wc _ _=w7 at HS7 HF7 ⊢
        have HP7:Hid (w7.heap[pb]?=some (Obj.cells #[.int .i64 (C.length:Int),.slice (some ⟨g,0,none⟩) E.length ec,.slice (some ⟨rb,0,none⟩) E.length E.length,.slice (some ⟨cb,0,none⟩) C.length C.length,.slice a4 n4 c4,.slice a5 n5 c5,.slice a6 n6 c6,.slice a7 n7 c7] 38 (0,0))):=Lib.hid ((HF7.out.keep pb (blk_lt HP2.out) HNX.out).trans HP2.out)
        clear p2 k3 k4
        have g0:w7.cell? ⟨pb,0,none⟩=some (.int .i64 (C.length:Int)):=cell_of_row _ _ _ _ _ _ HP7.out
        have g1:w7.cell? ⟨pb,1,none⟩=some (.slice (some ⟨g,0,none⟩) E.length ec):=cell_of_row _ _ _ _ _ _ HP7.out
        have g2:w7.cell? ⟨pb,2,none⟩=some (.slice (some ⟨rb,0,none⟩) E.length E.length):=cell_of_row _ _ _ _ _ _ HP7.out
        have g3:w7.cell? ⟨pb,3,none⟩=some (.slice (some ⟨cb,0,none⟩) C.length C.length):=cell_of_row _ _ _ _ _ _ HP7.out
        have g4:w7.cell? ⟨pb,4,none⟩=some (.slice a4 n4 c4):=cell_of_row _ _ _ _ _ _ HP7.out
        have g5:w7.cell? ⟨pb,5,none⟩=some (.slice a5 n5 c5):=cell_of_row _ _ _ _ _ _ HP7.out
        have g6:w7.cell? ⟨pb,6,none⟩=some (.slice a6 n6 c6):=cell_of_row _ _ _ _ _ _ HP7.out
        have g7:w7.cell? ⟨pb,7,none⟩=some (.slice a7 n7 c7):=cell_of_row _ _ _ _ _ _ HP7.out
        go_wp2_with fail
        have HCO:=Lib.hid (HIH.out w0 w7 eb rb cb (i + 1) vL' G' big' ⟨(C.length:Int),.slice (some ⟨g,0,none⟩) E.length ec,.slice (some ⟨rb,0,none⟩) E.length E.length,.slice (some ⟨cb,0,none⟩) C.length C.length,.slice a4 n4 c4,.slice a5 n5 c5,.slice a6 n6 c6,.slice a7 n7 c7⟩ E _ C' cvs' HS7.out (Nat.le_trans HW0.out (Nat.le_trans (Nat.le_trans HB1.out.size HBx.out.size) HF7.out.size)) HLT.out HGr.out.1 HGr.out.2 (by have h1:=HM.out; have h2:=HLT.out; omega))
        rw [show (((i + 1:Nat):Int))=(i:Int) + 1 by omega] at HCO
        refine HCO.out.mono ?_
        rintro e w6 ⟨x6,vL6,G6,big6,R6,C6,cv6,rfl,hS6,hC6,hG6,hb6,hF6,hN6⟩
        have HS6:=Lib.hid hS6
        have HC6:Hid (C6.length=C.length):=Lib.hid (by first | exact hC6 | exact hC6.trans HCL.out)
        have HG6:=Lib.hid (And.intro hG6 hb6)
        have HF6:Hid (Fr (XE eb rb cb (.slice la G.length lc)) w2 w6):=Lib.hid (HF7.out.trans2 hF6 (XE.of HNr.out))
        have HN6:Hid (NewB w2 (.slice la G.length lc) vL6):=Lib.hid (HNr.out.trans hN6 HF7.out.size)
        clear hS6 hC6 hG6 hb6 hF6 hN6 HCO g0 g1 g2 g3 g4 g5 g6 g7
        go_wp2_with fail
        go_roundw
        case rel=>exact ⟨q + 1,vL6,G6,big6,R6,C6,cv6,hlt2,by go_num,HS6,HC6,HG6,HF6,HN6⟩
        case measure=>simp [intOf]; omega
     ·have dq:decide ((q:Int) < (E.length:Int))=false:=by rw [decide_eq_false_iff_not]; omega
      have iq:¬ (q:Int) < (E.length:Int):=by omega
      go_wp2_with fail
      go_end0
      exact ⟨_,vL',G',big',R',C',cvs',rfl,HSr.out,HCL.out,HGr.out.1,HGr.out.2,(Fr.of_below HB2.out).trans2 HFr.out (fun _ _ z=>z),(NewB.refl _ _).trans HNr.out HB2.out.size⟩
   ·have dkd:(ev.kd == 1)=false:=by simp [hkd]
    clear hkd
    have p2:w2.cell? ⟨pb,2,none⟩=some (Value.slice (some ⟨rb,0,none⟩) E.length E.length):=cell_of_row _ _ _ _ _ _ HP2.out
    obtain ⟨k3,k4⟩:=HS2.out.cr.cellR HLT.out
    have HS7:=Lib.hid (HS2.out.setR i (-1))
    have HF7:Hid (Fr (XE eb rb cb (.slice la G.length lc)) w2 (w2.setCell ⟨rb,i,none⟩ (.int .i64 (-1)))):=Lib.hid (Fr.set w2 rb i _ (.inr (.inl rfl)))
    have HCL:Hid (C.length=C.length):=Lib.hid rfl
    have HGr:Hid (G.length≤20001∧false=decide (20000 < G.length)):=Lib.hid ⟨HLE.out.2.2,HBG.out⟩
    have HNr:Hid (NewB w2 (.slice la G.length lc) (.slice la G.length lc)):=Lib.hid (NewB.refl _ _)
    go_upto_region 7 with (fail)
    generalize World.setCell w2 _ _=w7 at HS7 HF7 ⊢
    have HP7:Hid (w7.heap[pb]?=some (Obj.cells #[.int .i64 (C.length:Int),.slice (some ⟨g,0,none⟩) E.length ec,.slice (some ⟨rb,0,none⟩) E.length E.length,.slice (some ⟨cb,0,none⟩) C.length C.length,.slice a4 n4 c4,.slice a5 n5 c5,.slice a6 n6 c6,.slice a7 n7 c7] 38 (0,0))):=Lib.hid ((HF7.out.keep pb (blk_lt HP2.out) HNX.out).trans HP2.out)
    clear p2 k3 k4 f1
    have g0:w7.cell? ⟨pb,0,none⟩=some (.int .i64 (C.length:Int)):=cell_of_row _ _ _ _ _ _ HP7.out
    have g1:w7.cell? ⟨pb,1,none⟩=some (.slice (some ⟨g,0,none⟩) E.length ec):=cell_of_row _ _ _ _ _ _ HP7.out
    have g2:w7.cell? ⟨pb,2,none⟩=some (.slice (some ⟨rb,0,none⟩) E.length E.length):=cell_of_row _ _ _ _ _ _ HP7.out
    have g3:w7.cell? ⟨pb,3,none⟩=some (.slice (some ⟨cb,0,none⟩) C.length C.length):=cell_of_row _ _ _ _ _ _ HP7.out
    have g4:w7.cell? ⟨pb,4,none⟩=some (.slice a4 n4 c4):=cell_of_row _ _ _ _ _ _ HP7.out
    have g5:w7.cell? ⟨pb,5,none⟩=some (.slice a5 n5 c5):=cell_of_row _ _ _ _ _ _ HP7.out
    have g6:w7.cell? ⟨pb,6,none⟩=some (.slice a6 n6 c6):=cell_of_row _ _ _ _ _ _ HP7.out
    have g7:w7.cell? ⟨pb,7,none⟩=some (.slice a7 n7 c7):=cell_of_row _ _ _ _ _ _ HP7.out
    go_wp2_with fail
    have HCO:=Lib.hid (HIH.out w0 w7 eb rb cb (i + 1) _ G false ⟨(C.length:Int),.slice (some ⟨g,0,none⟩) E.length ec,.slice (some ⟨rb,0,none⟩) E.length E.length,.slice (some ⟨cb,0,none⟩) C.length C.length,.slice a4 n4 c4,.slice a5 n5 c5,.slice a6 n6 c6,.slice a7 n7 c7⟩ E _ C cvs HS7.out (Nat.le_trans HW0.out (Nat.le_trans (Nat.le_trans HB1.out.size HBx.out.size) HF7.out.size)) HLT.out HGr.out.1 HGr.out.2 (by have h1:=HM.out; have h2:=HLT.out; omega))
    rw [show (((i + 1:Nat):Int))=(i:Int) + 1 by omega] at HCO
    refine HCO.out.mono ?_
    rintro e w6 ⟨x6,vL6,G6,big6,R6,C6,cv6,rfl,hS6,hC6,hG6,hb6,hF6,hN6⟩
    have HS6:=Lib.hid hS6
    have HC6:Hid (C6.length=C.length):=Lib.hid (by first | exact hC6 | exact hC6.trans HCL.out)
    have HG6:=Lib.hid (And.intro hG6 hb6)
    have HF6:Hid (Fr (XE eb rb cb (.slice la G.length lc)) w2 w6):=Lib.hid (HF7.out.trans2 hF6 (XE.of HNr.out))
    have HN6:Hid (NewB w2 (.slice la G.length lc) vL6):=Lib.hid (HNr.out.trans hN6 HF7.out.size)
    clear hS6 hC6 hG6 hb6 hF6 hN6 HCO g0 g1 g2 g3 g4 g5 g6 g7
    go_wp2_with fail
    try simp only [Exit.inBlock,Exit.then]
    refine bodyPost_ret (results_none rfl _ _ _) rfl ?_
    exact ⟨_,vL6,G6,big6,R6,C6,cv6,rfl,HS6.out,HC6.out,HG6.out.1,HG6.out.2,(Fr.of_below HB2.out).trans2 HF6.out (fun _ _ z=>z),(NewB.refl _ _).trans HN6.out HB2.out.size⟩
end Go.Proofs.Yteghpophcnehgaa
namespace Go.Proofs.Yteghpophcnehgaa
open Go.RowKit ExprA SndA
namespace SndA
theorem made_rep (z:Value) (n:Nat):madeCells #[z] n=Array.replicate n z:=by
 apply Array.ext
 ·simp [size_madeCells]
 ·intro i h1 h2
  simp [madeCells,Nat.mod_one]
structure ES (w0 W:World) (eb:Nat) (vL:Value) (G:List G8) (big:Bool):Prop where
 box:W.heap[eb]?=some (.cells #[vL,.bool big] 58 (0,0))
 own:W.ownsRow w0.heap.size 38 8 vL G.length (gcells G)
 gs:∀ x ∈ G,∃ E C cvs,GOk (fun _=>True) W x E C cvs
 cnt:G.length≤20001
 bg:big=decide (20000 < G.length)
theorem ES.next {w0 W W':World} {eb:Nat} {vL:Value} {G:List G8} {big:Bool} (h:ES w0 W eb vL G big) (hb:Below W.heap.size W W'):ES w0 W' eb vL G big:=
 ⟨(hb.block eb (blk_lt h.box)).trans h.box,own_below h.own hb,fun x hx=>by obtain ⟨E,C,c,a⟩:=h.gs x hx; exact ⟨E,C,c,a.next hb⟩,h.cnt,h.bg⟩
def FinV (w0 w w':World) (eb:Nat) (vL:Value) (e:Ending):Prop:=∃ (x vL':Value) (G':List G8) (big':Bool),e=.returned x∧ES w0 w' eb vL' G' big'∧Fr (fun b=>b=eb ∨ vL.ownBlock=some b) w w'∧NewB w vL vL'
def CI (n:Nat):List (List Int):=(List.range n).map fun (i:Nat)=>[(i:Int)]
theorem CI_len (n:Nat):(CI n).length=n:=by simp [CI]
theorem CI_get (n i:Nat) (h:i < n):(CI n).getD i []=[(i:Int)]:=by simp [CI,List.getD_eq_getElem?_getD,h]
theorem lv_one2 {W:World} {b:Nat} {x:Int} (h:W.heap[b]?=some (.cells #[.int .i64 x] 3 (0,0))):LV W (.slice (some ⟨b,0,none⟩) 1 1) [x]:=
 ⟨rfl,.inr ⟨b,1,_,rfl,Nat.zero_le _,h,Nat.le_refl _,by decide,rfl,rfl⟩⟩
end SndA
set_option maxRecDepth 100000 in
set_option maxHeartbeats 32000000 in
theorem rfin_any (w0 w:World) (eb n:Nat) (vL:Value) (G:List G8) (big:Bool) (ve p4 p5 p6 p7:Value) (E:List Ev) (hS:ES w0 w eb vL G big) (hw0:w0.heap.size≤w.heap.size) (he:w.ownsRow 0 49 6 ve E.length (ecs E)) (hsl:Sl p4∧Sl p5∧Sl p6∧Sl p7) (hn:n≤E.length∧n≤2∧E.length≤100) :
  Calls Try.prog 22 #[.pointer (some ⟨eb,0,none⟩),.agg #[.int .i64 (n:Int),ve,.slice none 0 0,.slice none 0 0,p4,p5,p6,p7]] w fun e w'=>FinV w0 w w' eb vL e:=by
 have HS:=Lib.hid hS
 have HW0:=Lib.hid hw0
 have HE:=Lib.hid he
 have HN:=Lib.hid hn
 have hni:(n:Int)≤2:=by omega
 have hei:(E.length:Int)≤100:=by omega
 obtain ⟨⟨a4,n4,c4,rfl⟩,⟨a5,n5,c5,rfl⟩,⟨a6,n6,c6,rfl⟩,⟨a7,n7,c7,rfl⟩⟩:=hsl
 obtain ⟨ea,ec,rfl⟩:=own_len he
 have mk1:=run_make_row' (P:=Try.prog) 22 3 (.int .i64 0) 8 Try.underlying22 infoInt rfl .i64 .i64 E.length (by omega) (by omega)
 have mk2:=run_make_row' (P:=Try.prog) 35 22 (.slice none 0 0) 24 Try.underlying35 infoSl rfl .i64 .i64 n (by omega) (by omega)
 simp only [made_rep] at mk1 mk2
 obtain ⟨w1,hw1⟩:∃ x,x=w.alloc (Obj.cells #[.int .i64 (n:Int),.slice ea E.length ec,.slice none 0 0,.slice none 0 0,.slice a4 n4 c4,.slice a5 n5 c5,.slice a6 n6 c6,.slice a7 n7 c7] 38 (0,0)):=⟨_,rfl⟩
 obtain ⟨pb,hpb⟩:∃ x,x=w.heap.size:=⟨_,rfl⟩
 have HP1:Hid (w1.heap[pb]?=some (Obj.cells #[.int .i64 (n:Int),.slice ea E.length ec,.slice none 0 0,.slice none 0 0,.slice a4 n4 c4,.slice a5 n5 c5,.slice a6 n6 c6,.slice a7 n7 c7] 38 (0,0))):=Lib.hid (by rw [hw1,hpb]; exact heap_alloc_new _ _)
 have HB1:Hid (Below w.heap.size w w1):=Lib.hid (by rw [hw1]; exact (Below.refl _ _).alloc (Nat.le_refl _) _)
 have HSZ:Hid (w.heap.size=pb∧w1.heap.size=pb + 1):=Lib.hid ⟨hpb.symm,by rw [hw1,hpb]; exact size_alloc1 _ _⟩
 have HW1:=Lib.hid hw1.symm
 clear hw1 hpb hS hw0 he hn
 go_enter Try.func22,Try.ntmps22
 go_upto_region 1 with (fail)
 rw [HSZ.out.1,HW1.out]
 have p1:w1.cell? ⟨pb,1,none⟩=some (.slice ea E.length ec):=cell_of_row _ _ _ _ _ _ HP1.out
 have q2:∀ o,(w1.alloc o).cell? ⟨pb,2,none⟩=some (.slice none 0 0):=fun o=>cell_of_row _ _ _ _ _ _ ((alloc_old w1 o pb (blk_lt HP1.out)).trans HP1.out)
 have r2:∀ o,(w1.alloc o).frozen? ⟨pb,2,none⟩=false:=fun o=>frozen_of_row _ _ _ _ _ ((alloc_old w1 o pb (blk_lt HP1.out)).trans HP1.out)
 go_upto_region 2 with (fail)
 obtain ⟨rb,hrb⟩:∃ x,x=w1.heap.size:=⟨_,rfl⟩
 rw [← hrb]
 obtain ⟨wA,hwA⟩:∃ x,x=(w1.alloc (Obj.cells (Array.replicate E.length (Value.int .i64 0)) 3 (0,0))).setCell ⟨pb,2,none⟩ (.slice (some ⟨rb,0,none⟩) E.length E.length):=⟨_,rfl⟩
 rw [← hwA]
 obtain ⟨hPA,hRA,hFA,hSA⟩:wA.heap[pb]?=some (Obj.cells #[.int .i64 (n:Int),.slice ea E.length ec,.slice (some ⟨rb,0,none⟩) E.length E.length,.slice none 0 0,.slice a4 n4 c4,.slice a5 n5 c5,.slice a6 n6 c6,.slice a7 n7 c7] 38 (0,0))∧wA.heap[rb]?=some (Obj.cells (nints (List.replicate E.length 0)).toArray 3 (0,0))∧Below w.heap.size w wA∧wA.heap.size=rb + 1:=by
  rw [hwA]
  have hz:=HSZ.out
  have e1:(w1.alloc (Obj.cells (Array.replicate E.length (Value.int .i64 0)) 3 (0,0))).heap.size=w1.heap.size + 1:=size_alloc1 _ _
  refine ⟨heap_setCell_same _ pb 2 _ _ _ ((alloc_old w1 _ pb (blk_lt HP1.out)).trans HP1.out),?_,?_,by simp [e1,hrb]⟩
  ·rw [Below.heap_setCell _ ⟨pb,2,none⟩ _ rb (by show rb ≠ pb; omega),at_new _ _ _ hrb]
   simp [nints]
  ·exact ((HB1.out.alloc (by omega) _).setCell (by show w.heap.size≤pb; omega) _)
 have HPA:=Lib.hid hPA
 have HRA:=Lib.hid hRA
 have HFA:=Lib.hid hFA
 have HSA:=Lib.hid (And.intro hSA hrb)
 clear hwA hPA hRA hFA hSA hrb p1 q2 r2 mk1
 have p0:wA.cell? ⟨pb,0,none⟩=some (.int .i64 (n:Int)):=cell_of_row _ _ _ _ _ _ HPA.out
 have q3:∀ o,(wA.alloc o).cell? ⟨pb,3,none⟩=some (.slice none 0 0):=fun o=>cell_of_row _ _ _ _ _ _ ((alloc_old wA o pb (blk_lt HPA.out)).trans HPA.out)
 have r3:∀ o,(wA.alloc o).frozen? ⟨pb,3,none⟩=false:=fun o=>frozen_of_row _ _ _ _ _ ((alloc_old wA o pb (blk_lt HPA.out)).trans HPA.out)
 go_upto_region 3 with (fail)
 obtain ⟨cb,hcb⟩:∃ x,x=wA.heap.size:=⟨_,rfl⟩
 rw [← hcb]
 obtain ⟨wB,hwB⟩:∃ x,x=(wA.alloc (Obj.cells (Array.replicate n (Value.slice none 0 0)) 22 (0,0))).setCell ⟨pb,3,none⟩ (.slice (some ⟨cb,0,none⟩) n n):=⟨_,rfl⟩
 rw [← hwB]
 obtain ⟨hPB,hRB,hCB,hFB,hSB⟩:wB.heap[pb]?=some (Obj.cells #[.int .i64 (n:Int),.slice ea E.length ec,.slice (some ⟨rb,0,none⟩) E.length E.length,.slice (some ⟨cb,0,none⟩) n n,.slice a4 n4 c4,.slice a5 n5 c5,.slice a6 n6 c6,.slice a7 n7 c7] 38 (0,0))∧wB.heap[rb]?=some (Obj.cells (nints (List.replicate E.length 0)).toArray 3 (0,0))∧wB.heap[cb]?=some (Obj.cells (List.replicate n (Value.slice none 0 0)).toArray 22 (0,0))∧Below w.heap.size w wB∧wB.heap.size=cb + 1:=by
  rw [hwB]
  have hz:=HSZ.out
  have hz2:=HSA.out
  have e1:(wA.alloc (Obj.cells (Array.replicate n (Value.slice none 0 0)) 22 (0,0))).heap.size=wA.heap.size + 1:=size_alloc1 _ _
  refine ⟨heap_setCell_same _ pb 3 _ _ _ ((alloc_old wA _ pb (blk_lt HPA.out)).trans HPA.out),?_,?_,?_,by simp [e1,hcb]⟩
  ·rw [Below.heap_setCell _ ⟨pb,3,none⟩ _ rb (by show rb ≠ pb; omega)]
   exact (alloc_old wA _ rb (blk_lt HRA.out)).trans HRA.out
  ·rw [Below.heap_setCell _ ⟨pb,3,none⟩ _ cb (by show cb ≠ pb; omega),at_new _ _ _ hcb]
   simp
  ·exact ((HFA.out.alloc HFA.out.size _).setCell (by show w.heap.size≤pb; omega) _)
 have HPB:=Lib.hid hPB
 have HRB:=Lib.hid hRB
 have HCB:=Lib.hid hCB
 have HFB:=Lib.hid hFB
 have HSB:Hid (pb=w.heap.size∧rb=pb + 1∧cb=rb + 1∧wB.heap.size=cb + 1):=Lib.hid (by have h1:=HSZ.out; have h2:=HSA.out; omega)
 clear hwB hPB hRB hCB hFB hSB hcb p0 q3 r3 mk2
 go_wp2_with fail
 go_loopw [4] (fun x4 wr=>∃ (k:Nat) (cvs:List Value),k≤n∧x4=.int .i64 (k:Int)∧Hid (cvs.length=n∧wr.heap[cb]?=some (Obj.cells cvs.toArray 22 (0,0))∧Fr (fun b=>b=cb) wB wr∧∀ i,i < k→LV wr (cvs.getD i undef) [(i:Int)]∧∀ b,(cvs.getD i undef).ownBlock=some b→wB.heap.size≤b)) (fun x4 _=>n - (intOf x4).toNat)
 case atStart=>exact ⟨0,_,Nat.zero_le _,rfl,Lib.hid ⟨by simp,HCB.out,Fr.refl _ _,fun i hi=>absurd hi (Nat.not_lt_zero _)⟩⟩
 case round=>
  obtain ⟨k,cvs,hk,rfl,HX⟩:=hrel
  have hki:(k:Int)≤2:=by omega
  have hPr:wr.heap[pb]?=_:=(HX.out.2.2.1.keep pb (by have:=HSB.out; omega) (by have:=HSB.out; omega)).trans HPB.out
  have HPr:=Lib.hid hPr
  have p0:wr.cell? ⟨pb,0,none⟩=some (.int .i64 (n:Int)):=cell_of_row _ _ _ _ _ _ hPr
  clear hPr
  by_cases hlt:k < n
  ·have d1:decide ((k:Int) < (n:Int))=true:=by rw [decide_eq_true_iff]; omega
   have i1:(k:Int) < (n:Int):=by omega
   have p3:wr.cell? ⟨pb,3,none⟩=some (.slice (some ⟨cb,0,none⟩) n n):=cell_of_row _ _ _ _ _ _ HPr.out
   have hC0:=fun o=>(alloc_old wr o cb (blk_lt HX.out.2.1)).trans HX.out.2.1
   have k3:∀ o,(wr.alloc o).cell? ⟨cb,k,none⟩=some (cvs.getD k undef):=fun o=>by
    rw [cell_of_row _ _ _ _ _ _ (hC0 o)]
    simp [List.getD_eq_getElem?_getD,List.getElem?_eq_getElem (show k < cvs.length by rw [HX.out.1]; exact hlt)]
   have k4:∀ o,(wr.alloc o).frozen? ⟨cb,k,none⟩=false:=fun o=>frozen_of_row _ _ _ _ _ (hC0 o)
   have HX2:Hid ((cvs.set k (.slice (some ⟨wr.heap.size,0,none⟩) 1 1)).length=n∧((wr.alloc (Obj.cells #[.int .i64 (k:Int)] 3 (0,0))).setCell ⟨cb,k,none⟩ (.slice (some ⟨wr.heap.size,0,none⟩) 1 1)).heap[cb]?=some (Obj.cells (cvs.set k (.slice (some ⟨wr.heap.size,0,none⟩) 1 1)).toArray 22 (0,0))∧Fr (fun b=>b=cb) wB ((wr.alloc (Obj.cells #[.int .i64 (k:Int)] 3 (0,0))).setCell ⟨cb,k,none⟩ (.slice (some ⟨wr.heap.size,0,none⟩) 1 1))∧∀ i,i < k + 1→LV ((wr.alloc (Obj.cells #[.int .i64 (k:Int)] 3 (0,0))).setCell ⟨cb,k,none⟩ (.slice (some ⟨wr.heap.size,0,none⟩) 1 1)) ((cvs.set k (.slice (some ⟨wr.heap.size,0,none⟩) 1 1)).getD i undef) [(i:Int)]∧∀ b,((cvs.set k (.slice (some ⟨wr.heap.size,0,none⟩) 1 1)).getD i undef).ownBlock=some b→wB.heap.size≤b):=Lib.hid (by
    obtain ⟨x1,x2,x3,x4⟩:=HX.out
    have hcl:=blk_lt x2
    have hf1:Fr (fun b=>b=cb) wr (wr.alloc (Obj.cells #[.int .i64 (k:Int)] 3 (0,0))):=Fr.of_below ((Below.refl _ _).alloc (Nat.le_refl _) _)
    have hf2:Fr (fun b=>b=cb) (wr.alloc (Obj.cells #[.int .i64 (k:Int)] 3 (0,0))) ((wr.alloc (Obj.cells #[.int .i64 (k:Int)] 3 (0,0))).setCell ⟨cb,k,none⟩ (.slice (some ⟨wr.heap.size,0,none⟩) 1 1)):=Fr.set _ cb k _ rfl
    refine ⟨by simp [x1],?_,(x3.trans hf1).trans hf2,fun i hi=>?_⟩
    ·have:=heap_setCell_same _ cb k _ _ (.slice (some ⟨wr.heap.size,0,none⟩) 1 1) (hC0 (Obj.cells #[.int .i64 (k:Int)] 3 (0,0)))
     rw [this]; simp
    ·by_cases e:i=k
     ·subst e
      have e1:(cvs.set i (Value.slice (some ⟨wr.heap.size,0,none⟩) 1 1)).getD i undef=.slice (some ⟨wr.heap.size,0,none⟩) 1 1:=by simp [List.getD_eq_getElem?_getD,x1,hlt]
      rw [e1]
      have hne:wr.heap.size ≠ cb:=by omega
      refine ⟨lv_one2 ?_,fun b q=>by cases q; exact x3.size⟩
      rw [Below.heap_setCell _ ⟨cb,i,none⟩ _ _ hne]
      exact heap_alloc_new _ _
     ·have e1:(cvs.set k (Value.slice (some ⟨wr.heap.size,0,none⟩) 1 1)).getD i undef=cvs.getD i undef:=by simp [List.getD_eq_getElem?_getD,List.getElem?_set_ne (fun q=>e q.symm)]
      rw [e1]
      have hx:=x4 i (by omega)
      exact ⟨own_fr hx.1 (hf1.trans hf2) (fun g q r=>own_typ hx.1 x2 (by decide) (by rw [q,r])),hx.2⟩)
   clear hC0 p0
   have p0:wr.cell? ⟨pb,0,none⟩=some (.int .i64 (n:Int)):=cell_of_row _ _ _ _ _ _ HPr.out
   go_wp2_with fail
   go_roundw
   case rel=>exact ⟨k + 1,_,hlt,by go_num,HX2⟩
   case measure=>simp [intOf]; omega
  ·have d1:decide ((k:Int) < (n:Int))=false:=by rw [decide_eq_false_iff_not]; omega
   have i1:¬ (k:Int) < (n:Int):=by omega
   have e:k=n:=by omega
   subst e
   obtain ⟨x1,x2,x3,x4⟩:=HX.out
   have HFr:Hid (Fr (fun _=>False) w wr):=Lib.hid ⟨x3.os.trans HFB.out.os,x3.tape.trans HFB.out.tape,x3.output.trans HFB.out.output,Nat.le_trans HFB.out.size x3.size,fun b hb _=>(x3.keep b (Nat.lt_of_lt_of_le hb HFB.out.size) (by have:=HSB.out; omega)).trans (HFB.out.block b hb)⟩
   have HCS:Hid (CS w0 wr eb rb cb vL G big ⟨(k:Int),.slice ea E.length ec,.slice (some ⟨rb,0,none⟩) E.length E.length,.slice (some ⟨cb,0,none⟩) k k,.slice a4 n4 c4,.slice a5 n5 c5,.slice a6 n6 c6,.slice a7 n7 c7⟩ E (List.replicate E.length 0) (CI k) cvs):=Lib.hid (by
    have hs:=HS.out
    have hsb:=HSB.out
    have hnn:=HN.out
    refine ⟨(HFr.out.keep eb (blk_lt hs.box) (fun q=>q)).trans hs.box,own_fr hs.own HFr.out (fun _ _ q=>q),⟨fun x hx=>?_,rfl,by rw [CI_len],by rw [CI_len],(x3.keep rb (by omega) (by omega)).trans HRB.out,by simp,x2,by rw [CI_len]; exact x1,fun i hi=>?_,fun i hi=>?_,own_fr HE.out HFr.out (fun _ _ q=>q),⟨⟨_,_,_,rfl⟩,⟨_,_,_,rfl⟩,⟨_,_,_,rfl⟩,⟨_,_,_,rfl⟩⟩,hnn.2.2,by rw [CI_len]; exact hnn.2.1,by rw [CI_len]; exact hnn.1⟩⟩
    ·obtain ⟨E',C',c',a⟩:=hs.gs x hx
     exact ⟨E',C',c',(a.mono (Q:=fun b=>b ≠ rb∧b ≠ cb) (fun b hb _=>⟨by omega,by omega⟩)).fr HFr.out (fun _ q=>q.elim)⟩
    ·rw [CI_len] at hi
     rw [CI_get k i hi]
     exact ⟨(x4 i hi).1,fun b q=>by have:=(x4 i hi).2 b q; omega⟩
    ·rw [CI_len] at hi
     rw [CI_get k i hi]
     refine ⟨⟨by simp,fun x hx=>?_⟩,?_⟩
     ·rw [List.mem_singleton] at hx; subst hx; omega
     ·have h1:=miss_snoc (c:=[]) (w:=i) (by simp) E.length (by omega)
      have h2:=miss_le [] E.length
      simp only [List.nil_append] at h1
      simp only [List.length_singleton]
      omega)
   clear x1 x2 x3 x4
   have g0:wr.cell? ⟨pb,0,none⟩=some (.int .i64 (k:Int)):=cell_of_row _ _ _ _ _ _ HPr.out
   have g1:wr.cell? ⟨pb,1,none⟩=some (.slice ea E.length ec):=cell_of_row _ _ _ _ _ _ HPr.out
   have g2:wr.cell? ⟨pb,2,none⟩=some (.slice (some ⟨rb,0,none⟩) E.length E.length):=cell_of_row _ _ _ _ _ _ HPr.out
   have g3:wr.cell? ⟨pb,3,none⟩=some (.slice (some ⟨cb,0,none⟩) k k):=cell_of_row _ _ _ _ _ _ HPr.out
   have g4:wr.cell? ⟨pb,4,none⟩=some (.slice a4 n4 c4):=cell_of_row _ _ _ _ _ _ HPr.out
   have g5:wr.cell? ⟨pb,5,none⟩=some (.slice a5 n5 c5):=cell_of_row _ _ _ _ _ _ HPr.out
   have g6:wr.cell? ⟨pb,6,none⟩=some (.slice a6 n6 c6):=cell_of_row _ _ _ _ _ _ HPr.out
   have g7:wr.cell? ⟨pb,7,none⟩=some (.slice a7 n7 c7):=cell_of_row _ _ _ _ _ _ HPr.out
   clear p0
   go_wp2_with fail
   have HCO:=Lib.hid (rrf_any (E.length - 0 + 1) w0 wr eb rb cb 0 vL G big _ E _ (CI k) cvs HCS.out (Nat.le_trans HW0.out HFr.out.size) (Nat.zero_le _) HS.out.cnt HS.out.bg (Nat.lt_succ_self _))
   refine HCO.out.mono ?_
   rintro e w6 ⟨x6,vL6,G6,big6,R6,C6,cv6,rfl,hS6,hC6,hG6,hb6,hF6,hN6⟩
   have HF:Hid (FinV w0 w w6 eb vL (.returned x6)):=Lib.hid ⟨x6,vL6,G6,big6,rfl,⟨hS6.box,hS6.own,fun x hx=>by obtain ⟨E',C',c',a⟩:=hS6.cr.gs x hx; exact ⟨E',C',c',a.mono (fun _ _ _=>trivial)⟩,hG6,hb6⟩,(HFr.out.mono (fun _ _ q=>q.elim)).trans2 hF6 (fun x hx q=>by
    have hsb:=HSB.out
    rcases q with q | q | q | q
    ·exact .inl q
    ·omega
    ·omega
    ·exact .inr q),(NewB.refl _ _).trans hN6 HFr.out.size⟩
   clear hS6 hC6 hG6 hb6 hF6 hN6 HCO g0 g1 g2 g3 g4 g5 g6 g7
   go_wp2_with fail
   go_end0
   obtain ⟨y,v,g9,b9,h1,h2,h3,h4⟩:=HF.out
   exact ⟨_,v,g9,b9,rfl,h2,h3,h4⟩
end Go.Proofs.Yteghpophcnehgaa
