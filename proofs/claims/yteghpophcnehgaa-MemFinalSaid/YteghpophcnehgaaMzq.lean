/-
  What the functions that the law reaches do, one by one: contracts. Conditions: those that each of them prints.
-/
import Derived.Test.YteghpophcnehgaaMzo
import Derived.Test.YteghpophcnehgaaMzp
import Derived.Test.YteghpophcnehgaaMf
import Derived.Deep.RegionWith
namespace Go.Proofs.Yteghpophcnehgaa
open Go.RowKit ExprA SndA
namespace SndA
theorem gs_at {W:World} {b:Nat} {v:Value} {L:List G8} {q:Nat} (h:W.ownsRow b 38 8 v L.length (gcells L)) (hq:q < L.length):∃ g c,v=.slice (some ⟨g,0,none⟩) L.length c∧g < W.heap.size∧∀ j u,j < 8→(L.getD q G8.zero).cells[j]?=some u→W.cell? ⟨g,q * 8 + j,none⟩=some u:=by
 have hc:=fun g hg=>World.ownsRow.cells h (g:=g) hg
 have hl:=World.ownsRow.lt h
 rcases h.2 with ⟨_,h2⟩ | ⟨g,cap,cur,rfl,_⟩
 ·omega
 ·refine ⟨g,cap,rfl,(hl g rfl).2,fun j u hj hu=>?_⟩
  have:=hc g rfl (q * 8 + j) u (by rw [gcells_get L q hq j hj]; exact hu)
  have e:(⟨g,0,none⟩:Addr).add (q * 8 + j)=⟨g,q * 8 + j,none⟩:=by unfold Addr.add; simp; intros; omega
  rw [e] at this; exact this
theorem gi_len {left:Nat} {i:Ins} (h:GI left i):i.E.length≤9:=by
 have ge:∀ T,GoodE T→T.length≤9:=fun T hT=>(good_eok hT).1
 rcases h with h | h | h | h | h | h
 ·rw [h.2.2.2.2.2.2]; exact Nat.zero_le _
 ·exact ge _ h.2.2.2.2.2.2
 ·rw [h.2.2.2.2.2.2]; exact Nat.zero_le _
 ·obtain ⟨_,_,_,_,_,_,b,hb,hE⟩:=h
  rw [hE]; simp
 ·exact ge _ h.2.2.2.2.2.2
 ·exact ge _ h.2.2.2.2.2.2
theorem tin_of {w:World} {lo hi:Nat} {i:Ins} (h:TokAt w lo hi i):TIn w i.a i.E:=by
 rcases h with ⟨_,h,_⟩ | ⟨g,h1,_,_,_,h5⟩
 ·exact .inl h
 ·refine .inr ⟨g,0,h1,blk_lt h5,fun j hj=>?_⟩
  rw [cell_of_row _ _ _ _ _ _ h5,cell_of_row _ _ _ _ _ _ h5,Nat.zero_add]
  have:=icells_get i.E j hj
  simpa using this
theorem thg_of {w:World} {lo hi:Nat} {th:Th} (h:ThF w lo hi th) (hg:GoodTh th.L.length th.L) (hl:th.L.length≤3):ThG w th:=
 ⟨lin_of h,hl,fun q hq=>⟨gi_ok (hg.gi q hq) (by omega),tin_of (h.tok q hq),gi_len (hg.gi q hq),fun hk=>by
  have:=hg.gi q hq
  rcases this with h | h | h | h | h | h
  ·exact absurd (h.1.symm.trans hk) (by decide)
  ·exact absurd (h.1.symm.trans hk) (by decide)
  ·exact absurd (h.1.symm.trans hk) (by decide)
  ·exact absurd (h.1.symm.trans hk) (by decide)
  ·exact absurd (h.1.symm.trans hk) (by decide)
  ·have:=h.2.2.2.2.2.1.2; omega⟩⟩
theorem pg_of {w w':World} {tb T most N:Nat} {P:List Th} (h:ProgN w w' tb T most N P) (h1:1≤T) (h4:T≤4) (hm:most≤3):PG w' tb T P∧PM w.heap.size w' tb T P∧∀ t,t < T→(P.getD t Th.zero).L.length≤1000:=by
 obtain ⟨cs,c1,c2,c3⟩:=h.cells
 have hl:∀ t,t < T→(P.getD t Th.zero).L.length≤3:=fun t ht=>Nat.le_trans (h.most t ht) hm
 exact ⟨⟨h1,h4,fun t ht=>by rw [cell_of_row _ _ _ _ _ _ c1]; exact c3 t ht,fun t ht=>thg_of (h.ths t ht) (h.good t ht) (hl t ht)⟩,⟨⟨cs,c1,c2,c3⟩,h.ths⟩,fun t ht=>by have:=hl t ht; omega⟩
theorem sn_of {w w':World} {tb T N:Nat} {P:List Th} (h:SmallN w w' tb T N P):PG w' tb T P∧PM w.heap.size w' tb T P∧(∀ t,t < T→(P.getD t Th.zero).L.length≤1000)∧Below w.heap.size w w':=by
 rcases h with ⟨rfl,h⟩ | ⟨rfl,h⟩
 ·obtain ⟨a,b,c⟩:=pg_of h (by decide) (by decide) (by decide); exact ⟨a,b,c,h.bel⟩
 ·obtain ⟨a,b,c⟩:=pg_of h (by decide) (by decide) (by decide); exact ⟨a,b,c,h.bel⟩
end SndA
set_option maxRecDepth 100000 in
set_option maxHeartbeats 16000000 in
theorem dom_any (w:World):Calls Try.prog 8 #[] w fun e w'=>(∃ v,e=.returned v∧LV w' v [0,1,2])∧Below w.heap.size w w':=by
 go_enter Try.func8,Try.ntmps8
 go_wp2_with fail
 go_ret
 exact ⟨⟨_,rfl,⟨rfl,.inr ⟨w.heap.size,3,_,rfl,Nat.zero_le _,heap_alloc_new _ _,Nat.le_refl _,by decide,rfl,rfl⟩⟩⟩,(Below.refl _ _).alloc (Nat.le_refl _) _⟩
set_option maxRecDepth 100000 in
set_option maxHeartbeats 16000000 in
theorem mfl_any (haw:∀ w:World,Calls Try.prog 6 #[] w fun e w'=>e=.returned (.bool true)∧Below w.heap.size w w') (a:Option Addr) (R:List Int) (c:Nat) (pick:Int) (w:World) (h:NIn w a R) (hR:R.length≤9223372036854775807) :
  Calls Try.prog 3 #[.slice a R.length c,.int .i64 pick] w fun e w'=>e=.returned (.bool true)∧Below w.heap.size w w':=by
 have HAW:=Lib.hid haw
 have HSM:=Lib.hid (small_any a R c w h hR)
 clear haw h
 go_enter Try.func3,Try.ntmps3
 go_wp2_with fail
 refine HSM.out.mono ?_
 rintro e w1 ⟨tb,T,P,rfl,hsm⟩
 obtain ⟨hpg,hpm,hln,hb1⟩:=sn_of hsm
 have hTi:(T:Int)≤4:=by have:=hpg.few; omega
 have HPG:=Lib.hid hpg
 have HPM:=Lib.hid hpm
 have HLN:=Lib.hid hln
 have HB1:=Lib.hid hb1
 clear hsm hpg hpm hln hb1
 go_upto_region 2 with (fail)
 obtain ⟨w2,hw2⟩:∃ x,x=w1.alloc (Obj.cells #[.int .i64 2,.slice (some ⟨tb,0,none⟩) T T] 25 (0,0)):=⟨_,rfl⟩
 obtain ⟨pb,hpb⟩:∃ x,x=w1.heap.size:=⟨_,rfl⟩
 rw [← hw2,← hpb]
 have HPX:Hid (w2.heap[pb]?=some (Obj.cells #[.int .i64 2,.slice (some ⟨tb,0,none⟩) T T] 25 (0,0))):=Lib.hid (by rw [hw2,hpb]; exact heap_alloc_new _ _)
 have HB2:Hid (Below w1.heap.size w1 w2):=Lib.hid (by rw [hw2]; exact (Below.refl _ _).alloc (Nat.le_refl _) _)
 have HB02:=Lib.hid (below_next HB1.out HB2.out)
 clear hw2 hpb
 have p0:w2.cell? ⟨pb,0,none⟩=some (.int .i64 2):=cell_of_row _ _ _ _ _ _ HPX.out
 have p1:w2.cell? ⟨pb,1,none⟩=some (.slice (some ⟨tb,0,none⟩) T T):=cell_of_row _ _ _ _ _ _ HPX.out
 go_wp2_with fail
 refine (loads_any w.heap.size tb T P w2 (HPM.out.next HB2.out) (by have:=HPG.out.few; omega) HLN.out).mono ?_
 rintro e w3 ⟨rfl,hb3⟩
 have HB3:=Lib.hid hb3
 have HB03:=Lib.hid (below_next HB02.out hb3)
 have HPX3:=Lib.hid ((hb3.block pb (blk_lt HPX.out)).trans HPX.out)
 have HPG3:=Lib.hid (HPG.out.next (below_next HB2.out hb3))
 clear hb3 p0 p1
 generalize loadsAll P T=lo
 by_cases h4:(4:Int) < (lo:Int)
 ·have d4:decide ((4:Int) < (lo:Int))=true:=by rw [decide_eq_true_iff]; exact h4
  clear h4
  go_wp2_with fail
  refine (HAW.out w3).mono ?_
  rintro e w4 ⟨rfl,hb4⟩
  have HB4:=Lib.hid (below_next HB03.out hb4)
  clear hb4
  go_wp2_with fail
  go_ret
  exact ⟨rfl,HB4.out⟩
 ·have d4:decide ((4:Int) < (lo:Int))=false:=by rw [decide_eq_false_iff_not]; exact h4
  clear h4
  have HDO:Hid (∀ W,Below w3.heap.size w3 W→Calls Try.prog 8 #[] W fun e w'=>(∃ v,e=.returned v∧LV w' v [0,1,2])∧Below W.heap.size W w'):=Lib.hid (fun W _=>dom_any W)
  have HAL:Hid (∀ W vd,Below w3.heap.size w3 W→LV W vd [0,1,2]→Calls Try.prog 7 #[.agg #[.int .i64 2,.slice (some ⟨tb,0,none⟩) T T],vd] W fun e w'=>AllV w' e∧Below W.heap.size W w'):=Lib.hid (fun W vd hb hd=>rall_any tb T P vd [0,1,2] W (HPG3.out.next hb) hd (by decide))
  have HPC:Hid (∀ W,Below w3.heap.size w3 W→W.cell? ⟨pb,0,none⟩=some (.int .i64 2)∧W.cell? ⟨pb,1,none⟩=some (.slice (some ⟨tb,0,none⟩) T T)):=Lib.hid (fun W hb=>⟨cell_of_row _ _ _ _ _ _ ((hb.block pb (blk_lt HPX3.out)).trans HPX3.out),cell_of_row _ _ _ _ _ _ ((hb.block pb (blk_lt HPX3.out)).trans HPX3.out)⟩)
  obtain ⟨p0,p1⟩:=HPC.out w3 (Below.refl _ _)
  go_upto_region 4 with (fail)
  have HD3:Hid (Below w3.heap.size w3 w3.drew):=Lib.hid (bel_drewN w3 1)
  go_cut [6,7] (fun x6 x7 wx=>∃ (vL:Value) (G:List G8),x6=vL∧wx.ownsRow 0 38 8 vL G.length (gcells G)∧(∀ x ∈ G,∃ E C cvs,GOk (fun _=>True) wx x E C cvs)∧G.length≤20001∧Below w3.heap.size w3 wx)
  case first=>
   go_region_with (first
    | (go_at_call 8; refine (HDO.out _ HD3.out).mono ?_; rintro e w4 ⟨⟨vd,rfl,hvd⟩,hb4⟩; have HVD:=Lib.hid hvd; have HB4:=Lib.hid (below_next HD3.out hb4); obtain ⟨q0,q1⟩:=HPC.out w4 HB4.out; obtain ⟨da,dc,hde⟩:=own_len hvd; subst hde; clear hvd hb4)
    | (go_at_call 7; refine (HAL.out _ _ HB4.out HVD.out).mono ?_; rintro e w5 ⟨⟨vL,G,err,rfl,hL,hG,hn⟩,hb5⟩; have HL:=Lib.hid hL; have HG:=Lib.hid hG; have HB5:=Lib.hid (below_next HB4.out hb5); clear hL hG hb5))
   all_goals
    go_wp2_with fail
    go_meet
    exact ⟨_,G,rfl,HL.out,HG.out,hn,HB5.out⟩
  case rest=>
   obtain ⟨vL,G,rfl,hL,hG,hn,hb5⟩:=hcut
   obtain ⟨la,lc,rfl⟩:=own_len hL
   have HL:=Lib.hid hL
   have HG:=Lib.hid hG
   have HB5:=Lib.hid hb5
   have HB05:=Lib.hid (below_next HB03.out hb5)
   have hni:(G.length:Int)≤20001:=by omega
   have HN:=Lib.hid hn
   clear hL hG hb5 p0 p1 hn
   by_cases hz:G.length=0
   ·have dz:((G.length:Int) == 0)=true:=by simp [hz]
    clear hz
    go_wp2_with fail
    refine (HAW.out wc).mono ?_
    rintro e w6 ⟨rfl,hb6⟩
    have HB6:=Lib.hid (below_next HB05.out hb6)
    clear hb6
    go_wp2_with fail
    go_ret
    exact ⟨rfl,HB6.out⟩
   ·have dz:((G.length:Int) == 0)=false:=beq_false_of_ne (by omega)
    have HPL:=Lib.hid (place_any pick G.length wc (by omega) (by omega))
    have hpos:(0:Int) < (G.length:Int):=by omega
    have hj1:=Int.emod_nonneg pick (show (G.length:Int) ≠ 0 by omega)
    have hj2:=Int.emod_lt_of_pos pick hpos
    obtain ⟨j,hj⟩:∃ j:Nat,pick % (G.length:Int)=(j:Int):=⟨(pick % (G.length:Int)).toNat,by omega⟩
    have hjl:j < G.length:=by omega
    rw [hj] at HPL
    have HJL:Hid ((j:Int) < (G.length:Int)):=Lib.hid (by omega)
    obtain ⟨E,C,cvs,hgok⟩:=HG.out _ (mem_getD hjl G8.zero)
    have HGK:=Lib.hid hgok
    obtain ⟨rg,rcap,hre,hrl,hrc⟩:=gs_at HL.out hjl
    simp only [Value.slice.injEq] at hre
    obtain ⟨rfl,-,rfl⟩:=hre
    generalize G.getD j G8.zero=g8 at *
    obtain ⟨gn,ve,vr,vcc,p4,p5,p6,p7⟩:=g8
    obtain ⟨⟨ra,rn,rc,e1⟩,⟨a4,n4,c4,e4⟩,⟨a5,n5,c5,e5⟩,⟨a6,n6,c6,e6⟩,⟨a7,n7,c7,e7⟩⟩:=hgok.sl
    obtain ⟨ea,ec,e2⟩:=own_len hgok.ev
    obtain ⟨ca,cc,e3⟩:=own_len hgok.co.own
    dsimp only at e1 e2 e3 e4 e5 e6 e7
    subst e1 e2 e3 e4 e5 e6 e7
    have r0:=hrc 0 _ (by decide) rfl
    have r1:=hrc 1 _ (by decide) rfl
    have r2:=hrc 2 _ (by decide) rfl
    have r3:=hrc 3 _ (by decide) rfl
    have r4:=hrc 4 _ (by decide) rfl
    have r5:=hrc 5 _ (by decide) rfl
    have r6:=hrc 6 _ (by decide) rfl
    have r7:=hrc 7 _ (by decide) rfl
    rw [Nat.add_zero] at r0
    have hjz:=HJL.out
    clear hrc hgok hz hj hj1 hj2 hjl hpos
    go_wp2_with fail
    refine HPL.out.mono ?_
    rintro e w6 ⟨rfl,hw6⟩
    subst hw6
    go_upto_region 8 with (fail)
    obtain ⟨w7,hw7⟩:∃ x,x=wc.alloc (Obj.cells #[.int .i64 gn,.slice ea E.length ec,.slice ra rn rc,.slice ca C.length cc,.slice a4 n4 c4,.slice a5 n5 c5,.slice a6 n6 c6,.slice a7 n7 c7] 38 (0,0)):=⟨_,rfl⟩
    obtain ⟨gb,hgb⟩:∃ x,x=wc.heap.size:=⟨_,rfl⟩
    rw [← hw7,← hgb]
    have HGX:Hid (w7.heap[gb]?=some (Obj.cells #[.int .i64 gn,.slice ea E.length ec,.slice ra rn rc,.slice ca C.length cc,.slice a4 n4 c4,.slice a5 n5 c5,.slice a6 n6 c6,.slice a7 n7 c7] 38 (0,0))):=Lib.hid (by rw [hw7,hgb]; exact heap_alloc_new _ _)
    have HB7:Hid (Below wc.heap.size wc w7):=Lib.hid (by rw [hw7]; exact (Below.refl _ _).alloc (Nat.le_refl _) _)
    have HB07:=Lib.hid (below_next HB05.out HB7.out)
    clear hw7 hgb r0 r1 r2 r3 r4 r5 r6 r7 hrl
    have HG7:=Lib.hid (HGK.out.next HB7.out)
    have HFN:Hid ((fin8 E C).length≤1000):=Lib.hid (by have:=HGK.out.cl; simp [fin8]; omega)
    have HMF:Hid (∀ W,Below w7.heap.size w7 W→Calls Try.prog 11 #[.agg #[.int .i64 gn,.slice ea E.length ec,.slice ra rn rc,.slice ca C.length cc,.slice a4 n4 c4,.slice a5 n5 c5,.slice a6 n6 c6,.slice a7 n7 c7]] W fun e w'=>(∃ v,e=.returned v∧LV w' v (fin8 E C))∧Below W.heap.size W w'):=Lib.hid (fun W hb=>mfinal_any (fun _=>True) ⟨gn,.slice ea E.length ec,.slice ra rn rc,.slice ca C.length cc,.slice a4 n4 c4,.slice a5 n5 c5,.slice a6 n6 c6,.slice a7 n7 c7⟩ E C cvs W (HG7.out.next hb))
    have HRF:Hid (∀ W,Below w7.heap.size w7 W→Calls Try.prog 12 #[.agg #[.int .i64 gn,.slice ea E.length ec,.slice ra rn rc,.slice ca C.length cc,.slice a4 n4 c4,.slice a5 n5 c5,.slice a6 n6 c6,.slice a7 n7 c7]] W fun e w'=>(∃ v,e=.returned v∧LV w' v (fin8 E C))∧Below W.heap.size W w'):=Lib.hid (fun W hb=>rfinal_any (fun _=>True) ⟨gn,.slice ea E.length ec,.slice ra rn rc,.slice ca C.length cc,.slice a4 n4 c4,.slice a5 n5 c5,.slice a6 n6 c6,.slice a7 n7 c7⟩ E C cvs W (HG7.out.next hb))
    have HSI:Hid (∀ W v1 v2,LV W v1 (fin8 E C)→LV W v2 (fin8 E C)→Calls Try.prog 10 #[v1,v2] W fun e w'=>e=.returned (.bool true)∧Below W.heap.size W w'):=Lib.hid (fun W v1 v2 h1 h2=>same_any v1 v2 _ W h1 h2 HFN.out)
    have HD7:Hid (Below w7.heap.size w7 w7.drew):=Lib.hid (bel_drewN w7 1)
    have HXR:Hid (∀ W,Below w7.heap.size w7 W→W.heap[gb]?=some (Obj.cells #[.int .i64 gn,.slice ea E.length ec,.slice ra rn rc,.slice ca C.length cc,.slice a4 n4 c4,.slice a5 n5 c5,.slice a6 n6 c6,.slice a7 n7 c7] 38 (0,0))):=Lib.hid (fun W hb=>(hb.block gb (blk_lt HGX.out)).trans HGX.out)
    have q0:w7.cell? ⟨gb,0,none⟩=some (.int .i64 gn):=cell_of_row _ _ _ _ _ _ HGX.out
    have q1:w7.cell? ⟨gb,1,none⟩=some (.slice ea E.length ec):=cell_of_row _ _ _ _ _ _ HGX.out
    have q2:w7.cell? ⟨gb,2,none⟩=some (.slice ra rn rc):=cell_of_row _ _ _ _ _ _ HGX.out
    have q3:w7.cell? ⟨gb,3,none⟩=some (.slice ca C.length cc):=cell_of_row _ _ _ _ _ _ HGX.out
    have q4:w7.cell? ⟨gb,4,none⟩=some (.slice a4 n4 c4):=cell_of_row _ _ _ _ _ _ HGX.out
    have q5:w7.cell? ⟨gb,5,none⟩=some (.slice a5 n5 c5):=cell_of_row _ _ _ _ _ _ HGX.out
    have q6:w7.cell? ⟨gb,6,none⟩=some (.slice a6 n6 c6):=cell_of_row _ _ _ _ _ _ HGX.out
    have q7:w7.cell? ⟨gb,7,none⟩=some (.slice a7 n7 c7):=cell_of_row _ _ _ _ _ _ HGX.out
    go_cut [4] (fun x4 wx=>x4=.bool true∧Below w7.heap.size w7 wx)
    case first=>
     go_region_with (first
      | (go_at_call 11; refine (HMF.out _ HD7.out).mono ?_; rintro e w8 ⟨⟨v8,rfl,hv8⟩,hb8⟩; have HV8:=Lib.hid hv8; have HB8:=Lib.hid (below_next HD7.out hb8); clear hv8 hb8; have q80:w8.cell? ⟨gb,0,none⟩=some (.int .i64 gn):=cell_of_row _ _ _ _ _ _ (HXR.out w8 HB8.out); have q81:w8.cell? ⟨gb,1,none⟩=some (.slice ea E.length ec):=cell_of_row _ _ _ _ _ _ (HXR.out w8 HB8.out); have q82:w8.cell? ⟨gb,2,none⟩=some (.slice ra rn rc):=cell_of_row _ _ _ _ _ _ (HXR.out w8 HB8.out); have q83:w8.cell? ⟨gb,3,none⟩=some (.slice ca C.length cc):=cell_of_row _ _ _ _ _ _ (HXR.out w8 HB8.out); have q84:w8.cell? ⟨gb,4,none⟩=some (.slice a4 n4 c4):=cell_of_row _ _ _ _ _ _ (HXR.out w8 HB8.out); have q85:w8.cell? ⟨gb,5,none⟩=some (.slice a5 n5 c5):=cell_of_row _ _ _ _ _ _ (HXR.out w8 HB8.out); have q86:w8.cell? ⟨gb,6,none⟩=some (.slice a6 n6 c6):=cell_of_row _ _ _ _ _ _ (HXR.out w8 HB8.out); have q87:w8.cell? ⟨gb,7,none⟩=some (.slice a7 n7 c7):=cell_of_row _ _ _ _ _ _ (HXR.out w8 HB8.out); skip)
      | (go_at_call 12; refine (HRF.out _ HB8.out).mono ?_; rintro e w9 ⟨⟨v9,rfl,hv9⟩,hb9⟩; have HV9:=Lib.hid hv9; have HV89:=Lib.hid (HV8.out.next hb9); have HB9:=Lib.hid (below_next HB8.out hb9); clear hv9 hb9)
      | (go_at_call 10; refine (HSI.out _ _ _ HV89.out HV9.out).mono ?_; rintro e w10 ⟨rfl,hb10⟩; have HB10:=Lib.hid (below_next HB9.out hb10); clear hb10)
      | (go_at_call 6; refine (HAW.out _).mono ?_; rintro e w11 ⟨rfl,hb11⟩; have HB11:=Lib.hid (below_next HB10.out hb11); clear hb11))
     all_goals
      go_wp2_with fail
      go_meet
      exact ⟨rfl,HB11.out⟩
    case rest=>
     obtain ⟨rfl,hb12⟩:=hcut
     have HB12:=Lib.hid (below_next HB07.out hb12)
     clear hb12
     go_wp2_with fail
     go_ret
     exact ⟨rfl,HB12.out⟩
end Go.Proofs.Yteghpophcnehgaa
