/-
  What the functions that the law reaches do, one by one: contracts. Conditions: those that each of them prints.
-/
import Derived.Test.YteghpophcnehgaaMb
import Derived.Deep.QuietTactic
namespace Go.Proofs.Yteghpophcnehgaa
open Go.RowKit ExprA SndA
theorem wrapI (x:Int):IntKind.i64.wrap x=wrap64 x:=by unfold wrap64; exact IntKind.wrap_i64 x
namespace SndA
def GI (left:Nat) (i:Ins):Prop:=
 (i.k=1∧(i.m=0 ∨ i.m=1)∧i.m2=0∧(0≤i.r∧i.r < 3)∧(0≤i.l∧i.l < 2)∧i.n=0∧i.E=[]) ∨
 (i.k=2∧(i.m=0 ∨ i.m=2)∧i.m2=0∧i.r=0∧(0≤i.l∧i.l < 2)∧i.n=0∧GoodE i.E) ∨
 (i.k=3∧(1≤i.m∧i.m≤4)∧i.m2=0∧i.r=0∧i.l=0∧i.n=0∧i.E=[]) ∨
 (i.k=4∧(i.m=0 ∨ i.m=1)∧(i.m2=0 ∨ i.m2=2)∧(0≤i.r∧i.r < 3)∧(0≤i.l∧i.l < 2)∧i.n=0∧∃ b:Nat,b < 2∧i.E=[(1,(b:Int))]) ∨
 (i.k=5∧i.m=0∧i.m2=0∧(0≤i.r∧i.r < 3)∧i.l=0∧i.n=0∧GoodE i.E) ∨
 (i.k=6∧i.m=0∧i.m2=0∧i.r=0∧i.l=0∧(0≤i.n∧i.n≤left)∧GoodE i.E)
def Ins.v (i:Ins):Value:=iagg i.k i.m i.m2 i.r i.l i.n i.a i.E.length i.c
def InsNew (w w':World) (i:Ins):Prop:=(i.a=none∧i.E=[]∧i.c=0) ∨ ∃ g,i.a=some ⟨g,0,none⟩∧i.c=i.E.length∧w.heap.size≤g∧w'.heap[g]?=some (.cells (icells i.E).toArray 85 (0,0))
theorem below_set {base:Nat} {w w':World} (h:Below base w w') (l k:Nat) (v:Value) (hl:base≤l):Below base w (w'.setCell ⟨l,k,none⟩ v):=h.setCell hl v
theorem below_set7 {base:Nat} {w w':World} (h:Below base w w') (l:Nat) (v0 v1 v2 v3 v4 v5 v6:Value) (hl:base≤l):Below base w (((((((w'.setCell ⟨l,0,none⟩ v0).setCell ⟨l,1,none⟩ v1).setCell ⟨l,2,none⟩ v2).setCell ⟨l,3,none⟩ v3).setCell ⟨l,4,none⟩ v4).setCell ⟨l,5,none⟩ v5).setCell ⟨l,6,none⟩ v6):=
 below_set (below_set (below_set (below_set (below_set (below_set (below_set h l 0 v0 hl) l 1 v1 hl) l 2 v2 hl) l 3 v3 hl) l 4 v4 hl) l 5 v5 hl) l 6 v6 hl
theorem pick3 (c:Int) (m:Nat) (h:m < 3):∃ a:Int,(a=0 ∨ a=c)∧∀ w:World,(Instr.index 83 (.agg #[.int .i64 0,.int .i64 0,.int .i64 c]) (.int .i64 (m:Int))).run Try.prog w=.ok (.int .i64 a) w:=by
 rcases (show m=0 ∨ m=1 ∨ m=2 by omega) with rfl | rfl | rfl
 ·exact ⟨0,.inl rfl,fun w=>by kernel_rfl⟩
 ·exact ⟨0,.inl rfl,fun w=>by kernel_rfl⟩
 ·exact ⟨c,.inr rfl,fun w=>by kernel_rfl⟩
end SndA
set_option maxRecDepth 100000 in
set_option maxHeartbeats 16000000 in
theorem instrn_any (v:Int) (left:Nat) (w:World) (hleft:left≤1000):Calls Try.prog 23 #[.int .i64 v,.int .i64 2,.int .i64 (left:Int)] w fun e w'=>∃ i:Ins,e=.returned i.v∧GI left i∧InsNew w w' i∧Below w.heap.size w w':=by
 have HP:=Lib.hid (fun w=>place_any v 1099511627776 w (by decide) (by decide))
 rw [show ((1099511627776:Nat):Int)=1099511627776 from rfl] at HP
 have hk0:=Int.emod_nonneg v (show (1099511627776:Int) ≠ 0 by decide)
 have hk1:=Int.emod_lt_of_pos v (show (0:Int) < 1099511627776 by decide)
 obtain ⟨ka,hka⟩:∃ k:Nat,v % 1099511627776=(k:Int):=⟨(v % 1099511627776).toNat,by omega⟩
 rw [hka] at HP hk0 hk1
 clear hka
 have hbig:(ka:Int) < 1099511627776:=hk1
 clear hk0 hk1
 obtain ⟨wq,hwq⟩:∃ k:Nat,k=ka / 20:=⟨_,rfl⟩
 have HWQ:Hid ((wq:Int) < 1099511627776):=Lib.hid (by omega)
 have hw20:wrap64 ((ka:Int) / 20)=(wq:Int):=by rw [wrap_same (by omega)]; omega
 clear hwq
 obtain ⟨t,ht⟩:∃ m:Nat,(ka:Int) % 20=(m:Int):=⟨ka % 20,by omega⟩
 have HT:Hid (t < 20):=Lib.hid (by omega)
 clear hbig
 obtain ⟨r,hr⟩:∃ m:Nat,(wq:Int) % 3=(m:Int):=⟨wq % 3,by omega⟩
 have tr:((wq:Nat):Int).tmod 3=(r:Int):=by rw [Int.tmod_eq_emod_of_nonneg (by omega)]; exact hr
 have HR:Hid (r < 3):=Lib.hid (by omega)
 obtain ⟨q3,hq30⟩:∃ k:Nat,k=wq / 3:=⟨_,rfl⟩
 have hq3:wrap64 ((wq:Int) / 3)=(q3:Int):=by rw [wrap_same (by have:=HWQ.out; omega)]; omega
 have zq3:IntKind.i64.wrap ((wq:Int) / 3)=(q3:Int):=by rw [wrapI,hq3]
 clear hq30
 obtain ⟨l,hl⟩:∃ m:Nat,(q3:Int) % 2=(m:Int):=⟨q3 % 2,by omega⟩
 have tl:((q3:Nat):Int).tmod 2=(l:Int):=by rw [Int.tmod_eq_emod_of_nonneg (by omega)]; exact hl
 have HL:Hid (l < 2):=Lib.hid (by omega)
 obtain ⟨q12,hq120⟩:∃ k:Nat,k=wq / 12:=⟨_,rfl⟩
 have hq12:wrap64 ((wq:Int) / 12)=(q12:Int):=by rw [wrap_same (by have:=HWQ.out; omega)]; omega
 have zq12:IntKind.i64.wrap ((wq:Int) / 12)=(q12:Int):=by rw [wrapI,hq12]
 clear hq120
 obtain ⟨q7,hq70⟩:∃ k:Nat,k=wq / 7:=⟨_,rfl⟩
 have hq7:wrap64 ((wq:Int) / 7)=(q7:Int):=by rw [wrap_same (by have:=HWQ.out; omega)]; omega
 have zq7:IntKind.i64.wrap ((wq:Int) / 7)=(q7:Int):=by rw [wrapI,hq7]
 clear hq70
 obtain ⟨m7,hm7⟩:∃ m:Nat,(q7:Int) % 3=(m:Int):=⟨q7 % 3,by omega⟩
 have tm7:((q7:Nat):Int).tmod 3=(m7:Int):=by rw [Int.tmod_eq_emod_of_nonneg (by omega)]; exact hm7
 have HM7:Hid (m7 < 3):=Lib.hid (by omega)
 obtain ⟨q11,hq110⟩:∃ k:Nat,k=wq / 11:=⟨_,rfl⟩
 have hq11:wrap64 ((wq:Int) / 11)=(q11:Int):=by rw [wrap_same (by have:=HWQ.out; omega)]; omega
 have zq11:IntKind.i64.wrap ((wq:Int) / 11)=(q11:Int):=by rw [wrapI,hq11]
 clear hq110
 obtain ⟨m11,hm11⟩:∃ m:Nat,(q11:Int) % 3=(m:Int):=⟨q11 % 3,by omega⟩
 have tm11:((q11:Nat):Int).tmod 3=(m11:Int):=by rw [Int.tmod_eq_emod_of_nonneg (by omega)]; exact hm11
 have HM11:Hid (m11 < 3):=Lib.hid (by omega)
 obtain ⟨q5,hq50⟩:∃ k:Nat,k=wq / 5:=⟨_,rfl⟩
 have hq5:wrap64 ((wq:Int) / 5)=(q5:Int):=by rw [wrap_same (by have:=HWQ.out; omega)]; omega
 have zq5:IntKind.i64.wrap ((wq:Int) / 5)=(q5:Int):=by rw [wrapI,hq5]
 clear hq50
 obtain ⟨m5,hm5⟩:∃ m:Nat,(q5:Int) % 4=(m:Int):=⟨q5 % 4,by omega⟩
 have tm5:((q5:Nat):Int).tmod 4=(m5:Int):=by rw [Int.tmod_eq_emod_of_nonneg (by omega)]; exact hm5
 have HM5:Hid (m5 < 4):=Lib.hid (by omega)
 obtain ⟨q17,hq170⟩:∃ k:Nat,k=wq / 17:=⟨_,rfl⟩
 have hq17:wrap64 ((wq:Int) / 17)=(q17:Int):=by rw [wrap_same (by have:=HWQ.out; omega)]; omega
 have zq17:IntKind.i64.wrap ((wq:Int) / 17)=(q17:Int):=by rw [wrapI,hq17]
 clear hq170
 obtain ⟨m17,hm17⟩:∃ m:Nat,(q17:Int) % 2=(m:Int):=⟨q17 % 2,by omega⟩
 have tm17:((q17:Nat):Int).tmod 2=(m17:Int):=by rw [Int.tmod_eq_emod_of_nonneg (by omega)]; exact hm17
 have HM17:Hid (m17 < 2):=Lib.hid (by omega)
 obtain ⟨q19,hq190⟩:∃ k:Nat,k=wq / 19:=⟨_,rfl⟩
 have hq19:wrap64 ((wq:Int) / 19)=(q19:Int):=by rw [wrap_same (by have:=HWQ.out; omega)]; omega
 have zq19:IntKind.i64.wrap ((wq:Int) / 19)=(q19:Int):=by rw [wrapI,hq19]
 clear hq190
 obtain ⟨n,hn⟩:∃ m:Nat,(q19:Int) % ((left:Int) + 1)=(m:Int):=⟨((q19:Int) % ((left:Int) + 1)).toNat,by have:=Int.emod_nonneg (q19:Int) (show ((left:Int) + 1) ≠ 0 by omega); omega⟩
 have HN:Hid (n≤left):=Lib.hid (by
  have h1:=Int.emod_lt_of_pos (q19:Int) (show (0:Int) < (left:Int) + 1 by omega)
  omega)
 have HLE:Hid (left≤1000):=Lib.hid hleft
 have hli:(left:Int)≤1000:=by omega
 obtain ⟨acq,hacq,hx1⟩:=pick3 1 m7 HM7.out
 obtain ⟨rl,hrl,hx2⟩:=pick3 2 m11 HM11.out
 have HACQ:=Lib.hid hacq
 have HRL:=Lib.hid hrl
 clear hacq hrl hleft
 have HCS:Hid ((decide ((t:Int) < 6)=true∧(t:Int) < 6) ∨ (decide ((t:Int) < 6)=false∧¬ (t:Int) < 6∧decide ((t:Int) < 12)=true∧(t:Int) < 12) ∨ (decide ((t:Int) < 6)=false∧¬ (t:Int) < 6∧decide ((t:Int) < 12)=false∧¬ (t:Int) < 12∧decide ((t:Int) < 15)=true∧(t:Int) < 15) ∨ (decide ((t:Int) < 6)=false∧¬ (t:Int) < 6∧decide ((t:Int) < 12)=false∧¬ (t:Int) < 12∧decide ((t:Int) < 15)=false∧¬ (t:Int) < 15∧decide ((t:Int) < 16)=true∧(t:Int) < 16) ∨ (decide ((t:Int) < 6)=false∧¬ (t:Int) < 6∧decide ((t:Int) < 12)=false∧¬ (t:Int) < 12∧decide ((t:Int) < 15)=false∧¬ (t:Int) < 15∧decide ((t:Int) < 16)=false∧¬ (t:Int) < 16∧decide ((t:Int) < 18)=true∧(t:Int) < 18) ∨ (decide ((t:Int) < 6)=false∧¬ (t:Int) < 6∧decide ((t:Int) < 12)=false∧¬ (t:Int) < 12∧decide ((t:Int) < 15)=false∧¬ (t:Int) < 15∧decide ((t:Int) < 16)=false∧¬ (t:Int) < 16∧decide ((t:Int) < 18)=false∧¬ (t:Int) < 18)):=Lib.hid (by
  have:=HT.out
  rcases (show t < 6 ∨ (6≤t∧t < 12) ∨ (12≤t∧t < 15) ∨ (15≤t∧t < 16) ∨ (16≤t∧t < 18) ∨ (18≤t∧t < 20) by omega) with h | h | h | h | h | h
  ·exact .inl (by simp; omega)
  ·exact .inr (.inl (by simp; omega))
  ·exact .inr (.inr (.inl (by simp; omega)))
  ·exact .inr (.inr (.inr (.inl (by simp; omega))))
  ·exact .inr (.inr (.inr (.inr (.inl (by simp; omega)))))
  ·exact .inr (.inr (.inr (.inr (.inr ((by simp; omega)))))))
 have Khr:=Lib.hid hr
 clear hr
 have Ktr:=Lib.hid tr
 clear tr
 have Khq3:=Lib.hid hq3
 clear hq3
 have Kzq3:=Lib.hid zq3
 clear zq3
 have Khl:=Lib.hid hl
 clear hl
 have Ktl:=Lib.hid tl
 clear tl
 have Khq12:=Lib.hid hq12
 clear hq12
 have Kzq12:=Lib.hid zq12
 clear zq12
 have Khq7:=Lib.hid hq7
 clear hq7
 have Kzq7:=Lib.hid zq7
 clear zq7
 have Khm7:=Lib.hid hm7
 clear hm7
 have Ktm7:=Lib.hid tm7
 clear tm7
 have Khq11:=Lib.hid hq11
 clear hq11
 have Kzq11:=Lib.hid zq11
 clear zq11
 have Khm11:=Lib.hid hm11
 clear hm11
 have Ktm11:=Lib.hid tm11
 clear tm11
 have Khq5:=Lib.hid hq5
 clear hq5
 have Kzq5:=Lib.hid zq5
 clear zq5
 have Khm5:=Lib.hid hm5
 clear hm5
 have Ktm5:=Lib.hid tm5
 clear tm5
 have Khq17:=Lib.hid hq17
 clear hq17
 have Kzq17:=Lib.hid zq17
 clear zq17
 have Khm17:=Lib.hid hm17
 clear hm17
 have Ktm17:=Lib.hid tm17
 clear tm17
 have Khq19:=Lib.hid hq19
 clear hq19
 have Kzq19:=Lib.hid zq19
 clear zq19
 have Khn:=Lib.hid hn
 clear hn
 have Kht:=Lib.hid ht
 clear ht
 have Khx1:=Lib.hid hx1
 clear hx1
 have Khx2:=Lib.hid hx2
 clear hx2
 go_enter Try.func23,Try.ntmps23
 go_wp2_with fail
 refine (HP.out _).mono ?_
 rintro e w1 ⟨rfl,rfl⟩
 clear HP
 go_wp2_with fail
 rw [hw20]
 clear hw20
 have tr:=Ktr.out
 have zq3:=Kzq3.out
 have tl:=Ktl.out
 have zq12:=Kzq12.out
 go_region_with ((go_at_call 40; refine (exprn_any _ _).mono ?_; rintro e w2 ⟨ev,rfl,hmade,hb2⟩))
 go_wp2_with fail
 clear tr zq3 tl zq12
 have zq7:=Kzq7.out
 have tm7:=Ktm7.out
 have zq11:=Kzq11.out
 have tm11:=Ktm11.out
 have hx1:=Khx1.out
 have hx2:=Khx2.out
 go_quiet (fail)
 clear zq7 tm7 zq11 tm11 hx1 hx2
 generalize hW:World.drewN w2 _=W
 have hh:W.heap[w.heap.size]?=some (.cells #[.int .i64 0,.int .i64 0,.int .i64 0,.int .i64 0,.int .i64 0,.slice none 0 0,.int .i64 0] 47 (0,0)):=by rw [← hW]; exact (hb2.block w.heap.size (by simp)).trans (heap_alloc_new w _)
 obtain ⟨g,T,rfl,hGE,hg,hgc⟩:=hmade
 have hpg:w.heap.size < g:=by simp at hg; omega
 have hgc2:W.heap[g]?=some (.cells (icells T).toArray 85 (0,0)):=by rw [← hW]; exact hgc
 have hBW:Below w.heap.size w W:=by rw [← hW]; exact below_next (below_next ((Below.refl _ _).alloc (Nat.le_refl _) _).drew hb2) (bel_drewN _ _)
 have HGC:=Lib.hid hgc2
 have HGE:=Lib.hid hGE
 have HPG:=Lib.hid hpg
 have HBW:=Lib.hid hBW
 clear hgc hgc2 hGE hpg hBW hg hb2
 clear hW
 generalize hp:w.heap.size=p at *
 have HBW:Hid (Below w.heap.size w W):=Lib.hid (by rw [hp]; exact HBW.out)
 have c0:W.cell? ⟨p,0,none⟩=some (.int .i64 0):=cell_of_row _ _ _ _ _ _ hh
 have f0:W.frozen? ⟨p,0,none⟩=false:=frozen_of_row W p 0 _ _ hh
 have c1:W.cell? ⟨p,1,none⟩=some (.int .i64 0):=cell_of_row _ _ _ _ _ _ hh
 have f1:W.frozen? ⟨p,1,none⟩=false:=frozen_of_row W p 1 _ _ hh
 have c2:W.cell? ⟨p,2,none⟩=some (.int .i64 0):=cell_of_row _ _ _ _ _ _ hh
 have f2:W.frozen? ⟨p,2,none⟩=false:=frozen_of_row W p 2 _ _ hh
 have c3:W.cell? ⟨p,3,none⟩=some (.int .i64 0):=cell_of_row _ _ _ _ _ _ hh
 have f3:W.frozen? ⟨p,3,none⟩=false:=frozen_of_row W p 3 _ _ hh
 have c4:W.cell? ⟨p,4,none⟩=some (.int .i64 0):=cell_of_row _ _ _ _ _ _ hh
 have f4:W.frozen? ⟨p,4,none⟩=false:=frozen_of_row W p 4 _ _ hh
 have c5:W.cell? ⟨p,5,none⟩=some (.slice none 0 0):=cell_of_row _ _ _ _ _ _ hh
 have f5:W.frozen? ⟨p,5,none⟩=false:=frozen_of_row W p 5 _ _ hh
 have c6:W.cell? ⟨p,6,none⟩=some (.int .i64 0):=cell_of_row _ _ _ _ _ _ hh
 have f6:W.frozen? ⟨p,6,none⟩=false:=frozen_of_row W p 6 _ _ hh
 have HH:=Lib.hid hh
 clear hh
 have ht:=Kht.out
 rcases HCS.out with ⟨d6,i6⟩ | ⟨d6,i6,d12,i12⟩ | ⟨d6,i6,d12,i12,d15,i15⟩ | ⟨d6,i6,d12,i12,d15,i15,d16,i16⟩ | ⟨d6,i6,d12,i12,d15,i15,d16,i16,d18,i18⟩ | ⟨d6,i6,d12,i12,d15,i15,d16,i16,d18,i18⟩
 ·clear HCS
  go_wp2_with fail
  refine bodyPost_ret (v:=Ins.v ⟨1,acq,0,(r:Int),(l:Int),0,none,[],0⟩) ?_ rfl ⟨⟨1,acq,0,(r:Int),(l:Int),0,none,[],0⟩,rfl,.inl ⟨rfl,HACQ.out,rfl,⟨by dsimp only; omega,by have:=HR.out; dsimp only; omega⟩,⟨by dsimp only; omega,by have:=HL.out; dsimp only; omega⟩,rfl,rfl⟩,.inl ⟨rfl,rfl,rfl⟩,below_set7 HBW.out p _ _ _ _ _ _ _ (by omega)⟩
  exact results_cell_row rfl _ _ p 47 #[.int .i64 (1),.int .i64 (acq),.int .i64 (0),.int .i64 ((r:Int)),.int .i64 ((l:Int)),.slice (none) ([]).length (0),.int .i64 (0)] (0,0) _ rfl (set7_at W p 47 _ _ _ _ _ _ _ _ _ _ _ _ _ _ HH.out) Try.underlying47 rfl (by kernel_rfl)
 ·clear HCS
  go_wp2_with fail
  refine bodyPost_ret (v:=Ins.v ⟨2,rl,0,0,(l:Int),0,some ⟨g,0,none⟩,T,T.length⟩) ?_ rfl ⟨⟨2,rl,0,0,(l:Int),0,some ⟨g,0,none⟩,T,T.length⟩,rfl,.inr (.inl ⟨rfl,HRL.out,rfl,rfl,⟨by dsimp only; omega,by have:=HL.out; dsimp only; omega⟩,rfl,HGE.out⟩),.inr ⟨g,rfl,rfl,by have:=HPG.out; omega,by rw [set7_far _ _ _ _ _ _ _ _ _ _ (by have:=HPG.out; omega)]; exact HGC.out⟩,below_set7 HBW.out p _ _ _ _ _ _ _ (by omega)⟩
  exact results_cell_row rfl _ _ p 47 #[.int .i64 (2),.int .i64 (rl),.int .i64 (0),.int .i64 (0),.int .i64 ((l:Int)),.slice (some ⟨g,0,none⟩) (T).length (T.length),.int .i64 (0)] (0,0) _ rfl (set7_at W p 47 _ _ _ _ _ _ _ _ _ _ _ _ _ _ HH.out) Try.underlying47 rfl (by kernel_rfl)
 ·clear HCS
  have hq5:=Khq5.out
  have hm5:=Khm5.out
  have h4:(m5:Int) < 4:=by have:=HM5.out; omega
  go_wp2_with fail
  refine bodyPost_ret (v:=Ins.v ⟨3,1 + (m5:Int),0,0,0,0,none,[],0⟩) ?_ rfl ⟨⟨3,1 + (m5:Int),0,0,0,0,none,[],0⟩,rfl,.inr (.inr (.inl ⟨rfl,⟨by dsimp only; omega,by dsimp only; omega⟩,rfl,rfl,rfl,rfl,rfl⟩)),.inl ⟨rfl,rfl,rfl⟩,below_set7 HBW.out p _ _ _ _ _ _ _ (by omega)⟩
  exact results_cell_row rfl _ _ p 47 #[.int .i64 (3),.int .i64 (1 + (m5:Int)),.int .i64 (0),.int .i64 (0),.int .i64 (0),.slice (none) ([]).length (0),.int .i64 (0)] (0,0) _ rfl (set7_at W p 47 _ _ _ _ _ _ _ _ _ _ _ _ _ _ HH.out) Try.underlying47 rfl (by kernel_rfl)
 ·clear HCS
  have hq17:=Khq17.out
  have hm17:=Khm17.out
  have tm17:=Ktm17.out
  go_wp2_with fail
  refine (numw_any _ _).mono ?_
  rintro e w5 ⟨rfl,hb5⟩
  have hpl:p < W.heap.size:=(Array.getElem?_eq_some_iff.1 HH.out).1
  have hh5:w5.heap[p]?=some (.cells #[.int .i64 0,.int .i64 0,.int .i64 0,.int .i64 0,.int .i64 0,.slice none 0 0,.int .i64 0] 47 (0,0)):=(hb5.block p hpl).trans HH.out
  have hpl5:p < w5.heap.size:=(Array.getElem?_eq_some_iff.1 hh5).1
  have HB5:Hid (∀ o,Below w.heap.size w (w5.alloc o)):=Lib.hid (fun o=>(below_next HBW.out hb5).alloc (below_next HBW.out hb5).size o)
  have HH5:Hid (∀ o,(w5.alloc o).heap[p]?=some (.cells #[.int .i64 0,.int .i64 0,.int .i64 0,.int .i64 0,.int .i64 0,.slice none 0 0,.int .i64 0] 47 (0,0))):=Lib.hid (fun o=>(alloc_old w5 o p hpl5).trans hh5)
  clear hb5 hh5
  have e0:∀ o,(w5.alloc o).cell? ⟨p,0,none⟩=some (.int .i64 0):=fun o=>cell_of_row _ _ _ _ _ _ (HH5.out o)
  have g0:∀ o,(w5.alloc o).frozen? ⟨p,0,none⟩=false:=fun o=>frozen_of_row _ p 0 _ _ (HH5.out o)
  have e1:∀ o,(w5.alloc o).cell? ⟨p,1,none⟩=some (.int .i64 0):=fun o=>cell_of_row _ _ _ _ _ _ (HH5.out o)
  have g1:∀ o,(w5.alloc o).frozen? ⟨p,1,none⟩=false:=fun o=>frozen_of_row _ p 1 _ _ (HH5.out o)
  have e2:∀ o,(w5.alloc o).cell? ⟨p,2,none⟩=some (.int .i64 0):=fun o=>cell_of_row _ _ _ _ _ _ (HH5.out o)
  have g2:∀ o,(w5.alloc o).frozen? ⟨p,2,none⟩=false:=fun o=>frozen_of_row _ p 2 _ _ (HH5.out o)
  have e3:∀ o,(w5.alloc o).cell? ⟨p,3,none⟩=some (.int .i64 0):=fun o=>cell_of_row _ _ _ _ _ _ (HH5.out o)
  have g3:∀ o,(w5.alloc o).frozen? ⟨p,3,none⟩=false:=fun o=>frozen_of_row _ p 3 _ _ (HH5.out o)
  have e4:∀ o,(w5.alloc o).cell? ⟨p,4,none⟩=some (.int .i64 0):=fun o=>cell_of_row _ _ _ _ _ _ (HH5.out o)
  have g4:∀ o,(w5.alloc o).frozen? ⟨p,4,none⟩=false:=fun o=>frozen_of_row _ p 4 _ _ (HH5.out o)
  have e5:∀ o,(w5.alloc o).cell? ⟨p,5,none⟩=some (.slice none 0 0):=fun o=>cell_of_row _ _ _ _ _ _ (HH5.out o)
  have g5:∀ o,(w5.alloc o).frozen? ⟨p,5,none⟩=false:=fun o=>frozen_of_row _ p 5 _ _ (HH5.out o)
  have e6:∀ o,(w5.alloc o).cell? ⟨p,6,none⟩=some (.int .i64 0):=fun o=>cell_of_row _ _ _ _ _ _ (HH5.out o)
  have g6:∀ o,(w5.alloc o).frozen? ⟨p,6,none⟩=false:=fun o=>frozen_of_row _ p 6 _ _ (HH5.out o)
  have hne:p ≠ w5.heap.size:=by omega
  have HS5:Hid (w.heap.size≤w5.heap.size):=Lib.hid (by omega)
  have HNE:=Lib.hid hne
  clear hpl hpl5 hne
  go_wp2_with fail
  refine bodyPost_ret (v:=Ins.v ⟨4,acq,rl,(r:Int),(l:Int),0,some ⟨w5.heap.size,0,none⟩,[(1,(m17:Int))],1⟩) ?_ rfl ⟨⟨4,acq,rl,(r:Int),(l:Int),0,some ⟨w5.heap.size,0,none⟩,[(1,(m17:Int))],1⟩,rfl,.inr (.inr (.inr (.inl ⟨rfl,HACQ.out,HRL.out,⟨by dsimp only; omega,by have:=HR.out; dsimp only; omega⟩,⟨by dsimp only; omega,by have:=HL.out; dsimp only; omega⟩,rfl,m17,HM17.out,rfl⟩))),.inr ⟨w5.heap.size,rfl,rfl,HS5.out,by rw [set7_far _ _ _ _ _ _ _ _ _ _ (fun h=>HNE.out h.symm)]; exact at_new _ _ _ rfl⟩,below_set7 (HB5.out _) p _ _ _ _ _ _ _ (by omega)⟩
  exact results_cell_row rfl _ _ p 47 #[.int .i64 (4),.int .i64 (acq),.int .i64 (rl),.int .i64 ((r:Int)),.int .i64 ((l:Int)),.slice (some ⟨w5.heap.size,0,none⟩) ([(1,(m17:Int))]).length (1),.int .i64 (0)] (0,0) _ rfl (set7_at _ p 47 _ _ _ _ _ _ _ _ _ _ _ _ _ _ (HH5.out _)) Try.underlying47 rfl (by kernel_rfl)
 ·clear HCS
  go_wp2_with fail
  refine bodyPost_ret (v:=Ins.v ⟨5,0,0,(r:Int),0,0,some ⟨g,0,none⟩,T,T.length⟩) ?_ rfl ⟨⟨5,0,0,(r:Int),0,0,some ⟨g,0,none⟩,T,T.length⟩,rfl,.inr (.inr (.inr (.inr (.inl ⟨rfl,rfl,rfl,⟨by dsimp only; omega,by have:=HR.out; dsimp only; omega⟩,rfl,rfl,HGE.out⟩)))),.inr ⟨g,rfl,rfl,by have:=HPG.out; omega,by rw [set7_far _ _ _ _ _ _ _ _ _ _ (by have:=HPG.out; omega)]; exact HGC.out⟩,below_set7 HBW.out p _ _ _ _ _ _ _ (by omega)⟩
  exact results_cell_row rfl _ _ p 47 #[.int .i64 (5),.int .i64 (0),.int .i64 (0),.int .i64 ((r:Int)),.int .i64 (0),.slice (some ⟨g,0,none⟩) (T).length (T.length),.int .i64 (0)] (0,0) _ rfl (set7_at W p 47 _ _ _ _ _ _ _ _ _ _ _ _ _ _ HH.out) Try.underlying47 rfl (by kernel_rfl)
 ·clear HCS
  have hq19:=Khq19.out
  have hn:=Khn.out
  have hz0:((left:Int) + 1 == 0)=false:=by rw [beq_eq_false_iff_ne]; omega
  go_wp2_with fail
  refine bodyPost_ret (v:=Ins.v ⟨6,0,0,0,0,(n:Int),some ⟨g,0,none⟩,T,T.length⟩) ?_ rfl ⟨⟨6,0,0,0,0,(n:Int),some ⟨g,0,none⟩,T,T.length⟩,rfl,.inr (.inr (.inr (.inr (.inr ⟨rfl,rfl,rfl,rfl,rfl,⟨by dsimp only; omega,by have:=HN.out; dsimp only; omega⟩,HGE.out⟩)))),.inr ⟨g,rfl,rfl,by have:=HPG.out; omega,by rw [set7_far _ _ _ _ _ _ _ _ _ _ (by have:=HPG.out; omega)]; exact HGC.out⟩,below_set7 HBW.out p _ _ _ _ _ _ _ (by omega)⟩
  exact results_cell_row rfl _ _ p 47 #[.int .i64 (6),.int .i64 (0),.int .i64 (0),.int .i64 (0),.int .i64 (0),.slice (some ⟨g,0,none⟩) (T).length (T.length),.int .i64 ((n:Int))] (0,0) _ rfl (set7_at W p 47 _ _ _ _ _ _ _ _ _ _ _ _ _ _ HH.out) Try.underlying47 rfl (by kernel_rfl)
end Go.Proofs.Yteghpophcnehgaa
namespace Go.Proofs.Yteghpophcnehgaa
open Go.RowKit ExprA SndA
namespace SndA
def inscells (i:Ins):List Value:=[.int .i64 i.k,.int .i64 i.m,.int .i64 i.m2,.int .i64 i.r,.int .i64 i.l,.slice i.a i.E.length i.c,.int .i64 i.n]
def lcells (L:List Ins):List Value:=L.flatMap inscells
theorem lcells_get (L:List Ins) (q:Nat) (hq:q < L.length) (j:Nat) (hj:j < 7):(lcells L)[q * 7 + j]?=(inscells (L.getD q Ins.zero))[j]?:=by
 induction L generalizing q with
 | nil=>simp at hq
 | cons i L ih=>
  show (inscells i ++ lcells L)[q * 7 + j]?=_
  cases q with
  | zero=>rw [List.getElem?_append_left (by show _ < 7; omega)]; simp
  | succ q=>
   rw [List.getElem?_append_right (by show 7≤_; omega)]
   have e:(q + 1) * 7 + j - (inscells i).length=q * 7 + j:=by show _ - 7=_; omega
   rw [e,ih q (by simpa using hq)]
   simp
theorem lcells_snoc (L:List Ins) (i:Ins):lcells (L ++ [i])=lcells L ++ inscells i:=by
 unfold lcells; rw [List.flatMap_append]; simp
theorem inscells_one (i:Ins):∀ u ∈ inscells i,u.oneCell'=true:=by
 intro u hu
 simp only [inscells,List.mem_cons,List.not_mem_nil,or_false] at hu
 rcases hu with rfl | rfl | rfl | rfl | rfl | rfl | rfl <;> rfl
def TokAt (w:World) (lo hi:Nat) (i:Ins):Prop:=(i.a=none∧i.E=[]∧i.c=0) ∨ ∃ g,i.a=some ⟨g,0,none⟩∧i.c=i.E.length∧lo≤g∧g < hi∧w.heap[g]?=some (.cells (icells i.E).toArray 85 (0,0))
def Keep (lo hi:Nat) (w w':World):Prop:=∀ b,lo≤b→b < hi→w'.heap[b]?=w.heap[b]?
theorem TokAt.keep {w w':World} {lo hi:Nat} {i:Ins} (h:TokAt w lo hi i) (hk:Keep lo hi w w'):TokAt w' lo hi i:=by
 rcases h with h | ⟨g,h1,h2,h3,h4,h5⟩
 ·exact .inl h
 ·exact .inr ⟨g,h1,h2,h3,h4,(hk g h3 h4).trans h5⟩
theorem TokAt.mono {w:World} {lo hi lo' hi':Nat} {i:Ins} (h:TokAt w lo hi i) (h1:lo'≤lo) (h2:hi≤hi'):TokAt w lo' hi' i:=by
 rcases h with h | ⟨g,a1,a2,a3,a4,a5⟩
 ·exact .inl h
 ·exact .inr ⟨g,a1,a2,by omega,by omega,a5⟩
theorem lt_of_heap {w:World} {g:Nat} {o:Obj} (h:w.heap[g]?=some o):g < w.heap.size:=(Array.getElem?_eq_some_iff.1 h).1
theorem tok_of_new {w w':World} {i:Ins} (h:InsNew w w' i):TokAt w' w.heap.size w'.heap.size i:=by
 rcases h with h | ⟨g,h1,h2,h3,h4⟩
 ·exact .inl h
 ·exact .inr ⟨g,h1,h2,h3,lt_of_heap h4,h4⟩
structure ThF (w:World) (lo hi:Nat) (th:Th):Prop where
 row:(th.a=none∧th.L=[]∧th.c=0) ∨ ∃ g cur,th.a=some ⟨g,0,none⟩∧lo≤g∧g < hi∧w.heap[g]?=some (.cells cur 47 (0,0))∧cur.toList.take (th.L.length * 7)=lcells th.L∧th.L.length≤th.c∧th.c≤maxLen
 tok:∀ q,q < th.L.length→TokAt w lo hi (th.L.getD q Ins.zero)
theorem ThF.keep {w w':World} {lo hi:Nat} {th:Th} (h:ThF w lo hi th) (hk:Keep lo hi w w'):ThF w' lo hi th:=by
 refine ⟨?_,fun q hq=>(h.tok q hq).keep hk⟩
 rcases h.row with a | ⟨g,cur,a1,a2,a3,a4,a5⟩
 ·exact .inl a
 ·exact .inr ⟨g,cur,a1,a2,a3,(hk g a2 a3).trans a4,a5⟩
theorem ThF.mono {w:World} {lo hi lo' hi':Nat} {th:Th} (h:ThF w lo hi th) (h1:lo'≤lo) (h2:hi≤hi'):ThF w lo' hi' th:=by
 refine ⟨?_,fun q hq=>(h.tok q hq).mono h1 h2⟩
 rcases h.row with a | ⟨g,cur,a1,a2,a3,a4,a5⟩
 ·exact .inl a
 ·exact .inr ⟨g,cur,a1,by omega,by omega,a4,a5⟩
def Th.v (th:Th):Value:=.slice th.a th.L.length th.c
structure PS (w wi:World) (p tb bx T:Nat) (vs:Nat→Value):Prop where
 bel:Below w.heap.size w wi
 res:wi.heap[p]?=some (.cells #[.int .i64 0,.slice none 0 0] 25 (0,0))
 box:wi.heap[bx]?=some (.cells #[.int .i64 2,.slice (some ⟨tb,0,none⟩) T T] 25 (0,0))
 thr:∃ cs:Array Value,wi.heap[tb]?=some (.cells cs 44 (0,0))∧cs.size=T∧∀ s,s < T→cs[s]?=some (vs s)
def cnt6 (L:List Ins):Nat:=(L.filter fun i=>i.k == 6).length
structure GoodTh (n:Nat) (L:List Ins):Prop where
 gi:∀ q,q < L.length→GI (n - 1 - q) (L.getD q Ins.zero)
 few:cnt6 L≤2
structure TS (wi:World) (mid n:Nat) (v:Value) (L:List Ins) (sk:Nat):Prop where
 size:mid≤wi.heap.size
 own:wi.ownsRow mid 47 7 v L.length (lcells L)
 tok:∀ q,q < L.length→TokAt wi mid wi.heap.size (L.getD q Ins.zero)
 good:∀ q,q < L.length→GI (n - 1 - q) (L.getD q Ins.zero)
 few:cnt6 L≤min sk 2
theorem cnt6_snoc (L:List Ins) (i:Ins):cnt6 (L ++ [i])=cnt6 L + (if i.k=6 then 1 else 0):=by
 unfold cnt6
 rw [List.filter_append,List.length_append]
 by_cases h:i.k=6
 ·simp [h]
 ·simp [h]
theorem getD_snoc_lt (L:List Ins) (i:Ins) (q:Nat) (h:q < L.length):(L ++ [i]).getD q Ins.zero=L.getD q Ins.zero:=by
 rw [List.getD_eq_getElem?_getD,List.getElem?_append_left h,← List.getD_eq_getElem?_getD]
theorem getD_snoc_eq (L:List Ins) (i:Ins):(L ++ [i]).getD L.length Ins.zero=i:=by
 rw [List.getD_eq_getElem?_getD,List.getElem?_append_right (Nat.le_refl _)]; simp
end SndA
end Go.Proofs.Yteghpophcnehgaa
