/-
  What the functions that the law reaches do, one by one: contracts. Conditions: those that each of them prints.
-/
import Derived.Test.YteghpophcnehgaaMzn
import Derived.Test.YteghpophcnehgaaMzk
import Derived.WalkKit
import Derived.Deep.RegionLaw
import Derived.Deep.Quiet
import Derived.Deep.DeepCutAuto
import Derived.Deep.CutBlock
import Derived.Deep.OwnRows
namespace Go.Proofs.Yteghpophcnehgaa
open Go.RowKit ExprA SndA
namespace SndA
def AllV (w':World) (e:Ending):Prop:=∃ (vL:Value) (G:List G8) (err:Int),e=.returned (.tuple #[vL,.int .i64 err])∧w'.ownsRow 0 38 8 vL G.length (gcells G)∧(∀ x ∈ G,∃ E C cvs,GOk (fun _=>True) w' x E C cvs)∧G.length≤20001
theorem LB.frX {base:Nat} {X:Nat→Prop} {W W':World} {v:Value} {L:List (List Int)} {vs:List Value} (h:LB base W v L vs) (hf:Fr X W W') (hX:∀ b,X b→KG W b):LB base W' v L vs:=
 h.fr hf (fun g q r=>own_kg h.own (by decide) (by decide) q (hX g r)) (fun i hi g q r=>own_kg (h.el i hi) (by decide) (by decide) q (hX g r))
theorem L3.frX {base:Nat} {X:Nat→Prop} {W W':World} {v:Value} {M:List (List (List Int))} {ms:List Value} (h:L3 base W v M ms) (hf:Fr X W W') (hX:∀ b,X b→KG W b):L3 base W' v M ms:=
 ⟨own_fr h.own hf (fun g q r=>own_kg h.own (by decide) (by decide) q (hX g r)),h.len,fun i hi=>by obtain ⟨vs,a⟩:=h.el i hi; exact ⟨vs,a.frX hf hX⟩⟩
end SndA
set_option maxRecDepth 100000 in
set_option maxHeartbeats 32000000 in
theorem rall_any (tb T:Nat) (P:List Th) (vd:Value) (D:List Int) (w:World) (hP:PG w tb T P) (hd:LV w vd D) (hD:D.length≤1000) :
  Calls Try.prog 7 #[pv tb T,vd] w fun e w'=>AllV w' e∧Below w.heap.size w w':=by
 have HP:=Lib.hid hP
 have HD:=Lib.hid hd
 have hTi:(T:Int)≤4:=by have:=hP.few; omega
 obtain ⟨da,dc,rfl⟩:=own_len hd
 obtain ⟨i0,hi0,hz0,hz1,hz2⟩:=info_parts infoSl2
 clear hP hd
 obtain ⟨w1,hw1⟩:∃ x,x=w.alloc (Obj.cells #[.int .i64 2,.slice (some ⟨tb,0,none⟩) T T] 25 (0,0)):=⟨_,rfl⟩
 obtain ⟨pb,hpb⟩:∃ x,x=w.heap.size:=⟨_,rfl⟩
 have HPX:Hid (w1.heap[pb]?=some (Obj.cells #[.int .i64 2,.slice (some ⟨tb,0,none⟩) T T] 25 (0,0))):=Lib.hid (by rw [hw1,hpb]; exact heap_alloc_new _ _)
 have HB1:Hid (Below w.heap.size w w1):=Lib.hid (by rw [hw1]; exact (Below.refl _ _).alloc (Nat.le_refl _) _)
 have HPB:Hid (w.heap.size=pb):=Lib.hid hpb.symm
 have HW1:=Lib.hid hw1.symm
 have HP1:=Lib.hid (HP.out.next HB1.out)
 clear hw1 hpb
 unfold pv
 go_enter Try.func7,Try.ntmps7
 go_upto_region 1 with (fail)
 rw [HPB.out,HW1.out]
 have p0:w1.cell? ⟨pb,0,none⟩=some (.int .i64 2):=cell_of_row _ _ _ _ _ _ HPX.out
 have p1:w1.cell? ⟨pb,1,none⟩=some (.slice (some ⟨tb,0,none⟩) T T):=cell_of_row _ _ _ _ _ _ HPX.out
 go_wp2_with fail
 refine (rchk_any tb T P w1 HP1.out).mono ?_
 rintro e w2 ⟨⟨n,rfl⟩,hb2⟩
 have HB2:=Lib.hid hb2
 have HB02:=Lib.hid (below_next HB1.out hb2)
 clear hb2 p0 p1
 by_cases hn:n=0
 ·subst hn
  go_wp2_with fail
  go_loopw [6,7] (fun x6 x7 wr=>∃ (q:Nat) (A:List (List (List Int))) (avl:List Value),q≤T∧x7=.int .i64 (q:Int)∧A.length=q∧Hid (L3 w1.heap.size wr x6 A avl)∧Hid (∀ L ∈ A,L.length≤20001∧∀ l ∈ L,l.length≤3)∧Hid (Below w1.heap.size w1 wr)) (fun _ x7 _=>T - (intOf x7).toNat)
  case atStart=>exact ⟨0,[],[],Nat.zero_le _,rfl,rfl,Lib.hid (L3.nil _ _),Lib.hid (fun L hL=>by cases hL),HB2⟩
  case round=>
   obtain ⟨q,A,avl,hq,rfl,hAl,HA,HAO,HB⟩:=hrel
   have hqi:(q:Int)≤4:=by have:=HP.out.few; omega
   obtain ⟨aa,ac,rfl⟩:=own_len HA.out.own
   have p0:=cell_of_row _ pb 0 _ _ _ ((HB.out.block pb (blk_lt HPX.out)).trans HPX.out)
   have p1:=cell_of_row _ pb 1 _ _ _ ((HB.out.block pb (blk_lt HPX.out)).trans HPX.out)
   change _=some (Value.int .i64 2) at p0
   change _=some (Value.slice (some ⟨tb,0,none⟩) T T) at p1
   have HPr:=Lib.hid (HP1.out.next HB.out)
   have HDr:=Lib.hid (HD.out.next (below_next HB1.out HB.out))
   by_cases hlt:q < T
   ·have d1:decide ((q:Int) < (T:Int))=true:=by rw [decide_eq_true_iff]; omega
    have i1:(q:Int) < (T:Int):=by omega
    have ct:=HPr.out.cell q hlt
    have HTH:=Lib.hid (HPr.out.th q hlt)
    generalize P.getD q Th.zero=th at *
    obtain ⟨ta,tL,tc⟩:=th
    unfold Th.v at ct
    dsimp only at ct
    have HAE:=Lib.hid hAl
    have hAi:(A.length:Int)≤4:=by omega
    go_wp2_with fail
    refine (rvals_any ⟨ta,tL,tc⟩ _ D wr HTH.out HDr.out hD).mono ?_
    rintro e w3 ⟨⟨v3,L3',vs3,rfl,hL3,hl3,hn3⟩,hb3⟩
    obtain ⟨xa,xc,rfl⟩:=own_len hL3.own
    have HL3:=Lib.hid hL3
    have HB3:=Lib.hid hb3
    have HB13:=Lib.hid (below_next HB.out hb3)
    have HA3:=Lib.hid (HA.out.next hb3)
    have hbz:=Lib.hid HB13.out.size
    have HL3O:Hid (∀ L ∈ A ++ [L3'],L.length≤20001∧∀ l ∈ L,l.length≤3):=Lib.hid (fun L hL=>by
     rcases List.mem_append.1 hL with z | z
     ·exact HAO.out L z
     ·rw [List.mem_singleton] at z; subst z; exact ⟨hn3,hl3⟩)
    clear hL3 hl3 hn3 hb3 ct p0 p1 hAl
    go_wp2_with (first
     | (at_builtin; refine wpList_append_own_at _ rfl (.tmp 23) (.tmp 31) 54 rfl w1.heap.size 35 i0 (.slice none 0 0) 1 24 Try.underlying54 hi0 hz0 hz1 hz2 rfl (by decide) _ _ _ rfl (HA3.out.own.alloc _) ⟨_,0,none⟩ 1 1 [.slice xa L3'.length xc] rfl rfl (World.news_of_block (cs:=#[.slice xa L3'.length xc]) (t:=35) (fr:=(0,0)) (heap_alloc_new _ _)) (by simp [Value.oneCell']) (by unfold maxLen; omega) (by omega) (by have:=hbz.out; simp; omega) ?_; intro v4 w4 hown4 hgrow4 _ hv4))
    have hbA:Below w3.heap.size w3 (w3.alloc (Obj.cells #[.slice xa L3'.length xc] 35 (0,0))):=(Below.refl _ _).alloc (Nat.le_refl _) _
    have HA4:Hid (L3 w1.heap.size w4 v4 (A ++ [L3']) (avl ++ [.slice xa L3'.length xc])):=Lib.hid ((HA3.out.next hbA).grow hgrow4 hown4 ((HL3.out.next hbA).lower (Nat.zero_le _)))
    have HB4:Hid (Below w1.heap.size w1 w4):=Lib.hid ((HB13.out.trans (hbA.mono HB13.out.size)).grown hgrow4 (Nat.le_trans HB13.out.size hbA.size) (fun j hj=>(HA3.out.own.lt j hj).1))
    clear hbA hown4 hgrow4 hv4
    go_roundw
    case rel=>exact ⟨q + 1,A ++ [L3'],_,hlt,by go_num,by simp [HAE.out],HA4,HL3O,HB4⟩
    case measure=>simp [intOf]; omega
   ·have d1:decide ((q:Int) < (T:Int))=false:=by rw [decide_eq_false_iff_not]; omega
    have i1:¬ (q:Int) < (T:Int):=by omega
    have HA4:Hid (A.length≤4):=Lib.hid (by have:=HP.out.few; omega)
    clear hAl
    go_upto_region 9 with (fail)
    obtain ⟨eb,heb⟩:∃ x,x=wr.heap.size:=⟨_,rfl⟩
    obtain ⟨wE,hwE⟩:∃ x,x=wr.alloc (Obj.cells #[.slice none 0 0,.bool false] 58 (0,0)):=⟨_,rfl⟩
    rw [← hwE,← heb]
    have HEB:Hid (wE.heap[eb]?=some (Obj.cells #[.slice none 0 0,.bool false] 58 (0,0))):=Lib.hid (by rw [hwE,heb]; exact heap_alloc_new _ _)
    have HBE:Hid (Below wr.heap.size wr wE):=Lib.hid (by rw [hwE]; exact (Below.refl _ _).alloc (Nat.le_refl _) _)
    have HBE1:=Lib.hid (below_next HB.out HBE.out)
    have HEL:Hid (w1.heap.size≤eb):=Lib.hid (by rw [heb]; exact HB.out.size)
    have HAE:=Lib.hid (HA.out.next HBE.out)
    clear hwE heb p0 p1
    go_wp2_with fail
    refine (rlots_any _ A avl wE ⟨own_lower HAE.out.own (Nat.zero_le _),HAE.out.len,HAE.out.el⟩ HA4.out HAO.out).mono ?_
    rintro e w5 ⟨⟨v5,M,ms,rfl,hM,hMl,hMO⟩,hb5⟩
    have HM:=Lib.hid hM
    have HMO:=Lib.hid hMO
    have HEB5:=Lib.hid ((hb5.block eb (blk_lt HEB.out)).trans HEB.out)
    have HB5:=Lib.hid (HBE1.out.trans (hb5.mono HBE1.out.size))
    obtain ⟨la,lc,rfl⟩:=own_len hM.own
    have hMi:(M.length:Int)≤200001:=by omega
    clear hM hMO hb5
    go_wp2_with fail
    go_loopw [10] (fun x10 wr=>∃ (i:Nat) (vL:Value) (G:List G8) (big:Bool),i≤M.length∧x10=.int .i64 (i:Int)∧Hid (ES w1 wr eb vL G big)∧Hid (Fr (fun b=>b=eb) w5 wr)∧Hid (NewB w5 (.slice none 0 0) vL)) (fun x10 _=>M.length - (intOf x10).toNat)
    case atStart=>exact ⟨0,_,[],false,Nat.zero_le _,rfl,Lib.hid ⟨HEB5.out,World.ownsRow_nil _ _ _ _,(fun x hx=>by cases hx),Nat.zero_le _,rfl⟩,Lib.hid (Fr.refl _ _),Lib.hid (NewB.refl _ _)⟩
    case round=>
     obtain ⟨i,vL,G,big,hi,rfl,HS,HF,HN⟩:=hrel
     have hii:(i:Int)≤200001:=by omega
     have HBr:Hid (Below w1.heap.size w1 wr):=Lib.hid (HB5.out.trans (HF.out.below (fun b hb z=>by have:=HEL.out; omega) HB5.out.size))
     obtain ⟨va,vc,rfl⟩:=own_len HS.out.own
     by_cases hlt2:i < M.length
     ·have d2:decide ((i:Int) < (M.length:Int))=true:=by rw [decide_eq_true_iff]; omega
      have i2:(i:Int) < (M.length:Int):=by omega
      obtain ⟨lg,lc',hle,hlg,hcl⟩:=HM.out.cell hlt2
      simp only [Value.slice.injEq] at hle
      obtain ⟨rfl,-,rfl⟩:=hle
      obtain ⟨vs1,hv1⟩:=HM.out.el i hlt2
      have HMi:=Lib.hid (HMO.out _ (mem_getD hlt2 []))
      have hkg:KG w5 eb:=⟨_,_,_,HEB5.out,.inr rfl⟩
      have HL1:=Lib.hid (hv1.frX HF.out (fun b z=>by rw [z]; exact hkg))
      have HC1:=Lib.hid (HF.out.cell hcl (fun z=>own_kg HM.out.own (by decide) (by decide) (g:=lg) rfl (by simp only at z; rw [z]; exact hkg)))
      have HPX2:=Lib.hid ((HBr.out.block pb (blk_lt HPX.out)).trans HPX.out)
      clear hcl hv1 hkg
      go_wp2_with fail
      refine allreg_l wr pb tb T lg M.length lc i P _ _ vs1 i2 (cell_of_row _ _ _ _ _ _ HPX2.out) (cell_of_row _ _ _ _ _ _ HPX2.out) (HP1.out.next HBr.out) HC1.out HL1.out (by have:=HMi.out.1; omega) HMi.out.2 _ _ _ _ _ _ _ _ _ _ _ _ _ _ _ _ _ _ _ _ _ _ _ _ _ _ _ _ _ _ _ _ _ _ _ _ _ _ _ _ _ _ _ _ _ _ _ _ _ _ _ _ _ _ _ _ _ _ _ _ _ (fun _ _ _ _ _ h=>h) ?_
      intro y0 y1 y2 y3 y4 y5 y6 y7 y8 y9 gb n ve p4 p5 p6 p7 E W hbW hgb hgx hve hsl hnn
      obtain ⟨ea,ec,rfl⟩:=own_len hve
      obtain ⟨⟨a4,n4,c4,rfl⟩,⟨a5,n5,c5,rfl⟩,⟨a6,n6,c6,rfl⟩,⟨a7,n7,c7,rfl⟩⟩:=hsl
      have g0:W.cell? ⟨gb,0,none⟩=some (.int .i64 (n:Int)):=cell_of_row _ _ _ _ _ _ hgx
      have g1:W.cell? ⟨gb,1,none⟩=some (.slice ea E.length ec):=cell_of_row _ _ _ _ _ _ hgx
      have g2:W.cell? ⟨gb,2,none⟩=some (.slice none 0 0):=cell_of_row _ _ _ _ _ _ hgx
      have g3:W.cell? ⟨gb,3,none⟩=some (.slice none 0 0):=cell_of_row _ _ _ _ _ _ hgx
      have g4:W.cell? ⟨gb,4,none⟩=some (.slice a4 n4 c4):=cell_of_row _ _ _ _ _ _ hgx
      have g5:W.cell? ⟨gb,5,none⟩=some (.slice a5 n5 c5):=cell_of_row _ _ _ _ _ _ hgx
      have g6:W.cell? ⟨gb,6,none⟩=some (.slice a6 n6 c6):=cell_of_row _ _ _ _ _ _ hgx
      have g7:W.cell? ⟨gb,7,none⟩=some (.slice a7 n7 c7):=cell_of_row _ _ _ _ _ _ hgx
      have HFI:=Lib.hid (rfin_any w1 W eb n (.slice va G.length vc) G big (.slice ea E.length ec) (.slice a4 n4 c4) (.slice a5 n5 c5) (.slice a6 n6 c6) (.slice a7 n7 c7) E (HS.out.next hbW) (Nat.le_trans HBr.out.size hbW.size) hve ⟨⟨a4,n4,c4,rfl⟩,⟨a5,n5,c5,rfl⟩,⟨a6,n6,c6,rfl⟩,⟨a7,n7,c7,rfl⟩⟩ hnn)
      have HBW:=Lib.hid hbW
      clear hbW hgb hgx hve hnn
      go_wp2_with fail
      refine HFI.out.mono ?_
      rintro e w8 ⟨x8,vL8,G8',big8,rfl,hS8,hF8,hN8⟩
      have HS8:=Lib.hid hS8
      have HF8:Hid (Fr (fun b=>b=eb) w5 w8):=Lib.hid ((HF.out.trans (Fr.of_below HBW.out)).trans2 hF8 (fun x hx z=>by
       rcases z with z | z
       ·exact z
       ·rcases HN.out with r | ⟨b2,r,r2⟩
        ·rw [r] at z; cases z
        ·rw [r] at z; simp only [Option.some.injEq] at z; omega))
      have HN8:Hid (NewB w5 (.slice none 0 0) vL8):=Lib.hid (HN.out.trans hN8 (Nat.le_trans HF.out.size HBW.out.size))
      clear hS8 hF8 hN8 HFI g0 g1 g2 g3 g4 g5 g6 g7
      go_wp2_with fail
      go_roundw
      case rel=>exact ⟨i + 1,vL8,G8',big8,hlt2,by go_num,HS8,HF8,HN8⟩
      case measure=>simp [intOf]; omega
     ·have d2:decide ((i:Int) < (M.length:Int))=false:=by rw [decide_eq_false_iff_not]; omega
      have i2:¬ (i:Int) < (M.length:Int):=by omega
      have c1:wr.cell? ⟨eb,1,none⟩=some (.bool big):=cell_of_row _ _ _ _ _ _ HS.out.box
      have c0:wr.cell? ⟨eb,0,none⟩=some (.slice va G.length vc):=cell_of_row _ _ _ _ _ _ HS.out.box
      have HBw:=Lib.hid (below_next HB1.out HBr.out)
      cases big with
      | true=>
       clear c0
       go_wp2_with fail
       go_ret2
       exact ⟨⟨_,[],_,rfl,World.ownsRow_nil _ _ _ _,(fun x hx=>by cases hx),Nat.zero_le _⟩,HBw.out⟩
      | false=>
       go_wp2_with fail
       go_ret2
       exact ⟨⟨_,G,_,rfl,own_lower HS.out.own (Nat.zero_le _),HS.out.gs,HS.out.cnt⟩,HBw.out⟩
 ·have hnb:(n == 0)=false:=by simp [hn]
  clear hn
  go_wp2_with fail
  go_ret2
  exact ⟨⟨_,[],_,rfl,World.ownsRow_nil _ _ _ _,(fun x hx=>by cases hx),Nat.zero_le _⟩,HB02.out⟩
end Go.Proofs.Yteghpophcnehgaa
namespace Go.Proofs.Yteghpophcnehgaa
open Go.RowKit ExprA SndA
namespace SndA
def lastOf (c:List Int):Int:=c.getD (c.length - 1) 0
def finV (E:List Ev) (c:List Int):Int:=(E.getD (lastOf c).toNat Ev.zero).vl
def fin8 (E:List Ev) (C:List (List Int)):List Int:=C.map (finV E)
theorem last_in {B:Nat} {c:List Int} (h:CoOk B c):0≤lastOf c∧lastOf c < (B:Int):=by
 have hl:0 < c.length:=List.length_pos_iff.2 h.1
 refine h.2 _ ?_
 unfold lastOf
 rw [List.getD_eq_getElem?_getD,List.getElem?_eq_getElem (by omega)]
 exact List.getElem_mem _
def rowF (F:List Int) (k:Nat):List Int:=F.take k ++ List.replicate (F.length - k) 0
theorem rowF_len (F:List Int) (k:Nat) (hk:k≤F.length):(rowF F k).length=F.length:=by simp [rowF]; omega
theorem rowF_set (F:List Int) (k:Nat) (hk:k < F.length):(rowF F k).set k (F.getD k 0)=rowF F (k + 1):=by
 unfold rowF
 have e:F.length - k=(F.length - (k + 1)) + 1:=by omega
 rw [e,List.replicate_succ,List.set_append]
 have hl:(F.take k).length=k:=by simp; omega
 rw [if_neg (by omega),hl,Nat.sub_self,List.set_cons_zero,take_one hk 0,List.append_assoc]
 rfl
theorem fin8_get (E:List Ev) (C:List (List Int)) (k:Nat) (hk:k < C.length):(fin8 E C).getD k 0=finV E (C.getD k []):=by
 simp [fin8,List.getD_eq_getElem?_getD,List.getElem?_eq_getElem hk]
end SndA
set_option maxRecDepth 100000 in
set_option maxHeartbeats 16000000 in
theorem mfinal_any (P:Nat→Prop) (g:G8) (E:List Ev) (C:List (List Int)) (cvs:List Value) (w:World) (h:GOk P w g E C cvs) :
  Calls Try.prog 11 #[g.v] w fun e w'=>(∃ v,e=.returned v∧LV w' v (fin8 E C))∧Below w.heap.size w w':=by
 obtain ⟨gn,ve,vr,vc,p4,p5,p6,p7⟩:=g
 have HG:=Lib.hid h
 have hC:(C.length:Int)≤4:=by have:=h.cl; omega
 have hE:(E.length:Int)≤100:=by have:=h.el; omega
 obtain ⟨⟨ra,rn,rc,e1⟩,⟨a4,n4,c4,e4⟩,⟨a5,n5,c5,e5⟩,⟨a6,n6,c6,e6⟩,⟨a7,n7,c7,e7⟩⟩:=h.sl
 obtain ⟨ea,ec,e2⟩:=own_len h.ev
 obtain ⟨ca,cc,e3⟩:=own_len h.co.own
 dsimp only at e1 e2 e3 e4 e5 e6 e7
 subst e1 e2 e3 e4 e5 e6 e7
 have mk1:=run_make_row' (P:=Try.prog) 22 3 (.int .i64 0) 8 Try.underlying22 infoInt rfl .i64 .i64 C.length (by omega) (by omega)
 simp only [made_rep] at mk1
 obtain ⟨w1,hw1⟩:∃ x,x=w.alloc (Obj.cells #[.int .i64 gn,.slice ea E.length ec,.slice ra rn rc,.slice ca C.length cc,.slice a4 n4 c4,.slice a5 n5 c5,.slice a6 n6 c6,.slice a7 n7 c7] 38 (0,0)):=⟨_,rfl⟩
 obtain ⟨pb,hpb⟩:∃ x,x=w.heap.size:=⟨_,rfl⟩
 have HPB:Hid (w1.heap[pb]?=some (Obj.cells #[.int .i64 gn,.slice ea E.length ec,.slice ra rn rc,.slice ca C.length cc,.slice a4 n4 c4,.slice a5 n5 c5,.slice a6 n6 c6,.slice a7 n7 c7] 38 (0,0))):=Lib.hid (by rw [hw1,hpb]; exact heap_alloc_new _ _)
 have HB1:Hid (Below w.heap.size w w1):=Lib.hid (by rw [hw1]; exact (Below.refl _ _).alloc (Nat.le_refl _) _)
 have HSZ:Hid (w.heap.size=pb):=Lib.hid hpb.symm
 have HW1:=Lib.hid hw1.symm
 clear hw1 hpb h
 unfold G8.v
 dsimp only
 go_enter Try.func11,Try.ntmps11
 go_upto_region 1 with (fail)
 rw [HSZ.out,HW1.out]
 have p3:w1.cell? ⟨pb,3,none⟩=some (.slice ca C.length cc):=cell_of_row _ _ _ _ _ _ HPB.out
 go_upto_region 2 with (fail)
 obtain ⟨lb,hlb⟩:∃ x,x=w1.heap.size:=⟨_,rfl⟩
 obtain ⟨w2,hw2⟩:∃ x,x=w1.alloc (Obj.cells (Array.replicate C.length (Value.int .i64 0)) 3 (0,0)):=⟨_,rfl⟩
 rw [← hw2,← hlb]
 have HFL:Hid ((fin8 E C).length=C.length):=Lib.hid (by simp [fin8])
 have HLB:Hid (w2.heap[lb]?=some (Obj.cells (nints (rowF (fin8 E C) 0)).toArray 3 (0,0))):=Lib.hid (by
  rw [hw2,hlb,heap_alloc_new]
  simp [rowF,nints,HFL.out])
 have HB2:Hid (Below w1.heap.size w1 w2):=Lib.hid (by rw [hw2]; exact (Below.refl _ _).alloc (Nat.le_refl _) _)
 have HLS:Hid (w1.heap.size=lb∧lb < w2.heap.size):=Lib.hid ⟨hlb.symm,blk_lt HLB.out⟩
 have HP2:=Lib.hid ((HB2.out.block pb (blk_lt HPB.out)).trans HPB.out)
 have HG2:=Lib.hid (HG.out.next (below_next HB1.out HB2.out))
 have q3:w2.cell? ⟨pb,3,none⟩=some (.slice ca C.length cc):=cell_of_row _ _ _ _ _ _ HP2.out
 clear hw2 hlb p3 mk1
 go_wp2_with fail
 go_loopw [14] (fun x14 wr=>∃ (k:Nat),k≤C.length∧x14=.int .i64 (k:Int)∧Hid (wr.heap[lb]?=some (Obj.cells (nints (rowF (fin8 E C) k)).toArray 3 (0,0)))∧Hid (Fr (fun b=>b=lb) w2 wr)) (fun x14 _=>C.length - (intOf x14).toNat)
 case atStart=>exact ⟨0,Nat.zero_le _,rfl,HLB,Lib.hid (Fr.refl _ _)⟩
 case round=>
  obtain ⟨k,hk,rfl,HR,HF⟩:=hrel
  have hki:(k:Int)≤4:=by omega
  clear q3
  by_cases hlt:k < C.length
  ·have d1:decide ((k:Int) < (C.length:Int))=true:=by rw [decide_eq_true_iff]; omega
   have i1:(k:Int) < (C.length:Int):=by omega
   obtain ⟨cg,cc',hce,hcg,hcl⟩:=HG2.out.co.cell hlt
   simp only [Value.slice.injEq] at hce
   obtain ⟨rfl,-,rfl⟩:=hce
   have hel:=HG2.out.co.el k hlt
   have hok:=(HG2.out.ok k hlt).1
   have hcl100:=(HG2.out.ok k hlt).2
   have HFG:=Lib.hid (fin8_get E C k hlt)
   have hnlb:∀ (v:Value) (l:List Int),LV w2 v l→v=cvs.getD k undef→∀ b,v.ownBlock=some b→b ≠ lb:=fun v l hv he b q r=>by
    have h1:=(HG.out.co.el k hlt).lt b (by rw [← he]; exact q)
    have h2:=HLS.out.1
    have h3:=HB1.out.size
    omega
   have c1:wr.cell? ⟨cg,k,none⟩=some (cvs.getD k undef):=HF.out.cell hcl (fun z=>own_typ HG2.out.co.own HLB.out (by decide) (by simp only at z; rw [← z]; rfl))
   have hel2:LV wr (cvs.getD k undef) (C.getD k []):=own_fr hel HF.out (fun b q r=>hnlb _ _ hel rfl b q r)
   clear hel hnlb hcl
   generalize cvs.getD k undef=cv at *
   generalize C.getD k []=c at *
   obtain ⟨xa,xc,rfl⟩:=own_len hel2
   have hlp:0 < c.length:=List.length_pos_iff.2 hok.1
   obtain ⟨hx0,hx1⟩:=last_in hok
   obtain ⟨gx,hxa,hgx1,hgx2,hgx3,hcx⟩:=own_cell hel2 (i:=c.length - 1) (by omega) rfl
   subst hxa
   have HL1:Hid ((((c.length - 1:Nat)):Int)=(c.length:Int) - 1):=Lib.hid (by omega)
   obtain ⟨lq,hlq⟩:∃ q:Nat,lastOf c=(q:Int):=⟨(lastOf c).toNat,by omega⟩
   have hlqE:lq < E.length:=by omega
   have hcx2:wr.cell? ⟨gx,c.length - 1,none⟩=some (.int .i64 (lq:Int)):=by rw [← hlq]; exact hcx
   obtain ⟨eg,ec',hee,heg,-,e0,e1,e2,e3,e4,e5⟩:=evs_at HG2.out.ev hlqE
   simp only [Value.slice.injEq] at hee
   obtain ⟨rfl,-,rfl⟩:=hee
   have e4w:wr.cell? ⟨eg,lq * 6 + 4,none⟩=some (.int .i64 (E.getD lq Ev.zero).vl):=HF.out.cell e4 (fun z=>own_typ HG2.out.ev HLB.out (by decide) (by simp only at z; rw [← z]; rfl))
   have HFV:Hid ((fin8 E C).getD k 0=(E.getD lq Ev.zero).vl):=Lib.hid (by rw [HFG.out]; unfold finV; rw [hlq]; rfl)
   have HPr:=Lib.hid ((HF.out.keep pb (blk_lt HP2.out) (by have:=HLS.out.1; have:=blk_lt HPB.out; omega)).trans HP2.out)
   have p1:wr.cell? ⟨pb,1,none⟩=some (.slice (some ⟨eg,0,none⟩) E.length ec):=cell_of_row _ _ _ _ _ _ HPr.out
   have hll:k < (nints (rowF (fin8 E C) k)).length:=by simp [nints]; rw [rowF_len _ _ (by rw [HFL.out]; omega),HFL.out]; exact hlt
   have k3:wr.cell? ⟨lb,k,none⟩=some ((nints (rowF (fin8 E C) k)).getD k undef):=by
    rw [cell_of_row _ _ _ _ _ _ HR.out]
    simp [List.getD_eq_getElem?_getD,List.getElem?_eq_getElem hll]
   have k4:wr.frozen? ⟨lb,k,none⟩=false:=frozen_of_row _ _ _ _ _ HR.out
   have z1:((c.length:Int) == 0)=false:=beq_false_of_ne (by omega)
   have z2:decide ((0:Int)≤(lq:Int))=true:=by rw [decide_eq_true_iff]; omega
   have z3:decide ((lq:Int) < (E.length:Int))=true:=by rw [decide_eq_true_iff]; omega
   have z4:(lq:Int) < (E.length:Int):=by omega
   have z5:(0:Int)≤(c.length:Int) - 1:=by omega
   have z6:(c.length:Int) - 1 < (c.length:Int):=by omega
   have z7:((c.length:Int) - 1).toNat=c.length - 1:=by omega
   have z8:(c.length:Int)≤100:=by omega
   have HNX:Hid ((wr.setCell ⟨lb,k,none⟩ (.int .i64 (E.getD lq Ev.zero).vl)).heap[lb]?=some (Obj.cells (nints (rowF (fin8 E C) (k + 1))).toArray 3 (0,0))∧Fr (fun b=>b=lb) w2 (wr.setCell ⟨lb,k,none⟩ (.int .i64 (E.getD lq Ev.zero).vl))):=Lib.hid (by
    refine ⟨?_,HF.out.trans (Fr.set wr lb k _ rfl)⟩
    have:=heap_setCell_same wr lb k _ _ (.int .i64 (E.getD lq Ev.zero).vl) HR.out
    rw [this,← rowF_set _ _ (by rw [HFL.out]; exact hlt),HFV.out]
    simp [nints,List.map_set])
   clear e0 e1 e2 e3 e4 e5 hx0 hx1 hlqE hcx hgx1 hgx2 hgx3 hok hlp hll hlq
   generalize (E.getD lq Ev.zero).vl=vv at *
   generalize (nints (rowF (fin8 E C) k)).getD k undef=ov at *
   go_wp2_with fail
   go_roundw
   case rel=>exact ⟨k + 1,hlt,by go_num,Lib.hid HNX.out.1,Lib.hid HNX.out.2⟩
   case measure=>simp [intOf]; omega
  ·have d1:decide ((k:Int) < (C.length:Int))=false:=by rw [decide_eq_false_iff_not]; omega
   have i1:¬ (k:Int) < (C.length:Int):=by omega
   have e:k=C.length:=by omega
   go_wp2_with fail
   go_ret
   refine ⟨⟨_,rfl,?_⟩,?_⟩
   ·have h1:=HR.out
    have h2:rowF (fin8 E C) k=fin8 E C:=by unfold rowF; rw [List.take_of_length_le (by rw [HFL.out]; omega),HFL.out,e,Nat.sub_self]; simp
    rw [h2] at h1
    rw [← HFL.out]
    exact ⟨by simp [nints],.inr ⟨lb,_,_,rfl,Nat.zero_le _,h1,Nat.le_refl _,by rw [HFL.out]; unfold maxLen; omega,by simp [nints],by simp [nints,List.take_of_length_le]⟩⟩
   ·have hb:=below_next HB1.out HB2.out
    exact hb.trans (HF.out.below (fun b hb2 z=>by have:=HLS.out.1; have:=HB1.out.size; omega) hb.size)
end Go.Proofs.Yteghpophcnehgaa
