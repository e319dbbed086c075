/-
  What the functions that the law reaches do, one by one: contracts. Conditions: those that each of them prints.
-/
import Derived.Test.YteghpophcnehgaaMg
import Derived.Deep.RegionLaw
namespace Go.Proofs.Yteghpophcnehgaa
open Go.RowKit ExprA SndA
theorem step_append_own {P:Program} {w:World} {ops:Array Oper} {o:Oper} {a:Act} {K:Act→World→Prop} {Q:Exit→Act→World→Prop} {E:Prop} (hgd:o.guard=none) (s x:Operand) (t:TypeId)
  (ho:o.op=.call { callee:=.builtin .append,args:=#[s,x],argTypes:=#[t,t] })
  (base:Nat) (e:TypeId) (i:TypeInfo) (z:Value) (size bytes:Nat) (ht:P.underlying t=some (.slice e)) (hi:P.info? e=some i) (hz:i.zero=some z)
  (hsize:i.size=size) (hby:i.bytes=bytes) (hzs:z.cells.size=size) (hsz:0 < size)
  (v:Value) (n:Nat) (xs:List Value) (hs:a.eval s=v) (hown:w.ownsRow base e size v n xs)
  (ad:Addr) (m c:Nat) (news:List Value) (hx:a.eval x=.slice (some ad) m c) (hl:news.length=m * size) (hnews:∀ j u,news[j]?=some u→w.cell? (ad.add j)=some u) (h1:∀ u ∈ news,u.oneCell'=true)
  (h63:n + m≤maxLen) (hbytes:(n + m) * bytes≤140737488355328) (hbase:base≤w.heap.size)
  (h:∀ v' w',w'.ownsRow base e size v' (n + m) (xs ++ news)→w.grownBy w' v.ownBlock→K (a.put o.dst v') w') :
  if Region.wanted o (yielded ops a.tmps)=true then Oper.wp P o a w K Q else E:=by
 have hw:Region.wanted o (yielded ops a.tmps)=true:=by simp [Region.wanted,hgd]
 rw [if_pos hw]
 exact wp_append_own w s x t ho base e i z size bytes ht hi hz hsize hby hzs hsz v n xs hs hown ad m c news hx hl hnews h1 h63 hbytes hbase fun v' w' h2 h3 _=>h v' w' h2 h3
namespace SndA
def nints (l:List Int):List Value:=l.map fun x=>.int .i64 x
theorem nints_snoc (l:List Int) (x:Int):nints (l ++ [x])=nints l ++ [.int .i64 x]:=by simp [nints]
theorem nints_take (l:List Int) (k:Nat):nints (l.take k)=(nints l).take k:=by simp [nints,List.map_take]
theorem infoN:(Try.prog.info? 3).map (fun i=>(i.zero,i.size,i.bytes))=some (some (.int .i64 0),1,8):=by kernel_rfl
theorem own_take {w:World} {base e n m c:Nat} {pa:Option Addr} {xs:List Value} (h:w.ownsRow base e 1 (.slice pa n c) n xs) (hm:m≤n):w.ownsRow base e 1 (.slice pa m c) m (xs.take m):=by
 have hl:=h.1
 refine ⟨by rw [List.length_take]; omega,?_⟩
 rcases h.2 with ⟨hv,h0⟩ | ⟨g,cap,cur,hv,h1,h2,h3,h4,h5,h6⟩
 ·cases hv
  obtain rfl:m=0:=by omega
  exact .inl ⟨rfl,rfl⟩
 ·simp only [Value.slice.injEq] at hv
  obtain ⟨rfl,_,rfl⟩:=hv
  refine .inr ⟨g,c,cur,rfl,h1,h2,by omega,h4,h5,?_⟩
  rw [← h6,List.take_take]
  congr 1
  omega
theorem own_cell {w:World} {base e n i:Nat} {pa:Option Addr} {c:Nat} {l:List Int} (h:w.ownsRow base e 1 (.slice pa n c) n (nints l)) (hi:i < n) (hl:l.length=n):∃ g,pa=some ⟨g,0,none⟩∧base≤g∧n≤c∧c≤maxLen∧w.cell? ⟨g,i,none⟩=some (.int .i64 (l.getD i 0)):=by
 rcases h.2 with ⟨hv,h0⟩ | ⟨g,cap,cur,hv,h1,h2,h3,h4,h5,h6⟩
 ·omega
 ·simp only [Value.slice.injEq] at hv
  obtain ⟨rfl,_,rfl⟩:=hv
  refine ⟨g,rfl,h1,h3,h4,?_⟩
  rw [cell_of_row _ _ _ _ _ _ h2]
  have:(nints l)[i]?=some (.int .i64 (l.getD i 0)):=by simp [nints,List.getD_eq_getElem?_getD,show i < l.length by omega]
  rw [← this,← h6,List.getElem?_take,if_pos (by omega)]
  simp
def stepV (R st:List Int) (p:Int × Int):List Int:=
 if p.1=1 then st ++ [p.2] else if p.1=3 then st.take (st.length - 2) ++ [opV p.2 (st.getD (st.length - 2) 0) (st.getD (st.length - 1) 0)] else if p.2 < R.length then st ++ [R.getD p.2.toNat 0] else st ++ [0]
def stkTo (L:List (Int × Int)) (R:List Int):Nat→List Int
 | 0=>[]
 | q + 1=>stepV R (stkTo L R q) (L.getD q (0,0))
def evalS (L:List (Int × Int)) (R:List Int):Int:=if checkB L then (stkTo L R L.length).getD 0 0 else 0
theorem chk_pre {L:List (Int × Int)} (h:checkB L=true) {q:Nat} (hq:q < L.length) {D:Nat} (hD:chkTo L q=some D):∃ D2,okTok (L.getD q (0,0)) D=some D2∧chkTo L (q + 1)=some D2:=by
 cases hk:okTok (L.getD q (0,0)) D with
 | none=>rw [checkB_bad hq hD hk] at h; cases h
 | some D2=>exact ⟨D2,rfl,chk_step hD hk⟩
theorem chk_end {L:List (Int × Int)} (h:checkB L=true) {D:Nat} (hD:chkTo L L.length=some D):D=1:=by
 unfold checkB at h
 rw [hD] at h
 simp at h
 exact h.2
theorem tok_three {k v:Int} {D D2:Nat} (h:okTok (k,v) D=some D2):(k=1∧D2=D + 1) ∨ (k=2∧0≤v∧v < 8∧D2=D + 1) ∨ (k=3∧2≤D∧D2=D - 1):=by
 unfold okTok at h
 dsimp only at h
 split at h
 ·rename_i g; injection h with h; exact .inl ⟨g.1,h.symm⟩
 ·split at h
  ·rename_i g; injection h with h; exact .inr (.inl ⟨g.1,g.2.1,g.2.2,h.symm⟩)
  ·split at h
   ·rename_i g; injection h with h; exact .inr (.inr ⟨g.1,g.2.2.2,h.symm⟩)
   ·cases h
end SndA
set_option maxRecDepth 100000 in
set_option maxHeartbeats 32000000 in
theorem reval_any (a:Option Addr) (L:List (Int × Int)) (c:Nat) (b:Option Addr) (R:List Int) (d:Nat) (w:World) (h:TIn w a L) (hr:NIn w b R) (hL:L.length≤100) (hR:R.length≤1000) :
  Calls Try.prog 52 #[.slice a L.length c,.slice b R.length d] w fun e w'=>e=.returned (.int .i64 (evalS L R))∧Below w.heap.size w w':=by
 have HI:=Lib.hid h
 have HR:=Lib.hid hr
 have HC:=Lib.hid (rcheck_any a L c w h hL)
 have hLi:(L.length:Int)≤100:=by omega
 have hRi:(R.length:Int)≤1000:=by omega
 clear h hr
 cases hck:checkB L with
 | false=>
  have HV:Hid (evalS L R=0):=Lib.hid (by unfold evalS; rw [hck]; rfl)
  rw [hck] at HC
  clear hck
  go_enter Try.func52,Try.ntmps52
  go_wp2_with fail
  refine HC.out.mono ?_
  rintro e w1 ⟨rfl,hb1⟩
  go_wp2_with fail
  go_ret
  rw [HV.out]
  exact ⟨rfl,hb1⟩
 | true=>
  have HV:Hid (evalS L R=(stkTo L R L.length).getD 0 0):=Lib.hid (by unfold evalS; rw [hck]; rfl)
  have HCK:=Lib.hid hck
  rw [hck] at HC
  clear hck
  obtain ⟨i0,hi,hz0,hz1,hz2⟩:=info_parts infoN
  go_enter Try.func52,Try.ntmps52
  go_wp2_with fail
  refine HC.out.mono ?_
  rintro e w1 ⟨rfl,hb1⟩
  have HB1:=Lib.hid hb1
  clear hb1
  go_wp2_with fail
  go_loopw [5,6] (fun l x wr=>∃ (q:Nat) (st:List Int),q≤L.length∧st.length≤q∧x=.int .i64 (q:Int)∧wr.ownsRow w.heap.size 3 1 l st.length (nints st)∧Hid (st=stkTo L R q)∧Hid (chkTo L q=some st.length)∧Below w.heap.size w wr) (fun _ x _=>L.length - (intOf x).toNat)
  case atStart=>exact ⟨0,[],Nat.zero_le _,Nat.le_refl _,rfl,⟨rfl,.inl ⟨rfl,rfl⟩⟩,Lib.hid rfl,Lib.hid rfl,HB1.out⟩
  case round=>
   obtain ⟨q,st,hq,hst,rfl,hown,HST,HCH,hbe⟩:=hrel
   obtain ⟨pa0,pc0,rfl⟩:=own_len hown
   have HO:=Lib.hid hown
   have HB:=Lib.hid hbe
   have hsz:=hbe.size
   clear hown hbe HB1
   have hqi:(q:Int)≤100:=by omega
   have hsi:(st.length:Int)≤100:=by omega
   by_cases hlt:q < L.length
   ·have d1:decide ((q:Int) < (L.length:Int))=true:=by rw [decide_eq_true_iff]; omega
    have i1:(q:Int) < (L.length:Int):=by omega
    obtain ⟨D2,hD1,hD2⟩:=chk_pre HCK.out hlt HCH.out
    have HSN:Hid (stkTo L R (q + 1)=stepV R st (L.getD q (0,0))):=Lib.hid (by show stepV R (stkTo L R q) _=_; rw [← HST.out])
    have HD2:=Lib.hid hD2
    rcases HI.out.next HB.out with h0 | ⟨tb,o,rfl,hbl,hcc⟩
    ·rw [h0] at hlt; simp at hlt
    ·obtain ⟨c0,c1⟩:=hcc q hlt
     clear hcc hD2 HST HCH
     generalize L.getD q (0,0)=pp at *
     obtain ⟨pk,pv⟩:=pp
     dsimp only at c0 c1
     have H3:=Lib.hid (tok_three hD1)
     clear hD1
     rcases H3.out with ⟨rfl,hD⟩ | ⟨rfl,hv0,hv8,hD⟩ | ⟨rfl,h2,hD⟩
     ·have HN:Hid (stkTo L R (q + 1)=st ++ [pv]):=Lib.hid (by rw [HSN.out]; rfl)
      have HDD:Hid (chkTo L (q + 1)=some (st ++ [pv]).length):=Lib.hid (by rw [HD2.out,hD]; simp)
      clear hD HSN HD2 H3
      go_wp2_with (first | (at_builtin; refine wpList_append_own _ rfl (.tmp 29) (.tmp 35) 22 rfl w.heap.size 3 i0 (.int .i64 0) 1 8 Try.underlying22 hi hz0 hz1 hz2 rfl (by decide) _ _ _ rfl (HO.out.alloc _) ⟨wr.heap.size,0,none⟩ 1 1 [.int .i64 pv] rfl rfl (World.news_of_block (cs:=#[.int .i64 pv]) (t:=3) (fr:=(0,0)) (heap_alloc_new wr _)) (by simp [Value.oneCell']) (by unfold maxLen; omega) (by omega) (by simp; omega) ?_; intro v1 w4 hown1 hgrow1 hnil1; have HO4:=Lib.hid hown1; have HB4:=Lib.hid ((HB.out.alloc hsz _).grown hgrow1 (by simp; omega) (fun j hj=>(HO.out.lt j hj).1)); clear hown1 hgrow1 hnil1))
      go_roundw
      case rel=>exact ⟨q + 1,st ++ [pv],hlt,by simp; omega,by go_num,by rw [nints_snoc,List.length_append]; exact HO4.out,Lib.hid HN.out.symm,HDD,HB4.out⟩
      case measure=>simp [intOf]; omega
     ·obtain ⟨pn,rfl⟩:∃ k:Nat,pv=(k:Int):=⟨pv.toNat,by omega⟩
      have hp8:(pn:Int)≤7:=by omega
      by_cases hpr:pn < R.length
      ·have e1:decide ((pn:Int) < (R.length:Int))=true:=by rw [decide_eq_true_iff]; omega
       have e1i:(pn:Int) < (R.length:Int):=by omega
       rcases HR.out.next HB.out with h0 | ⟨rb,ro,rfl,hrl,hrc⟩
       ·rw [h0] at hpr; simp at hpr
       ·have cr:=hrc pn hpr
        clear hrc
        have HN:Hid (stkTo L R (q + 1)=st ++ [R.getD pn 0]):=Lib.hid (by rw [HSN.out]; unfold stepV; rw [if_neg (show ¬ (2:Int)=1 by decide),if_neg (show ¬ (2:Int)=3 by decide),if_pos (by dsimp only; omega)]; rfl)
        have HDD:Hid (chkTo L (q + 1)=some (st ++ [R.getD pn 0]).length):=Lib.hid (by rw [HD2.out,hD]; simp)
        clear hD HSN HD2 H3 hv0 hv8
        generalize R.getD pn 0=rv at *
        go_wp2_with (first | (at_builtin; refine wpList_append_own _ rfl (.tmp 75) (.tmp 84) 22 rfl w.heap.size 3 i0 (.int .i64 0) 1 8 Try.underlying22 hi hz0 hz1 hz2 rfl (by decide) _ _ _ rfl (HO.out.alloc _) ⟨wr.heap.size,0,none⟩ 1 1 [.int .i64 rv] rfl rfl (World.news_of_block (cs:=#[.int .i64 rv]) (t:=3) (fr:=(0,0)) (heap_alloc_new wr _)) (by simp [Value.oneCell']) (by unfold maxLen; omega) (by omega) (by simp; omega) ?_; intro v1 w4 hown1 hgrow1 hnil1; have HO4:=Lib.hid hown1; have HB4:=Lib.hid ((HB.out.alloc hsz _).grown hgrow1 (by simp; omega) (fun j hj=>(HO.out.lt j hj).1)); clear hown1 hgrow1 hnil1))
        go_roundw
        case rel=>exact ⟨q + 1,st ++ [rv],hlt,by simp; omega,by go_num,by rw [nints_snoc,List.length_append]; exact HO4.out,Lib.hid HN.out.symm,HDD,HB4.out⟩
        case measure=>simp [intOf]; omega
      ·have e1:decide ((pn:Int) < (R.length:Int))=false:=by rw [decide_eq_false_iff_not]; omega
       have e1i:¬ (pn:Int) < (R.length:Int):=by omega
       have HN:Hid (stkTo L R (q + 1)=st ++ [0]):=Lib.hid (by rw [HSN.out]; unfold stepV; rw [if_neg (show ¬ (2:Int)=1 by decide),if_neg (show ¬ (2:Int)=3 by decide),if_neg (by dsimp only; omega)])
       have HDD:Hid (chkTo L (q + 1)=some (st ++ [0]).length):=Lib.hid (by rw [HD2.out,hD]; simp)
       clear hD HSN HD2 H3 hv0 hv8
       go_wp2_with (first | (at_builtin; refine wpList_append_own _ rfl (.tmp 19) (.tmp 20) 22 rfl w.heap.size 3 i0 (.int .i64 0) 1 8 Try.underlying22 hi hz0 hz1 hz2 rfl (by decide) _ _ _ rfl (HO.out.alloc _) ⟨wr.heap.size,0,none⟩ 1 1 [.int .i64 0] rfl rfl (World.news_of_block (cs:=#[.int .i64 0]) (t:=3) (fr:=(0,0)) (heap_alloc_new wr _)) (by simp [Value.oneCell']) (by unfold maxLen; omega) (by omega) (by simp; omega) ?_; intro v1 w4 hown1 hgrow1 hnil1; have HO4:=Lib.hid hown1; have HB4:=Lib.hid ((HB.out.alloc hsz _).grown hgrow1 (by simp; omega) (fun j hj=>(HO.out.lt j hj).1)); clear hown1 hgrow1 hnil1))
       go_roundw
       case rel=>exact ⟨q + 1,st ++ [0],hlt,by simp; omega,by go_num,by rw [nints_snoc,List.length_append]; exact HO4.out,Lib.hid HN.out.symm,HDD,HB4.out⟩
       case measure=>simp [intOf]; omega
     ·obtain ⟨n2,hn2⟩:∃ x,x=st.length - 2:=⟨_,rfl⟩
      obtain ⟨n1,hn1⟩:∃ x,x=st.length - 1:=⟨_,rfl⟩
      have z2:IntKind.i64.wrap ((st.length:Int) - 2)=(n2:Int):=by rw [IntWalk.i64_in _ (by omega)]; omega
      have z1:IntKind.i64.wrap ((st.length:Int) - 1)=(n1:Int):=by rw [IntWalk.i64_in _ (by omega)]; omega
      obtain ⟨g,rfl,hg,hgc,hgm,ca⟩:=own_cell HO.out (i:=n2) (by omega) rfl
      obtain ⟨g',hg',_,_,_,cb⟩:=own_cell HO.out (i:=n1) (by omega) rfl
      obtain rfl:g=g':=by injection hg' with hg'; injection hg'
      have HN:Hid (stkTo L R (q + 1)=st.take n2 ++ [opV pv (st.getD n2 0) (st.getD n1 0)]):=Lib.hid (by rw [HSN.out,hn2,hn1]; rfl)
      have HTL:Hid ((st.take n2).length=n2):=Lib.hid (by rw [List.length_take]; omega)
      have HDD:Hid (chkTo L (q + 1)=some (n2 + 1)):=Lib.hid (by rw [HD2.out,hD]; congr 1; omega)
      have HTK:Hid (wr.ownsRow w.heap.size 3 1 (.slice (some ⟨g,0,none⟩) n2 pc0) n2 (nints (st.take n2))):=Lib.hid (by rw [nints_take]; exact own_take HO.out (by omega))
      have j2:(n2:Int) < (st.length:Int):=by omega
      have j1:(n1:Int) < (st.length:Int):=by omega
      unfold maxLen at hgm
      have j3:(st.length:Int)≤(pc0:Int):=by omega
      have j4:(n2:Int)≤(pc0:Int):=by omega
      have j5:n2≤pc0:=by omega
      have j6:n2≤100:=by omega
      have hql:n2 + 1≤q + 1:=by omega
      clear hD HSN HD2 H3 hn2 hn1 h2 hg'
      generalize st.getD n2 0=av at *
      generalize st.getD n1 0=bv at *
      go_wp2_with fail
      go_region_law (first | (refine step_append_own (by rfl) _ _ _ (by rfl) w.heap.size 3 i0 _ 1 8 Try.underlying22 hi hz0 hz1 hz2 rfl (by omega) _ n2 (nints (st.take n2)) (by rfl) (by first | exact (HTK.out.alloc _).drew | exact HTK.out.drew.alloc _ | exact HTK.out.alloc _) ⟨wr.heap.size,0,none⟩ 1 1 [.int .i64 (opV pv av bv)] (by rfl) (by rfl) (World.news_of_block (cs:=#[.int .i64 (opV pv av bv)]) (t:=3) (fr:=(0,0)) (heap_alloc_new wr _)) (by simp [Value.oneCell']) (by unfold maxLen; omega) (by omega) (by simp; omega) ?_; intro v1 w4 hown1 hgrow1; have HO4:=Lib.hid hown1; have HB4:Hid (Below w.heap.size w w4):=Lib.hid (by first | exact (HB.out.drew.alloc (by simp; omega) _).grown hgrow1 (by simp; omega) (fun j hj=>(HTK.out.lt j hj).1) | exact ((HB.out.alloc hsz _).drew).grown hgrow1 (by simp; omega) (fun j hj=>(HTK.out.lt j hj).1)); clear hown1 hgrow1) | (go_simp; go_at_call 76; refine (rdo_any _ _ _ _).mono ?_; rintro e w3 ⟨rfl,rfl⟩))
      all_goals
       go_wp2_with fail
       go_roundw
       case rel=>exact ⟨q + 1,st.take n2 ++ [opV pv av bv],hlt,by rw [List.length_append,HTL.out]; exact hql,by go_num,by rw [nints_snoc,List.length_append,HTL.out]; exact HO4.out,Lib.hid HN.out.symm,Lib.hid (by rw [HDD.out,List.length_append,HTL.out]; rfl),HB4.out⟩
       case measure=>simp [intOf]; omega
   ·have d1:decide ((q:Int) < (L.length:Int))=false:=by rw [decide_eq_false_iff_not]; omega
    have i1:¬ (q:Int) < (L.length:Int):=by omega
    have HQ:Hid (q=L.length):=Lib.hid (by omega)
    have h1:st.length=1:=chk_end HCK.out (by rw [← HQ.out]; exact HCH.out)
    obtain ⟨g,rfl,hg,hgc,hgm,hcell⟩:=own_cell HO.out (i:=0) (by omega) rfl
    have HE:Hid ((stkTo L R L.length).getD 0 0=st.getD 0 0):=Lib.hid (by rw [← HQ.out,← HST.out])
    generalize st.getD 0 0=r0 at *
    rw [h1] at *
    go_wp2_with fail
    go_ret
    rw [HV.out,HE.out]
    exact ⟨rfl,HB.out⟩
end Go.Proofs.Yteghpophcnehgaa
