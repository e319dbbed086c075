/-
  What the functions that the law reaches do, one by one: contracts. Conditions: those that each of them prints.
-/
import Derived.Test.YthcnhbclagegeaaGreatDoorMf
import Derived.Deep.RegionWith
import Derived.Deep.DrawnRows
import Derived.Laws.EntriesVeiled
import Derived.BigRegion
import Derived.StillTailTactics
set_option maxRecDepth 20000
set_option maxHeartbeats 3200000
namespace Go.Proofs.YthcnhbclagegeaaGreatDoor
open Go.RowKit RelA
section
attribute [local go_sem ↓] Go.wp_at_zero Go.wp_at_succ
theorem Ylc (ea:Option Addr) (E:List Ev) (ec:Nat) (i:Nat) (kb mb:Nat) (kind:Int) (ma:Option Addr) (modes:List Int) (mc:Nat) (w:World) (h:EsIn w ea E) (hi:i<E.length) (hE:E.length<=100) (hk:w.cell? ⟨kb,0,none⟩=some (.int .i64 kind)) (hm:w.cell? ⟨mb,0,none⟩=some (.slice ma modes.length mc)) (hn:NsIn w ma modes) (hl:modes.length<=10) :
  Calls Tryz.prog 153 #[.agg #[.slice ea E.length ec,.func (.func 150) #[] #[.pointer (some ⟨kb,0,none⟩),.pointer (some ⟨mb,0,none⟩)]],.int .i64 i] w fun en w'=>en=.returned (.bool (evB kind modes (Ev.at E i)))/\Below w.heap.size w w':=by
 have HC:=jh (fun (w':World) (hb:Below w.heap.size w w')=>Ygt kb mb kind ma modes mc (Ev.at E i) w' (Zaa hk hb) (Zaa hm hb) (hn.next hb) hl)
 have hlt:=hi
 have hdk:decide ((i:Int)<(E.length:Int))=true:=by simp;omega
 have hqi:(i:Int)<(E.length:Int):=by omega
 have hi100:(i:Int)<100:=by omega
 have hd0:decide ((0:Int)<=(i:Int))=true:=by simp
 have HB:Hid (∀ o,Below w.heap.size w ((w.alloc o).drew)):=jh (fun o=>((Below.refl _ _).alloc (Nat.le_refl _) o).drew)
 rcases h.next ((Below.refl w.heap.size w).alloc (Nat.le_refl _) (Obj.cells #[.slice ea E.length ec,.func (.func 150) #[] #[.pointer (some ⟨kb,0,none⟩),.pointer (some ⟨mb,0,none⟩)]] 102 (0,0))) with h0 | ⟨b,o,rfl,hbl,hcc⟩
 ·rw[h0] at hlt;simp at hlt
 ·obtain⟨d0,d1,d2,d3,d4,d5⟩:=hcc i hi
  clear hcc h hi
  change _=some (Value.int _ (Ev.at E i).th) at d0
  change _=some (Value.int _ (Ev.at E i).kd) at d1
  change _=some (Value.int _ (Ev.at E i).md) at d2
  change _=some (Value.int _ (Ev.at E i).lc) at d3
  change _=some (Value.int _ (Ev.at E i).vl) at d4
  change _=some (Value.bool (Ev.at E i).ex) at d5
  generalize Ev.at E i=ev at *
  obtain⟨x0,x1,x2,x3,x4,x5⟩:=ev
  dsimp only [Ev.v] at d0 d1 d2 d3 d4 d5 HC
  generalize evB kind modes ⟨x0,x1,x2,x3,x4,x5⟩=pb at *
  go_enter Tryz.func153,Tryz.ntmps153
  go_wp2_with fail
  go_region_with (first
   | (go_at_call 150;refine(HC.out _ (HB.out _)).mono ?_;rintro en w' ⟨rfl,hb2⟩;have HB2:=jh (Zab (HB.out _) hb2);clear hb2))
  all_goals go_wp2_with fail
  all_goals go_ret
  all_goals exact⟨rfl,HB2.out⟩
end
section
namespace RelA
def seL (p:Nat->Bool) (k:Nat):List (Nat×Nat):=((List.range k).filter p).map fun i=>(i,i)
theorem Yew (p:Nat->Bool) (k:Nat) (h:p k=true):seL p (k+1)=seL p k ++ [(k,k)]:=by
 unfold seL;rw[List.range_succ,List.filter_append,List.map_append];simp[h]
theorem Yko (p:Nat->Bool) (k:Nat) (h:p k=false):seL p (k+1)=seL p k:=by
 unfold seL;rw[List.range_succ,List.filter_append,List.map_append];simp[h]
theorem Yex (p:Nat->Bool) (k:Nat):(seL p k).length<=k:=by
 unfold seL;rw[List.length_map]
 have:=List.length_filter_le p (List.range k)
 simpa using this
def Zg7 (n:Nat) (p:Nat->Bool):Nat->Nat->Bool:=fun i j=>(decide (i=j)&&decide (i<n))&&p i
theorem Zb5 (n:Nat) (p:Nat->Bool):WFM n (Zg7 n p):=fun i j a=>by
 unfold Zg7 at a
 rw[Bool.and_eq_true,Bool.and_eq_true,decide_eq_true_eq,decide_eq_true_eq] at a
 omega
theorem Ya3 (n:Nat) (p:Nat->Bool):ofM n (Zdz (seL p n))=Zg7 n p:=by
 funext i j
 rw[Bool.eq_iff_iff,Zp3]
 unfold Zg7
 rw[Bool.and_eq_true,Bool.and_eq_true,decide_eq_true_eq,decide_eq_true_eq]
 constructor
 ·rintro⟨q,hq,_,_,e1,e2⟩
  unfold Zdz seL at hq
  obtain⟨r,hr,rfl⟩:=List.mem_map.1 hq
  obtain⟨k,hk,rfl⟩:=List.mem_map.1 hr
  have hk:=List.mem_filter.1 hk
  have e3:k=i:=Int.ofNat_inj.1 e1
  have e4:k=j:=Int.ofNat_inj.1 e2
  subst e3 e4
  exact⟨⟨rfl,List.mem_range.1 hk.1⟩,hk.2⟩
 ·rintro⟨⟨rfl,hi⟩,hp⟩
  refine⟨((i:Int),(i:Int)),List.mem_map.2 ⟨(i,i),List.mem_map.2 ⟨i,List.mem_filter.2 ⟨List.mem_range.2 hi,hp⟩,rfl⟩,rfl⟩,?_,?_,rfl,rfl⟩
  ·unfold inB;simp;omega
  ·unfold inB;simp;omega
theorem Zbs {b:Nat} {w1 w2 w3:World} (h:Below b w1 w2) (hs:b<=w2.heap.size) (g:Below w2.heap.size w2 w3):Below b w1 w3:=h.trans (g.mono hs)
theorem Zhp {w w':World} {base:Nat} {e:TypeId} {size:Nat} {v:Value} {n:Nat} {xs:List Value} (h:w.ownsRow base e size v n xs) (hb:Below w.heap.size w w'):w'.ownsRow base e size v n xs:=by
 obtain⟨hl,h0 | ⟨g,cap,cur,h1,h2,h3,h4⟩⟩:=h
 ·exact⟨hl,.inl h0⟩
 ·exact⟨hl,.inr ⟨g,cap,cur,h1,h2,(hb.block g (Array.getElem?_eq_some_iff.1 h3).1).trans h3,h4⟩⟩
end RelA
theorem Ykm (g:Gr) (kb mb:Nat) (kind:Int) (mo:Option Addr) (modes:List Int) (moc:Nat) (w:World) (h:EsIn w g.ea g.E) (he:g.E.length<=40) (hc:g.E.length<=g.ec)
  (hk:w.cell? ⟨kb,0,none⟩=some (.int .i64 kind)) (hm:w.cell? ⟨mb,0,none⟩=some (.slice mo modes.length moc)) (hn:NsIn w mo modes) (hl:modes.length<=10) :
  Calls Tryz.prog 78 #[g.v,.func (.func 150) #[] #[.pointer (some ⟨kb,0,none⟩),.pointer (some ⟨mb,0,none⟩)]] w (Zes g.n (Zg7 g.n fun i=>evB kind modes (Ev.at g.E i)) w):=by
 have HOF:=jh (fun base v L w hown=>of_own g base v L w he hown)
 have HH:=jh (fun i (hi:i<g.E.length) w' (hb:Below w.heap.size w w')=>Ylc g.ea g.E g.ec i kb mb kind mo modes moc w' (h.next hb) hi (by omega) (Zaa hk hb) (Zaa hm hb) (hn.next hb) hl)
 clear hk hm hn hl
 have HG0:=jh (GBox.of_alloc w g 27)
 obtain⟨G,hG⟩:∃ G,G=g:=⟨_,rfl⟩
 obtain⟨locs,ea,E,ec,ra,R,rc,ca,C,cc,ma,Rmw,mc,da,Data,dc,ta,Ctrl,tc,ia,CtrlI,ic⟩:=g
 simp only[Gr.v,Gr.n,Zaw] at he hc HOF h HH HG0 ⊢
 rw[<- hG] at HG0
 have HI:=jh h
 clear h
 obtain⟨i0,hi,hz0,hz1,hz2⟩:=info_parts Ziz
 have hmin:min (E.length:Int) 40=(E.length:Int):=by omega
 have HP:=jh (rfl:(fun i=>evB kind modes (Ev.at E i))=fun i=>evB kind modes (Ev.at E i))
 go_enter Tryz.func78,Tryz.ntmps78
 go_wp2_with fail
 obtain⟨w0,hw0⟩:∃ x,x=w.alloc (Obj.cells #[.int .i64 locs,.slice ea E.length ec,.slice ra R.length rc,.slice ca C.length cc,.slice ma Rmw.length mc,.slice da Data.length dc,.slice ta Ctrl.length tc,.slice ia CtrlI.length ic] 27 (0,0)):=⟨_,rfl⟩
 rw[<- hw0] at HG0 ⊢
 have hs0:w0.heap.size=w.heap.size+1:=by rw[hw0];simp
 obtain⟨w1,hw1⟩:∃ x,x=w0.alloc (Obj.cells #[.slice ea E.length ec,.func (.func 150) #[] #[.pointer (some ⟨kb,0,none⟩),.pointer (some ⟨mb,0,none⟩)]] 102 (0,0)):=⟨_,rfl⟩
 rw[<- hw1]
 have hs1:w1.heap.size=w.heap.size+2:=by rw[hw1];simp;omega
 have hb01:Below w0.heap.size w0 w1:=by rw[hw1];exact jb
 have HB1:Hid (Below w.heap.size w w1):=jh (Zab (by rw[hw0];exact jb) hb01)
 have HGx:=jh (HG0.out.next hb01)
 have f0:w1.cell? ⟨w.heap.size+1,0,none⟩=some (.slice ea E.length ec):=by rw[hw1,<- hs0,cell_of_row _ _ _ _ _ _ (heap_alloc_new _ _)];rfl
 have f1:w1.cell? ⟨w.heap.size+1,1,none⟩=some (.func (.func 150) #[] #[.pointer (some ⟨kb,0,none⟩),.pointer (some ⟨mb,0,none⟩)]):=by rw[hw1,<- hs0,cell_of_row _ _ _ _ _ _ (heap_alloc_new _ _)];rfl
 have F0:=jh f0
 have F1:=jh f1
 clear hw1 hw0 hb01 HG0 f0 f1 hs0
 have HI1:=jh (HI.out.next HB1.out)
 clear HI
 generalize hpp:(fun i=>evB kind modes (Ev.at E i))=p at *
 go_loopw [6,20] (fun v x wr=>∃ k:Nat,k<=E.length/\x=.int .i64 k/\wr.ownsRow w1.heap.size 56 2 v (seL p k).length (Zat (seL p k))/\Below w1.heap.size w1 wr) (fun _ x _=>E.length-(intOf x).toNat)
 case atStart=>exact⟨0,Nat.zero_le _,rfl,⟨rfl,.inl ⟨rfl,rfl⟩⟩,Below.refl _ _⟩
 case round=>
  obtain⟨k,hk,rfl,hown,hbe⟩:=hrel
  have hsz:=hbe.size
  have hsl:=Yex p k
  have HOWN:=jh hown
  clear hown
  by_cases hlt:k<E.length
  ·have hdk:decide ((k:Int)<(E.length:Int))=true:=by simp;omega
   have hki:(k:Int)<(E.length:Int):=by omega
   have hk40:(k:Int)<40:=by omega
   have f0:=Zaa F0.out hbe
   have f1:=Zaa F1.out hbe
   have hpk:evB kind modes (Ev.at E k)=p k:=by rw[<- hpp]
   have HC:=jh (HH.out k hlt wr (Zab HB1.out hbe))
   rw[hpk] at HC
   clear hpk
   go_wp2_with fail
   refine HC.out.mono ?_
   rintro e w3 ⟨rfl,hb3⟩
   have hbe3:=Zbs hbe hsz hb3
   have hsz3:=hbe3.size
   have HO3:=jh (Zhp HOWN.out hb3)
   clear f0 f1 HC
   cases hpv:p k
   ·have HX:=jh hpv
    clear hpv
    go_wp2_with fail
    go_roundw
    case rel=>exact⟨k+1,by omega,by go_num,by rw[Yko p k HX.out];exact HO3.out,hbe3⟩
    case measure=>simp[intOf];omega
   ·have HX:=jh hpv
    clear hpv
    have hb3s:=hbe3
    go_wp2_with (first
     | (at_builtin;refine wpList_append_own _ rfl (.tmp 26) (.tmp 30) 25 rfl w1.heap.size 56 i0 (.agg #[.int .i64 0,.int .i64 0]) 2 16 Tryz.underlying25 hi hz0 hz1 hz2 rfl (by decide) _ _ _ rfl (HO3.out.alloc _) ⟨w3.heap.size,0,none⟩ 1 1 [.int .i64 k,.int .i64 k] rfl rfl (World.news_of_block (cs:=#[.int .i64 k,.int .i64 k]) (t:=56) (fr:=(0,0)) (heap_alloc_new w3 _)) (by simp[Value.oneCell']) (by unfold maxLen;omega) (by omega) (by simp;omega) ?_;intro v1 w2 hown1 hgrow1 hnil1;have HO1:=jh hown1;have HG1:=jh hgrow1;clear hown1 hgrow1 hnil1))
    go_roundw
    case rel=>
     refine⟨k+1,by omega,by go_num,?_,?_⟩
     ·rw[Yew p k HX.out,Zbj,List.length_append]
      exact HO1.out
     ·exact(hbe3.alloc hsz3 _).grown HG1.out (by simp;omega) (fun j hj=>(HO3.out.lt j hj).1)
    case measure=>simp[intOf];omega
  ·have hkN:k=E.length:=by omega
   subst hkN
   have hdk:decide ((E.length:Int)<(E.length:Int))=false:=by simp
   obtain⟨c0,c1,c2,c3,c4,c5,c6,c7⟩:=HGx.out.next hbe
   rw[hG] at c0 c1 c2 c3 c4 c5 c6 c7
   dsimp only at c0 c1 c2 c3 c4 c5 c6 c7
   have HBw:=jh (Zab HB1.out hbe)
   have HC:=jh (HOF.out _ _ _ _ (Zjf HOWN.out))
   have HEQ:=jh (Ya3 E.length p)
   rw[HEQ.out] at HC
   go_wp2_with fail
   refine HC.out.mono ?_
   rintro e w3 ⟨d,rfl,hat,hnw,hb3⟩
   have HNW:=jh (Nat.le_trans HBw.out.size hnw)
   clear hnw
   have HA:=jh hat
   have HBf:=jh (Zab HBw.out hb3)
   clear hat hb3
   go_wp2_with fail
   go_ret
   exact⟨_,rfl,(by rw[hpp];exact HA.out),HNW.out,HBf.out⟩
end
section
theorem Yk5 (b o1 o2:Nat) (x y:Int) (w:World) (h1:w.cell? ⟨b,o1,none⟩=some (.int .i64 x)) (h2:w.cell? ⟨b,o2,none⟩=some (.int .i64 y)) :
  Calls Tryz.prog 148 #[.pointer (some ⟨b,o1,none⟩),.pointer (some ⟨b,o2,none⟩)] w fun e w'=>e=.returned (.bool (x==y))/\Below w.heap.size w w':=by
 have HB:Hid (Below w.heap.size w w.drew):=jh (Below.refl _ _).drew
 go_enter Tryz.func148,Tryz.ntmps148
 go_wp2_with fail
 go_region
 go_wp2_with fail
 go_ret
 exact⟨rfl,HB.out⟩
namespace RelA
def Ycb (x y:Ev):Bool:=((x.kd !=3)&&(y.kd !=3))&&(x.lc==y.lc)
end RelA
theorem Yxk (b o1 o2:Nat) (x1 x3 y1 y3:Int) (w:World) (h1:w.cell? ⟨b,o1+1,none⟩=some (.int .i64 x1)) (h2:w.cell? ⟨b,o1+3,none⟩=some (.int .i64 x3)) (h3:w.cell? ⟨b,o2+1,none⟩=some (.int .i64 y1)) (h4:w.cell? ⟨b,o2+3,none⟩=some (.int .i64 y3)) :
  Calls Tryz.prog 156 #[.pointer (some ⟨b,o1,none⟩),.pointer (some ⟨b,o2,none⟩)] w fun e w'=>e=.returned (.bool (((x1 !=3)&&(y1 !=3))&&(x3==y3)))/\Below w.heap.size w w':=by
 have HB:Hid (Below w.heap.size w w.drew):=jh (Below.refl _ _).drew
 cases c1:(x1 !=3)
 ·go_enter Tryz.func156,Tryz.ntmps156
  go_wp2_with fail
  go_region
  go_wp2_with fail
  go_ret
  exact⟨rfl,HB.out⟩
 ·cases c2:(y1 !=3)
  ·go_enter Tryz.func156,Tryz.ntmps156
   go_wp2_with fail
   go_region
   go_wp2_with fail
   go_ret
   exact⟨rfl,HB.out⟩
  ·go_enter Tryz.func156,Tryz.ntmps156
   go_wp2_with fail
   go_region
   go_wp2_with fail
   go_ret
   exact⟨rfl,HB.out⟩
end
section
namespace RelA
theorem Zls {n:Nat} {M:Nat->Nat->Bool} (h:WFM n M) (f:Nat->Nat->Bool):ofM n (Zdz ((Zay n M).filter fun q=>f q.1 q.2))=fun i j=>M i j&&f i j:=by
 funext i j
 rw[Bool.eq_iff_iff,Zp3,Bool.and_eq_true]
 constructor
 ·rintro⟨p,hp,_,_,e1,e2⟩
  unfold Zdz at hp
  obtain⟨q,hq,rfl⟩:=List.mem_map.1 hp
  have hq:=List.mem_filter.1 hq
  have:=(Zeg n M n q).1 hq.1
  have e3:q.1=i:=Int.ofNat_inj.1 e1
  have e4:q.2=j:=Int.ofNat_inj.1 e2
  rw[<- e3,<- e4];exact⟨this.2.2,hq.2⟩
 ·rintro⟨a,b⟩
  have hw:=h i j a
  refine⟨((i:Int),(j:Int)),List.mem_map.2 ⟨(i,j),List.mem_filter.2 ⟨(Zeg n M n (i,j)).2 ⟨hw.1,hw.2,a⟩,b⟩,rfl⟩,?_,?_,rfl,rfl⟩
  ·unfold inB;simp;omega
  ·unfold inB;simp;omega
end RelA
theorem Zte (g:Gr) (rb:Nat) (M:Nat->Nat->Bool) (w:World) (h:EsIn w g.ea g.E) (he:g.E.length<=40) (hr:Rl w rb g.n M) (ht:Tab w) :
  Calls Tryz.prog 147 #[g.v,.pointer (some ⟨rb,0,none⟩),.func (.func 148) #[] #[]] w (Zes g.n (fun i j=>M i j&&(fun x y:Ev=>x.th==y.th) (Ev.at g.E i) (Ev.at g.E j)) w):=by
 have HG0:=jh (GBox.of_alloc w g 27)
 obtain⟨G,hG⟩:∃ G,G=g:=⟨_,rfl⟩
 obtain⟨locs,ea,E,ec,ra,R,rc,ca,C,cc,ma,Rmw,mc,da,Data,dc,ta,Ctrl,tc,ia,CtrlI,ic⟩:=g
 simp only[Gr.v,Gr.n,Zaw] at he hr h HG0 ⊢
 rw[<- hG] at HG0
 have HI:=jh h
 have HR:=jh hr
 have HT:=jh ht
 have HW:=jh hr.wf
 obtain⟨⟨R0,hat,hR0,hlk⟩,hwf⟩:=hr
 have HPQ:=jh (Zho he hlk hwf)
 have HPR:=jh (fun w1 (hb:Below w.heap.size w w1)=>Zhy rb E.length R0 w1 (hat.next hb) hR0 (ht.next hb))
 have HLEN:=jh (fun w1 (hb:Below w.heap.size w w1)=>Zmg rb E.length w1 (hat.next hb).c0)
 rw[HPQ.out] at HPR
 clear h hat hR0 hlk hwf HPQ ht
 obtain⟨i0,hi,hz0,hz1,hz2⟩:=info_parts Ziz
 have hmax:max (E.length:Int) (E.length:Int)=(E.length:Int):=by omega
 have hpl:(Zay E.length M).length<=1600:=by
  have:=Zhm E.length M he E.length
  unfold Zay
  have h2:E.length*E.length<=40*40:=Nat.mul_le_mul he he
  omega
 go_enter Tryz.func147,Tryz.ntmps147
 go_wp2_with fail
 obtain⟨w1,hw1⟩:∃ x,x=w.alloc (Obj.cells #[.int .i64 locs,.slice ea E.length ec,.slice ra R.length rc,.slice ca C.length cc,.slice ma Rmw.length mc,.slice da Data.length dc,.slice ta Ctrl.length tc,.slice ia CtrlI.length ic] 27 (0,0)):=⟨_,rfl⟩
 rw[<- hw1] at HG0 ⊢
 have hs1:w1.heap.size=w.heap.size+1:=by rw[hw1];simp
 have HB1:Hid (Below w.heap.size w w1):=jh (by rw[hw1];exact jb)
 clear hw1
 have HI1:=jh (HI.out.next HB1.out)
 have HTx:=jh (HT.out.next HB1.out)
 clear HI HT
 refine(HPR.out w1 HB1.out).mono ?_
 rintro e w2 ⟨v,rfl,hown,hb2⟩
 obtain⟨pa,pc,rfl,hrd⟩:=PairsRd.of_own hown
 have hs2:=hb2.size
 have HB2:=jh (Zab HB1.out hb2)
 have HI2:=jh (HI1.out.next hb2)
 have HG2:=jh (HG0.out.next hb2)
 have HRD:=jh hrd
 clear hown hb2 hrd HI1 HG0
 generalize hLq:Zay E.length M=L at *
 have HMem:Hid (∀ k,k<L.length->(L.getD k (0,0)).1<E.length/\(L.getD k (0,0)).2<E.length):=jh (fun k hk=>by
  have hm:L.getD k (0,0)∈Zay E.length M:=by rw[hLq,List.getD_eq_getElem?_getD,List.getElem?_eq_getElem hk];exact List.getElem_mem hk
  have:=(Zeg E.length M E.length _).1 hm
  exact⟨this.1,this.2.1⟩)
 generalize hpp:(fun q:Nat×Nat=>(fun x y:Ev=>x.th==y.th) (Ev.at E q.1) (Ev.at E q.2))=p at *
 go_wp2_with fail
 go_loopw [8,17] (fun v x wr=>∃ k:Nat,k<=L.length/\x=.int .i64 k/\wr.ownsRow w2.heap.size 56 2 v ((L.take k).filter p).length (Zat ((L.take k).filter p))/\Below w2.heap.size w2 wr) (fun _ x _=>L.length-(intOf x).toNat)
 case atStart=>exact⟨0,Nat.zero_le _,rfl,⟨rfl,.inl ⟨rfl,rfl⟩⟩,Below.refl _ _⟩
 case round=>
  obtain⟨k,hk,rfl,hown,hbe⟩:=hrel
  have hsz:=hbe.size
  have hsl:((L.take k).filter p).length<=k:=by
   have:=List.length_filter_le p (L.take k)
   rw[List.length_take] at this
   omega
  have HOWN:=jh hown
  clear hown
  by_cases hlt:k<L.length
  ·have hdk:decide ((k:Int)<(L.length:Int))=true:=by simp;omega
   have hki:(k:Int)<(L.length:Int):=by omega
   have hk40:(k:Int)<1600:=by omega
   rcases (HRD.out.next hbe) with h0 | ⟨pb,rfl,hpb,hpc⟩
   ·rw[h0] at hlt;simp at hlt
   ·have e1:=(hpc k hlt).1
    have e2:=(hpc k hlt).2
    have hmem:=HMem.out k hlt
    have HS:Hid (L.take (k+1)=L.take k ++ [L.getD k (0,0)]):=jh (by
     rw[List.take_add_one,List.getElem?_eq_getElem hlt,List.getD_eq_getElem?_getD,List.getElem?_eq_getElem hlt];rfl)
    have hpk:p (L.getD k (0,0))=(fun x y:Ev=>x.th==y.th) (Ev.at E (L.getD k (0,0)).1) (Ev.at E (L.getD k (0,0)).2):=by rw[<- hpp]
    have hcst:(Zdz L).getD k (0,0)=(((L.getD k (0,0)).1:Int),((L.getD k (0,0)).2:Int)):=by
     unfold Zdz
     rw[List.getD_eq_getElem?_getD,List.getElem?_map,List.getElem?_eq_getElem hlt,List.getD_eq_getElem?_getD,List.getElem?_eq_getElem hlt];rfl
    rw[hcst] at e1 e2
    clear hpc hcst
    generalize L.getD k (0,0)=pr at *
    obtain⟨ia,ib⟩:=pr
    dsimp only at e1 e2 hmem hpk
    obtain⟨hia,hib⟩:=hmem
    have hda:decide ((ia:Int)<(E.length:Int))=true:=by simp;omega
    have hdb:decide ((ib:Int)<(E.length:Int))=true:=by simp;omega
    have hia2:(ia:Int)<(E.length:Int):=by omega
    have hib2:(ib:Int)<(E.length:Int):=by omega
    have hia3:(ia:Int)<40:=by omega
    have hib3:(ib:Int)<40:=by omega
    obtain⟨c0,c1,c2,c3,c4,c5,c6,c7⟩:=HG2.out.next hbe
    rw[hG] at c0 c1 c2 c3 c4 c5 c6 c7
    dsimp only at c0 c1 c2 c3 c4 c5 c6 c7
    clear c0 c2 c3 c4 c5 c6 c7
    obtain⟨w3,hw3⟩:∃ x,x=wr.alloc (Obj.cells #[.int .i64 ia,.int .i64 ib] 56 (0,0)):=⟨_,rfl⟩
    have hs3:w3.heap.size=wr.heap.size+1:=by rw[hw3];simp
    have hbw:Below wr.heap.size wr w3:=by rw[hw3];exact jb
    have e3:w3.cell? ⟨wr.heap.size,0,none⟩=some (.int .i64 ia):=by rw[hw3,cell_of_row _ _ _ _ _ _ (heap_alloc_new _ _)];rfl
    have e4:w3.cell? ⟨wr.heap.size,1,none⟩=some (.int .i64 ib):=by rw[hw3,cell_of_row _ _ _ _ _ _ (heap_alloc_new _ _)];rfl
    have c1':=Zaa c1 hbw
    have HBE:=jh hbe
    have HBW:=jh hbw
    have HO3:=jh (Zhp HOWN.out hbw)
    rcases (HI2.out.next hbe).next hbw with h0 | ⟨b,o,rfl,hbl,hcc⟩
    ·rw[h0] at hia;simp at hia
    ·have HC:Hid (∀ w',Below w3.heap.size w3 w'->Calls Tryz.prog 148 #[.pointer (some ⟨b,o+ia*6,none⟩),.pointer (some ⟨b,o+ib*6,none⟩)] w' fun e w''=>e=.returned (.bool (p (ia,ib)))/\Below w'.heap.size w' w''):=jh (fun w' hb'=>by
      rw[hpk]
      have k1:=(hcc ia hia).next hb'
      have k2:=(hcc ib hib).next hb'
      exact Yk5 b _ _ _ _ w' k1.c0 k2.c0)
     clear hcc hpk c1
     generalize hpv:p (ia,ib)=pv at *
     clear hbe hbw
     go_wp2_with fail
     rw[<- hw3]
     clear hw3
     refine wp_region_still_tail 22 (by kernel_rfl) (by kernel_rfl) ?_
     simp only[List.take_succ_cons,List.take_zero,List.drop_succ_cons,List.drop_zero]
     show wpStill _ _ w3.drew (fun a'=>wpList _ _ _ _ a' w3.drew) _ _
     repeat still_step
     refine wpStill_nil ?_
     go_wp2_with fail
     refine(HC.out _ (Below.refl _ _).drew).mono ?_
     rintro e w4 ⟨rfl,hb4⟩
     have hb34:Below w3.heap.size w3 w4:=Zbs (Below.refl _ _).drew (Nat.le_refl _) hb4
     have hbe4:=Zbs (Zbs HBE.out hsz HBW.out) (by rw[hs3];omega) hb34
     have hsz4:=hbe4.size
     have HO4:=jh (Zhp HO3.out hb34)
     have f0:=Zaa e3 hb34
     have f1:=Zaa e4 hb34
     clear e3 e4 hb4 hb34 HC
     cases pv
     ·have HX:=jh hpv
      clear hpv
      go_wp2_with fail
      go_roundw
      case rel=>exact⟨k+1,by omega,by go_num,by rw[HS.out,List.filter_append];simp only[List.filter_cons,HX.out,List.filter_nil,Bool.false_eq_true,if_false,List.append_nil];exact HO4.out,hbe4⟩
      case measure=>simp[intOf];omega
     ·have HX:=jh hpv
      clear hpv
      go_wp2_with (first
     | (at_builtin;refine wpList_append_own _ rfl (.tmp 45) (.tmp 47) 25 rfl w2.heap.size 56 i0 (.agg #[.int .i64 0,.int .i64 0]) 2 16 Tryz.underlying25 hi hz0 hz1 hz2 rfl (by decide) _ _ _ rfl (HO4.out.alloc _) ⟨w4.heap.size,0,none⟩ 1 1 [.int .i64 ia,.int .i64 ib] rfl rfl (World.news_of_block (cs:=#[.int .i64 ia,.int .i64 ib]) (t:=56) (fr:=(0,0)) (heap_alloc_new w4 _)) (by simp[Value.oneCell']) (by unfold maxLen;omega) (by omega) (by simp;omega) ?_;intro v1 w2 hown1 hgrow1 hnil1;have HO1:=jh hown1;have HG1:=jh hgrow1;clear hown1 hgrow1 hnil1))
      go_roundw
      case rel=>
       refine⟨k+1,by omega,by go_num,?_,?_⟩
       ·rw[HS.out,List.filter_append]
        simp only[List.filter_cons,HX.out,List.filter_nil,if_true]
        rw[Zbj,List.length_append]
        exact HO1.out
       ·exact(hbe4.alloc hsz4 _).grown HG1.out (by simp;omega) (fun j hj=>(HO4.out.lt j hj).1)
      case measure=>simp[intOf];omega
  ·have hkN:k=L.length:=by omega
   subst hkN
   have hdk:decide ((L.length:Int)<(L.length:Int))=false:=by simp
   rw[List.take_length] at HOWN
   have HBw:=jh (Zab HB2.out hbe)
   have HLN:=HLEN.out wr HBw.out
   have HLN':=jh HLN
   clear HLN
   go_wp2_with fail
   refine HLN'.out.mono ?_
   rintro e w5 ⟨rfl,rfl⟩
   go_wp2_with fail
   refine(Zm4 E.length _ _ _ _ he (Zjf HOWN.out)).mono ?_
   rintro e w3 ⟨d,rfl,hat,hnw,hb3⟩
   have HNW:=jh (Nat.le_trans HBw.out.size hnw)
   clear hnw
   have HA:=jh hat
   have HBf:=jh (Zab HBw.out hb3)
   have HEQ:Hid (ofM E.length (Zdz (L.filter p))=fun i j=>M i j&&(fun x y:Ev=>x.th==y.th) (Ev.at E i) (Ev.at E j)):=jh (by
    rw[<- hLq,<- hpp];exact Zls HW.out fun i j=>(fun x y:Ev=>x.th==y.th) (Ev.at E i) (Ev.at E j))
   clear hat hb3
   go_wp2_with fail
   go_ret
   exact⟨_,rfl,(by rw[<- HEQ.out];exact HA.out),HNW.out,HBf.out⟩
end
section
theorem Yax (g:Gr) (rb:Nat) (M:Nat->Nat->Bool) (w:World) (h:EsIn w g.ea g.E) (he:g.E.length<=40) (hr:Rl w rb g.n M) (ht:Tab w) :
  Calls Tryz.prog 147 #[g.v,.pointer (some ⟨rb,0,none⟩),.func (.func 156) #[] #[]] w (Zes g.n (fun i j=>M i j&&Ycb (Ev.at g.E i) (Ev.at g.E j)) w):=by
 have HG0:=jh (GBox.of_alloc w g 27)
 obtain⟨G,hG⟩:∃ G,G=g:=⟨_,rfl⟩
 obtain⟨locs,ea,E,ec,ra,R,rc,ca,C,cc,ma,Rmw,mc,da,Data,dc,ta,Ctrl,tc,ia,CtrlI,ic⟩:=g
 simp only[Gr.v,Gr.n,Zaw] at he hr h HG0 ⊢
 rw[<- hG] at HG0
 have HI:=jh h
 have HR:=jh hr
 have HT:=jh ht
 have HW:=jh hr.wf
 obtain⟨⟨R0,hat,hR0,hlk⟩,hwf⟩:=hr
 have HPQ:=jh (Zho he hlk hwf)
 have HPR:=jh (fun w1 (hb:Below w.heap.size w w1)=>Zhy rb E.length R0 w1 (hat.next hb) hR0 (ht.next hb))
 have HLEN:=jh (fun w1 (hb:Below w.heap.size w w1)=>Zmg rb E.length w1 (hat.next hb).c0)
 rw[HPQ.out] at HPR
 clear h hat hR0 hlk hwf HPQ ht
 obtain⟨i0,hi,hz0,hz1,hz2⟩:=info_parts Ziz
 have hmax:max (E.length:Int) (E.length:Int)=(E.length:Int):=by omega
 have hpl:(Zay E.length M).length<=1600:=by
  have:=Zhm E.length M he E.length
  unfold Zay
  have h2:E.length*E.length<=40*40:=Nat.mul_le_mul he he
  omega
 go_enter Tryz.func147,Tryz.ntmps147
 go_wp2_with fail
 obtain⟨w1,hw1⟩:∃ x,x=w.alloc (Obj.cells #[.int .i64 locs,.slice ea E.length ec,.slice ra R.length rc,.slice ca C.length cc,.slice ma Rmw.length mc,.slice da Data.length dc,.slice ta Ctrl.length tc,.slice ia CtrlI.length ic] 27 (0,0)):=⟨_,rfl⟩
 rw[<- hw1] at HG0 ⊢
 have hs1:w1.heap.size=w.heap.size+1:=by rw[hw1];simp
 have HB1:Hid (Below w.heap.size w w1):=jh (by rw[hw1];exact jb)
 clear hw1
 have HI1:=jh (HI.out.next HB1.out)
 have HTx:=jh (HT.out.next HB1.out)
 clear HI HT
 refine(HPR.out w1 HB1.out).mono ?_
 rintro e w2 ⟨v,rfl,hown,hb2⟩
 obtain⟨pa,pc,rfl,hrd⟩:=PairsRd.of_own hown
 have hs2:=hb2.size
 have HB2:=jh (Zab HB1.out hb2)
 have HI2:=jh (HI1.out.next hb2)
 have HG2:=jh (HG0.out.next hb2)
 have HRD:=jh hrd
 clear hown hb2 hrd HI1 HG0
 generalize hLq:Zay E.length M=L at *
 have HMem:Hid (∀ k,k<L.length->(L.getD k (0,0)).1<E.length/\(L.getD k (0,0)).2<E.length):=jh (fun k hk=>by
  have hm:L.getD k (0,0)∈Zay E.length M:=by rw[hLq,List.getD_eq_getElem?_getD,List.getElem?_eq_getElem hk];exact List.getElem_mem hk
  have:=(Zeg E.length M E.length _).1 hm
  exact⟨this.1,this.2.1⟩)
 generalize hpp:(fun q:Nat×Nat=>Ycb (Ev.at E q.1) (Ev.at E q.2))=p at *
 go_wp2_with fail
 go_loopw [8,17] (fun v x wr=>∃ k:Nat,k<=L.length/\x=.int .i64 k/\wr.ownsRow w2.heap.size 56 2 v ((L.take k).filter p).length (Zat ((L.take k).filter p))/\Below w2.heap.size w2 wr) (fun _ x _=>L.length-(intOf x).toNat)
 case atStart=>exact⟨0,Nat.zero_le _,rfl,⟨rfl,.inl ⟨rfl,rfl⟩⟩,Below.refl _ _⟩
 case round=>
  obtain⟨k,hk,rfl,hown,hbe⟩:=hrel
  have hsz:=hbe.size
  have hsl:((L.take k).filter p).length<=k:=by
   have:=List.length_filter_le p (L.take k)
   rw[List.length_take] at this
   omega
  have HOWN:=jh hown
  clear hown
  by_cases hlt:k<L.length
  ·have hdk:decide ((k:Int)<(L.length:Int))=true:=by simp;omega
   have hki:(k:Int)<(L.length:Int):=by omega
   have hk40:(k:Int)<1600:=by omega
   rcases (HRD.out.next hbe) with h0 | ⟨pb,rfl,hpb,hpc⟩
   ·rw[h0] at hlt;simp at hlt
   ·have e1:=(hpc k hlt).1
    have e2:=(hpc k hlt).2
    have hmem:=HMem.out k hlt
    have HS:Hid (L.take (k+1)=L.take k ++ [L.getD k (0,0)]):=jh (by
     rw[List.take_add_one,List.getElem?_eq_getElem hlt,List.getD_eq_getElem?_getD,List.getElem?_eq_getElem hlt];rfl)
    have hpk:p (L.getD k (0,0))=Ycb (Ev.at E (L.getD k (0,0)).1) (Ev.at E (L.getD k (0,0)).2):=by rw[<- hpp]
    have hcst:(Zdz L).getD k (0,0)=(((L.getD k (0,0)).1:Int),((L.getD k (0,0)).2:Int)):=by
     unfold Zdz
     rw[List.getD_eq_getElem?_getD,List.getElem?_map,List.getElem?_eq_getElem hlt,List.getD_eq_getElem?_getD,List.getElem?_eq_getElem hlt];rfl
    rw[hcst] at e1 e2
    clear hpc hcst
    generalize L.getD k (0,0)=pr at *
    obtain⟨ia,ib⟩:=pr
    dsimp only at e1 e2 hmem hpk
    obtain⟨hia,hib⟩:=hmem
    have hda:decide ((ia:Int)<(E.length:Int))=true:=by simp;omega
    have hdb:decide ((ib:Int)<(E.length:Int))=true:=by simp;omega
    have hia2:(ia:Int)<(E.length:Int):=by omega
    have hib2:(ib:Int)<(E.length:Int):=by omega
    have hia3:(ia:Int)<40:=by omega
    have hib3:(ib:Int)<40:=by omega
    obtain⟨c0,c1,c2,c3,c4,c5,c6,c7⟩:=HG2.out.next hbe
    rw[hG] at c0 c1 c2 c3 c4 c5 c6 c7
    dsimp only at c0 c1 c2 c3 c4 c5 c6 c7
    clear c0 c2 c3 c4 c5 c6 c7
    obtain⟨w3,hw3⟩:∃ x,x=wr.alloc (Obj.cells #[.int .i64 ia,.int .i64 ib] 56 (0,0)):=⟨_,rfl⟩
    have hs3:w3.heap.size=wr.heap.size+1:=by rw[hw3];simp
    have hbw:Below wr.heap.size wr w3:=by rw[hw3];exact jb
    have e3:w3.cell? ⟨wr.heap.size,0,none⟩=some (.int .i64 ia):=by rw[hw3,cell_of_row _ _ _ _ _ _ (heap_alloc_new _ _)];rfl
    have e4:w3.cell? ⟨wr.heap.size,1,none⟩=some (.int .i64 ib):=by rw[hw3,cell_of_row _ _ _ _ _ _ (heap_alloc_new _ _)];rfl
    have c1':=Zaa c1 hbw
    have HBE:=jh hbe
    have HBW:=jh hbw
    have HO3:=jh (Zhp HOWN.out hbw)
    rcases (HI2.out.next hbe).next hbw with h0 | ⟨b,o,rfl,hbl,hcc⟩
    ·rw[h0] at hia;simp at hia
    ·have HC:Hid (∀ w',Below w3.heap.size w3 w'->Calls Tryz.prog 156 #[.pointer (some ⟨b,o+ia*6,none⟩),.pointer (some ⟨b,o+ib*6,none⟩)] w' fun e w''=>e=.returned (.bool (p (ia,ib)))/\Below w'.heap.size w' w''):=jh (fun w' hb'=>by
      rw[hpk]
      have k1:=(hcc ia hia).next hb'
      have k2:=(hcc ib hib).next hb'
      exact Yxk b _ _ _ _ _ _ w' k1.c1 k1.c3 k2.c1 k2.c3)
     clear hcc hpk c1
     generalize hpv:p (ia,ib)=pv at *
     clear hbe hbw
     go_wp2_with fail
     rw[<- hw3]
     clear hw3
     refine wp_region_still_tail 22 (by kernel_rfl) (by kernel_rfl) ?_
     simp only[List.take_succ_cons,List.take_zero,List.drop_succ_cons,List.drop_zero]
     show wpStill _ _ w3.drew (fun a'=>wpList _ _ _ _ a' w3.drew) _ _
     repeat still_step
     refine wpStill_nil ?_
     go_wp2_with fail
     refine(HC.out _ (Below.refl _ _).drew).mono ?_
     rintro e w4 ⟨rfl,hb4⟩
     have hb34:Below w3.heap.size w3 w4:=Zbs (Below.refl _ _).drew (Nat.le_refl _) hb4
     have hbe4:=Zbs (Zbs HBE.out hsz HBW.out) (by rw[hs3];omega) hb34
     have hsz4:=hbe4.size
     have HO4:=jh (Zhp HO3.out hb34)
     have f0:=Zaa e3 hb34
     have f1:=Zaa e4 hb34
     clear e3 e4 hb4 hb34 HC
     cases pv
     ·have HX:=jh hpv
      clear hpv
      go_wp2_with fail
      go_roundw
      case rel=>exact⟨k+1,by omega,by go_num,by rw[HS.out,List.filter_append];simp only[List.filter_cons,HX.out,List.filter_nil,Bool.false_eq_true,if_false,List.append_nil];exact HO4.out,hbe4⟩
      case measure=>simp[intOf];omega
     ·have HX:=jh hpv
      clear hpv
      go_wp2_with (first
     | (at_builtin;refine wpList_append_own _ rfl (.tmp 45) (.tmp 47) 25 rfl w2.heap.size 56 i0 (.agg #[.int .i64 0,.int .i64 0]) 2 16 Tryz.underlying25 hi hz0 hz1 hz2 rfl (by decide) _ _ _ rfl (HO4.out.alloc _) ⟨w4.heap.size,0,none⟩ 1 1 [.int .i64 ia,.int .i64 ib] rfl rfl (World.news_of_block (cs:=#[.int .i64 ia,.int .i64 ib]) (t:=56) (fr:=(0,0)) (heap_alloc_new w4 _)) (by simp[Value.oneCell']) (by unfold maxLen;omega) (by omega) (by simp;omega) ?_;intro v1 w2 hown1 hgrow1 hnil1;have HO1:=jh hown1;have HG1:=jh hgrow1;clear hown1 hgrow1 hnil1))
      go_roundw
      case rel=>
       refine⟨k+1,by omega,by go_num,?_,?_⟩
       ·rw[HS.out,List.filter_append]
        simp only[List.filter_cons,HX.out,List.filter_nil,if_true]
        rw[Zbj,List.length_append]
        exact HO1.out
       ·exact(hbe4.alloc hsz4 _).grown HG1.out (by simp;omega) (fun j hj=>(HO4.out.lt j hj).1)
      case measure=>simp[intOf];omega
  ·have hkN:k=L.length:=by omega
   subst hkN
   have hdk:decide ((L.length:Int)<(L.length:Int))=false:=by simp
   rw[List.take_length] at HOWN
   have HBw:=jh (Zab HB2.out hbe)
   have HLN:=HLEN.out wr HBw.out
   have HLN':=jh HLN
   clear HLN
   go_wp2_with fail
   refine HLN'.out.mono ?_
   rintro e w5 ⟨rfl,rfl⟩
   go_wp2_with fail
   refine(Zm4 E.length _ _ _ _ he (Zjf HOWN.out)).mono ?_
   rintro e w3 ⟨d,rfl,hat,hnw,hb3⟩
   have HNW:=jh (Nat.le_trans HBw.out.size hnw)
   clear hnw
   have HA:=jh hat
   have HBf:=jh (Zab HBw.out hb3)
   have HEQ:Hid (ofM E.length (Zdz (L.filter p))=fun i j=>M i j&&Ycb (Ev.at E i) (Ev.at E j)):=jh (by
    rw[<- hLq,<- hpp];exact Zls HW.out fun i j=>Ycb (Ev.at E i) (Ev.at E j))
   clear hat hb3
   go_wp2_with fail
   go_ret
   exact⟨_,rfl,(by rw[<- HEQ.out];exact HA.out),HNW.out,HBf.out⟩
end
section
namespace RelA
def Zbm (E:List Ev) (M:Nat->Nat->Bool):Nat->Nat->Bool:=fun i j=>M i j&&((Ev.at E i).th==(Ev.at E j).th)
def Zcn (E:List Ev) (M:Nat->Nat->Bool):Nat->Nat->Bool:=fun i j=>M i j&&!((Ev.at E i).th==(Ev.at E j).th)
def Zg1 (E:List Ev):Nat->Nat->Bool:=fun i j=>poM E i j&&Ycb (Ev.at E i) (Ev.at E j)
end RelA
theorem Ygl (g:Gr) (rb:Nat) (M:Nat->Nat->Bool) (w:World) (h:GIn w g) (hr:Rl w rb g.n M) (ht:Tab w) :
  Calls Tryz.prog 62 #[g.v,.pointer (some ⟨rb,0,none⟩)] w (Zes g.n (Zbm g.E M) w):=by
 have HP:=jh (fun w' (hb:Below w.heap.size w w')=>Zte g rb M w' (h.es.next hb) h.e40 (hr.next hb) (ht.next hb))
 have HG0:=jh (GBox.of_alloc w g 27)
 obtain⟨G,hG⟩:∃ G,G=g:=⟨_,rfl⟩
 obtain⟨locs,ea,E,ec,ra,R,rc,ca,C,cc,ma,Rmw,mc,da,Data,dc,ta,Ctrl,tc,ia,CtrlI,ic⟩:=g
 simp only[Gr.v,Gr.n,Zaw] at HP HG0 ⊢
 rw[<- hG] at HG0
 clear h hr ht HG0 hG
 go_enter Tryz.func62,Tryz.ntmps62
 go_wp2_with fail
 refine(HP.out _ jb).mono ?_
 rintro e w' ⟨d,rfl,hat,hnw,hbe⟩
 have HNW:Hid (w.heap.size<=d):=jh (by have:=hnw;simp at this;omega)
 clear hnw
 have HA:=jh hat
 have HB:=jh (Zab jb hbe)
 clear hat hbe
 go_wp2_with fail
 go_ret
 exact⟨_,rfl,HA.out,HNW.out,HB.out⟩
attribute [local go_sem ↓] Go.wp_at_zero Go.wp_at_succ
theorem Yrf (g:Gr) (w:World) (h:GIn w g) (ht:Tab w) :
  Calls Tryz.prog 91 #[g.v] w (Zes g.n (Zg1 g.E) w):=by
 have HQ:=jh (fun w' (hb:Below w.heap.size w w')=>Yur g w' (h.es.next hb) h.e40 h.ecap)
 have HP:=jh (fun rb M w' (hb:Below w.heap.size w w') hr=>Yax g rb M w' (h.es.next hb) h.e40 hr (ht.next hb))
 have HG0:=jh (GBox.of_alloc w g 27)
 obtain⟨G,hG⟩:∃ G,G=g:=⟨_,rfl⟩
 obtain⟨locs,ea,E,ec,ra,R,rc,ca,C,cc,ma,Rmw,mc,da,Data,dc,ta,Ctrl,tc,ia,CtrlI,ic⟩:=g
 simp only[Gr.v,Gr.n,Zaw] at HP HQ HG0 ⊢
 rw[<- hG] at HG0
 clear h ht
 go_enter Tryz.func91,Tryz.ntmps91
 go_wp2_with fail
 obtain⟨w1,hw1⟩:∃ x,x=w.alloc (Obj.cells #[.int .i64 locs,.slice ea E.length ec,.slice ra R.length rc,.slice ca C.length cc,.slice ma Rmw.length mc,.slice da Data.length dc,.slice ta Ctrl.length tc,.slice ia CtrlI.length ic] 27 (0,0)):=⟨_,rfl⟩
 rw[<- hw1] at HG0 ⊢
 have hs1:w1.heap.size=w.heap.size+1:=by rw[hw1];simp
 have HB1:Hid (Below w.heap.size w w1):=jh (by rw[hw1];exact jb)
 clear hw1
 have HB0:=jh HB1.out.drew
 obtain⟨c0,c1,c2,c3,c4,c5,c6,c7⟩:=HG0.out
 rw[hG] at c0 c1 c2 c3 c4 c5 c6 c7
 dsimp only at c0 c1 c2 c3 c4 c5 c6 c7
 go_region_with (first
  | (go_at_call 81;refine(HQ.out _ HB0.out).mono ?_;rintro e w2 ⟨d,rfl,hat,_,hbe⟩;have HB2:=jh (Zab HB0.out hbe);have HA2:=jh hat;obtain⟨c0,c1,c2,c3,c4,c5,c6,c7⟩:=(HG0.out.next (show Below w1.heap.size w1 w1.drew from (Below.refl _ _).drew)).next hbe;rw[hG] at c0 c1 c2 c3 c4 c5 c6 c7;dsimp only at c0 c1 c2 c3 c4 c5 c6 c7;clear hat hbe)
  | (go_at_call 147;refine(HP.out _ _ _ HB2.out HA2.out).mono ?_;rintro e w3 ⟨d3,rfl,hat,hnw,hbe⟩;have HNW:=jh (Nat.le_trans HB2.out.size hnw);clear hnw;have HB3:=jh (Zab HB2.out hbe);have HA3:=jh hat;clear hat hbe))
 all_goals go_wp2_with fail
 all_goals go_ret
 all_goals exact⟨_,rfl,HA3.out,HNW.out,HB3.out⟩
end
end Go.Proofs.YthcnhbclagegeaaGreatDoor
