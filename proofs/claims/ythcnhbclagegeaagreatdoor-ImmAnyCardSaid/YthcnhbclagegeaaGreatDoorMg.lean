/-
  What the functions that the law reaches do, one by one: contracts. Conditions: those that each of them prints.
-/
import Derived.Test.YthcnhbclagegeaaGreatDoorMf
import Derived.Deep.RegionWith
import Derived.Deep.DrawnRows
import Derived.Laws.EntriesVeiled
import Derived.BigRegion
import Derived.StillTailTactics
import Derived.Deep.RegionHeld3
namespace Go.Proofs.YthcnhbclagegeaaGreatDoor
open Go.RowKit RelA
attribute [local go_sem ↓] Go.wp_at_zero Go.wp_at_succ
set_option maxRecDepth 20000 in
set_option maxHeartbeats 3200000 in
theorem has_ev (ea:Option Addr) (E:List Ev) (ec:Nat) (i:Nat) (kb mb:Nat) (kind:Int) (ma:Option Addr) (modes:List Int) (mc:Nat) (w:World) (h:EsIn w ea E) (hi:i < E.length) (hE:E.length≤100) (hk:w.cell? ⟨kb,0,none⟩=some (.int .i64 kind)) (hm:w.cell? ⟨mb,0,none⟩=some (.slice ma modes.length mc)) (hn:NsIn w ma modes) (hl:modes.length≤10) :
  Calls Tryz.prog 153 #[.agg #[.slice ea E.length ec,.func (.func 150) #[] #[.pointer (some ⟨kb,0,none⟩),.pointer (some ⟨mb,0,none⟩)]],.int .i64 i] w fun en w'=>en=.returned (.bool (evB kind modes (Ev.at E i)))∧Below w.heap.size w w':=by
 have HC:=Lib.hid (fun (w':World) (hb:Below w.heap.size w w')=>events1 kb mb kind ma modes mc (Ev.at E i) w' (cell_next hk hb) (cell_next hm hb) (hn.next hb) hl)
 have hlt:=hi
 have hdk:decide ((i:Int) < (E.length:Int))=true:=by simp; omega
 have hqi:(i:Int) < (E.length:Int):=by omega
 have hi100:(i:Int) < 100:=by omega
 have hd0:decide ((0:Int)≤(i:Int))=true:=by simp
 have HB:Hid (∀ o,Below w.heap.size w ((w.alloc o).drew)):=Lib.hid (fun o=>((Below.refl _ _).alloc (Nat.le_refl _) o).drew)
 rcases h.next ((Below.refl w.heap.size w).alloc (Nat.le_refl _) (Obj.cells #[.slice ea E.length ec,.func (.func 150) #[] #[.pointer (some ⟨kb,0,none⟩),.pointer (some ⟨mb,0,none⟩)]] 102 (0,0))) with h0 | ⟨b,o,rfl,hbl,hcc⟩
 ·rw [h0] at hlt; simp at hlt
 ·obtain ⟨d0,d1,d2,d3,d4,d5⟩:=hcc i hi
  clear hcc h hi
  change _=some (Value.int _ (Ev.at E i).th) at d0
  change _=some (Value.int _ (Ev.at E i).kd) at d1
  change _=some (Value.int _ (Ev.at E i).md) at d2
  change _=some (Value.int _ (Ev.at E i).lc) at d3
  change _=some (Value.int _ (Ev.at E i).vl) at d4
  change _=some (Value.bool (Ev.at E i).ex) at d5
  generalize Ev.at E i=ev at *
  obtain ⟨x0,x1,x2,x3,x4,x5⟩:=ev
  dsimp only [Ev.v] at d0 d1 d2 d3 d4 d5 HC
  generalize evB kind modes ⟨x0,x1,x2,x3,x4,x5⟩=pb at *
  go_enter Tryz.func153,Tryz.ntmps153
  go_wp2_with fail
  go_region_with (first
   | (go_at_call 150; refine (HC.out _ (HB.out _)).mono ?_; rintro en w' ⟨rfl,hb2⟩; have HB2:=Lib.hid (below_next (HB.out _) hb2); clear hb2))
  all_goals go_wp2_with fail
  all_goals go_ret
  all_goals exact ⟨rfl,HB2.out⟩
end Go.Proofs.YthcnhbclagegeaaGreatDoor
namespace Go.Proofs.YthcnhbclagegeaaGreatDoor
open Go.RowKit RelA
namespace RelA
def seL (p:Nat→Bool) (k:Nat):List (Nat × Nat):=((List.range k).filter p).map fun i=>(i,i)
theorem seL_yes (p:Nat→Bool) (k:Nat) (h:p k=true):seL p (k + 1)=seL p k ++ [(k,k)]:=by
 unfold seL; rw [List.range_succ,List.filter_append,List.map_append]; simp [h]
theorem seL_no (p:Nat→Bool) (k:Nat) (h:p k=false):seL p (k + 1)=seL p k:=by
 unfold seL; rw [List.range_succ,List.filter_append,List.map_append]; simp [h]
theorem seL_len (p:Nat→Bool) (k:Nat):(seL p k).length≤k:=by
 unfold seL; rw [List.length_map]
 have:=List.length_filter_le p (List.range k)
 simpa using this
def diagM (n:Nat) (p:Nat→Bool):Nat→Nat→Bool:=fun i j=>(decide (i=j) && decide (i < n)) && p i
theorem wf_diag (n:Nat) (p:Nat→Bool):WFM n (diagM n p):=fun i j a=>by
 unfold diagM at a
 rw [Bool.and_eq_true,Bool.and_eq_true,decide_eq_true_eq,decide_eq_true_eq] at a
 omega
theorem ofM_diag (n:Nat) (p:Nat→Bool):ofM n (castP (seL p n))=diagM n p:=by
 funext i j
 rw [Bool.eq_iff_iff,ofM_iff]
 unfold diagM
 rw [Bool.and_eq_true,Bool.and_eq_true,decide_eq_true_eq,decide_eq_true_eq]
 constructor
 ·rintro ⟨q,hq,_,_,e1,e2⟩
  unfold castP seL at hq
  obtain ⟨r,hr,rfl⟩:=List.mem_map.1 hq
  obtain ⟨k,hk,rfl⟩:=List.mem_map.1 hr
  have hk:=List.mem_filter.1 hk
  have e3:k=i:=Int.ofNat_inj.1 e1
  have e4:k=j:=Int.ofNat_inj.1 e2
  subst e3 e4
  exact ⟨⟨rfl,List.mem_range.1 hk.1⟩,hk.2⟩
 ·rintro ⟨⟨rfl,hi⟩,hp⟩
  refine ⟨((i:Int),(i:Int)),List.mem_map.2 ⟨(i,i),List.mem_map.2 ⟨i,List.mem_filter.2 ⟨List.mem_range.2 hi,hp⟩,rfl⟩,rfl⟩,?_,?_,rfl,rfl⟩
  ·unfold inB; simp; omega
  ·unfold inB; simp; omega
theorem below_trans1 {b:Nat} {w1 w2 w3:World} (h:Below b w1 w2) (hs:b≤w2.heap.size) (g:Below w2.heap.size w2 w3):Below b w1 w3:=h.trans (g.mono hs)
theorem own_next {w w':World} {base:Nat} {e:TypeId} {size:Nat} {v:Value} {n:Nat} {xs:List Value} (h:w.ownsRow base e size v n xs) (hb:Below w.heap.size w w'):w'.ownsRow base e size v n xs:=by
 obtain ⟨hl,h0 | ⟨g,cap,cur,h1,h2,h3,h4⟩⟩:=h
 ·exact ⟨hl,.inl h0⟩
 ·exact ⟨hl,.inr ⟨g,cap,cur,h1,h2,(hb.block g (Array.getElem?_eq_some_iff.1 h3).1).trans h3,h4⟩⟩
end RelA
set_option maxRecDepth 20000 in
set_option maxHeartbeats 3200000 in
theorem set_ev (g:Gr) (kb mb:Nat) (kind:Int) (mo:Option Addr) (modes:List Int) (moc:Nat) (w:World) (h:EsIn w g.ea g.E) (he:g.E.length≤40) (hc:g.E.length≤g.ec)
  (hk:w.cell? ⟨kb,0,none⟩=some (.int .i64 kind)) (hm:w.cell? ⟨mb,0,none⟩=some (.slice mo modes.length moc)) (hn:NsIn w mo modes) (hl:modes.length≤10) :
  Calls Tryz.prog 78 #[g.v,.func (.func 150) #[] #[.pointer (some ⟨kb,0,none⟩),.pointer (some ⟨mb,0,none⟩)]] w (Makes g.n (diagM g.n fun i=>evB kind modes (Ev.at g.E i)) w):=by
 have HOF:=Lib.hid (fun base v L w hown=>of_own g base v L w he hown)
 have HH:=Lib.hid (fun i (hi:i < g.E.length) w' (hb:Below w.heap.size w w')=>has_ev g.ea g.E g.ec i kb mb kind mo modes moc w' (h.next hb) hi (by omega) (cell_next hk hb) (cell_next hm hb) (hn.next hb) hl)
 clear hk hm hn hl
 have HG0:=Lib.hid (GBox.of_alloc w g 27)
 obtain ⟨G,hG⟩:∃ G,G=g:=⟨_,rfl⟩
 obtain ⟨locs,ea,E,ec,ra,R,rc,ca,C,cc,ma,Rmw,mc,da,Data,dc,ta,Ctrl,tc,ia,CtrlI,ic⟩:=g
 simp only [Gr.v,Gr.n,gcells] at he hc HOF h HH HG0 ⊢
 rw [← hG] at HG0
 have HI:=Lib.hid h
 clear h
 obtain ⟨i0,hi,hz0,hz1,hz2⟩:=info_parts info37
 have hmin:min (E.length:Int) 40=(E.length:Int):=by omega
 have HP:=Lib.hid (rfl:(fun i=>evB kind modes (Ev.at E i))=fun i=>evB kind modes (Ev.at E i))
 go_enter Tryz.func78,Tryz.ntmps78
 go_wp2_with fail
 obtain ⟨w0,hw0⟩:∃ x,x=w.alloc (Obj.cells #[.int .i64 locs,.slice ea E.length ec,.slice ra R.length rc,.slice ca C.length cc,.slice ma Rmw.length mc,.slice da Data.length dc,.slice ta Ctrl.length tc,.slice ia CtrlI.length ic] 27 (0,0)):=⟨_,rfl⟩
 rw [← hw0] at HG0 ⊢
 have hs0:w0.heap.size=w.heap.size + 1:=by rw [hw0]; simp
 obtain ⟨w1,hw1⟩:∃ x,x=w0.alloc (Obj.cells #[.slice ea E.length ec,.func (.func 150) #[] #[.pointer (some ⟨kb,0,none⟩),.pointer (some ⟨mb,0,none⟩)]] 102 (0,0)):=⟨_,rfl⟩
 rw [← hw1]
 have hs1:w1.heap.size=w.heap.size + 2:=by rw [hw1]; simp; omega
 have hb01:Below w0.heap.size w0 w1:=by rw [hw1]; exact (Below.refl _ _).alloc (Nat.le_refl _) _
 have HB1:Hid (Below w.heap.size w w1):=Lib.hid (below_next (by rw [hw0]; exact (Below.refl _ _).alloc (Nat.le_refl _) _) hb01)
 have HGx:=Lib.hid (HG0.out.next hb01)
 have f0:w1.cell? ⟨w.heap.size + 1,0,none⟩=some (.slice ea E.length ec):=by rw [hw1,← hs0,cell_of_row _ _ _ _ _ _ (heap_alloc_new _ _)]; rfl
 have f1:w1.cell? ⟨w.heap.size + 1,1,none⟩=some (.func (.func 150) #[] #[.pointer (some ⟨kb,0,none⟩),.pointer (some ⟨mb,0,none⟩)]):=by rw [hw1,← hs0,cell_of_row _ _ _ _ _ _ (heap_alloc_new _ _)]; rfl
 have F0:=Lib.hid f0
 have F1:=Lib.hid f1
 clear hw1 hw0 hb01 HG0 f0 f1 hs0
 have HI1:=Lib.hid (HI.out.next HB1.out)
 clear HI
 generalize hpp:(fun i=>evB kind modes (Ev.at E i))=p at *
 go_loopw [6,20] (fun v x wr=>∃ k:Nat,k≤E.length∧x=.int .i64 k∧wr.ownsRow w1.heap.size 56 2 v (seL p k).length (pairCells (seL p k))∧Below w1.heap.size w1 wr) (fun _ x _=>E.length - (intOf x).toNat)
 case atStart=>exact ⟨0,Nat.zero_le _,rfl,⟨rfl,.inl ⟨rfl,rfl⟩⟩,Below.refl _ _⟩
 case round=>
  obtain ⟨k,hk,rfl,hown,hbe⟩:=hrel
  have hsz:=hbe.size
  have hsl:=seL_len p k
  have HOWN:=Lib.hid hown
  clear hown
  by_cases hlt:k < E.length
  ·have hdk:decide ((k:Int) < (E.length:Int))=true:=by simp; omega
   have hki:(k:Int) < (E.length:Int):=by omega
   have hk40:(k:Int) < 40:=by omega
   have f0:=cell_next F0.out hbe
   have f1:=cell_next F1.out hbe
   have hpk:evB kind modes (Ev.at E k)=p k:=by rw [← hpp]
   have HC:=Lib.hid (HH.out k hlt wr (below_next HB1.out hbe))
   rw [hpk] at HC
   clear hpk
   go_wp2_with fail
   refine HC.out.mono ?_
   rintro e w3 ⟨rfl,hb3⟩
   have hbe3:=below_trans1 hbe hsz hb3
   have hsz3:=hbe3.size
   have HO3:=Lib.hid (own_next HOWN.out hb3)
   clear f0 f1 HC
   cases hpv:p k
   ·have HX:=Lib.hid hpv
    clear hpv
    go_wp2_with fail
    go_roundw
    case rel=>exact ⟨k + 1,by omega,by go_num,by rw [seL_no p k HX.out]; exact HO3.out,hbe3⟩
    case measure=>simp [intOf]; omega
   ·have HX:=Lib.hid hpv
    clear hpv
    have hb3s:=hbe3
    go_wp2_with (first
     | (at_builtin; refine wpList_append_own _ rfl (.tmp 26) (.tmp 30) 25 rfl w1.heap.size 56 i0 (.agg #[.int .i64 0,.int .i64 0]) 2 16 Tryz.underlying25 hi hz0 hz1 hz2 rfl (by decide) _ _ _ rfl (HO3.out.alloc _) ⟨w3.heap.size,0,none⟩ 1 1 [.int .i64 k,.int .i64 k] rfl rfl (World.news_of_block (cs:=#[.int .i64 k,.int .i64 k]) (t:=56) (fr:=(0,0)) (heap_alloc_new w3 _)) (by simp [Value.oneCell']) (by unfold maxLen; omega) (by omega) (by simp; omega) ?_; intro v1 w2 hown1 hgrow1 hnil1; have HO1:=Lib.hid hown1; have HG1:=Lib.hid hgrow1; clear hown1 hgrow1 hnil1))
    go_roundw
    case rel=>
     refine ⟨k + 1,by omega,by go_num,?_,?_⟩
     ·rw [seL_yes p k HX.out,pairCells_snoc,List.length_append]
      exact HO1.out
     ·exact (hbe3.alloc hsz3 _).grown HG1.out (by simp; omega) (fun j hj=>(HO3.out.lt j hj).1)
    case measure=>simp [intOf]; omega
  ·have hkN:k=E.length:=by omega
   subst hkN
   have hdk:decide ((E.length:Int) < (E.length:Int))=false:=by simp
   obtain ⟨c0,c1,c2,c3,c4,c5,c6,c7⟩:=HGx.out.next hbe
   rw [hG] at c0 c1 c2 c3 c4 c5 c6 c7
   dsimp only at c0 c1 c2 c3 c4 c5 c6 c7
   have HBw:=Lib.hid (below_next HB1.out hbe)
   have HC:=Lib.hid (HOF.out _ _ _ _ (own_cast HOWN.out))
   have HEQ:=Lib.hid (ofM_diag E.length p)
   rw [HEQ.out] at HC
   go_wp2_with fail
   refine HC.out.mono ?_
   rintro e w3 ⟨d,rfl,hat,hnw,hb3⟩
   have HNW:=Lib.hid (Nat.le_trans HBw.out.size hnw)
   clear hnw
   have HA:=Lib.hid hat
   have HBf:=Lib.hid (below_next HBw.out hb3)
   clear hat hb3
   go_wp2_with fail
   go_ret
   exact ⟨_,rfl,(by rw [hpp]; exact HA.out),HNW.out,HBf.out⟩
end Go.Proofs.YthcnhbclagegeaaGreatDoor
namespace Go.Proofs.YthcnhbclagegeaaGreatDoor
open Go.RowKit RelA
set_option maxRecDepth 20000 in
set_option maxHeartbeats 3200000 in
theorem inner1 (b o1 o2:Nat) (x y:Int) (w:World) (h1:w.cell? ⟨b,o1,none⟩=some (.int .i64 x)) (h2:w.cell? ⟨b,o2,none⟩=some (.int .i64 y)) :
  Calls Tryz.prog 148 #[.pointer (some ⟨b,o1,none⟩),.pointer (some ⟨b,o2,none⟩)] w fun e w'=>e=.returned (.bool (x == y))∧Below w.heap.size w w':=by
 have HB:Hid (Below w.heap.size w w.drew):=Lib.hid (Below.refl _ _).drew
 go_enter Tryz.func148,Tryz.ntmps148
 go_wp2_with fail
 go_region
 go_wp2_with fail
 go_ret
 exact ⟨rfl,HB.out⟩
namespace RelA
def locB (x y:Ev):Bool:=((x.kd != 3) && (y.kd != 3)) && (x.lc == y.lc)
end RelA
set_option maxRecDepth 20000 in
set_option maxHeartbeats 3200000 in
theorem loc1 (b o1 o2:Nat) (x1 x3 y1 y3:Int) (w:World) (h1:w.cell? ⟨b,o1 + 1,none⟩=some (.int .i64 x1)) (h2:w.cell? ⟨b,o1 + 3,none⟩=some (.int .i64 x3)) (h3:w.cell? ⟨b,o2 + 1,none⟩=some (.int .i64 y1)) (h4:w.cell? ⟨b,o2 + 3,none⟩=some (.int .i64 y3)) :
  Calls Tryz.prog 156 #[.pointer (some ⟨b,o1,none⟩),.pointer (some ⟨b,o2,none⟩)] w fun e w'=>e=.returned (.bool (((x1 != 3) && (y1 != 3)) && (x3 == y3)))∧Below w.heap.size w w':=by
 have HB:Hid (Below w.heap.size w w.drew):=Lib.hid (Below.refl _ _).drew
 cases c1:(x1 != 3)
 ·go_enter Tryz.func156,Tryz.ntmps156
  go_wp2_with fail
  go_region
  go_wp2_with fail
  go_ret
  exact ⟨rfl,HB.out⟩
 ·cases c2:(y1 != 3)
  ·go_enter Tryz.func156,Tryz.ntmps156
   go_wp2_with fail
   go_region
   go_wp2_with fail
   go_ret
   exact ⟨rfl,HB.out⟩
  ·go_enter Tryz.func156,Tryz.ntmps156
   go_wp2_with fail
   go_region
   go_wp2_with fail
   go_ret
   exact ⟨rfl,HB.out⟩
end Go.Proofs.YthcnhbclagegeaaGreatDoor
namespace Go.Proofs.YthcnhbclagegeaaGreatDoor
open Go.RowKit RelA
namespace RelA
theorem ofM_filter {n:Nat} {M:Nat→Nat→Bool} (h:WFM n M) (f:Nat→Nat→Bool):ofM n (castP ((rpairs n M).filter fun q=>f q.1 q.2))=fun i j=>M i j && f i j:=by
 funext i j
 rw [Bool.eq_iff_iff,ofM_iff,Bool.and_eq_true]
 constructor
 ·rintro ⟨p,hp,_,_,e1,e2⟩
  unfold castP at hp
  obtain ⟨q,hq,rfl⟩:=List.mem_map.1 hp
  have hq:=List.mem_filter.1 hq
  have:=(rpre_mem n M n q).1 hq.1
  have e3:q.1=i:=Int.ofNat_inj.1 e1
  have e4:q.2=j:=Int.ofNat_inj.1 e2
  rw [← e3,← e4]; exact ⟨this.2.2,hq.2⟩
 ·rintro ⟨a,b⟩
  have hw:=h i j a
  refine ⟨((i:Int),(j:Int)),List.mem_map.2 ⟨(i,j),List.mem_filter.2 ⟨(rpre_mem n M n (i,j)).2 ⟨hw.1,hw.2,a⟩,b⟩,rfl⟩,?_,?_,rfl,rfl⟩
  ·unfold inB; simp; omega
  ·unfold inB; simp; omega
end RelA
set_option maxRecDepth 20000 in
set_option maxHeartbeats 3200000 in
theorem pick_inner (g:Gr) (rb:Nat) (M:Nat→Nat→Bool) (w:World) (h:EsIn w g.ea g.E) (he:g.E.length≤40) (hr:Rl w rb g.n M) (ht:Tab w) :
  Calls Tryz.prog 147 #[g.v,.pointer (some ⟨rb,0,none⟩),.func (.func 148) #[] #[]] w (Makes g.n (fun i j=>M i j && (fun x y:Ev=>x.th == y.th) (Ev.at g.E i) (Ev.at g.E j)) w):=by
 have HG0:=Lib.hid (GBox.of_alloc w g 27)
 obtain ⟨G,hG⟩:∃ G,G=g:=⟨_,rfl⟩
 obtain ⟨locs,ea,E,ec,ra,R,rc,ca,C,cc,ma,Rmw,mc,da,Data,dc,ta,Ctrl,tc,ia,CtrlI,ic⟩:=g
 simp only [Gr.v,Gr.n,gcells] at he hr h HG0 ⊢
 rw [← hG] at HG0
 have HI:=Lib.hid h
 have HR:=Lib.hid hr
 have HT:=Lib.hid ht
 have HW:=Lib.hid hr.wf
 obtain ⟨⟨R0,hat,hR0,hlk⟩,hwf⟩:=hr
 have HPQ:=Lib.hid (pairs_eq he hlk hwf)
 have HPR:=Lib.hid (fun w1 (hb:Below w.heap.size w w1)=>pairs_any rb E.length R0 w1 (hat.next hb) hR0 (ht.next hb))
 have HLEN:=Lib.hid (fun w1 (hb:Below w.heap.size w w1)=>len_any rb E.length w1 (hat.next hb).c0)
 rw [HPQ.out] at HPR
 clear h hat hR0 hlk hwf HPQ ht
 obtain ⟨i0,hi,hz0,hz1,hz2⟩:=info_parts info37
 have hmax:max (E.length:Int) (E.length:Int)=(E.length:Int):=by omega
 have hpl:(rpairs E.length M).length≤1600:=by
  have:=rpre_len E.length M he E.length
  unfold rpairs
  have h2:E.length * E.length≤40 * 40:=Nat.mul_le_mul he he
  omega
 go_enter Tryz.func147,Tryz.ntmps147
 go_wp2_with fail
 obtain ⟨w1,hw1⟩:∃ x,x=w.alloc (Obj.cells #[.int .i64 locs,.slice ea E.length ec,.slice ra R.length rc,.slice ca C.length cc,.slice ma Rmw.length mc,.slice da Data.length dc,.slice ta Ctrl.length tc,.slice ia CtrlI.length ic] 27 (0,0)):=⟨_,rfl⟩
 rw [← hw1] at HG0 ⊢
 have hs1:w1.heap.size=w.heap.size + 1:=by rw [hw1]; simp
 have HB1:Hid (Below w.heap.size w w1):=Lib.hid (by rw [hw1]; exact (Below.refl _ _).alloc (Nat.le_refl _) _)
 clear hw1
 have HI1:=Lib.hid (HI.out.next HB1.out)
 have HTx:=Lib.hid (HT.out.next HB1.out)
 clear HI HT
 refine (HPR.out w1 HB1.out).mono ?_
 rintro e w2 ⟨v,rfl,hown,hb2⟩
 obtain ⟨pa,pc,rfl,hrd⟩:=PairsRd.of_own hown
 have hs2:=hb2.size
 have HB2:=Lib.hid (below_next HB1.out hb2)
 have HI2:=Lib.hid (HI1.out.next hb2)
 have HG2:=Lib.hid (HG0.out.next hb2)
 have HRD:=Lib.hid hrd
 clear hown hb2 hrd HI1 HG0
 generalize hLq:rpairs E.length M=L at *
 have HMem:Hid (∀ k,k < L.length→(L.getD k (0,0)).1 < E.length∧(L.getD k (0,0)).2 < E.length):=Lib.hid (fun k hk=>by
  have hm:L.getD k (0,0) ∈ rpairs E.length M:=by rw [hLq,List.getD_eq_getElem?_getD,List.getElem?_eq_getElem hk]; exact List.getElem_mem hk
  have:=(rpre_mem E.length M E.length _).1 hm
  exact ⟨this.1,this.2.1⟩)
 generalize hpp:(fun q:Nat × Nat=>(fun x y:Ev=>x.th == y.th) (Ev.at E q.1) (Ev.at E q.2))=p at *
 go_wp2_with fail
 go_loopw [8,17] (fun v x wr=>∃ k:Nat,k≤L.length∧x=.int .i64 k∧wr.ownsRow w2.heap.size 56 2 v ((L.take k).filter p).length (pairCells ((L.take k).filter p))∧Below w2.heap.size w2 wr) (fun _ x _=>L.length - (intOf x).toNat)
 case atStart=>exact ⟨0,Nat.zero_le _,rfl,⟨rfl,.inl ⟨rfl,rfl⟩⟩,Below.refl _ _⟩
 case round=>
  obtain ⟨k,hk,rfl,hown,hbe⟩:=hrel
  have hsz:=hbe.size
  have hsl:((L.take k).filter p).length≤k:=by
   have:=List.length_filter_le p (L.take k)
   rw [List.length_take] at this
   omega
  have HOWN:=Lib.hid hown
  clear hown
  by_cases hlt:k < L.length
  ·have hdk:decide ((k:Int) < (L.length:Int))=true:=by simp; omega
   have hki:(k:Int) < (L.length:Int):=by omega
   have hk40:(k:Int) < 1600:=by omega
   rcases (HRD.out.next hbe) with h0 | ⟨pb,rfl,hpb,hpc⟩
   ·rw [h0] at hlt; simp at hlt
   ·have e1:=(hpc k hlt).1
    have e2:=(hpc k hlt).2
    have hmem:=HMem.out k hlt
    have HS:Hid (L.take (k + 1)=L.take k ++ [L.getD k (0,0)]):=Lib.hid (by
     rw [List.take_add_one,List.getElem?_eq_getElem hlt,List.getD_eq_getElem?_getD,List.getElem?_eq_getElem hlt]; rfl)
    have hpk:p (L.getD k (0,0))=(fun x y:Ev=>x.th == y.th) (Ev.at E (L.getD k (0,0)).1) (Ev.at E (L.getD k (0,0)).2):=by rw [← hpp]
    have hcst:(castP L).getD k (0,0)=(((L.getD k (0,0)).1:Int),((L.getD k (0,0)).2:Int)):=by
     unfold castP
     rw [List.getD_eq_getElem?_getD,List.getElem?_map,List.getElem?_eq_getElem hlt,List.getD_eq_getElem?_getD,List.getElem?_eq_getElem hlt]; rfl
    rw [hcst] at e1 e2
    clear hpc hcst
    generalize L.getD k (0,0)=pr at *
    obtain ⟨ia,ib⟩:=pr
    dsimp only at e1 e2 hmem hpk
    obtain ⟨hia,hib⟩:=hmem
    have hda:decide ((ia:Int) < (E.length:Int))=true:=by simp; omega
    have hdb:decide ((ib:Int) < (E.length:Int))=true:=by simp; omega
    have hia2:(ia:Int) < (E.length:Int):=by omega
    have hib2:(ib:Int) < (E.length:Int):=by omega
    have hia3:(ia:Int) < 40:=by omega
    have hib3:(ib:Int) < 40:=by omega
    obtain ⟨c0,c1,c2,c3,c4,c5,c6,c7⟩:=HG2.out.next hbe
    rw [hG] at c0 c1 c2 c3 c4 c5 c6 c7
    dsimp only at c0 c1 c2 c3 c4 c5 c6 c7
    clear c0 c2 c3 c4 c5 c6 c7
    obtain ⟨w3,hw3⟩:∃ x,x=wr.alloc (Obj.cells #[.int .i64 ia,.int .i64 ib] 56 (0,0)):=⟨_,rfl⟩
    have hs3:w3.heap.size=wr.heap.size + 1:=by rw [hw3]; simp
    have hbw:Below wr.heap.size wr w3:=by rw [hw3]; exact (Below.refl _ _).alloc (Nat.le_refl _) _
    have e3:w3.cell? ⟨wr.heap.size,0,none⟩=some (.int .i64 ia):=by rw [hw3,cell_of_row _ _ _ _ _ _ (heap_alloc_new _ _)]; rfl
    have e4:w3.cell? ⟨wr.heap.size,1,none⟩=some (.int .i64 ib):=by rw [hw3,cell_of_row _ _ _ _ _ _ (heap_alloc_new _ _)]; rfl
    have c1':=cell_next c1 hbw
    have HBE:=Lib.hid hbe
    have HBW:=Lib.hid hbw
    have HO3:=Lib.hid (own_next HOWN.out hbw)
    rcases (HI2.out.next hbe).next hbw with h0 | ⟨b,o,rfl,hbl,hcc⟩
    ·rw [h0] at hia; simp at hia
    ·have HC:Hid (∀ w',Below w3.heap.size w3 w'→Calls Tryz.prog 148 #[.pointer (some ⟨b,o + ia * 6,none⟩),.pointer (some ⟨b,o + ib * 6,none⟩)] w' fun e w''=>e=.returned (.bool (p (ia,ib)))∧Below w'.heap.size w' w''):=Lib.hid (fun w' hb'=>by
      rw [hpk]
      have k1:=(hcc ia hia).next hb'
      have k2:=(hcc ib hib).next hb'
      exact inner1 b _ _ _ _ w' k1.c0 k2.c0)
     clear hcc hpk c1
     generalize hpv:p (ia,ib)=pv at *
     clear hbe hbw
     go_wp2_with fail
     rw [← hw3]
     clear hw3
     refine wp_region_still_tail 22 (by kernel_rfl) (by kernel_rfl) ?_
     simp only [List.take_succ_cons,List.take_zero,List.drop_succ_cons,List.drop_zero]
     show wpStill _ _ w3.drew (fun a'=>wpList _ _ _ _ a' w3.drew) _ _
     repeat still_step
     refine wpStill_nil ?_
     go_wp2_with fail
     refine (HC.out _ (Below.refl _ _).drew).mono ?_
     rintro e w4 ⟨rfl,hb4⟩
     have hb34:Below w3.heap.size w3 w4:=below_trans1 (Below.refl _ _).drew (Nat.le_refl _) hb4
     have hbe4:=below_trans1 (below_trans1 HBE.out hsz HBW.out) (by rw [hs3]; omega) hb34
     have hsz4:=hbe4.size
     have HO4:=Lib.hid (own_next HO3.out hb34)
     have f0:=cell_next e3 hb34
     have f1:=cell_next e4 hb34
     clear e3 e4 hb4 hb34 HC
     cases pv
     ·have HX:=Lib.hid hpv
      clear hpv
      go_wp2_with fail
      go_roundw
      case rel=>exact ⟨k + 1,by omega,by go_num,by rw [HS.out,List.filter_append]; simp only [List.filter_cons,HX.out,List.filter_nil,Bool.false_eq_true,if_false,List.append_nil]; exact HO4.out,hbe4⟩
      case measure=>simp [intOf]; omega
     ·have HX:=Lib.hid hpv
      clear hpv
      go_wp2_with (first
     | (at_builtin; refine wpList_append_own _ rfl (.tmp 45) (.tmp 47) 25 rfl w2.heap.size 56 i0 (.agg #[.int .i64 0,.int .i64 0]) 2 16 Tryz.underlying25 hi hz0 hz1 hz2 rfl (by decide) _ _ _ rfl (HO4.out.alloc _) ⟨w4.heap.size,0,none⟩ 1 1 [.int .i64 ia,.int .i64 ib] rfl rfl (World.news_of_block (cs:=#[.int .i64 ia,.int .i64 ib]) (t:=56) (fr:=(0,0)) (heap_alloc_new w4 _)) (by simp [Value.oneCell']) (by unfold maxLen; omega) (by omega) (by simp; omega) ?_; intro v1 w2 hown1 hgrow1 hnil1; have HO1:=Lib.hid hown1; have HG1:=Lib.hid hgrow1; clear hown1 hgrow1 hnil1))
      go_roundw
      case rel=>
       refine ⟨k + 1,by omega,by go_num,?_,?_⟩
       ·rw [HS.out,List.filter_append]
        simp only [List.filter_cons,HX.out,List.filter_nil,if_true]
        rw [pairCells_snoc,List.length_append]
        exact HO1.out
       ·exact (hbe4.alloc hsz4 _).grown HG1.out (by simp; omega) (fun j hj=>(HO4.out.lt j hj).1)
      case measure=>simp [intOf]; omega
  ·have hkN:k=L.length:=by omega
   subst hkN
   have hdk:decide ((L.length:Int) < (L.length:Int))=false:=by simp
   rw [List.take_length] at HOWN
   have HBw:=Lib.hid (below_next HB2.out hbe)
   have HLN:=HLEN.out wr HBw.out
   have HLN':=Lib.hid HLN
   clear HLN
   go_wp2_with fail
   refine HLN'.out.mono ?_
   rintro e w5 ⟨rfl,rfl⟩
   go_wp2_with fail
   refine (new_ownM E.length _ _ _ _ he (own_cast HOWN.out)).mono ?_
   rintro e w3 ⟨d,rfl,hat,hnw,hb3⟩
   have HNW:=Lib.hid (Nat.le_trans HBw.out.size hnw)
   clear hnw
   have HA:=Lib.hid hat
   have HBf:=Lib.hid (below_next HBw.out hb3)
   have HEQ:Hid (ofM E.length (castP (L.filter p))=fun i j=>M i j && (fun x y:Ev=>x.th == y.th) (Ev.at E i) (Ev.at E j)):=Lib.hid (by
    rw [← hLq,← hpp]; exact ofM_filter HW.out fun i j=>(fun x y:Ev=>x.th == y.th) (Ev.at E i) (Ev.at E j))
   clear hat hb3
   go_wp2_with fail
   go_ret
   exact ⟨_,rfl,(by rw [← HEQ.out]; exact HA.out),HNW.out,HBf.out⟩
end Go.Proofs.YthcnhbclagegeaaGreatDoor
namespace Go.Proofs.YthcnhbclagegeaaGreatDoor
open Go.RowKit RelA
set_option maxRecDepth 20000 in
set_option maxHeartbeats 3200000 in
theorem pick_loc (g:Gr) (rb:Nat) (M:Nat→Nat→Bool) (w:World) (h:EsIn w g.ea g.E) (he:g.E.length≤40) (hr:Rl w rb g.n M) (ht:Tab w) :
  Calls Tryz.prog 147 #[g.v,.pointer (some ⟨rb,0,none⟩),.func (.func 156) #[] #[]] w (Makes g.n (fun i j=>M i j && locB (Ev.at g.E i) (Ev.at g.E j)) w):=by
 have HG0:=Lib.hid (GBox.of_alloc w g 27)
 obtain ⟨G,hG⟩:∃ G,G=g:=⟨_,rfl⟩
 obtain ⟨locs,ea,E,ec,ra,R,rc,ca,C,cc,ma,Rmw,mc,da,Data,dc,ta,Ctrl,tc,ia,CtrlI,ic⟩:=g
 simp only [Gr.v,Gr.n,gcells] at he hr h HG0 ⊢
 rw [← hG] at HG0
 have HI:=Lib.hid h
 have HR:=Lib.hid hr
 have HT:=Lib.hid ht
 have HW:=Lib.hid hr.wf
 obtain ⟨⟨R0,hat,hR0,hlk⟩,hwf⟩:=hr
 have HPQ:=Lib.hid (pairs_eq he hlk hwf)
 have HPR:=Lib.hid (fun w1 (hb:Below w.heap.size w w1)=>pairs_any rb E.length R0 w1 (hat.next hb) hR0 (ht.next hb))
 have HLEN:=Lib.hid (fun w1 (hb:Below w.heap.size w w1)=>len_any rb E.length w1 (hat.next hb).c0)
 rw [HPQ.out] at HPR
 clear h hat hR0 hlk hwf HPQ ht
 obtain ⟨i0,hi,hz0,hz1,hz2⟩:=info_parts info37
 have hmax:max (E.length:Int) (E.length:Int)=(E.length:Int):=by omega
 have hpl:(rpairs E.length M).length≤1600:=by
  have:=rpre_len E.length M he E.length
  unfold rpairs
  have h2:E.length * E.length≤40 * 40:=Nat.mul_le_mul he he
  omega
 go_enter Tryz.func147,Tryz.ntmps147
 go_wp2_with fail
 obtain ⟨w1,hw1⟩:∃ x,x=w.alloc (Obj.cells #[.int .i64 locs,.slice ea E.length ec,.slice ra R.length rc,.slice ca C.length cc,.slice ma Rmw.length mc,.slice da Data.length dc,.slice ta Ctrl.length tc,.slice ia CtrlI.length ic] 27 (0,0)):=⟨_,rfl⟩
 rw [← hw1] at HG0 ⊢
 have hs1:w1.heap.size=w.heap.size + 1:=by rw [hw1]; simp
 have HB1:Hid (Below w.heap.size w w1):=Lib.hid (by rw [hw1]; exact (Below.refl _ _).alloc (Nat.le_refl _) _)
 clear hw1
 have HI1:=Lib.hid (HI.out.next HB1.out)
 have HTx:=Lib.hid (HT.out.next HB1.out)
 clear HI HT
 refine (HPR.out w1 HB1.out).mono ?_
 rintro e w2 ⟨v,rfl,hown,hb2⟩
 obtain ⟨pa,pc,rfl,hrd⟩:=PairsRd.of_own hown
 have hs2:=hb2.size
 have HB2:=Lib.hid (below_next HB1.out hb2)
 have HI2:=Lib.hid (HI1.out.next hb2)
 have HG2:=Lib.hid (HG0.out.next hb2)
 have HRD:=Lib.hid hrd
 clear hown hb2 hrd HI1 HG0
 generalize hLq:rpairs E.length M=L at *
 have HMem:Hid (∀ k,k < L.length→(L.getD k (0,0)).1 < E.length∧(L.getD k (0,0)).2 < E.length):=Lib.hid (fun k hk=>by
  have hm:L.getD k (0,0) ∈ rpairs E.length M:=by rw [hLq,List.getD_eq_getElem?_getD,List.getElem?_eq_getElem hk]; exact List.getElem_mem hk
  have:=(rpre_mem E.length M E.length _).1 hm
  exact ⟨this.1,this.2.1⟩)
 generalize hpp:(fun q:Nat × Nat=>locB (Ev.at E q.1) (Ev.at E q.2))=p at *
 go_wp2_with fail
 go_loopw [8,17] (fun v x wr=>∃ k:Nat,k≤L.length∧x=.int .i64 k∧wr.ownsRow w2.heap.size 56 2 v ((L.take k).filter p).length (pairCells ((L.take k).filter p))∧Below w2.heap.size w2 wr) (fun _ x _=>L.length - (intOf x).toNat)
 case atStart=>exact ⟨0,Nat.zero_le _,rfl,⟨rfl,.inl ⟨rfl,rfl⟩⟩,Below.refl _ _⟩
 case round=>
  obtain ⟨k,hk,rfl,hown,hbe⟩:=hrel
  have hsz:=hbe.size
  have hsl:((L.take k).filter p).length≤k:=by
   have:=List.length_filter_le p (L.take k)
   rw [List.length_take] at this
   omega
  have HOWN:=Lib.hid hown
  clear hown
  by_cases hlt:k < L.length
  ·have hdk:decide ((k:Int) < (L.length:Int))=true:=by simp; omega
   have hki:(k:Int) < (L.length:Int):=by omega
   have hk40:(k:Int) < 1600:=by omega
   rcases (HRD.out.next hbe) with h0 | ⟨pb,rfl,hpb,hpc⟩
   ·rw [h0] at hlt; simp at hlt
   ·have e1:=(hpc k hlt).1
    have e2:=(hpc k hlt).2
    have hmem:=HMem.out k hlt
    have HS:Hid (L.take (k + 1)=L.take k ++ [L.getD k (0,0)]):=Lib.hid (by
     rw [List.take_add_one,List.getElem?_eq_getElem hlt,List.getD_eq_getElem?_getD,List.getElem?_eq_getElem hlt]; rfl)
    have hpk:p (L.getD k (0,0))=locB (Ev.at E (L.getD k (0,0)).1) (Ev.at E (L.getD k (0,0)).2):=by rw [← hpp]
    have hcst:(castP L).getD k (0,0)=(((L.getD k (0,0)).1:Int),((L.getD k (0,0)).2:Int)):=by
     unfold castP
     rw [List.getD_eq_getElem?_getD,List.getElem?_map,List.getElem?_eq_getElem hlt,List.getD_eq_getElem?_getD,List.getElem?_eq_getElem hlt]; rfl
    rw [hcst] at e1 e2
    clear hpc hcst
    generalize L.getD k (0,0)=pr at *
    obtain ⟨ia,ib⟩:=pr
    dsimp only at e1 e2 hmem hpk
    obtain ⟨hia,hib⟩:=hmem
    have hda:decide ((ia:Int) < (E.length:Int))=true:=by simp; omega
    have hdb:decide ((ib:Int) < (E.length:Int))=true:=by simp; omega
    have hia2:(ia:Int) < (E.length:Int):=by omega
    have hib2:(ib:Int) < (E.length:Int):=by omega
    have hia3:(ia:Int) < 40:=by omega
    have hib3:(ib:Int) < 40:=by omega
    obtain ⟨c0,c1,c2,c3,c4,c5,c6,c7⟩:=HG2.out.next hbe
    rw [hG] at c0 c1 c2 c3 c4 c5 c6 c7
    dsimp only at c0 c1 c2 c3 c4 c5 c6 c7
    clear c0 c2 c3 c4 c5 c6 c7
    obtain ⟨w3,hw3⟩:∃ x,x=wr.alloc (Obj.cells #[.int .i64 ia,.int .i64 ib] 56 (0,0)):=⟨_,rfl⟩
    have hs3:w3.heap.size=wr.heap.size + 1:=by rw [hw3]; simp
    have hbw:Below wr.heap.size wr w3:=by rw [hw3]; exact (Below.refl _ _).alloc (Nat.le_refl _) _
    have e3:w3.cell? ⟨wr.heap.size,0,none⟩=some (.int .i64 ia):=by rw [hw3,cell_of_row _ _ _ _ _ _ (heap_alloc_new _ _)]; rfl
    have e4:w3.cell? ⟨wr.heap.size,1,none⟩=some (.int .i64 ib):=by rw [hw3,cell_of_row _ _ _ _ _ _ (heap_alloc_new _ _)]; rfl
    have c1':=cell_next c1 hbw
    have HBE:=Lib.hid hbe
    have HBW:=Lib.hid hbw
    have HO3:=Lib.hid (own_next HOWN.out hbw)
    rcases (HI2.out.next hbe).next hbw with h0 | ⟨b,o,rfl,hbl,hcc⟩
    ·rw [h0] at hia; simp at hia
    ·have HC:Hid (∀ w',Below w3.heap.size w3 w'→Calls Tryz.prog 156 #[.pointer (some ⟨b,o + ia * 6,none⟩),.pointer (some ⟨b,o + ib * 6,none⟩)] w' fun e w''=>e=.returned (.bool (p (ia,ib)))∧Below w'.heap.size w' w''):=Lib.hid (fun w' hb'=>by
      rw [hpk]
      have k1:=(hcc ia hia).next hb'
      have k2:=(hcc ib hib).next hb'
      exact loc1 b _ _ _ _ _ _ w' k1.c1 k1.c3 k2.c1 k2.c3)
     clear hcc hpk c1
     generalize hpv:p (ia,ib)=pv at *
     clear hbe hbw
     go_wp2_with fail
     rw [← hw3]
     clear hw3
     refine wp_region_still_tail 22 (by kernel_rfl) (by kernel_rfl) ?_
     simp only [List.take_succ_cons,List.take_zero,List.drop_succ_cons,List.drop_zero]
     show wpStill _ _ w3.drew (fun a'=>wpList _ _ _ _ a' w3.drew) _ _
     repeat still_step
     refine wpStill_nil ?_
     go_wp2_with fail
     refine (HC.out _ (Below.refl _ _).drew).mono ?_
     rintro e w4 ⟨rfl,hb4⟩
     have hb34:Below w3.heap.size w3 w4:=below_trans1 (Below.refl _ _).drew (Nat.le_refl _) hb4
     have hbe4:=below_trans1 (below_trans1 HBE.out hsz HBW.out) (by rw [hs3]; omega) hb34
     have hsz4:=hbe4.size
     have HO4:=Lib.hid (own_next HO3.out hb34)
     have f0:=cell_next e3 hb34
     have f1:=cell_next e4 hb34
     clear e3 e4 hb4 hb34 HC
     cases pv
     ·have HX:=Lib.hid hpv
      clear hpv
      go_wp2_with fail
      go_roundw
      case rel=>exact ⟨k + 1,by omega,by go_num,by rw [HS.out,List.filter_append]; simp only [List.filter_cons,HX.out,List.filter_nil,Bool.false_eq_true,if_false,List.append_nil]; exact HO4.out,hbe4⟩
      case measure=>simp [intOf]; omega
     ·have HX:=Lib.hid hpv
      clear hpv
      go_wp2_with (first
     | (at_builtin; refine wpList_append_own _ rfl (.tmp 45) (.tmp 47) 25 rfl w2.heap.size 56 i0 (.agg #[.int .i64 0,.int .i64 0]) 2 16 Tryz.underlying25 hi hz0 hz1 hz2 rfl (by decide) _ _ _ rfl (HO4.out.alloc _) ⟨w4.heap.size,0,none⟩ 1 1 [.int .i64 ia,.int .i64 ib] rfl rfl (World.news_of_block (cs:=#[.int .i64 ia,.int .i64 ib]) (t:=56) (fr:=(0,0)) (heap_alloc_new w4 _)) (by simp [Value.oneCell']) (by unfold maxLen; omega) (by omega) (by simp; omega) ?_; intro v1 w2 hown1 hgrow1 hnil1; have HO1:=Lib.hid hown1; have HG1:=Lib.hid hgrow1; clear hown1 hgrow1 hnil1))
      go_roundw
      case rel=>
       refine ⟨k + 1,by omega,by go_num,?_,?_⟩
       ·rw [HS.out,List.filter_append]
        simp only [List.filter_cons,HX.out,List.filter_nil,if_true]
        rw [pairCells_snoc,List.length_append]
        exact HO1.out
       ·exact (hbe4.alloc hsz4 _).grown HG1.out (by simp; omega) (fun j hj=>(HO4.out.lt j hj).1)
      case measure=>simp [intOf]; omega
  ·have hkN:k=L.length:=by omega
   subst hkN
   have hdk:decide ((L.length:Int) < (L.length:Int))=false:=by simp
   rw [List.take_length] at HOWN
   have HBw:=Lib.hid (below_next HB2.out hbe)
   have HLN:=HLEN.out wr HBw.out
   have HLN':=Lib.hid HLN
   clear HLN
   go_wp2_with fail
   refine HLN'.out.mono ?_
   rintro e w5 ⟨rfl,rfl⟩
   go_wp2_with fail
   refine (new_ownM E.length _ _ _ _ he (own_cast HOWN.out)).mono ?_
   rintro e w3 ⟨d,rfl,hat,hnw,hb3⟩
   have HNW:=Lib.hid (Nat.le_trans HBw.out.size hnw)
   clear hnw
   have HA:=Lib.hid hat
   have HBf:=Lib.hid (below_next HBw.out hb3)
   have HEQ:Hid (ofM E.length (castP (L.filter p))=fun i j=>M i j && locB (Ev.at E i) (Ev.at E j)):=Lib.hid (by
    rw [← hLq,← hpp]; exact ofM_filter HW.out fun i j=>locB (Ev.at E i) (Ev.at E j))
   clear hat hb3
   go_wp2_with fail
   go_ret
   exact ⟨_,rfl,(by rw [← HEQ.out]; exact HA.out),HNW.out,HBf.out⟩
end Go.Proofs.YthcnhbclagegeaaGreatDoor
namespace Go.Proofs.YthcnhbclagegeaaGreatDoor
open Go.RowKit RelA
namespace RelA
def innerM (E:List Ev) (M:Nat→Nat→Bool):Nat→Nat→Bool:=fun i j=>M i j && ((Ev.at E i).th == (Ev.at E j).th)
def outerM (E:List Ev) (M:Nat→Nat→Bool):Nat→Nat→Bool:=fun i j=>M i j && !((Ev.at E i).th == (Ev.at E j).th)
def locM (E:List Ev):Nat→Nat→Bool:=fun i j=>poM E i j && locB (Ev.at E i) (Ev.at E j)
theorem less_inner (E:List Ev) (M:Nat→Nat→Bool):lessM M (innerM E M)=outerM E M:=by
 funext i j
 unfold lessM innerM outerM
 cases M i j <;> simp
end RelA
set_option maxRecDepth 20000 in
set_option maxHeartbeats 3200000 in
theorem inner_l (g:Gr) (rb:Nat) (M:Nat→Nat→Bool) (w:World) (h:GIn w g) (hr:Rl w rb g.n M) (ht:Tab w) :
  Calls Tryz.prog 62 #[g.v,.pointer (some ⟨rb,0,none⟩)] w (Makes g.n (innerM g.E M) w):=by
 have HP:=Lib.hid (fun w' (hb:Below w.heap.size w w')=>pick_inner g rb M w' (h.es.next hb) h.e40 (hr.next hb) (ht.next hb))
 have HG0:=Lib.hid (GBox.of_alloc w g 27)
 obtain ⟨G,hG⟩:∃ G,G=g:=⟨_,rfl⟩
 obtain ⟨locs,ea,E,ec,ra,R,rc,ca,C,cc,ma,Rmw,mc,da,Data,dc,ta,Ctrl,tc,ia,CtrlI,ic⟩:=g
 simp only [Gr.v,Gr.n,gcells] at HP HG0 ⊢
 rw [← hG] at HG0
 clear h hr ht HG0 hG
 go_enter Tryz.func62,Tryz.ntmps62
 go_wp2_with fail
 refine (HP.out _ ((Below.refl _ _).alloc (Nat.le_refl _) _)).mono ?_
 rintro e w' ⟨d,rfl,hat,hnw,hbe⟩
 have HNW:Hid (w.heap.size≤d):=Lib.hid (by have:=hnw; simp at this; omega)
 clear hnw
 have HA:=Lib.hid hat
 have HB:=Lib.hid (below_next ((Below.refl _ _).alloc (Nat.le_refl _) _) hbe)
 clear hat hbe
 go_wp2_with fail
 go_ret
 exact ⟨_,rfl,HA.out,HNW.out,HB.out⟩
attribute [local go_sem ↓] Go.wp_at_zero Go.wp_at_succ
set_option maxRecDepth 20000 in
set_option maxHeartbeats 3200000 in
theorem loc_l (g:Gr) (w:World) (h:GIn w g) (ht:Tab w) :
  Calls Tryz.prog 91 #[g.v] w (Makes g.n (locM g.E) w):=by
 have HQ:=Lib.hid (fun w' (hb:Below w.heap.size w w')=>po_l g w' (h.es.next hb) h.e40 h.ecap)
 have HP:=Lib.hid (fun rb M w' (hb:Below w.heap.size w w') hr=>pick_loc g rb M w' (h.es.next hb) h.e40 hr (ht.next hb))
 have HG0:=Lib.hid (GBox.of_alloc w g 27)
 obtain ⟨G,hG⟩:∃ G,G=g:=⟨_,rfl⟩
 obtain ⟨locs,ea,E,ec,ra,R,rc,ca,C,cc,ma,Rmw,mc,da,Data,dc,ta,Ctrl,tc,ia,CtrlI,ic⟩:=g
 simp only [Gr.v,Gr.n,gcells] at HP HQ HG0 ⊢
 rw [← hG] at HG0
 clear h ht
 go_enter Tryz.func91,Tryz.ntmps91
 go_wp2_with fail
 obtain ⟨w1,hw1⟩:∃ x,x=w.alloc (Obj.cells #[.int .i64 locs,.slice ea E.length ec,.slice ra R.length rc,.slice ca C.length cc,.slice ma Rmw.length mc,.slice da Data.length dc,.slice ta Ctrl.length tc,.slice ia CtrlI.length ic] 27 (0,0)):=⟨_,rfl⟩
 rw [← hw1] at HG0 ⊢
 have hs1:w1.heap.size=w.heap.size + 1:=by rw [hw1]; simp
 have HB1:Hid (Below w.heap.size w w1):=Lib.hid (by rw [hw1]; exact (Below.refl _ _).alloc (Nat.le_refl _) _)
 clear hw1
 have HB0:=Lib.hid HB1.out.drew
 obtain ⟨c0,c1,c2,c3,c4,c5,c6,c7⟩:=HG0.out
 rw [hG] at c0 c1 c2 c3 c4 c5 c6 c7
 dsimp only at c0 c1 c2 c3 c4 c5 c6 c7
 go_region_with (first
  | (go_at_call 81; refine (HQ.out _ HB0.out).mono ?_; rintro e w2 ⟨d,rfl,hat,_,hbe⟩; have HB2:=Lib.hid (below_next HB0.out hbe); have HA2:=Lib.hid hat; obtain ⟨c0,c1,c2,c3,c4,c5,c6,c7⟩:=(HG0.out.next (show Below w1.heap.size w1 w1.drew from (Below.refl _ _).drew)).next hbe; rw [hG] at c0 c1 c2 c3 c4 c5 c6 c7; dsimp only at c0 c1 c2 c3 c4 c5 c6 c7; clear hat hbe)
  | (go_at_call 147; refine (HP.out _ _ _ HB2.out HA2.out).mono ?_; rintro e w3 ⟨d3,rfl,hat,hnw,hbe⟩; have HNW:=Lib.hid (Nat.le_trans HB2.out.size hnw); clear hnw; have HB3:=Lib.hid (below_next HB2.out hbe); have HA3:=Lib.hid hat; clear hat hbe))
 all_goals go_wp2_with fail
 all_goals go_ret
 all_goals exact ⟨_,rfl,HA3.out,HNW.out,HB3.out⟩
end Go.Proofs.YthcnhbclagegeaaGreatDoor
namespace Go.Proofs.YthcnhbclagegeaaGreatDoor
open Go.RowKit RelA
namespace RelA
def coIn (L:List Int) (i q:Nat):List (Int × Int):=(List.range q).map fun j=>(L.getD i 0,L.getD (i + 1 + j) 0)
def coOne (L:List Int) (k:Nat):List (Int × Int):=(List.range k).flatMap fun i=>coIn L i (L.length - (i + 1))
def coAll (C:List Ls) (t:Nat):List (Int × Int):=(List.range t).flatMap fun l=>coOne (C.getD l Ls.zero).L (C.getD l Ls.zero).L.length
theorem coIn_len (L:List Int) (i q:Nat):(coIn L i q).length=q:=by simp [coIn]
theorem coIn_succ (L:List Int) (i q:Nat):coIn L i (q + 1)=coIn L i q ++ [(L.getD i 0,L.getD (i + 1 + q) 0)]:=by simp [coIn,List.range_succ]
theorem coOne_succ (L:List Int) (k:Nat):coOne L (k + 1)=coOne L k ++ coIn L k (L.length - (k + 1)):=by simp [coOne,List.range_succ]
theorem coAll_succ (C:List Ls) (t:Nat):coAll C (t + 1)=coAll C t ++ coOne (C.getD t Ls.zero).L (C.getD t Ls.zero).L.length:=by simp [coAll,List.range_succ]
theorem coOne_len (L:List Int) (k:Nat) (hL:L.length≤40):(coOne L k).length≤40 * k:=by
 induction k with
 | zero=>simp [coOne]
 | succ k ih=>rw [coOne_succ,List.length_append,coIn_len]; omega
theorem coAll_len (C:List Ls) (t:Nat) (h:∀ q,q < t→(C.getD q Ls.zero).L.length≤40):(coAll C t).length≤1600 * t:=by
 induction t with
 | zero=>simp [coAll]
 | succ t ih=>
  have h1:=coOne_len (C.getD t Ls.zero).L (C.getD t Ls.zero).L.length (h t (by omega))
  have h2:=h t (by omega)
  rw [coAll_succ,List.length_append]
  have:=ih fun q hq=>h q (by omega)
  have:40 * (C.getD t Ls.zero).L.length≤40 * 40:=Nat.mul_le_mul (Nat.le_refl _) h2
  omega
end RelA
set_option maxRecDepth 20000 in
set_option maxHeartbeats 3200000 in
theorem coherence_l (g : Gr) (w : World) (h : LsIn w g.ca g.C) (he : g.E.length ≤ 40) (h4 : g.C.length ≤ 4) (hcc : g.C.length ≤ g.cc) (h40 : ∀ q, q < g.C.length → (g.C.getD q Ls.zero).L.length ≤ 40) :
    Calls Tryz.prog 180 #[g.v] w (Makes g.n (ofM g.n (coAll g.C g.C.length)) w) := by
  have HOF := Lib.hid (fun base v L w hown => of_own g base v L w he hown)
  have HG0 := Lib.hid (GBox.of_alloc w g 27)
  obtain ⟨G, hG⟩ : ∃ G, G = g := ⟨_, rfl⟩
  obtain ⟨locs, ea, E, ec, ra, R, rc, ca, C, cc, ma, Rmw, mc, da, Data, dc, ta, Ctrl, tc, ia, CtrlI, ic⟩ := g
  simp only [Gr.v, Gr.n, gcells] at he HOF h h4 hcc h40 HG0 ⊢
  rw [← hG] at HG0
  have HI := Lib.hid h
  clear h
  obtain ⟨i0, hi, hz0, hz1, hz2⟩ := info_parts info37
  have hmin : min (C.length : Int) 4 = (C.length : Int) := by omega
  have H40 := Lib.hid h40
  clear h40
  go_enter Tryz.func180, Tryz.ntmps180
  go_wp2_with fail
  obtain ⟨w1, hw1⟩ : ∃ x, x = w.alloc (Obj.cells #[.int .i64 locs, .slice ea E.length ec, .slice ra R.length rc, .slice ca C.length cc, .slice ma Rmw.length mc, .slice da Data.length dc, .slice ta Ctrl.length tc, .slice ia CtrlI.length ic] 27 (0, 0)) := ⟨_, rfl⟩
  rw [← hw1] at HG0 ⊢
  have hs1 : w1.heap.size = w.heap.size + 1 := by rw [hw1]; simp
  have HB1 : Hid (Below w.heap.size w w1) := Lib.hid (by rw [hw1]; exact (Below.refl _ _).alloc (Nat.le_refl _) _)
  clear hw1
  have HI1 := Lib.hid (HI.out.next HB1.out)
  clear HI
  go_loopw [3, 18] (fun v x wr => ∃ t : Nat, t ≤ C.length ∧ x = .int .i64 t ∧ wr.ownsRow w1.heap.size 56 2 v (coAll C t).length (icells (coAll C t)) ∧ Below w1.heap.size w1 wr) (fun _ x _ => C.length - (intOf x).toNat)
  case atStart => exact ⟨0, Nat.zero_le _, rfl, ⟨rfl, .inl ⟨rfl, rfl⟩⟩, Below.refl _ _⟩
  case round =>
    obtain ⟨t, htC, rfl, hown, hbe⟩ := hrel
    have hal := coAll_len C t (fun q hq => H40.out q (by omega))
    have HOWN := Lib.hid hown
    clear hown
    by_cases hlt : t < C.length
    · obtain ⟨wo, rfl⟩ : ∃ wo : World, wo = wr := ⟨_, rfl⟩
      have hdk : decide ((t : Int) < (C.length : Int)) = true := by simp; omega
      have hki : (t : Int) < (C.length : Int) := by omega
      have ht4 : (t : Int) < 4 := by omega
      rcases HI1.out with h0 | ⟨b, o, rfl, hbl, hcq⟩
      · rw [h0] at hlt; simp at hlt
      · obtain ⟨c0', hns, hlc⟩ := hcq t hlt
        have c0 := cell_next c0' hbe
        have hL40 := H40.out t hlt
        have HS := Lib.hid (coAll_succ C t)
        clear hcq c0'
        generalize C.getD t Ls.zero = ls at *
        obtain ⟨la, L, lc⟩ := ls
        dsimp only at c0 hns hL40 HS hlc
        have hmn2 : min (L.length : Int) 40 = (L.length : Int) := by omega
        have HNS := Lib.hid hns
        have HBE0 := Lib.hid hbe
        clear hns
        go_wp2_with fail
        go_loopw [3, 29] (fun v x wi => ∃ k : Nat, k ≤ L.length ∧ x = .int .i64 k ∧ wi.ownsRow w1.heap.size 56 2 v (coAll C t ++ coOne L k).length (icells (coAll C t ++ coOne L k)) ∧ Below w1.heap.size w1 wi) (fun _ x _ => L.length - (intOf x).toNat)
        case atStart => exact ⟨0, Nat.zero_le _, rfl, by simp only [coOne, List.range_zero, List.flatMap_nil, List.append_nil]; exact HOWN.out, hbe⟩
        case round =>
          obtain ⟨k, hk, rfl, hown, hbi⟩ := hrel
          have hol := coOne_len L k hL40
          have hlen2 : (coAll C t ++ coOne L k).length ≤ 9000 := by rw [List.length_append]; omega
          have HOWN2 := Lib.hid hown
          clear hown
          by_cases hkl : k < L.length
          · obtain ⟨wo2, rfl⟩ : ∃ wo2 : World, wo2 = wr := ⟨_, rfl⟩
            have hdk2 : decide ((k : Int) < (L.length : Int)) = true := by simp; omega
            have hki2 : (k : Int) < (L.length : Int) := by omega
            have hk40 : (k : Int) < 40 := by omega
            rcases HNS.out.next hbi with h0 | ⟨b2, o2, rfl, hbl2, hcc2⟩
            · rw [h0] at hkl; simp at hkl
            · have d0 := hcc2 k hkl
              clear hcc2
              have HS2 := Lib.hid (coOne_succ L k)
              have hsub : ((L.length : Int) - ((k : Int) + 1)) = ((L.length - (k + 1) : Nat) : Int) := by omega
              have hle1 : ((k : Int) + 1) ≤ (L.length : Int) := by omega
              have hle2 : k + 1 ≤ L.length := by omega
              obtain ⟨ak, hak⟩ : ∃ ak, ak = L.getD k 0 := ⟨_, rfl⟩
              rw [← hak] at d0
              have HAK : Hid (L.getD k 0 = ak) := Lib.hid hak.symm
              clear hak
              by_cases hlk : lc = k + 1
              · go_wp2_with fail
                all_goals (try (exfalso; omega))
                go_loopw [3, 39] (fun v x wj => ∃ q : Nat, q ≤ L.length - (k + 1) ∧ x = .int .i64 q ∧ wj.ownsRow w1.heap.size 56 2 v (coAll C t ++ (coOne L k ++ coIn L k q)).length (icells (coAll C t ++ (coOne L k ++ coIn L k q))) ∧ Below w1.heap.size w1 wj) (fun _ x _ => L.length - (k + 1) - (intOf x).toNat)
                case atStart => exact ⟨0, Nat.zero_le _, rfl, by simp only [coIn, List.range_zero, List.map_nil, List.append_nil]; exact HOWN2.out, hbi⟩
                case round =>
                  obtain ⟨q, hq, rfl, hown, hbj⟩ := hrel
                  have hsj := hbj.size
                  have hil := coIn_len L k q
                  have hlen3 : (coAll C t ++ (coOne L k ++ coIn L k q)).length ≤ 9100 := by rw [List.length_append, List.length_append]; omega
                  have HOWN3 := Lib.hid hown
                  clear hown
                  by_cases hql : q < L.length - (k + 1)
                  · have hdq : decide ((q : Int) < ((L.length - (k + 1) : Nat) : Int)) = true := by simp; omega
                    have hqi : (q : Int) < ((L.length - (k + 1) : Nat) : Int) := by omega
                    have hq40 : (q : Int) < 40 := by omega
                    exfalso; omega
                  · have hqN : q = L.length - (k + 1) := by omega
                    have HQ := Lib.hid hqN
                    have hdq : decide ((q : Int) < ((L.length - (k + 1) : Nat) : Int)) = false := by simp; omega
                    clear hqN
                    go_wp2_with fail
                    go_roundw
                    case rel =>
                      refine ⟨k + 1, by omega, by go_num, ?_, hbj⟩
                      have h1 := HOWN3.out
                      rw [HQ.out, ← HS2.out] at h1
                      exact h1
                    case measure => simp [intOf]; omega
              · go_wp2_with fail
                all_goals (try (exfalso; omega))
                go_loopw [3, 39] (fun v x wj => ∃ q : Nat, q ≤ L.length - (k + 1) ∧ x = .int .i64 q ∧ wj.ownsRow w1.heap.size 56 2 v (coAll C t ++ (coOne L k ++ coIn L k q)).length (icells (coAll C t ++ (coOne L k ++ coIn L k q))) ∧ Below w1.heap.size w1 wj) (fun _ x _ => L.length - (k + 1) - (intOf x).toNat)
                case atStart => exact ⟨0, Nat.zero_le _, rfl, by simp only [coIn, List.range_zero, List.map_nil, List.append_nil]; exact HOWN2.out, hbi⟩
                case round =>
                  obtain ⟨q, hq, rfl, hown, hbj⟩ := hrel
                  have hsj := hbj.size
                  have hil := coIn_len L k q
                  have hlen3 : (coAll C t ++ (coOne L k ++ coIn L k q)).length ≤ 9100 := by rw [List.length_append, List.length_append]; omega
                  have HOWN3 := Lib.hid hown
                  clear hown
                  by_cases hql : q < L.length - (k + 1)
                  · have hdq : decide ((q : Int) < ((L.length - (k + 1) : Nat) : Int)) = true := by simp; omega
                    have hqi : (q : Int) < ((L.length - (k + 1) : Nat) : Int) := by omega
                    have hq40 : (q : Int) < 40 := by omega
                    rcases HNS.out.next hbj with h0 | ⟨b3, o3, hbo, hbl3, hcc3⟩
                    · rw [h0] at hkl; simp at hkl
                    · cases hbo
                      have d1 := hcc3 (k + 1 + q) (by omega)
                      clear hcc3
                      have HS3 := Lib.hid (coIn_succ L k q)
                      rw [HAK.out] at HS3
                      have hoff : o2 + (k + 1 + q) = o2 + (k + 1) + q := by omega
                      rw [hoff] at d1
                      generalize L.getD (k + 1 + q) 0 = bq at *
                      go_wp2_with (first
            | (at_builtin; refine wpList_append_own _ rfl (.tmp 43) (.tmp 47) 25 rfl w1.heap.size 56 i0 (.agg #[.int .i64 0, .int .i64 0]) 2 16 Tryz.underlying25 hi hz0 hz1 hz2 rfl (by decide) _ _ _ rfl (HOWN3.out.alloc _) ⟨wr.heap.size, 0, none⟩ 1 1 [.int .i64 ak, .int .i64 bq] rfl rfl (World.news_of_block (cs := #[.int .i64 ak, .int .i64 bq]) (t := 56) (fr := (0, 0)) (heap_alloc_new wr _)) (by simp [Value.oneCell']) (by unfold maxLen; omega) (by omega) (by simp; omega) ?_; intro v1 w2 hown1 hgrow1 hnil1; have HO1 := Lib.hid hown1; have HG1 := Lib.hid hgrow1; clear hown1 hgrow1 hnil1))
                      go_roundw
                      case rel =>
                        refine ⟨q + 1, by omega, by go_num, ?_, ?_⟩
                        · rw [HS3.out, ← List.append_assoc, ← List.append_assoc, icells_snoc, List.length_append, List.append_assoc (coAll C t)]
                          exact HO1.out
                        · exact (hbj.alloc hsj _).grown HG1.out (by simp; omega) (fun j hj => (HOWN3.out.lt j hj).1)
                      case measure => simp [intOf]; omega
                  · have hqN : q = L.length - (k + 1) := by omega
                    have HQ := Lib.hid hqN
                    have hdq : decide ((q : Int) < ((L.length - (k + 1) : Nat) : Int)) = false := by simp; omega
                    clear hqN
                    go_wp2_with fail
                    go_roundw
                    case rel =>
                      refine ⟨k + 1, by omega, by go_num, ?_, hbj⟩
                      have h1 := HOWN3.out
                      rw [HQ.out, ← HS2.out] at h1
                      exact h1
                    case measure => simp [intOf]; omega
          · have hkN : k = L.length := by omega
            have HQ := Lib.hid hkN
            have hdk2 : decide ((k : Int) < (L.length : Int)) = false := by simp; omega
            clear hkN
            go_wp2_with fail
            go_roundw
            case rel =>
              refine ⟨t + 1, by omega, by go_num, ?_, hbi⟩
              have h1 := HOWN2.out
              rw [HQ.out, ← HS.out] at h1
              exact h1
            case measure => simp [intOf]; omega
    · have hkN : t = C.length := by omega
      subst hkN
      have hdk : decide ((C.length : Int) < (C.length : Int)) = false := by simp
      obtain ⟨c0, c1, c2, c3, c4, c5, c6, c7⟩ := HG0.out.next hbe
      rw [hG] at c0 c1 c2 c3 c4 c5 c6 c7
      dsimp only at c0 c1 c2 c3 c4 c5 c6 c7
      have HBw := Lib.hid (below_next HB1.out hbe)
      have HC := Lib.hid (HOF.out _ _ _ _ HOWN.out)
      go_wp2_with fail
      refine HC.out.mono ?_
      rintro e w3 ⟨d, rfl, hat, hnw, hb3⟩
      have HNW := Lib.hid (Nat.le_trans HBw.out.size hnw)
      clear hnw
      have HA := Lib.hid hat
      have HBf := Lib.hid (below_next HBw.out hb3)
      clear hat hb3
      go_wp2_with fail
      go_ret
      exact ⟨_, rfl, HA.out, HNW.out, HBf.out⟩
end Go.Proofs.YthcnhbclagegeaaGreatDoor
namespace Go.Proofs.YthcnhbclagegeaaGreatDoor
open Go.RowKit RelA
attribute [local go_sem ↓] Go.wp_at_zero Go.wp_at_succ
namespace RelA
structure GOk (g:Gr):Prop where
 c4:g.C.length≤4
 l40:∀ q,q < g.C.length→(g.C.getD q Ls.zero).L.length≤40
noncomputable def rfM (g:Gr):Nat→Nat→Bool:=ofM g.n (rfL g.R g.R.length)
noncomputable def coM (g:Gr):Nat→Nat→Bool:=ofM g.n (coAll g.C g.C.length)
noncomputable def frM (g:Gr):Nat→Nat→Bool:=seqM (backM (rfM g)) (coM g)
end RelA
end Go.Proofs.YthcnhbclagegeaaGreatDoor
namespace Go.Proofs.YthcnhbclagegeaaGreatDoor
open Go.RowKit RelA
namespace RelA
def noneM:Nat→Nat→Bool:=fun _ _=>false
theorem or_none (M:Nat→Nat→Bool):orM noneM M=M:=by funext i j; unfold orM noneM; simp
noncomputable def ecoM (g:Gr):Nat→Nat→Bool:=plusM (orM (orM (rfM g) (coM g)) (frM g))
theorem pin_none (w:World):PIn w none [] 0:=.inl ⟨rfl,rfl,rfl⟩
end RelA
end Go.Proofs.YthcnhbclagegeaaGreatDoor
namespace Go.Proofs.YthcnhbclagegeaaGreatDoor
open Go.RowKit RelA
attribute [local go_sem ↓] Go.wp_at_zero Go.wp_at_succ
namespace RelA
structure Pm where
 d:Nat
 M:Nat→Nat→Bool
def Pm.zero:Pm:=⟨0,fun _ _=>false⟩
def PsIn (w:World) (a:Option Addr) (L:List Pm) (n:Nat):Prop:=
 L=[] ∨ ∃ b,a=some ⟨b,0,none⟩∧b < w.heap.size∧∀ q,q < L.length→w.cell? ⟨b,q,none⟩=some (.pointer (some ⟨(L.getD q Pm.zero).d,0,none⟩))∧Rl w (L.getD q Pm.zero).d n (L.getD q Pm.zero).M
theorem PsIn.next {w w':World} {a:Option Addr} {L:List Pm} {n:Nat} (h:PsIn w a L n) (hb:Below w.heap.size w w'):PsIn w' a L n:=by
 rcases h with h | ⟨b,h1,h2,h3⟩
 ·exact .inl h
 ·exact .inr ⟨b,h1,Nat.lt_of_lt_of_le h2 hb.size,fun q hq=>⟨cell_next (h3 q hq).1 hb,(h3 q hq).2.next hb⟩⟩
theorem Rl.alloc {w:World} {d n:Nat} {M:Nat→Nat→Bool} (h:Rl w d n M) (o:Obj):Rl (w.alloc o) d n M:=h.next ((Below.refl _ _).alloc (Nat.le_refl _) o)
end RelA
namespace RelA
def evM (g:Gr) (kind:Int) (modes:List Int):Nat→Nat→Bool:=diagM g.n fun i=>evB kind modes (Ev.at g.E i)
theorem nsin_none (w:World):NsIn w none []:=.inl rfl
end RelA
set_option maxRecDepth 20000 in
set_option maxHeartbeats 3200000 in
theorem events_l (g:Gr) (kind:Int) (mo:Option Addr) (modes:List Int) (moc:Nat) (w:World) (h:GIn w g) (hm:NsIn w mo modes) (hl:modes.length≤10) :
  Calls Tryz.prog 65 #[g.v,.int .i64 kind,.slice mo modes.length moc] w (Makes g.n (evM g kind modes) w):=by
 have HC:=Lib.hid (fun kb mb w' (hb:Below w.heap.size w w') hk hm2=>set_ev g kb mb kind mo modes moc w' (h.es.next hb) h.e40 h.ecap hk hm2 (hm.next hb) hl)
 unfold evM
 have HG0:=Lib.hid (GBox.of_alloc w g 27)
 obtain ⟨G,hG⟩:∃ G,G=g:=⟨_,rfl⟩
 obtain ⟨locs,ea,E,ec,ra,R,rc,ca,C,cc,ma,Rmw,mc,da,Data,dc,ta,Ctrl,tc,ia,CtrlI,ic⟩:=g
 simp only [Gr.v,Gr.n,gcells] at HC HG0 ⊢
 rw [← hG] at HG0
 clear h hm HG0 hG
 go_enter Tryz.func65,Tryz.ntmps65
 go_wp2_with fail
 obtain ⟨w1,hw1⟩:∃ x,x=w.alloc (Obj.cells #[.int .i64 locs,.slice ea E.length ec,.slice ra R.length rc,.slice ca C.length cc,.slice ma Rmw.length mc,.slice da Data.length dc,.slice ta Ctrl.length tc,.slice ia CtrlI.length ic] 27 (0,0)):=⟨_,rfl⟩
 have hs1:w1.heap.size=w.heap.size + 1:=by rw [hw1]; simp
 obtain ⟨w2,hw2⟩:∃ x,x=w1.alloc (Obj.cells #[.int .i64 kind] 3 (0,0)):=⟨_,rfl⟩
 have hs2:w2.heap.size=w.heap.size + 1 + 1:=by rw [hw2]; simp [hs1]
 obtain ⟨w3,hw3⟩:∃ x,x=w2.alloc (Obj.cells #[.slice mo modes.length moc] 23 (0,0)):=⟨_,rfl⟩
 rw [← hw1,← hw2,← hw3]
 have b1:Below w.heap.size w w1:=by rw [hw1]; exact (Below.refl _ _).alloc (Nat.le_refl _) _
 have b2:Below w1.heap.size w1 w2:=by rw [hw2]; exact (Below.refl _ _).alloc (Nat.le_refl _) _
 have b3:Below w2.heap.size w2 w3:=by rw [hw3]; exact (Below.refl _ _).alloc (Nat.le_refl _) _
 have hk:w3.cell? ⟨w.heap.size + 1,0,none⟩=some (.int .i64 kind):=cell_next (by rw [← hs1,hw2,cell_of_row _ _ _ _ _ _ (heap_alloc_new _ _)]; rfl) b3
 have hm2:w3.cell? ⟨w.heap.size + 1 + 1,0,none⟩=some (.slice mo modes.length moc):=by rw [← hs2,hw3,cell_of_row _ _ _ _ _ _ (heap_alloc_new _ _)]; rfl
 have HB:=Lib.hid (below_next (below_next b1 b2) b3)
 have HK:=Lib.hid (HC.out _ _ w3 HB.out hk hm2)
 clear hw1 hw2 hw3 b1 b2 b3 hk hm2 HC
 refine HK.out.mono ?_
 rintro e w4 ⟨d,rfl,hat,hnw,hbe⟩
 have HNW:=Lib.hid (Nat.le_trans HB.out.size hnw)
 clear hnw
 have HA:=Lib.hid hat
 have HB4:=Lib.hid (below_next HB.out hbe)
 clear hat hbe
 go_wp2_with fail
 go_ret
 exact ⟨_,rfl,HA.out,HNW.out,HB4.out⟩
end Go.Proofs.YthcnhbclagegeaaGreatDoor
namespace Go.Proofs.YthcnhbclagegeaaGreatDoor
open Go.RowKit RelA
attribute [local go_sem ↓] Go.wp_at_zero Go.wp_at_succ
namespace RelA
structure Bl (w W:World):Prop where
 out:Below w.heap.size w W
noncomputable def rsM (g:Gr):Nat→Nat→Bool:=orM (seqM (seqM (evM g 2 []) (locM g.E)) (evM g 2 [])) (seqM (evM g 2 []) (starM g.n (seqM (seqM (maybeM g.n (locM g.E)) (rfM g)) (ofM g.n g.Rmw))))
end RelA
end Go.Proofs.YthcnhbclagegeaaGreatDoor
namespace Go.Proofs.YthcnhbclagegeaaGreatDoor
open Go.RowKit RelA
attribute [local go_sem ↓] Go.wp_at_zero Go.wp_at_succ
namespace RelA
noncomputable def releaseM (g:Gr):Nat→Nat→Bool:=seqM (orM (evM g 2 [2]) (seqM (evM g 3 [2,3,4]) (poM g.E))) (rsM g)
noncomputable def swM (g:Gr):Nat→Nat→Bool:=
 seqM (seqM (releaseM g) (orM (innerM g.E (rfM g)) (seqM (maybeM g.n (locM g.E)) (outerM g.E (rfM g))))) (orM (evM g 1 [1]) (seqM (poM g.E) (evM g 3 [1,3,4])))
noncomputable def hbM (g:Gr):Nat→Nat→Bool:=plusM (orM (poM g.E) (swM g))
end RelA
end Go.Proofs.YthcnhbclagegeaaGreatDoor
