/-
  The calls of chapter 11 that are told to the runner. Conditions: a graph that may be, in memory, the table of bits in its variable.
-/
import Derived.Test.YthcnhbclagegeaaGreatDoorMr
import Derived.Deep.RegionWith
import Derived.Deep.DrawnRows
import Derived.Laws.EntriesVeiled
import Derived.Test.YthcnhbclagegeaaGreatDoorMl
import Derived.BigRegion
import Derived.Deep.RegionHeld3
import Derived.Test.YthcnhbclagegeaaGreatDoorMs
namespace Go.Proofs.YthcnhbclagegeaaGreatDoor
open Go.RowKit RelA
attribute [local go_sem ↓] Go.wp_at_zero Go.wp_at_succ
set_option maxRecDepth 20000 in
set_option maxHeartbeats 3200000 in
theorem ex1 (e:Ev) (w:World):Calls Tryz.prog 79 #[e.v] w fun en w'=>en=.returned (.bool (exB e))∧Below w.heap.size w w':=by
 obtain ⟨x0,x1,x2,x3,x4,x5⟩:=e
 unfold exB Ev.v
 dsimp only
 have HB:Hid (Below w.heap.size w (w.alloc (Obj.cells #[.int .i64 x0,.int .i64 x1,.int .i64 x2,.int .i64 x3,.int .i64 x4,.bool x5] 53 (0,0)))):=Lib.hid ((Below.refl _ _).alloc (Nat.le_refl _) _)
 by_cases h1:x1=1
 ·have d1:(x1 == 1)=true:=by simp [h1]
  have HR:Hid (((x1 == 1) && x5)=x5):=Lib.hid (by simp [h1])
  rw [HR.out]
  clear h1
  go_enter Tryz.func79,Tryz.ntmps79
  go_wp2_with fail
  go_ret
  exact ⟨rfl,HB.out⟩
 ·have d1:(x1 == 1)=false:=by simp [h1]
  have HR:Hid (((x1 == 1) && x5)=false):=Lib.hid (by simp [h1])
  rw [HR.out]
  clear h1
  go_enter Tryz.func79,Tryz.ntmps79
  go_wp2_with fail
  go_ret
  exact ⟨rfl,HB.out⟩
set_option maxRecDepth 20000 in
set_option maxHeartbeats 3200000 in
theorem has_ex (ea:Option Addr) (E:List Ev) (ec:Nat) (i:Nat) (w:World) (h:EsIn w ea E) (hi:i < E.length) (hE:E.length≤100) :
  Calls Tryz.prog 153 #[.agg #[.slice ea E.length ec,.func (.func 79) #[] #[]],.int .i64 i] w fun en w'=>en=.returned (.bool (exB (Ev.at E i)))∧Below w.heap.size w w':=by
 have HC:=Lib.hid (fun (w':World) (_:Below w.heap.size w w')=>ex1 (Ev.at E i) w')
 have hlt:=hi
 have hdk:decide ((i:Int) < (E.length:Int))=true:=by simp; omega
 have hqi:(i:Int) < (E.length:Int):=by omega
 have hi100:(i:Int) < 100:=by omega
 have hd0:decide ((0:Int)≤(i:Int))=true:=by simp
 have HB:Hid (∀ o,Below w.heap.size w ((w.alloc o).drew)):=Lib.hid (fun o=>((Below.refl _ _).alloc (Nat.le_refl _) o).drew)
 rcases h.next ((Below.refl w.heap.size w).alloc (Nat.le_refl _) (Obj.cells #[.slice ea E.length ec,.func (.func 79) #[] #[]] 102 (0,0))) with h0 | ⟨b,o,rfl,hbl,hcc⟩
 ·rw [h0] at hlt; simp at hlt
 ·obtain ⟨d0,d1,d2,d3,d4,d5⟩:=hcc i hi
  clear hcc h hi
  change _=some (Value.int _ (Ev.at E i).th) at d0
  change _=some (Value.int _ (Ev.at E i).kd) at d1
  change _=some (Value.int _ (Ev.at E i).md) at d2
  change _=some (Value.int _ (Ev.at E i).lc) at d3
  change _=some (Value.int _ (Ev.at E i).vl) at d4
  change _=some (Value.bool (Ev.at E i).ex) at d5
  generalize Ev.at E i=ev at *
  obtain ⟨x0,x1,x2,x3,x4,x5⟩:=ev
  dsimp only [Ev.v] at d0 d1 d2 d3 d4 d5 HC
  generalize exB ⟨x0,x1,x2,x3,x4,x5⟩=pb at *
  go_enter Tryz.func153,Tryz.ntmps153
  go_wp2_with fail
  go_region_with (first
   | (go_at_call 79; refine (HC.out _ (HB.out _)).mono ?_; rintro en w' ⟨rfl,hb2⟩; have HB2:=Lib.hid (below_next (HB.out _) hb2); clear hb2))
  all_goals go_wp2_with fail
  all_goals go_ret
  all_goals exact ⟨rfl,HB2.out⟩
end Go.Proofs.YthcnhbclagegeaaGreatDoor
namespace Go.Proofs.YthcnhbclagegeaaGreatDoor
open Go.RowKit RelA
set_option maxRecDepth 20000 in
set_option maxHeartbeats 3200000 in
theorem set_ex (g:Gr) (w:World) (h:EsIn w g.ea g.E) (he:g.E.length≤40) (hc:g.E.length≤g.ec) :
  Calls Tryz.prog 78 #[g.v,.func (.func 79) #[] #[]] w (Makes g.n (diagM g.n fun i=>exB (Ev.at g.E i)) w):=by
 have HOF:=Lib.hid (fun base v L w hown=>of_own g base v L w he hown)
 have HH:=Lib.hid (fun i (hi:i < g.E.length) w' (hb:Below w.heap.size w w')=>has_ex g.ea g.E g.ec i w' (h.next hb) hi (by omega))
 have HG0:=Lib.hid (GBox.of_alloc w g 27)
 obtain ⟨G,hG⟩:∃ G,G=g:=⟨_,rfl⟩
 obtain ⟨locs,ea,E,ec,ra,R,rc,ca,C,cc,ma,Rmw,mc,da,Data,dc,ta,Ctrl,tc,ia,CtrlI,ic⟩:=g
 simp only [Gr.v,Gr.n,gcells] at he hc HOF h HH HG0 ⊢
 rw [← hG] at HG0
 have HI:=Lib.hid h
 clear h
 obtain ⟨i0,hi,hz0,hz1,hz2⟩:=info_parts info37
 have hmin:min (E.length:Int) 40=(E.length:Int):=by omega
 have HP:=Lib.hid (rfl:(fun i=>exB (Ev.at E i))=fun i=>exB (Ev.at E i))
 go_enter Tryz.func78,Tryz.ntmps78
 go_wp2_with fail
 obtain ⟨w0,hw0⟩:∃ x,x=w.alloc (Obj.cells #[.int .i64 locs,.slice ea E.length ec,.slice ra R.length rc,.slice ca C.length cc,.slice ma Rmw.length mc,.slice da Data.length dc,.slice ta Ctrl.length tc,.slice ia CtrlI.length ic] 27 (0,0)):=⟨_,rfl⟩
 rw [← hw0] at HG0 ⊢
 have hs0:w0.heap.size=w.heap.size + 1:=by rw [hw0]; simp
 obtain ⟨w1,hw1⟩:∃ x,x=w0.alloc (Obj.cells #[.slice ea E.length ec,.func (.func 79) #[] #[]] 102 (0,0)):=⟨_,rfl⟩
 rw [← hw1]
 have hs1:w1.heap.size=w.heap.size + 2:=by rw [hw1]; simp; omega
 have hb01:Below w0.heap.size w0 w1:=by rw [hw1]; exact (Below.refl _ _).alloc (Nat.le_refl _) _
 have HB1:Hid (Below w.heap.size w w1):=Lib.hid (below_next (by rw [hw0]; exact (Below.refl _ _).alloc (Nat.le_refl _) _) hb01)
 have HGx:=Lib.hid (HG0.out.next hb01)
 have f0:w1.cell? ⟨w.heap.size + 1,0,none⟩=some (.slice ea E.length ec):=by rw [hw1,← hs0,cell_of_row _ _ _ _ _ _ (heap_alloc_new _ _)]; rfl
 have f1:w1.cell? ⟨w.heap.size + 1,1,none⟩=some (.func (.func 79) #[] #[]):=by rw [hw1,← hs0,cell_of_row _ _ _ _ _ _ (heap_alloc_new _ _)]; rfl
 have F0:=Lib.hid f0
 have F1:=Lib.hid f1
 clear hw1 hw0 hb01 HG0 f0 f1 hs0
 have HI1:=Lib.hid (HI.out.next HB1.out)
 clear HI
 generalize hpp:(fun i=>exB (Ev.at E i))=p at *
 go_loopw [6,20] (fun v x wr=>∃ k:Nat,k≤E.length∧x=.int .i64 k∧wr.ownsRow w1.heap.size 56 2 v (seL p k).length (pairCells (seL p k))∧Below w1.heap.size w1 wr) (fun _ x _=>E.length - (intOf x).toNat)
 case atStart=>exact ⟨0,Nat.zero_le _,rfl,⟨rfl,.inl ⟨rfl,rfl⟩⟩,Below.refl _ _⟩
 case round=>
  obtain ⟨k,hk,rfl,hown,hbe⟩:=hrel
  have hsz:=hbe.size
  have hsl:=seL_len p k
  have HOWN:=Lib.hid hown
  clear hown
  by_cases hlt:k < E.length
  ·have hdk:decide ((k:Int) < (E.length:Int))=true:=by simp; omega
   have hki:(k:Int) < (E.length:Int):=by omega
   have hk40:(k:Int) < 40:=by omega
   have f0:=cell_next F0.out hbe
   have f1:=cell_next F1.out hbe
   have hpk:exB (Ev.at E k)=p k:=by rw [← hpp]
   have HC:=Lib.hid (HH.out k hlt wr (below_next HB1.out hbe))
   rw [hpk] at HC
   clear hpk
   go_wp2_with fail
   refine HC.out.mono ?_
   rintro e w3 ⟨rfl,hb3⟩
   have hbe3:=below_trans1 hbe hsz hb3
   have hsz3:=hbe3.size
   have HO3:=Lib.hid (own_next HOWN.out hb3)
   clear f0 f1 HC
   cases hpv:p k
   ·have HX:=Lib.hid hpv
    clear hpv
    go_wp2_with fail
    go_roundw
    case rel=>exact ⟨k + 1,by omega,by go_num,by rw [seL_no p k HX.out]; exact HO3.out,hbe3⟩
    case measure=>simp [intOf]; omega
   ·have HX:=Lib.hid hpv
    clear hpv
    have hb3s:=hbe3
    go_wp2_with (first
     | (at_builtin; refine wpList_append_own _ rfl (.tmp 26) (.tmp 30) 25 rfl w1.heap.size 56 i0 (.agg #[.int .i64 0,.int .i64 0]) 2 16 Tryz.underlying25 hi hz0 hz1 hz2 rfl (by decide) _ _ _ rfl (HO3.out.alloc _) ⟨w3.heap.size,0,none⟩ 1 1 [.int .i64 k,.int .i64 k] rfl rfl (World.news_of_block (cs:=#[.int .i64 k,.int .i64 k]) (t:=56) (fr:=(0,0)) (heap_alloc_new w3 _)) (by simp [Value.oneCell']) (by unfold maxLen; omega) (by omega) (by simp; omega) ?_; intro v1 w2 hown1 hgrow1 hnil1; have HO1:=Lib.hid hown1; have HG1:=Lib.hid hgrow1; clear hown1 hgrow1 hnil1))
    go_roundw
    case rel=>
     refine ⟨k + 1,by omega,by go_num,?_,?_⟩
     ·rw [seL_yes p k HX.out,pairCells_snoc,List.length_append]
      exact HO1.out
     ·exact (hbe3.alloc hsz3 _).grown HG1.out (by simp; omega) (fun j hj=>(HO3.out.lt j hj).1)
    case measure=>simp [intOf]; omega
  ·have hkN:k=E.length:=by omega
   subst hkN
   have hdk:decide ((E.length:Int) < (E.length:Int))=false:=by simp
   obtain ⟨c0,c1,c2,c3,c4,c5,c6,c7⟩:=HGx.out.next hbe
   rw [hG] at c0 c1 c2 c3 c4 c5 c6 c7
   dsimp only at c0 c1 c2 c3 c4 c5 c6 c7
   have HBw:=Lib.hid (below_next HB1.out hbe)
   have HC:=Lib.hid (HOF.out _ _ _ _ (own_cast HOWN.out))
   have HEQ:=Lib.hid (ofM_diag E.length p)
   rw [HEQ.out] at HC
   go_wp2_with fail
   refine HC.out.mono ?_
   rintro e w3 ⟨d,rfl,hat,hnw,hb3⟩
   have HNW:=Lib.hid (Nat.le_trans HBw.out.size hnw)
   clear hnw
   have HA:=Lib.hid hat
   have HBf:=Lib.hid (below_next HBw.out hb3)
   clear hat hb3
   go_wp2_with fail
   go_ret
   exact ⟨_,rfl,(by rw [hpp]; exact HA.out),HNW.out,HBf.out⟩
end Go.Proofs.YthcnhbclagegeaaGreatDoor
namespace Go.Proofs.YthcnhbclagegeaaGreatDoor
open Go.RowKit RelA
attribute [local irreducible] RelA.rcells
attribute [local go_sem ↓] Go.wp_at_zero Go.wp_at_succ
theorem rof_in (g:Gr) (a:Option Addr) (L:List (Int × Int)) (c:Nat) (w:World) (he:g.E.length≤40) (hl:L.length≤300) (h:PIn w a L c) :
  Calls Tryz.prog 100 #[g.v,.slice a L.length c] w (MakesR g.n (ofM g.n L) w):=by
 obtain ⟨locs,ea,E,ec,ra,R,rc,ca,C,cc,ma,Rmw,mc,da,Data,dc,ta,Ctrl,tc,ia,CtrlI,ic⟩:=g
 simp only [Gr.v,Gr.n] at he ⊢
 have H:=Lib.hid (fun o=>rnewin_l E.length a L c (w.alloc o) he hl (h.next ((Below.refl _ _).alloc (Nat.le_refl _) o)))
 clear h he hl
 go_enter Tryz.func100,Tryz.ntmps100
 go_wp2_with fail
 refine (H.out _).mono ?_
 rintro e w' ⟨d,rfl,hat,hnw,hbe⟩
 have HNW:Hid (w.heap.size≤d):=Lib.hid (by have:=hnw; simp at this; omega)
 have HA:=Lib.hid hat
 have HB:=Lib.hid (below_next ((Below.refl _ _).alloc (Nat.le_refl _) _) hbe)
 clear hat hbe hnw
 go_wp2_with fail
 go_ret
 exact ⟨_,rfl,HA.out,HNW.out,HB.out⟩
namespace RelA
theorem Rr.far {w w':World} {b n d:Nat} {M:Nat→Nat→Bool} (h:Rr w b n M) (hb:Below d w w') (hd:b < d):Rr w' b n M:=by
 obtain ⟨h1,h2⟩:=h
 refine ⟨?_,h2⟩
 unfold RAt at h1 ⊢
 rw [hb.block b hd,h1]
end RelA
set_option maxRecDepth 20000 in
set_option maxHeartbeats 6400000 in
theorem rdeps_l (g:Gr) (w:World) (hg:GIn w g) (hth:ThOk g.E) :
  Calls Tryz.prog 29 #[g.v] w (MakesR g.n (depsM g) w):=by
 have h:=hg.es
 have he:=hg.e40
 have HPO:=Lib.hid (fun w' (hb:Below w.heap.size w w')=>rpo_p g w' (hg.es.next hb) hg.e40 hth)
 have HD:=Lib.hid (fun w' (hb:Below w.heap.size w w')=>rof_in g g.da g.Data g.dc w' hg.e40 hg.d300 (hg.data.next hb))
 have HT:=Lib.hid (fun w' (hb:Below w.heap.size w w')=>rof_in g g.ta g.Ctrl g.tc w' hg.e40 hg.t300 (hg.ctrl.next hb))
 have hF:depsM g=orM (orM (ofM g.n g.Data) (ofM g.n g.Ctrl)) (seqM (diagM g.n fun i=>exB (Ev.at g.E i)) (poM g.E)):=rfl
 rw [hF]
 clear hF hg hth
 generalize poM g.E=MPO at *
 generalize ofM g.n g.Data=MD at *
 generalize ofM g.n g.Ctrl=MT at *
 have HG0:=Lib.hid (GBox.of_alloc w g 27)
 obtain ⟨G,hG⟩:∃ G,G=g:=⟨_,rfl⟩
 obtain ⟨locs,ea,E,ec,ra,R,rc,ca,C,cc,ma,Rmw,mc,da,Data,dc,ta,Ctrl,tc,ia,CtrlI,ic⟩:=g
 simp only [Gr.v,Gr.n,gcells] at he h HPO HD HT HG0 ⊢
 rw [← hG] at HG0
 have HI:=Lib.hid h
 clear h
 obtain ⟨p,hp⟩:∃ p,p=fun i=>exB (Ev.at E i):=⟨_,rfl⟩
 rw [← hp]
 go_enter Tryz.func29,Tryz.ntmps29
 go_wp2_with fail
 obtain ⟨w1,hw1⟩:∃ x,x=w.alloc (Obj.cells #[.int .i64 locs,.slice ea E.length ec,.slice ra R.length rc,.slice ca C.length cc,.slice ma Rmw.length mc,.slice da Data.length dc,.slice ta Ctrl.length tc,.slice ia CtrlI.length ic] 27 (0,0)):=⟨_,rfl⟩
 rw [← hw1] at HG0 ⊢
 have hs1:w1.heap.size=w.heap.size + 1:=by rw [hw1]; simp
 have HB1:Hid (Below w.heap.size w w1):=Lib.hid (by rw [hw1]; exact (Below.refl _ _).alloc (Nat.le_refl _) _)
 clear hw1
 have HI1:=Lib.hid (HI.out.next HB1.out)
 clear HI
 have HS1:=Lib.hid hs1
 clear hs1
 obtain ⟨c0,c1,c2,c3,c4,c5,c6,c7⟩:=HG0.out
 rw [hG] at c0 c1 c2 c3 c4 c5 c6 c7
 dsimp only at c0 c1 c2 c3 c4 c5 c6 c7
 have hBl:Bl w1 w1:=⟨Below.refl _ _⟩
 go_region_held3 (fun W=>W.cell? ⟨w.heap.size,0,none⟩=some (.int .i64 locs)∧W.cell? ⟨w.heap.size,1,none⟩=some (.slice ea E.length ec)∧W.cell? ⟨w.heap.size,2,none⟩=some (.slice ra R.length rc)∧W.cell? ⟨w.heap.size,3,none⟩=some (.slice ca C.length cc)∧W.cell? ⟨w.heap.size,4,none⟩=some (.slice ma Rmw.length mc)∧W.cell? ⟨w.heap.size,5,none⟩=some (.slice da Data.length dc)∧W.cell? ⟨w.heap.size,6,none⟩=some (.slice ta Ctrl.length tc)∧W.cell? ⟨w.heap.size,7,none⟩=some (.slice ia CtrlI.length ic)∧Bl w1 W)
  (first | (go_split_ands; exact ⟨cell_next ‹_› hbe,cell_next ‹_› hbe,cell_next ‹_› hbe,cell_next ‹_› hbe,cell_next ‹_› hbe,cell_next ‹_› hbe,cell_next ‹_› hbe,cell_next ‹_› hbe,⟨below_next (Bl.out ‹_›) hbe⟩⟩) | (go_split_ands; exact ⟨cell_next ‹_› (Below.refl _ _).drew,cell_next ‹_› (Below.refl _ _).drew,cell_next ‹_› (Below.refl _ _).drew,cell_next ‹_› (Below.refl _ _).drew,cell_next ‹_› (Below.refl _ _).drew,cell_next ‹_› (Below.refl _ _).drew,cell_next ‹_› (Below.refl _ _).drew,cell_next ‹_› (Below.refl _ _).drew,⟨(Bl.out ‹_›).drew⟩⟩) | (go_split_ands; exact ⟨cell_next ‹_› ((Below.refl _ _).alloc (Nat.le_refl _) _),cell_next ‹_› ((Below.refl _ _).alloc (Nat.le_refl _) _),cell_next ‹_› ((Below.refl _ _).alloc (Nat.le_refl _) _),cell_next ‹_› ((Below.refl _ _).alloc (Nat.le_refl _) _),cell_next ‹_› ((Below.refl _ _).alloc (Nat.le_refl _) _),cell_next ‹_› ((Below.refl _ _).alloc (Nat.le_refl _) _),cell_next ‹_› ((Below.refl _ _).alloc (Nat.le_refl _) _),cell_next ‹_› ((Below.refl _ _).alloc (Nat.le_refl _) _),⟨below_next (Bl.out ‹_›) ((Below.refl _ _).alloc (Nat.le_refl _) _)⟩⟩) | fail "keep")
  (first | (go_at_call 96; have hgd:=HA2; clear hgd; refine (ror_l _ _ _ _ _ _ HA1.out HA2.out he).mono ?_; rintro e wn ⟨d3,rfl,hat,hnw,hbe⟩; have HA3:=Lib.hid hat; clear hat hnw HA1 HA2) | (go_at_call 100; have hgd:=HA1; clear hgd; refine (HT.out _ (below_next HB1.out (Bl.out (by go_split_ands; assumption)))).mono ?_; rintro e wn ⟨d2,rfl,hat,hnw,hbe⟩; have HA2:=Lib.hid hat; have HA1:=Lib.hid (HA1.out.next hbe); clear hat hnw) | (go_at_call 100; refine (HD.out _ (below_next HB1.out (Bl.out (by go_split_ands; assumption)))).mono ?_; rintro e wn ⟨d1,rfl,hat,hnw,hbe⟩; have HA1:=Lib.hid hat; clear hat hnw))
 go_split_ands
 have HB:=Lib.hid (Bl.out ‹Bl w1 _›)
 have HGB:Hid (GBox _ w.heap.size G):=Lib.hid (show GBox _ w.heap.size G by rw [hG]; exact ⟨‹_›,‹_›,‹_›,‹_›,‹_›,‹_›,‹_›,‹_›⟩)
 go_wp2_with fail
 refine (rnew_l E.length _ he).mono ?_
 rintro e w2 ⟨d,rfl,hat,hnw,hbe1⟩
 have HNW:=Lib.hid (Nat.le_trans HB.out.size hnw)
 have HA3lt:=Lib.hid (show d3 < d from Nat.lt_of_lt_of_le (Array.getElem?_eq_some_iff.1 HA3.out.at_).1 hnw)
 have HA3:=Lib.hid (HA3.out.next hbe1)
 have HAT1:=Lib.hid hat.at_
 have HBE1:=Lib.hid (below_next HB.out hbe1)
 have HGB:=Lib.hid (HGB.out.next hbe1)
 clear hat hbe1 hnw HB
 obtain ⟨c0,c1,c2,c3,c4,c5,c6,c7⟩:=HGB.out
 rw [hG] at c0 c1 c2 c3 c4 c5 c6 c7
 dsimp only at c0 c1 c2 c3 c4 c5 c6 c7
 go_wp2_with fail
 go_loopw [5] (fun x wr=>∃ k:Nat,k≤E.length∧x=.int .i64 k∧RAt wr d E.length (dgTo E.length k p)∧Below w1.heap.size w1 wr∧Below d w2 wr) (fun x _=>E.length - (intOf x).toNat)
 case atStart=>exact ⟨0,Nat.zero_le _,rfl,HAT1.out.congr fun i j _ _=>dgTo_zero _ _ i j,HBE1.out,Below.refl _ _⟩
 case round=>
  obtain ⟨k,hk,rfl,hat,hbe,hbd⟩:=hrel
  clear c0 c1 c2 c3 c4 c5 c6 c7
  by_cases hlt:k < E.length
  ·have hr0:=hat.c0
   have hdk:decide ((k:Int) < (E.length:Int))=true:=by simp; omega
   have hki:(k:Int) < (E.length:Int):=by omega
   have hk40:(k:Int) < 40:=by omega
   have hpk:p k=exB (Ev.at E k):=by rw [hp]
   obtain ⟨c0,c1,c2,c3,c4,c5,c6,c7⟩:=HG0.out.next hbe
   rw [hG] at c0 c1 c2 c3 c4 c5 c6 c7
   dsimp only at c0 c1 c2 c3 c4 c5 c6 c7
   clear c0 c2 c3 c4 c5 c6 c7
   rcases HI1.out.next hbe with h0 | ⟨b,o,rfl,hbl,hcc⟩
   ·rw [h0] at hlt; simp at hlt
   ·obtain ⟨d0,d1,d2,d3x,d4,d5⟩:=hcc k hlt
    clear hcc
    change _=some (Value.int _ (Ev.at E k).th) at d0
    change _=some (Value.int _ (Ev.at E k).kd) at d1
    change _=some (Value.int _ (Ev.at E k).md) at d2
    change _=some (Value.int _ (Ev.at E k).lc) at d3x
    change _=some (Value.int _ (Ev.at E k).vl) at d4
    change _=some (Value.bool (Ev.at E k).ex) at d5
    generalize Ev.at E k=ev at *
    obtain ⟨x0,x1,x2,x3,x4,x5⟩:=ev
    unfold exB at hpk
    dsimp only at d0 d1 d2 d3x d4 d5 hpk
    have hd:=hat.ci k k (by omega) (by omega)
    rw [dgTo_at] at hd
    have hfz:=hat.frozen (1 + k * 40 + k)
    have HAT3:=Lib.hid hat
    have HST:=Lib.hid (dgTo_step E.length k p)
    have HBE3:=Lib.hid hbe
    have HBD3:=Lib.hid hbd
    clear hat hbe hbd d0 d2 d3x d4
    cases e1:(x1 == 1)
    ·have HX:Hid (p k=false):=Lib.hid (by rw [hpk,e1]; rfl)
     clear hpk
     go_wp2_with fail
     go_region
     go_wp2_with fail
     go_roundw
     case rel=>
      refine ⟨k + 1,by omega,by go_num,?_,(HBE3.out.setCell HNW.out _).drew,(HBD3.out.setCell (Nat.le_refl _) _).drew⟩
      have h1:=HAT3.out.set k k (p k) (by omega) (by omega)
      have h2:=(h1.congr fun i j _ _=>HST.out i j).drew
      rw [HX.out] at h2
      exact h2
     case measure=>simp [intOf]; omega
    ·cases x5
     ·have HX:Hid (p k=false):=Lib.hid (by rw [hpk,e1]; rfl)
      clear hpk
      go_wp2_with fail
      go_region
      go_wp2_with fail
      go_roundw
      case rel=>
       refine ⟨k + 1,by omega,by go_num,?_,(HBE3.out.setCell HNW.out _).drew,(HBD3.out.setCell (Nat.le_refl _) _).drew⟩
       have h1:=HAT3.out.set k k (p k) (by omega) (by omega)
       have h2:=(h1.congr fun i j _ _=>HST.out i j).drew
       rw [HX.out] at h2
       exact h2
      case measure=>simp [intOf]; omega
     ·have HX:Hid (p k=true):=Lib.hid (by rw [hpk,e1]; rfl)
      clear hpk
      go_wp2_with fail
      go_region
      go_wp2_with fail
      go_roundw
      case rel=>
       refine ⟨k + 1,by omega,by go_num,?_,(HBE3.out.setCell HNW.out _).drew,(HBD3.out.setCell (Nat.le_refl _) _).drew⟩
       have h1:=HAT3.out.set k k (p k) (by omega) (by omega)
       have h2:=(h1.congr fun i j _ _=>HST.out i j).drew
       rw [HX.out] at h2
       exact h2
      case measure=>simp [intOf]; omega
  ·have hkN:k=E.length:=by omega
   have hdk:decide ((k:Int) < (E.length:Int))=false:=by simp; omega
   have hwb:=below_next HB1.out hbe
   have HBf:=Lib.hid hwb
   have HRp:Hid (Rr wr d E.length (diagM E.length p)):=Lib.hid ⟨hat.congr fun i j _ _=>dgTo_full E.length k p hkN i j,wf_diag _ _⟩
   have HA3:=Lib.hid (HA3.out.far hbd HA3lt.out)
   obtain ⟨c0,c1,c2,c3,c4,c5,c6,c7⟩:=HG0.out.next hbe
   rw [hG] at c0 c1 c2 c3 c4 c5 c6 c7
   dsimp only at c0 c1 c2 c3 c4 c5 c6 c7
   clear hkN hat hbe hbd hwb
   go_wp2_with fail
   refine (HPO.out _ HBf.out).mono ?_
   rintro e w4 ⟨d4,rfl,hat,hnw,hbe⟩
   have HA4:=Lib.hid hat
   have HRp:=Lib.hid (HRp.out.next hbe)
   have HA3:=Lib.hid (HA3.out.next hbe)
   have HBf:=Lib.hid (below_next HBf.out hbe)
   clear hat hnw hbe c0 c1 c2 c3 c4 c5 c6 c7
   go_wp2_with fail
   refine (rthen_l _ _ _ _ _ _ HRp.out HA4.out he).mono ?_
   rintro e w5 ⟨d5,rfl,hat,hnw,hbe⟩
   have HA5:=Lib.hid hat
   have HA3:=Lib.hid (HA3.out.next hbe)
   have HBf:=Lib.hid (below_next HBf.out hbe)
   clear hat hnw hbe
   go_wp2_with fail
   refine (ror_l _ _ _ _ _ _ HA3.out HA5.out he).mono ?_
   rintro e w6 ⟨d6,rfl,hat,hnw,hbe⟩
   have HA6:=Lib.hid hat
   have HN6:=Lib.hid (Nat.le_trans HBf.out.size hnw)
   have HBf:=Lib.hid (below_next HBf.out hbe)
   clear hat hnw hbe
   go_wp2_with fail
   go_ret
   exact ⟨_,rfl,HA6.out,HN6.out,HBf.out⟩
end Go.Proofs.YthcnhbclagegeaaGreatDoor
namespace Go.Proofs.YthcnhbclagegeaaGreatDoor
open Go.RowKit RelA
namespace Told
open Go.Rn (Rho RV Mp Tells chW tells_made)
variable {g:Gr} {xa:Option Addr} {X:List (Int × Int)} {xc:Nat} {w0:World}
noncomputable def l_set:List (Nat × RV × RV):=[(80,.mp 1,(.cons gR (.cons (.fn 79 .nil) .nil)))]
set_option maxRecDepth 20000 in
theorem t_set (c:Cx g xa X xc w0):Tells Tryz.prog (rho g xa X xc w0) (78,0,chW l_set):=tells_made (by kernel_rfl) (by
 intro x hx
 unfold l_set at hx
 simp only [List.mem_cons,List.not_mem_nil,or_false] at hx
 subst hx
 exact way_cl (by decide) (fun _=>rfl) (fun w hb=>set_ex g w (c.gin.next hb).es c.gin.e40 c.gin.ecap))
noncomputable def l_rdeps:List (Nat × RV × RV):=[(81,.mp 2,(.cons gR .nil))]
set_option maxRecDepth 20000 in
theorem t_rdeps (c:Cx g xa X xc w0):Tells Tryz.prog (rho g xa X xc w0) (29,0,chW l_rdeps):=tells_made (by kernel_rfl) (by
 intro x hx
 unfold l_rdeps at hx
 simp only [List.mem_cons,List.not_mem_nil,or_false] at hx
 subst hx
 exact way_g rfl (fun w hb=>rdeps_l g w (c.gin.next hb) (th_of c.ck)))
end Told
namespace RelA
theorem ev_bar {g:Gr} (c:CheckOk g) (i:Nat) (hi:i < g.E.length):(Ev.at g.E i).kd=3→1≤(Ev.at g.E i).md∧(Ev.at g.E i).md≤4:=by
 intro h3
 have h:=(c.at_ i hi).1
 unfold evAt evOk at h
 split at h
 ·simp only [Bool.and_eq_true,beq_iff_eq] at h
  omega
 ·split at h
  ·cases h
  ·rw [h3] at h
   simp only [Bool.and_eq_true,decide_eq_true_eq,show ((3:Int) == 1)=false by decide,show ((3:Int) == 2)=false by decide,show ((3:Int) == 3)=true by decide,Bool.false_eq_true,if_false,if_true] at h
   exact ⟨h.1.1.1.1,h.1.1.1.2⟩
theorem bar_eq {g:Gr} (c:CheckOk g):evM g 3 []=kM g 3 1 4:=diagM_congr fun i hi=>by
 have h:=ev_bar c i hi
 unfold evB kindB
 by_cases e:(Ev.at g.E i).kd=3
 ·obtain ⟨h1,h2⟩:=h e
  simp [e,h1,h2]
 ·have e2:((Ev.at g.E i).kd == 3)=false:=beq_eq_false_iff_ne.2 e
  rw [e2]; rfl
theorem rd_eq {g:Gr} (c:CheckOk g):evM g 1 []=kM g 1 0 1:=diagM_congr fun i hi=>by
 have h:=(ev_kd c i hi).2.2
 unfold evB kindB
 by_cases e:(Ev.at g.E i).kd=1
 ·rcases h e with h | h <;> simp [e,h]
 ·have e2:((Ev.at g.E i).kd == 1)=false:=beq_eq_false_iff_ne.2 e
  rw [e2]; rfl
theorem sc_eq (g:Gr):evM g 3 [4]=kM g 3 4 4:=diagM_congr fun i _=>by
 unfold evB kindB
 rw [hasI1,Bool.eq_iff_iff]
 simp only [Bool.and_eq_true,Bool.or_eq_true,beq_iff_eq,decide_eq_true_eq,List.length_cons,List.length_nil]
 omega
theorem outer_eq (E:List Ev) (M:Nat→Nat→Bool):lessM M (innerM E M)=outerM E M:=less_inner E M
end RelA
end Go.Proofs.YthcnhbclagegeaaGreatDoor
