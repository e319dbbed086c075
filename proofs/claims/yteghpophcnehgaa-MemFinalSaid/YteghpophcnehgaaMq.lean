/-
  What the functions that the law reaches do, one by one: contracts. Conditions: those that each of them prints.
-/
import Derived.Test.YteghpophcnehgaaMp
import Derived.WalkKit
import Derived.Deep.Quiet
import Derived.Maps.AppendAt
import Derived.Deep.RegionWith
import Derived.Deep.DrawnRows
namespace Go.Proofs.Yteghpophcnehgaa
open Go.RowKit ExprA SndA
namespace SndA
def RdBack (w0:WK) (w':World) (s gb:Nat) (vr:Value) (E:List Ev) (e:Ev) (rm:List (Int × Int)) (u:Nat) (rg:List Int) (r:Nat) (sh:Bool) (im:Nat→Value) (li:Nat→List Int) (pi:Nat→List (Int × Int)) (e1:Ending):Prop:=
 ∃ ve' im' pi',e1=.returned (.bool true)∧RS w0 w' s gb ve' vr (E ++ [e]) rm ((u + 1:Nat):Int) (rg.set r e.vl) sh im' (updF (updF (updF li 20 []) 18 [(E.length:Int)]) (8 + r) [(E.length:Int)]) pi'∧PairsOk (pi 2) [] (E.length:Int) (pi' 2)∧PairsOk (pi 3) (li 16) (E.length:Int) (pi' 3)∧PairsOk (pi 4) (li 17) (E.length:Int) (pi' 4)∧im' 19=im 19
end SndA
set_option maxRecDepth 20000 in
set_option maxHeartbeats 8000000 in
theorem read_yes {w0:WK} {s gb:Nat} {ve vr:Value} {E:List Ev} {rm:List (Int × Int)} {rg:List Int} {sh:Bool} {im:Nat→Value} {li:Nat→List Int} {pi:Nat→List (Int × Int)} (loc mode:Int) (ex:Bool) (r u:Nat) (w:World) (h:RS w0 w s gb ve vr E rm (u:Int) rg sh im li pi) (hr:r < 8) (hu:u < (li 7).length) (hl:(li 7).length≤1000) (hE:E.length≤1000) (h2:(pi 2).length≤1000) (h3:(pi 3).length + (li 16).length≤1000) (h4:(pi 4).length + (li 17).length≤1000) :
  Calls Try.prog 50 #[.pointer (some ⟨s,0,none⟩),.int .i64 loc,.int .i64 mode,.bool ex,.int .i64 (r:Int)] w fun e1 w'=>RdBack w0 w' s gb vr E ⟨0,1,mode,loc,(li 7).getD u 0,ex⟩ rm u rg r sh im li pi e1∧Below w0.heap.size w0.toWorld w':=by
 obtain ⟨ab,cb,h7,hcb⟩:=(h.cl 7 (by omega) (by omega)).sl
 obtain ⟨g,hg,ce⟩:=hcb u hu
 subst hg
 have c5:w.cell? ⟨s,5,none⟩=some (.int .i64 (u:Int)):=by simp only [World.cell?,h.box]; rfl
 have c7:w.cell? ⟨s,7,none⟩=some (.slice (some ⟨g,0,none⟩) (li 7).length cb):=by rw [← h7]; simp only [World.cell?,h.box]; rfl
 have HS:=Lib.hid h
 have f5:=h.frozF 5
 obtain ⟨v,hv⟩:∃ v,(li 7).getD u 0=v:=⟨_,rfl⟩
 rw [hv] at ce ⊢
 have d1:decide (((li 7).length:Int)≤(u:Int))=false:=by rw [decide_eq_false_iff_not]; omega
 have i1:(u:Int) < ((li 7).length:Int):=by omega
 have i2:((li 7).length:Int)≤1000:=by omega
 generalize (li 7).length=N at *
 clear h hcb h7
 go_enter Try.func50,Try.ntmps50
 go_wp2_with fail
 go_quiet (fail)
 go_wp2_with fail
 go_quiet (fail)
 go_wp2_with fail
 have hS1:=fun n=>((HS.out.next (bel_drewN w n)).setU ((u:Int) + 1)).virt 20 (by omega) (by omega) (.slice none 0 0) [] (LV.nil _) (apart_nil _ _ _ _ _)
 have hev:=fun n=>event_any ⟨0,1,mode,loc,v,ex⟩ _ (hS1 n) hE (by rw [updF_at]; exact h2) (by rw [updF_ne _ _ (by omega)]; exact h3) (by rw [updF_ne _ _ (by omega)]; exact h4)
 simp only [updF_at] at hev
 refine (hev _).mono ?_
 rintro e1 w2 ⟨⟨ve2,im2,pi2,rfl,hS2,hp2,hp3,hp4,hk⟩,hb⟩
 rw [updF_ne _ _ (by omega)] at hp3 hp4
 have HS2:=Lib.hid hS2
 have HP:=Lib.hid (And.intro hp2 (And.intro hp3 hp4))
 have HK:=Lib.hid hk
 clear hS1 hev hS2 hp2 hp3 hp4 hk hb c5 c7 ce f5
 go_wp2_with fail
 refine rdreg_l _ r v (E.length:Int) hr HS2.out _ _ _ _ _ _ _ _ _ _ _ _ _ _ _ _ _ _ _ _ _ _ _ _ _ _ _ _ _ _ _ _ _ _ _ _ _ _ _ _ _ _ _ _ _ _ _ _ _ _ _ _ _ _ _ _ _ _ _ _ _ _ _ _ _  _ (fun _ _ _ _ _ h=>h) ?_
 intro y54 y55 y56 y57 y58 y59 y60 y61 y62 y63 y64 y65 y66 y67 y68 im3 w3 hS3 hk3
 have HS3:=Lib.hid hS3
 clear hS3
 go_wp2_with fail
 go_ret
 refine ⟨⟨ve2,im3,pi2,rfl,?_,HP.out.1,HP.out.2.1,HP.out.2.2,?_⟩,HS3.out.bel⟩
 ·have e:((u + 1:Nat):Int)=(u:Int) + 1:=by omega
  rw [e]; exact HS3.out
 ·rw [hk3 19 (by omega),HK.out 19 (by omega),updF_ne _ _ (by omega)]
set_option maxRecDepth 20000 in
set_option maxHeartbeats 8000000 in
theorem read_no {w0:WK} {s gb:Nat} {ve vr:Value} {E:List Ev} {rm:List (Int × Int)} {rg:List Int} {sh:Bool} {im:Nat→Value} {li:Nat→List Int} {pi:Nat→List (Int × Int)} (loc mode:Int) (ex:Bool) (r u:Nat) (w:World) (h:RS w0 w s gb ve vr E rm (u:Int) rg sh im li pi) (hu:(li 7).length≤u) (_hu2:u≤1000) :
  Calls Try.prog 50 #[.pointer (some ⟨s,0,none⟩),.int .i64 loc,.int .i64 mode,.bool ex,.int .i64 (r:Int)] w fun e1 w'=>e1=.returned (.bool false)∧RS w0 w' s gb ve vr E rm (u:Int) rg true im li pi:=by
 obtain ⟨ab,cb,h7,hcb⟩:=(h.cl 7 (by omega) (by omega)).sl
 have c5:w.cell? ⟨s,5,none⟩=some (.int .i64 (u:Int)):=by simp only [World.cell?,h.box]; rfl
 have c7:w.cell? ⟨s,7,none⟩=some (.slice ab (li 7).length cb):=by rw [← h7]; simp only [World.cell?,h.box]; rfl
 have c18:w.cell? ⟨s,18,none⟩=some (.bool sh):=by simp only [World.cell?,h.box]; rfl
 have f18:=h.frozF 18
 have HS:=Lib.hid h
 have d1:decide (((li 7).length:Int)≤(u:Int))=true:=by rw [decide_eq_true_iff]; omega
 generalize (li 7).length=N at *
 clear h hcb h7
 go_enter Try.func50,Try.ntmps50
 go_wp2_with fail
 go_quiet (fail)
 go_wp2_with fail
 go_ret
 exact ⟨rfl,(HS.out.next (bel_drewN _ _)).setS true⟩
end Go.Proofs.Yteghpophcnehgaa
namespace Go.Proofs.Yteghpophcnehgaa
open Go.RowKit ExprA SndA
namespace SndA
def WrBack (w0:WK) (w':World) (s gb:Nat) (E:List Ev) (e:Ev) (rm:List (Int × Int)) (used:Int) (rg:List Int) (sh:Bool) (li:Nat→List Int) (pi:Nat→List (Int × Int)) (e1:Ending):Prop:=
 ∃ x ve' vr' im' pi',e1=.returned x∧RS w0 w' s gb ve' vr' (E ++ [e]) (if e.ex=true then rm ++ [((E.length:Int) - 1,(E.length:Int))] else rm) used rg sh im' li pi'∧PairsOk (pi 2) (li 20) (E.length:Int) (pi' 2)∧PairsOk (pi 3) (li 16) (E.length:Int) (pi' 3)∧PairsOk (pi 4) (li 17) (E.length:Int) (pi' 4)
theorem grown_pair {w0:WK} {s gb:Nat} {ve vr:Value} {E:List Ev} {rm:List (Int × Int)} {used:Int} {rg:List Int} {sh:Bool} {im:Nat→Value} {li:Nat→List Int} {pi:Nat→List (Int × Int)} {W W':World} {vr0 v':Value} {x y:Int} {o:Obj} (h:RS w0 W s gb ve vr E rm used rg sh im li pi) (hvr:vr=vr0) (hn:W'.ownsRow w0.heap.size 123 2 v' (rm.length + 1) (icells rm ++ [.int .i64 x,.int .i64 y])) (hg:(W.alloc o).grownBy W' vr0.ownBlock) (hv:v'.ownBlock=vr0.ownBlock ∨ v'.ownBlock=some (W.alloc o).heap.size) :
  RS w0 (W'.setCell ⟨s,1,none⟩ v') s gb ve v' E (rm ++ [(x,y)]) used rg sh im li pi∧W'.cell? ⟨s,1,none⟩=some vr0∧W'.frozen? ⟨s,1,none⟩=false:=by
 subst hvr
 have h1:=h.next ((Below.refl W.heap.size W).alloc (Nat.le_refl _) o)
 have e1:(rm ++ [(x,y)]).length=rm.length + 1:=by simp
 have e2:icells (rm ++ [(x,y)])=icells rm ++ [.int .i64 x,.int .i64 y]:=by simp [icells]
 have hbx:=(hg.block s h1.lts (fun q=>h1.ne_s.2.2.1 q.symm)).trans h1.box
 refine ⟨h1.growP hg (by rw [e1,e2]; exact hn) hv,?_,?_⟩
 ·simp only [World.cell?,hbx]; rfl
 ·simp only [World.frozen?,hbx]; rfl
end SndA
set_option maxRecDepth 20000 in
set_option maxHeartbeats 8000000 in
theorem write_any {w0:WK} {s gb:Nat} {ve vr:Value} {E:List Ev} {rm:List (Int × Int)} {used:Int} {rg:List Int} {sh:Bool} {im:Nat→Value} {li:Nat→List Int} {pi:Nat→List (Int × Int)} (loc mode v:Int) (ex:Bool) (w:World) (h:RS w0 w s gb ve vr E rm used rg sh im li pi) (hE:E.length≤1000) (hrm:rm.length≤1000) (h2:(pi 2).length + (li 20).length≤1000) (h3:(pi 3).length + (li 16).length≤1000) (h4:(pi 4).length + (li 17).length≤1000) :
  Calls Try.prog 51 #[.pointer (some ⟨s,0,none⟩),.int .i64 loc,.int .i64 mode,.bool ex,.int .i64 v,im 20] w fun e1 w'=>WrBack w0 w' s gb E ⟨0,2,mode,loc,v,ex⟩ rm used rg sh li pi e1∧Below w0.heap.size w0.toWorld w':=by
 have HEV:=Lib.hid (event_any ⟨0,2,mode,loc,v,ex⟩ w h hE h2 h3 h4)
 have hEi:(E.length:Int)≤1000:=by omega
 obtain ⟨i0,hi,hz0,hz1,hz2⟩:=info_parts infoPair
 clear h
 go_enter Try.func51,Try.ntmps51
 go_wp2_with fail
 refine HEV.out.mono ?_
 rintro e1 w2 ⟨⟨ve2,im2,pi2,rfl,hS2,hp2,hp3,hp4,-⟩,hb⟩
 have HS2:=Lib.hid hS2
 have HP:=Lib.hid (And.intro hp2 (And.intro hp3 hp4))
 obtain ⟨pa,pc,hvr⟩:=own_len hS2.op
 have c1:w2.cell? ⟨s,1,none⟩=some (.slice pa rm.length pc):=by rw [← hvr]; simp only [World.cell?,hS2.box]; rfl
 have HO:=Lib.hid hS2.op
 rw [hvr] at HO
 have hsl:=hS2.lts
 have f1:=hS2.frozF 1
 clear hS2 hp2 hp3 hp4
 cases ex with
 | false=>
  clear c1 f1
  go_wp2_with fail
  go_end0
  exact ⟨⟨_,ve2,vr,im2,pi2,rfl,HS2.out,HP.out⟩,HS2.out.bel⟩
 | true=>
  have hb0:=Lib.hid HS2.out.bel.size
  go_wp2_with (first
   | (at_builtin; refine wpList_append_own_at _ rfl (.tmp 27) (.tmp 32) 36 rfl w0.heap.size 123 i0 (.agg #[.int .i64 0,.int .i64 0]) 2 16 Try.underlying36 hi hz0 hz1 hz2 rfl (by decide) _ _ _ rfl (HO.out.alloc _) ⟨w2.heap.size,0,none⟩ 1 1 [.int .i64 ((E.length:Int) - 1),.int .i64 (E.length:Int)] rfl rfl (World.news_of_block (cs:=#[.int .i64 ((E.length:Int) - 1),.int .i64 (E.length:Int)]) (t:=123) (fr:=(0,0)) (heap_alloc_new w2 _)) (by simp [Value.oneCell']) (by unfold maxLen; omega) (by omega) (by have:=hb0.out; simp; omega) ?_; intro v1 w3 hown1 hgrow1 _ hv1; have HX:=Lib.hid (grown_pair HS2.out hvr hown1 hgrow1 hv1); obtain ⟨k1,k2⟩:=HX.out.2; obtain ⟨pa1,pc1,hv1e⟩:=own_len hown1; subst hv1e; clear hown1 hgrow1 hv1))
  go_end0
  exact ⟨⟨_,ve2,_,im2,pi2,rfl,HX.out.1,HP.out⟩,HX.out.1.bel⟩
end Go.Proofs.Yteghpophcnehgaa
namespace Go.Proofs.Yteghpophcnehgaa
open Go.RowKit ExprA SndA
attribute [local go_sem ↓] Go.wp_at_zero Go.wp_at_succ
namespace SndA
theorem RS.regs {w0:WK} {s gb:Nat} {ve vr:Value} {E:List Ev} {rm:List (Int × Int)} {used:Int} {rg:List Int} {sh:Bool} {im:Nat→Value} {li:Nat→List Int} {pi:Nat→List (Int × Int)} {W:World} (h:RS w0 W s gb ve vr E rm used rg sh im li pi):NIn W (some ⟨gb,0,none⟩) rg:=
 .inr ⟨gb,0,rfl,h.ltg,fun i hi=>by rw [Nat.zero_add]; exact (h.regAt i (by rw [← h.gl]; exact hi)).1⟩
end SndA
theorem eval_rs {w0:WK} {s gb:Nat} {ve vr:Value} {E:List Ev} {rm:List (Int × Int)} {used:Int} {rg:List Int} {sh:Bool} {im:Nat→Value} {li:Nat→List Int} {pi:Nat→List (Int × Int)} {W:World} (a:Option Addr) (L:List (Int × Int)) (c:Nat) (h:RS w0 W s gb ve vr E rm used rg sh im li pi) (ht:TIn w0.toWorld a L) (hL:L.length≤100) :
  Calls Try.prog 52 #[.slice a L.length c,.slice (some ⟨gb,0,none⟩) 8 8] W fun e w'=>e=.returned (.int .i64 (evalS L rg))∧Below W.heap.size W w':=by
 have:=reval_any a L c (some ⟨gb,0,none⟩) rg 8 W (ht.next h.bel) h.regs hL (by rw [h.gl]; omega)
 rw [h.gl] at this
 exact this
namespace SndA
def MvBack (w0:WK) (w':World) (s gb:Nat) (ve vr:Value) (E:List Ev) (rm:List (Int × Int)) (used:Int) (rg:List Int) (r:Nat) (v:Int) (sh:Bool) (li:Nat→List Int) (pi:Nat→List (Int × Int)) (e1:Ending):Prop:=
 ∃ x im' l,e1=.returned x∧RS w0 w' s gb ve vr E rm used (rg.set r v) sh im' (updF (updF li 18 l) (8 + r) l) pi∧OfOk li 9 l
end SndA
set_option maxRecDepth 20000 in
set_option maxHeartbeats 8000000 in
theorem move_any {w0:WK} {s gb:Nat} {ve vr:Value} {E:List Ev} {rm:List (Int × Int)} {used:Int} {rg:List Int} {sh:Bool} {im:Nat→Value} {li:Nat→List Int} {pi:Nat→List (Int × Int)} (r:Nat) (a:Option Addr) (L:List (Int × Int)) (c:Nat) (w:World) (h:RS w0 w s gb ve vr E rm used rg sh im li pi) (hr:r < 8) (ht:TIn w0.toWorld a L) (hL:L.length≤9) (hreg:∀ x,((2:Int),x) ∈ L→0≤x∧x < 8) (hli:∀ j,8≤j→j≤15→(li j).length≤100) :
  Calls Try.prog 56 #[.pointer (some ⟨s,0,none⟩),.int .i64 (r:Int),.slice a L.length c] w fun e1 w'=>MvBack w0 w' s gb ve vr E rm used rg r (evalS L rg) sh li pi e1:=by
 have HOF:=Lib.hid (of_any a L c w h (ht.next h.bel) hL hreg hli)
 have HS:=Lib.hid h
 have hri:(r:Int) < 8:=by omega
 obtain ⟨v,hv⟩:∃ v,evalS L rg=v:=⟨_,rfl⟩
 have HEV:Hid (∀ W,RS w0 W s gb ve vr E rm used rg sh im li pi→Calls Try.prog 52 #[.slice a L.length c,.slice (some ⟨gb,0,none⟩) 8 8] W fun e w'=>e=.returned (.int .i64 v)∧Below W.heap.size W w'):=Lib.hid (fun W hW=>by rw [← hv]; exact eval_rs a L c hW ht (by omega))
 rw [hv]
 clear h hv ht
 go_enter Try.func56,Try.ntmps56
 go_wp2_with fail
 refine HOF.out.mono ?_
 rintro e1 w1 ⟨⟨vl,l,rfl,hvl,hok,hn⟩,hb1⟩
 have hS1:=HS.out.next hb1
 have HOK:=Lib.hid hok
 have ha:Apart w1 s gb ve vr vl:=by
  rcases hn with q | q
  ·rw [q]; exact apart_nil _ _ _ _ _
  ·exact apart_new hvl q HS.out.lts HS.out.ltg (fun b r=>(HS.out.oe.lt b r).2) (fun b r=>(HS.out.op.lt b r).2)
 have HS2:=Lib.hid (hS1.virt 18 (by omega) (by omega) vl l hvl ha)
 have HS1:=Lib.hid hS1
 have c6:w1.cell? ⟨s,6,none⟩=some (.slice (some ⟨gb,0,none⟩) 8 8):=by simp only [World.cell?,hS1.box]; rfl
 obtain ⟨pl,cl,hvle⟩:=own_len hvl
 have HB0:Hid (Below w1.heap.size w1 w1.drew):=Lib.hid (Below.refl _ _).drew
 clear hS1 hok ha hn hb1 hvl
 go_wp2_with fail
 go_region_with (first
  | (go_at_call 52; refine (HEV.out _ (HS1.out.next HB0.out)).mono ?_; rintro e w2 ⟨rfl,hb⟩; have HB2:=Lib.hid (below_next HB0.out hb); have k6:=cell_next c6 HB2.out; obtain ⟨k8,k9⟩:=(HS1.out.next HB2.out).regAt r hr; clear hb))
 all_goals have HS3:=Lib.hid ((HS2.out.next HB2.out).setR r v)
 all_goals have c9:=HS3.out.fromAt r hr
 all_goals have d9:=HS3.out.frozF (8 + r)
 all_goals generalize World.setCell w2 _ _=w3 at HS3 c9 d9 ⊢
 all_goals subst hvle
 all_goals go_wp2_with fail
 all_goals go_end0
 all_goals exact ⟨_,_,l,rfl,by
  have hv:=HS3.out.cl 18 (by omega) (by omega)
  have ha:Apart w3 s gb ve vr _:=HS3.out.apt 18 (.inr ⟨by omega,by omega⟩)
  have:=HS3.out.setF r hr _ _ hv ha
  simp only [updF_at] at this
  exact this,HOK.out⟩
end Go.Proofs.Yteghpophcnehgaa
