/-
  What the functions that the law reaches do, one by one: contracts. Conditions: those that each of them prints.
-/
import Derived.Test.YteghpophcnehgaaMs
import Derived.WalkKit
import Derived.Deep.RegionWith
import Derived.Deep.DrawnRows
import Derived.Deep.OwnRows
namespace Go.Proofs.Yteghpophcnehgaa
open Go.RowKit ExprA SndA
attribute [local go_sem ↓] Go.wp_at_zero Go.wp_at_succ
namespace SndA
def FaNo (w0:WK) (w':World) (s gb:Nat) (ve vr:Value) (E:List Ev) (rm:List (Int × Int)) (u:Nat) (rg:List Int) (li:Nat→List Int) (pi:Nat→List (Int × Int)) (e1:Ending):Prop:=
 ∃ x im' lo,e1=.returned x∧RS w0 w' s gb ve vr E rm (u:Int) rg true im' (updF li 19 lo) pi
def FaYes (w0:WK) (w':World) (s gb:Nat) (E:List Ev) (rm:List (Int × Int)) (mode m2 loc v:Int) (u r:Nat) (rg:List Int) (sh:Bool) (li:Nat→List Int) (pi:Nat→List (Int × Int)) (e1:Ending):Prop:=
 ∃ (x ve' vr':Value) (im':Nat→Value) (lo:List Int) (pi2 pi':Nat→List (Int × Int)) (y:Int) (l:List Int),e1=.returned x∧RS w0 w' s gb ve' vr' (E ++ [⟨0,1,mode,loc,v,true⟩] ++ [⟨0,2,m2,loc,y,true⟩]) (rm ++ [((E.length:Int),(E.length:Int) + 1)]) ((u + 1:Nat):Int) (rg.set r v) sh im' (updF (updF (updF (updF (updF li 19 lo) 20 []) 18 [(E.length:Int)]) (8 + r) [(E.length:Int)]) 20 l) pi'∧OfOk li 9 lo∧BothOk lo [(E.length:Int)] l ∧
  PairsOk (pi 2) [] (E.length:Int) (pi2 2)∧PairsOk (pi 3) (li 16) (E.length:Int) (pi2 3)∧PairsOk (pi 4) (li 17) (E.length:Int) (pi2 4)∧PairsOk (pi2 2) l ((E.length:Int) + 1) (pi' 2)∧PairsOk (pi2 3) (li 16) ((E.length:Int) + 1) (pi' 3)∧PairsOk (pi2 4) (li 17) ((E.length:Int) + 1) (pi' 4)
theorem faa_end {w0:WK} {w':World} {s gb xb u r:Nat} {o:Obj} {E:List Ev} {rm:List (Int × Int)} {mode m2 loc v y:Int} {rg:List Int} {sh:Bool} {li:Nat→List Int} {pi pi5:Nat→List (Int × Int)} {lo l:List Int} {e6:Ending} {x:Value}
  (h:WrBack ⟨w0.toWorld,(xb,o)::w0.kp⟩ w' s gb (E ++ [⟨0,1,mode,loc,v,true⟩]) ⟨0,2,m2,loc,y,true⟩ rm ((u + 1:Nat):Int) (rg.set r v) sh (updF (updF (updF (updF (updF li 19 lo) 20 []) 18 [(E.length:Int)]) (8 + r) [(E.length:Int)]) 20 l) pi5 e6)
  (hb:BothOk (updF (updF (updF (updF li 19 lo) 20 []) 18 [(E.length:Int)]) (8 + r) [(E.length:Int)] 19) (updF (updF (updF (updF li 19 lo) 20 []) 18 [(E.length:Int)]) (8 + r) [(E.length:Int)] (8 + r)) l)
  (hp:PairsOk (pi 2) [] (E.length:Int) (pi5 2)∧PairsOk (pi 3) (li 16) (E.length:Int) (pi5 3)∧PairsOk (pi 4) (li 17) (E.length:Int) (pi5 4)) (ho:OfOk li 9 lo) (hr:r < 8):FaYes w0 w' s gb E rm mode m2 loc v u r rg sh li pi (.returned x):=by
 obtain ⟨x',ve',vr',im',pi',_,h1,h2,h3,h4⟩:=h
 have hel:((E ++ [(⟨0,1,mode,loc,v,true⟩:Ev)]).length:Int)=(E.length:Int) + 1:=by simp
 rw [updF_ne _ _ (by omega),updF_ne _ _ (by omega),updF_ne _ _ (by omega),updF_at,updF_at] at hb
 rw [hel] at h2 h3 h4
 rw [updF_at] at h2
 rw [updF_ne _ _ (by omega),updF_ne _ _ (by omega),updF_ne _ _ (by omega),updF_ne _ _ (by omega),updF_ne _ _ (by omega)] at h3 h4
 have h5:=h1.drop (w0:=w0) (fun x hx=>List.mem_cons_of_mem _ hx)
 rw [hel,if_pos rfl,show (E.length:Int) + 1 - 1=(E.length:Int) by omega] at h5
 exact ⟨x,ve',vr',im',lo,pi5,pi',y,l,rfl,h5,ho,hb,hp.1,hp.2.1,hp.2.2,h2,h3,h4⟩
end SndA
set_option maxRecDepth 20000 in
set_option maxHeartbeats 8000000 in
theorem faa_no {w0:WK} {s gb:Nat} {ve vr:Value} {E:List Ev} {rm:List (Int × Int)} {rg:List Int} {sh:Bool} {im:Nat→Value} {li:Nat→List Int} {pi:Nat→List (Int × Int)} (kk mode m2 loc nn:Int) (r u:Nat) (a5:Option Addr) (LE:List (Int × Int)) (cE:Nat) (w:World) (h:RS w0 w s gb ve vr E rm (u:Int) rg sh im li pi) (hr:r < 8) (ht:TIn w0.toWorld a5 LE) (hL:LE.length≤9) (hreg:∀ x,((2:Int),x) ∈ LE→0≤x∧x < 8) (hli:∀ j,8≤j→j≤15→(li j).length≤50) (hu:(li 7).length≤u) (hu2:u≤1000) :
  Calls Try.prog 55 #[.pointer (some ⟨s,0,none⟩),.agg #[.int .i64 kk,.int .i64 mode,.int .i64 m2,.int .i64 (r:Int),.int .i64 loc,.slice a5 LE.length cE,.int .i64 nn]] w fun e1 w'=>FaNo w0 w' s gb ve vr E rm u rg li pi e1:=by
 have hri:(r:Int) < 8:=by omega
 have HS:=Lib.hid h
 have HT:=Lib.hid ht
 have HX:=Lib.hid hreg
 have HLI:=Lib.hid hli
 obtain ⟨add,hadd⟩:∃ v,evalS LE rg=v:=⟨_,rfl⟩
 obtain ⟨xb,hxb⟩:∃ x,x=w.heap.size:=⟨_,rfl⟩
 obtain ⟨w1,hw1⟩:∃ x,x=w.alloc (Obj.cells #[.int .i64 kk,.int .i64 mode,.int .i64 m2,.int .i64 (r:Int),.int .i64 loc,.slice a5 LE.length cE,.int .i64 nn] 47 (0,0)):=⟨_,rfl⟩
 have hb0:Below w.heap.size w w1:=by rw [hw1]; exact (Below.refl _ _).alloc (Nat.le_refl _) _
 have hbx:w1.heap[xb]?=some (Obj.cells #[.int .i64 kk,.int .i64 mode,.int .i64 m2,.int .i64 (r:Int),.int .i64 loc,.slice a5 LE.length cE,.int .i64 nn] 47 (0,0)):=by rw [hw1,hxb]; exact heap_alloc_new _ _
 have HK:=Lib.hid ((HS.out.next hb0).hold xb _ hbx (by
  have a:=HS.out.lts
  have b:=HS.out.ltg
  refine ⟨by omega,by omega,fun q=>?_,fun q=>?_⟩
  ·have:=(HS.out.oe.lt xb q).2; omega
  ·have:=(HS.out.op.lt xb q).2; omega))
 have HXB:=Lib.hid hxb
 have b1:w1.cell? ⟨xb,1,none⟩=some (.int .i64 mode):=by simp only [World.cell?,hbx]; rfl
 have b2:w1.cell? ⟨xb,2,none⟩=some (.int .i64 m2):=by simp only [World.cell?,hbx]; rfl
 have b3:w1.cell? ⟨xb,3,none⟩=some (.int .i64 (r:Int)):=by simp only [World.cell?,hbx]; rfl
 have b4:w1.cell? ⟨xb,4,none⟩=some (.int .i64 loc):=by simp only [World.cell?,hbx]; rfl
 have b5:w1.cell? ⟨xb,5,none⟩=some (.slice a5 LE.length cE):=by simp only [World.cell?,hbx]; rfl
 clear h ht hreg hli hb0 hbx
 have HW1:=Lib.hid hw1
 clear hxb hw1
 go_enter Try.func55,Try.ntmps55
 go_wp2_with fail
 rw [← HW1.out]
 refine (of_any a5 LE cE w1 HK.out (HT.out.next HK.out.bel) hL HX.out (fun j q1 q2=>by have:=HLI.out j q1 q2; omega)).mono ?_
 rintro e1 w2 ⟨⟨vl,lo,rfl,hvl,hof,hn⟩,hb1⟩
 have hS2:=HK.out.next hb1
 have ha:Apart w2 s gb ve vr vl:=by
  rcases hn with q | q
  ·rw [q]; exact apart_nil _ _ _ _ _
  ·exact apart_new hvl q HK.out.lts HK.out.ltg (fun b r=>(HK.out.oe.lt b r).2) (fun b r=>(HK.out.op.lt b r).2)
 have HOF:=Lib.hid hof
 have HS3:=Lib.hid (hS2.virt 19 (by omega) (by omega) vl lo hvl ha)
 have k6:=hS2.c6
 have k5:=cell_next b5 hb1
 have HB1:=Lib.hid hb1
 have HB0:Hid (Below w2.heap.size w2 w2.drew):=Lib.hid (Below.refl _ _).drew
 have HEV:Hid (∀ W,Below w2.heap.size w2 W→Calls Try.prog 52 #[.slice a5 LE.length cE,.slice (some ⟨gb,0,none⟩) 8 8] W fun e w'=>e=.returned (.int .i64 add)∧Below W.heap.size W w'):=Lib.hid (fun W hW=>by rw [← hadd]; exact eval_rs a5 LE cE (HS3.out.next hW) HT.out (by omega))
 clear hS2 ha hof hn hb1 hvl
 go_wp2_with fail
 rw [← HXB.out]
 go_region_with (first
  | (go_at_call 52; refine (HEV.out _ HB0.out).mono ?_; rintro e w3 ⟨rfl,hb⟩; have HB3:=Lib.hid (below_next HB0.out hb); have HB13:=Lib.hid (below_next HB1.out HB3.out); have HS4:=Lib.hid (HS3.out.next HB3.out); have m1:=cell_next b1 HB13.out; have m3:=cell_next b3 HB13.out; have m4:=cell_next b4 HB13.out; clear hb))
 all_goals clear k5 k6 b1 b2 b3 b4 b5 HB0
 all_goals go_wp2_with fail
 all_goals refine (read_no loc mode true r u _ HS4.out (by rw [updF_ne _ _ (by omega)]; exact hu) hu2).mono ?_
 all_goals rintro e5 w5 ⟨rfl,hS5⟩
 all_goals have HS5:=Lib.hid (hS5.drop (w0:=w0) (fun x hx=>List.mem_cons_of_mem _ hx))
 all_goals clear hS5
 all_goals go_wp2_with fail
 all_goals go_end0
 all_goals exact ⟨_,_,lo,rfl,HS5.out⟩
set_option maxRecDepth 20000 in
set_option maxHeartbeats 8000000 in
theorem faa_yes {w0:WK} {s gb:Nat} {ve vr:Value} {E:List Ev} {rm:List (Int × Int)} {rg:List Int} {sh:Bool} {im:Nat→Value} {li:Nat→List Int} {pi:Nat→List (Int × Int)} (kk mode m2 loc nn:Int) (r u:Nat) (a5:Option Addr) (LE:List (Int × Int)) (cE:Nat) (w:World) (h:RS w0 w s gb ve vr E rm (u:Int) rg sh im li pi) (hr:r < 8) (ht:TIn w0.toWorld a5 LE) (hL:LE.length≤9) (hreg:∀ x,((2:Int),x) ∈ LE→0≤x∧x < 8) (hli:∀ j,8≤j→j≤15→(li j).length≤50) (hu:u < (li 7).length) (hl7:(li 7).length≤1000) (hE:E.length≤900) (hrm:rm.length≤1000) (h2:(pi 2).length≤90) (h3:(pi 3).length + (li 16).length≤500) (h4:(pi 4).length + (li 17).length≤500) :
  Calls Try.prog 55 #[.pointer (some ⟨s,0,none⟩),.agg #[.int .i64 kk,.int .i64 mode,.int .i64 m2,.int .i64 (r:Int),.int .i64 loc,.slice a5 LE.length cE,.int .i64 nn]] w fun e1 w'=>FaYes w0 w' s gb E rm mode m2 loc ((li 7).getD u 0) u r rg sh li pi e1:=by
 have hri:(r:Int) < 8:=by omega
 have HS:=Lib.hid h
 have HT:=Lib.hid ht
 have HX:=Lib.hid hreg
 have HLI:=Lib.hid hli
 obtain ⟨add,hadd⟩:∃ v,evalS LE rg=v:=⟨_,rfl⟩
 obtain ⟨xb,hxb⟩:∃ x,x=w.heap.size:=⟨_,rfl⟩
 obtain ⟨w1,hw1⟩:∃ x,x=w.alloc (Obj.cells #[.int .i64 kk,.int .i64 mode,.int .i64 m2,.int .i64 (r:Int),.int .i64 loc,.slice a5 LE.length cE,.int .i64 nn] 47 (0,0)):=⟨_,rfl⟩
 have hb0:Below w.heap.size w w1:=by rw [hw1]; exact (Below.refl _ _).alloc (Nat.le_refl _) _
 have hbx:w1.heap[xb]?=some (Obj.cells #[.int .i64 kk,.int .i64 mode,.int .i64 m2,.int .i64 (r:Int),.int .i64 loc,.slice a5 LE.length cE,.int .i64 nn] 47 (0,0)):=by rw [hw1,hxb]; exact heap_alloc_new _ _
 have HK:=Lib.hid ((HS.out.next hb0).hold xb _ hbx (by
  have a:=HS.out.lts
  have b:=HS.out.ltg
  refine ⟨by omega,by omega,fun q=>?_,fun q=>?_⟩
  ·have:=(HS.out.oe.lt xb q).2; omega
  ·have:=(HS.out.op.lt xb q).2; omega))
 have HXB:=Lib.hid hxb
 have b1:w1.cell? ⟨xb,1,none⟩=some (.int .i64 mode):=by simp only [World.cell?,hbx]; rfl
 have b2:w1.cell? ⟨xb,2,none⟩=some (.int .i64 m2):=by simp only [World.cell?,hbx]; rfl
 have b3:w1.cell? ⟨xb,3,none⟩=some (.int .i64 (r:Int)):=by simp only [World.cell?,hbx]; rfl
 have b4:w1.cell? ⟨xb,4,none⟩=some (.int .i64 loc):=by simp only [World.cell?,hbx]; rfl
 have b5:w1.cell? ⟨xb,5,none⟩=some (.slice a5 LE.length cE):=by simp only [World.cell?,hbx]; rfl
 clear h ht hreg hli hb0 hbx
 have HW1:=Lib.hid hw1
 clear hxb hw1
 go_enter Try.func55,Try.ntmps55
 go_wp2_with fail
 rw [← HW1.out]
 refine (of_any a5 LE cE w1 HK.out (HT.out.next HK.out.bel) hL HX.out (fun j q1 q2=>by have:=HLI.out j q1 q2; omega)).mono ?_
 rintro e1 w2 ⟨⟨vl,lo,rfl,hvl,hof,hn⟩,hb1⟩
 have hS2:=HK.out.next hb1
 have ha:Apart w2 s gb ve vr vl:=by
  rcases hn with q | q
  ·rw [q]; exact apart_nil _ _ _ _ _
  ·exact apart_new hvl q HK.out.lts HK.out.ltg (fun b r=>(HK.out.oe.lt b r).2) (fun b r=>(HK.out.op.lt b r).2)
 have HOF:=Lib.hid hof
 have HS3:=Lib.hid (hS2.virt 19 (by omega) (by omega) vl lo hvl ha)
 have k6:=hS2.c6
 have k5:=cell_next b5 hb1
 have HB1:=Lib.hid hb1
 have HB0:Hid (Below w2.heap.size w2 w2.drew):=Lib.hid (Below.refl _ _).drew
 have HEV:Hid (∀ W,Below w2.heap.size w2 W→Calls Try.prog 52 #[.slice a5 LE.length cE,.slice (some ⟨gb,0,none⟩) 8 8] W fun e w'=>e=.returned (.int .i64 add)∧Below W.heap.size W w'):=Lib.hid (fun W hW=>by rw [← hadd]; exact eval_rs a5 LE cE (HS3.out.next hW) HT.out (by omega))
 clear hS2 ha hof hn hb1 hvl
 go_wp2_with fail
 rw [← HXB.out]
 go_region_with (first
  | (go_at_call 52; refine (HEV.out _ HB0.out).mono ?_; rintro e w3 ⟨rfl,hb⟩; have HB3:=Lib.hid (below_next HB0.out hb); have HB13:=Lib.hid (below_next HB1.out HB3.out); have HS4:=Lib.hid (HS3.out.next HB3.out); have m1:=cell_next b1 HB13.out; have m3:=cell_next b3 HB13.out; have m4:=cell_next b4 HB13.out; clear hb))
 all_goals clear k5 k6 b1 b2 b3 b4 b5 HB0
 all_goals go_wp2_with fail
 all_goals refine (read_yes loc mode true r u _ HS4.out hr (by rw [updF_ne _ _ (by omega)]; exact hu) (by rw [updF_ne _ _ (by omega)]; exact hl7) (by omega) (by omega) (by rw [updF_ne _ _ (by omega)]; omega) (by rw [updF_ne _ _ (by omega)]; omega)).mono ?_
 all_goals rintro e5 w5 ⟨⟨ve5,im5,pi5,rfl,hS5,hp2,hp3,hp4,h19⟩,-⟩
 all_goals rw [updF_at] at h19
 all_goals rw [show updF li 19 lo 7=li 7 from updF_ne _ _ (by omega)] at hS5
 all_goals rw [updF_ne _ _ (by omega)] at hp3 hp4
 all_goals have HS5:=Lib.hid hS5
 all_goals have HP5:=Lib.hid (And.intro hp2 (And.intro hp3 hp4))
 all_goals have q2:=hp2.len
 all_goals have q3:=hp3.len
 all_goals have q4:=hp4.len
 all_goals have hkx:=(hS5.kp _ (List.mem_cons_self ..)).1
 all_goals have n4:w5.cell? ⟨xb,4,none⟩=some (.int .i64 loc):=by simp only [World.cell?,hkx]; rfl
 all_goals have n2:w5.cell? ⟨xb,2,none⟩=some (.int .i64 m2):=by simp only [World.cell?,hkx]; rfl
 all_goals have n3:w5.cell? ⟨xb,3,none⟩=some (.int .i64 (r:Int)):=by simp only [World.cell?,hkx]; rfl
 all_goals have hgl:=HS.out.gl
 all_goals have hel:(E ++ [(⟨0,1,mode,loc,(li 7).getD u 0,true⟩:Ev)]).length=E.length + 1:=by simp
 all_goals clear hS5 hp2 hp3 hp4 hkx m1 m3 m4
 all_goals go_wp2_with fail
 all_goals rw [← h19]
 all_goals refine faR_l w5 ⟨w0.toWorld,(xb,_)::w0.kp⟩ s gb xb ve5 vr _ rm _ (rg.set r ((li 7).getD u 0)) sh im5 _ pi5 loc m2 add ((li 7).getD u 0) r HS5.out n4 n2 n3 hr hri (by rw [List.getD_eq_getElem?_getD,List.getElem?_set_self (by omega)]; rfl) (by rw [hel]; omega) hrm (by rw [q2]; simp; omega) (by rw [updF_ne _ _ (by omega),updF_ne _ _ (by omega),updF_ne _ _ (by omega),updF_at,updF_at]; have:=HOF.out.len; simp; omega) (by rw [updF_ne _ _ (by omega),updF_ne _ _ (by omega),updF_ne _ _ (by omega),updF_ne _ _ (by omega)]; omega) (by rw [updF_ne _ _ (by omega),updF_ne _ _ (by omega),updF_ne _ _ (by omega),updF_ne _ _ (by omega)]; omega) _ _ _ _ _ _ _ _ _ _ _ _ _ _ _ _ _ _ _ _ _ _ _ _ _ _ _ _ _ _ _ _ _ _ _ _ _ _ _ _ _ _ _ _ _ _ _ _ _ (fun _ _ _ _ _ h=>h) ?_
 all_goals intro y26 y27 y28 y29 y30 y31 y32 y33 y34 y35 y36 y37 y38 y39 y40 y41 y42 y43 y44 y45 y46 y47 y48 y49 y50 y51 w6 l e6 hw hbo
 all_goals have HW:=Lib.hid hw
 all_goals have HBO:=Lib.hid hbo
 all_goals clear hw hbo
 all_goals go_wp2_with fail
 all_goals go_end0
 all_goals exact faa_end HW.out HBO.out HP5.out HOF.out hr
end Go.Proofs.Yteghpophcnehgaa
namespace Go.Proofs.Yteghpophcnehgaa
open Go.RowKit ExprA SndA
namespace SndA
def StBack (w w':World) (v7:Value) (rd:List Int) (e1:Ending):Prop:=
 ∃ s gb im li pi,e1=.returned (.pointer (some ⟨s,0,none⟩))∧RS ⟨w,[]⟩ w' s gb (.slice none 0 0) (.slice none 0 0) [] [] 0 [0,0,0,0,0,0,0,0] false im li pi∧im 7=v7∧li 7=rd∧(∀ k,k ≠ 7→li k=[])∧∀ k,pi k=[]
theorem start_made {w:World} {pa:Option Addr} {n pc:Nat} {rd:List Int} (h:LV w (.slice pa n pc) rd) :
  StBack w ((w.alloc (.cells #[.slice none 0 0,.slice none 0 0,.slice none 0 0,.slice none 0 0,.slice none 0 0,.int .i64 0,.slice (some ⟨w.heap.size + 1,0,none⟩) 8 8,.slice pa n pc,.slice none 0 0,.slice none 0 0,.slice none 0 0,.slice none 0 0,.slice none 0 0,.slice none 0 0,.slice none 0 0,.slice none 0 0,.slice none 0 0,.slice none 0 0,.bool false] 98)).alloc (.cells (nints [0,0,0,0,0,0,0,0]).toArray 3)) (.slice pa n pc) rd (.returned (.pointer (some ⟨w.heap.size,0,none⟩))):=by
 have hb1:Below w.heap.size w ((w.alloc (.cells #[.slice none 0 0,.slice none 0 0,.slice none 0 0,.slice none 0 0,.slice none 0 0,.int .i64 0,.slice (some ⟨w.heap.size + 1,0,none⟩) 8 8,.slice pa n pc,.slice none 0 0,.slice none 0 0,.slice none 0 0,.slice none 0 0,.slice none 0 0,.slice none 0 0,.slice none 0 0,.slice none 0 0,.slice none 0 0,.slice none 0 0,.bool false] 98)).alloc (.cells (nints [0,0,0,0,0,0,0,0]).toArray 3)):=((Below.refl _ _).alloc (Nat.le_refl _) _).alloc (by simp) _
 have hx:((w.alloc (.cells #[.slice none 0 0,.slice none 0 0,.slice none 0 0,.slice none 0 0,.slice none 0 0,.int .i64 0,.slice (some ⟨w.heap.size + 1,0,none⟩) 8 8,.slice pa n pc,.slice none 0 0,.slice none 0 0,.slice none 0 0,.slice none 0 0,.slice none 0 0,.slice none 0 0,.slice none 0 0,.slice none 0 0,.slice none 0 0,.slice none 0 0,.bool false] 98)).alloc (.cells (nints [0,0,0,0,0,0,0,0]).toArray 3)).heap[w.heap.size]?=some (.cells #[.slice none 0 0,.slice none 0 0,.slice none 0 0,.slice none 0 0,.slice none 0 0,.int .i64 0,.slice (some ⟨w.heap.size + 1,0,none⟩) 8 8,.slice pa n pc,.slice none 0 0,.slice none 0 0,.slice none 0 0,.slice none 0 0,.slice none 0 0,.slice none 0 0,.slice none 0 0,.slice none 0 0,.slice none 0 0,.slice none 0 0,.bool false] 98 (0,0)):=by
  rw [alloc_old _ _ _ (by simp),alloc_at _ _ _ rfl]
 have hg:((w.alloc (.cells #[.slice none 0 0,.slice none 0 0,.slice none 0 0,.slice none 0 0,.slice none 0 0,.int .i64 0,.slice (some ⟨w.heap.size + 1,0,none⟩) 8 8,.slice pa n pc,.slice none 0 0,.slice none 0 0,.slice none 0 0,.slice none 0 0,.slice none 0 0,.slice none 0 0,.slice none 0 0,.slice none 0 0,.slice none 0 0,.slice none 0 0,.bool false] 98)).alloc (.cells (nints [0,0,0,0,0,0,0,0]).toArray 3)).heap[w.heap.size + 1]?=some (.cells (nints [0,0,0,0,0,0,0,0]).toArray 3 (0,0)):=alloc_at _ _ _ (by simp)
 generalize ((w.alloc (.cells #[.slice none 0 0,.slice none 0 0,.slice none 0 0,.slice none 0 0,.slice none 0 0,.int .i64 0,.slice (some ⟨w.heap.size + 1,0,none⟩) 8 8,.slice pa n pc,.slice none 0 0,.slice none 0 0,.slice none 0 0,.slice none 0 0,.slice none 0 0,.slice none 0 0,.slice none 0 0,.slice none 0 0,.slice none 0 0,.slice none 0 0,.bool false] 98)).alloc (.cells (nints [0,0,0,0,0,0,0,0]).toArray 3))=W at hb1 hx hg ⊢
 refine ⟨w.heap.size,w.heap.size + 1,fun k=>if k=7 then .slice pa n pc else .slice none 0 0,fun k=>if k=7 then rd else [],fun _=>[],rfl,⟨hx,World.ownsRow_nil _ _ _ _,World.ownsRow_nil _ _ _ _,hg,rfl,Nat.le_refl _,Nat.le_succ _,fun k _ b q=>?_,fun k _ _=>?_,fun k _ _=>?_,hb1,(fun x hx=>by cases hx)⟩,rfl,rfl,fun k hk=>by simp [hk],fun _=>rfl⟩
 ·by_cases c:k=7
  ·simp only [c,if_true] at q
   have hq:=(h.lt b q).2
   have hz:=hb1.size
   exact ⟨by omega,by omega,by omega,(fun r=>by cases r),(fun r=>by cases r),fun z=>absurd z (by omega)⟩
  ·simp only [c,if_false] at q; cases q
 ·by_cases c:k=7
  ·simp only [c,if_true]; exact h.next hb1
  ·simp only [c,if_false]; exact LV.nil _
 ·have c:k ≠ 7:=by omega
  simp only [c,if_false]; exact PV.nil _
end SndA
set_option maxRecDepth 20000 in
set_option maxHeartbeats 8000000 in
theorem start_any (v7:Value) (rd:List Int) (w:World) (h:LV w v7 rd) :
  Calls Try.prog 49 #[v7] w fun e1 w'=>StBack w w' v7 rd e1:=by
 have HL:=Lib.hid h
 have hmk:∀ W:World,(Instr.makeSlice 22 (.int .i64 8) (.int .i64 8)).run Try.prog W=.ok (.slice (some ⟨W.heap.size,0,none⟩) 8 8) (W.alloc (.cells (nints [0,0,0,0,0,0,0,0]).toArray 3)):=fun W=>run_make_row' (P:=Try.prog) 22 3 (.int .i64 0) 8 Try.underlying22 infoInt rfl .i64 .i64 8 (by omega) (by omega) W |>.trans (by rw [show madeCells #[Value.int .i64 0] 8=(nints [0,0,0,0,0,0,0,0]).toArray by kernel_rfl])
 obtain ⟨pa,pc,rfl⟩:=own_len h
 clear h
 go_enter Try.func49,Try.ntmps49
 go_wp2_with fail
 go_ret
 exact start_made HL.out
end Go.Proofs.Yteghpophcnehgaa
namespace Go.Proofs.Yteghpophcnehgaa
open Go.RowKit ExprA SndA
namespace SndA
def runU (L:List Ins) (rd:List Int):Nat→Nat→Nat→List Int→Bool × Nat
 | 0,_,u,_=>(false,u)
 | f + 1,k,u,rg=>
  if k < L.length then
   if (L.getD k Ins.zero).k=1 ∨ (L.getD k Ins.zero).k=4 then (if u < rd.length then runU L rd f (k + 1) (u + 1) (rg.set (L.getD k Ins.zero).r.toNat (rd.getD u 0)) else (true,u))
   else if (L.getD k Ins.zero).k=5 then runU L rd f (k + 1) u (rg.set (L.getD k Ins.zero).r.toNat (evalS (L.getD k Ins.zero).E rg))
   else if (L.getD k Ins.zero).k=6 then runU L rd f (k + (if evalS (L.getD k Ins.zero).E rg=0 then 0 else (L.getD k Ins.zero).n.toNat) + 1) u rg
   else runU L rd f (k + 1) u rg
  else (false,u)
def doU (L:List Ins) (rd:List Int):Bool × Nat:=runU L rd L.length 0 0 [0,0,0,0,0,0,0,0]
theorem rise_from:∀ (L:List Int) (a n:Int),Rise L→(∀ x ∈ L,a≤x∧x < n)→a≤n→(L.length:Int)≤n - a
 | [],a,n,_,_,h=>by simp; omega
 | x::L,a,n,hr,hm,h=>by
  have h1:=List.pairwise_cons.1 hr
  have hx:=hm x (List.mem_cons_self ..)
  have:=rise_from L (x + 1) n h1.2 (fun y hy=>by have:=h1.1 y hy; have:=hm y (List.mem_cons_of_mem _ hy); omega) (by omega)
  simp only [List.length_cons]
  omega
theorem rise_len {L:List Int} {n:Nat} (hr:Rise L) (hm:∀ x ∈ L,0≤x∧x < (n:Int)):L.length≤n:=by
 have:=rise_from L 0 n hr hm (by omega)
 omega
def InR (n:Nat) (l:List Int):Prop:=Rise l∧∀ x ∈ l,0≤x∧x < (n:Int)
theorem InR.len {n:Nat} {l:List Int} (h:InR n l):l.length≤n:=rise_len h.1 h.2
theorem InR.mono {n m:Nat} {l:List Int} (h:InR n l) (hn:n≤m):InR m l:=⟨h.1,fun x hx=>by have:=h.2 x hx; omega⟩
theorem InR.one (n m:Nat) (h:n < m):InR m [(n:Int)]:=⟨List.pairwise_singleton _ _,fun x hx=>by rw [List.mem_singleton] at hx; subst hx; omega⟩
theorem InR.nil (n:Nat):InR n []:=⟨List.Pairwise.nil,(fun x hx=>by cases hx)⟩
structure DI (k:Nat) (E:List Ev) (rm:List (Int × Int)) (li:Nat→List Int) (pi:Nat→List (Int × Int)):Prop where
 el:E.length≤2 * k
 rl:rm.length≤k
 li_:∀ j,8≤j→j≤17→InR E.length (li j)
 pl:∀ j,2≤j→j≤4→(pi j).length≤6 * E.length
section
variable {k:Nat} {E:List Ev} {rm:List (Int × Int)} {li:Nat→List Int} {pi pi' pi2:Nat→List (Int × Int)}
theorem DI.len (h:DI k E rm li pi) (hk:k≤3):E.length≤6∧rm.length≤3∧(∀ j,8≤j→j≤17→(li j).length≤6)∧(∀ j,2≤j→j≤4→(pi j).length≤36):=by
 have h1:=h.el
 have h2:=h.rl
 refine ⟨by omega,by omega,fun j a b=>?_,fun j a b=>?_⟩
 ·have:=(h.li_ j a b).len; omega
 ·have:=h.pl j a b; omega
theorem DI.up (h:DI k E rm li pi) {m:Nat} (hm:k≤m):DI m E rm li pi:=⟨by have:=h.el; omega,by have:=h.rl; omega,h.li_,h.pl⟩
theorem DI.of (h:DI k E rm li pi) {l:List Int} (g:OfOk li 9 l):InR E.length l:=
 ⟨g.up (fun j a b=>(h.li_ j a (by omega)).1),fun x hx=>by obtain ⟨j,a,b,c⟩:=g.mem x hx; exact (h.li_ j a (by omega)).2 x c⟩
theorem DI.set (h:DI k E rm li pi) (j:Nat) (l:List Int) (hl:InR E.length l):DI k E rm (updF li j l) pi:=
 ⟨h.el,h.rl,fun i a b=>by
  by_cases c:i=j
  ·subst c; rw [updF_at]; exact hl
  ·rw [updF_ne _ _ c]; exact h.li_ i a b,h.pl⟩
theorem DI.event (h:DI k E rm li pi) (hk:k≤3) {e:Ev} {D:List Int} (hD:D.length≤6) (h2:PairsOk (pi 2) D (E.length:Int) (pi' 2)) (h3:PairsOk (pi 3) (li 16) (E.length:Int) (pi' 3)) (h4:PairsOk (pi 4) (li 17) (E.length:Int) (pi' 4)) :
  (E ++ [e]).length=E.length + 1∧(∀ j,8≤j→j≤17→InR (E ++ [e]).length (li j))∧∀ j,2≤j→j≤4→(pi' j).length≤6 * (E ++ [e]).length:=by
 obtain ⟨_,_,g3,_⟩:=h.len hk
 have e1:(E ++ [e]).length=E.length + 1:=by simp
 refine ⟨e1,fun j a b=>(h.li_ j a b).mono (by omega),fun j a b=>?_⟩
 rw [e1]
 have c:j=2 ∨ j=3 ∨ j=4:=by omega
 rcases c with c | c | c <;> subst c
 ·have:=h2.len; have:=h.pl 2 (by omega) (by omega); omega
 ·have:=h3.len; have:=h.pl 3 (by omega) (by omega); have:=g3 16 (by omega) (by omega); omega
 ·have:=h4.len; have:=h.pl 4 (by omega) (by omega); have:=g3 17 (by omega) (by omega); omega
theorem DI.read (h:DI k E rm li pi) (hk:k≤3) {e:Ev} {r:Nat} (h2:PairsOk (pi 2) [] (E.length:Int) (pi' 2)) (h3:PairsOk (pi 3) (li 16) (E.length:Int) (pi' 3)) (h4:PairsOk (pi 4) (li 17) (E.length:Int) (pi' 4)) :
  DI (k + 1) (E ++ [e]) rm (updF (updF (updF li 20 []) 18 [(E.length:Int)]) (8 + r) [(E.length:Int)]) pi':=by
 obtain ⟨a,b,c⟩:=h.event hk (e:=e) (D:=[]) (by simp) h2 h3 h4
 have h0:DI (k + 1) (E ++ [e]) rm li pi':=⟨by have:=h.el; omega,by have:=h.rl; omega,b,c⟩
 exact ((h0.set 20 _ (InR.nil _)).set 18 _ (InR.one _ _ (by omega))).set (8 + r) _ (InR.one _ _ (by omega))
theorem DI.write (h:DI k E rm li pi) (hk:k≤3) {e:Ev} {l:List Int} (hl:InR E.length l) (h2:PairsOk (pi 2) l (E.length:Int) (pi' 2)) (h3:PairsOk (pi 3) (li 16) (E.length:Int) (pi' 3)) (h4:PairsOk (pi 4) (li 17) (E.length:Int) (pi' 4)) :
  DI (k + 1) (E ++ [e]) rm (updF li 20 l) pi':=by
 obtain ⟨g1,_⟩:=h.len hk
 obtain ⟨a,b,c⟩:=h.event hk (e:=e) (D:=l) (by have:=hl.len; omega) h2 h3 h4
 have h0:DI (k + 1) (E ++ [e]) rm li pi':=⟨by have:=h.el; omega,by have:=h.rl; omega,b,c⟩
 exact h0.set 20 _ (hl.mono (by omega))
theorem DI.faa (h:DI k E rm li pi) (hk:k≤2) {e e2:Ev} {r:Nat} {lo l:List Int} {p:Int × Int} (ho:OfOk li 9 lo) (hb:BothOk lo [(E.length:Int)] l) (h2:PairsOk (pi 2) [] (E.length:Int) (pi2 2)) (h3:PairsOk (pi 3) (li 16) (E.length:Int) (pi2 3)) (h4:PairsOk (pi 4) (li 17) (E.length:Int) (pi2 4))
  (h5:PairsOk (pi2 2) l ((E.length:Int) + 1) (pi' 2)) (h6:PairsOk (pi2 3) (li 16) ((E.length:Int) + 1) (pi' 3)) (h7:PairsOk (pi2 4) (li 17) ((E.length:Int) + 1) (pi' 4)) :
  DI (k + 1) (E ++ [e] ++ [e2]) (rm ++ [p]) (updF (updF (updF (updF (updF li 19 lo) 20 []) 18 [(E.length:Int)]) (8 + r) [(E.length:Int)]) 20 l) pi':=by
 obtain ⟨a,b,c⟩:=h.event (by omega) (e:=e) (D:=[]) (by simp) h2 h3 h4
 have hel:=h.el
 have hlo:=h.of ho
 have hll:InR (E.length + 1) l:=⟨hb.up hlo.1,fun x hx=>by
  rcases hb.mem x hx with q | q
  ·have:=hlo.2 x q; omega
  ·rw [List.mem_singleton] at q; subst q; omega⟩
 obtain ⟨_,_,g3,_⟩:=h.len (show k≤3 by omega)
 have e2l:(E ++ [e] ++ [e2]).length=E.length + 2:=by simp
 have h0:DI (k + 1) (E ++ [e] ++ [e2]) (rm ++ [p]) li pi':=by
  refine ⟨by omega,by have:=h.rl; simp; omega,fun j x y=>(h.li_ j x y).mono (by omega),fun j x y=>?_⟩
  rw [e2l]
  have cc:j=2 ∨ j=3 ∨ j=4:=by omega
  rcases cc with q | q | q <;> subst q
  ·have:=h5.len; have:=c 2 (by omega) (by omega); have:=hll.len; omega
  ·have:=h6.len; have:=c 3 (by omega) (by omega); have:=g3 16 (by omega) (by omega); omega
  ·have:=h7.len; have:=c 4 (by omega) (by omega); have:=g3 17 (by omega) (by omega); omega
 exact ((((h0.set 19 _ (hlo.mono (by omega))).set 20 _ (InR.nil _)).set 18 _ (InR.one _ _ (by omega))).set (8 + r) _ (InR.one _ _ (by omega))).set 20 _ (hll.mono (by omega))
theorem InR.both {A B l:List Int} (ha:InR E.length A) (hb:InR E.length B) (g:BothOk A B l):InR E.length l:=
 ⟨g.up ha.1,fun x hx=>by
  rcases g.mem x hx with q | q
  ·exact ha.2 x q
  ·exact hb.2 x q⟩
end
end SndA
end Go.Proofs.Yteghpophcnehgaa
