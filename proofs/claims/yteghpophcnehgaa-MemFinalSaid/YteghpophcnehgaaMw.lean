/-
  What the functions that the law reaches do, one by one: contracts. Conditions: those that each of them prints.
-/
import Derived.Test.YteghpophcnehgaaMv
import Derived.WalkKit
import Derived.Deep.Quiet
import Derived.Maps.AppendAt
namespace Go.Proofs.Yteghpophcnehgaa
open Go.RowKit ExprA SndA
set_option maxRecDepth 100000 in
set_option maxHeartbeats 16000000 in
theorem sameInstr_any (i j : Ins) (w : World) (h : TIn w i.a i.E) (h2 : TIn w j.a j.E) (hL : i.E.length ≤ 100) (hL2 : j.E.length ≤ 100) :
    Calls Try.prog 48 #[i.v, j.v] w fun e w' => SaysB e ∧ Below w.heap.size w w' := by
  obtain ⟨ik, im, im2, ir, il, inn, ia, iE, ic⟩ := i
  obtain ⟨jk, jm, jm2, jr, jl, jn, ja, jE, jc⟩ := j
  have HS : Hid (∀ w1, Below w.heap.size w w1 → Calls Try.prog 75 #[.slice ia iE.length ic, .slice ja jE.length jc] w1 fun e w' => SaysB e ∧ Below w1.heap.size w1 w') := Lib.hid (fun w1 hb => rsame_any ia ja iE jE ic jc w1 (h.next hb) (h2.next hb) hL hL2)
  clear h h2
  unfold Ins.v iagg
  dsimp only
  go_enter Try.func48, Try.ntmps48
  have HB1 : Hid (∀ o1 o2 : Obj, Below w.heap.size w ((w.alloc o1).alloc o2)) := Lib.hid (fun o1 o2 => ((Below.refl w.heap.size w).alloc (Nat.le_refl _) o1).alloc ((Below.refl w.heap.size w).alloc (Nat.le_refl _) o1).size o2)
  go_wp2_with fail
  all_goals first
    | (refine (HS.out _ (HB1.out _ _)).mono ?_
       rintro e w3 ⟨⟨b, rfl⟩, hb3⟩
       have HB3 := Lib.hid (below_next (HB1.out _ _) hb3)
       clear hb3
       go_wp2_with fail
       go_ret
       exact ⟨⟨_, rfl⟩, HB3.out⟩)
    | (go_ret
       exact ⟨⟨_, rfl⟩, HB1.out _ _⟩)
end Go.Proofs.Yteghpophcnehgaa
namespace Go.Proofs.Yteghpophcnehgaa
open Go.RowKit ExprA SndA
namespace SndA
def NR (w0 w:World) (v:Value) (M:List Int):Prop:=w.ownsRow w0.heap.size 3 1 v M.length (nints M)
theorem NR.next {w0 w w':World} {v:Value} {M:List Int} (h:NR w0 w v M) (hb:Below w.heap.size w w'):NR w0 w' v M:=own_below h hb
theorem NR.lv {w0 w:World} {v:Value} {M:List Int} (h:NR w0 w v M):LV w v M:=LV.of_own h rfl
theorem NR.grown {w0 w':World} {v':Value} {M:List Int} {x:Int} (hn:w'.ownsRow w0.heap.size 3 1 v' (M.length + 1) (nints M ++ [.int .i64 x])):NR w0 w' v' (M ++ [x]):=by
 unfold NR
 rw [nints_app,show (M ++ [x]).length=M.length + 1 by simp]
 exact hn
end SndA
set_option maxRecDepth 100000 in
set_option maxHeartbeats 16000000 in
theorem domain_any (v0:Value) (D:List Int) (w:World) (h:LV w v0 D) (hD:D.length≤1000) :
  Calls Try.prog 35 #[v0] w fun e w'=>GivesL w' e (fun M=>M.length≤8)∧Below w.heap.size w w':=by
 obtain ⟨da,dc,rfl⟩:=own_len h
 have HD:=Lib.hid h
 have hDi:(D.length:Int)≤1000:=by omega
 obtain ⟨i0,hi,hz0,hz1,hz2⟩:=info_parts infoInt
 clear h
 go_enter Try.func35,Try.ntmps35
 go_wp2_with fail
 go_loopw [3,4] (fun d x wr=>∃ (q:Nat) (M:List Int),q≤D.length∧q≤8∧x=.int .i64 (q:Int)∧M.length≤q∧Hid (NR w wr d M)∧Hid (Below w.heap.size w wr)) (fun _ x _=>D.length - (intOf x).toNat)
 case atStart=>exact ⟨0,[],Nat.zero_le _,Nat.zero_le _,rfl,Nat.le_refl _,Lib.hid (World.ownsRow_nil _ _ _ _),Lib.hid (Below.refl _ _)⟩
 case round=>
  obtain ⟨q,M,hq,hq8,rfl,hM,HM,HB⟩:=hrel
  obtain ⟨ma,mc,rfl⟩:=own_len HM.out
  have hqi:(q:Int)≤8:=by omega
  have hMi:(M.length:Int)≤8:=by omega
  by_cases hlt:q < D.length∧q < 8
  ·obtain ⟨hlt,hl8⟩:=hlt
   have d1:decide ((q:Int) < (D.length:Int))=true:=by rw [decide_eq_true_iff]; omega
   have i1:(q:Int) < (D.length:Int):=by omega
   have d2:decide ((q:Int) < 8)=true:=by rw [decide_eq_true_iff]; omega
   have i2:(q:Int) < 8:=by omega
   obtain ⟨g,hda,hg,hgc,hgm,hcell⟩:=own_cell HD.out hlt rfl
   subst hda
   have c0:=cell_next hcell HB.out
   have HCELL:=Lib.hid hcell
   clear hcell
   generalize D.getD q 0=x at *
   go_wp2_with fail
   go_loopw [5,6] (fun fd kx wr2=>∃ (k:Nat) (f:Bool),k≤M.length∧fd=.bool f∧kx=.int .i64 (k:Int)∧Hid (Below wr.heap.size wr wr2)) (fun _ kx _=>M.length - (intOf kx).toNat)
   case atStart=>exact ⟨0,false,Nat.zero_le _,rfl,rfl,Lib.hid (Below.refl _ _)⟩
   case round=>
    obtain ⟨k,f,hk,rfl,rfl,HB2⟩:=hrel
    have hki:(k:Int)≤8:=by omega
    have HB3:=Lib.hid (below_next HB.out HB2.out)
    have c2:=cell_next HCELL.out HB3.out
    by_cases hkl:k < M.length
    ·have dk:decide ((k:Int) < (M.length:Int))=true:=by rw [decide_eq_true_iff]; omega
     have ik:(k:Int) < (M.length:Int):=by omega
     obtain ⟨gm,hma,hg2,hgc2,hgm2,hcm⟩:=own_cell HM.out hkl rfl
     have c3:=cell_next hcm HB2.out
     subst hma
     clear hcm c0
     generalize M.getD k 0=y at *
     cases f with
     | true=>
      go_wp2_with fail
      go_quiet (fail)
      go_wp2_with fail
      go_roundw
      case rel=>exact ⟨k + 1,true,hkl,rfl,by go_num,Lib.hid (below_next HB2.out (bel_drewN _ _))⟩
      case measure=>simp [intOf]; omega
     | false=>
      by_cases hxy:y=x
      ·have k1:(y == x)=true:=by simp [hxy]
       clear hxy
       go_wp2_with fail
       go_quiet (fail)
       go_wp2_with fail
       go_roundw
       case rel=>exact ⟨k + 1,true,hkl,rfl,by go_num,Lib.hid (below_next HB2.out (bel_drewN _ _))⟩
       case measure=>simp [intOf]; omega
      ·have k1:(y == x)=false:=by simp [hxy]
       clear hxy
       go_wp2_with fail
       go_quiet (fail)
       go_wp2_with fail
       go_roundw
       case rel=>exact ⟨k + 1,false,hkl,rfl,by go_num,Lib.hid (below_next HB2.out (bel_drewN _ _))⟩
       case measure=>simp [intOf]; omega
    ·have dk:decide ((k:Int) < (M.length:Int))=false:=by rw [decide_eq_false_iff_not]; omega
     have ik:¬ (k:Int) < (M.length:Int):=by omega
     clear c0
     cases f with
     | true=>
      go_wp2_with fail
      go_roundw
      case rel=>exact ⟨q + 1,M,hlt,hl8,by go_num,by omega,Lib.hid (HM.out.next HB2.out),HB3⟩
      case measure=>simp [intOf]; omega
     | false=>
      have hb0:=Lib.hid HB3.out.size
      have HO:Hid (World.ownsRow _ _ _ _ _ _ _):=Lib.hid (HM.out.next HB2.out)
      go_wp2_with (first
       | (at_builtin; refine wpList_append_own_at _ rfl (.tmp 37) (.tmp 42) 22 rfl w.heap.size 3 i0 (.int .i64 0) 1 8 Try.underlying22 hi hz0 hz1 hz2 rfl (by decide) _ _ _ rfl (HO.out.alloc _) ⟨_,0,none⟩ 1 1 [.int .i64 x] rfl rfl (World.news_of_block (cs:=#[.int .i64 x]) (t:=3) (fr:=(0,0)) (heap_alloc_new _ _)) (by simp [Value.oneCell']) (by unfold maxLen; omega) (by omega) (by have:=hb0.out; simp; omega) ?_; intro v1 w3 hown1 hgrow1 _ hv1))
      have hbz:∀ o:Obj,Below w.heap.size w (wr.alloc o):=fun o=>HB3.out.alloc HB3.out.size o
      have HB4:=Lib.hid ((hbz _).grown hgrow1 (hbz _).size (fun j hj=>(HO.out.lt j hj).1))
      have HN4:=Lib.hid (NR.grown hown1)
      clear hbz hgrow1 hv1 hown1
      go_roundw
      case rel=>exact ⟨q + 1,M ++ [x],hlt,hl8,by go_num,by simp; omega,HN4,HB4⟩
      case measure=>simp [intOf]; omega
  ·have d2:(decide ((q:Int) < (D.length:Int)) && decide ((q:Int) < 8))=false:=by
    rw [Bool.and_eq_false_iff,decide_eq_false_iff_not,decide_eq_false_iff_not]; omega
   by_cases hl:q < D.length
   ·have d1:decide ((q:Int) < (D.length:Int))=true:=by rw [decide_eq_true_iff]; omega
    have i1:(q:Int) < (D.length:Int):=by omega
    have i2:¬ (q:Int) < 8:=by omega
    go_wp2_with fail
    go_ret
    exact ⟨⟨_,M,rfl,HM.out.lv,by omega⟩,HB.out⟩
   ·have d1:decide ((q:Int) < (D.length:Int))=false:=by rw [decide_eq_false_iff_not]; omega
    have i1:¬ (q:Int) < (D.length:Int):=by omega
    go_wp2_with fail
    go_ret
    exact ⟨⟨_,M,rfl,HM.out.lv,by omega⟩,HB.out⟩
end Go.Proofs.Yteghpophcnehgaa
