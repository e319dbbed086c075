/-
  What the functions that the law reaches do, one by one: contracts. Conditions: those that each of them prints.
-/
import Derived.Test.YteghpophcnehgaaMzp
import Derived.Test.YteghpophcnehgaaMzt
import Derived.Test.YteghpophcnehgaaMzv
import Derived.WalkKit
namespace Go.Proofs.Yteghpophcnehgaa
open Go.RowKit ExprA SndA Mem
set_option maxRecDepth 100000 in
set_option maxHeartbeats 32000000 in
theorem awake_ok (w:World):Calls Try.prog 6 #[] w fun e w'=>e=.returned (.bool true)∧Below w.heap.size w w':=by
 go_enter Try.func6,Try.ntmps6
 go_wp2_with fail
 obtain ⟨W1,hW1⟩:∃ x,x=((((((w.alloc (Obj.cells #[.int .i64 0,.int .i64 2,.int .i64 0,.int .i64 0,.int .i64 0,.bool false,.int .i64 0,.int .i64 2,.int .i64 0,.int .i64 1,.int .i64 0,.bool false] 49 (0,0))).alloc (Obj.cells #[.int .i64 (-1),.int .i64 (-1)] 3 (0,0))).alloc (Obj.cells #[.int .i64 0] 3 (0,0))).alloc (Obj.cells #[.int .i64 1] 3 (0,0))).alloc (Obj.cells #[.slice (some ⟨w.heap.size + 1 + 1,0,none⟩) 1 1,.slice (some ⟨w.heap.size + 1 + 1 + 1,0,none⟩) 1 1] 22 (0,0))).alloc (Obj.cells #[.int .i64 2,.slice (some ⟨w.heap.size,0,none⟩) 2 2,.slice (some ⟨w.heap.size + 1,0,none⟩) 2 2,.slice (some ⟨w.heap.size + 1 + 1 + 1 + 1,0,none⟩) 2 2,.slice none 0 0,.slice none 0 0,.slice none 0 0,.slice none 0 0] 38 (0,0))):=⟨_,rfl⟩
 rw [← hW1]
 obtain ⟨k0,k1,k2,k3,k4,k5,ks,kb⟩:W1.heap[w.heap.size + 0]?=some (Obj.cells #[.int .i64 0,.int .i64 2,.int .i64 0,.int .i64 0,.int .i64 0,.bool false,.int .i64 0,.int .i64 2,.int .i64 0,.int .i64 1,.int .i64 0,.bool false] 49 (0,0))∧W1.heap[w.heap.size + 1]?=some (Obj.cells #[.int .i64 (-1),.int .i64 (-1)] 3 (0,0))∧W1.heap[w.heap.size + 2]?=some (Obj.cells #[.int .i64 0] 3 (0,0))∧W1.heap[w.heap.size + 3]?=some (Obj.cells #[.int .i64 1] 3 (0,0))∧W1.heap[w.heap.size + 4]?=some (Obj.cells #[.slice (some ⟨w.heap.size + 1 + 1,0,none⟩) 1 1,.slice (some ⟨w.heap.size + 1 + 1 + 1,0,none⟩) 1 1] 22 (0,0))∧W1.heap[w.heap.size + 5]?=some (Obj.cells #[.int .i64 2,.slice (some ⟨w.heap.size,0,none⟩) 2 2,.slice (some ⟨w.heap.size + 1,0,none⟩) 2 2,.slice (some ⟨w.heap.size + 1 + 1 + 1 + 1,0,none⟩) 2 2,.slice none 0 0,.slice none 0 0,.slice none 0 0,.slice none 0 0] 38 (0,0))∧W1.heap.size=w.heap.size + 6∧Below w.heap.size w W1:=by
   rw [hW1]
   refine ⟨?_,?_,?_,?_,?_,?_,?_,?_⟩
   ·exact (alloc_old _ _ _ (by simp; try omega)).trans ((alloc_old _ _ _ (by simp; try omega)).trans ((alloc_old _ _ _ (by simp; try omega)).trans ((alloc_old _ _ _ (by simp; try omega)).trans ((alloc_old _ _ _ (by simp; try omega)).trans (at_new _ _ _ (by simp; try omega))))))
   ·exact (alloc_old _ _ _ (by simp; try omega)).trans ((alloc_old _ _ _ (by simp; try omega)).trans ((alloc_old _ _ _ (by simp; try omega)).trans ((alloc_old _ _ _ (by simp; try omega)).trans (at_new _ _ _ (by simp; try omega)))))
   ·exact (alloc_old _ _ _ (by simp; try omega)).trans ((alloc_old _ _ _ (by simp; try omega)).trans ((alloc_old _ _ _ (by simp; try omega)).trans (at_new _ _ _ (by simp; try omega))))
   ·exact (alloc_old _ _ _ (by simp; try omega)).trans ((alloc_old _ _ _ (by simp; try omega)).trans (at_new _ _ _ (by simp; try omega)))
   ·exact (alloc_old _ _ _ (by simp; try omega)).trans (at_new _ _ _ (by simp; try omega))
   ·exact at_new _ _ _ (by simp; try omega)
   ·simp
   ·exact ((((((Below.refl _ _).alloc (Nat.le_refl _) _).alloc (by simp; try omega) _).alloc (by simp; try omega) _).alloc (by simp; try omega) _).alloc (by simp; try omega) _).alloc (by simp; try omega) _
 have HA:=Lib.hid (And.intro k0 (And.intro k2 (And.intro k3 k4)))
 have HAB:=Lib.hid kb
 have HGO:Hid (GOk (fun _=>True) W1 ⟨2,.slice (some ⟨w.heap.size,0,none⟩) 2 2,.slice (some ⟨w.heap.size + 1,0,none⟩) 2 2,.slice (some ⟨w.heap.size + 1 + 1 + 1 + 1,0,none⟩) 2 2,.slice none 0 0,.slice none 0 0,.slice none 0 0,.slice none 0 0⟩ [⟨0,2,0,0,0,false⟩,⟨0,2,0,1,0,false⟩] [[0],[1]] [.slice (some ⟨w.heap.size + 1 + 1,0,none⟩) 1 1,.slice (some ⟨w.heap.size + 1 + 1 + 1,0,none⟩) 1 1]):=Lib.hid (by
  refine ⟨⟨rfl,.inr ⟨_,2,_,rfl,Nat.zero_le _,k0,Nat.le_refl _,by decide,rfl,rfl⟩⟩,⟨⟨rfl,.inr ⟨_,2,_,rfl,Nat.zero_le _,k4,Nat.le_refl _,by decide,rfl,rfl⟩⟩,rfl,fun i hi=>?_⟩,fun i hi=>?_,by decide,by decide,⟨⟨_,_,_,rfl⟩,⟨_,_,_,rfl⟩,⟨_,_,_,rfl⟩,⟨_,_,_,rfl⟩,⟨_,_,_,rfl⟩⟩,fun _ _=>trivial,fun _ _=>trivial,fun _ _ _ _=>trivial⟩
  ·have hi2:i < 2:=hi
   have hc:i=0 ∨ i=1:=by omega
   rcases hc with rfl | rfl
   ·exact lv_one2 k2
   ·exact lv_one2 k3
  ·have hi2:i < 2:=hi
   have hc:i=0 ∨ i=1:=by omega
   rcases hc with rfl | rfl
   ·exact ⟨⟨by decide,fun x hx=>by simp at hx; subst hx; decide⟩,by decide⟩
   ·exact ⟨⟨by decide,fun x hx=>by simp at hx; subst hx; decide⟩,by decide⟩)
 clear hW1 k0 k1 k2 k3 k4 k5 ks kb HA
 refine (mfinal_any _ _ _ _ _ W1 HGO.out).mono ?_
 rintro e w2 ⟨⟨v2,rfl,hv2⟩,hb2⟩
 have HB2:=Lib.hid (HAB.out.trans (hb2.mono HAB.out.size))
 have hv2:LV w2 v2 [0,0]:=hv2
 have HV2:=Lib.hid hv2
 clear hv2 hb2 HGO HAB
 go_wp2_with fail
 have hbA:Below w2.heap.size w2 (w2.alloc (Obj.cells #[.int .i64 0,.int .i64 0] 3 (0,0))):=(Below.refl _ _).alloc (Nat.le_refl _) _
 have HSM:=Lib.hid (same_any v2 (.slice (some ⟨w2.heap.size,0,none⟩) 2 2) [0,0] (w2.alloc (Obj.cells #[.int .i64 0,.int .i64 0] 3 (0,0))) (HV2.out.next hbA) ⟨rfl,.inr ⟨w2.heap.size,2,_,rfl,Nat.zero_le _,heap_alloc_new _ _,Nat.le_refl _,by decide,rfl,rfl⟩⟩ (by decide))
 have HBA:=Lib.hid (ExprA.below_next HB2.out hbA)
 clear hbA
 refine HSM.out.mono ?_
 rintro e w3 ⟨rfl,hb3⟩
 have HB3:=Lib.hid (ExprA.below_next HBA.out hb3)
 clear hb3 HSM HBA HV2
 go_wp2_with fail
 obtain ⟨W3,hW3⟩:∃ x,x=((((w3.alloc (Obj.cells #[.int .i64 2] 3 (0,0))).alloc (Obj.cells #[.int .i64 1] 3 (0,0))).alloc (Obj.cells #[.int .i64 2] 3 (0,0))).alloc (Obj.cells #[.slice (some ⟨w3.heap.size,0,none⟩) 1 1,.slice (some ⟨w3.heap.size + 1,0,none⟩) 1 1,.slice (some ⟨w3.heap.size + 1 + 1,0,none⟩) 1 1] 22 (0,0))):=⟨_,rfl⟩
 rw [← hW3]
 obtain ⟨b0,b1,b2,b3,bs,bb⟩:W3.heap[w3.heap.size + 0]?=some (Obj.cells #[.int .i64 2] 3 (0,0))∧W3.heap[w3.heap.size + 1]?=some (Obj.cells #[.int .i64 1] 3 (0,0))∧W3.heap[w3.heap.size + 2]?=some (Obj.cells #[.int .i64 2] 3 (0,0))∧W3.heap[w3.heap.size + 3]?=some (Obj.cells #[.slice (some ⟨w3.heap.size,0,none⟩) 1 1,.slice (some ⟨w3.heap.size + 1,0,none⟩) 1 1,.slice (some ⟨w3.heap.size + 1 + 1,0,none⟩) 1 1] 22 (0,0))∧W3.heap.size=w3.heap.size + 4∧Below w3.heap.size w3 W3:=by
   rw [hW3]
   refine ⟨?_,?_,?_,?_,?_,?_⟩
   ·exact (alloc_old _ _ _ (by simp; try omega)).trans ((alloc_old _ _ _ (by simp; try omega)).trans ((alloc_old _ _ _ (by simp; try omega)).trans (at_new _ _ _ (by simp; try omega))))
   ·exact (alloc_old _ _ _ (by simp; try omega)).trans ((alloc_old _ _ _ (by simp; try omega)).trans (at_new _ _ _ (by simp; try omega)))
   ·exact (alloc_old _ _ _ (by simp; try omega)).trans (at_new _ _ _ (by simp; try omega))
   ·exact at_new _ _ _ (by simp; try omega)
   ·simp
   ·exact ((((Below.refl _ _).alloc (Nat.le_refl _) _).alloc (by simp; try omega) _).alloc (by simp; try omega) _).alloc (by simp; try omega) _
 have HS3:=Lib.hid (sort_l sort_c sort_none (some ⟨w3.heap.size + 1 + 1 + 1,0,none⟩) [⟨some ⟨w3.heap.size,0,none⟩,[2],1⟩,⟨some ⟨w3.heap.size + 1,0,none⟩,[1],1⟩,⟨some ⟨w3.heap.size + 1 + 1,0,none⟩,[2],1⟩] 3 W3 (.inr ⟨_,0,rfl,blk_lt b3,fun q hq=>by
   have hq3:q < 3:=hq
   have hc:q=0 ∨ q=1 ∨ q=2:=by omega
   rcases hc with rfl | rfl | rfl
   ·exact ⟨cell_of_row _ _ _ _ _ _ b3,.inr ⟨_,0,rfl,blk_lt b0,fun q hq=>by simp at hq; subst hq; exact cell_of_row _ _ _ _ _ _ b0⟩⟩
   ·exact ⟨cell_of_row _ _ _ _ _ _ b3,.inr ⟨_,0,rfl,blk_lt b1,fun q hq=>by simp at hq; subst hq; exact cell_of_row _ _ _ _ _ _ b1⟩⟩
   ·exact ⟨cell_of_row _ _ _ _ _ _ b3,.inr ⟨_,0,rfl,blk_lt b2,fun q hq=>by simp at hq; subst hq; exact cell_of_row _ _ _ _ _ _ b2⟩⟩⟩) (by simp) (fun q hq=>by
  have hq3:q < 3:=hq
  have hc:q=0 ∨ q=1 ∨ q=2:=by omega
  rcases hc with rfl | rfl | rfl <;> simp) (fun h=>by cases h))
 have HBB:=Lib.hid (ExprA.below_next HB3.out bb)
 clear hW3 b0 b1 b2 b3 bs bb
 refine HS3.out.mono ?_
 rintro e w4 ⟨D,a',c',S,rfl,hD,hD0,hDS,hSP,hSA,hb4⟩
 have hDL:D.map Ls.L=[[1],[2]]:=hDS.trans (sort3 (hSP.map Ls.L) hSA)
 have HD:=Lib.hid hD
 have HDL:=Lib.hid hDL
 have HB4:=Lib.hid (HBB.out.trans (hb4.mono HBB.out.size))
 have hlD:D.length=2:=by have:=congrArg List.length hDL; simpa using this
 have HLD:=Lib.hid hlD
 clear hD hD0 hDS hSP hSA hDL hb4 HS3 HBB
 have hdi:(D.length:Int)≤2:=by omega
 clear hlD
 go_wp2_with fail
 obtain ⟨W4,hW4⟩:∃ x,x=(((w4.alloc (Obj.cells #[.int .i64 1] 3 (0,0))).alloc (Obj.cells #[.int .i64 2] 3 (0,0))).alloc (Obj.cells #[.slice (some ⟨w4.heap.size,0,none⟩) 1 1,.slice (some ⟨w4.heap.size + 1,0,none⟩) 1 1] 22 (0,0))):=⟨_,rfl⟩
 rw [← hW4]
 obtain ⟨c0,c1,c2,cs,cb⟩:W4.heap[w4.heap.size + 0]?=some (Obj.cells #[.int .i64 1] 3 (0,0))∧W4.heap[w4.heap.size + 1]?=some (Obj.cells #[.int .i64 2] 3 (0,0))∧W4.heap[w4.heap.size + 2]?=some (Obj.cells #[.slice (some ⟨w4.heap.size,0,none⟩) 1 1,.slice (some ⟨w4.heap.size + 1,0,none⟩) 1 1] 22 (0,0))∧W4.heap.size=w4.heap.size + 3∧Below w4.heap.size w4 W4:=by
   rw [hW4]
   refine ⟨?_,?_,?_,?_,?_⟩
   ·exact (alloc_old _ _ _ (by simp; try omega)).trans ((alloc_old _ _ _ (by simp; try omega)).trans (at_new _ _ _ (by simp; try omega)))
   ·exact (alloc_old _ _ _ (by simp; try omega)).trans (at_new _ _ _ (by simp; try omega))
   ·exact at_new _ _ _ (by simp; try omega)
   ·simp
   ·exact (((Below.refl _ _).alloc (Nat.le_refl _) _).alloc (by simp; try omega) _).alloc (by simp; try omega) _
 have HS4:=Lib.hid (sameLists_l a' (some ⟨w4.heap.size + 1 + 1,0,none⟩) D [⟨some ⟨w4.heap.size,0,none⟩,[1],1⟩,⟨some ⟨w4.heap.size + 1,0,none⟩,[2],1⟩] c' 2 W4 (HD.out.next cb) (.inr ⟨_,0,rfl,blk_lt c2,fun q hq=>by
   have hq3:q < 2:=hq
   have hc:q=0 ∨ q=1:=by omega
   rcases hc with rfl | rfl
   ·exact ⟨cell_of_row _ _ _ _ _ _ c2,.inr ⟨_,0,rfl,blk_lt c0,fun q hq=>by simp at hq; subst hq; exact cell_of_row _ _ _ _ _ _ c0⟩⟩
   ·exact ⟨cell_of_row _ _ _ _ _ _ c2,.inr ⟨_,0,rfl,blk_lt c1,fun q hq=>by simp at hq; subst hq; exact cell_of_row _ _ _ _ _ _ c1⟩⟩⟩) (by have:=HLD.out; omega) (fun q hq=>by
  have h1:=HDL.out
  have h2:(D.getD q Ls.zero).L ∈ D.map Ls.L:=List.mem_map_of_mem (getD_mem hq)
  rw [h1] at h2
  simp only [List.mem_cons,List.not_mem_nil,or_false] at h2
  rcases h2 with h2 | h2 <;> rw [h2] <;> decide))
 have HBC:=Lib.hid (HB4.out.trans (cb.mono HB4.out.size))
 have hdec:decide (mL D=mL [⟨some ⟨w4.heap.size,0,none⟩,[1],1⟩,⟨some ⟨w4.heap.size + 1,0,none⟩,[2],1⟩])=true:=by rw [decide_eq_true_iff]; exact HDL.out
 rw [hdec] at HS4
 clear hW4 c0 c1 c2 cs cb hdec
 refine HS4.out.mono ?_
 rintro e w5 ⟨rfl,q5,hq5⟩
 have HB5:Hid (Below w.heap.size w w5):=Lib.hid (by rw [hq5]; exact HBC.out.trans ((bel_drewN W4 q5).mono HBC.out.size))
 clear hq5 HS4 HBC
 go_wp2_with fail
 obtain ⟨W5,hW5⟩:∃ x,x=(((w5.alloc (Obj.cells #[.int .i64 1] 3 (0,0))).alloc (Obj.cells #[.slice (some ⟨w5.heap.size,0,none⟩) 1 1] 22 (0,0))).alloc (Obj.cells #[.int .i64 1] 3 (0,0))):=⟨_,rfl⟩
 rw [← hW5]
 obtain ⟨d0,d1,d2,ds,db⟩:W5.heap[w5.heap.size + 0]?=some (Obj.cells #[.int .i64 1] 3 (0,0))∧W5.heap[w5.heap.size + 1]?=some (Obj.cells #[.slice (some ⟨w5.heap.size,0,none⟩) 1 1] 22 (0,0))∧W5.heap[w5.heap.size + 2]?=some (Obj.cells #[.int .i64 1] 3 (0,0))∧W5.heap.size=w5.heap.size + 3∧Below w5.heap.size w5 W5:=by
   rw [hW5]
   refine ⟨?_,?_,?_,?_,?_⟩
   ·exact (alloc_old _ _ _ (by simp; try omega)).trans ((alloc_old _ _ _ (by simp; try omega)).trans (at_new _ _ _ (by simp; try omega)))
   ·exact (alloc_old _ _ _ (by simp; try omega)).trans (at_new _ _ _ (by simp; try omega))
   ·exact at_new _ _ _ (by simp; try omega)
   ·simp
   ·exact (((Below.refl _ _).alloc (Nat.le_refl _) _).alloc (by simp; try omega) _).alloc (by simp; try omega) _
 have HS5:=Lib.hid (has_l (some ⟨w5.heap.size + 1,0,none⟩) [⟨some ⟨w5.heap.size,0,none⟩,[1],1⟩] 1 ⟨some ⟨w5.heap.size + 1 + 1,0,none⟩,[1],1⟩ W5 (.inr ⟨_,0,rfl,blk_lt d1,fun q hq=>by
   have hq3:q < 1:=hq
   have hc:q=0:=by omega
   subst hc
   ·exact ⟨cell_of_row _ _ _ _ _ _ d1,.inr ⟨_,0,rfl,blk_lt d0,fun q hq=>by simp at hq; subst hq; exact cell_of_row _ _ _ _ _ _ d0⟩⟩⟩) (.inr ⟨_,0,rfl,blk_lt d2,fun q hq=>by simp at hq; subst hq; exact cell_of_row _ _ _ _ _ _ d2⟩) (by simp) (fun q hq=>by
  have hq3:q < 1:=hq
  have hc:q=0:=by omega
  subst hc; simp) (by simp))
 have HBD:=Lib.hid (HB5.out.trans (db.mono HB5.out.size))
 clear hW5 d0 d1 d2 ds db
 refine HS5.out.mono ?_
 rintro e w6 ⟨rfl,hb6⟩
 have HB6:=Lib.hid (HBD.out.trans (hb6.mono HBD.out.size))
 have hdec:decide ([(1:Int)] ∈ mL [⟨some ⟨w5.heap.size,0,none⟩,[1],1⟩])=true:=by rw [decide_eq_true_iff]; simp [mL]
 clear hb6 HS5 HBD
 go_wp2_with fail
 clear hdec
 obtain ⟨W6,hW6⟩:∃ x,x=((w6.alloc (Obj.cells #[.int .i64 1] 3 (0,0))).alloc (Obj.cells #[.slice (some ⟨w6.heap.size,0,none⟩) 1 1] 22 (0,0))):=⟨_,rfl⟩
 rw [← hW6]
 obtain ⟨u0,u1,us,ub⟩:W6.heap[w6.heap.size + 0]?=some (Obj.cells #[.int .i64 1] 3 (0,0))∧W6.heap[w6.heap.size + 1]?=some (Obj.cells #[.slice (some ⟨w6.heap.size,0,none⟩) 1 1] 22 (0,0))∧W6.heap.size=w6.heap.size + 2∧Below w6.heap.size w6 W6:=by
   rw [hW6]
   refine ⟨?_,?_,?_,?_⟩
   ·exact (alloc_old _ _ _ (by simp; try omega)).trans (at_new _ _ _ (by simp; try omega))
   ·exact at_new _ _ _ (by simp; try omega)
   ·simp
   ·exact ((Below.refl _ _).alloc (Nat.le_refl _) _).alloc (by simp; try omega) _
 have HS6:=Lib.hid (in_l sort_c sort_none (some ⟨w6.heap.size + 1,0,none⟩) none [⟨some ⟨w6.heap.size,0,none⟩,[1],1⟩] [] 1 0 W6 (.inr ⟨_,0,rfl,blk_lt u1,fun q hq=>by
   have hq3:q < 1:=hq
   have hc:q=0:=by omega
   subst hc
   ·exact ⟨cell_of_row _ _ _ _ _ _ u1,.inr ⟨_,0,rfl,blk_lt u0,fun q hq=>by simp at hq; subst hq; exact cell_of_row _ _ _ _ _ _ u0⟩⟩⟩) (.inl rfl) (by simp) (fun q hq=>by
  have hq3:q < 1:=hq
  have hc:q=0:=by omega
  subst hc; simp) (by simp) (fun q hq=>absurd hq (Nat.not_lt_zero _)) (fun _=>⟨rfl,rfl⟩))
 have HBF:=Lib.hid (HB6.out.trans (ub.mono HB6.out.size))
 clear hW6 u0 u1 us ub
 refine HS6.out.mono ?_
 rintro e w7 ⟨rfl,hb7⟩
 have HB7:=Lib.hid (HBF.out.trans (hb7.mono HBF.out.size))
 have hdec:decide (∀ L ∈ mL [⟨some ⟨w6.heap.size,0,none⟩,[1],1⟩],L ∈ mL [])=false:=by rw [decide_eq_false_iff_not]; simp [mL]
 clear hb7 HS6 HBF
 go_wp2_with fail
 go_ret
 exact ⟨rfl,HB7.out⟩
end Go.Proofs.Yteghpophcnehgaa
