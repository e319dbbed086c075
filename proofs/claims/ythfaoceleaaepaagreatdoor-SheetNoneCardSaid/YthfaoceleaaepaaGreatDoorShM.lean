/-
  What is said of one row of one number below 10 (exegesis/sheet.lists): its line. Conditions: none but those that the theorems print.
-/
import Derived.Test.YthfaoceleaaepaaGreatDoorShL
namespace Go.Proofs.YthfaoceleaaepaaGreatDoor.sh
open Go.RowKit Go.Rn
theorem knownL:known Tryz.prog 41=true:=by kernel_rfl
theorem cells_dig (z:Nat):Lib.strCells (strV [48 + z])=Lib.byteCells [UInt8.ofNat (48 + z)]:=rfl
theorem cells_line (z:Nat):Lib.byteCells [UInt8.ofNat (48 + z)] ++ [Value.int .u8 10]=Lib.byteCells [UInt8.ofNat (48 + z),10]:=rfl
set_option maxRecDepth 100000 in
set_option maxHeartbeats 3200000 in
theorem lists_walk (w:World) (B O B2 O2:Nat) (sp sp2:Option Nat) (cap cap2 z:Nat) (D R:ByteArray) (l:List UInt8) (L1 L2:List Value) (hR:R=⟨l.toArray⟩) (e1:[] ++ Lib.strCells D=L1) (e2:L1 ++ [Value.int .u8 10]=L2) (e3:L2=Lib.byteCells l) (hD:D.size=1) (hL:L1.length=1)
  (i0:∀ w:World,Calls Tryz.prog 30 #[.int .i64 z] w fun e w'=>e=.returned (.string D)∧w'=w)
  (c1:w.cell? ⟨B,O,sp⟩=some (.slice (some ⟨B2,O2,sp2⟩) 1 cap2)) (c2:w.cell? ⟨B2,O2,sp2⟩=some (.int .i64 z)) :
  Calls Tryz.prog 41 #[.slice (some ⟨B,O,sp⟩) 1 cap,.int .i64 0] w fun e w'=>e=.returned (.string R)∧Old w w':=by
 have l1:B < w.heap.size:=World.block_lt_of_cell? w _ c1
 have l2:B2 < w.heap.size:=World.block_lt_of_cell? w _ c2
 have hf:=Lib.hid (Lib.fresh_isBuilder 149 5 w)
 have hb0:=Lib.hid ((Below.refl w.heap.size w).alloc (Nat.le_refl _) (.cells #[.pointer none,.slice none 0 0] 149))
 have E1:=Lib.hid e1
 have E2:=Lib.hid e2
 have E3:=Lib.hid e3
 have ER:=Lib.hid hR
 clear e1 e2 e3 hR
 go_enter Tryz.func41,Tryz.ntmps41
 go_wp2_with fail
 go_loopw [19] (fun i wr=>∃ k:Nat,k≤1∧i=.int .i64 k∧Hid (k=0→Lib.IsBuilder 149 5 w.heap.size w.heap.size [] wr)∧Hid (k=1→Lib.IsBuilder 149 5 w.heap.size w.heap.size L2 wr)∧Hid (Below w.heap.size w wr)) (fun i _=>1 - (intOf i).toNat)
 case atStart=>exact ⟨0,by omega,rfl,Lib.hid (fun _=>hf.out),Lib.hid (fun h=>by omega),hb0⟩
 case round=>
  obtain ⟨k,hk,rfl,H0,H1,HB⟩:=hrel
  rcases (show k=0 ∨ k=1 by omega) with rfl | rfl
  ·have hI:=Lib.hid (H0.out rfl)
   have d1:=(HB.out.cell (p:=⟨B,O,sp⟩) l1).trans c1
   have hs1:=HB.out.size
   clear H0 H1
   go_wp2_with fail
   go_loopw [25] (fun i wq=>∃ j:Nat,j≤1∧i=.int .i64 j∧Hid (j=0→Lib.IsBuilder 149 5 w.heap.size w.heap.size [] wq)∧Hid (j=1→Lib.IsBuilder 149 5 w.heap.size w.heap.size L1 wq)∧Hid (Below w.heap.size w wq)) (fun i _=>1 - (intOf i).toNat)
   case atStart=>exact ⟨0,by omega,rfl,Lib.hid (fun _=>hI.out),Lib.hid (fun h=>by omega),HB⟩
   case round=>
    obtain ⟨j,hj,rfl,J0,J1,JB⟩:=hrel
    rcases (show j=0 ∨ j=1 by omega) with rfl | rfl
    ·have jI:=Lib.hid (J0.out rfl)
     have d2:=(JB.out.cell (p:=⟨B2,O2,sp2⟩) l2).trans c2
     have hs2:=JB.out.size
     clear J0 J1
     go_wp2_with (first | (go_at_call 30; refine (i0 _).mono ?_; rintro e w1 ⟨rfl,rfl⟩) | (go_at_call 78; refine (shb.writeString w.heap.size w.heap.size [] D _ jI.out (by simp [hD]) hs2).mono ?_; rintro e w2 ⟨rfl,h2,b2⟩; rw [E1.out] at h2; have H2:=Lib.hid h2; have HB2:=Lib.hid (JB.out.trans b2); clear h2 b2))
     refine ⟨⟨_,_,.int .i64 1,_,_,_,_,_,_,_,_,_,_,_,⟨1,by omega,rfl,Lib.hid (fun h=>by omega),Lib.hid (fun _=>.inr H2.out),HB2⟩,rfl⟩,?_⟩
     simp [intOf]
    ·have jI:=Lib.hid (J1.out rfl)
     have hs2:=JB.out.size
     clear J0 J1
     go_wp2_with (first | (go_at_call 77; refine (shb.writeByte w.heap.size w.heap.size L1 10 _ jI.out (by omega) hs2).mono ?_; rintro e w2 ⟨rfl,h2,b2⟩; rw [E2.out] at h2; have H2:=Lib.hid h2; have HB2:=Lib.hid (JB.out.trans b2); clear h2 b2))
     go_roundw
     case rel=>exact ⟨1,by omega,by go_num,Lib.hid (fun h=>by omega),Lib.hid (fun _=>.inr H2.out),HB2⟩
     case measure=>simp [intOf]
  ·have hI:=Lib.hid (H1.out rfl)
   have hs1:=HB.out.size
   clear H0 H1
   go_wp2_with (first | (go_at_call 79; refine (shb.stringAny w.heap.size w.heap.size l _ (by rw [← E3.out]; exact hI.out) hs1).mono ?_; rintro e w2 ⟨rfl,b2⟩; rw [← ER.out]; have HB2:=Lib.hid (HB.out.trans b2); clear b2))
   go_ret
   have hb:=HB2.out
   exact ⟨rfl,⟨hb.1,hb.2,hb.3,hb.4,hb.5⟩⟩
theorem lists_ok:LstC Tryz.prog 41:=fun w A A2 cap cap2 z hz c1 c2=>
 lists_walk w A.block A.off A2.block A2.off A.spot A2.spot cap cap2 z (strV [48 + z]) (strV [48 + z,10]) [UInt8.ofNat (48 + z),10] (Lib.byteCells [UInt8.ofNat (48 + z)]) _ rfl (cells_dig z) (cells_line z) rfl rfl rfl (itoa_dig z hz) c1 c2
end Go.Proofs.YthfaoceleaaepaaGreatDoor.sh
