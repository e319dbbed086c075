/-
  strings.Replacer.build over ";" "\n" "_" " ": the table of bytes.
-/
import Derived.Test.YthfaoceleaaepaaGreatDoorShE
import Derived.Deep.WholeRow
namespace Go.Proofs.YthfaoceleaaepaaGreatDoor.sh
open Go.RowKit
def s1 (c:UInt8):ByteArray:=⟨#[c]⟩
def tab (k:Nat):Nat:=if k=59 then 10 else if k=95 then 32 else k
structure TabAt (B:Nat) (w':World) (f:Nat→Nat):Prop where
 cell:∀ j,j < 256→w'.cell? ⟨B,j,none⟩=some (.int .u8 (f j))
 open_:∀ j,j < 256→w'.frozen? ⟨B,j,none⟩=false
 size:B < w'.heap.size
theorem TabAt.set {B k:Nat} {w:World} {f:Nat→Nat} (h:TabAt B w f) (hk:k < 256) (v:Nat):TabAt B (w.setCell ⟨B,k,none⟩ (.int .u8 v)) (fun j=>if j=k then v else f j):=by
 refine ⟨fun j hj=>?_,fun j hj=>?_,by simpa using h.size⟩
 ·by_cases e:j=k
  ·subst e
   rw [World.cell?_setCell_same _ _ _ (h.cell j hj)]
   simp
  ·rw [World.cell?_setCell_other _ _ _ _ (by simp only [ne_eq,Addr.mk.injEq,true_and,and_true]; omega),h.cell j hj]
   simp [e]
 ·have:=h.open_ j hj
  simpa using this
theorem TabAt.ext {B:Nat} {w:World} {f g:Nat→Nat} (h:TabAt B w f) (e:∀ j,j < 256→f j=g j):TabAt B w g:=⟨fun j hj=>by rw [← e j hj]; exact h.cell j hj,h.open_,h.size⟩
theorem zeros:∀ j:Nat,j < 256→Tryz.zeroCells201[j]?=some (.int .u8 0):=by
 have h:Tryz.zeroCells201=Array.replicate 256 (.int .u8 0):=by kernel_rfl
 intro j hj
 rw [h]
 simp [hj]
theorem tab_new (w:World):TabAt w.heap.size (w.alloc (.cells Tryz.zeroCells201 201)) (fun _=>0):=by
 have hh:∀ o:Obj,(w.alloc o).heap[w.heap.size]?=some o:=fun o=>by
  show (w.heap.push o)[w.heap.size]?=_
  simp
 refine ⟨fun j hj=>?_,fun j hj=>?_,?_⟩
 ·simp only [World.cell?,hh]
  simpa using zeros j hj
 ·simp only [World.frozen?,hh]
  simp
 ·simp
theorem oneCells:Tryz.zeroCells201.all (·.oneCell')=true:=by kernel_rfl
theorem info201:(Tryz.prog.info? 201).map (·.size)=some Tryz.zeroCells201.size:=by kernel_rfl
set_option maxRecDepth 100000 in
set_option maxHeartbeats 3200000 in
theorem build_any (rb ob c:Nat) (w:World) (hr:w.cell? ⟨rb,4,none⟩=some (.slice (some ⟨ob,0,none⟩) 4 c))
  (o0:w.cell? ⟨ob,0,none⟩=some (.string ⟨#[59]⟩)) (o1:w.cell? ⟨ob,1,none⟩=some (.string ⟨#[10]⟩))
  (o2:w.cell? ⟨ob,2,none⟩=some (.string ⟨#[95]⟩)) (o3:w.cell? ⟨ob,3,none⟩=some (.string ⟨#[32]⟩)) :
  Calls Tryz.prog 67 #[.pointer (some ⟨rb,0,none⟩)] w fun e w'=>e=.returned (.iface 202 (.pointer (some ⟨w.heap.size,0,none⟩)))∧w.heap.size < w'.heap.size ∧
   (∀ k,k < 256→w'.cell? ⟨w.heap.size,k,none⟩=some (.int .u8 (tab k)))∧Below w.heap.size w w':=by
 have z1:(⟨#[59]⟩:ByteArray).size=1:=rfl
 have z2:(⟨#[10]⟩:ByteArray).size=1:=rfl
 have z3:(⟨#[95]⟩:ByteArray).size=1:=rfl
 have z4:(⟨#[32]⟩:ByteArray).size=1:=rfl
 have g1:∀ h,((⟨#[59]⟩:ByteArray)[0]'h).toNat=59:=fun _=>rfl
 have g2:∀ h,((⟨#[10]⟩:ByteArray)[0]'h).toNat=10:=fun _=>rfl
 have g3:∀ h,((⟨#[95]⟩:ByteArray)[0]'h).toNat=95:=fun _=>rfl
 have g4:∀ h,((⟨#[32]⟩:ByteArray)[0]'h).toNat=32:=fun _=>rfl
 have hsc:=run_storeCells_new (P:=Tryz.prog) w 201 Tryz.zeroCells201 Tryz.zeroCells201 info201 rfl oneCells
 have HN:=Lib.hid (tab_new w)
 have HA:=Lib.hid (((Below.refl w.heap.size w)).alloc (Nat.le_refl _) (.cells Tryz.zeroCells201 201))
 go_enter Tryz.func67,Tryz.ntmps67
 go_wp2_with fail
 refine wp_loop_rounds 3 ?_
 iterate 3
  rw [rounds_succ]
  go_wp2_with fail
 go_wp2_with fail
 go_loopw [61] (fun i wr=>∃ k:Nat,k≤256∧i=.int .i64 k∧Hid (TabAt w.heap.size wr (fun j=>if j < k then j else 0))∧Hid (Below w.heap.size w wr)) (fun i _=>256 - (intOf i).toNat)
 case atStart=>exact ⟨0,by omega,rfl,Lib.hid (HN.out.ext (fun j _=>by simp)),HA⟩
 case round=>
  obtain ⟨k,hk,rfl,HT,HW⟩:=hrel
  clear hsc HN HA
  by_cases hlt:k < 256
  ·have d1:decide ((k:Int) < 256)=true:=by simp; omega
   have i0:(k:Int) < 256:=by omega
   have c1:=HT.out.cell k hlt
   have z1:=HT.out.open_ k hlt
   rw [if_neg (by omega)] at c1
   go_wp2_with fail
   go_roundw
   case rel=>exact ⟨k + 1,by omega,by go_num,Lib.hid ((HT.out.set hlt k).ext (fun j hj=>by
    by_cases e:j=k
    ·subst e; simp
    ·by_cases e2:j < k
     ·simp [e,e2,show j < k + 1 by omega]
     ·simp [e,e2,show ¬ j < k + 1 by omega])),Lib.hid (HW.out.setCell (by exact Nat.le_refl _) _)⟩
   case measure=>simp [intOf]; omega
  ·have hkm:k=256:=by omega
   subst hkm
   have hob:ob < w.heap.size:=block_lt_of_cell o0
   have HT0:=Lib.hid (HT.out.ext (g:=fun j=>j) (fun j hj=>by simp [hj]))
   clear HT
   have HT1:=Lib.hid (HT0.out.set (k:=95) (by omega) 32)
   have HT2:=Lib.hid (HT1.out.set (k:=59) (by omega) 10)
   have HW1:=Lib.hid (HW.out.setCell (p:=⟨w.heap.size,95,none⟩) (Nat.le_refl _) (.int .u8 32))
   have HW2:=Lib.hid (HW1.out.setCell (p:=⟨w.heap.size,59,none⟩) (Nat.le_refl _) (.int .u8 10))
   have a2:=(HW.out.cell (p:=⟨ob,2,none⟩) hob).trans o2
   have a3:=(HW.out.cell (p:=⟨ob,3,none⟩) hob).trans o3
   have b0:=(HW1.out.cell (p:=⟨ob,0,none⟩) hob).trans o0
   have b1:=(HW1.out.cell (p:=⟨ob,1,none⟩) hob).trans o1
   have c95:=HT0.out.cell 95 (by omega)
   have z95:=HT0.out.open_ 95 (by omega)
   have c59:(wr.setCell ⟨w.heap.size,95,none⟩ (.int .u8 32)).cell? ⟨w.heap.size,59,none⟩=some (.int .u8 59):=HT1.out.cell 59 (by omega)
   have z59:(wr.setCell ⟨w.heap.size,95,none⟩ (.int .u8 32)).frozen? ⟨w.heap.size,59,none⟩=false:=HT1.out.open_ 59 (by omega)
   have y59:=HT0.out.cell 59 (by omega)
   have x59:=HT0.out.open_ 59 (by omega)
   have HE:=Lib.hid (HT2.out.ext (g:=tab) (fun j _=>by
    unfold tab
    by_cases e:j=59
    ·simp [e]
    ·by_cases e2:j=95
     ·simp [e2]
     ·simp [e,e2]))
   clear HT0 HT1 HT2
   go_wp2_with fail
   refine wp_loop_rounds 3 ?_
   iterate 3
    rw [rounds_succ]
    go_wp2_with fail
   go_ret
   exact ⟨rfl,HE.out.size,HE.out.cell,HW2.out⟩
end Go.Proofs.YthfaoceleaaepaaGreatDoor.sh
