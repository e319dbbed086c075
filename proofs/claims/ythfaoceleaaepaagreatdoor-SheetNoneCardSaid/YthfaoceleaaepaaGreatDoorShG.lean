/-
  strings.Replacer.buildOnce.
-/
import Derived.Test.YthfaoceleaaepaaGreatDoorShF
import Derived.Test.YthfaoceleaaepaaGreatDoorShC
namespace Go.Proofs.YthfaoceleaaepaaGreatDoor.sh
open Go.RowKit
structure Built (N rb:Nat) (w w':World):Prop where
 to_:∃ T,T ≠ rb∧N≤T∧T < w'.heap.size∧w'.cell? ⟨rb,3,none⟩=some (.iface 202 (.pointer (some ⟨T,0,none⟩)))∧(∀ k,k < 256→w'.cell? ⟨T,k,none⟩=some (.int .u8 (tab k)))
 old:Below N w w'
set_option maxRecDepth 100000 in
set_option maxHeartbeats 3200000 in
theorem buildOnce_any (N rb ob c:Nat) (w:World) (x3:Value) (hN:N≤rb) (hr:w.cell? ⟨rb,4,none⟩=some (.slice (some ⟨ob,0,none⟩) 4 c)) (hx:w.cell? ⟨rb,3,none⟩=some x3)
  (o0:w.cell? ⟨ob,0,none⟩=some (.string ⟨#[59]⟩)) (o1:w.cell? ⟨ob,1,none⟩=some (.string ⟨#[10]⟩))
  (o2:w.cell? ⟨ob,2,none⟩=some (.string ⟨#[95]⟩)) (o3:w.cell? ⟨ob,3,none⟩=some (.string ⟨#[32]⟩))
  (h0:w.cell? ⟨rb,0,none⟩=some (.int .u32 0)) (h1:w.cell? ⟨rb,1,none⟩=some (.int .i32 1)) (hz:∀ j,w.frozen? ⟨rb,j,none⟩=false) :
  Calls Tryz.prog 35 #[.pointer (some ⟨rb,0,none⟩)] w fun e w'=>e=.returned (.tuple #[])∧Leaves1 rb 0 w'∧Built N rb w w':=by
 have hrb:rb < w.heap.size:=block_lt_of_cell hr
 have HF:Hid (∀ w1:World,w.heap.size < w1.heap.size→(∀ k,k < 256→w1.cell? ⟨w.heap.size,k,none⟩=some (.int .u8 (tab k)))→Below w.heap.size w w1 →
   Leaves1 rb 0 ((w1.setCell ⟨rb,3,none⟩ (.iface 202 (.pointer (some ⟨w.heap.size,0,none⟩)))).setCell ⟨rb,4,none⟩ (.slice none 0 0)) ∧
   Built N rb w ((w1.setCell ⟨rb,3,none⟩ (.iface 202 (.pointer (some ⟨w.heap.size,0,none⟩)))).setCell ⟨rb,4,none⟩ (.slice none 0 0))):=Lib.hid (fun w1 hs ht hb=>by
  have a0:=(hb.cell (p:=⟨rb,0,none⟩) hrb).trans h0
  have a1:=(hb.cell (p:=⟨rb,1,none⟩) hrb).trans h1
  have a3:=(hb.cell (p:=⟨rb,3,none⟩) hrb).trans hx
  have b0:=(hb.frozen (p:=⟨rb,0,none⟩) hrb).trans (hz 0)
  have b1:=(hb.frozen (p:=⟨rb,1,none⟩) hrb).trans (hz 1)
  have ne:∀ (a b:Nat),a ≠ b→(⟨rb,a,none⟩:Addr) ≠ ⟨rb,b,none⟩:=fun a b h e=>h (congrArg Addr.off e)
  have nt:∀ (a b:Nat),(⟨rb,a,none⟩:Addr) ≠ ⟨w.heap.size,b,none⟩:=fun a b e=>by
   have:=congrArg Addr.block e
   simp at this
   omega
  refine ⟨⟨?_,?_,?_,?_⟩,⟨w.heap.size,by omega,by omega,by simpa using hs,?_,fun k hk=>?_⟩,?_⟩
  ·rw [World.cell?_setCell_other _ _ _ _ (ne _ _ (by omega)),World.cell?_setCell_other _ _ _ _ (ne _ _ (by omega))]; exact a0
  ·rw [World.cell?_setCell_other _ _ _ _ (ne _ _ (by omega)),World.cell?_setCell_other _ _ _ _ (ne _ _ (by omega))]; exact a1
  ·simpa using b0
  ·simpa using b1
  ·rw [World.cell?_setCell_other _ _ _ _ (ne _ _ (by omega)),World.cell?_setCell_same _ _ _ a3]
  ·rw [World.cell?_setCell_other _ _ _ _ (nt _ _),World.cell?_setCell_other _ _ _ _ (nt _ _)]; exact ht k hk
  ·exact ((hb.mono (show N≤w.heap.size by omega)).setCell (p:=⟨rb,3,none⟩) hN _).setCell (p:=⟨rb,4,none⟩) hN _)
 go_enter Tryz.func35,Tryz.ntmps35
 go_wp2_with (go_at_call 67; refine (build_any rb ob c w hr o0 o1 o2 o3).mono ?_; rintro e w1 ⟨rfl,hs,ht,hb⟩; have a3:=(hb.cell (p:=⟨rb,3,none⟩) hrb).trans hx; have a4:=(hb.cell (p:=⟨rb,4,none⟩) hrb).trans hr; have b3:=(hb.frozen (p:=⟨rb,3,none⟩) hrb).trans (hz 3); have b4:=(hb.frozen (p:=⟨rb,4,none⟩) hrb).trans (hz 4); have HX:=Lib.hid (HF.out w1 hs ht hb); clear hs ht hb)
 go_end0
 exact ⟨rfl,HX.out.1,HX.out.2⟩
end Go.Proofs.YthfaoceleaaepaaGreatDoor.sh
