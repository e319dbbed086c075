/-
  (*strings.Replacer).Replace, the first time, and spelt: ';' becomes a line's end, '_' a blank.
-/
import Derived.Test.YthfaoceleaaepaaGreatDoorShH
namespace Go.Proofs.YthfaoceleaaepaaGreatDoor.sh
open Go.RowKit
theorem methodReplace (v:Value) (w:World):(Go.method 883 202 v "Replace").run Tryz.prog w=.ok (655,v) w:=by kernel_rfl
theorem tab_lt:∀ k,k < 256→tab k < 256:=fun k h=>by
 unfold tab
 split
 ·omega
 ·split <;> omega
structure Ready (N rb T:Nat) (w w':World):Prop where
 r:w'.cell? ⟨rb,3,none⟩=some (.iface 202 (.pointer (some ⟨T,0,none⟩)))
 t:∀ k,k < 256→w'.cell? ⟨T,k,none⟩=some (.int .u8 (tab k))
 lt:T < w'.heap.size
 old:Below N w w'
theorem ready (N rb:Nat) (w w1:World) (hN:N≤rb) (h:Built N rb (w.setCell ⟨rb,1,none⟩ (.int .i32 1)) w1):∃ T,Ready N rb T w ((w1.drew.setCell ⟨rb,0,none⟩ (.int .u32 1)).setCell ⟨rb,1,none⟩ (.int .i32 0)):=by
 obtain ⟨T,h1,_,h3,h4,h5⟩:=h.to_
 have ne:∀ (a b:Nat),a ≠ b→(⟨rb,a,none⟩:Addr) ≠ ⟨rb,b,none⟩:=fun a b h e=>h (congrArg Addr.off e)
 have nt:∀ (a b:Nat),(⟨rb,a,none⟩:Addr) ≠ ⟨T,b,none⟩:=fun a b e=>h1 (congrArg Addr.block e).symm
 refine ⟨T,?_,fun k hk=>?_,by simpa using h3,?_⟩
 ·rw [World.cell?_setCell_other _ _ _ _ (ne _ _ (by omega)),World.cell?_setCell_other _ _ _ _ (ne _ _ (by omega)),World.cell?_drew]; exact h4
 ·rw [World.cell?_setCell_other _ _ _ _ (nt _ _),World.cell?_setCell_other _ _ _ _ (nt _ _),World.cell?_drew]; exact h5 k hk
 ·exact (((((Below.refl N w).setCell (p:=⟨rb,1,none⟩) hN _).trans h.old).drew).setCell (p:=⟨rb,0,none⟩) hN _).setCell (p:=⟨rb,1,none⟩) hN _
set_option maxRecDepth 100000 in
set_option maxHeartbeats 3200000 in
theorem replace_any (N rb ob c:Nat) (s:ByteArray) (w:World) (hs:s.size≤1000000) (hN:N≤rb) (hr:w.cell? ⟨rb,4,none⟩=some (.slice (some ⟨ob,0,none⟩) 4 c)) (hx:w.cell? ⟨rb,3,none⟩=some .nilIface)
  (h0:w.cell? ⟨rb,0,none⟩=some (.int .u32 0)) (h1:w.cell? ⟨rb,1,none⟩=some (.int .i32 0)) (hz:∀ j,w.frozen? ⟨rb,j,none⟩=false)
  (o0:w.cell? ⟨ob,0,none⟩=some (.string ⟨#[59]⟩)) (o1:w.cell? ⟨ob,1,none⟩=some (.string ⟨#[10]⟩))
  (o2:w.cell? ⟨ob,2,none⟩=some (.string ⟨#[95]⟩)) (o3:w.cell? ⟨ob,3,none⟩=some (.string ⟨#[32]⟩)) (hne:ob ≠ rb) (hNs:N≤w.heap.size) :
  Calls Tryz.prog 25 #[.pointer (some ⟨rb,0,none⟩),.string s] w fun e w'=>e=.returned (.string (rep tab s))∧Below N w w':=by
 have ne:∀ (a b:Nat),a ≠ b→(⟨rb,a,none⟩:Addr) ≠ ⟨rb,b,none⟩:=fun a b h e=>h (congrArg Addr.off e)
 have nt:∀ (a b:Nat),(⟨rb,a,none⟩:Addr) ≠ ⟨ob,b,none⟩:=fun a b e=>hne (congrArg Addr.block e).symm
 have hB:=buildOnce_any N rb ob c (w.setCell ⟨rb,1,none⟩ (.int .i32 1)) .nilIface hN
  (by rw [World.cell?_setCell_other _ _ _ _ (ne _ _ (by omega))]; exact hr) (by rw [World.cell?_setCell_other _ _ _ _ (ne _ _ (by omega))]; exact hx)
  (by rw [World.cell?_setCell_other _ _ _ _ (nt _ _)]; exact o0) (by rw [World.cell?_setCell_other _ _ _ _ (nt _ _)]; exact o1) (by rw [World.cell?_setCell_other _ _ _ _ (nt _ _)]; exact o2) (by rw [World.cell?_setCell_other _ _ _ _ (nt _ _)]; exact o3)
  (by rw [World.cell?_setCell_other _ _ _ _ (ne _ _ (by omega))]; exact h0) (World.cell?_setCell_same _ _ _ h1) (fun j=>by simpa using hz j)
 have D:=do_any rb 0 (.pointer (some ⟨rb,0,none⟩)) w (fun w'=>Built N rb (w.setCell ⟨rb,1,none⟩ (.int .i32 1)) w') h0 h1 (hz 1) hB
 have hmf:∀ (fn:Fn) (first cap:Array Value) (w:World),(Instr.makeFunc fn first cap).run Tryz.prog w=.ok (.func fn first cap) w:=fun _ _ _ _=>rfl
 have mR:=methodReplace
 clear hB
 go_enter Tryz.func25,Tryz.ntmps25
 go_wp2_with (first | (go_at_call 34; refine D.mono ?_; rintro e w' ⟨rfl,w1,-,q1,rfl⟩; obtain ⟨T,HR⟩:=ready N rb w w1 hN q1; clear q1; have HRH:=Lib.hid HR; have hr3:=HR.r; clear HR; revert HRH hr3; generalize ((w1.drew.setCell ⟨rb,0,none⟩ (.int .u32 1)).setCell ⟨rb,1,none⟩ (.int .i32 0))=W2; intro HRH hr3) | (go_at_call 655; refine (brep_any T tab s _ hs HRH.out.lt HRH.out.t tab_lt).mono ?_; rintro e w9 ⟨rfl,hb9⟩))
 go_ret
 exact ⟨rfl,HRH.out.old.trans (hb9.mono (Nat.le_trans hNs HRH.out.old.size))⟩
set_option maxRecDepth 100000 in
set_option maxHeartbeats 3200000 in
theorem spelt_any (s:ByteArray) (w:World) (hs:s.size≤1000000) :
  Calls Tryz.prog 16 #[.string s] w fun e w'=>e=.returned (.string (rep tab s))∧Below w.heap.size w w':=by
 go_enter Tryz.func16,Tryz.ntmps16
 go_wp2_with fail
 have hh:∀ o:Obj,(w.alloc o).heap[w.heap.size]?=some o:=fun o=>by
  show (w.heap.push o)[w.heap.size]?=_
  simp
 have hc:=fun j=>(cell_of (w.alloc (.cells #[.string ⟨#[59]⟩,.string ⟨#[10]⟩,.string ⟨#[95]⟩,.string ⟨#[32]⟩] 9)) w.heap.size j _ _ (hh _)).1
 have hA:=(Below.refl w.heap.size w).alloc (Nat.le_refl _) (.cells #[.string ⟨#[59]⟩,.string ⟨#[10]⟩,.string ⟨#[95]⟩,.string ⟨#[32]⟩] 9)
 revert hc hA
 generalize w.alloc (.cells #[.string ⟨#[59]⟩,.string ⟨#[10]⟩,.string ⟨#[95]⟩,.string ⟨#[32]⟩] 9)=W1
 intro hc hA
 refine (newr_any w.heap.size W1 (by rw [hc]; rfl) (by rw [hc]; rfl) (by rw [hc]; rfl) (by rw [hc]; rfl)).mono ?_
 rintro e W2 ⟨rb,ob,c,rfl,h1,h2,h3,h4,h5,h6,h7,h8,h9,h10,h11,h12⟩
 have hRP:=replace_any w.heap.size rb ob c s W2 hs (Nat.le_trans hA.size h1) h3 h4 h5 h6 h7 h8 h9 h10 h11 h12 (Nat.le_trans hA.size h2.size)
 clear h3 h4 h5 h6 h7 h8 h9 h10 h11 h12 hc
 go_wp2_with (go_at_call 25; refine hRP.mono ?_; rintro e w9 ⟨rfl,hb9⟩)
 go_ret
 exact ⟨rfl,(hA.trans (h2.mono hA.size)).trans hb9⟩
end Go.Proofs.YthfaoceleaaepaaGreatDoor.sh
