/-
  strings.byteReplacer.Replace, of any string, over a table in memory.
-/
import Derived.Test.YthfaoceleaaepaaGreatDoorShD
import Derived.Laws.Cover3
namespace Go.Proofs.YthfaoceleaaepaaGreatDoor.sh
open Go.RowKit
def Stage (s:ByteArray) (tab:Nat→Nat) (W0:Nat) (k:Nat) (buf:Value) (wr:World):Prop:=
 (buf=.slice none 0 0∧∀ j,j < k→tab (bt s j)=bt s j) ∨
 (∃ B c,buf=.slice (some ⟨B,0,none⟩) s.size c∧W0≤B∧Laid s B wr (fun j=>if j < k then tab (bt s j) else bt s j))
theorem stage_skip {s:ByteArray} {tab:Nat→Nat} {W0 k:Nat} {buf:Value} {wr:World} (h:Stage s tab W0 k buf wr) (e:tab (bt s k)=bt s k):Stage s tab W0 (k + 1) buf wr:=by
 rcases h with ⟨rfl,h⟩ | ⟨B,c,rfl,hB,h1,h2⟩
 ·exact .inl ⟨rfl,fun j hj=>by
   by_cases ej:j=k
   ·rw [ej]; exact e
   ·exact h j (by omega)⟩
 ·refine .inr ⟨B,c,rfl,hB,fun j hj=>?_,h2⟩
  rw [h1 j hj]
  by_cases ej:j=k
  ·subst ej
   simp [e]
  ·by_cases e2:j < k
   ·simp [e2,show j < k + 1 by omega]
   ·simp [e2,show ¬ j < k + 1 by omega]
theorem stage_set {s:ByteArray} {tab:Nat→Nat} {W0 k B c:Nat} {wr:World} (hB:W0≤B) (h:Laid s B wr (fun j=>if j < k then tab (bt s j) else bt s j)) (hk:k < s.size):Stage s tab W0 (k + 1) (.slice (some ⟨B,0,none⟩) s.size c) (wr.setCell ⟨B,k,none⟩ (.int .u8 (tab (bt s k)))):=by
 have h':=h.set hk (tab (bt s k))
 refine .inr ⟨B,c,rfl,hB,fun j hj=>?_,h'.open_⟩
 rw [h'.cell j hj]
 by_cases ej:j=k
 ·subst ej
  simp
 ·by_cases e2:j < k
  ·simp [ej,e2,show j < k + 1 by omega]
  ·simp [ej,e2,show ¬ j < k + 1 by omega]
theorem laid_zero {s:ByteArray} {tab:Nat→Nat} {B:Nat} {w:World} {k:Nat} (h:Laid s B w (bt s)) (hs:∀ j,j < k→tab (bt s j)=bt s j):Laid s B w (fun j=>if j < k then tab (bt s j) else bt s j):=by
 refine ⟨fun j hj=>?_,h.open_⟩
 rw [h.cell j hj]
 by_cases e:j < k
 ·simp [e,hs j e]
 ·simp [e]
theorem nil39 (a:Option Addr) (l c:Nat) (b:Bool) (w:World) (h:a.isNone=b):(binOp .eql 39 (.slice a l c) (.slice none 0 0)).run Tryz.prog w=.ok (.bool b) w:=by
 subst h
 simp [binOp,run_equal_slice_nil w 39 5 a l c Tryz.underlying39]
set_option maxRecDepth 100000 in
set_option maxHeartbeats 3200000 in
theorem brep_any (tb:Nat) (tab:Nat→Nat) (s:ByteArray) (w:World) (hs:s.size≤1000000) (htb:tb < w.heap.size)
  (hT:∀ k,k < 256→w.cell? ⟨tb,k,none⟩=some (.int .u8 (tab k))) (hb:∀ k,k < 256→tab k < 256) :
  Calls Tryz.prog 655 #[.pointer (some ⟨tb,0,none⟩),.string s] w fun e w'=>e=.returned (.string (rep tab s))∧Below w.heap.size w w':=by
 obtain ⟨R,hR⟩:∃ R,R=rep tab s:=⟨_,rfl⟩
 rw [← hR]
 have HR:=Lib.hid hR
 clear hR
 have HTT:=Lib.hid hT
 clear hT
 have HB:=Lib.hid hb
 clear hb
 have hn1:=fun l c w=>nil39 none l c true w rfl
 have hn2:=fun a l c w=>nil39 (some a) l c false w rfl
 go_enter Tryz.func655,Tryz.ntmps655
 go_wp2_with fail
 go_loopw [5,6] (fun buf i wr=>∃ k:Nat,k≤s.size∧i=.int .i64 k∧Hid (Stage s tab w.heap.size k buf wr)∧Hid (Below w.heap.size w wr)) (fun _ i _=>s.size - (intOf i).toNat)
 case atStart=>exact ⟨0,Nat.zero_le _,rfl,Lib.hid (.inl ⟨rfl,fun j hj=>absurd hj (by omega)⟩),Lib.hid (Below.refl _ _)⟩
 case round=>
  obtain ⟨k,hk,rfl,HS,HW⟩:=hrel
  by_cases hlt:k < s.size
  ·have d1:decide ((k:Int) < (s.size:Int))=true:=by simp; omega
   have i0:(k:Int) < (s.size:Int):=by omega
   have ib:=bt_eq hlt
   have lt:=bt_lt s k
   have iL:((bt s k:Nat):Int) < 256:=by omega
   have c1:=(HW.out.cell (p:=⟨tb,bt s k,none⟩) htb).trans (HTT.out (bt s k) lt)
   by_cases e:tab (bt s k)=bt s k
   ·have d2:(((tab (bt s k):Nat):Int) != ((bt s k:Nat):Int))=false:=by simp [e]
    go_wp2_with fail
    go_roundw
    case rel=>exact ⟨k + 1,by omega,by go_num,Lib.hid (stage_skip HS.out e),HW⟩
    case measure=>simp [intOf]; omega
   ·have d2:(((tab (bt s k):Nat):Int) != ((bt s k:Nat):Int))=true:=by simp; omega
    rcases HS.out with ⟨rfl,hsame⟩ | ⟨B,c,rfl,hB,HL⟩
    ·have HSM:=Lib.hid hsame
     clear hsame HS
     have hn:=laid_new s wr (grownCap wr s.size 0 5)
     have hcv:=run_bytes_of_string (P:=Tryz.prog) wr 9 39 5 s Tryz.underlying9 Tryz.underlying39 Tryz.underlying5
     obtain ⟨W1,hW1⟩:∃ W1,W1=wr.drew.alloc (.cells (bytesRow s (grownCap wr s.size 0 5)) 5 ((bytesRow s (grownCap wr s.size 0 5)).size,(bytesRow s (grownCap wr s.size 0 5)).size + 1)):=⟨_,rfl⟩
     rw [← hW1] at hn hcv
     clear hW1
     obtain ⟨hq1,hq2⟩:=hn
     have HL1:=Lib.hid (laid_zero hq1 HSM.out)
     have hsz:=HW.out.size
     have c2:=(hq2.cell (p:=⟨tb,bt s k,none⟩) (by show tb < wr.heap.size; omega)).trans c1
     have HW1:=Lib.hid (HW.out.trans (hq2.mono hsz))
     have c3:=HL1.out.cell k hlt
     have z3:=HL1.out.open_ k hlt
     rw [if_neg (by omega)] at c3
     clear hq1 hq2
     go_wp2_with fail
     go_roundw
     case rel=>exact ⟨k + 1,by omega,by go_num,Lib.hid (stage_set hsz HL1.out hlt),Lib.hid (HW1.out.setCell (by exact hsz) _)⟩
     case measure=>simp [intOf]; omega
    ·have HL1:=Lib.hid HL
     have c3:=HL.cell k hlt
     have z3:=HL.open_ k hlt
     rw [if_neg (by omega)] at c3
     clear HL HS
     go_wp2_with fail
     go_roundw
     case rel=>exact ⟨k + 1,by omega,by go_num,Lib.hid (stage_set hB HL1.out hlt),Lib.hid (HW.out.setCell (by exact hB) _)⟩
     case measure=>simp [intOf]; omega
  ·have hkm:k=s.size:=by omega
   have d1:decide ((k:Int) < (s.size:Int))=false:=by simp; omega
   subst hkm
   rcases HS.out with ⟨rfl,hsame⟩ | ⟨B,c,rfl,hB,HL⟩
   ·have e1:=HR.out.trans (rep_same s tab hsame)
    clear HR hsame HS
    subst e1
    go_wp2_with fail
    go_ret
    exact ⟨rfl,HW.out⟩
   ·have e1:=HR.out
    have hcv:=run_convert_bytes_back (P:=Tryz.prog) wr 39 9 5 ⟨B,0,none⟩ c (repl s tab) Tryz.underlying39 Tryz.underlying5 Tryz.underlying9 (fun j hj=>by
     rw [repl_at s tab HB.out j hj]
     have hj':j < s.size:=by rw [← repl_len s tab]; exact hj
     have:=HL.cell j hj'
     rw [if_pos hj'] at this
     by_cases j0:j=0
     ·subst j0; simpa [Addr.add] using this
     ·simpa [Addr.add,j0] using this)
    rw [repl_len] at hcv
    have hcv2:(convert 39 9 (.slice (some ⟨B,0,none⟩) s.size c)).run Tryz.prog wr=.ok (.string R) wr:=by rw [e1]; exact hcv
    clear HR HL HS hcv e1
    go_wp2_with fail
    go_ret
    exact ⟨rfl,HW.out⟩
end Go.Proofs.YthfaoceleaaepaaGreatDoor.sh
