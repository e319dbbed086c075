/-
  A string whose bytes are exchanged by a table of 256 bytes: strings.byteReplacer.Replace.
-/
import Derived.Test.YthfaoceleaaepaaGreatDoorShA
import Derived.Laws.IdiomStrings
import Derived.WalkKit
import Derived.Below
import Derived.LoopTactic
import Derived.Lib.Hide
namespace Go.Proofs.YthfaoceleaaepaaGreatDoor.sh
open Go.RowKit
def bt (s:ByteArray) (k:Nat):Nat:=if h:k < s.size then (s[k]'h).toNat else 0
theorem bt_lt (s:ByteArray) (k:Nat):bt s k < 256:=by
 unfold bt
 split
 ·exact UInt8.toNat_lt _
 ·omega
theorem bt_eq {s:ByteArray} {k:Nat} (h:k < s.size):(s[k]'h).toNat=bt s k:=by simp [bt,h]
def repl (s:ByteArray) (tab:Nat→Nat):List UInt8:=s.data.toList.map fun b=>UInt8.ofNat (tab b.toNat)
def rep (tab:Nat→Nat) (s:ByteArray):ByteArray:=⟨(repl s tab).toArray⟩
theorem repl_len (s:ByteArray) (tab:Nat→Nat):(repl s tab).length=s.size:=by
 unfold repl
 rw [List.length_map,Array.length_toList]
 rfl
theorem repl_at (s:ByteArray) (tab:Nat→Nat) (hb:∀ k,k < 256→tab k < 256) (j:Nat) (hj:j < (repl s tab).length):((repl s tab)[j]'hj).toNat=tab (bt s j):=by
 have hj':j < s.size:=by rw [← repl_len s tab]; exact hj
 have:(s.data.toList[j]'(by simpa [repl] using hj)).toNat=bt s j:=by
  rw [← bt_eq hj']
  rfl
 simp only [repl,List.getElem_map]
 rw [this]
 have:=hb _ (bt_lt s j)
 simp [UInt8.toNat_ofNat']
 omega
theorem rep_same (s:ByteArray) (tab:Nat→Nat) (h:∀ j,j < s.size→tab (bt s j)=bt s j):rep tab s=s:=by
 apply ByteArray.ext
 show (repl s tab).toArray=s.data
 apply Array.toList_inj.1
 show repl s tab=s.data.toList
 apply List.ext_getElem
 ·rw [repl_len,Array.length_toList]; rfl
 ·intro i h1 h2
  have hi:i < s.size:=by rw [← repl_len s tab]; exact h1
  have e:=h i hi
  have e2:(s.data.toList[i]'h2).toNat=bt s i:=by
   rw [← bt_eq hi]
   rfl
  simp only [repl,List.getElem_map]
  rw [e2,e]
  apply UInt8.toNat_inj.1
  rw [e2]
  have:=bt_lt s i
  simp [UInt8.toNat_ofNat']
  omega
structure Laid (s:ByteArray) (B:Nat) (w':World) (f:Nat→Nat):Prop where
 cell:∀ j,j < s.size→w'.cell? ⟨B,j,none⟩=some (.int .u8 (f j))
 open_:∀ j,j < s.size→w'.frozen? ⟨B,j,none⟩=false
theorem laid_new (s:ByteArray) (w:World) (c:Nat):Laid s w.heap.size (w.drew.alloc (.cells (bytesRow s c) 5 ((bytesRow s c).size,(bytesRow s c).size + 1))) (bt s) ∧
  Below w.heap.size w (w.drew.alloc (.cells (bytesRow s c) 5 ((bytesRow s c).size,(bytesRow s c).size + 1))):=by
 have hh:∀ o:Obj,(w.drew.alloc o).heap[w.heap.size]?=some o:=fun o=>by
  show (w.heap.push o)[w.heap.size]?=_
  simp
 refine ⟨⟨fun j hj=>?_,fun j hj=>?_⟩,((Below.refl _ _).drew).alloc (Nat.le_refl _) _⟩
 ·have hd:j < s.data.size:=hj
  simp only [World.cell?,hh]
  simp [bytesRow,Array.getElem?_append,bt,hj]
  rfl
 ·have hd:j < s.data.size:=hj
  simp only [World.frozen?,hh]
  simp [bytesRow]
  omega
theorem Laid.set {s:ByteArray} {B k:Nat} {w:World} {f:Nat→Nat} (h:Laid s B w f) (hk:k < s.size) (v:Nat):Laid s B (w.setCell ⟨B,k,none⟩ (.int .u8 v)) (fun j=>if j=k then v else f j):=by
 refine ⟨fun j hj=>?_,fun j hj=>?_⟩
 ·by_cases e:j=k
  ·subst e
   rw [World.cell?_setCell_same _ _ _ (h.cell j hj)]
   simp
  ·rw [World.cell?_setCell_other _ _ _ _ (by simp only [ne_eq,Addr.mk.injEq,true_and,and_true]; omega),h.cell j hj]
   simp [e]
 ·have:=h.open_ j hj
  simpa using this
end Go.Proofs.YthfaoceleaaepaaGreatDoor.sh
