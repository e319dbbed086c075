/-
  strings.NewReplacer, (*strings.Replacer).Replace, spelt.
-/
import Derived.Test.YthfaoceleaaepaaGreatDoorShG
import Derived.RowKitTokens
namespace Go.Proofs.YthfaoceleaaepaaGreatDoor.sh
open Go.RowKit
theorem two_new (w:World) (X Y:Array Value) (s t:TypeId):∃ W,W=((w.alloc (.cells X s)).alloc (.cells Y t)).drew∧W.heap[w.heap.size]?=some (.cells X s (0,0))∧W.heap[w.heap.size + 1]?=some (.cells Y t (0,0))∧Below w.heap.size w W:=by
 refine ⟨_,rfl,?_,?_,(((Below.refl _ _).alloc (Nat.le_refl _) _).alloc (by simp) _).drew⟩
 ·show ((w.heap.push _).push _)[w.heap.size]?=_
  simp [Array.getElem?_push]
 ·show ((w.heap.push _).push _)[w.heap.size + 1]?=_
  rw [Array.getElem?_push,if_pos (by simp)]
theorem cell_of (W:World) (b j:Nat) (C:Array Value) (t:TypeId) (h:W.heap[b]?=some (.cells C t (0,0))):W.cell? ⟨b,j,none⟩=C[j]?∧W.frozen? ⟨b,j,none⟩=false:=by
 constructor
 ·simp only [World.cell?,h]
  simp
 ·simp only [World.frozen?,h]
  simp
set_option maxRecDepth 100000 in
set_option maxHeartbeats 3200000 in
theorem newr_any (sb:Nat) (w:World)
  (o0:w.cell? ⟨sb,0,none⟩=some (.string ⟨#[59]⟩)) (o1:w.cell? ⟨sb,1,none⟩=some (.string ⟨#[10]⟩))
  (o2:w.cell? ⟨sb,2,none⟩=some (.string ⟨#[95]⟩)) (o3:w.cell? ⟨sb,3,none⟩=some (.string ⟨#[32]⟩)) :
  Calls Tryz.prog 24 #[.slice (some ⟨sb,0,none⟩) 4 4] w fun e w'=>∃ rb ob c,e=.returned (.pointer (some ⟨rb,0,none⟩))∧w.heap.size≤rb∧Below w.heap.size w w' ∧
   w'.cell? ⟨rb,4,none⟩=some (.slice (some ⟨ob,0,none⟩) 4 c)∧w'.cell? ⟨rb,3,none⟩=some .nilIface∧w'.cell? ⟨rb,0,none⟩=some (.int .u32 0)∧w'.cell? ⟨rb,1,none⟩=some (.int .i32 0)∧(∀ j,w'.frozen? ⟨rb,j,none⟩=false) ∧
   w'.cell? ⟨ob,0,none⟩=some (.string ⟨#[59]⟩)∧w'.cell? ⟨ob,1,none⟩=some (.string ⟨#[10]⟩)∧w'.cell? ⟨ob,2,none⟩=some (.string ⟨#[95]⟩)∧w'.cell? ⟨ob,3,none⟩=some (.string ⟨#[32]⟩)∧ob ≠ rb:=by
 go_enter Tryz.func24,Tryz.ntmps24
 go_wp2_with fail
 go_ret
 obtain ⟨W,hW,hX,hY,hB⟩:=two_new w (#[Value.string ⟨#[59]⟩,Value.string ⟨#[10]⟩,Value.string ⟨#[95]⟩,Value.string ⟨#[32]⟩] ++ Builtin.zeroCells #[Value.string ⟨#[]⟩] ((Question.appendCap 4 0 9).cut (w.tape w.drawn (Question.appendCap 4 0 9)) - 4)) #[Value.int .u32 0,Value.int .i32 0,Value.int .u32 0,Value.nilIface,Value.slice (some ⟨w.heap.size,0,none⟩) 4 ((Question.appendCap 4 0 9).cut (w.tape w.drawn (Question.appendCap 4 0 9)))] 9 94
 rw [← hW]
 clear hW
 have fx:=fun j=>(cell_of W _ j _ _ hX).1
 have fy:=fun j=>(cell_of W _ j _ _ hY).1
 refine ⟨w.heap.size + 1,w.heap.size,(Question.appendCap 4 0 9).cut (w.tape w.drawn (Question.appendCap 4 0 9)),rfl,by omega,hB,?_,?_,?_,?_,fun j=>(cell_of W _ j _ _ hY).2,?_,?_,?_,?_,by omega⟩
 ·rw [fy]; rfl
 ·rw [fy]; rfl
 ·rw [fy]; rfl
 ·rw [fy]; rfl
 ·rw [fx]; simp [Array.getElem?_append]
 ·rw [fx]; simp [Array.getElem?_append]
 ·rw [fx]; simp [Array.getElem?_append]
 ·rw [fx]; simp [Array.getElem?_append]
end Go.Proofs.YthfaoceleaaepaaGreatDoor.sh
