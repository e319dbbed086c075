/-
  What the functions that the law reaches do, one by one: contracts. Conditions: those that each of them prints.
-/
import Derived.Test.YteghpophcnehgaaMa
import Derived.Deep.RegionWith
import Derived.Deep.RegionHeld3
namespace Go.Proofs.Yteghpophcnehgaa
open Go.RowKit ExprA
theorem cell_next {x:Addr} {v:Value} {w w':World} (h:w.cell? x=some v) (hb:Below w.heap.size w w'):w'.cell? x=some v:=(hb.cell (p:=x) (World.block_lt_of_cell? w x h)).trans h
theorem at_new (w:World) (n:Nat) (o:Obj) (h:n=w.heap.size):(w.alloc o).heap[n]?=some o:=by subst h; exact heap_alloc_new _ _
theorem World.size_alloc_tok (w:World) (cs:Array Value) (t:TypeId):(w.alloc (.cells cs t (0,0))).heap.size=w.heap.size + 1:=by simp
set_option maxRecDepth 100000 in
set_option maxHeartbeats 16000000 in
theorem exprn_any (v:Int) (w:World):Calls Try.prog 40 #[.int .i64 v] w fun e w'=>∃ r,e=.returned r∧MadeE w w' r∧Below w.heap.size w w':=by
 have HP:=Lib.hid (fun w=>place_any v 1073741824 w (by decide) (by decide))
 rw [show ((1073741824:Nat):Int)=1073741824 from rfl] at HP
 have hk0:=Int.emod_nonneg v (show (1073741824:Int) ≠ 0 by decide)
 have hk1:=Int.emod_lt_of_pos v (show (0:Int) < 1073741824 by decide)
 obtain ⟨ka,hka⟩:∃ k:Nat,v % 1073741824=(k:Int):=⟨(v % 1073741824).toNat,by omega⟩
 rw [hka] at HP hk0 hk1
 clear hka
 have hbig:(ka:Int) < 1073741824:=hk1
 have HBIG:=Lib.hid hbig
 clear hk0 hk1 hbig
 obtain ⟨k10,hk10⟩:∃ k:Nat,k=ka / 10:=⟨_,rfl⟩
 have hw10:wrap64 ((ka:Int) / 10)=(k10:Int):=by rw [wrap_same (by have:=HBIG.out; omega)]; omega
 clear hk10
 obtain ⟨k30,hk30⟩:∃ k:Nat,k=ka / 30:=⟨_,rfl⟩
 have hw30:wrap64 ((ka:Int) / 30)=(k30:Int):=by rw [wrap_same (by have:=HBIG.out; omega)]; omega
 clear hk30
 obtain ⟨x,hx⟩:∃ m:Nat,(k10:Int) % 3=(m:Int):=⟨k10 % 3,by omega⟩
 have HX:Hid (x < 3):=Lib.hid (by omega)
 obtain ⟨b,hb⟩:∃ m:Nat,(k30:Int) % 3=(m:Int):=⟨k30 % 3,by omega⟩
 have HBB:Hid (b < 3):=Lib.hid (by omega)
 obtain ⟨m,hm⟩:∃ m:Nat,(ka:Int) % 10=(m:Int):=⟨ka % 10,by omega⟩
 have HM:Hid (m < 10):=Lib.hid (by omega)
 have HS:Hid (m=0 ∨ m=1 ∨ m=2 ∨ m=3 ∨ m=4 ∨ m=5 ∨ m=6 ∨ m=7 ∨ m=8 ∨ m=9):=Lib.hid (by have:=HM.out; omega)
 clear HM
 go_enter Try.func40,Try.ntmps40
 rcases HS.out with h | h | h | h | h | h | h | h | h | h
 ·subst h
  clear HS
  go_wp2_with fail
  refine (HP.out _).mono ?_
  rintro e w1 ⟨rfl,rfl⟩
  go_wp2_with fail
  refine (regw_any _ _).mono ?_
  rintro e w2 ⟨rfl,hb2⟩
  go_wp2_with fail
  refine (numw_any _ _).mono ?_
  rintro e w3 ⟨rfl,hb3⟩
  go_wp2_with fail
  go_ret
  refine ⟨_,rfl,⟨_,[(1,(b:Int))],rfl,⟨x,b,HX.out,HBB.out,.inl rfl⟩,?_,at_new _ _ _ (by simp)⟩,((((below_next hb2 hb3).alloc (Nat.le_trans hb2.size hb3.size) _).alloc (Nat.le_trans (Nat.le_trans hb2.size hb3.size) (by simp)) _)).alloc ((((below_next hb2 hb3).alloc (Nat.le_trans hb2.size hb3.size) _).alloc (Nat.le_trans (Nat.le_trans hb2.size hb3.size) (by simp)) _)).size _⟩
  have:=hb2.size
  have:=hb3.size
  omega
 ·subst h
  clear HS
  go_wp2_with fail
  refine (HP.out _).mono ?_
  rintro e w1 ⟨rfl,rfl⟩
  go_wp2_with fail
  refine (regw_any _ _).mono ?_
  rintro e w2 ⟨rfl,hb2⟩
  go_wp2_with fail
  refine (numw_any _ _).mono ?_
  rintro e w3 ⟨rfl,hb3⟩
  go_wp2_with fail
  go_ret
  refine ⟨_,rfl,⟨_,[(1,(b:Int))],rfl,⟨x,b,HX.out,HBB.out,.inl rfl⟩,?_,at_new _ _ _ (by simp)⟩,((((below_next hb2 hb3).alloc (Nat.le_trans hb2.size hb3.size) _).alloc (Nat.le_trans (Nat.le_trans hb2.size hb3.size) (by simp)) _)).alloc ((((below_next hb2 hb3).alloc (Nat.le_trans hb2.size hb3.size) _).alloc (Nat.le_trans (Nat.le_trans hb2.size hb3.size) (by simp)) _)).size _⟩
  have:=hb2.size
  have:=hb3.size
  omega
 ·subst h
  clear HS
  go_wp2_with fail
  refine (HP.out _).mono ?_
  rintro e w1 ⟨rfl,rfl⟩
  go_wp2_with fail
  refine (regw_any _ _).mono ?_
  rintro e w2 ⟨rfl,hb2⟩
  go_wp2_with fail
  refine (numw_any _ _).mono ?_
  rintro e w3 ⟨rfl,hb3⟩
  go_wp2_with fail
  go_ret
  refine ⟨_,rfl,⟨_,[(1,(b:Int))],rfl,⟨x,b,HX.out,HBB.out,.inl rfl⟩,?_,at_new _ _ _ (by simp)⟩,((((below_next hb2 hb3).alloc (Nat.le_trans hb2.size hb3.size) _).alloc (Nat.le_trans (Nat.le_trans hb2.size hb3.size) (by simp)) _)).alloc ((((below_next hb2 hb3).alloc (Nat.le_trans hb2.size hb3.size) _).alloc (Nat.le_trans (Nat.le_trans hb2.size hb3.size) (by simp)) _)).size _⟩
  have:=hb2.size
  have:=hb3.size
  omega
 ·subst h
  clear HS
  go_wp2_with fail
  refine (HP.out _).mono ?_
  rintro e w1 ⟨rfl,rfl⟩
  go_wp2_with fail
  refine (regw_any _ _).mono ?_
  rintro e w2 ⟨rfl,hb2⟩
  go_wp2_with fail
  refine (numw_any _ _).mono ?_
  rintro e w3 ⟨rfl,hb3⟩
  go_wp2_with fail
  go_ret
  refine ⟨_,rfl,⟨_,[(2,(x:Int))],rfl,⟨x,b,HX.out,HBB.out,.inr (.inl rfl)⟩,?_,at_new _ _ _ (by simp)⟩,((((below_next hb2 hb3).alloc (Nat.le_trans hb2.size hb3.size) _).alloc (Nat.le_trans (Nat.le_trans hb2.size hb3.size) (by simp)) _)).alloc ((((below_next hb2 hb3).alloc (Nat.le_trans hb2.size hb3.size) _).alloc (Nat.le_trans (Nat.le_trans hb2.size hb3.size) (by simp)) _)).size _⟩
  have:=hb2.size
  have:=hb3.size
  omega
 ·subst h
  clear HS
  go_wp2_with fail
  refine (HP.out _).mono ?_
  rintro e w1 ⟨rfl,rfl⟩
  go_wp2_with fail
  refine (regw_any _ _).mono ?_
  rintro e w2 ⟨rfl,hb2⟩
  go_wp2_with fail
  refine (numw_any _ _).mono ?_
  rintro e w3 ⟨rfl,hb3⟩
  go_wp2_with fail
  go_ret
  refine ⟨_,rfl,⟨_,[(2,(x:Int))],rfl,⟨x,b,HX.out,HBB.out,.inr (.inl rfl)⟩,?_,at_new _ _ _ (by simp)⟩,((((below_next hb2 hb3).alloc (Nat.le_trans hb2.size hb3.size) _).alloc (Nat.le_trans (Nat.le_trans hb2.size hb3.size) (by simp)) _)).alloc ((((below_next hb2 hb3).alloc (Nat.le_trans hb2.size hb3.size) _).alloc (Nat.le_trans (Nat.le_trans hb2.size hb3.size) (by simp)) _)).size _⟩
  have:=hb2.size
  have:=hb3.size
  omega
 ·subst h
  clear HS
  go_wp2_with fail
  refine (HP.out _).mono ?_
  rintro e w1 ⟨rfl,rfl⟩
  go_wp2_with fail
  refine (regw_any _ _).mono ?_
  rintro e w2 ⟨rfl,hb2⟩
  go_wp2_with fail
  refine (numw_any _ _).mono ?_
  rintro e w3 ⟨rfl,hb3⟩
  go_wp2_with fail
  go_ret
  refine ⟨_,rfl,⟨_,[(2,(x:Int))],rfl,⟨x,b,HX.out,HBB.out,.inr (.inl rfl)⟩,?_,at_new _ _ _ (by simp)⟩,((((below_next hb2 hb3).alloc (Nat.le_trans hb2.size hb3.size) _).alloc (Nat.le_trans (Nat.le_trans hb2.size hb3.size) (by simp)) _)).alloc ((((below_next hb2 hb3).alloc (Nat.le_trans hb2.size hb3.size) _).alloc (Nat.le_trans (Nat.le_trans hb2.size hb3.size) (by simp)) _)).size _⟩
  have:=hb2.size
  have:=hb3.size
  omega
 ·subst h
  clear HS
  go_wp2_with fail
  refine (HP.out _).mono ?_
  rintro e w1 ⟨rfl,rfl⟩
  go_wp2_with fail
  refine (regw_any _ _).mono ?_
  rintro e w2 ⟨rfl,hb2⟩
  go_wp2_with fail
  refine (numw_any _ _).mono ?_
  rintro e w3 ⟨rfl,hb3⟩
  go_wp2_with fail
  obtain ⟨W,hW⟩:∃ W,W=((w3.alloc (.cells #[.int .i64 2,.int .i64 (x:Int)] 85 (0,0))).alloc (.cells #[.int .i64 1,.int .i64 (b:Int)] 85 (0,0))):=⟨_,rfl⟩
  have hBW:Below w.heap.size w W:=by rw [hW]; exact (((below_next hb2 hb3).alloc (Nat.le_trans hb2.size hb3.size) _).alloc (Nat.le_trans (Nat.le_trans hb2.size hb3.size) (by simp)) _)
  obtain ⟨p,hp⟩:∃ p,p=w3.heap.size:=⟨_,rfl⟩
  obtain ⟨q,hq⟩:∃ q,q=w3.heap.size + 1:=⟨_,rfl⟩
  have a0:W.cell? ⟨p,0,none⟩=some (.int .i64 2):=by rw [hW,hp]; exact cell_next (cell_of_row _ _ _ _ _ _ (heap_alloc_new _ _)) ((Below.refl _ _).alloc (Nat.le_refl _) _)
  have a1:W.cell? ⟨p,1,none⟩=some (.int .i64 (x:Int)):=by rw [hW,hp]; exact cell_next (cell_of_row _ _ _ _ _ _ (heap_alloc_new _ _)) ((Below.refl _ _).alloc (Nat.le_refl _) _)
  have a2:W.cell? ⟨q,0,none⟩=some (.int .i64 1):=by rw [hW,hq,← World.size_alloc_tok w3 #[.int .i64 2,.int .i64 (x:Int)] 85]; exact cell_of_row _ _ _ _ _ _ (heap_alloc_new _ _)
  have a3:W.cell? ⟨q,1,none⟩=some (.int .i64 (b:Int)):=by rw [hW,hq,← World.size_alloc_tok w3 #[.int .i64 2,.int .i64 (x:Int)] 85]; exact cell_of_row _ _ _ _ _ _ (heap_alloc_new _ _)
  rw [← hW,← hq,← hp]
  clear hW hp hq hb2 hb3
  have HBW:=Lib.hid hBW
  clear hm hx hb hw10 hw30 HP HBIG
  clear hBW
  go_region_with (first | (go_at_call 61; refine (opw_any _ _).mono ?_; rintro e w4 ⟨rfl,hw4⟩; have c0:w4.cell? ⟨p,0,none⟩=some (.int .i64 2):=cell_next (by first | exact a0 | simpa using a0) hw4; have c1:w4.cell? ⟨p,1,none⟩=some (.int .i64 (x:Int)):=cell_next (by first | exact a1 | simpa using a1) hw4; have c2:w4.cell? ⟨q,0,none⟩=some (.int .i64 1):=cell_next (by first | exact a2 | simpa using a2) hw4; have c3:w4.cell? ⟨q,1,none⟩=some (.int .i64 (b:Int)):=cell_next (by first | exact a3 | simpa using a3) hw4))
  all_goals
   go_wp2_with fail
   have HB4:Hid (Below w.heap.size w w4):=Lib.hid (by first | exact below_next HBW.out hw4 | exact below_next HBW.out.drew hw4)
   go_ret
   refine ⟨_,rfl,⟨_,[(2,(x:Int)),(2,(x:Int)),(3,4)],rfl,⟨x,b,HX.out,HBB.out,.inr (.inr (.inl rfl))⟩,?_,at_new _ _ _ (by simp)⟩,HB4.out.alloc HB4.out.size _⟩
   exact HB4.out.size
 ·subst h
  clear HS
  go_wp2_with fail
  refine (HP.out _).mono ?_
  rintro e w1 ⟨rfl,rfl⟩
  go_wp2_with fail
  refine (regw_any _ _).mono ?_
  rintro e w2 ⟨rfl,hb2⟩
  go_wp2_with fail
  refine (numw_any _ _).mono ?_
  rintro e w3 ⟨rfl,hb3⟩
  go_wp2_with fail
  obtain ⟨W,hW⟩:∃ W,W=((w3.alloc (.cells #[.int .i64 2,.int .i64 (x:Int)] 85 (0,0))).alloc (.cells #[.int .i64 1,.int .i64 (b:Int)] 85 (0,0))):=⟨_,rfl⟩
  have hBW:Below w.heap.size w W:=by rw [hW]; exact (((below_next hb2 hb3).alloc (Nat.le_trans hb2.size hb3.size) _).alloc (Nat.le_trans (Nat.le_trans hb2.size hb3.size) (by simp)) _)
  obtain ⟨p,hp⟩:∃ p,p=w3.heap.size:=⟨_,rfl⟩
  obtain ⟨q,hq⟩:∃ q,q=w3.heap.size + 1:=⟨_,rfl⟩
  have a0:W.cell? ⟨p,0,none⟩=some (.int .i64 2):=by rw [hW,hp]; exact cell_next (cell_of_row _ _ _ _ _ _ (heap_alloc_new _ _)) ((Below.refl _ _).alloc (Nat.le_refl _) _)
  have a1:W.cell? ⟨p,1,none⟩=some (.int .i64 (x:Int)):=by rw [hW,hp]; exact cell_next (cell_of_row _ _ _ _ _ _ (heap_alloc_new _ _)) ((Below.refl _ _).alloc (Nat.le_refl _) _)
  have a2:W.cell? ⟨q,0,none⟩=some (.int .i64 1):=by rw [hW,hq,← World.size_alloc_tok w3 #[.int .i64 2,.int .i64 (x:Int)] 85]; exact cell_of_row _ _ _ _ _ _ (heap_alloc_new _ _)
  have a3:W.cell? ⟨q,1,none⟩=some (.int .i64 (b:Int)):=by rw [hW,hq,← World.size_alloc_tok w3 #[.int .i64 2,.int .i64 (x:Int)] 85]; exact cell_of_row _ _ _ _ _ _ (heap_alloc_new _ _)
  rw [← hW,← hq,← hp]
  clear hW hp hq hb2 hb3
  have HBW:=Lib.hid hBW
  clear hm hx hb hw10 hw30 HP HBIG
  clear hBW
  go_region_with (first | (go_at_call 61; refine (opw_any _ _).mono ?_; rintro e w4 ⟨rfl,hw4⟩; have c0:w4.cell? ⟨p,0,none⟩=some (.int .i64 2):=cell_next (by first | exact a0 | simpa using a0) hw4; have c1:w4.cell? ⟨p,1,none⟩=some (.int .i64 (x:Int)):=cell_next (by first | exact a1 | simpa using a1) hw4; have c2:w4.cell? ⟨q,0,none⟩=some (.int .i64 1):=cell_next (by first | exact a2 | simpa using a2) hw4; have c3:w4.cell? ⟨q,1,none⟩=some (.int .i64 (b:Int)):=cell_next (by first | exact a3 | simpa using a3) hw4))
  all_goals
   go_wp2_with fail
   have HB4:Hid (Below w.heap.size w w4):=Lib.hid (by first | exact below_next HBW.out hw4 | exact below_next HBW.out.drew hw4)
   go_ret
   refine ⟨_,rfl,⟨_,[(2,(x:Int)),(1,(b:Int)),(3,5)],rfl,⟨x,b,HX.out,HBB.out,.inr (.inr (.inr (.inl rfl)))⟩,?_,at_new _ _ _ (by simp)⟩,HB4.out.alloc HB4.out.size _⟩
   exact HB4.out.size
 ·subst h
  clear HS
  go_wp2_with fail
  refine (HP.out _).mono ?_
  rintro e w1 ⟨rfl,rfl⟩
  go_wp2_with fail
  refine (regw_any _ _).mono ?_
  rintro e w2 ⟨rfl,hb2⟩
  go_wp2_with fail
  refine (numw_any _ _).mono ?_
  rintro e w3 ⟨rfl,hb3⟩
  go_wp2_with fail
  obtain ⟨W,hW⟩:∃ W,W=((w3.alloc (.cells #[.int .i64 2,.int .i64 (x:Int)] 85 (0,0))).alloc (.cells #[.int .i64 1,.int .i64 (b:Int)] 85 (0,0))):=⟨_,rfl⟩
  have hBW:Below w.heap.size w W:=by rw [hW]; exact (((below_next hb2 hb3).alloc (Nat.le_trans hb2.size hb3.size) _).alloc (Nat.le_trans (Nat.le_trans hb2.size hb3.size) (by simp)) _)
  obtain ⟨p,hp⟩:∃ p,p=w3.heap.size:=⟨_,rfl⟩
  obtain ⟨q,hq⟩:∃ q,q=w3.heap.size + 1:=⟨_,rfl⟩
  have a0:W.cell? ⟨p,0,none⟩=some (.int .i64 2):=by rw [hW,hp]; exact cell_next (cell_of_row _ _ _ _ _ _ (heap_alloc_new _ _)) ((Below.refl _ _).alloc (Nat.le_refl _) _)
  have a1:W.cell? ⟨p,1,none⟩=some (.int .i64 (x:Int)):=by rw [hW,hp]; exact cell_next (cell_of_row _ _ _ _ _ _ (heap_alloc_new _ _)) ((Below.refl _ _).alloc (Nat.le_refl _) _)
  have a2:W.cell? ⟨q,0,none⟩=some (.int .i64 1):=by rw [hW,hq,← World.size_alloc_tok w3 #[.int .i64 2,.int .i64 (x:Int)] 85]; exact cell_of_row _ _ _ _ _ _ (heap_alloc_new _ _)
  have a3:W.cell? ⟨q,1,none⟩=some (.int .i64 (b:Int)):=by rw [hW,hq,← World.size_alloc_tok w3 #[.int .i64 2,.int .i64 (x:Int)] 85]; exact cell_of_row _ _ _ _ _ _ (heap_alloc_new _ _)
  rw [← hW,← hq,← hp]
  clear hW hp hq hb2 hb3
  have HBW:=Lib.hid hBW
  clear hm hx hb hw10 hw30 HP HBIG
  clear hBW
  go_region_with (first | (go_at_call 61; refine (opw_any _ _).mono ?_; rintro e w4 ⟨rfl,hw4⟩; have c0:w4.cell? ⟨p,0,none⟩=some (.int .i64 2):=cell_next (by first | exact a0 | simpa using a0) hw4; have c1:w4.cell? ⟨p,1,none⟩=some (.int .i64 (x:Int)):=cell_next (by first | exact a1 | simpa using a1) hw4; have c2:w4.cell? ⟨q,0,none⟩=some (.int .i64 1):=cell_next (by first | exact a2 | simpa using a2) hw4; have c3:w4.cell? ⟨q,1,none⟩=some (.int .i64 (b:Int)):=cell_next (by first | exact a3 | simpa using a3) hw4))
  all_goals
   go_wp2_with fail
   have HB4:Hid (Below w.heap.size w w4):=Lib.hid (by first | exact below_next HBW.out hw4 | exact below_next HBW.out.drew hw4)
   go_ret
   refine ⟨_,rfl,⟨_,[(2,(x:Int)),(1,(b:Int)),(3,6)],rfl,⟨x,b,HX.out,HBB.out,.inr (.inr (.inr (.inr (.inl rfl))))⟩,?_,at_new _ _ _ (by simp)⟩,HB4.out.alloc HB4.out.size _⟩
   exact HB4.out.size
 ·subst h
  clear HS
  go_wp2_with fail
  refine (HP.out _).mono ?_
  rintro e w1 ⟨rfl,rfl⟩
  go_wp2_with fail
  refine (regw_any _ _).mono ?_
  rintro e w2 ⟨rfl,hb2⟩
  go_wp2_with fail
  refine (numw_any _ _).mono ?_
  rintro e w3 ⟨rfl,hb3⟩
  go_wp2_with fail
  obtain ⟨W,hW⟩:∃ W,W=((w3.alloc (.cells #[.int .i64 2,.int .i64 (x:Int)] 85 (0,0))).alloc (.cells #[.int .i64 1,.int .i64 (b:Int)] 85 (0,0))):=⟨_,rfl⟩
  have hBW:Below w.heap.size w W:=by rw [hW]; exact (((below_next hb2 hb3).alloc (Nat.le_trans hb2.size hb3.size) _).alloc (Nat.le_trans (Nat.le_trans hb2.size hb3.size) (by simp)) _)
  obtain ⟨p,hp⟩:∃ p,p=w3.heap.size:=⟨_,rfl⟩
  obtain ⟨q,hq⟩:∃ q,q=w3.heap.size + 1:=⟨_,rfl⟩
  have a0:W.cell? ⟨p,0,none⟩=some (.int .i64 2):=by rw [hW,hp]; exact cell_next (cell_of_row _ _ _ _ _ _ (heap_alloc_new _ _)) ((Below.refl _ _).alloc (Nat.le_refl _) _)
  have a1:W.cell? ⟨p,1,none⟩=some (.int .i64 (x:Int)):=by rw [hW,hp]; exact cell_next (cell_of_row _ _ _ _ _ _ (heap_alloc_new _ _)) ((Below.refl _ _).alloc (Nat.le_refl _) _)
  have a2:W.cell? ⟨q,0,none⟩=some (.int .i64 1):=by rw [hW,hq,← World.size_alloc_tok w3 #[.int .i64 2,.int .i64 (x:Int)] 85]; exact cell_of_row _ _ _ _ _ _ (heap_alloc_new _ _)
  have a3:W.cell? ⟨q,1,none⟩=some (.int .i64 (b:Int)):=by rw [hW,hq,← World.size_alloc_tok w3 #[.int .i64 2,.int .i64 (x:Int)] 85]; exact cell_of_row _ _ _ _ _ _ (heap_alloc_new _ _)
  rw [← hW,← hq,← hp]
  clear hW hp hq hb2 hb3
  have HBW:=Lib.hid hBW
  clear hm hx hb hw10 hw30 HP HBIG
  clear hBW
  go_region_with (first | (have hgd:=hw5; clear hgd; go_at_call 61; refine (opw_any _ _).mono ?_; rintro e w4 ⟨rfl,hw4⟩; have c0:w4.cell? ⟨p,0,none⟩=some (.int .i64 2):=cell_next (by first | exact e0 | simpa using e0 | exact a0 | simpa using a0) hw4; have c1:w4.cell? ⟨p,1,none⟩=some (.int .i64 (x:Int)):=cell_next (by first | exact e1 | simpa using e1 | exact a1 | simpa using a1) hw4; have c2:w4.cell? ⟨q,0,none⟩=some (.int .i64 1):=cell_next (by first | exact e2 | simpa using e2 | exact a2 | simpa using a2) hw4; have c3:w4.cell? ⟨q,1,none⟩=some (.int .i64 (b:Int)):=cell_next (by first | exact e3 | simpa using e3 | exact a3 | simpa using a3) hw4) | (go_at_call 41; refine (numw_any _ _).mono ?_; rintro e w5 ⟨rfl,hw5⟩; have e0:w5.cell? ⟨p,0,none⟩=some (.int .i64 2):=cell_next (by first | exact a0 | simpa using a0) hw5; have e1:w5.cell? ⟨p,1,none⟩=some (.int .i64 (x:Int)):=cell_next (by first | exact a1 | simpa using a1) hw5; have e2:w5.cell? ⟨q,0,none⟩=some (.int .i64 1):=cell_next (by first | exact a2 | simpa using a2) hw5; have e3:w5.cell? ⟨q,1,none⟩=some (.int .i64 (b:Int)):=cell_next (by first | exact a3 | simpa using a3) hw5))
  all_goals
   go_wp2_with fail
   have HB4:Hid (Below w.heap.size w w4):=Lib.hid (by first | exact below_next (below_next HBW.out hw5) hw4 | exact below_next (below_next HBW.out.drew hw5) hw4)
   go_ret
   refine ⟨_,rfl,⟨_,[(1,(b:Int)),(1,1),(3,3)],rfl,⟨x,b,HX.out,HBB.out,.inr (.inr (.inr (.inr (.inr (rfl)))))⟩,?_,at_new _ _ _ (by simp)⟩,HB4.out.alloc HB4.out.size _⟩
   exact HB4.out.size
end Go.Proofs.Yteghpophcnehgaa
