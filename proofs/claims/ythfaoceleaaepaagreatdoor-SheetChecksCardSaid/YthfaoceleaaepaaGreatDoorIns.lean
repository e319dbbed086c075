/-
  slices.Insert ahead of a slice's end, the values in a row of their own: what stood ahead, the values, what stood behind, in the same row where it has room, else in a new one. Conditions: none but those that the theorems print.
-/
import Derived.Test.YthfaoceleaaepaaGreatDoorProg
import Derived.Test.YthfaoceleaaepaaGreatDoorRqP
namespace Go.Proofs.YthfaoceleaaepaaGreatDoor.insq
open Go.Rn Go.RowKit Go.Lib Go.Proofs
theorem under:Tryz.prog.underlying 129=some (.slice 77):=by kernel_rfl
theorem underI:Tryz.prog.underlying 3=some (.int .i64):=by kernel_rfl
theorem size:szOf Tryz.prog 77=some 7:=by kernel_rfl
theorem parts:insT Tryz.prog 77 7=true:=by kernel_rfl
theorem mixedI:Tryz.prog.follows Departure.mixedOrders=true:=by kernel_rfl
theorem knownI:known Tryz.prog 403=true:=by kernel_rfl
theorem shape_at {w:World} {B:Nat} {C:Array Value} {el:TypeId} (h:w.heap[B]?=some (.cells C el (0,0))):w.shape? B=some (el,C.size):=by simp [World.shape?,h]
theorem frozen_at {w:World} {B k:Nat} {C:Array Value} {el:TypeId} (h:w.heap[B]?=some (.cells C el (0,0))):w.frozen? ⟨B,k,none⟩=false:=by simp [World.frozen?,h]
set_option maxHeartbeats 4000000 in
set_option maxRecDepth 100000 in
theorem room (w:World) (B O n c i Bv Ov m vc:Nat) (C Cv:Array Value) (el elv:TypeId) (o2 vs:List Value)
  (hB:w.heap[B]?=some (.cells C el (0,0))) (hBv:w.heap[Bv]?=some (.cells Cv elv (0,0))) (hne:B ≠ Bv) (hsz:O + c * 7=C.size) (hroom:n + m≤c) (hi:i < n) (hm:0 < m) (hn6:n≤65536) (hm6:m≤65536)
  (l2:o2.length=(n - i) * 7) (l3:vs.length=m * 7) (c2:∀ (j:Nat) (u:Value),o2[j]?=some u→C[O + i * 7 + j]?=some u) (c3:∀ (j:Nat) (u:Value),vs[j]?=some u→Cv[Ov + j]?=some u) (hc2:∀ x ∈ o2,Cell x) (hc3:∀ x ∈ vs,Cell x) :
  Calls Tryz.prog 403 #[.slice (some ⟨B,O,none⟩) n c,.int .i64 i,.slice (some ⟨Bv,Ov,none⟩) m vc] w fun e w'=>e=.returned (.slice (some ⟨B,O,none⟩) (n + m) c) ∧
   w'=(w.drew.setRow B (laid C (O + (i + m) * 7) o2)).setRow B (laid (laid C (O + (i + m) * 7) o2) (O + i * 7) vs):=by
 have hz1:¬ ((m:Int)=0):=by omega
 have hz2:¬ ((i:Int)=(n:Int)):=by omega
 have hov:∀ lb cb,(callFunc 498 #[.slice (some ⟨Bv,Ov,none⟩) m vc,.slice (some ⟨B,O + (i + m) * 7,none⟩) lb cb]).run Tryz.prog w=.ok (.value (.bool false)) w:=fun lb cb=>by
  rw [run_callFunc_extern Tryz.func498 (by kernel_rfl) (by kernel_rfl) (by kernel_rfl) (e:=Extern.SlicesOverlaps.overlaps #[129,129] #[4]) (by kernel_rfl),
   Lib.run_overlaps_apart w 129 4 77 under 7 (fun w=>szOf_run size w) ⟨Bv,Ov,none⟩ ⟨B,O + (i + m) * 7,none⟩ m vc lb cb (fun e=>hne e.symm) elv el Cv.size C.size (shape_at hBv) (shape_at hB) (by omega) (frozen_at hBv) (frozen_at hBv)]
  rfl
 have hw1:IntKind.i64.wrap ((i:Int) + (m:Int))=(i:Int) + (m:Int):=by rw [IntKind.wrap_i64]; omega
 have hb1:(0:Int)≤(i:Int) + (m:Int):=by omega
 have hin:i≤n:=by omega
 have htn:((i:Int) + (m:Int)).toNat=i + m:=by omega
 have hb2:¬ (c=i + m):=by omega
 have hb3:(i:Int)≤(n:Int) + (m:Int):=by omega
 have hb4:¬ (c=i):=by omega
 have hmul:(n + m) * 7≤c * 7:=by omega
 have hfit2:O + (i + m) * 7 + o2.length≤C.size:=by omega
 have hcp1:∀ ty dc sc,(Builtin.copy_ #[129,129] ty #[.slice (some ⟨B,O + (i + m) * 7,none⟩) (n + m - (i + m)) dc,.slice (some ⟨B,O + i * 7,none⟩) (n + m - i) sc]).run Tryz.prog w.drew=.ok (.int .i64 ((n - i:Nat):Int)) (w.drew.setRow B (laid C (O + (i + m) * 7) o2)):=fun ty dc sc=>
  run_copy_es under size (by show min _ _=_; omega) (show w.drew.heap[B]?=_ from hB) (by omega) (fun j u hj=>by rw [add_at]; exact (cell_at (w:=w) hB).trans (c2 j u hj)) hfit2 hc2
 have hB1:(w.drew.setRow B (laid C (O + (i + m) * 7) o2)).heap[B]?=some (.cells (laid C (O + (i + m) * 7) o2) el (0,0)):=setRow_heap w.drew B C _ el (0,0) hB
 have hBv1:(w.drew.setRow B (laid C (O + (i + m) * 7) o2)).heap[Bv]?=some (.cells Cv elv (0,0)):=(setRow_other w.drew B Bv _ (fun e=>hne e.symm)).trans hBv
 have hs1:(laid C (O + (i + m) * 7) o2).size=C.size:=laid_size hfit2
 have hcp2:∀ ty dc,(Builtin.copy_ #[129,129] ty #[.slice (some ⟨B,O + i * 7,none⟩) (n + m - i) dc,.slice (some ⟨Bv,Ov,none⟩) m vc]).run Tryz.prog (w.drew.setRow B (laid C (O + (i + m) * 7) o2))=.ok (.int .i64 ((m:Nat):Int)) ((w.drew.setRow B (laid C (O + (i + m) * 7) o2)).setRow B (laid (laid C (O + (i + m) * 7) o2) (O + i * 7) vs)):=fun ty dc=>
  run_copy_es under size (by show min _ _=_; omega) hB1 (by omega) (fun j u hj=>by rw [add_at]; exact (cell_at hBv1).trans (c3 j u hj)) (by omega) hc3
 have mixed:=mixedI
 go_enter Tryz.func403,Tryz.ntmps403
 go_wp2_with (simp only [hov])
 go_region_law_o (refine step_copy_runI rfl _ _ 129 129 rfl _ _ (by simp [Act.eval,Act.put]) (by simp [Act.eval,Act.put]) (hcp1 _ _ _) ?_)
 go_wp2_with (at_builtin; refine wpList_copy_runI _ rfl _ _ 129 129 rfl _ _ rfl rfl (hcp2 _ _) ?_)
 go_ret
 exact ⟨rfl,rfl⟩
set_option maxHeartbeats 4000000 in
set_option maxRecDepth 100000 in
theorem grow (w:World) (B O n c i Bv Ov m vc:Nat) (C Cv:Array Value) (el elv:TypeId) (o1 o2 vs:List Value)
  (hB:w.heap[B]?=some (.cells C el (0,0))) (hBv:w.heap[Bv]?=some (.cells Cv elv (0,0))) (hnc:n≤c) (hgrow:c < n + m) (hi:i < n) (hm:0 < m) (hn6:n≤65536) (hm6:m≤65536)
  (l1:o1.length=i * 7) (l2:o2.length=(n - i) * 7) (l3:vs.length=m * 7) (c1:∀ (j:Nat) (u:Value),o1[j]?=some u→C[O + j]?=some u) (c2:∀ (j:Nat) (u:Value),o2[j]?=some u→C[O + i * 7 + j]?=some u) (c3:∀ (j:Nat) (u:Value),vs[j]?=some u→Cv[Ov + j]?=some u) (hc2:∀ x ∈ o2,Cell x) (hc3:∀ x ∈ vs,Cell x) :
  Calls Tryz.prog 403 #[.slice (some ⟨B,O,none⟩) n c,.int .i64 i,.slice (some ⟨Bv,Ov,none⟩) m vc] w fun e w'=>∃ (R:Array Value) (G:Nat),n + m≤G∧R.size=G * 7∧(∀ (j:Nat) (u:Value),o1[j]?=some u→R[j]?=some u)∧e=.returned (.slice (some ⟨w.heap.size,0,none⟩) (n + m) G) ∧
   w'=(((w.drew.alloc (.cells R 77 (0,0))).setRow w.heap.size (laid R (i * 7) vs)).drew).setRow w.heap.size (laid (laid R (i * 7) vs) ((i + m) * 7) o2):=by
 obtain ⟨i0,z0,hi0,hz0,hzs,hzc,hzb⟩:=insT_ok parts
 have hz1:¬ ((m:Int)=0):=by omega
 have hz2:¬ ((i:Int)=(n:Int)):=by omega
 have hz3:(c:Int) < (n:Int) + (m:Int):=by omega
 have hkk:(n:Int) + (m:Int) - (i:Int)=((n + m - i:Nat):Int):=by omega
 have hik:i + (n + m - i)=n + m:=by omega
 have hbw:B < w.heap.size:=(Array.getElem?_eq_some_iff.1 hB).1
 have hvw:Bv < w.heap.size:=(Array.getElem?_eq_some_iff.1 hBv).1
 have hold:(Builtin.firstCells i0.size i (.slice (some ⟨B,O,none⟩) i c)).run Tryz.prog w.drew=.ok o1.toArray w.drew:=by
  rw [hzs]
  exact run_firstCells_some w.drew 7 i ⟨B,O,none⟩ i c o1 (by omega) (fun j u hj=>by rw [add_at]; exact (cell_at (w:=w) hB).trans (c1 j u hj))
 have hb1:(n + m) * i0.bytes≤131072 * 65536:=Nat.mul_le_mul (by omega) hzb
 have hb2:(n + m - i) * i0.bytes≤131072 * 65536:=Nat.mul_le_mul (by omega) hzb
 have hrz:∀ ty,(Builtin.append_ #[129,3] ty #[.slice (some ⟨B,O,none⟩) i c,.int .i64 ((n:Int) + (m:Int) - (i:Int))]).run Tryz.prog w =
   .ok (.slice (some ⟨w.heap.size,0,none⟩) (n + m) (grownCap w (n + m) c 77)) (w.drew.alloc (.cells (o1.toArray ++ Builtin.zeroCells z0.cells (n + m - i) ++ Builtin.zeroCells z0.cells (grownCap w (n + m) c 77 - (n + m))) 77)):=fun ty=>by
  have h:=Lib.run_append_grow_zeros w 129 3 ty 77 i0 z0 .i64 .i64 under underI hi0 hz0 (some ⟨B,O,none⟩) i c o1 hold (n + m - i) (by omega) (by omega) (by omega) (by omega) (by omega) (by rw [hik]; exact growslice_fits hgrow (by omega))
  rw [hik] at h
  rw [hkk]
  exact h
 have hGe:=grown_ge w (n + m) c 77
 obtain ⟨G,hG⟩:∃ G,G=grownCap w (n + m) c 77:=⟨_,rfl⟩
 rw [← hG] at hrz hGe
 obtain ⟨R,hR⟩:∃ R:Array Value,R=o1.toArray ++ Builtin.zeroCells z0.cells (n + m - i) ++ Builtin.zeroCells z0.cells (G - (n + m)):=⟨_,rfl⟩
 rw [← hR] at hrz
 have hRs:R.size=G * 7:=by
  rw [hR]
  simp only [Array.size_append,Builtin.zeroCells,List.size_toArray]
  simp [hzc,l1]
  omega
 have hR1:∀ (j:Nat) (u:Value),o1[j]?=some u→R[j]?=some u:=fun j u hj=>by
  have hlt:j < o1.length:=by
   rcases Nat.lt_or_ge j o1.length with r | r
   ·exact r
   ·rw [List.getElem?_eq_none r] at hj; cases hj
  rw [hR,Array.append_assoc,Array.getElem?_append_left (by simpa using hlt)]
  simpa using hj
 have hGi:¬ (G=i):=by omega
 have hGim:¬ (G=i + m):=by omega
 have hci:¬ (c=i):=by omega
 have hBN:B ≠ w.heap.size:=by omega
 have hvN:Bv ≠ w.heap.size:=by omega
 have hl1:i * 7 + vs.length≤R.size:=by omega
 have hl2:(i + m) * 7 + o2.length≤(laid R (i * 7) vs).size:=by rw [laid_size hl1]; omega
 have hN:(w.drew.alloc (.cells R 77)).heap[w.heap.size]?=some (.cells R 77 (0,0)):=by
  show (w.heap.push (.cells R 77 (0,0)))[w.heap.size]?=_
  simp
 have hvA:(w.drew.alloc (.cells R 77)).heap[Bv]?=some (.cells Cv elv (0,0)):=(RowKit.Below.heap_alloc w.drew _ Bv hvw).trans hBv
 have hBA:(w.drew.alloc (.cells R 77)).heap[B]?=some (.cells C el (0,0)):=(RowKit.Below.heap_alloc w.drew _ B hbw).trans hB
 have hcpA:∀ ty dc,(Builtin.copy_ #[129,129] ty #[.slice (some ⟨w.heap.size,0 + i * 7,none⟩) (n + m - i) dc,.slice (some ⟨Bv,Ov,none⟩) m vc]).run Tryz.prog (w.drew.alloc (.cells R 77))=.ok (.int .i64 ((m:Nat):Int)) ((w.drew.alloc (.cells R 77)).setRow w.heap.size (laid R (i * 7) vs)):=fun ty dc=>by
  rw [Nat.zero_add]
  exact run_copy_es under size (by show min _ _=_; omega) hN (by omega) (fun j u hj=>by rw [add_at]; exact (cell_at hvA).trans (c3 j u hj)) hl1 hc3
 have hN1:=setRow_heap _ w.heap.size R (laid R (i * 7) vs) 77 (0,0) hN
 have hB1:=(setRow_other (w.drew.alloc (.cells R 77)) w.heap.size B (laid R (i * 7) vs) hBN).trans hBA
 have hcpB:∀ ty dc sc,(Builtin.copy_ #[129,129] ty #[.slice (some ⟨w.heap.size,0 + (i + m) * 7,none⟩) (n + m - (i + m)) dc,.slice (some ⟨B,O + i * 7,none⟩) (n - i) sc]).run Tryz.prog ((w.drew.alloc (.cells R 77)).setRow w.heap.size (laid R (i * 7) vs)).drew=.ok (.int .i64 ((n - i:Nat):Int)) (((w.drew.alloc (.cells R 77)).setRow w.heap.size (laid R (i * 7) vs)).drew.setRow w.heap.size (laid (laid R (i * 7) vs) ((i + m) * 7) o2)):=fun ty dc sc=>by
  rw [Nat.zero_add]
  exact run_copy_es under size (by show min _ _=_; omega) (show (World.drew _).heap[_]?=_ from hN1) (by omega) (fun j u hj=>by rw [add_at]; exact (cell_at (w:=World.drew _) hB1).trans (c2 j u hj)) hl2 hc2
 rw [Nat.zero_add] at hcpA hcpB
 have hcpA2:∀ ty dc,(Builtin.copy_ #[129,129] ty #[.slice (some ⟨w.heap.size,i * 7,none⟩) (n + m - i) dc,.slice (some ⟨Bv,Ov,none⟩) m vc]).run Tryz.prog ((w.alloc (.cells R 77)).drew)=.ok (.int .i64 ((m:Nat):Int)) (((w.alloc (.cells R 77)).drew).setRow w.heap.size (laid R (i * 7) vs)):=hcpA
 have hcpB2:∀ ty dc sc,(Builtin.copy_ #[129,129] ty #[.slice (some ⟨w.heap.size,(i + m) * 7,none⟩) (n + m - (i + m)) dc,.slice (some ⟨B,O + i * 7,none⟩) (n - i) sc]).run Tryz.prog (((w.alloc (.cells R 77)).drew.setRow w.heap.size (laid R (i * 7) vs)).drew)=.ok (.int .i64 ((n - i:Nat):Int)) (((w.alloc (.cells R 77)).drew.setRow w.heap.size (laid R (i * 7) vs)).drew.setRow w.heap.size (laid (laid R (i * 7) vs) ((i + m) * 7) o2)):=hcpB
 have hw1:IntKind.i64.wrap ((i:Int) + (m:Int))=(i:Int) + (m:Int):=by rw [IntKind.wrap_i64]; omega
 have hb5:(0:Int)≤(i:Int) + (m:Int):=by omega
 have hin:i≤n:=by omega
 have htn:((i:Int) + (m:Int)).toNat=i + m:=by omega
 have hb3:(i:Int)≤(n:Int):=by omega
 have mixed:=mixedI
 clear hkk hik hold hG hR hb1 hb2
 refine Calls.mono (R:=fun e w'=>e=.returned (.slice (some ⟨w.heap.size,0,none⟩) (n + m) G)∧w'=(((w.drew.alloc (.cells R 77 (0,0))).setRow w.heap.size (laid R (i * 7) vs)).drew).setRow w.heap.size (laid (laid R (i * 7) vs) ((i + m) * 7) o2)) ?_ (fun e w' h=>⟨R,G,hGe,hRs,hR1,h.1,h.2⟩)
 go_enter Tryz.func403,Tryz.ntmps403
 go_wp2_with (first
  | (at_builtin; refine Lib.wpList_append_run _ rfl _ _ _ _ rfl _ _ rfl rfl _ _ (hrz _) ?_)
  | (at_builtin; refine wpList_copy_runI _ rfl _ _ 129 129 rfl _ _ rfl rfl (hcpA2 _ _) ?_)
  | (at_builtin; refine wpList_copy_runI _ rfl _ _ 129 129 rfl _ _ rfl rfl (hcpB2 _ _ _) ?_))
 go_region_law_o (refine step_copy_runI rfl _ _ 129 129 rfl (.slice (some ⟨w.heap.size,(i + m) * 7,none⟩) (n + m - (i + m)) (G - (i + m))) (.slice (some ⟨B,O + i * 7,none⟩) (n - i) (c - i)) (by simp [Act.eval,Act.put]) (by simp [Act.eval,Act.put]) (hcpB2 3 (G - (i + m)) (c - i)) ?_)
 go_wp2
 go_ret
 exact ⟨rfl,rfl⟩
theorem ins_ok:InsC Tryz.prog 403 7:=insC_of (te:=77) knownI (by decide) (by decide)
 (fun w B O n c i Bv Ov m vc C Cv el elv o2 vs h1 h2 h3 h4 h5 h6 h7 h8 h9 h10 h11 h12 h13 h14 h15=>by
  exact room w B O n c i Bv Ov m vc C Cv el elv o2 vs h1 h2 h3 h4 h5 h6 h7 h8 h9 h10 h11 h12 h13 h14 h15)
 (fun w B O n c i Bv Ov m vc C Cv el elv o1 o2 vs h1 h2 _ _ h5 h6 h7 h8 h9 h10 h11 h12 h13 h14 h15 h16 h17 h18=>by
  exact grow w B O n c i Bv Ov m vc C Cv el elv o1 o2 vs h1 h2 h5 h6 h7 h8 h9 h10 h11 h12 h13 h14 h15 h16 h17 h18)
end Go.Proofs.YthfaoceleaaepaaGreatDoor.insq
