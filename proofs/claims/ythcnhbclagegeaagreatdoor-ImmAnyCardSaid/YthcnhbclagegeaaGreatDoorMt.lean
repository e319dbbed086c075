/-
  Matrices of small graphs as numbers. Conditions: none.
-/
import Derived.Test.YthcnhbclagegeaaGreatDoorMs
import Derived.Handy
namespace Go.Proofs.YthcnhbclagegeaaGreatDoor
open Go.RowKit RelA
attribute [local go_sem ↓] Go.wp_at_zero Go.wp_at_succ
namespace RelA
def loopG (B:Nat) (da:Option Addr) (D:List (Int × Int)) (dc:Nat):Gr where
 locs:=2
 ea:=some ⟨B + 1,0,none⟩
 E:=[⟨0,2,0,0,0,false⟩,⟨0,2,0,1,0,false⟩,⟨1,1,0,0,1,false⟩,⟨1,2,0,1,1,false⟩,⟨2,1,0,1,1,false⟩,⟨2,2,0,0,1,false⟩]
 ec:=6
 ra:=some ⟨B + 1 + 1,0,none⟩
 R:=[-1,-1,5,-1,3,-1]
 rc:=6
 ca:=some ⟨B + 1 + 1 + 1 + 1 + 1,0,none⟩
 C:=[⟨some ⟨B + 1 + 1 + 1,0,none⟩,[0,5],2⟩,⟨some ⟨B + 1 + 1 + 1 + 1,0,none⟩,[1,3],2⟩]
 cc:=2
 ma:=none
 Rmw:=[]
 mc:=0
 da:=da
 Data:=D
 dc:=dc
 ta:=none
 Ctrl:=[]
 tc:=0
 ia:=none
 CtrlI:=[]
 ic:=0
theorem al_keep {w:World} {b:Nat} {x:Obj} (h:w.heap[b]?=some x) (o:Obj):(w.alloc o).heap[b]?=some x:=by
 have hl:b < w.heap.size:=by
  rcases Nat.lt_or_ge b w.heap.size with q | q
  ·exact q
  ·rw [Array.getElem?_eq_none q] at h
   cases h
 have hb:Below w.heap.size w (w.alloc o):=(Below.refl _ _).alloc (Nat.le_refl _) o
 rw [hb.block b hl]
 exact h
theorem al_new (w:World) (o:Obj) {b:Nat} (h:b=w.heap.size):(w.alloc o).heap[b]?=some o:=by
 subst h
 exact heap_alloc_new _ _
end RelA
theorem es_of {W:World} {b:Nat} (h:W.heap[b]?=some (.cells (.int .i64 0::.int .i64 2::.int .i64 0::.int .i64 0::.int .i64 0::.bool false::.int .i64 0::.int .i64 2::.int .i64 0::.int .i64 1::.int .i64 0::.bool false::.int .i64 1::.int .i64 1::.int .i64 0::.int .i64 0::.int .i64 1::.bool false::.int .i64 1::.int .i64 2::.int .i64 0::.int .i64 1::.int .i64 1::.bool false::.int .i64 2::.int .i64 1::.int .i64 0::.int .i64 1::.int .i64 1::.bool false::.int .i64 2::.int .i64 2::.int .i64 0::.int .i64 0::.int .i64 1::.bool false::[]).toArray 53 (0,0))):EsIn W (some ⟨b,0,none⟩) (loopG 0 none [] 0).E:=by
 have hl:b < W.heap.size:=block_lt_of_cell (a:=⟨b,0,none⟩) (by rw [cell_of_row _ _ _ _ _ _ h]; rfl)
 refine .inr ⟨b,0,rfl,hl,fun q hq=>?_⟩
 have hq6:q < 6:=hq
 have hc:q=0 ∨ q=1 ∨ q=2 ∨ q=3 ∨ q=4 ∨ q=5:=by omega
 rcases hc with rfl | rfl | rfl | rfl | rfl | rfl <;> exact ⟨by rw [cell_of_row _ _ _ _ _ _ h]; rfl,by rw [cell_of_row _ _ _ _ _ _ h]; rfl,by rw [cell_of_row _ _ _ _ _ _ h]; rfl,by rw [cell_of_row _ _ _ _ _ _ h]; rfl,by rw [cell_of_row _ _ _ _ _ _ h]; rfl,by rw [cell_of_row _ _ _ _ _ _ h]; rfl⟩
theorem rf_of {W:World} {b:Nat} (h:W.heap[b]?=some (.cells #[.int .i64 (-1),.int .i64 (-1),.int .i64 5,.int .i64 (-1),.int .i64 3,.int .i64 (-1)] 3 (0,0))):NsIn W (some ⟨b,0,none⟩) (loopG 0 none [] 0).R:=by
 have hl:b < W.heap.size:=block_lt_of_cell (a:=⟨b,0,none⟩) (by rw [cell_of_row _ _ _ _ _ _ h]; rfl)
 refine .inr ⟨b,0,rfl,hl,fun q hq=>?_⟩
 have hq6:q < 6:=hq
 have hc:q=0 ∨ q=1 ∨ q=2 ∨ q=3 ∨ q=4 ∨ q=5:=by omega
 rcases hc with rfl | rfl | rfl | rfl | rfl | rfl <;> (rw [cell_of_row _ _ _ _ _ _ h]; rfl)
theorem two_of {W:World} {b:Nat} {x y:Int} (h:W.heap[b]?=some (.cells #[.int .i64 x,.int .i64 y] 3 (0,0))):NsIn W (some ⟨b,0,none⟩) [x,y]:=by
 have hl:b < W.heap.size:=block_lt_of_cell (a:=⟨b,0,none⟩) (by rw [cell_of_row _ _ _ _ _ _ h]; rfl)
 refine .inr ⟨b,0,rfl,hl,fun q hq=>?_⟩
 have hq2:q < 2:=hq
 have hc:q=0 ∨ q=1:=by omega
 rcases hc with rfl | rfl <;> (rw [cell_of_row _ _ _ _ _ _ h]; rfl)
theorem co_of {W:World} {b c d:Nat} {x y z t:Int} (h:W.heap[d]?=some (.cells #[.slice (some ⟨b,0,none⟩) 2 2,.slice (some ⟨c,0,none⟩) 2 2] 23 (0,0))) (h1:NsIn W (some ⟨b,0,none⟩) [x,y]) (h2:NsIn W (some ⟨c,0,none⟩) [z,t]) :
  LsIn W (some ⟨d,0,none⟩) [⟨some ⟨b,0,none⟩,[x,y],2⟩,⟨some ⟨c,0,none⟩,[z,t],2⟩]:=by
 have hl:d < W.heap.size:=block_lt_of_cell (a:=⟨d,0,none⟩) (by rw [cell_of_row _ _ _ _ _ _ h]; rfl)
 refine .inr ⟨d,0,rfl,hl,fun q hq=>?_⟩
 have hq2:q < 2:=hq
 have hc:q=0 ∨ q=1:=by omega
 rcases hc with rfl | rfl
 ·exact ⟨by rw [cell_of_row _ _ _ _ _ _ h]; rfl,h1,by simp⟩
 ·exact ⟨by rw [cell_of_row _ _ _ _ _ _ h]; rfl,h2,by simp⟩
set_option maxRecDepth 20000 in
set_option maxHeartbeats 3200000 in
theorem loop_f (w:World):Calls Tryz.prog 37 #[.bool false] w fun e w'=>e=.returned (loopG w.heap.size none [] 0).v∧GIn w' (loopG w.heap.size none [] 0)∧Below w.heap.size w w':=by
 go_enter Tryz.func37,Tryz.ntmps37
 go_wp2_with fail
 go_returns
 refine ⟨rfl,?_,?_⟩
 ·refine ⟨?_,?_,?_,.inl ⟨rfl,rfl,rfl⟩,.inl ⟨rfl,rfl,rfl⟩,.inl ⟨rfl,rfl,rfl⟩,.inl ⟨rfl,rfl,rfl⟩,by simp [loopG],by simp [loopG],by simp [loopG],by simp [loopG],?_,by simp [loopG],by simp [loopG],by simp [loopG],by simp [loopG],by simp [loopG]⟩
  ·exact es_of (al_keep (al_keep (al_keep (al_keep (al_keep (al_new _ _ (by simp)) _) _) _) _) _)
  ·exact rf_of (al_keep (al_keep (al_keep (al_keep (al_new _ _ (by simp)) _) _) _) _)
  ·exact co_of (al_keep (al_new _ _ (by simp)) _) (two_of (al_keep (al_keep (al_keep (al_new _ _ (by simp)) _) _) _)) (two_of (al_keep (al_keep (al_new _ _ (by simp)) _) _))
  ·intro q hq
   have hq2:q < 2:=hq
   have hc:q=0 ∨ q=1:=by omega
   rcases hc with rfl | rfl <;> simp [loopG]
 ·exact (((((((Below.refl _ _).alloc (Nat.le_refl _) _).alloc (by simp) _).alloc (by simp; omega) _).alloc (by simp; omega) _).alloc (by simp; omega) _).alloc (by simp; omega) _).alloc (by simp; omega) _
theorem data_of {W:World} {b:Nat} (h:W.heap[b]?=some (.cells #[.int .i64 2,.int .i64 3,.int .i64 4,.int .i64 5] 56 (0,0))):PIn W (some ⟨b,0,none⟩) [(2,3),(4,5)] 2:=by
 have hl:b < W.heap.size:=block_lt_of_cell (a:=⟨b,0,none⟩) (by rw [cell_of_row _ _ _ _ _ _ h]; rfl)
 refine .inr (.inr ⟨b,0,rfl,hl,fun q hq=>?_⟩)
 have hq2:q < 2:=hq
 have hc:q=0 ∨ q=1:=by omega
 rcases hc with rfl | rfl <;> exact ⟨by rw [cell_of_row _ _ _ _ _ _ h]; rfl,by rw [cell_of_row _ _ _ _ _ _ h]; rfl⟩
set_option maxRecDepth 20000 in
set_option maxHeartbeats 3200000 in
theorem loop_t (w:World):Calls Tryz.prog 37 #[.bool true] w fun e w'=>∃ da,e=.returned (loopG w.heap.size da [(2,3),(4,5)] 2).v∧GIn w' (loopG w.heap.size da [(2,3),(4,5)] 2)∧Below w.heap.size w w':=by
 go_enter Tryz.func37,Tryz.ntmps37
 go_wp2_with fail
 go_returns
 refine ⟨some ⟨w.heap.size + 1 + 1 + 1 + 1 + 1 + 1 + 1,0,none⟩,rfl,?_,?_⟩
 ·refine ⟨?_,?_,?_,.inl ⟨rfl,rfl,rfl⟩,?_,.inl ⟨rfl,rfl,rfl⟩,.inl ⟨rfl,rfl,rfl⟩,by simp [loopG],by simp [loopG],by simp [loopG],by simp [loopG],?_,by simp [loopG],by simp [loopG],by simp [loopG],by simp [loopG],by simp [loopG]⟩
  ·exact es_of (al_keep (al_keep (al_keep (al_keep (al_keep (al_keep (al_new _ _ (by simp)) _) _) _) _) _) _)
  ·exact rf_of (al_keep (al_keep (al_keep (al_keep (al_keep (al_new _ _ (by simp)) _) _) _) _) _)
  ·exact co_of (al_keep (al_keep (al_new _ _ (by simp)) _) _) (two_of (al_keep (al_keep (al_keep (al_keep (al_new _ _ (by simp)) _) _) _) _)) (two_of (al_keep (al_keep (al_keep (al_new _ _ (by simp)) _) _) _))
  ·exact data_of (al_new _ _ (by simp))
  ·intro q hq
   have hq2:q < 2:=hq
   have hc:q=0 ∨ q=1:=by omega
   rcases hc with rfl | rfl <;> simp [loopG]
 ·exact ((((((((Below.refl _ _).alloc (Nat.le_refl _) _).alloc (by simp) _).alloc (by simp; omega) _).alloc (by simp; omega) _).alloc (by simp; omega) _).alloc (by simp; omega) _).alloc (by simp; omega) _).alloc (by simp; omega) _
end Go.Proofs.YthcnhbclagegeaaGreatDoor
namespace Go.Proofs.YthcnhbclagegeaaGreatDoor
open Go.RowKit RelA
namespace RelA
def rowN (f:Nat→Bool) (m:Nat):Nat:=Nat.rec 0 (fun k r=>bif f k then r ||| 2 ^ k else r) m
theorem rowN_bit (f:Nat→Bool) (m j:Nat):(rowN f m).testBit j=(decide (j < m) && f j):=by
 induction m with
 | zero=>
  show Nat.testBit 0 j=_
  simp
 | succ k ih=>
  have e:rowN f (k + 1)=bif f k then rowN f k ||| 2 ^ k else rowN f k:=rfl
  rw [e]
  by_cases h:j=k
  ·subst h
   cases h1:f j <;> simp [ih,h1,Nat.testBit_two_pow_self]
  ·have h2:decide (j < k + 1)=decide (j < k):=by
    by_cases q:j < k
    ·simp [q]; omega
    ·simp [q]; omega
   rw [h2,← ih]
   cases h1:f k <;> simp [Ne.symm h]
def bitN (n N i j:Nat):Bool:=N.testBit (i * n + j)
def tabN (n:Nat) (f:Nat→Nat→Bool):Nat:=rowN (fun x=>f (x / n) (x % n)) (n * n)
theorem tabN_bit {n i j:Nat} (f:Nat→Nat→Bool) (hi:i < n) (hj:j < n):bitN n (tabN n f) i j=f i j:=by
 have h1:(i * n + j) / n=i:=by
  rw [Nat.mul_comm,Nat.mul_add_div (by omega),Nat.div_eq_of_lt hj]; rfl
 have h2:(i * n + j) % n=j:=by
  rw [Nat.mul_comm,Nat.mul_add_mod,Nat.mod_eq_of_lt hj]
 have h3:i * n + j < n * n:=by
  have:(i + 1) * n≤n * n:=Nat.mul_le_mul_right n hi
  rw [Nat.add_mul] at this
  omega
 unfold bitN tabN
 rw [rowN_bit,h1,h2]
 simp [h3]
structure IsN (n N:Nat) (M:Nat→Nat→Bool):Prop where
 wf:∀ i j,M i j=true→i < n∧j < n
 bit:∀ i j,i < n→j < n→M i j=bitN n N i j
def seqN (n a b:Nat):Nat:=tabN n fun i j=>(List.range n).any fun k=>bitN n a i k && bitN n b k j
def plusN (n a:Nat):Nat:=Nat.rec a (fun _ P=>P ||| seqN n P a) n
theorem is_tab {n:Nat} {M:Nat→Nat→Bool} (f:Nat→Nat→Bool) (wf:∀ i j,M i j=true→i < n∧j < n) (h:∀ i j,i < n→j < n→M i j=f i j):IsN n (tabN n f) M:=
 ⟨wf,fun i j hi hj=>by rw [tabN_bit f hi hj]; exact h i j hi hj⟩
theorem is_or {n a b:Nat} {M S:Nat→Nat→Bool} (h:IsN n a M) (g:IsN n b S):IsN n (a ||| b) (orM M S):=
 ⟨fun i j x=>by
  unfold orM at x
  rw [Bool.or_eq_true] at x
  rcases x with x | x
  ·exact h.wf i j x
  ·exact g.wf i j x,fun i j hi hj=>by unfold orM; rw [h.bit i j hi hj,g.bit i j hi hj]; simp [bitN]⟩
theorem is_and {n a b:Nat} {M S:Nat→Nat→Bool} (h:IsN n a M) (g:IsN n b S):IsN n (a &&& b) (andM M S):=
 ⟨fun i j x=>by
  unfold andM at x
  rw [Bool.and_eq_true] at x
  exact h.wf i j x.1,fun i j hi hj=>by unfold andM; rw [h.bit i j hi hj,g.bit i j hi hj]; simp [bitN]⟩
theorem is_less {n a b:Nat} {M S:Nat→Nat→Bool} (h:IsN n a M) (g:IsN n b S):IsN n (a ^^^ (a &&& b)) (lessM M S):=
 ⟨fun i j x=>by
  unfold lessM at x
  rw [Bool.and_eq_true] at x
  exact h.wf i j x.1,fun i j hi hj=>by
  unfold lessM; rw [h.bit i j hi hj,g.bit i j hi hj]; simp only [bitN,Nat.testBit_xor,Nat.testBit_and]
  cases a.testBit (i * n + j) <;> cases b.testBit (i * n + j) <;> rfl⟩
theorem is_seq {n a b:Nat} {M S:Nat→Nat→Bool} (h:IsN n a M) (g:IsN n b S):IsN n (seqN n a b) (seqM M S):=
 is_tab _ (fun i j x=>by
  obtain ⟨k,p,q⟩:=seqM_iff.1 x
  exact ⟨(h.wf i k p).1,(g.wf k j q).2⟩) fun i j hi hj=>by
  rw [Bool.eq_iff_iff,seqM_iff,List.any_eq_true]
  constructor
  ·rintro ⟨k,p,q⟩
   have hk:=(h.wf i k p).2
   refine ⟨k,List.mem_range.2 hk,?_⟩
   rw [Bool.and_eq_true,← h.bit i k hi hk,← g.bit k j hk hj]
   exact ⟨p,q⟩
  ·rintro ⟨k,hk,p⟩
   have hk':=List.mem_range.1 hk
   rw [Bool.and_eq_true,← h.bit i k hi hk',← g.bit k j hk' hj] at p
   exact ⟨k,p⟩
theorem is_back {n a:Nat} {M:Nat→Nat→Bool} (h:IsN n a M):IsN n (tabN n fun i j=>bitN n a j i) (backM M):=
 is_tab _ (fun i j x=>(h.wf j i x).symm) fun i j hi hj=>h.bit j i hj hi
theorem is_plus {n a:Nat} {M:Nat→Nat→Bool} (h:IsN n a M) (hc:Nat.beq (plusN n a ||| seqN n (plusN n a) a) (plusN n a)=true):IsN n (plusN n a) (plusM M):=by
 have hst:∀ m,∃ T,IsN n (Nat.rec a (fun _ P=>P ||| seqN n P a) m) T∧(∀ i j,T i j=true→MPath M i j)∧(∀ i j,M i j=true→T i j=true):=by
  intro m
  induction m with
  | zero=>exact ⟨M,h,fun i j x=>.single x,fun _ _ x=>x⟩
  | succ m ih=>
   obtain ⟨T,h1,h2,h3⟩:=ih
   refine ⟨orM T (seqM T M),is_or h1 (is_seq h1 h),fun i j x=>?_,fun i j x=>?_⟩
   ·unfold orM at x
    rw [Bool.or_eq_true,seqM_iff] at x
    rcases x with x | ⟨k,p,q⟩
    ·exact h2 i j x
    ·exact (h2 i k p).tail q
   ·unfold orM
    rw [h3 i j x]; rfl
 obtain ⟨T,h1,h2,h3⟩:=hst n
 have h1':IsN n (plusN n a) T:=h1
 have hcl:∀ i k j,T i k=true→M k j=true→T i j=true:=by
  intro i k j p q
  have e:=Nat.eq_of_beq_eq_true hc
  have hi:=(h1'.wf i k p).1
  have hj:=(h.wf k j q).2
  have hk:=(h.wf k j q).1
  rw [h1'.bit i j hi hj,← e]
  have:=(is_or h1' (is_seq h1' h)).bit i j hi hj
  rw [← this]
  unfold orM
  rw [Bool.or_eq_true,seqM_iff]
  exact .inr ⟨k,p,q⟩
 have hT:plusM M=T:=by
  funext i j
  rw [Bool.eq_iff_iff,plusM_iff]
  refine ⟨fun x=>?_,h2 i j⟩
  induction x with
  | single x=>exact h3 _ _ x
  | tail _ x ih=>exact hcl _ _ _ ih x
 rw [hT]
 exact h1'
theorem is_self {n a:Nat} {M:Nat→Nat→Bool} (h:IsN n a M):(∃ i,i < n∧M i i=true) ↔ (List.range n).any (fun i=>bitN n a i i)=true:=by
 rw [List.any_eq_true]
 constructor
 ·rintro ⟨i,hi,x⟩
  exact ⟨i,List.mem_range.2 hi,by rw [← h.bit i i hi hi]; exact x⟩
 ·rintro ⟨i,hi,x⟩
  have hi:=List.mem_range.1 hi
  exact ⟨i,hi,by rw [h.bit i i hi hi]; exact x⟩
end RelA
namespace Told
open Go.Rn (RV)
def leafN:List Nat:=[1,2,5,6,30,31,32,34,40,41,42,43,44,45,46,47,80]
def All2 (n:Nat):List Nat→List Mx→Prop
 | [],[]=>True
 | a::l,M::r=>IsN n a M∧All2 n l r
 | _,_=>False
theorem All2.app {n:Nat}:∀ {l:List Nat} {r:List Mx} {l':List Nat} {r':List Mx},All2 n l r→All2 n l' r'→All2 n (l ++ l') (r ++ r')
 | [],[],_,_,_,h=>h
 | _::_,_::_,_,_,h,g=>⟨h.1,All2.app h.2 g⟩
theorem is_none (n:Nat):IsN n 0 noneM:=⟨fun _ _ h=>(by cases h),fun i j _ _=>by simp [noneM,bitN]⟩
theorem All2.head {n:Nat}:∀ {l:List Nat} {r:List Mx},All2 n l r→IsN n (l.headD 0) (r.headD noneM)
 | [],[],_=>is_none n
 | _::_,_::_,h=>h.1
structure Lf (g:Gr) (T:Nat→Nat):Prop where
 op:∀ F ∈ leafN,∀ l,IsN g.n (T F) (opM g [] F l)
 thr:∀ i j,i < g.n→j < g.n→bitN g.n (T 20) i j=((Ev.at g.E i).th == (Ev.at g.E j).th)
end Told
end Go.Proofs.YthcnhbclagegeaaGreatDoor
namespace Go.Proofs.YthcnhbclagegeaaGreatDoor
open Go.RowKit RelA
namespace RelA
theorem is_lit {n N:Nat} {M:Nat→Nat→Bool} (wf:WFM n M) (h:((List.range n).all fun i=>(List.range n).all fun j=>M i j == bitN n N i j)=true):IsN n N M:=
 ⟨wf,fun i j hi hj=>by
  have h1:=List.all_eq_true.1 h i (List.mem_range.2 hi)
  exact eq_of_beq (List.all_eq_true.1 h1 j (List.mem_range.2 hj))⟩
theorem IsN.to {n a:Nat} {M:Nat→Nat→Bool} (h:IsN n a M) {b:Nat} (e:a=b):IsN n b M:=e ▸ h
theorem is_in {n N T:Nat} {M:Nat→Nat→Bool} {E:List Ev} (h:IsN n N M) (ht:∀ i j,i < n→j < n→bitN n T i j=((Ev.at E i).th == (Ev.at E j).th)):IsN n (N &&& T) (innerM E M):=
 ⟨fun i j x=>by
  unfold innerM at x
  rw [Bool.and_eq_true] at x
  exact h.wf i j x.1,fun i j hi hj=>by
  unfold innerM
  rw [h.bit i j hi hj,← ht i j hi hj]
  unfold bitN
  rw [Nat.testBit_and]⟩
theorem self_of {n N:Nat} {M:Nat→Nat→Bool} (h:IsN n N M) (x:Bool) (hx:(List.range n).any (fun i=>bitN n N i i)=x):x=true ↔ SelfM n M:=by
 rw [← hx]
 exact (is_self h).symm
theorem seq_none (M:Nat→Nat→Bool):seqM M noneM=noneM:=by funext i j; rw [Bool.eq_iff_iff,seqM_iff]; simp [noneM]
theorem none_seq (M:Nat→Nat→Bool):seqM noneM M=noneM:=by funext i j; rw [Bool.eq_iff_iff,seqM_iff]; simp [noneM]
theorem none_or (M:Nat→Nat→Bool):orM M noneM=M:=by funext i j; unfold orM noneM; simp
theorem diag_none {n:Nat} {p:Nat→Bool} (h:(List.range n).all (fun i=>!p i)=true):diagM n p=noneM:=by
 funext i j
 unfold diagM noneM
 by_cases hi:i < n
 ·have:=List.all_eq_true.1 h i (List.mem_range.2 hi)
  simp at this
  simp [this]
 ·simp [hi]
end RelA
namespace Told
namespace L12
open Go.Rn (Rho RV Mp Tells chV chW tells_given kcL kcL_ok callX isB isBv bool_told law_told inL inL_ok none_ok he denC_cons denC_nil DscL dsc_cons dsc_nil den below_old)
section
variable (B:Nat) (da:Option Addr) (D:List (Int × Int)) (dc:Nat)
abbrev G0:Gr:=loopG B da D dc
theorem m_rf:IsN 6 4299161600 (rfM (G0 B da D dc)):=is_lit (n:=6) (wf_new _ _) (by kernel_rfl)
theorem m_co:IsN 6 544 (coM (G0 B da D dc)):=is_lit (n:=6) (wf_new _ _) (by kernel_rfl)
theorem m_po:IsN 6 536907580 (poM (G0 B da D dc).E):=is_lit (n:=6) (wf_po _) (by kernel_rfl)
theorem m_loc:IsN 6 1572 (locM (G0 B da D dc).E):=is_lit (n:=6) (wf_loc _) (by kernel_rfl)
theorem m_R:IsN 6 268451840 (evM (G0 B da D dc) 1 []):=is_lit (n:=6) (wf_diag _ _) (by kernel_rfl)
theorem m_W:IsN 6 34361835649 (evM (G0 B da D dc) 2 []):=is_lit (n:=6) (wf_diag _ _) (by kernel_rfl)
theorem m_fr:IsN 6 0 (frM (G0 B da D dc)):=(is_seq (is_back (m_rf B da D dc)) (m_co B da D dc)).to (by kernel_rfl)
theorem m_eco:IsN 6 4299163172 (plusM (orM (orM (rfM (G0 B da D dc)) (coM (G0 B da D dc))) (frM (G0 B da D dc)))):=(is_plus (is_or (is_or (m_rf B da D dc) (m_co B da D dc)) (m_fr B da D dc)) (by kernel_rfl)).to (by kernel_rfl)
theorem m_hb:IsN 6 536907580 (plusM (poM (G0 B da D dc).E)):=(is_plus (m_po B da D dc) (by kernel_rfl)).to (by kernel_rfl)
theorem m_he:IsN 6 67175700 (seqM (plusM (poM (G0 B da D dc).E)) (plusM (orM (orM (rfM (G0 B da D dc)) (coM (G0 B da D dc))) (frM (G0 B da D dc))))):=(is_seq (m_hb B da D dc) (m_eco B da D dc)).to (by kernel_rfl)
theorem m_le:IsN 6 1028 (seqM (locM (G0 B da D dc).E) (plusM (orM (orM (rfM (G0 B da D dc)) (coM (G0 B da D dc))) (frM (G0 B da D dc))))):=(is_seq (m_loc B da D dc) (m_eco B da D dc)).to (by kernel_rfl)
theorem m_th:∀ i j,i < 6→j < 6→bitN 6 52348108995 i j=((Ev.at (G0 B da D dc).E i).th == (Ev.at (G0 B da D dc).E j).th):=fun i j hi hj=>by
 have h:((List.range 6).all fun i=>(List.range 6).all fun j=>bitN 6 52348108995 i j == ((Ev.at (G0 B da D dc).E i).th == (Ev.at (G0 B da D dc).E j).th))=true:=by kernel_rfl
 have h1:=List.all_eq_true.1 h i (List.mem_range.2 hi)
 exact eq_of_beq (List.all_eq_true.1 h1 j (List.mem_range.2 hj))
theorem m_rfi:IsN 6 0 (innerM (G0 B da D dc).E (rfM (G0 B da D dc))):=(is_in (m_rf B da D dc) (m_th B da D dc)).to (by kernel_rfl)
theorem m_rfe:IsN 6 4299161600 (lessM (rfM (G0 B da D dc)) (innerM (G0 B da D dc).E (rfM (G0 B da D dc)))):=(is_less (m_rf B da D dc) (m_rfi B da D dc)).to (by kernel_rfl)
theorem m_coe:IsN 6 544 (lessM (coM (G0 B da D dc)) (innerM (G0 B da D dc).E (coM (G0 B da D dc)))):=(is_less (m_co B da D dc) (is_in (m_co B da D dc) (m_th B da D dc))).to (by kernel_rfl)
theorem m_det:IsN 6 1028 (andM (seqM (lessM (coM (G0 B da D dc)) (innerM (G0 B da D dc).E (coM (G0 B da D dc)))) (lessM (rfM (G0 B da D dc)) (innerM (G0 B da D dc).E (rfM (G0 B da D dc))))) (poM (G0 B da D dc).E)):=(is_and (is_seq (m_coe B da D dc) (m_rfe B da D dc)) (m_po B da D dc)).to (by kernel_rfl)
theorem m_dt0:IsN 6 0 (ofM (G0 B da [] dc).n (G0 B da [] dc).Data):=is_lit (n:=6) (wf_new _ _) (by kernel_rfl)
theorem m_ppo0:IsN 6 0 (seqM (seqM (evM (G0 B da [] dc) 1 []) (plusM (orM (ofM (G0 B da [] dc).n (G0 B da [] dc).Data) (innerM (G0 B da [] dc).E (rfM (G0 B da [] dc)))))) (evM (G0 B da [] dc) 2 [])):=(is_seq (is_seq (m_R B da [] dc) (is_plus (is_or (m_dt0 B da dc) (m_rfi B da [] dc)) (by kernel_rfl))) (m_W B da [] dc)).to (by kernel_rfl)
theorem m_ar0:IsN 6 4299162628 (plusM (orM (orM (lessM (rfM (G0 B da [] dc)) (innerM (G0 B da [] dc).E (rfM (G0 B da [] dc)))) (seqM (seqM (evM (G0 B da [] dc) 1 []) (plusM (orM (ofM (G0 B da [] dc).n (G0 B da [] dc).Data) (innerM (G0 B da [] dc).E (rfM (G0 B da [] dc)))))) (evM (G0 B da [] dc) 2 []))) (andM (seqM (lessM (coM (G0 B da [] dc)) (innerM (G0 B da [] dc).E (coM (G0 B da [] dc)))) (lessM (rfM (G0 B da [] dc)) (innerM (G0 B da [] dc).E (rfM (G0 B da [] dc))))) (poM (G0 B da [] dc).E)))):=(is_plus (is_or (is_or (m_rfe B da [] dc) (m_ppo0 B da dc)) (m_det B da [] dc)) (by kernel_rfl)).to (by kernel_rfl)
theorem m_dt1:IsN 6 536903680 (ofM (G0 B da [(2,3),(4,5)] dc).n (G0 B da [(2,3),(4,5)] dc).Data):=is_lit (n:=6) (wf_new _ _) (by kernel_rfl)
theorem m_ppo1:IsN 6 536903680 (seqM (seqM (evM (G0 B da [(2,3),(4,5)] dc) 1 []) (plusM (orM (ofM (G0 B da [(2,3),(4,5)] dc).n (G0 B da [(2,3),(4,5)] dc).Data) (innerM (G0 B da [(2,3),(4,5)] dc).E (rfM (G0 B da [(2,3),(4,5)] dc)))))) (evM (G0 B da [(2,3),(4,5)] dc) 2 [])):=(is_seq (is_seq (m_R B da [(2,3),(4,5)] dc) (is_plus (is_or (m_dt1 B da dc) (m_rfi B da [(2,3),(4,5)] dc)) (by kernel_rfl))) (m_W B da [(2,3),(4,5)] dc)).to (by kernel_rfl)
theorem m_ar1:IsN 6 65447120700 (plusM (orM (orM (lessM (rfM (G0 B da [(2,3),(4,5)] dc)) (innerM (G0 B da [(2,3),(4,5)] dc).E (rfM (G0 B da [(2,3),(4,5)] dc)))) (seqM (seqM (evM (G0 B da [(2,3),(4,5)] dc) 1 []) (plusM (orM (ofM (G0 B da [(2,3),(4,5)] dc).n (G0 B da [(2,3),(4,5)] dc).Data) (innerM (G0 B da [(2,3),(4,5)] dc).E (rfM (G0 B da [(2,3),(4,5)] dc)))))) (evM (G0 B da [(2,3),(4,5)] dc) 2 []))) (andM (seqM (lessM (coM (G0 B da [(2,3),(4,5)] dc)) (innerM (G0 B da [(2,3),(4,5)] dc).E (coM (G0 B da [(2,3),(4,5)] dc)))) (lessM (rfM (G0 B da [(2,3),(4,5)] dc)) (innerM (G0 B da [(2,3),(4,5)] dc).E (rfM (G0 B da [(2,3),(4,5)] dc))))) (poM (G0 B da [(2,3),(4,5)] dc).E)))):=(is_plus (is_or (is_or (m_rfe B da [(2,3),(4,5)] dc) (m_ppo1 B da dc)) (m_det B da [(2,3),(4,5)] dc)) (by kernel_rfl)).to (by kernel_rfl)
variable (X:List (Int × Int))
theorem n_w2:evM (G0 B da D dc) 2 [2]=noneM:=diag_none (n:=6) (by kernel_rfl)
theorem n_r1:evM (G0 B da D dc) 1 [1]=noneM:=diag_none (n:=6) (by kernel_rfl)
theorem n_f0:evM (G0 B da D dc) 3 []=noneM:=diag_none (n:=6) (by kernel_rfl)
theorem n_f1:evM (G0 B da D dc) 3 [1,3,4]=noneM:=diag_none (n:=6) (by kernel_rfl)
theorem n_f4:evM (G0 B da D dc) 3 [4]=noneM:=diag_none (n:=6) (by kernel_rfl)
theorem n_ex:(diagM (G0 B da D dc).n fun i=>exB (Ev.at (G0 B da D dc).E i))=noneM:=diag_none (n:=6) (by kernel_rfl)
theorem n_ct:ofM (G0 B da D dc).n (G0 B da D dc).Ctrl=noneM:=rfl
theorem x_hb:mx (G0 B da D dc) X p63=plusM (poM (G0 B da D dc).E):=by
 show plusM (orM (poM (G0 B da D dc).E) (seqM (seqM (releaseM (G0 B da D dc)) (orM (innerM (G0 B da D dc).E (rfM (G0 B da D dc))) (seqM (maybeM (G0 B da D dc).n (locM (G0 B da D dc).E)) (lessM (rfM (G0 B da D dc)) (innerM (G0 B da D dc).E (rfM (G0 B da D dc))))))) (orM (evM (G0 B da D dc) 1 [1]) (seqM (poM (G0 B da D dc).E) (evM (G0 B da D dc) 3 [1,3,4])))))=_
 rw [n_r1,n_f1,seq_none,or_none,seq_none,none_or]
theorem x_he:mx (G0 B da D dc) X p79=seqM (plusM (poM (G0 B da D dc).E)) (plusM (orM (orM (rfM (G0 B da D dc)) (coM (G0 B da D dc))) (frM (G0 B da D dc)))):=by
 show seqM (mx (G0 B da D dc) X p63) (plusM (orM (orM (orM noneM (rfM (G0 B da D dc))) (coM (G0 B da D dc))) (frM (G0 B da D dc))))=_
 rw [x_hb,or_none]
theorem x_le:mx (G0 B da D dc) X p78=seqM (locM (G0 B da D dc).E) (plusM (orM (orM (rfM (G0 B da D dc)) (coM (G0 B da D dc))) (frM (G0 B da D dc)))):=by
 show seqM (locM (G0 B da D dc).E) (plusM (orM (orM (orM noneM (rfM (G0 B da D dc))) (coM (G0 B da D dc))) (frM (G0 B da D dc))))=_
 rw [or_none]
theorem x_bob:mx (G0 B da D dc) X p22=noneM:=by
 show orM (orM (orM (orM (orM noneM (seqM (poM (G0 B da D dc).E) (evM (G0 B da D dc) 2 [2]))) (seqM (evM (G0 B da D dc) 1 [1]) (poM (G0 B da D dc).E))) (seqM (poM (G0 B da D dc).E) (evM (G0 B da D dc) 3 []))) (seqM (evM (G0 B da D dc) 3 []) (poM (G0 B da D dc).E))) (seqM (seqM (evM (G0 B da D dc) 2 [2]) (locM (G0 B da D dc).E)) (evM (G0 B da D dc) 2 []))=_
 rw [n_w2,n_r1,n_f0]
 simp only [seq_none,none_seq,none_or]
theorem x_psc:mx (G0 B da D dc) X p72=noneM:=by
 show seqM (seqM (seqM (seqM (evM (G0 B da D dc) 3 [4]) (mx (G0 B da D dc) X p63)) (mx (G0 B da D dc) X p67)) (mx (G0 B da D dc) X p63)) (evM (G0 B da D dc) 3 [4])=_
 rw [n_f4,seq_none]
theorem x_deps:mx (G0 B da D dc) X p29=ofM (G0 B da D dc).n (G0 B da D dc).Data:=by
 show orM (orM (orM noneM (ofM (G0 B da D dc).n (G0 B da D dc).Data)) (ofM (G0 B da D dc).n (G0 B da D dc).Ctrl)) (seqM (diagM (G0 B da D dc).n fun i=>exB (Ev.at (G0 B da D dc).E i)) (poM (G0 B da D dc).E))=_
 rw [n_ex,n_ct,none_seq,none_or,none_or,or_none]
theorem x_ar:mx (G0 B da D dc) X p77=orM (orM (lessM (rfM (G0 B da D dc)) (innerM (G0 B da D dc).E (rfM (G0 B da D dc)))) (seqM (seqM (evM (G0 B da D dc) 1 []) (plusM (orM (ofM (G0 B da D dc).n (G0 B da D dc).Data) (innerM (G0 B da D dc).E (rfM (G0 B da D dc)))))) (evM (G0 B da D dc) 2 []))) (andM (seqM (lessM (coM (G0 B da D dc)) (innerM (G0 B da D dc).E (coM (G0 B da D dc)))) (lessM (rfM (G0 B da D dc)) (innerM (G0 B da D dc).E (rfM (G0 B da D dc))))) (poM (G0 B da D dc).E)):=by
 show orM (orM (orM (orM (orM noneM (lessM (rfM (G0 B da D dc)) (innerM (G0 B da D dc).E (rfM (G0 B da D dc))))) (mx (G0 B da D dc) X p22)) (seqM (seqM (evM (G0 B da D dc) 1 []) (plusM (orM (orM noneM (mx (G0 B da D dc) X p29)) (innerM (G0 B da D dc).E (rfM (G0 B da D dc)))))) (evM (G0 B da D dc) 2 []))) (andM (seqM (lessM (coM (G0 B da D dc)) (innerM (G0 B da D dc).E (coM (G0 B da D dc)))) (lessM (rfM (G0 B da D dc)) (innerM (G0 B da D dc).E (rfM (G0 B da D dc))))) (poM (G0 B da D dc).E))) (mx (G0 B da D dc) X p72)=_
 rw [x_bob,x_psc,x_deps,or_none,or_none,none_or,none_or]
end
theorem ckL (B:Nat) (da:Option Addr) (D:List (Int × Int)) (dc:Nat) (hD:DepsOk (loopG 0 none [] 0).E D):CheckOk (loopG B da D dc):=by
 refine ⟨by simp [loopG],by simp [loopG],by simp [loopG],by simp [loopG],rfl,rfl,fun i hi=>?_,fun t ht=>?_,⟨fun k hk=>(by cases hk),fun i hi=>?_,fun k _ hk=>(by cases hk)⟩,hD,⟨fun k hk=>(by cases hk),fun k _ hk=>(by cases hk)⟩,⟨fun k hk=>(by cases hk),fun k _ hk=>(by cases hk)⟩⟩
 ·have hi6:i < 6:=hi
  have hc:i=0 ∨ i=1 ∨ i=2 ∨ i=3 ∨ i=4 ∨ i=5:=by omega
  rcases hc with rfl | rfl | rfl | rfl | rfl | rfl
  ·exact ⟨by kernel_rfl,fun h=>absurd h (show ¬ (2:Int)=1 by decide),fun _=>rfl⟩
  ·exact ⟨by kernel_rfl,fun h=>absurd h (show ¬ (2:Int)=1 by decide),fun _=>rfl⟩
  ·exact ⟨by kernel_rfl,fun _=>⟨5,rfl,by simp [loopG],rfl,rfl,rfl⟩,fun h=>absurd rfl h⟩
  ·exact ⟨by kernel_rfl,fun h=>absurd h (show ¬ (2:Int)=1 by decide),fun _=>rfl⟩
  ·exact ⟨by kernel_rfl,fun _=>⟨3,rfl,by simp [loopG],rfl,rfl,rfl⟩,fun h=>absurd rfl h⟩
  ·exact ⟨by kernel_rfl,fun h=>absurd h (show ¬ (2:Int)=1 by decide),fun _=>rfl⟩
 ·have ht2:t < 2:=ht
  have hc:t=0 ∨ t=1:=by omega
  rcases hc with rfl | rfl
  ·refine ⟨fun j hj=>?_,fun j hj q hq=>?_,by kernel_rfl,by simp [loopG],rfl⟩
   ·have hj2:j < 2:=hj
    have hc:j=0 ∨ j=1:=by omega
    rcases hc with rfl | rfl
    ·exact ⟨0,rfl,by simp [loopG],rfl,rfl⟩
    ·exact ⟨5,rfl,by simp [loopG],rfl,rfl⟩
   ·have hj2:j < 2:=hj
    have h1:j=1:=by omega
    have h0:q=0:=by omega
    subst h1 h0
    show (0:Int) ≠ 5
    decide
  ·refine ⟨fun j hj=>?_,fun j hj q hq=>?_,by kernel_rfl,by simp [loopG],rfl⟩
   ·have hj2:j < 2:=hj
    have hc:j=0 ∨ j=1:=by omega
    rcases hc with rfl | rfl
    ·exact ⟨1,rfl,by simp [loopG],rfl,rfl⟩
    ·exact ⟨3,rfl,by simp [loopG],rfl,rfl⟩
   ·have hj2:j < 2:=hj
    have h1:j=1:=by omega
    have h0:q=0:=by omega
    subst h1 h0
    show (1:Int) ≠ 3
    decide
 ·have hi6:i < 6:=hi
  have hc:i=0 ∨ i=1 ∨ i=2 ∨ i=3 ∨ i=4 ∨ i=5:=by omega
  rcases hc with rfl | rfl | rfl | rfl | rfl | rfl <;> exact ⟨show (0:Int)≤1 by decide,by kernel_rfl⟩
theorem dep0:DepsOk (loopG 0 none [] 0).E []:=⟨fun k hk=>(by cases hk),fun k _ hk=>(by cases hk)⟩
theorem dep1:DepsOk (loopG 0 none [] 0).E [(2,3),(4,5)]:=by
 refine ⟨fun k hk=>?_,fun k h1 hk=>?_⟩
 ·have hk2:k < 2:=hk
  have hc:k=0 ∨ k=1:=by omega
  rcases hc with rfl | rfl
  ·exact ⟨2,3,rfl,by decide,by simp [loopG],rfl,rfl⟩
  ·exact ⟨4,5,rfl,by decide,by simp [loopG],rfl,rfl⟩
 ·have hk2:k < 2:=hk
  have hc:k=1:=by omega
  subst hc
  show lexB (2,3) (4,5)
  exact .inl (by decide)
variable {g:Gr} {w0:World}
theorem via (f F:Nat) (hF:F < 16777216) (hf:Go.Rn.known Tryz.prog f=true) (hrun:∀ x:Bool,isBv (callX ysE (inL txtC.fsL) (fun _ _=>none) (kcL [(f,1,chV (l_g x))]) 60 F (.cons gR .nil) 100 he 100)=some x) (x:Bool) (hs:∀ w,Below w0.heap.size w0 w→Calls Tryz.prog f #[g.v] w fun e w'=>e=.returned (.bool x)∧Below w.heap.size w w') (w:World) (hb:Below w0.heap.size w0 w) :
  Calls Tryz.prog F #[g.v] w fun e w'=>e=.returned (.bool x)∧Below w.heap.size w w':=by
 have T1:=t_g (g:=g) (xa:=none) (X:=[]) (xc:=0) (w0:=w0) f hf x hs
 refine (bool_told (hf:=hF) (ρ:=rho g none [] 0 w0) ysE_ok (inL_ok txtC.fsL_ok) none_ok (kc:=kcL _) (kcL_ok (List.forall_mem_cons.2 ⟨T1,fun _ h=>by cases h⟩)) globs (w:=w) hb (hrun x) (vs:=[g.v]) (fun m=>denC_cons.2 ⟨_,_,rfl,g_den m,denC_nil.2 rfl⟩)).mono ?_
 rintro e w' ⟨rfl,o⟩
 exact ⟨rfl,o.below⟩
set_option maxRecDepth 100000 in
theorem run_o:∀ x:Bool,isBv (callX ysE (inL txtC.fsL) (fun _ _=>none) (kcL [(114,1,chV (l_g x))]) 60 36 (.cons gR .nil) 100 he 100)=some x:=by
 intro x
 cases x <;> kernel_rfl
set_option maxRecDepth 100000 in
theorem run_c:∀ x:Bool,isBv (callX ysE (inL txtC.fsL) (fun _ _=>none) (kcL [(115,1,chV (l_g x))]) 60 38 (.cons gR .nil) 100 he 100)=some x:=by
 intro x
 cases x <;> kernel_rfl
set_option maxRecDepth 100000 in
theorem run_a:∀ x:Bool,isBv (callX ysE (inL txtC.fsL) (fun _ _=>none) (kcL [(116,1,chV (l_g x))]) 60 39 (.cons gR .nil) 100 he 100)=some x:=by
 intro x
 cases x <;> kernel_rfl
noncomputable def tly:List (Nat × Nat × RV):=[(117,1,chV (l_g true)),(115,1,chV (l_g true)),(116,1,chV (l_g true)),(114,1,chV (l_g true))]
set_option maxRecDepth 100000 in
theorem run_y:isBv (callX ysE (inL txtC.fsL) (fun _ _=>none) (kcL tly) 60 11 (.cons gR .nil) 100 he 100)=some true:=by kernel_rfl
theorem cons_yes (h0:GIn0 w0 g) (hc:CheckOk g) (h1:∀ w,Below w0.heap.size w0 w→Calls Tryz.prog 115 #[g.v] w fun e w'=>e=.returned (.bool true)∧Below w.heap.size w w')
  (h2:∀ w,Below w0.heap.size w0 w→Calls Tryz.prog 116 #[g.v] w fun e w'=>e=.returned (.bool true)∧Below w.heap.size w w')
  (h3:∀ w,Below w0.heap.size w0 w→Calls Tryz.prog 114 #[g.v] w fun e w'=>e=.returned (.bool true)∧Below w.heap.size w w') (w:World) (hb:Below w0.heap.size w0 w) :
  Calls Tryz.prog 11 #[g.v] w fun e w'=>e=.returned (.bool true)∧Below w.heap.size w w':=by
 have T1:=t_g (g:=g) (xa:=none) (X:=[]) (xc:=0) (w0:=w0) 117 (by kernel_rfl) true (fun w hb=>formed_l g w (h0.next hb) true ⟨fun _=>hc,fun _=>rfl⟩)
 have T2:=t_g (g:=g) (xa:=none) (X:=[]) (xc:=0) (w0:=w0) 115 (by kernel_rfl) true h1
 have T3:=t_g (g:=g) (xa:=none) (X:=[]) (xc:=0) (w0:=w0) 116 (by kernel_rfl) true h2
 have T4:=t_g (g:=g) (xa:=none) (X:=[]) (xc:=0) (w0:=w0) 114 (by kernel_rfl) true h3
 refine (bool_told (ρ:=rho g none [] 0 w0) ysE_ok (inL_ok txtC.fsL_ok) none_ok (kc:=kcL tly) (kcL_ok (by
  unfold tly
  exact List.forall_mem_cons.2 ⟨T1,List.forall_mem_cons.2 ⟨T2,List.forall_mem_cons.2 ⟨T3,List.forall_mem_cons.2 ⟨T4,fun _ h=>by cases h⟩⟩⟩⟩)) globs (w:=w) hb run_y (vs:=[g.v]) (fun m=>denC_cons.2 ⟨_,_,rfl,g_den m,denC_nil.2 rfl⟩)).mono ?_
 rintro e w' ⟨rfl,o⟩
 exact ⟨rfl,o.below⟩
theorem atm (B:Nat) (da:Option Addr) (D:List (Int × Int)) (dc:Nat):noneB (loopG B da D dc).n (andM (seqM (outerM (loopG B da D dc).E (frM (loopG B da D dc))) (outerM (loopG B da D dc).E (coM (loopG B da D dc)))) (ofM (loopG B da D dc).n (loopG B da D dc).Rmw))=true:=by
 have h:∀ M:Nat→Nat→Bool,andM M (ofM (loopG B da D dc).n (loopG B da D dc).Rmw)=noneM:=fun M=>by
  funext i j
  show (M i j && false)=false
  simp
 rw [h]
 exact (by kernel_rfl:noneB 6 noneM=true)
section
variable {B:Nat} {da:Option Addr} {dc:Nat} {D:List (Int × Int)}
theorem l_atomic (c:Cx (loopG B da D dc) none [] 0 w0) (w:World) (hb:Below w0.heap.size w0 w):Calls Tryz.prog 116 #[(loopG B da D dc).v] w fun e w'=>e=.returned (.bool true)∧Below w.heap.size w w':=(atom_l c w hb).mono fun _ _ h=>(atm B da D dc) ▸ h
theorem l_coh0 (c:Cx (loopG B da [] dc) none [] 0 w0) (w:World) (hb:Below w0.heap.size w0 w):Calls Tryz.prog 115 #[(loopG B da [] dc).v] w fun e w'=>e=.returned (.bool true)∧Below w.heap.size w w':=
 coh_l c false false false (by rw [x_le]; exact self_of (n:=6) (m_le B da _ dc) false (by kernel_rfl)) (by rw [x_hb]; exact self_of (n:=6) (m_hb B da _ dc) false (by kernel_rfl)) (by rw [x_he]; exact self_of (n:=6) (m_he B da _ dc) false (by kernel_rfl)) w hb
theorem l_ord0 (c:Cx (loopG B da [] dc) none [] 0 w0) (w:World) (hb:Below w0.heap.size w0 w):Calls Tryz.prog 114 #[(loopG B da [] dc).v] w fun e w'=>e=.returned (.bool true)∧Below w.heap.size w w':=
 ord_l c false (by rw [x_ar]; exact self_of (n:=6) (m_ar0 B da dc) false (by kernel_rfl)) w hb
theorem l_coh1 (c:Cx (loopG B da [(2,3),(4,5)] dc) none [] 0 w0) (w:World) (hb:Below w0.heap.size w0 w):Calls Tryz.prog 115 #[(loopG B da [(2,3),(4,5)] dc).v] w fun e w'=>e=.returned (.bool true)∧Below w.heap.size w w':=
 coh_l c false false false (by rw [x_le]; exact self_of (n:=6) (m_le B da _ dc) false (by kernel_rfl)) (by rw [x_hb]; exact self_of (n:=6) (m_hb B da _ dc) false (by kernel_rfl)) (by rw [x_he]; exact self_of (n:=6) (m_he B da _ dc) false (by kernel_rfl)) w hb
theorem l_ord1 (c:Cx (loopG B da [(2,3),(4,5)] dc) none [] 0 w0) (w:World) (hb:Below w0.heap.size w0 w):Calls Tryz.prog 114 #[(loopG B da [(2,3),(4,5)] dc).v] w fun e w'=>e=.returned (.bool false)∧Below w.heap.size w w':=
 ord_l c true (by rw [x_ar]; exact self_of (n:=6) (m_ar1 B da dc) true (by kernel_rfl)) w hb
end
set_option maxRecDepth 100000 in
set_option maxHeartbeats 8000000 in
theorem awake_l (w:World) (ht:Tab w):Calls Tryz.prog 10 #[] w fun e w'=>e=.returned (.bool true)∧Below w.heap.size w w':=by
 have HT:=Lib.hid ht
 have HCX:=Lib.hid (fun (w':World) (da:Option Addr) (B:Nat) (hg:GIn w' (loopG B da [(2,3),(4,5)] 2)) (hb:Below w.heap.size w w')=>(⟨hg,ht.next hb,ckL _ _ _ _ dep1,pin_none _,by simp⟩:Cx (loopG B da [(2,3),(4,5)] 2) none [] 0 w'))
 have HCY:=Lib.hid (fun (w':World) (B:Nat) (hg:GIn w' (loopG B none [] 0)) (hb:Below w.heap.size w w')=>(⟨hg,ht.next hb,ckL _ _ _ _ dep0,pin_none _,by simp⟩:Cx (loopG B none [] 0) none [] 0 w'))
 clear ht
 go_enter Tryz.func10,Tryz.ntmps10
 go_wp2_with fail
 refine (loop_t w).mono ?_
 rintro e u0 ⟨da0,rfl,hg,hb⟩
 have HU0:=Lib.hid (below_next (Below.refl _ _) hb)
 have CX0:=HCX.out _ _ _ hg HU0.out
 clear hg hb
 have HF0:=Lib.hid (via 114 36 (by decide) (by kernel_rfl) run_o false (fun w hb=>l_ord1 CX0 w hb) u0 (Below.refl _ _))
 clear CX0
 go_wp2_with fail
 refine HF0.out.mono ?_
 rintro e w1 ⟨rfl,hb⟩
 have HB1:=Lib.hid (below_next HU0.out hb)
 clear hb HF0
 go_wp2_with fail
 refine (loop_f w1).mono ?_
 rintro e u1 ⟨rfl,hg,hb⟩
 have HU1:=Lib.hid (below_next HB1.out hb)
 have CX1:=HCY.out _ _ hg HU1.out
 clear hg hb
 have HF1:=Lib.hid (via 114 36 (by decide) (by kernel_rfl) run_o true (fun w hb=>l_ord0 CX1 w hb) u1 (Below.refl _ _))
 clear CX1
 go_wp2_with fail
 refine HF1.out.mono ?_
 rintro e w2 ⟨rfl,hb⟩
 have HB2:=Lib.hid (below_next HU1.out hb)
 clear hb HF1
 go_wp2_with fail
 refine (loop_f w2).mono ?_
 rintro e u2 ⟨rfl,hg,hb⟩
 have HU2:=Lib.hid (below_next HB2.out hb)
 have CX2:=HCY.out _ _ hg HU2.out
 clear hg hb
 have HF2:=Lib.hid (cons_yes (in0 CX2) CX2.ck (fun w hb=>l_coh0 CX2 w hb) (fun w hb=>l_atomic CX2 w hb) (fun w hb=>l_ord0 CX2 w hb) u2 (Below.refl _ _))
 clear CX2
 go_wp2_with fail
 refine HF2.out.mono ?_
 rintro e w3 ⟨rfl,hb⟩
 have HB3:=Lib.hid (below_next HU2.out hb)
 clear hb HF2
 go_wp2_with fail
 refine (loop_t w3).mono ?_
 rintro e u3 ⟨da3,rfl,hg,hb⟩
 have HU3:=Lib.hid (below_next HB3.out hb)
 have CX3:=HCX.out _ _ _ hg HU3.out
 clear hg hb
 have HF3:=Lib.hid (via 115 38 (by decide) (by kernel_rfl) run_c true (fun w hb=>l_coh1 CX3 w hb) u3 (Below.refl _ _))
 clear CX3
 go_wp2_with fail
 refine HF3.out.mono ?_
 rintro e w4 ⟨rfl,hb⟩
 have HB4:=Lib.hid (below_next HU3.out hb)
 clear hb HF3
 go_wp2_with fail
 refine (loop_t w4).mono ?_
 rintro e u4 ⟨da4,rfl,hg,hb⟩
 have HU4:=Lib.hid (below_next HB4.out hb)
 have CX4:=HCX.out _ _ _ hg HU4.out
 clear hg hb
 have HF4:=Lib.hid (via 116 39 (by decide) (by kernel_rfl) run_a true (fun w hb=>l_atomic CX4 w hb) u4 (Below.refl _ _))
 clear CX4
 go_wp2_with fail
 refine HF4.out.mono ?_
 rintro e w5 ⟨rfl,hb⟩
 have HB5:=Lib.hid (below_next HU4.out hb)
 clear hb HF4
 go_wp2_with fail
 refine (cons_no (g:=⟨0,none,[],0,none,[],0,none,[],0,none,[],0,none,[],0,none,[],0,none,[],0⟩) (w0:=w5) ⟨.inl rfl,.inl rfl,.inl rfl,.inl ⟨rfl,rfl,rfl⟩,.inl ⟨rfl,rfl,rfl⟩,.inl ⟨rfl,rfl,rfl⟩,.inl ⟨rfl,rfl,rfl⟩,by simp,by simp,by simp,fun q hq=>(by simp at hq),by simp,by simp,by simp,by simp⟩ (fun h=>by have:=h.l1; simp at this) w5 (Below.refl _ _)).mono ?_
 rintro e w6 ⟨rfl,hb⟩
 have HB6:=Lib.hid (below_next HB5.out hb)
 clear hb
 go_wp2_with fail
 go_ret
 exact ⟨rfl,HB6.out⟩
end L12
end Told
end Go.Proofs.YthcnhbclagegeaaGreatDoor
