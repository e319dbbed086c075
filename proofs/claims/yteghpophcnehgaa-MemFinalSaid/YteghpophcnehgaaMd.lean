/-
  What the functions that the law reaches do, one by one: contracts. Conditions: those that each of them prints.
-/
import Derived.Test.YteghpophcnehgaaMc
import Derived.Maps.AppendAt
namespace Go.Proofs.Yteghpophcnehgaa
open Go.RowKit ExprA SndA
namespace SndA
theorem own_far {w:World} {base e size n:Nat} {v:Value} {xs:List Value} (h:w.ownsRow base e size v n xs) {b:Nat} (hb:b < base):some b ≠ v.ownBlock:=by
 rcases h.2 with ⟨rfl,_⟩ | ⟨g,cap,cur,rfl,h1,_⟩
 ·intro h; cases h
 ·intro h
  have h:some b=some g:=h
  injection h with h
  omega
theorem own_type {w:World} {base e size n:Nat} {v:Value} {xs:List Value} (h:w.ownsRow base e size v n xs) {b:Nat} {cs:Array Value} {t:TypeId} (hb:w.heap[b]?=some (.cells cs t (0,0))) (ht:t ≠ e):some b ≠ v.ownBlock:=by
 rcases h.2 with ⟨rfl,_⟩ | ⟨g,cap,cur,rfl,h1,h2,_⟩
 ·intro h; cases h
 ·intro h
  have h:some b=some g:=h
  injection h with h
  subst h
  rw [hb] at h2
  injection h2 with h2
  injection h2 with _ h3 _
  exact ht h3
theorem own_block {w w':World} {base e size n:Nat} {v:Value} {xs:List Value} (h:w.ownsRow base e size v n xs) (hb:∀ b,base≤b→w'.heap[b]?=w.heap[b]?):w'.ownsRow base e size v n xs:=by
 refine ⟨h.1,?_⟩
 rcases h.2 with a | ⟨g,cap,cur,a1,a2,a3,a4⟩
 ·exact .inl a
 ·exact .inr ⟨g,cap,cur,a1,a2,(hb g a2).trans a3,a4⟩
theorem ts_step {w wr wi wx wy wz wf:World} {p tb bx T t mid n sk sk':Nat} {vs:Nat→Value} {v v':Value} {i:Ins} {L:List Ins}
  (hlt:p < tb∧tb < bx∧bx < mid) (hwp:w.heap.size≤p)
  (hP:PS w wi p tb bx T (fun s=>if s=t then v else vs s)) (hT:TS wi mid n v L sk) (hK:Keep (bx + 1) mid wr wi)
  (hx:Below wi.heap.size wi wx) (hi:TokAt wx wi.heap.size wx.heap.size i) (hgi:GI (n - 1 - L.length) i) (hsk:cnt6 (L ++ [i])≤min sk' 2)
  (hy:Below wx.heap.size wx wy)
  (ho:wz.ownsRow mid 47 7 v' (L.length + 1) (lcells L ++ inscells i)) (hg:wy.grownBy wz v.ownBlock) (hf:wf=wz.setCell ⟨tb,t,none⟩ v') (ht:t < T) :
  PS w wf p tb bx T (fun s=>if s=t then v' else vs s)∧TS wf mid n v' (L ++ [i]) sk'∧Keep (bx + 1) mid wr wf:=by
 obtain ⟨h1,h2,h3⟩:=hlt
 have hms:=hT.size
 have hxs:=hx.size
 have hys:=hy.size
 have hzs:=hg.size
 have hfs:wf.heap.size=wz.heap.size:=by rw [hf]; simp
 have hset:∀ b,b ≠ tb→wf.heap[b]?=wz.heap[b]?:=fun b hb=>by rw [hf]; exact Below.heap_setCell wz ⟨tb,t,none⟩ v' b hb
 have hall:∀ b,b < wx.heap.size→some b ≠ v.ownBlock→b ≠ tb→wf.heap[b]?=wx.heap[b]?:=fun b hb hv ht=>by
  rw [hset b ht,hg.block b (by omega) hv,hy.block b hb]
 have hold:∀ b,b < wi.heap.size→some b ≠ v.ownBlock→b ≠ tb→wf.heap[b]?=wi.heap[b]?:=fun b hb hv ht=>by
  rw [hall b (by omega) hv ht,hx.block b hb]
 have hown:wx.ownsRow mid 47 7 v L.length (lcells L):=own_below hT.own hx
 have hfar:∀ b,b < mid→some b ≠ v.ownBlock:=fun b hb=>own_far hT.own hb
 have hlen:(L ++ [i]).length=L.length + 1:=by simp
 refine ⟨⟨?_,?_,?_,?_⟩,⟨by omega,?_,?_,?_,hsk⟩,?_⟩
 ·have hb1:=hP.bel
  have hbz:Below w.heap.size w wz:=by
   have hbx:Below w.heap.size w wx:=below_next hb1 hx
   have hby:Below w.heap.size w wy:=below_next hbx hy
   exact hby.grown hg (by have:=hby.size; omega) (fun j hj=>Nat.le_trans (show w.heap.size≤mid by omega) (hT.own.lt j hj).1)
  rw [hf]
  exact hbz.setCell (show w.heap.size≤tb by omega) v'
 ·rw [hold p (by omega) (hfar p (by omega)) (by omega)]; exact hP.res
 ·rw [hold bx (by omega) (hfar bx (by omega)) (by omega)]; exact hP.box
 ·obtain ⟨cs,c1,c2,c3⟩:=hP.thr
  have htb:wz.heap[tb]?=some (.cells cs 44 (0,0)):=by
   rw [hg.block tb (by omega) (hfar tb (by omega)),hy.block tb (by omega),hx.block tb (by omega)]; exact c1
  refine ⟨cs.set! t v',?_,by simp [c2],?_⟩
  ·rw [hf]
   have:=heap_setCell_same wz tb t cs 44 v' htb
   simpa using this
  ·intro s hs
   by_cases he:s=t
   ·subst he
    simp [c2,ht]
   ·have:=c3 s hs
    simp only [he,if_false] at this ⊢
    simpa [Array.getElem?_set,Ne.symm he] using this
 ·rw [hlen,lcells_snoc]
  exact own_block ho fun b hb=>hset b (by omega)
 ·intro q hq
  rw [hlen] at hq
  by_cases hq2:q < L.length
  ·rw [getD_snoc_lt _ _ _ hq2]
   rcases hT.tok q hq2 with a | ⟨g,a1,a2,a3,a4,a5⟩
   ·exact .inl a
   ·exact .inr ⟨g,a1,a2,a3,by omega,by rw [hold g a4 (own_type hT.own a5 (by decide)) (by omega)]; exact a5⟩
  ·obtain rfl:q=L.length:=by omega
   rw [getD_snoc_eq]
   rcases hi with a | ⟨g,a1,a2,a3,a4,a5⟩
   ·exact .inl a
   ·exact .inr ⟨g,a1,a2,by omega,by omega,by rw [hall g a4 (own_type hown a5 (by decide)) (by omega)]; exact a5⟩
 ·intro q hq
  rw [hlen] at hq
  by_cases hq2:q < L.length
  ·rw [getD_snoc_lt _ _ _ hq2]; exact hT.good q hq2
  ·obtain rfl:q=L.length:=by omega
   rw [getD_snoc_eq]; exact hgi
 ·intro b hb hbm
  rw [hold b (by omega) (hfar b hbm) (by omega)]
  exact hK b hb hbm
theorem ts_start {wr:World} {n:Nat}:TS wr wr.heap.size n (.slice none 0 0) [] 0:=
 ⟨Nat.le_refl _,⟨rfl,.inl ⟨rfl,rfl⟩⟩,fun q hq=>absurd hq (Nat.not_lt_zero _),fun q hq=>absurd hq (Nat.not_lt_zero _),by decide⟩
theorem ts_end {wi:World} {mid n sk:Nat} {v:Value} {L:List Ins} (h:TS wi mid n v L sk):∃ th:Th,th.L=L∧v=th.v∧ThF wi mid wi.heap.size th:=by
 rcases h.own.2 with ⟨hv,h0⟩ | ⟨g,cap,cur,hv,h1,h2,h3,h4,h5,h6⟩
 ·have hL:L=[]:=List.length_eq_zero_iff.1 h0
  subst hL
  exact ⟨⟨none,[],0⟩,rfl,hv,⟨.inl ⟨rfl,rfl,rfl⟩,fun q hq=>absurd hq (Nat.not_lt_zero _)⟩⟩
 ·exact ⟨⟨some ⟨g,0,none⟩,L,cap⟩,rfl,hv,⟨.inr ⟨g,cur,rfl,h1,lt_of_heap h2,h2,h6,h3,h4⟩,h.tok⟩⟩
structure XAt (wi wx:World) (gx:Nat) (i:Ins):Prop where
 bel:Below wi.heap.size wi wx
 ge:wi.heap.size≤gx
 at_:wx.heap[gx]?=some (.cells (inscells i).toArray 47 (0,0))
 tok:TokAt wx wi.heap.size wx.heap.size i
theorem xat_a {wi w2:World} {k m m2 r l n:Int} {a:Option Addr} {E:List (Int × Int)} {c:Nat} (hb:Below wi.drew.heap.size wi.drew w2) (hn:InsNew wi.drew w2 ⟨k,m,m2,r,l,n,a,E,c⟩) :
  XAt wi (w2.alloc (.cells #[.int .i64 k,.int .i64 m,.int .i64 m2,.int .i64 r,.int .i64 l,.slice a E.length c,.int .i64 n] 47 (0,0))) w2.heap.size ⟨k,m,m2,r,l,n,a,E,c⟩:=by
 have h1:Below wi.heap.size wi w2:=below_next (Below.refl _ _).drew hb
 refine ⟨h1.alloc h1.size _,h1.size,heap_alloc_new _ _,?_⟩
 have ht:TokAt w2 wi.heap.size w2.heap.size ⟨k,m,m2,r,l,n,a,E,c⟩:=tok_of_new hn
 exact (ht.keep (fun b _ hb=>alloc_old _ _ b hb)).mono (Nat.le_refl _) (by simp)
theorem xat_b {wi w2:World} {o:Obj} {k m m2 r l n:Int} {a:Option Addr} {E:List (Int × Int)} {c:Nat} {u0 u1 u2 u3 u4 u5 u6:Value} (ho:o=.cells #[u0,u1,u2,u3,u4,u5,u6] 47 (0,0)) (hb:Below (wi.drew.alloc o).heap.size (wi.drew.alloc o) w2) (hn:InsNew (wi.drew.alloc o) w2 ⟨k,m,m2,r,l,n,a,E,c⟩) :
  XAt wi (((((((w2.setCell ⟨wi.heap.size,0,none⟩ (.int .i64 k)).setCell ⟨wi.heap.size,1,none⟩ (.int .i64 m)).setCell ⟨wi.heap.size,2,none⟩ (.int .i64 m2)).setCell ⟨wi.heap.size,3,none⟩ (.int .i64 r)).setCell ⟨wi.heap.size,4,none⟩ (.int .i64 l)).setCell ⟨wi.heap.size,5,none⟩ (.slice a E.length c)).setCell ⟨wi.heap.size,6,none⟩ (.int .i64 n)) wi.heap.size ⟨k,m,m2,r,l,n,a,E,c⟩:=by
 have h0:Below wi.heap.size wi (wi.drew.alloc o):=(Below.refl _ _).drew.alloc (Nat.le_refl _) _
 have h1:Below wi.heap.size wi w2:=below_next h0 hb
 have hx:w2.heap[wi.heap.size]?=some (.cells #[u0,u1,u2,u3,u4,u5,u6] 47 (0,0)):=by
  rw [hb.block wi.heap.size (by simp),← ho]; exact heap_alloc_new _ _
 refine ⟨below_set7 h1 _ _ _ _ _ _ _ _ (Nat.le_refl _),Nat.le_refl _,set7_at w2 _ _ _ _ _ _ _ _ _ _ _ _ _ _ _ _ hx,?_⟩
 rcases hn with h | ⟨g,g1,g2,g3,g4⟩
 ·exact .inl h
 ·have hne:g ≠ wi.heap.size:=by simp at g3; omega
  refine .inr ⟨g,g1,g2,by simp at g3; omega,?_,by rw [set7_far _ _ _ _ _ _ _ _ _ _ hne]; exact g4⟩
  exact lt_of_heap (by rw [set7_far _ _ _ _ _ _ _ _ _ _ hne]; exact g4)
def fenceN:Ins:=⟨3,4,0,0,0,0,none,[],0⟩
theorem xat_set {wi wx:World} {gx:Nat} {i:Ins} (h:XAt wi wx gx i) :
  XAt wi (((((((wx.setCell ⟨gx,0,none⟩ (.int .i64 3)).setCell ⟨gx,1,none⟩ (.int .i64 4)).setCell ⟨gx,2,none⟩ (.int .i64 0)).setCell ⟨gx,3,none⟩ (.int .i64 0)).setCell ⟨gx,4,none⟩ (.int .i64 0)).setCell ⟨gx,5,none⟩ (.slice none 0 0)).setCell ⟨gx,6,none⟩ (.int .i64 0)) gx fenceN:=
 ⟨below_set7 h.bel _ _ _ _ _ _ _ _ h.ge,h.ge,set7_at wx _ _ _ _ _ _ _ _ _ _ _ _ _ _ _ _ h.at_,.inl ⟨rfl,rfl,rfl⟩⟩
theorem gi_fence (left:Nat):GI left fenceN:=.inr (.inr (.inl ⟨rfl,⟨by decide,by decide⟩,rfl,rfl,rfl,rfl,rfl⟩))
end SndA
end Go.Proofs.Yteghpophcnehgaa
