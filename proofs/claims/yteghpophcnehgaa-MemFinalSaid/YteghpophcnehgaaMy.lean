/-
  What the functions that the law reaches do, one by one: contracts. Conditions: those that each of them prints.
-/
import Derived.Test.YteghpophcnehgaaMx
import Derived.WalkKit
import Derived.Maps.AppendAt
namespace Go.Proofs.Yteghpophcnehgaa
open Go.RowKit ExprA SndA
namespace SndA
structure GS (w0 W:World) (b:Nat) (locs:Int) (ve:Value) (E:List Ev) (gv:Nat→Value) (pi:Nat→List (Int × Int)):Prop where
 box:W.heap[b]?=some (.cells #[.int .i64 locs,ve,.slice none 0 0,.slice none 0 0,gv 4,gv 5,gv 6,gv 7] 38 (0,0))
 oe:W.ownsRow w0.heap.size 49 6 ve E.length (ecs E)
 op:∀ k,4≤k→k≤7→W.ownsRow w0.heap.size 123 2 (gv k) (pi k).length (icells (pi k))
 ap:∀ j k,4≤j→j≤7→4≤k→k≤7→j ≠ k→∀ g,(gv j).ownBlock=some g→(gv k).ownBlock ≠ some g
 lb:w0.heap.size≤b
 bel:Below w0.heap.size w0 W
section
variable {w0 W W':World} {b:Nat} {locs:Int} {ve:Value} {E:List Ev} {gv:Nat→Value} {pi:Nat→List (Int × Int)}
theorem GS.lt (h:GS w0 W b locs ve E gv pi):b < W.heap.size:=blk_lt h.box
theorem GS.next (h:GS w0 W b locs ve E gv pi) (hb:Below W.heap.size W W'):GS w0 W' b locs ve E gv pi:=
 ⟨(hb.block b h.lt).trans h.box,own_below h.oe hb,fun k x y=>own_below (h.op k x y) hb,h.ap,h.lb,below_next h.bel hb⟩
theorem GS.ne_b (h:GS w0 W b locs ve E gv pi):ve.ownBlock ≠ some b∧(∀ k,4≤k→k≤7→(gv k).ownBlock ≠ some b)∧∀ k,4≤k→k≤7→∀ g,ve.ownBlock=some g→(gv k).ownBlock ≠ some g:=by
 have hk1:=fun g q=>Lib.ownsRow_kind h.oe g q
 refine ⟨fun q=>?_,fun k x y q=>?_,fun k x y g q r=>?_⟩
 ·obtain ⟨c,f,a⟩:=hk1 b q; rw [h.box] at a; simp at a
 ·obtain ⟨c,f,a⟩:=Lib.ownsRow_kind (h.op k x y) b q; rw [h.box] at a; simp at a
 ·obtain ⟨c,f,a⟩:=hk1 g q
  obtain ⟨c2,f2,a2⟩:=Lib.ownsRow_kind (h.op k x y) g r
  rw [a2] at a; simp at a
theorem GS.growE {v':Value} {E':List Ev} (h:GS w0 W b locs ve E gv pi) (hg:W.grownBy W' ve.ownBlock) (ho:W'.ownsRow w0.heap.size 49 6 v' E'.length (ecs E')) (hv:v'.ownBlock=ve.ownBlock ∨ v'.ownBlock=some W.heap.size):GS w0 (W'.setCell ⟨b,1,none⟩ v') b locs v' E' gv pi:=by
 obtain ⟨n1,n2,n3⟩:=h.ne_b
 have hb:=h.lt
 have b1:∀ g,g ≠ b→(W'.setCell ⟨b,1,none⟩ v').heap[g]?=W'.heap[g]?:=fun g hg=>Below.heap_setCell W' ⟨b,1,none⟩ v' g hg
 have hbox:=(hg.block b hb (fun q=>n1 q.symm)).trans h.box
 have vs:v'.ownBlock ≠ some b:=by
  rcases hv with q | q
  ·rw [q]; exact n1
  ·rw [q]; intro r; simp only [Option.some.injEq] at r; omega
 have keep:∀ g,g < W.heap.size→g ≠ b→ve.ownBlock ≠ some g→(W'.setCell ⟨b,1,none⟩ v').heap[g]?=W.heap[g]?:=fun g c1 c2 c3=>(b1 g c2).trans (hg.block g c1 (fun q=>c3 q.symm))
 refine ⟨heap_setCell_same W' b 1 _ _ v' hbox,own_keep ho fun g q=>b1 g (fun r=>vs (by rw [q,r])),fun k x y=>own_keep (h.op k x y) fun g q=>keep g ((h.op k x y).lt g q).2 (fun r=>n2 k x y (by rw [q,r])) (fun r=>n3 k x y g r q),h.ap,h.lb,(h.bel.grown hg h.bel.size (fun j hj=>(h.oe.lt j hj).1)).setCell h.lb v'⟩
theorem GS.growP {k:Nat} {v':Value} {L':List (Int × Int)} (h:GS w0 W b locs ve E gv pi) (h4:4≤k) (h7:k≤7) (hg:W.grownBy W' (gv k).ownBlock) (ho:W'.ownsRow w0.heap.size 123 2 v' L'.length (icells L')) (hv:v'.ownBlock=(gv k).ownBlock ∨ v'.ownBlock=some W.heap.size):GS w0 (W'.setCell ⟨b,k,none⟩ v') b locs ve E (updF gv k v') (updF pi k L'):=by
 obtain ⟨n1,n2,n3⟩:=h.ne_b
 have hb:=h.lt
 have b1:∀ g,g ≠ b→(W'.setCell ⟨b,k,none⟩ v').heap[g]?=W'.heap[g]?:=fun g hg=>Below.heap_setCell W' ⟨b,k,none⟩ v' g hg
 have hbox:=(hg.block b hb (fun q=>n2 k h4 h7 q.symm)).trans h.box
 have vs:v'.ownBlock ≠ some b:=by
  rcases hv with q | q
  ·rw [q]; exact n2 k h4 h7
  ·rw [q]; intro r; simp only [Option.some.injEq] at r; omega
 have keep:∀ g,g < W.heap.size→g ≠ b→(gv k).ownBlock ≠ some g→(W'.setCell ⟨b,k,none⟩ v').heap[g]?=W.heap[g]?:=fun g c1 c2 c3=>(b1 g c2).trans (hg.block g c1 (fun q=>c3 q.symm))
 have vn:∀ j,4≤j→j≤7→j ≠ k→∀ g,(gv j).ownBlock=some g→v'.ownBlock ≠ some g:=fun j x y z g q=>by
  rcases hv with r | r
  ·rw [r]; exact h.ap j k x y h4 h7 z g q
  ·rw [r]; intro s; have:=((h.op j x y).lt g q).2; simp only [Option.some.injEq] at s; omega
 refine ⟨?_,own_keep h.oe fun g q=>keep g (h.oe.lt g q).2 (fun r=>n1 (by rw [q,r])) (n3 k h4 h7 g q),fun j x y=>?_,fun i j x1 x2 y1 y2 z g q=>?_,h.lb,(h.bel.grown hg h.bel.size (fun j hj=>((h.op k h4 h7).lt j hj).1)).setCell h.lb v'⟩
 ·have hs:=heap_setCell_same W' b k _ _ v' hbox
  have c:k=4 ∨ k=5 ∨ k=6 ∨ k=7:=by omega
  rcases c with c | c | c | c <;> subst c <;> exact hs
 ·by_cases z:j=k
  ·subst z
   rw [updF_at,updF_at]
   exact own_keep ho fun g q=>b1 g (fun r=>vs (by rw [q,r]))
  ·rw [updF_ne _ _ z,updF_ne _ _ z]
   exact own_keep (h.op j x y) fun g q=>keep g ((h.op j x y).lt g q).2 (fun r=>n2 j x y (by rw [q,r])) (h.ap j k x y h4 h7 z g q)
 ·by_cases zi:i=k
  ·subst zi
   rw [updF_at] at q
   rw [updF_ne _ _ (fun r=>z r.symm)]
   intro r
   exact vn j y1 y2 (fun r=>z r.symm) g r q
  ·rw [updF_ne _ _ zi] at q
   by_cases zj:j=k
   ·subst zj
    rw [updF_at]
    exact vn i x1 x2 zi g q
   ·rw [updF_ne _ _ zj]
    exact h.ap i j x1 x2 y1 y2 z g q
end
end SndA
end Go.Proofs.Yteghpophcnehgaa
namespace Go.Proofs.Yteghpophcnehgaa
open Go.RowKit ExprA SndA
namespace SndA
def FE:Nat→List Ev
 | 0=>[]
 | n + 1=>FE n ++ [⟨0,2,0,(n:Int),0,false⟩]
theorem FE_len:∀ n,(FE n).length=n
 | 0=>rfl
 | n + 1=>by rw [FE,List.length_append,FE_len n]; rfl
theorem GS.new (w0 W:World) (b:Nat) (locs:Int) (hb:w0.heap.size≤b) (hx:W.heap[b]?=some (.cells #[.int .i64 locs,.slice none 0 0,.slice none 0 0,.slice none 0 0,.slice none 0 0,.slice none 0 0,.slice none 0 0,.slice none 0 0] 38 (0,0))) (hB:Below w0.heap.size w0 W):GS w0 W b locs (.slice none 0 0) [] (fun _=>.slice none 0 0) (fun _=>[]):=
 ⟨hx,World.ownsRow_nil _ _ _ _,fun _ _ _=>World.ownsRow_nil _ _ _ _,fun _ _ _ _ _ _ _ _ h=>(by cases h),hb,hB⟩
theorem size_alloc1 (w:World) (o:Obj):(w.alloc o).heap.size=w.heap.size + 1:=Array.size_push _
theorem GS.grown {w0 W W':World} {b:Nat} {locs:Int} {v' ve:Value} {E:List Ev} {gv:Nat→Value} {pi:Nat→List (Int × Int)} {e:Ev} {o:Obj} (h:GS w0 W b locs ve E gv pi) (hn:W'.ownsRow w0.heap.size 49 6 v' (E.length + 1) (ecs E ++ e.cs)) (hg:(W.alloc o).grownBy W' ve.ownBlock) (hv:v'.ownBlock=ve.ownBlock ∨ v'.ownBlock=some (W.alloc o).heap.size) :
  GS w0 (W'.setCell ⟨b,1,none⟩ v') b locs v' (E ++ [e]) gv pi∧W'.cell? ⟨b,1,none⟩=some ve∧W'.frozen? ⟨b,1,none⟩=false:=by
 have h1:=h.next ((Below.refl W.heap.size W).alloc (Nat.le_refl _) o)
 have e1:(E ++ [e]).length=E.length + 1:=by simp
 have e2:ecs (E ++ [e])=ecs E ++ e.cs:=by simp [ecs]
 have hbx:=(hg.block b h1.lt (fun q=>h1.ne_b.1 q.symm)).trans h1.box
 refine ⟨h1.growE hg (by rw [e1,e2]; exact hn) hv,?_,?_⟩
 ·simp only [World.cell?,hbx]; rfl
 ·simp only [World.frozen?,hbx]; rfl
theorem set8_at (w:World) (l:Nat) (t:TypeId) (u0 u1 u2 u3 u4 u5 u6 u7 v0 v1 v2 v3 v4 v5 v6 v7:Value) (h:w.heap[l]?=some (.cells #[u0,u1,u2,u3,u4,u5,u6,u7] t (0,0))):((((((((w.setCell ⟨l,0,none⟩ v0).setCell ⟨l,1,none⟩ v1).setCell ⟨l,2,none⟩ v2).setCell ⟨l,3,none⟩ v3).setCell ⟨l,4,none⟩ v4).setCell ⟨l,5,none⟩ v5).setCell ⟨l,6,none⟩ v6).setCell ⟨l,7,none⟩ v7).heap[l]?=some (.cells #[v0,v1,v2,v3,v4,v5,v6,v7] t (0,0)):=by
 have h0:(w.setCell ⟨l,0,none⟩ v0).heap[l]?=some (.cells #[v0,u1,u2,u3,u4,u5,u6,u7] t (0,0)):=heap_setCell_same _ l 0 _ _ v0 h
 have h1:((w.setCell ⟨l,0,none⟩ v0).setCell ⟨l,1,none⟩ v1).heap[l]?=some (.cells #[v0,v1,u2,u3,u4,u5,u6,u7] t (0,0)):=heap_setCell_same _ l 1 _ _ v1 h0
 have h2:(((w.setCell ⟨l,0,none⟩ v0).setCell ⟨l,1,none⟩ v1).setCell ⟨l,2,none⟩ v2).heap[l]?=some (.cells #[v0,v1,v2,u3,u4,u5,u6,u7] t (0,0)):=heap_setCell_same _ l 2 _ _ v2 h1
 have h3:((((w.setCell ⟨l,0,none⟩ v0).setCell ⟨l,1,none⟩ v1).setCell ⟨l,2,none⟩ v2).setCell ⟨l,3,none⟩ v3).heap[l]?=some (.cells #[v0,v1,v2,v3,u4,u5,u6,u7] t (0,0)):=heap_setCell_same _ l 3 _ _ v3 h2
 have h4:(((((w.setCell ⟨l,0,none⟩ v0).setCell ⟨l,1,none⟩ v1).setCell ⟨l,2,none⟩ v2).setCell ⟨l,3,none⟩ v3).setCell ⟨l,4,none⟩ v4).heap[l]?=some (.cells #[v0,v1,v2,v3,v4,u5,u6,u7] t (0,0)):=heap_setCell_same _ l 4 _ _ v4 h3
 have h5:((((((w.setCell ⟨l,0,none⟩ v0).setCell ⟨l,1,none⟩ v1).setCell ⟨l,2,none⟩ v2).setCell ⟨l,3,none⟩ v3).setCell ⟨l,4,none⟩ v4).setCell ⟨l,5,none⟩ v5).heap[l]?=some (.cells #[v0,v1,v2,v3,v4,v5,u6,u7] t (0,0)):=heap_setCell_same _ l 5 _ _ v5 h4
 have h6:(((((((w.setCell ⟨l,0,none⟩ v0).setCell ⟨l,1,none⟩ v1).setCell ⟨l,2,none⟩ v2).setCell ⟨l,3,none⟩ v3).setCell ⟨l,4,none⟩ v4).setCell ⟨l,5,none⟩ v5).setCell ⟨l,6,none⟩ v6).heap[l]?=some (.cells #[v0,v1,v2,v3,v4,v5,v6,u7] t (0,0)):=heap_setCell_same _ l 6 _ _ v6 h5
 have h7:((((((((w.setCell ⟨l,0,none⟩ v0).setCell ⟨l,1,none⟩ v1).setCell ⟨l,2,none⟩ v2).setCell ⟨l,3,none⟩ v3).setCell ⟨l,4,none⟩ v4).setCell ⟨l,5,none⟩ v5).setCell ⟨l,6,none⟩ v6).setCell ⟨l,7,none⟩ v7).heap[l]?=some (.cells #[v0,v1,v2,v3,v4,v5,v6,v7] t (0,0)):=heap_setCell_same _ l 7 _ _ v7 h6
 exact h7
theorem set8_far (w:World) (l k:Nat) (v0 v1 v2 v3 v4 v5 v6 v7:Value) (h:k ≠ l):((((((((w.setCell ⟨l,0,none⟩ v0).setCell ⟨l,1,none⟩ v1).setCell ⟨l,2,none⟩ v2).setCell ⟨l,3,none⟩ v3).setCell ⟨l,4,none⟩ v4).setCell ⟨l,5,none⟩ v5).setCell ⟨l,6,none⟩ v6).setCell ⟨l,7,none⟩ v7).heap[k]?=w.heap[k]?:=by
 exact (Below.heap_setCell (((((((w.setCell ⟨l,0,none⟩ v0).setCell ⟨l,1,none⟩ v1).setCell ⟨l,2,none⟩ v2).setCell ⟨l,3,none⟩ v3).setCell ⟨l,4,none⟩ v4).setCell ⟨l,5,none⟩ v5).setCell ⟨l,6,none⟩ v6) ⟨l,7,none⟩ v7 k h).trans ((Below.heap_setCell ((((((w.setCell ⟨l,0,none⟩ v0).setCell ⟨l,1,none⟩ v1).setCell ⟨l,2,none⟩ v2).setCell ⟨l,3,none⟩ v3).setCell ⟨l,4,none⟩ v4).setCell ⟨l,5,none⟩ v5) ⟨l,6,none⟩ v6 k h).trans ((Below.heap_setCell (((((w.setCell ⟨l,0,none⟩ v0).setCell ⟨l,1,none⟩ v1).setCell ⟨l,2,none⟩ v2).setCell ⟨l,3,none⟩ v3).setCell ⟨l,4,none⟩ v4) ⟨l,5,none⟩ v5 k h).trans ((Below.heap_setCell ((((w.setCell ⟨l,0,none⟩ v0).setCell ⟨l,1,none⟩ v1).setCell ⟨l,2,none⟩ v2).setCell ⟨l,3,none⟩ v3) ⟨l,4,none⟩ v4 k h).trans ((Below.heap_setCell (((w.setCell ⟨l,0,none⟩ v0).setCell ⟨l,1,none⟩ v1).setCell ⟨l,2,none⟩ v2) ⟨l,3,none⟩ v3 k h).trans ((Below.heap_setCell ((w.setCell ⟨l,0,none⟩ v0).setCell ⟨l,1,none⟩ v1) ⟨l,2,none⟩ v2 k h).trans ((Below.heap_setCell (w.setCell ⟨l,0,none⟩ v0) ⟨l,1,none⟩ v1 k h).trans (Below.heap_setCell w ⟨l,0,none⟩ v0 k h)))))))
theorem below_set8 {base:Nat} {w0 w:World} (h:Below base w0 w) (l:Nat) (v0 v1 v2 v3 v4 v5 v6 v7:Value) (hl:base≤l):Below base w0 ((((((((w.setCell ⟨l,0,none⟩ v0).setCell ⟨l,1,none⟩ v1).setCell ⟨l,2,none⟩ v2).setCell ⟨l,3,none⟩ v3).setCell ⟨l,4,none⟩ v4).setCell ⟨l,5,none⟩ v5).setCell ⟨l,6,none⟩ v6).setCell ⟨l,7,none⟩ v7):=((((((((h.setCell hl v0).setCell hl v1).setCell hl v2).setCell hl v3).setCell hl v4).setCell hl v5).setCell hl v6).setCell hl v7)
end SndA
theorem infoEv:(Try.prog.info? 49).map (fun i=>(i.zero,i.size,i.bytes))=some (some (.agg #[.int .i64 0,.int .i64 0,.int .i64 0,.int .i64 0,.int .i64 0,.bool false]),6,48):=by kernel_rfl
set_option maxRecDepth 100000 in
set_option maxHeartbeats 16000000 in
theorem first_any (n:Nat) (w:World) (hn:n≤4) :
  Calls Try.prog 36 #[.int .i64 (n:Int)] w fun e w'=>(∃ ve,e=.returned (.agg #[.int .i64 (n:Int),ve,.slice none 0 0,.slice none 0 0,.slice none 0 0,.slice none 0 0,.slice none 0 0,.slice none 0 0])∧w'.ownsRow w.heap.size 49 6 ve n (ecs (FE n)))∧Below w.heap.size w w':=by
 have hni:(n:Int)≤4:=by omega
 obtain ⟨i0,hi,hz0,hz1,hz2⟩:=info_parts infoEv
 go_enter Try.func36,Try.ntmps36
 go_wp2_with fail
 go_loopw [4] (fun x wr=>∃ (q:Nat) (ve:Value),q≤n∧x=.int .i64 (q:Int)∧Hid (wr.heap[w.heap.size]?=some (.cells #[.int .i64 0,.slice none 0 0,.slice none 0 0,.slice none 0 0,.slice none 0 0,.slice none 0 0,.slice none 0 0,.slice none 0 0] 38 (0,0)))∧Hid (GS w wr (w.heap.size + 1) n ve (FE q) (fun _=>.slice none 0 0) (fun _=>[]))) (fun x _=>n - (intOf x).toNat)
 case atStart=>
  have e1:(w.alloc (.cells #[.int .i64 0,.slice none 0 0,.slice none 0 0,.slice none 0 0,.slice none 0 0,.slice none 0 0,.slice none 0 0,.slice none 0 0] 38 (0,0))).heap.size=w.heap.size + 1:=size_alloc1 _ _
  refine ⟨0,_,Nat.zero_le _,rfl,Lib.hid ?_,Lib.hid (GS.new w _ _ _ (by omega) ?_ (((Below.refl _ _).alloc (Nat.le_refl _) _).alloc (by rw [e1]; omega) _))⟩
  ·exact (alloc_old _ _ _ (by rw [e1]; omega)).trans (heap_alloc_new _ _)
  ·have:=heap_alloc_new (w.alloc (.cells #[.int .i64 0,.slice none 0 0,.slice none 0 0,.slice none 0 0,.slice none 0 0,.slice none 0 0,.slice none 0 0,.slice none 0 0] 38 (0,0))) (.cells #[.int .i64 (n:Int),.slice none 0 0,.slice none 0 0,.slice none 0 0,.slice none 0 0,.slice none 0 0,.slice none 0 0,.slice none 0 0] 38 (0,0))
   rw [e1] at this
   exact this
 case round=>
  obtain ⟨q,ve,hq,rfl,HZ,HS⟩:=hrel
  have hqi:(q:Int)≤4:=by omega
  have hoe:=HS.out.oe
  rw [FE_len] at hoe
  obtain ⟨pa,pc,rfl⟩:=own_len hoe
  have HO:=Lib.hid hoe
  clear hoe
  have hb0:=Lib.hid HS.out.bel.size
  have HNE:Hid ((Value.slice pa q pc).ownBlock ≠ some w.heap.size):=Lib.hid (fun r=>by obtain ⟨c,f,a⟩:=Lib.ownsRow_kind HO.out _ r; rw [HZ.out] at a; simp at a)
  have c1:wr.cell? ⟨w.heap.size + 1,1,none⟩=some (.slice pa q pc):=by simp only [World.cell?,HS.out.box]; rfl
  have f1:wr.frozen? ⟨w.heap.size + 1,1,none⟩=false:=by simp only [World.frozen?,HS.out.box]; rfl
  by_cases hlt:q < n
  ·have d1:decide ((q:Int) < (n:Int))=true:=by rw [decide_eq_true_iff]; omega
   have i1:(q:Int) < (n:Int):=by omega
   go_wp2_with (first
    | (at_builtin; refine wpList_append_own_at _ rfl (.tmp 13) (.tmp 16) 34 rfl w.heap.size 49 i0 (.agg #[.int .i64 0,.int .i64 0,.int .i64 0,.int .i64 0,.int .i64 0,.bool false]) 6 48 Try.underlying34 hi hz0 hz1 hz2 rfl (by decide) _ _ _ rfl (HO.out.alloc _) ⟨wr.heap.size,0,none⟩ 1 1 [.int .i64 0,.int .i64 2,.int .i64 0,.int .i64 (q:Int),.int .i64 0,.bool false] rfl rfl (World.news_of_block (cs:=#[.int .i64 0,.int .i64 2,.int .i64 0,.int .i64 (q:Int),.int .i64 0,.bool false]) (t:=49) (fr:=(0,0)) (heap_alloc_new wr _)) (by simp [Value.oneCell']) (by unfold maxLen; omega) (by omega) (by have:=hb0.out; simp; omega) ?_; intro v1 w3 hown1 hgrow1 _ hv1; have HX:=Lib.hid (GS.grown (e:=⟨0,2,0,(q:Int),0,false⟩) HS.out (by rw [FE_len]; exact hown1) hgrow1 hv1); have HZ3:Hid ((w3.setCell ⟨w.heap.size + 1,1,none⟩ v1).heap[w.heap.size]?=some (.cells #[.int .i64 0,.slice none 0 0,.slice none 0 0,.slice none 0 0,.slice none 0 0,.slice none 0 0,.slice none 0 0,.slice none 0 0] 38 (0,0))):=Lib.hid ((Below.heap_setCell w3 ⟨w.heap.size + 1,1,none⟩ v1 w.heap.size (by show w.heap.size ≠ w.heap.size + 1; omega)).trans ((hgrow1.block w.heap.size (by have:=hb0.out; rw [size_alloc1]; omega) (fun r=>HNE.out r.symm)).trans ((alloc_old _ _ _ (blk_lt HZ.out)).trans HZ.out))); obtain ⟨k1,k2⟩:=HX.out.2; obtain ⟨pa1,pc1,hv1e⟩:=own_len hown1; subst hv1e; clear hown1 hgrow1 hv1))
   go_roundw
   case rel=>exact ⟨q + 1,_,hlt,by go_num,HZ3,Lib.hid HX.out.1⟩
   case measure=>simp [intOf]; omega
  ·have d1:decide ((q:Int) < (n:Int))=false:=by rw [decide_eq_false_iff_not]; omega
   have i1:¬ (q:Int) < (n:Int):=by omega
   have e:q=n:=by omega
   subst e
   have r0:wr.cell? ⟨w.heap.size,0,none⟩=some (.int .i64 0):=by simp only [World.cell?,HZ.out]; rfl
   have s0:wr.frozen? ⟨w.heap.size,0,none⟩=false:=by simp only [World.frozen?,HZ.out]; rfl
   have g0:wr.cell? ⟨w.heap.size + 1,0,none⟩=some (.int .i64 (q:Int)):=by simp only [World.cell?,HS.out.box]; rfl
   have r1:wr.cell? ⟨w.heap.size,1,none⟩=some (.slice none 0 0):=by simp only [World.cell?,HZ.out]; rfl
   have s1:wr.frozen? ⟨w.heap.size,1,none⟩=false:=by simp only [World.frozen?,HZ.out]; rfl
   have g1:wr.cell? ⟨w.heap.size + 1,1,none⟩=some (.slice pa q pc):=by simp only [World.cell?,HS.out.box]; rfl
   have r2:wr.cell? ⟨w.heap.size,2,none⟩=some (.slice none 0 0):=by simp only [World.cell?,HZ.out]; rfl
   have s2:wr.frozen? ⟨w.heap.size,2,none⟩=false:=by simp only [World.frozen?,HZ.out]; rfl
   have g2:wr.cell? ⟨w.heap.size + 1,2,none⟩=some (.slice none 0 0):=by simp only [World.cell?,HS.out.box]; rfl
   have r3:wr.cell? ⟨w.heap.size,3,none⟩=some (.slice none 0 0):=by simp only [World.cell?,HZ.out]; rfl
   have s3:wr.frozen? ⟨w.heap.size,3,none⟩=false:=by simp only [World.frozen?,HZ.out]; rfl
   have g3:wr.cell? ⟨w.heap.size + 1,3,none⟩=some (.slice none 0 0):=by simp only [World.cell?,HS.out.box]; rfl
   have r4:wr.cell? ⟨w.heap.size,4,none⟩=some (.slice none 0 0):=by simp only [World.cell?,HZ.out]; rfl
   have s4:wr.frozen? ⟨w.heap.size,4,none⟩=false:=by simp only [World.frozen?,HZ.out]; rfl
   have g4:wr.cell? ⟨w.heap.size + 1,4,none⟩=some (.slice none 0 0):=by simp only [World.cell?,HS.out.box]; rfl
   have r5:wr.cell? ⟨w.heap.size,5,none⟩=some (.slice none 0 0):=by simp only [World.cell?,HZ.out]; rfl
   have s5:wr.frozen? ⟨w.heap.size,5,none⟩=false:=by simp only [World.frozen?,HZ.out]; rfl
   have g5:wr.cell? ⟨w.heap.size + 1,5,none⟩=some (.slice none 0 0):=by simp only [World.cell?,HS.out.box]; rfl
   have r6:wr.cell? ⟨w.heap.size,6,none⟩=some (.slice none 0 0):=by simp only [World.cell?,HZ.out]; rfl
   have s6:wr.frozen? ⟨w.heap.size,6,none⟩=false:=by simp only [World.frozen?,HZ.out]; rfl
   have g6:wr.cell? ⟨w.heap.size + 1,6,none⟩=some (.slice none 0 0):=by simp only [World.cell?,HS.out.box]; rfl
   have r7:wr.cell? ⟨w.heap.size,7,none⟩=some (.slice none 0 0):=by simp only [World.cell?,HZ.out]; rfl
   have s7:wr.frozen? ⟨w.heap.size,7,none⟩=false:=by simp only [World.frozen?,HZ.out]; rfl
   have g7:wr.cell? ⟨w.heap.size + 1,7,none⟩=some (.slice none 0 0):=by simp only [World.cell?,HS.out.box]; rfl
   clear c1 f1
   go_wp2_with fail
   refine bodyPost_ret (v:=.agg #[.int .i64 (q:Int),.slice pa q pc,.slice none 0 0,.slice none 0 0,.slice none 0 0,.slice none 0 0,.slice none 0 0,.slice none 0 0]) ?_ rfl ⟨⟨_,rfl,own_keep HO.out fun g hq=>set8_far wr w.heap.size g _ _ _ _ _ _ _ _ (fun r=>HNE.out (by rw [← r]; exact hq))⟩,below_set8 HS.out.bel w.heap.size _ _ _ _ _ _ _ _ (Nat.le_refl _)⟩
   exact results_cell_row rfl _ _ w.heap.size 38 #[.int .i64 (q:Int),.slice pa q pc,.slice none 0 0,.slice none 0 0,.slice none 0 0,.slice none 0 0,.slice none 0 0,.slice none 0 0] (0,0) _ rfl (set8_at wr w.heap.size 38 _ _ _ _ _ _ _ _ _ _ _ _ _ _ _ _ HZ.out) Try.underlying38 rfl (by kernel_rfl)
end Go.Proofs.Yteghpophcnehgaa
namespace Go.Proofs.Yteghpophcnehgaa
open Go.RowKit ExprA SndA
namespace SndA
structure LL (w0 W:World) (v:Value) (L:List (List Int)) (vs:List Value):Prop where
 own:W.ownsRow w0.heap.size 22 1 v L.length vs
 len:vs.length=L.length
 el:∀ i,i < L.length→LV W (vs.getD i undef) (L.getD i [])
section
variable {w0 W W':World} {v:Value} {L:List (List Int)} {vs:List Value}
theorem LL.nil (w0 W:World):LL w0 W (.slice none 0 0) [] []:=⟨World.ownsRow_nil _ _ _ _,rfl,fun _ h=>absurd h (Nat.not_lt_zero _)⟩
theorem LL.next (h:LL w0 W v L vs) (hb:Below W.heap.size W W'):LL w0 W' v L vs:=⟨own_below h.own hb,h.len,fun i hi=>(h.el i hi).next hb⟩
theorem LL.apart (h:LL w0 W v L vs) {x:Value} {l:List Int} (hx:LV W x l):∀ g,x.ownBlock=some g→v.ownBlock ≠ some g:=fun g q r=>by
 obtain ⟨c,f,a⟩:=Lib.ownsRow_kind h.own g r
 obtain ⟨c2,f2,a2⟩:=Lib.ownsRow_kind hx g q
 rw [a2] at a; simp at a
theorem LL.keep (h:LL w0 W v L vs) (hg:W.grownBy W' v.ownBlock) {x:Value} {l:List Int} (hx:LV W x l):LV W' x l:=
 own_keep hx fun g q=>hg.block g (hx.lt g q).2 (fun r=>h.apart hx g q r.symm)
theorem LL.grow {v' x:Value} {l:List Int} (h:LL w0 W v L vs) (hg:W.grownBy W' v.ownBlock) (ho:W'.ownsRow w0.heap.size 22 1 v' (L.length + 1) (vs ++ [x])) (hx:LV W x l):LL w0 W' v' (L ++ [l]) (vs ++ [x]):=by
 refine ⟨by rw [List.length_append]; exact ho,by simp [h.len],fun i hi=>?_⟩
 rw [List.length_append,List.length_singleton] at hi
 by_cases q:i < L.length
 ·have e1:(vs ++ [x]).getD i undef=vs.getD i undef:=by
   rw [List.getD_eq_getElem?_getD,List.getD_eq_getElem?_getD,List.getElem?_append_left (by rw [h.len]; exact q)]
  have e2:(L ++ [l]).getD i []=L.getD i []:=by
   rw [List.getD_eq_getElem?_getD,List.getD_eq_getElem?_getD,List.getElem?_append_left q]
  rw [e1,e2]
  exact h.keep hg (h.el i q)
 ·have e:i=L.length:=by omega
  have e1:(vs ++ [x]).getD i undef=x:=by
   rw [List.getD_eq_getElem?_getD,List.getElem?_append_right (by rw [h.len]; omega),h.len,e,Nat.sub_self]; rfl
  have e2:(L ++ [l]).getD i []=l:=by
   rw [List.getD_eq_getElem?_getD,List.getElem?_append_right (by omega),e,Nat.sub_self]; rfl
  rw [e1,e2]
  exact h.keep hg hx
end
end SndA
end Go.Proofs.Yteghpophcnehgaa
