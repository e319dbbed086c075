/-
  What the functions that the law reaches do, one by one: contracts. Conditions: those that each of them prints.
-/
import Derived.Test.YteghpophcnehgaaMm
import Derived.WalkKit
import Derived.Deep.RegionWith
import Derived.Deep.DrawnRows
namespace Go.Proofs.Yteghpophcnehgaa
open Go.RowKit ExprA SndA
namespace SndA
structure Ev where
 th:Int
 kd:Int
 md:Int
 lc:Int
 vl:Int
 ex:Bool
def Ev.zero:Ev:=⟨0,0,0,0,0,false⟩
def Ev.cs (e:Ev):List Value:=[.int .i64 e.th,.int .i64 e.kd,.int .i64 e.md,.int .i64 e.lc,.int .i64 e.vl,.bool e.ex]
def Ev.v (e:Ev):Value:=.agg #[.int .i64 e.th,.int .i64 e.kd,.int .i64 e.md,.int .i64 e.lc,.int .i64 e.vl,.bool e.ex]
def ecs (E:List Ev):List Value:=E.flatMap Ev.cs
theorem infoEv:(Try.prog.info? 49).map (fun i=>(i.zero,i.size,i.bytes))=some (some (.agg #[.int .i64 0,.int .i64 0,.int .i64 0,.int .i64 0,.int .i64 0,.bool false]),6,48):=by kernel_rfl
theorem own_keep {w w':World} {b e size n:Nat} {v:Value} {xs:List Value} (h:w.ownsRow b e size v n xs) (hk:∀ g,v.ownBlock=some g→w'.heap[g]?=w.heap[g]?):w'.ownsRow b e size v n xs:=by
 refine ⟨h.1,?_⟩
 rcases h.2 with a | ⟨g,cap,cur,rfl,a2,a3,a4⟩
 ·exact .inl a
 ·exact .inr ⟨g,cap,cur,rfl,a2,by rw [hk g rfl]; exact a3,a4⟩
structure WK extends World where
 kp:List (Nat × Obj)
instance:Coe WK World:=⟨WK.toWorld⟩
def imk (k:Nat):Prop:=(2≤k∧k≤4) ∨ (7≤k∧k≤20)
structure RS (w0:WK) (W:World) (s gb:Nat) (ve vr:Value) (E:List Ev) (rm:List (Int × Int)) (used:Int) (rg:List Int) (sh:Bool) (im:Nat→Value) (li:Nat→List Int) (pi:Nat→List (Int × Int)):Prop where
 box:W.heap[s]?=some (.cells #[ve,vr,im 2,im 3,im 4,.int .i64 used,.slice (some ⟨gb,0,none⟩) 8 8,im 7,im 8,im 9,im 10,im 11,im 12,im 13,im 14,im 15,im 16,im 17,.bool sh] 98 (0,0))
 oe:W.ownsRow w0.heap.size 49 6 ve E.length (ecs E)
 op:W.ownsRow w0.heap.size 123 2 vr rm.length (icells rm)
 og:W.heap[gb]?=some (.cells (nints rg).toArray 3 (0,0))
 gl:rg.length=8
 ls:w0.heap.size≤s
 lg:w0.heap.size≤gb
 ap:∀ k,imk k→∀ b,(im k).ownBlock=some b→b < W.heap.size∧b ≠ s∧b ≠ gb∧ve.ownBlock ≠ some b∧vr.ownBlock ≠ some b∧(k≤4→w0.heap.size≤b)
 cl:∀ k,7≤k→k≤20→LV W (im k) (li k)
 cp:∀ k,2≤k→k≤4→PV W (im k) (pi k)
 bel:Below w0.heap.size w0.toWorld W
 kp:∀ x ∈ w0.kp,W.heap[x.1]?=some x.2∧x.1 ≠ s∧x.1 ≠ gb∧ve.ownBlock ≠ some x.1∧vr.ownBlock ≠ some x.1
def updF {α:Type} (f:Nat→α) (k:Nat) (x:α):Nat→α:=fun i=>if i=k then x else f i
theorem updF_at {α:Type} (f:Nat→α) (k:Nat) (x:α):updF f k x k=x:=by simp [updF]
theorem updF_ne {α:Type} (f:Nat→α) {k i:Nat} (x:α) (h:i ≠ k):updF f k x i=f i:=by simp [updF,h]
section
variable {w0:WK} {W W':World} {s gb:Nat} {ve vr:Value} {E:List Ev} {rm:List (Int × Int)} {used:Int} {rg:List Int} {sh:Bool} {im:Nat→Value} {li:Nat→List Int} {pi:Nat→List (Int × Int)}
theorem RS.ne_s (h:RS w0 W s gb ve vr E rm used rg sh im li pi):s ≠ gb∧ve.ownBlock ≠ some s∧vr.ownBlock ≠ some s∧ve.ownBlock ≠ some gb∧vr.ownBlock ≠ some gb∧(ve.ownBlock=none ∨ ve.ownBlock ≠ vr.ownBlock):=by
 have hk1:=fun g q=>Lib.ownsRow_kind h.oe g q
 have hk2:=fun g q=>Lib.ownsRow_kind h.op g q
 refine ⟨fun q=>?_,fun q=>?_,fun q=>?_,fun q=>?_,fun q=>?_,?_⟩
 ·have a:=h.box; rw [q,h.og] at a; simp at a
 ·obtain ⟨c,f,a⟩:=hk1 s q; rw [h.box] at a; simp at a
 ·obtain ⟨c,f,a⟩:=hk2 s q; rw [h.box] at a; simp at a
 ·obtain ⟨c,f,a⟩:=hk1 gb q; rw [h.og] at a; simp at a
 ·obtain ⟨c,f,a⟩:=hk2 gb q; rw [h.og] at a; simp at a
 ·cases h1:ve.ownBlock with
  | none=>exact .inl rfl
  | some g=>
   refine .inr fun q=>?_
   obtain ⟨c,f,a⟩:=hk1 g h1
   obtain ⟨c2,f2,a2⟩:=hk2 g q.symm
   rw [a] at a2; simp at a2
theorem RS.fromAt (h:RS w0 W s gb ve vr E rm used rg sh im li pi) (r:Nat) (hr:r < 8):W.cell? ⟨s,8 + r,none⟩=some (im (8 + r)):=by
 have:r=0 ∨ r=1 ∨ r=2 ∨ r=3 ∨ r=4 ∨ r=5 ∨ r=6 ∨ r=7:=by omega
 simp only [World.cell?,h.box]
 rcases this with q | q | q | q | q | q | q | q <;> subst q <;> rfl
theorem RS.lts (h:RS w0 W s gb ve vr E rm used rg sh im li pi):s < W.heap.size:=blk_lt h.box
theorem RS.ltg (h:RS w0 W s gb ve vr E rm used rg sh im li pi):gb < W.heap.size:=blk_lt h.og
theorem RS.next (h:RS w0 W s gb ve vr E rm used rg sh im li pi) (hb:Below W.heap.size W W'):RS w0 W' s gb ve vr E rm used rg sh im li pi:=
 ⟨(hb.block _ h.lts).trans h.box,own_below h.oe hb,own_below h.op hb,(hb.block _ h.ltg).trans h.og,h.gl,h.ls,h.lg,fun k hk b q=>by have:=h.ap k hk b q; exact ⟨Nat.lt_of_lt_of_le this.1 hb.size,this.2⟩,fun k h1 h2=>(h.cl k h1 h2).next hb,fun k h1 h2=>(h.cp k h1 h2).next hb,h.bel.trans (hb.mono h.bel.size),fun x hx=>by obtain ⟨a,b⟩:=h.kp x hx; exact ⟨(hb.block _ (blk_lt a)).trans a,b⟩⟩
theorem RS.boxset (h:RS w0 W s gb ve vr E rm used rg sh im li pi) (k:Nat) (x:Value):(∀ b,b ≠ s→(W.setCell ⟨s,k,none⟩ x).heap[b]?=W.heap[b]?)∧(W.setCell ⟨s,k,none⟩ x).heap.size=W.heap.size∧Below w0.heap.size w0.toWorld (W.setCell ⟨s,k,none⟩ x):=
 ⟨fun b hb=>Below.heap_setCell W ⟨s,k,none⟩ x b hb,by simp,h.bel.setCell h.ls x⟩
theorem RS.keep (h:RS w0 W s gb ve vr E rm used rg sh im li pi) (hs:∀ b,b ≠ s→W'.heap[b]?=W.heap[b]?):W'.ownsRow w0.heap.size 49 6 ve E.length (ecs E)∧W'.ownsRow w0.heap.size 123 2 vr rm.length (icells rm)∧W'.heap[gb]?=some (.cells (nints rg).toArray 3 (0,0))∧(∀ k,7≤k→k≤20→LV W' (im k) (li k))∧∀ k,2≤k→k≤4→PV W' (im k) (pi k):=by
 obtain ⟨n1,n2,n3,_⟩:=h.ne_s
 exact ⟨own_keep h.oe fun g q=>hs g (fun r=>n2 (by rw [q,r])),own_keep h.op fun g q=>hs g (fun r=>n3 (by rw [q,r])),(hs gb (fun r=>n1 r.symm)).trans h.og,fun k h1 h2=>own_keep (h.cl k h1 h2) fun g q=>hs g (h.ap k (.inr ⟨h1,h2⟩) g q).2.1,fun k h1 h2=>own_keep (h.cp k h1 h2) fun g q=>hs g (h.ap k (.inl ⟨h1,h2⟩) g q).2.1⟩
def Apart (W:World) (s gb:Nat) (ve vr v:Value):Prop:=∀ b,v.ownBlock=some b→b < W.heap.size∧b ≠ s∧b ≠ gb∧ve.ownBlock ≠ some b∧vr.ownBlock ≠ some b
theorem RS.apt (h:RS w0 W s gb ve vr E rm used rg sh im li pi) (k:Nat) (hk:imk k):Apart W s gb ve vr (im k):=fun b q=>⟨(h.ap k hk b q).1,(h.ap k hk b q).2.1,(h.ap k hk b q).2.2.1,(h.ap k hk b q).2.2.2.1,(h.ap k hk b q).2.2.2.2.1⟩
theorem RS.newAt (h:RS w0 W s gb ve vr E rm used rg sh im li pi) (k:Nat) (h2:2≤k) (h4:k≤4) {v:Value} (hn:NewV W (im k) v):∀ b,v.ownBlock=some b→w0.heap.size≤b:=fun b r=>by
 rcases hn with q | q
 ·rw [q] at r; exact (h.ap k (.inl ⟨h2,h4⟩) b r).2.2.2.2.2 h4
 ·exact Nat.le_trans h.bel.size (q b r)
theorem RS.set2 (h:RS w0 W s gb ve vr E rm used rg sh im li pi) (v:Value) (L:List (Int × Int)) (hv:PV W v L) (ha:Apart W s gb ve vr v) (hnw:∀ b,v.ownBlock=some b→w0.heap.size≤b):RS w0 (W.setCell ⟨s,2,none⟩ v) s gb ve vr E rm used rg sh (updF im 2 v) li (updF pi 2 L):=by
 obtain ⟨b1,b2,b3⟩:=h.boxset 2 v
 obtain ⟨k1,k2,k3,k4,k5⟩:=h.keep b1
 have hv2:PV (W.setCell ⟨s,2,none⟩ v) v L:=own_keep hv fun g q=>b1 g (ha g q).2.1
 refine ⟨heap_setCell_same W s 2 _ _ v h.box,k1,k2,k3,h.gl,h.ls,h.lg,fun j hj b q=>?_,fun j h1 h2=>?_,fun j h1 h2=>?_,b3,fun x hx=>by obtain ⟨a,b,c⟩:=h.kp x hx; exact ⟨(b1 x.1 b).trans a,b,c⟩⟩
 ·rw [b2]
  by_cases c:j=2
  ·subst c; rw [updF_at] at q; exact ⟨(ha b q).1,(ha b q).2.1,(ha b q).2.2.1,(ha b q).2.2.2.1,(ha b q).2.2.2.2,fun _=>hnw b q⟩
  ·rw [updF_ne _ _ c] at q; exact h.ap j hj b q
 ·by_cases c:j=2
  ·exact absurd c (by omega)
  ·rw [updF_ne _ _ c]; exact k4 j h1 h2
 ·by_cases c:j=2
  ·subst c; rw [updF_at,updF_at]; exact hv2
  ·rw [updF_ne _ _ c,updF_ne _ _ c]; exact k5 j h1 h2
theorem RS.set3 (h:RS w0 W s gb ve vr E rm used rg sh im li pi) (v:Value) (L:List (Int × Int)) (hv:PV W v L) (ha:Apart W s gb ve vr v) (hnw:∀ b,v.ownBlock=some b→w0.heap.size≤b):RS w0 (W.setCell ⟨s,3,none⟩ v) s gb ve vr E rm used rg sh (updF im 3 v) li (updF pi 3 L):=by
 obtain ⟨b1,b2,b3⟩:=h.boxset 3 v
 obtain ⟨k1,k2,k3,k4,k5⟩:=h.keep b1
 have hv2:PV (W.setCell ⟨s,3,none⟩ v) v L:=own_keep hv fun g q=>b1 g (ha g q).2.1
 refine ⟨heap_setCell_same W s 3 _ _ v h.box,k1,k2,k3,h.gl,h.ls,h.lg,fun j hj b q=>?_,fun j h1 h2=>?_,fun j h1 h2=>?_,b3,fun x hx=>by obtain ⟨a,b,c⟩:=h.kp x hx; exact ⟨(b1 x.1 b).trans a,b,c⟩⟩
 ·rw [b2]
  by_cases c:j=3
  ·subst c; rw [updF_at] at q; exact ⟨(ha b q).1,(ha b q).2.1,(ha b q).2.2.1,(ha b q).2.2.2.1,(ha b q).2.2.2.2,fun _=>hnw b q⟩
  ·rw [updF_ne _ _ c] at q; exact h.ap j hj b q
 ·by_cases c:j=3
  ·exact absurd c (by omega)
  ·rw [updF_ne _ _ c]; exact k4 j h1 h2
 ·by_cases c:j=3
  ·subst c; rw [updF_at,updF_at]; exact hv2
  ·rw [updF_ne _ _ c,updF_ne _ _ c]; exact k5 j h1 h2
theorem RS.set4 (h:RS w0 W s gb ve vr E rm used rg sh im li pi) (v:Value) (L:List (Int × Int)) (hv:PV W v L) (ha:Apart W s gb ve vr v) (hnw:∀ b,v.ownBlock=some b→w0.heap.size≤b):RS w0 (W.setCell ⟨s,4,none⟩ v) s gb ve vr E rm used rg sh (updF im 4 v) li (updF pi 4 L):=by
 obtain ⟨b1,b2,b3⟩:=h.boxset 4 v
 obtain ⟨k1,k2,k3,k4,k5⟩:=h.keep b1
 have hv2:PV (W.setCell ⟨s,4,none⟩ v) v L:=own_keep hv fun g q=>b1 g (ha g q).2.1
 refine ⟨heap_setCell_same W s 4 _ _ v h.box,k1,k2,k3,h.gl,h.ls,h.lg,fun j hj b q=>?_,fun j h1 h2=>?_,fun j h1 h2=>?_,b3,fun x hx=>by obtain ⟨a,b,c⟩:=h.kp x hx; exact ⟨(b1 x.1 b).trans a,b,c⟩⟩
 ·rw [b2]
  by_cases c:j=4
  ·subst c; rw [updF_at] at q; exact ⟨(ha b q).1,(ha b q).2.1,(ha b q).2.2.1,(ha b q).2.2.2.1,(ha b q).2.2.2.2,fun _=>hnw b q⟩
  ·rw [updF_ne _ _ c] at q; exact h.ap j hj b q
 ·by_cases c:j=4
  ·exact absurd c (by omega)
  ·rw [updF_ne _ _ c]; exact k4 j h1 h2
 ·by_cases c:j=4
  ·subst c; rw [updF_at,updF_at]; exact hv2
  ·rw [updF_ne _ _ c,updF_ne _ _ c]; exact k5 j h1 h2
theorem RS.set8 (h:RS w0 W s gb ve vr E rm used rg sh im li pi) (v:Value) (L:List Int) (hv:LV W v L) (ha:Apart W s gb ve vr v):RS w0 (W.setCell ⟨s,8,none⟩ v) s gb ve vr E rm used rg sh (updF im 8 v) (updF li 8 L) pi:=by
 obtain ⟨b1,b2,b3⟩:=h.boxset 8 v
 obtain ⟨k1,k2,k3,k4,k5⟩:=h.keep b1
 have hv2:LV (W.setCell ⟨s,8,none⟩ v) v L:=own_keep hv fun g q=>b1 g (ha g q).2.1
 refine ⟨heap_setCell_same W s 8 _ _ v h.box,k1,k2,k3,h.gl,h.ls,h.lg,fun j hj b q=>?_,fun j h1 h2=>?_,fun j h1 h2=>?_,b3,fun x hx=>by obtain ⟨a,b,c⟩:=h.kp x hx; exact ⟨(b1 x.1 b).trans a,b,c⟩⟩
 ·rw [b2]
  by_cases c:j=8
  ·subst c; rw [updF_at] at q; exact ⟨(ha b q).1,(ha b q).2.1,(ha b q).2.2.1,(ha b q).2.2.2.1,(ha b q).2.2.2.2,fun z=>absurd z (by omega)⟩
  ·rw [updF_ne _ _ c] at q; exact h.ap j hj b q
 ·by_cases c:j=8
  ·subst c; rw [updF_at,updF_at]; exact hv2
  ·rw [updF_ne _ _ c,updF_ne _ _ c]; exact k4 j h1 h2
 ·by_cases c:j=8
  ·exact absurd c (by omega)
  ·rw [updF_ne _ _ c]; exact k5 j h1 h2
theorem RS.set9 (h:RS w0 W s gb ve vr E rm used rg sh im li pi) (v:Value) (L:List Int) (hv:LV W v L) (ha:Apart W s gb ve vr v):RS w0 (W.setCell ⟨s,9,none⟩ v) s gb ve vr E rm used rg sh (updF im 9 v) (updF li 9 L) pi:=by
 obtain ⟨b1,b2,b3⟩:=h.boxset 9 v
 obtain ⟨k1,k2,k3,k4,k5⟩:=h.keep b1
 have hv2:LV (W.setCell ⟨s,9,none⟩ v) v L:=own_keep hv fun g q=>b1 g (ha g q).2.1
 refine ⟨heap_setCell_same W s 9 _ _ v h.box,k1,k2,k3,h.gl,h.ls,h.lg,fun j hj b q=>?_,fun j h1 h2=>?_,fun j h1 h2=>?_,b3,fun x hx=>by obtain ⟨a,b,c⟩:=h.kp x hx; exact ⟨(b1 x.1 b).trans a,b,c⟩⟩
 ·rw [b2]
  by_cases c:j=9
  ·subst c; rw [updF_at] at q; exact ⟨(ha b q).1,(ha b q).2.1,(ha b q).2.2.1,(ha b q).2.2.2.1,(ha b q).2.2.2.2,fun z=>absurd z (by omega)⟩
  ·rw [updF_ne _ _ c] at q; exact h.ap j hj b q
 ·by_cases c:j=9
  ·subst c; rw [updF_at,updF_at]; exact hv2
  ·rw [updF_ne _ _ c,updF_ne _ _ c]; exact k4 j h1 h2
 ·by_cases c:j=9
  ·exact absurd c (by omega)
  ·rw [updF_ne _ _ c]; exact k5 j h1 h2
theorem RS.set10 (h:RS w0 W s gb ve vr E rm used rg sh im li pi) (v:Value) (L:List Int) (hv:LV W v L) (ha:Apart W s gb ve vr v):RS w0 (W.setCell ⟨s,10,none⟩ v) s gb ve vr E rm used rg sh (updF im 10 v) (updF li 10 L) pi:=by
 obtain ⟨b1,b2,b3⟩:=h.boxset 10 v
 obtain ⟨k1,k2,k3,k4,k5⟩:=h.keep b1
 have hv2:LV (W.setCell ⟨s,10,none⟩ v) v L:=own_keep hv fun g q=>b1 g (ha g q).2.1
 refine ⟨heap_setCell_same W s 10 _ _ v h.box,k1,k2,k3,h.gl,h.ls,h.lg,fun j hj b q=>?_,fun j h1 h2=>?_,fun j h1 h2=>?_,b3,fun x hx=>by obtain ⟨a,b,c⟩:=h.kp x hx; exact ⟨(b1 x.1 b).trans a,b,c⟩⟩
 ·rw [b2]
  by_cases c:j=10
  ·subst c; rw [updF_at] at q; exact ⟨(ha b q).1,(ha b q).2.1,(ha b q).2.2.1,(ha b q).2.2.2.1,(ha b q).2.2.2.2,fun z=>absurd z (by omega)⟩
  ·rw [updF_ne _ _ c] at q; exact h.ap j hj b q
 ·by_cases c:j=10
  ·subst c; rw [updF_at,updF_at]; exact hv2
  ·rw [updF_ne _ _ c,updF_ne _ _ c]; exact k4 j h1 h2
 ·by_cases c:j=10
  ·exact absurd c (by omega)
  ·rw [updF_ne _ _ c]; exact k5 j h1 h2
theorem RS.set11 (h:RS w0 W s gb ve vr E rm used rg sh im li pi) (v:Value) (L:List Int) (hv:LV W v L) (ha:Apart W s gb ve vr v):RS w0 (W.setCell ⟨s,11,none⟩ v) s gb ve vr E rm used rg sh (updF im 11 v) (updF li 11 L) pi:=by
 obtain ⟨b1,b2,b3⟩:=h.boxset 11 v
 obtain ⟨k1,k2,k3,k4,k5⟩:=h.keep b1
 have hv2:LV (W.setCell ⟨s,11,none⟩ v) v L:=own_keep hv fun g q=>b1 g (ha g q).2.1
 refine ⟨heap_setCell_same W s 11 _ _ v h.box,k1,k2,k3,h.gl,h.ls,h.lg,fun j hj b q=>?_,fun j h1 h2=>?_,fun j h1 h2=>?_,b3,fun x hx=>by obtain ⟨a,b,c⟩:=h.kp x hx; exact ⟨(b1 x.1 b).trans a,b,c⟩⟩
 ·rw [b2]
  by_cases c:j=11
  ·subst c; rw [updF_at] at q; exact ⟨(ha b q).1,(ha b q).2.1,(ha b q).2.2.1,(ha b q).2.2.2.1,(ha b q).2.2.2.2,fun z=>absurd z (by omega)⟩
  ·rw [updF_ne _ _ c] at q; exact h.ap j hj b q
 ·by_cases c:j=11
  ·subst c; rw [updF_at,updF_at]; exact hv2
  ·rw [updF_ne _ _ c,updF_ne _ _ c]; exact k4 j h1 h2
 ·by_cases c:j=11
  ·exact absurd c (by omega)
  ·rw [updF_ne _ _ c]; exact k5 j h1 h2
theorem RS.set12 (h:RS w0 W s gb ve vr E rm used rg sh im li pi) (v:Value) (L:List Int) (hv:LV W v L) (ha:Apart W s gb ve vr v):RS w0 (W.setCell ⟨s,12,none⟩ v) s gb ve vr E rm used rg sh (updF im 12 v) (updF li 12 L) pi:=by
 obtain ⟨b1,b2,b3⟩:=h.boxset 12 v
 obtain ⟨k1,k2,k3,k4,k5⟩:=h.keep b1
 have hv2:LV (W.setCell ⟨s,12,none⟩ v) v L:=own_keep hv fun g q=>b1 g (ha g q).2.1
 refine ⟨heap_setCell_same W s 12 _ _ v h.box,k1,k2,k3,h.gl,h.ls,h.lg,fun j hj b q=>?_,fun j h1 h2=>?_,fun j h1 h2=>?_,b3,fun x hx=>by obtain ⟨a,b,c⟩:=h.kp x hx; exact ⟨(b1 x.1 b).trans a,b,c⟩⟩
 ·rw [b2]
  by_cases c:j=12
  ·subst c; rw [updF_at] at q; exact ⟨(ha b q).1,(ha b q).2.1,(ha b q).2.2.1,(ha b q).2.2.2.1,(ha b q).2.2.2.2,fun z=>absurd z (by omega)⟩
  ·rw [updF_ne _ _ c] at q; exact h.ap j hj b q
 ·by_cases c:j=12
  ·subst c; rw [updF_at,updF_at]; exact hv2
  ·rw [updF_ne _ _ c,updF_ne _ _ c]; exact k4 j h1 h2
 ·by_cases c:j=12
  ·exact absurd c (by omega)
  ·rw [updF_ne _ _ c]; exact k5 j h1 h2
theorem RS.set13 (h:RS w0 W s gb ve vr E rm used rg sh im li pi) (v:Value) (L:List Int) (hv:LV W v L) (ha:Apart W s gb ve vr v):RS w0 (W.setCell ⟨s,13,none⟩ v) s gb ve vr E rm used rg sh (updF im 13 v) (updF li 13 L) pi:=by
 obtain ⟨b1,b2,b3⟩:=h.boxset 13 v
 obtain ⟨k1,k2,k3,k4,k5⟩:=h.keep b1
 have hv2:LV (W.setCell ⟨s,13,none⟩ v) v L:=own_keep hv fun g q=>b1 g (ha g q).2.1
 refine ⟨heap_setCell_same W s 13 _ _ v h.box,k1,k2,k3,h.gl,h.ls,h.lg,fun j hj b q=>?_,fun j h1 h2=>?_,fun j h1 h2=>?_,b3,fun x hx=>by obtain ⟨a,b,c⟩:=h.kp x hx; exact ⟨(b1 x.1 b).trans a,b,c⟩⟩
 ·rw [b2]
  by_cases c:j=13
  ·subst c; rw [updF_at] at q; exact ⟨(ha b q).1,(ha b q).2.1,(ha b q).2.2.1,(ha b q).2.2.2.1,(ha b q).2.2.2.2,fun z=>absurd z (by omega)⟩
  ·rw [updF_ne _ _ c] at q; exact h.ap j hj b q
 ·by_cases c:j=13
  ·subst c; rw [updF_at,updF_at]; exact hv2
  ·rw [updF_ne _ _ c,updF_ne _ _ c]; exact k4 j h1 h2
 ·by_cases c:j=13
  ·exact absurd c (by omega)
  ·rw [updF_ne _ _ c]; exact k5 j h1 h2
theorem RS.set14 (h:RS w0 W s gb ve vr E rm used rg sh im li pi) (v:Value) (L:List Int) (hv:LV W v L) (ha:Apart W s gb ve vr v):RS w0 (W.setCell ⟨s,14,none⟩ v) s gb ve vr E rm used rg sh (updF im 14 v) (updF li 14 L) pi:=by
 obtain ⟨b1,b2,b3⟩:=h.boxset 14 v
 obtain ⟨k1,k2,k3,k4,k5⟩:=h.keep b1
 have hv2:LV (W.setCell ⟨s,14,none⟩ v) v L:=own_keep hv fun g q=>b1 g (ha g q).2.1
 refine ⟨heap_setCell_same W s 14 _ _ v h.box,k1,k2,k3,h.gl,h.ls,h.lg,fun j hj b q=>?_,fun j h1 h2=>?_,fun j h1 h2=>?_,b3,fun x hx=>by obtain ⟨a,b,c⟩:=h.kp x hx; exact ⟨(b1 x.1 b).trans a,b,c⟩⟩
 ·rw [b2]
  by_cases c:j=14
  ·subst c; rw [updF_at] at q; exact ⟨(ha b q).1,(ha b q).2.1,(ha b q).2.2.1,(ha b q).2.2.2.1,(ha b q).2.2.2.2,fun z=>absurd z (by omega)⟩
  ·rw [updF_ne _ _ c] at q; exact h.ap j hj b q
 ·by_cases c:j=14
  ·subst c; rw [updF_at,updF_at]; exact hv2
  ·rw [updF_ne _ _ c,updF_ne _ _ c]; exact k4 j h1 h2
 ·by_cases c:j=14
  ·exact absurd c (by omega)
  ·rw [updF_ne _ _ c]; exact k5 j h1 h2
theorem RS.set15 (h:RS w0 W s gb ve vr E rm used rg sh im li pi) (v:Value) (L:List Int) (hv:LV W v L) (ha:Apart W s gb ve vr v):RS w0 (W.setCell ⟨s,15,none⟩ v) s gb ve vr E rm used rg sh (updF im 15 v) (updF li 15 L) pi:=by
 obtain ⟨b1,b2,b3⟩:=h.boxset 15 v
 obtain ⟨k1,k2,k3,k4,k5⟩:=h.keep b1
 have hv2:LV (W.setCell ⟨s,15,none⟩ v) v L:=own_keep hv fun g q=>b1 g (ha g q).2.1
 refine ⟨heap_setCell_same W s 15 _ _ v h.box,k1,k2,k3,h.gl,h.ls,h.lg,fun j hj b q=>?_,fun j h1 h2=>?_,fun j h1 h2=>?_,b3,fun x hx=>by obtain ⟨a,b,c⟩:=h.kp x hx; exact ⟨(b1 x.1 b).trans a,b,c⟩⟩
 ·rw [b2]
  by_cases c:j=15
  ·subst c; rw [updF_at] at q; exact ⟨(ha b q).1,(ha b q).2.1,(ha b q).2.2.1,(ha b q).2.2.2.1,(ha b q).2.2.2.2,fun z=>absurd z (by omega)⟩
  ·rw [updF_ne _ _ c] at q; exact h.ap j hj b q
 ·by_cases c:j=15
  ·subst c; rw [updF_at,updF_at]; exact hv2
  ·rw [updF_ne _ _ c,updF_ne _ _ c]; exact k4 j h1 h2
 ·by_cases c:j=15
  ·exact absurd c (by omega)
  ·rw [updF_ne _ _ c]; exact k5 j h1 h2
theorem RS.set16 (h:RS w0 W s gb ve vr E rm used rg sh im li pi) (v:Value) (L:List Int) (hv:LV W v L) (ha:Apart W s gb ve vr v):RS w0 (W.setCell ⟨s,16,none⟩ v) s gb ve vr E rm used rg sh (updF im 16 v) (updF li 16 L) pi:=by
 obtain ⟨b1,b2,b3⟩:=h.boxset 16 v
 obtain ⟨k1,k2,k3,k4,k5⟩:=h.keep b1
 have hv2:LV (W.setCell ⟨s,16,none⟩ v) v L:=own_keep hv fun g q=>b1 g (ha g q).2.1
 refine ⟨heap_setCell_same W s 16 _ _ v h.box,k1,k2,k3,h.gl,h.ls,h.lg,fun j hj b q=>?_,fun j h1 h2=>?_,fun j h1 h2=>?_,b3,fun x hx=>by obtain ⟨a,b,c⟩:=h.kp x hx; exact ⟨(b1 x.1 b).trans a,b,c⟩⟩
 ·rw [b2]
  by_cases c:j=16
  ·subst c; rw [updF_at] at q; exact ⟨(ha b q).1,(ha b q).2.1,(ha b q).2.2.1,(ha b q).2.2.2.1,(ha b q).2.2.2.2,fun z=>absurd z (by omega)⟩
  ·rw [updF_ne _ _ c] at q; exact h.ap j hj b q
 ·by_cases c:j=16
  ·subst c; rw [updF_at,updF_at]; exact hv2
  ·rw [updF_ne _ _ c,updF_ne _ _ c]; exact k4 j h1 h2
 ·by_cases c:j=16
  ·exact absurd c (by omega)
  ·rw [updF_ne _ _ c]; exact k5 j h1 h2
theorem RS.virt (h:RS w0 W s gb ve vr E rm used rg sh im li pi) (k:Nat) (h1:18≤k) (h2:k≤20) (v:Value) (L:List Int) (hv:LV W v L) (ha:Apart W s gb ve vr v):RS w0 W s gb ve vr E rm used rg sh (updF im k v) (updF li k L) pi:=by
 have e:∀ j,j≤17→updF im k v j=im j:=fun j hj=>updF_ne _ _ (by omega)
 refine ⟨?_,h.oe,h.op,h.og,h.gl,h.ls,h.lg,fun j hj b q=>?_,fun j g1 g2=>?_,fun j g1 g2=>?_,h.bel,h.kp⟩
 ·simp only [e 2 (by omega),e 3 (by omega),e 4 (by omega),e 7 (by omega),e 8 (by omega),e 9 (by omega),e 10 (by omega),e 11 (by omega),e 12 (by omega),e 13 (by omega),e 14 (by omega),e 15 (by omega),e 16 (by omega),e 17 (by omega)]
  exact h.box
 ·by_cases c:j=k
  ·subst c; rw [updF_at] at q; exact ⟨(ha b q).1,(ha b q).2.1,(ha b q).2.2.1,(ha b q).2.2.2.1,(ha b q).2.2.2.2,fun z=>absurd z (by omega)⟩
  ·rw [updF_ne _ _ c] at q; exact h.ap j hj b q
 ·by_cases c:j=k
  ·subst c; rw [updF_at,updF_at]; exact hv
  ·rw [updF_ne _ _ c,updF_ne _ _ c]; exact h.cl j g1 g2
 ·rw [e j (by omega)]; exact h.cp j g1 g2
theorem apart_new {W1:World} {v:Value} {e size n b0:Nat} {xs:List Value} (ho:W.ownsRow b0 e size v n xs) (hn:∀ b,v.ownBlock=some b→W1.heap.size≤b) (hs:s < W1.heap.size) (hg:gb < W1.heap.size) (h1:∀ b,ve.ownBlock=some b→b < W1.heap.size) (h2:∀ b,vr.ownBlock=some b→b < W1.heap.size):Apart W s gb ve vr v:=fun b q=>by
 have a:=hn b q
 exact ⟨(ho.lt b q).2,by omega,by omega,fun r=>by have:=h1 b r; omega,fun r=>by have:=h2 b r; omega⟩
theorem RS.setF (h:RS w0 W s gb ve vr E rm used rg sh im li pi) (r:Nat) (hr:r < 8) (v:Value) (L:List Int) (hv:LV W v L) (ha:Apart W s gb ve vr v):RS w0 (W.setCell ⟨s,8 + r,none⟩ v) s gb ve vr E rm used rg sh (updF im (8 + r) v) (updF li (8 + r) L) pi:=by
 have:r=0 ∨ r=1 ∨ r=2 ∨ r=3 ∨ r=4 ∨ r=5 ∨ r=6 ∨ r=7:=by omega
 rcases this with q | q | q | q | q | q | q | q <;> subst q
 ·exact h.set8 v L hv ha
 ·exact h.set9 v L hv ha
 ·exact h.set10 v L hv ha
 ·exact h.set11 v L hv ha
 ·exact h.set12 v L hv ha
 ·exact h.set13 v L hv ha
 ·exact h.set14 v L hv ha
 ·exact h.set15 v L hv ha
theorem RS.frozF (h:RS w0 W s gb ve vr E rm used rg sh im li pi) (k:Nat):W.frozen? ⟨s,k,none⟩=false:=by
 simp only [World.frozen?,h.box]; simp
theorem RS.regAt (h:RS w0 W s gb ve vr E rm used rg sh im li pi) (r:Nat) (hr:r < 8):W.cell? ⟨gb,r,none⟩=some (.int .i64 (rg.getD r 0))∧W.frozen? ⟨gb,r,none⟩=false:=by
 have hl:=h.gl
 constructor
 ·simp only [World.cell?,h.og]
  simp [nints,List.getD_eq_getElem?_getD,List.getElem?_eq_getElem (show r < rg.length by omega)]
 ·simp only [World.frozen?,h.og]; simp
theorem lv_one (W:World) (n:Int):LV (W.alloc (.cells #[.int .i64 n] 3 (0,0))) (.slice (some ⟨W.heap.size,0,none⟩) 1 1) [n]:=
 ⟨rfl,.inr ⟨W.heap.size,1,#[.int .i64 n],rfl,Nat.zero_le _,heap_alloc_new _ _,Nat.le_refl _,by decide,rfl,rfl⟩⟩
theorem RS.one (h:RS w0 W s gb ve vr E rm used rg sh im li pi) (n:Int) (k:Nat) (h1:18≤k) (h2:k≤20):RS w0 (W.alloc (.cells #[.int .i64 n] 3 (0,0))) s gb ve vr E rm used rg sh (updF im k (.slice (some ⟨W.heap.size,0,none⟩) 1 1)) (updF li k [n]) pi:=by
 have hb:Below W.heap.size W (W.alloc (.cells #[.int .i64 n] 3 (0,0))):=(Below.refl _ _).alloc (Nat.le_refl _) _
 refine (h.next hb).virt k h1 h2 _ _ (lv_one W n) ?_
 exact apart_new (lv_one W n) (W1:=W) (fun b q=>by cases q; exact Nat.le_refl _) h.lts h.ltg (fun b r=>(h.oe.lt b r).2) (fun b r=>(h.op.lt b r).2)
theorem RS.hold (h:RS w0 W s gb ve vr E rm used rg sh im li pi) (b:Nat) (o:Obj) (hb:W.heap[b]?=some o) (hn:b ≠ s∧b ≠ gb∧ve.ownBlock ≠ some b∧vr.ownBlock ≠ some b):RS ⟨w0.toWorld,(b,o)::w0.kp⟩ W s gb ve vr E rm used rg sh im li pi:=
 ⟨h.box,h.oe,h.op,h.og,h.gl,h.ls,h.lg,h.ap,h.cl,h.cp,h.bel,fun x hx=>by
  rcases List.mem_cons.1 hx with q | q
  ·subst q; exact ⟨hb,hn⟩
  ·exact h.kp x q⟩
theorem RS.drop {k:List (Nat × Obj)} (h:RS ⟨w0.toWorld,k⟩ W s gb ve vr E rm used rg sh im li pi) (hk:∀ x ∈ w0.kp,x ∈ k):RS w0 W s gb ve vr E rm used rg sh im li pi:=
 ⟨h.box,h.oe,h.op,h.og,h.gl,h.ls,h.lg,h.ap,h.cl,h.cp,h.bel,fun x hx=>h.kp x (hk x hx)⟩
theorem apart_nil (W:World) (s gb:Nat) (ve vr:Value):Apart W s gb ve vr (.slice none 0 0):=fun _ q=>by cases q
theorem RS.setU (h:RS w0 W s gb ve vr E rm used rg sh im li pi) (u:Int):RS w0 (W.setCell ⟨s,5,none⟩ (.int .i64 u)) s gb ve vr E rm u rg sh im li pi:=by
 obtain ⟨b1,b2,b3⟩:=h.boxset 5 (.int .i64 u)
 obtain ⟨k1,k2,k3,k4,k5⟩:=h.keep b1
 exact ⟨heap_setCell_same W s 5 _ _ _ h.box,k1,k2,k3,h.gl,h.ls,h.lg,fun j hj b q=>by rw [b2]; exact h.ap j hj b q,k4,k5,b3,fun x hx=>by obtain ⟨a,b,c⟩:=h.kp x hx; exact ⟨(b1 x.1 b).trans a,b,c⟩⟩
theorem RS.setS (h:RS w0 W s gb ve vr E rm used rg sh im li pi) (u:Bool):RS w0 (W.setCell ⟨s,18,none⟩ (.bool u)) s gb ve vr E rm used rg u im li pi:=by
 obtain ⟨b1,b2,b3⟩:=h.boxset 18 (.bool u)
 obtain ⟨k1,k2,k3,k4,k5⟩:=h.keep b1
 exact ⟨heap_setCell_same W s 18 _ _ _ h.box,k1,k2,k3,h.gl,h.ls,h.lg,fun j hj b q=>by rw [b2]; exact h.ap j hj b q,k4,k5,b3,fun x hx=>by obtain ⟨a,b,c⟩:=h.kp x hx; exact ⟨(b1 x.1 b).trans a,b,c⟩⟩
theorem RS.setR (h:RS w0 W s gb ve vr E rm used rg sh im li pi) (r:Nat) (x:Int):RS w0 (W.setCell ⟨gb,r,none⟩ (.int .i64 x)) s gb ve vr E rm used (rg.set r x) sh im li pi:=by
 have b1:∀ b,b ≠ gb→(W.setCell ⟨gb,r,none⟩ (.int .i64 x)).heap[b]?=W.heap[b]?:=fun b hb=>Below.heap_setCell W ⟨gb,r,none⟩ _ b hb
 have b2:(W.setCell ⟨gb,r,none⟩ (.int .i64 x)).heap.size=W.heap.size:=by simp
 obtain ⟨n1,n2,n3,n4,n5,n6⟩:=h.ne_s
 refine ⟨(b1 s n1).trans h.box,own_keep h.oe fun g q=>b1 g (fun r=>n4 (by rw [q,r])),own_keep h.op fun g q=>b1 g (fun r=>n5 (by rw [q,r])),?_,by simp [h.gl],h.ls,h.lg,fun j hj b q=>by rw [b2]; exact h.ap j hj b q,fun k h1 h2=>own_keep (h.cl k h1 h2) fun g q=>b1 g (h.ap k (.inr ⟨h1,h2⟩) g q).2.2.1,fun k h1 h2=>own_keep (h.cp k h1 h2) fun g q=>b1 g (h.ap k (.inl ⟨h1,h2⟩) g q).2.2.1,h.bel.setCell h.lg _,fun x hx=>by obtain ⟨a,b,c,d⟩:=h.kp x hx; exact ⟨(b1 x.1 c).trans a,b,c,d⟩⟩
 have:=heap_setCell_same W gb r _ _ (.int .i64 x) h.og
 rw [this]
 congr 2
 simp [nints,List.map_set]
theorem RS.growE {v':Value} {E':List Ev} (h:RS w0 W s gb ve vr E rm used rg sh im li pi) (hg:W.grownBy W' ve.ownBlock) (ho:W'.ownsRow w0.heap.size 49 6 v' E'.length (ecs E')) (hv:v'.ownBlock=ve.ownBlock ∨ v'.ownBlock=some W.heap.size):RS w0 (W'.setCell ⟨s,0,none⟩ v') s gb v' vr E' rm used rg sh im li pi:=by
 obtain ⟨n1,n2,n3,n4,n5,n6⟩:=h.ne_s
 have hs:s < W.heap.size:=h.lts
 have hgb:gb < W.heap.size:=h.ltg
 have b1:∀ b,b ≠ s→(W'.setCell ⟨s,0,none⟩ v').heap[b]?=W'.heap[b]?:=fun b hb=>Below.heap_setCell W' ⟨s,0,none⟩ v' b hb
 have b2:(W'.setCell ⟨s,0,none⟩ v').heap.size=W'.heap.size:=by simp
 have hbox:=(hg.block s hs (fun q=>n2 q.symm)).trans h.box
 have vs:v'.ownBlock ≠ some s:=by
  rcases hv with q | q
  ·rw [q]; exact n2
  ·rw [q]; intro r; simp only [Option.some.injEq] at r; omega
 have keep:∀ b,b < W.heap.size→b ≠ s→ve.ownBlock ≠ some b→(W'.setCell ⟨s,0,none⟩ v').heap[b]?=W.heap[b]?:=fun b c1 c2 c3=>(b1 b c2).trans (hg.block b c1 (fun q=>c3 q.symm))
 have n7:∀ b,ve.ownBlock=some b→vr.ownBlock=some b→False:=fun b q r=>by
  rcases n6 with z | z
  ·rw [z] at q; cases q
  ·exact z (q.trans r.symm)
 have ow:∀ b,vr.ownBlock=some b→(W'.setCell ⟨s,0,none⟩ v').heap[b]?=W.heap[b]?:=fun b q=>keep b (h.op.lt b q).2 (fun r=>n3 (by rw [q,r])) (fun r=>n7 b r q)
 have apn:∀ b,b < W.heap.size→ve.ownBlock ≠ some b→v'.ownBlock ≠ some b:=fun b c1 c2=>by
  rcases hv with q | q
  ·rw [q]; exact c2
  ·rw [q]; intro r; simp only [Option.some.injEq] at r; omega
 refine ⟨heap_setCell_same W' s 0 _ _ v' hbox,own_keep ho fun g q=>b1 g (fun r=>vs (by rw [q,r])),own_keep h.op ow,(keep gb hgb (fun r=>n1 r.symm) n4).trans h.og,h.gl,h.ls,h.lg,fun k hk b q=>?_,fun k h1 h2=>own_keep (h.cl k h1 h2) fun g q=>?_,fun k h1 h2=>own_keep (h.cp k h1 h2) fun g q=>?_,(h.bel.grown hg h.bel.size (fun j hj=>(h.oe.lt j hj).1)).setCell h.ls v',fun x hx=>by obtain ⟨a,b,c,d,e⟩:=h.kp x hx; exact ⟨(keep x.1 (blk_lt a) b d).trans a,b,c,apn x.1 (blk_lt a) d,e⟩⟩
 ·obtain ⟨a1,a2,a3,a4,a5,a6⟩:=h.ap k hk b q
  exact ⟨by rw [b2]; exact Nat.lt_of_lt_of_le a1 hg.size,a2,a3,apn b a1 a4,a5,a6⟩
 ·obtain ⟨a1,a2,a3,a4,a5,a6⟩:=h.ap k (.inr ⟨h1,h2⟩) g q
  exact keep g a1 a2 a4
 ·obtain ⟨a1,a2,a3,a4,a5,a6⟩:=h.ap k (.inl ⟨h1,h2⟩) g q
  exact keep g a1 a2 a4
theorem RS.growP {v':Value} {E':List (Int × Int)} (h:RS w0 W s gb ve vr E rm used rg sh im li pi) (hg:W.grownBy W' vr.ownBlock) (ho:W'.ownsRow w0.heap.size 123 2 v' E'.length (icells E')) (hv:v'.ownBlock=vr.ownBlock ∨ v'.ownBlock=some W.heap.size):RS w0 (W'.setCell ⟨s,1,none⟩ v') s gb ve v' E E' used rg sh im li pi:=by
 obtain ⟨n1,n2,n3,n4,n5,n6⟩:=h.ne_s
 have hs:s < W.heap.size:=h.lts
 have hgb:gb < W.heap.size:=h.ltg
 have b1:∀ b,b ≠ s→(W'.setCell ⟨s,1,none⟩ v').heap[b]?=W'.heap[b]?:=fun b hb=>Below.heap_setCell W' ⟨s,1,none⟩ v' b hb
 have b2:(W'.setCell ⟨s,1,none⟩ v').heap.size=W'.heap.size:=by simp
 have hbox:=(hg.block s hs (fun q=>n3 q.symm)).trans h.box
 have vs:v'.ownBlock ≠ some s:=by
  rcases hv with q | q
  ·rw [q]; exact n3
  ·rw [q]; intro r; simp only [Option.some.injEq] at r; omega
 have keep:∀ b,b < W.heap.size→b ≠ s→vr.ownBlock ≠ some b→(W'.setCell ⟨s,1,none⟩ v').heap[b]?=W.heap[b]?:=fun b c1 c2 c3=>(b1 b c2).trans (hg.block b c1 (fun q=>c3 q.symm))
 have n7:∀ b,ve.ownBlock=some b→vr.ownBlock=some b→False:=fun b q r=>by
  rcases n6 with z | z
  ·rw [z] at q; cases q
  ·exact z (q.trans r.symm)
 have ow:∀ b,ve.ownBlock=some b→(W'.setCell ⟨s,1,none⟩ v').heap[b]?=W.heap[b]?:=fun b q=>keep b (h.oe.lt b q).2 (fun r=>n2 (by rw [q,r])) (fun r=>n7 b q r)
 have apn:∀ b,b < W.heap.size→vr.ownBlock ≠ some b→v'.ownBlock ≠ some b:=fun b c1 c2=>by
  rcases hv with q | q
  ·rw [q]; exact c2
  ·rw [q]; intro r; simp only [Option.some.injEq] at r; omega
 refine ⟨heap_setCell_same W' s 1 _ _ v' hbox,own_keep h.oe ow,own_keep ho fun g q=>b1 g (fun r=>vs (by rw [q,r])),(keep gb hgb (fun r=>n1 r.symm) n5).trans h.og,h.gl,h.ls,h.lg,fun k hk b q=>?_,fun k h1 h2=>own_keep (h.cl k h1 h2) fun g q=>?_,fun k h1 h2=>own_keep (h.cp k h1 h2) fun g q=>?_,(h.bel.grown hg h.bel.size (fun j hj=>(h.op.lt j hj).1)).setCell h.ls v',fun x hx=>by obtain ⟨a,b,c,d,e⟩:=h.kp x hx; exact ⟨(keep x.1 (blk_lt a) b e).trans a,b,c,d,apn x.1 (blk_lt a) e⟩⟩
 ·obtain ⟨a1,a2,a3,a4,a5,a6⟩:=h.ap k hk b q
  exact ⟨by rw [b2]; exact Nat.lt_of_lt_of_le a1 hg.size,a2,a3,a4,apn b a1 a5,a6⟩
 ·obtain ⟨a1,a2,a3,a4,a5,a6⟩:=h.ap k (.inr ⟨h1,h2⟩) g q
  exact keep g a1 a2 a5
 ·obtain ⟨a1,a2,a3,a4,a5,a6⟩:=h.ap k (.inl ⟨h1,h2⟩) g q
  exact keep g a1 a2 a5
theorem RS.fresh (h:RS w0 W s gb ve vr E rm used rg sh im li pi) {e size n:Nat} {v:Value} {xs:List Value} (ho:W'.ownsRow W.heap.size e size v n xs):Apart W' s gb ve vr v:=fun b q=>by
 obtain ⟨a,c⟩:=ho.lt b q
 have hs:=h.lts
 have hgb:=h.ltg
 refine ⟨c,by omega,by omega,fun r=>?_,fun r=>?_⟩
 ·have:=(h.oe.lt b r).2; omega
 ·have:=(h.op.lt b r).2; omega
end
end SndA
end Go.Proofs.Yteghpophcnehgaa
namespace Go.Proofs.Yteghpophcnehgaa
open Go.RowKit ExprA SndA
attribute [local go_sem ↓] Go.wp_at_zero Go.wp_at_succ
namespace SndA
structure OfOk (li:Nat→List Int) (n:Nat) (L':List Int):Prop where
 up:(∀ j,8≤j→j≤15→Rise (li j))→Rise L'
 mem:∀ x ∈ L',∃ j,8≤j∧j≤15∧x ∈ li j
 len:L'.length≤100 * n
theorem of_zero (li:Nat→List Int):OfOk li 0 []:=⟨fun _=>List.Pairwise.nil,(fun x hx=>by cases hx),Nat.zero_le _⟩
theorem of_step {li:Nat→List Int} {n r:Nat} {L M:List Int} (h:OfOk li n L) (hr:r < 8) (hl:(li (8 + r)).length≤100) (g:BothOk L (li (8 + r)) M):OfOk li (n + 1) M:=by
 refine ⟨fun u=>g.up (h.up u),fun x hx=>?_,by have:=g.len; have:=h.len; omega⟩
 rcases g.mem x hx with q | q
 ·exact h.mem x q
 ·exact ⟨8 + r,by omega,by omega,q⟩
end SndA
set_option maxRecDepth 20000 in
set_option maxHeartbeats 8000000 in
theorem of_any {w0:WK} {s gb:Nat} {ve vr:Value} {E:List Ev} {rm:List (Int × Int)} {used:Int} {rg:List Int} {sh:Bool} {im:Nat→Value} {li:Nat→List Int} {pi:Nat→List (Int × Int)}
  (a:Option Addr) (L:List (Int × Int)) (cL:Nat) (w:World) (h:RS w0 w s gb ve vr E rm used rg sh im li pi) (ht:TIn w a L) (hL:L.length≤9) (hreg:∀ x,((2:Int),x) ∈ L→0≤x∧x < 8) (hli:∀ j,8≤j→j≤15→(li j).length≤100) :
  Calls Try.prog 53 #[.pointer (some ⟨s,0,none⟩),.slice a L.length cL] w fun e w'=>GivesN w (.slice none 0 0) w' e (OfOk li 9)∧Below w.heap.size w w':=by
 have HRG:=Lib.hid (regs_any a L cL w ht (by omega))
 have HS:=Lib.hid h
 have HX:=Lib.hid hreg
 have HLI:=Lib.hid hli
 clear h ht hreg hli
 go_enter Try.func53,Try.ntmps53
 go_wp2_with fail
 refine HRG.out.mono ?_
 rintro e w1 ⟨⟨vR,R,rfl,hR,hok⟩,hb1⟩
 have HB1:=Lib.hid hb1
 have HOK:=Lib.hid hok
 obtain ⟨ab,cb,rfl,hcb⟩:=hR.sl
 have HC:=Lib.hid hcb
 have hRl:R.length≤9:=Nat.le_trans hok.len hL
 have hRi:(R.length:Int)≤9:=by omega
 clear hR hcb hb1 hok
 go_wp2_with fail
 go_loopw [5,7] (fun z5 z7 wr=>∃ (i:Nat) (M:List Int),i≤R.length∧z7=.int .i64 i∧Hid (LV wr z5 M)∧Hid (OfOk li i M)∧Hid (NewV w (.slice none 0 0) z5)∧Hid (Below w1.heap.size w1 wr)) (fun _ z7 _=>R.length - (intOf z7).toNat)
 case atStart=>exact ⟨0,[],Nat.zero_le _,rfl,Lib.hid (LV.nil _),Lib.hid (of_zero li),Lib.hid (.inl rfl),Lib.hid (Below.refl _ _)⟩
 case round=>
  obtain ⟨i,M,hi,rfl,HM,HO,HN,HB⟩:=hrel
  have hi9:(i:Int)≤9:=by omega
  by_cases hlt:i < R.length
  ·have d1:decide ((i:Int) < (R.length:Int))=true:=by simp; omega
   have i1:(i:Int) < (R.length:Int):=by omega
   obtain ⟨g,hg,hce⟩:=HC.out i hlt
   have ce:=cell_next hce HB.out
   clear hce
   subst hg
   have hx:=HX.out (R.getD i 0) (by
    have:=HOK.out.mem (R.getD i 0) (by rw [List.getD_eq_getElem?_getD,List.getElem?_eq_getElem hlt]; exact List.getElem_mem _)
    rwa [List.take_length] at this)
   obtain ⟨r,hr⟩:∃ r:Nat,R.getD i 0=(r:Int):=⟨(R.getD i 0).toNat,by omega⟩
   rw [hr] at ce hx
   have hr8:r < 8:=by omega
   have hri:(r:Int) < 8:=by omega
   have HBW:=Lib.hid (below_next HB1.out HB.out)
   have cf:=(HS.out.next HBW.out).fromAt r hr8
   have HLf:=Lib.hid ((HS.out.next HBW.out).cl (8 + r) (by omega) (by omega))
   have hlen:=HLI.out (8 + r) (by omega) (by omega)
   have hMl:M.length≤800:=by have:=HO.out.len; omega
   clear hx hr
   go_wp2_with fail
   go_region_with (first
    | (go_at_call 77; refine (both_any _ _ M (li (8 + r)) _ (HM.out.next (Below.refl _ _).drew) (HLf.out.next (Below.refl _ _).drew) (by omega)).mono ?_; rintro e w2 ⟨⟨v',L',rfl,hv,hp,hn⟩,hb⟩; have HV:=Lib.hid hv; have HP:=Lib.hid (of_step HO.out hr8 hlen hp); have HN2:=Lib.hid (HN.out.step hn (Nat.le_trans HBW.out.size (Nat.le_refl _))); have HB2:=Lib.hid (below_next HB.out (below_next (Below.refl _ _).drew hb)); clear hv hp hb hn))
   all_goals go_wp2_with fail
   all_goals go_roundw
   case rel=>exact ⟨i + 1,L',by omega,by go_num,HV,HP,HN2,HB2⟩
   case measure=>simp [intOf]; omega
  ·have d1:decide ((i:Int) < (R.length:Int))=false:=by simp; omega
   go_wp2_with fail
   go_ret
   exact ⟨⟨_,M,rfl,HM.out,⟨HO.out.up,HO.out.mem,Nat.le_trans HO.out.len (by omega)⟩,HN.out⟩,below_next HB1.out HB.out⟩
end Go.Proofs.Yteghpophcnehgaa
