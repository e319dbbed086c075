/-
  What the functions that the law reaches do, one by one: contracts. Conditions: those that each of them prints.
-/
import Derived.Test.YteghpophcnehgaaMzc
import Derived.WalkKit
import Derived.Deep.RegionLaw
import Derived.Deep.Quiet
import Derived.Laws.ResultCell
import Derived.Deep.DeepCutAuto
import Derived.Deep.CutBlock
namespace Go.Proofs.Yteghpophcnehgaa
open Go.RowKit ExprA SndA
def ogI0:Oper:={ dst:=some 19,op:=Op.load 35 (Operand.tmp 18),type:=35,pos := "ref.go:116", after:=#[{ on:=0,ground:=Ground.data }],guard:=none }
def ogI1:Oper:={ dst:=some 21,op:=Op.load 35 (Operand.tmp 20),type:=35,pos := "ref.go:116", after:=#[{ on:=2,ground:=Ground.data }],guard:=none }
def ogI2:Oper:={ dst:=some 24,op:=Op.load 22 (Operand.tmp 23),type:=22,pos := "ref.go:116", after:=#[{ on:=5,ground:=Ground.data }],guard:=none }
def ogI3:Oper:={ dst:=some 25,op:=Op.call { callee:=Callee.builtin Builtin.append,args:=#[Operand.const (Value.slice none 0 0),Operand.tmp 24],argTypes:=#[22,22] },type:=22,pos := "ref.go:116", after:=#[{ on:=6,ground:=Ground.data }],guard:=none }
def ogI4:Oper:={ dst:=some 26,op:=Op.buildSlice 35 1 #[(0,Operand.tmp 25)],type:=35,pos := "ref.go:116", after:=#[{ on:=7,ground:=Ground.data }],guard:=none }
def ogI5:Oper:={ dst:=some 27,op:=Op.call { callee:=Callee.builtin Builtin.append,args:=#[Operand.tmp 19,Operand.tmp 26],argTypes:=#[35,35] },type:=35,pos := "ref.go:116", after:=#[{ on:=1,ground:=Ground.data },{ on:=8,ground:=Ground.data },{ on:=7,ground:=Ground.chain }],guard:=none }
def ogI6:Oper:={ dst:=some 28,op:=Op.fieldAddr 38 (Operand.tmp 3) 3,type:=0,pos := "ref.go:116", after:=#[{ on:=0,ground:=Ground.phase },{ on:=1,ground:=Ground.phase },{ on:=2,ground:=Ground.phase },{ on:=3,ground:=Ground.phase },{ on:=4,ground:=Ground.phase },{ on:=5,ground:=Ground.phase },{ on:=6,ground:=Ground.phase },{ on:=7,ground:=Ground.phase },{ on:=8,ground:=Ground.phase },{ on:=9,ground:=Ground.phase }],guard:=none }
def ogI7:Oper:={ dst:=none,op:=Op.store 35 (Operand.tmp 28) (Operand.tmp 27),type:=0,pos := "ref.go:116", after:=#[{ on:=10,ground:=Ground.data },{ on:=9,ground:=Ground.data },{ on:=9,ground:=Ground.chain },{ on:=0,ground:=Ground.phase },{ on:=1,ground:=Ground.phase },{ on:=2,ground:=Ground.phase },{ on:=3,ground:=Ground.phase },{ on:=4,ground:=Ground.phase },{ on:=5,ground:=Ground.phase },{ on:=6,ground:=Ground.phase },{ on:=7,ground:=Ground.phase },{ on:=8,ground:=Ground.phase },{ on:=9,ground:=Ground.phase }],guard:=none }
def rgI0:Array Oper:=#[{ dst:=some 18,op:=Op.fieldAddr 38 (Operand.tmp 3) 3,type:=0,pos := "ref.go:116", after:=#[],guard:=none },{ dst:=some 19,op:=Op.load 35 (Operand.tmp 18),type:=35,pos := "ref.go:116", after:=#[{ on:=0,ground:=Ground.data }],guard:=none },{ dst:=some 20,op:=Op.fieldAddr 38 (Operand.tmp 1) 3,type:=0,pos := "ref.go:116", after:=#[],guard:=none },{ dst:=some 21,op:=Op.load 35 (Operand.tmp 20),type:=35,pos := "ref.go:116", after:=#[{ on:=2,ground:=Ground.data }],guard:=none },{ dst:=some 22,op:=Op.move (Operand.tmp 4),type:=3,pos := "ref.go:116", after:=#[],guard:=none },{ dst:=some 23,op:=Op.indexAddr 35 (Operand.tmp 21) (Operand.tmp 22),type:=0,pos := "ref.go:116", after:=#[{ on:=3,ground:=Ground.data },{ on:=4,ground:=Ground.data }],guard:=none },{ dst:=some 24,op:=Op.load 22 (Operand.tmp 23),type:=22,pos := "ref.go:116", after:=#[{ on:=5,ground:=Ground.data }],guard:=none },{ dst:=some 25,op:=Op.call { callee:=Callee.builtin Builtin.append,args:=#[Operand.const (Value.slice none 0 0),Operand.tmp 24],argTypes:=#[22,22] },type:=22,pos := "ref.go:116", after:=#[{ on:=6,ground:=Ground.data }],guard:=none },{ dst:=some 26,op:=Op.buildSlice 35 1 #[(0,Operand.tmp 25)],type:=35,pos := "ref.go:116", after:=#[{ on:=7,ground:=Ground.data }],guard:=none },{ dst:=some 27,op:=Op.call { callee:=Callee.builtin Builtin.append,args:=#[Operand.tmp 19,Operand.tmp 26],argTypes:=#[35,35] },type:=35,pos := "ref.go:116", after:=#[{ on:=1,ground:=Ground.data },{ on:=8,ground:=Ground.data },{ on:=7,ground:=Ground.chain }],guard:=none },{ dst:=some 28,op:=Op.fieldAddr 38 (Operand.tmp 3) 3,type:=0,pos := "ref.go:116", after:=#[{ on:=0,ground:=Ground.phase },{ on:=1,ground:=Ground.phase },{ on:=2,ground:=Ground.phase },{ on:=3,ground:=Ground.phase },{ on:=4,ground:=Ground.phase },{ on:=5,ground:=Ground.phase },{ on:=6,ground:=Ground.phase },{ on:=7,ground:=Ground.phase },{ on:=8,ground:=Ground.phase },{ on:=9,ground:=Ground.phase }],guard:=none },{ dst:=none,op:=Op.store 35 (Operand.tmp 28) (Operand.tmp 27),type:=0,pos := "ref.go:116", after:=#[{ on:=10,ground:=Ground.data },{ on:=9,ground:=Ground.data },{ on:=9,ground:=Ground.chain },{ on:=0,ground:=Ground.phase },{ on:=1,ground:=Ground.phase },{ on:=2,ground:=Ground.phase },{ on:=3,ground:=Ground.phase },{ on:=4,ground:=Ground.phase },{ on:=5,ground:=Ground.phase },{ on:=6,ground:=Ground.phase },{ on:=7,ground:=Ground.phase },{ on:=8,ground:=Ground.phase },{ on:=9,ground:=Ground.phase }],guard:=none }]
namespace SndA
theorem own_typ {W:World} {b e s n:Nat} {v:Value} {xs:List Value} (h:W.ownsRow b e s v n xs) {x:Nat} {cs:Array Value} {t:TypeId} {fr:Nat × Nat} (hx:W.heap[x]?=some (.cells cs t fr)) (he:e ≠ t):v.ownBlock ≠ some x:=fun q=>by
 obtain ⟨c,f,a⟩:=Lib.ownsRow_kind h x q
 rw [hx] at a
 simp only [Option.some.injEq,Obj.cells.injEq] at a
 exact he a.2.1.symm
theorem LB.fr {base:Nat} {W W':World} {v:Value} {L:List (List Int)} {vs:List Value} {X:Nat→Prop} (h:LB base W v L vs) (hf:Fr X W W') (h1:∀ g,v.ownBlock=some g→¬ X g) (h2:∀ i,i < L.length→∀ g,(vs.getD i undef).ownBlock=some g→¬ X g):LB base W' v L vs:=
 ⟨own_fr h.own hf h1,h.len,fun i hi=>own_fr (h.el i hi) hf (h2 i hi)⟩
structure CPs (w0 W:World) (hb:Nat) (n:Int) (ve vr vc p4 p5 p6 p7:Value) (L:List (List Int)) (vs:List Value):Prop where
 box:W.heap[hb]?=some (.cells #[.int .i64 n,ve,vr,vc,p4,p5,p6,p7] 38 (0,0))
 lb:LB w0.heap.size W vc L vs
 nw:∀ i,i < L.length→∀ b,(vs.getD i undef).ownBlock=some b→w0.heap.size≤b
 fr:Fr (fun b=>b=hb) w0 W
 lt:hb < w0.heap.size
section
variable {w0 W W':World} {hb:Nat} {n:Int} {ve vr vc p4 p5 p6 p7:Value} {L:List (List Int)} {vs:List Value}
theorem CPs.next (h:CPs w0 W hb n ve vr vc p4 p5 p6 p7 L vs) (hb2:Below W.heap.size W W'):CPs w0 W' hb n ve vr vc p4 p5 p6 p7 L vs:=
 ⟨(hb2.block hb (blk_lt h.box)).trans h.box,h.lb.next hb2,h.nw,h.fr.trans (Fr.of_below hb2),h.lt⟩
theorem CPs.c3 (h:CPs w0 W hb n ve vr vc p4 p5 p6 p7 L vs):W.cell? ⟨hb,3,none⟩=some vc:=by simp only [World.cell?,h.box]; rfl
theorem CPs.grow {v' x:Value} {l:List Int} (h:CPs w0 W hb n ve vr vc p4 p5 p6 p7 L vs) (hx:LV W x l) (hnw:∀ b,x.ownBlock=some b→w0.heap.size≤b) (hg:W.grownBy W' vc.ownBlock) (ho:W'.ownsRow w0.heap.size 22 1 v' (L.length + 1) (vs ++ [x])) (_hv:v'.ownBlock=vc.ownBlock ∨ v'.ownBlock=some W.heap.size) :
  CPs w0 (W'.setCell ⟨hb,3,none⟩ v') hb n ve vr v' p4 p5 p6 p7 (L ++ [l]) (vs ++ [x])∧W'.cell? ⟨hb,3,none⟩=some vc∧W'.frozen? ⟨hb,3,none⟩=false:=by
 have hlt:=blk_lt h.box
 have hbx:=(hg.block hb hlt (fun q=>own_typ h.lb.own h.box (by decide) q.symm)).trans h.box
 have hL:=h.lb.grow hg ho hx
 have hS:Fr (fun b=>b=hb) W' (W'.setCell ⟨hb,3,none⟩ v'):=Fr.set W' hb 3 v' rfl
 refine ⟨⟨heap_setCell_same W' hb 3 _ _ v' hbx,hL.fr hS (fun g q r=>own_typ hL.own hbx (by decide) (by rw [q,r])) (fun i hi g q r=>own_typ (hL.el i hi) hbx (by decide) (by rw [q,r])),fun i hi b q=>?_,(h.fr.trans2 (Fr.of_grown (X:=fun b=>vc.ownBlock=some b) hg (fun b q=>q)) (fun b hlb q=>by have:=(h.lb.own.lt b q).1; omega)).trans2 hS (fun _ _ q=>q),h.lt⟩,by simp only [World.cell?,hbx]; rfl,by simp only [World.frozen?,hbx]; rfl⟩
 rw [List.length_append,List.length_singleton] at hi
 by_cases c:i < L.length
 ·rw [List.getD_eq_getElem?_getD,List.getElem?_append_left (by rw [h.lb.len]; exact c),← List.getD_eq_getElem?_getD] at q
  exact h.nw i c b q
 ·have e:i=L.length:=by omega
  rw [List.getD_eq_getElem?_getD,List.getElem?_append_right (by rw [h.lb.len]; omega),h.lb.len,e,Nat.sub_self] at q
  exact hnw b q
end
end SndA
set_option maxRecDepth 20000 in
set_option maxHeartbeats 8000000 in
theorem copreg_l (w0 w:World) (ib hb cg len cc k:Nat) (n:Int) (ve vr vc p4 p5 p6 p7 x:Value) (L:List (List Int)) (vs:List Value) (l:List Int) (hC:CPs w0 w hb n ve vr vc p4 p5 p6 p7 L vs) (hk:(k:Int) < (len:Int)) (hi:w.cell? ⟨ib,3,none⟩=some (.slice (some ⟨cg,0,none⟩) len cc)) (hc:w.cell? ⟨cg,k,none⟩=some x) (hx:LV w x l) (hl:l.length≤1000) (hL:L.length≤1000)
  (z0 z2 z5 z6 z7 z8 z9 z10 z11 z12 z13 z14 z15 z16 z17 z18 z19 z20 z21 z22 z23 z24 z25 z26 z27 z28 z29:Value) (Q:Exit→Act→World→Prop)
  (hQp:∀ c (a:Act) (d:Tmp) v w,Q (.panic c) (a.put (some d) v) w→Q (.panic c) a w)
  (hQ:∀ (y18 y19 y20 y21 y22 y23 y24 y25 y26 y27 y28 x' v':Value) (W:World),CPs w0 W hb n ve vr v' p4 p5 p6 p7 (L ++ [l]) (vs ++ [x'])→Q .normal { tmps:=(z0::.pointer (some ⟨ib,0,none⟩)::z2::.pointer (some ⟨hb,0,none⟩)::.int .i64 (k:Int)::z5::z6::z7::z8::z9::z10::z11::z12::z13::z14::z15::z16::z17::y18::y19::y20::y21::y22::y23::y24::y25::y26::y27::y28::z29::[]).toArray,defers:=[] } W) :
  Code.wp Try.prog (Code.region 7 rgI0 true) Q { tmps:=(z0::.pointer (some ⟨ib,0,none⟩)::z2::.pointer (some ⟨hb,0,none⟩)::.int .i64 (k:Int)::z5::z6::z7::z8::z9::z10::z11::z12::z13::z14::z15::z16::z17::z18::z19::z20::z21::z22::z23::z24::z25::z26::z27::z28::z29::[]).toArray,defers:=[] } w:=by
 unfold rgI0
 refine wp_region_any (by kernel_rfl) ?_
 have hX:=hC.next (bel_drewN w 1)
 have hW:Below w.heap.size w (World.drew w):=bel_drewN w 1
 obtain ⟨xa,xc,rfl⟩:=own_len hx
 clear hC
 change wpAny _ _ _ _ _ _ _ (World.drew _)
 change CPs w0 (World.drew w) _ _ _ _ _ _ _ _ _ _ _ at hX
 generalize World.drew w=W at hX hW ⊢
 have hWs:w0.heap.size≤W.heap.size:=hX.fr.size
 refine wpAny_take (i:=0) (v:=.pointer (some ⟨hb,3,none⟩)) rfl (by kernel_rfl) (by kernel_rfl) (by kernel_rfl) (fun c a w=>hQp c a _ _ w) (Or.inl ⟨by rfl,?_⟩) ?_
 ·intro w
  go_simp
 refine wpAny_take (i:=2) (v:=.pointer (some ⟨ib,3,none⟩)) rfl (by kernel_rfl) (by kernel_rfl) (by kernel_rfl) (fun c a w=>hQp c a _ _ w) (Or.inl ⟨by rfl,?_⟩) ?_
 ·intro w
  go_simp
 refine wpAny_take (i:=4) (v:=.int .i64 (k:Int)) rfl (by kernel_rfl) (by kernel_rfl) (by kernel_rfl) (fun c a w=>hQp c a _ _ w) (Or.inl ⟨by rfl,?_⟩) ?_
 ·intro w
  go_simp
 show wpAny _ _ _ _ 9 _ _ _
 refine wpAny_all (rs:=[1,3]) (by kernel_rfl) (by simp) ?_
 intro i hi
 simp only [List.mem_cons,List.not_mem_nil,or_false] at hi
 rcases hi with rfl | rfl
 ·have d1:=hX.c3
  refine wpOp_one (o:=ogI0) (by rfl) rfl ?_
  unfold ogI0
  unfold Oper.wp
  go_simp
  clear d1
  refine wpAny_all (rs:=[3]) (by kernel_rfl) (by simp) ?_
  intro i hi
  simp only [List.mem_singleton] at hi
  subst hi
  have d3:=cell_next hi hW
  refine wpOp_one (o:=ogI1) (by rfl) rfl ?_
  unfold ogI1
  unfold Oper.wp
  go_simp
  clear d3
  refine wpAny_take (i:=5) (v:=.pointer (some ⟨cg,k,none⟩)) rfl (by kernel_rfl) (by kernel_rfl) (by kernel_rfl) (fun c a w=>hQp c a _ _ w) (Or.inl ⟨by rfl,?_⟩) ?_
  ·intro w
   go_simp
  refine wpAny_all (rs:=[6]) (by kernel_rfl) (by simp) ?_
  intro i hi
  simp only [List.mem_singleton] at hi
  subst hi
  have d6:=cell_next hc hW
  refine wpOp_one (o:=ogI2) (by rfl) rfl ?_
  unfold ogI2
  unfold Oper.wp
  go_simp
  clear d6
  refine wpAny_all (rs:=[7]) (by kernel_rfl) (by simp) ?_
  intro i hi
  simp only [List.mem_singleton] at hi
  subst hi
  obtain ⟨v7,W7,hr7,ho7,hb7⟩:=copy_any (hx.next hW) hl
  have hX7:=hX.next hb7
  obtain ⟨a7,c7,rfl⟩:=own_len ho7
  clear hX
  have hX:=hX7
  clear hX7
  refine wpOp_one (o:=ogI3) (by rfl) rfl ?_
  unfold ogI3
  refine appOp (Operand.const (Value.slice none 0 0)) (Operand.tmp 24) 22 rfl (by kernel_rfl) (by kernel_rfl) hr7 ?_
  refine wpAny_all (rs:=[8]) (by kernel_rfl) (by simp) ?_
  intro i hi
  simp only [List.mem_singleton] at hi
  subst hi
  have hX8:=hX.next ((Below.refl W7.heap.size W7).alloc (Nat.le_refl _) (Obj.cells ([.slice a7 l.length c7]:List Value).toArray 22 (0,0)))
  clear hX
  have hX:=hX8
  clear hX8
  refine wpOp_one (o:=ogI4) (by rfl) rfl ?_
  unfold ogI4
  unfold Oper.wp
  go_simp
  refine wpAny_all (rs:=[9]) (by kernel_rfl) (by simp) ?_
  intro i hi
  simp only [List.mem_singleton] at hi
  subst hi
  obtain ⟨v9,W9,hr9,hn9,hg9,hv9⟩:=app_any hX.lb.own hX.fr.size Try.underlying35 infoSl rfl (by omega) (by omega) 35 (some ⟨W7.heap.size,0,none⟩) 1 1 [.slice a7 l.length c7] rfl (.inr ⟨_,rfl,World.news_of_block (cs:=([.slice a7 l.length c7]:List Value).toArray) (t:=22) (fr:=(0,0)) (heap_alloc_new W7 _)⟩) (by intro u hu; simp at hu; subst hu; rfl) (by omega)
  obtain ⟨hE9,k1,k2⟩:=hX.grow (l:=l) ((own_lower ho7 (Nat.zero_le _)).alloc _) (fun b q=>by have:=(ho7.lt b q).1; have:=hWs; omega) hg9 hn9 hv9
  obtain ⟨a9,c9,rfl⟩:=own_len hn9
  refine wpOp_one (o:=ogI5) (by rfl) rfl ?_
  unfold ogI5
  refine appOp (Operand.tmp 19) (Operand.tmp 26) 35 rfl (by kernel_rfl) (by kernel_rfl) hr9 ?_
  refine wpAny_all (rs:=[10]) (by kernel_rfl) (by simp) ?_
  intro i hi
  simp only [List.mem_singleton] at hi
  subst hi
  refine wpOp_one (o:=ogI6) (by rfl) rfl ?_
  unfold ogI6
  unfold Oper.wp
  go_simp
  refine wpAny_all (rs:=[11]) (by kernel_rfl) (by simp) ?_
  intro i hi
  simp only [List.mem_singleton] at hi
  subst hi
  refine wpOp_one (o:=ogI7) (by rfl) rfl ?_
  unfold ogI7
  unfold Oper.wp
  go_simp
  refine wpAny_done (by kernel_rfl) ?_ _
  exact hQ _ _ _ _ _ _ _ _ _ _ _ _ _ (W9.setCell ⟨hb,3,none⟩ _) hE9
 ·have d3:=cell_next hi hW
  refine wpOp_one (o:=ogI1) (by rfl) rfl ?_
  unfold ogI1
  unfold Oper.wp
  go_simp
  clear d3
  refine wpAny_take (i:=5) (v:=.pointer (some ⟨cg,k,none⟩)) rfl (by kernel_rfl) (by kernel_rfl) (by kernel_rfl) (fun c a w=>hQp c a _ _ w) (Or.inl ⟨by rfl,?_⟩) ?_
  ·intro w
   go_simp
  refine wpAny_all (rs:=[1,6]) (by kernel_rfl) (by simp) ?_
  intro i hi
  simp only [List.mem_cons,List.not_mem_nil,or_false] at hi
  rcases hi with rfl | rfl
  ·have d1:=hX.c3
   refine wpOp_one (o:=ogI0) (by rfl) rfl ?_
   unfold ogI0
   unfold Oper.wp
   go_simp
   clear d1
   refine wpAny_all (rs:=[6]) (by kernel_rfl) (by simp) ?_
   intro i hi
   simp only [List.mem_singleton] at hi
   subst hi
   have d6:=cell_next hc hW
   refine wpOp_one (o:=ogI2) (by rfl) rfl ?_
   unfold ogI2
   unfold Oper.wp
   go_simp
   clear d6
   refine wpAny_all (rs:=[7]) (by kernel_rfl) (by simp) ?_
   intro i hi
   simp only [List.mem_singleton] at hi
   subst hi
   obtain ⟨v7,W7,hr7,ho7,hb7⟩:=copy_any (hx.next hW) hl
   have hX7:=hX.next hb7
   obtain ⟨a7,c7,rfl⟩:=own_len ho7
   clear hX
   have hX:=hX7
   clear hX7
   refine wpOp_one (o:=ogI3) (by rfl) rfl ?_
   unfold ogI3
   refine appOp (Operand.const (Value.slice none 0 0)) (Operand.tmp 24) 22 rfl (by kernel_rfl) (by kernel_rfl) hr7 ?_
   refine wpAny_all (rs:=[8]) (by kernel_rfl) (by simp) ?_
   intro i hi
   simp only [List.mem_singleton] at hi
   subst hi
   have hX8:=hX.next ((Below.refl W7.heap.size W7).alloc (Nat.le_refl _) (Obj.cells ([.slice a7 l.length c7]:List Value).toArray 22 (0,0)))
   clear hX
   have hX:=hX8
   clear hX8
   refine wpOp_one (o:=ogI4) (by rfl) rfl ?_
   unfold ogI4
   unfold Oper.wp
   go_simp
   refine wpAny_all (rs:=[9]) (by kernel_rfl) (by simp) ?_
   intro i hi
   simp only [List.mem_singleton] at hi
   subst hi
   obtain ⟨v9,W9,hr9,hn9,hg9,hv9⟩:=app_any hX.lb.own hX.fr.size Try.underlying35 infoSl rfl (by omega) (by omega) 35 (some ⟨W7.heap.size,0,none⟩) 1 1 [.slice a7 l.length c7] rfl (.inr ⟨_,rfl,World.news_of_block (cs:=([.slice a7 l.length c7]:List Value).toArray) (t:=22) (fr:=(0,0)) (heap_alloc_new W7 _)⟩) (by intro u hu; simp at hu; subst hu; rfl) (by omega)
   obtain ⟨hE9,k1,k2⟩:=hX.grow (l:=l) ((own_lower ho7 (Nat.zero_le _)).alloc _) (fun b q=>by have:=(ho7.lt b q).1; have:=hWs; omega) hg9 hn9 hv9
   obtain ⟨a9,c9,rfl⟩:=own_len hn9
   refine wpOp_one (o:=ogI5) (by rfl) rfl ?_
   unfold ogI5
   refine appOp (Operand.tmp 19) (Operand.tmp 26) 35 rfl (by kernel_rfl) (by kernel_rfl) hr9 ?_
   refine wpAny_all (rs:=[10]) (by kernel_rfl) (by simp) ?_
   intro i hi
   simp only [List.mem_singleton] at hi
   subst hi
   refine wpOp_one (o:=ogI6) (by rfl) rfl ?_
   unfold ogI6
   unfold Oper.wp
   go_simp
   refine wpAny_all (rs:=[11]) (by kernel_rfl) (by simp) ?_
   intro i hi
   simp only [List.mem_singleton] at hi
   subst hi
   refine wpOp_one (o:=ogI7) (by rfl) rfl ?_
   unfold ogI7
   unfold Oper.wp
   go_simp
   refine wpAny_done (by kernel_rfl) ?_ _
   exact hQ _ _ _ _ _ _ _ _ _ _ _ _ _ (W9.setCell ⟨hb,3,none⟩ _) hE9
  ·have d6:=cell_next hc hW
   refine wpOp_one (o:=ogI2) (by rfl) rfl ?_
   unfold ogI2
   unfold Oper.wp
   go_simp
   clear d6
   refine wpAny_all (rs:=[1,7]) (by kernel_rfl) (by simp) ?_
   intro i hi
   simp only [List.mem_cons,List.not_mem_nil,or_false] at hi
   rcases hi with rfl | rfl
   ·have d1:=hX.c3
    refine wpOp_one (o:=ogI0) (by rfl) rfl ?_
    unfold ogI0
    unfold Oper.wp
    go_simp
    clear d1
    refine wpAny_all (rs:=[7]) (by kernel_rfl) (by simp) ?_
    intro i hi
    simp only [List.mem_singleton] at hi
    subst hi
    obtain ⟨v7,W7,hr7,ho7,hb7⟩:=copy_any (hx.next hW) hl
    have hX7:=hX.next hb7
    obtain ⟨a7,c7,rfl⟩:=own_len ho7
    clear hX
    have hX:=hX7
    clear hX7
    refine wpOp_one (o:=ogI3) (by rfl) rfl ?_
    unfold ogI3
    refine appOp (Operand.const (Value.slice none 0 0)) (Operand.tmp 24) 22 rfl (by kernel_rfl) (by kernel_rfl) hr7 ?_
    refine wpAny_all (rs:=[8]) (by kernel_rfl) (by simp) ?_
    intro i hi
    simp only [List.mem_singleton] at hi
    subst hi
    have hX8:=hX.next ((Below.refl W7.heap.size W7).alloc (Nat.le_refl _) (Obj.cells ([.slice a7 l.length c7]:List Value).toArray 22 (0,0)))
    clear hX
    have hX:=hX8
    clear hX8
    refine wpOp_one (o:=ogI4) (by rfl) rfl ?_
    unfold ogI4
    unfold Oper.wp
    go_simp
    refine wpAny_all (rs:=[9]) (by kernel_rfl) (by simp) ?_
    intro i hi
    simp only [List.mem_singleton] at hi
    subst hi
    obtain ⟨v9,W9,hr9,hn9,hg9,hv9⟩:=app_any hX.lb.own hX.fr.size Try.underlying35 infoSl rfl (by omega) (by omega) 35 (some ⟨W7.heap.size,0,none⟩) 1 1 [.slice a7 l.length c7] rfl (.inr ⟨_,rfl,World.news_of_block (cs:=([.slice a7 l.length c7]:List Value).toArray) (t:=22) (fr:=(0,0)) (heap_alloc_new W7 _)⟩) (by intro u hu; simp at hu; subst hu; rfl) (by omega)
    obtain ⟨hE9,k1,k2⟩:=hX.grow (l:=l) ((own_lower ho7 (Nat.zero_le _)).alloc _) (fun b q=>by have:=(ho7.lt b q).1; have:=hWs; omega) hg9 hn9 hv9
    obtain ⟨a9,c9,rfl⟩:=own_len hn9
    refine wpOp_one (o:=ogI5) (by rfl) rfl ?_
    unfold ogI5
    refine appOp (Operand.tmp 19) (Operand.tmp 26) 35 rfl (by kernel_rfl) (by kernel_rfl) hr9 ?_
    refine wpAny_all (rs:=[10]) (by kernel_rfl) (by simp) ?_
    intro i hi
    simp only [List.mem_singleton] at hi
    subst hi
    refine wpOp_one (o:=ogI6) (by rfl) rfl ?_
    unfold ogI6
    unfold Oper.wp
    go_simp
    refine wpAny_all (rs:=[11]) (by kernel_rfl) (by simp) ?_
    intro i hi
    simp only [List.mem_singleton] at hi
    subst hi
    refine wpOp_one (o:=ogI7) (by rfl) rfl ?_
    unfold ogI7
    unfold Oper.wp
    go_simp
    refine wpAny_done (by kernel_rfl) ?_ _
    exact hQ _ _ _ _ _ _ _ _ _ _ _ _ _ (W9.setCell ⟨hb,3,none⟩ _) hE9
   ·obtain ⟨v7,W7,hr7,ho7,hb7⟩:=copy_any (hx.next hW) hl
    have hX7:=hX.next hb7
    obtain ⟨a7,c7,rfl⟩:=own_len ho7
    clear hX
    have hX:=hX7
    clear hX7
    refine wpOp_one (o:=ogI3) (by rfl) rfl ?_
    unfold ogI3
    refine appOp (Operand.const (Value.slice none 0 0)) (Operand.tmp 24) 22 rfl (by kernel_rfl) (by kernel_rfl) hr7 ?_
    refine wpAny_all (rs:=[1,8]) (by kernel_rfl) (by simp) ?_
    intro i hi
    simp only [List.mem_cons,List.not_mem_nil,or_false] at hi
    rcases hi with rfl | rfl
    ·have d1:=hX.c3
     refine wpOp_one (o:=ogI0) (by rfl) rfl ?_
     unfold ogI0
     unfold Oper.wp
     go_simp
     clear d1
     refine wpAny_all (rs:=[8]) (by kernel_rfl) (by simp) ?_
     intro i hi
     simp only [List.mem_singleton] at hi
     subst hi
     have hX8:=hX.next ((Below.refl W7.heap.size W7).alloc (Nat.le_refl _) (Obj.cells ([.slice a7 l.length c7]:List Value).toArray 22 (0,0)))
     clear hX
     have hX:=hX8
     clear hX8
     refine wpOp_one (o:=ogI4) (by rfl) rfl ?_
     unfold ogI4
     unfold Oper.wp
     go_simp
     refine wpAny_all (rs:=[9]) (by kernel_rfl) (by simp) ?_
     intro i hi
     simp only [List.mem_singleton] at hi
     subst hi
     obtain ⟨v9,W9,hr9,hn9,hg9,hv9⟩:=app_any hX.lb.own hX.fr.size Try.underlying35 infoSl rfl (by omega) (by omega) 35 (some ⟨W7.heap.size,0,none⟩) 1 1 [.slice a7 l.length c7] rfl (.inr ⟨_,rfl,World.news_of_block (cs:=([.slice a7 l.length c7]:List Value).toArray) (t:=22) (fr:=(0,0)) (heap_alloc_new W7 _)⟩) (by intro u hu; simp at hu; subst hu; rfl) (by omega)
     obtain ⟨hE9,k1,k2⟩:=hX.grow (l:=l) ((own_lower ho7 (Nat.zero_le _)).alloc _) (fun b q=>by have:=(ho7.lt b q).1; have:=hWs; omega) hg9 hn9 hv9
     obtain ⟨a9,c9,rfl⟩:=own_len hn9
     refine wpOp_one (o:=ogI5) (by rfl) rfl ?_
     unfold ogI5
     refine appOp (Operand.tmp 19) (Operand.tmp 26) 35 rfl (by kernel_rfl) (by kernel_rfl) hr9 ?_
     refine wpAny_all (rs:=[10]) (by kernel_rfl) (by simp) ?_
     intro i hi
     simp only [List.mem_singleton] at hi
     subst hi
     refine wpOp_one (o:=ogI6) (by rfl) rfl ?_
     unfold ogI6
     unfold Oper.wp
     go_simp
     refine wpAny_all (rs:=[11]) (by kernel_rfl) (by simp) ?_
     intro i hi
     simp only [List.mem_singleton] at hi
     subst hi
     refine wpOp_one (o:=ogI7) (by rfl) rfl ?_
     unfold ogI7
     unfold Oper.wp
     go_simp
     refine wpAny_done (by kernel_rfl) ?_ _
     exact hQ _ _ _ _ _ _ _ _ _ _ _ _ _ (W9.setCell ⟨hb,3,none⟩ _) hE9
    ·have hX8:=hX.next ((Below.refl W7.heap.size W7).alloc (Nat.le_refl _) (Obj.cells ([.slice a7 l.length c7]:List Value).toArray 22 (0,0)))
     clear hX
     have hX:=hX8
     clear hX8
     refine wpOp_one (o:=ogI4) (by rfl) rfl ?_
     unfold ogI4
     unfold Oper.wp
     go_simp
     refine wpAny_all (rs:=[1]) (by kernel_rfl) (by simp) ?_
     intro i hi
     simp only [List.mem_singleton] at hi
     subst hi
     have d1:=hX.c3
     refine wpOp_one (o:=ogI0) (by rfl) rfl ?_
     unfold ogI0
     unfold Oper.wp
     go_simp
     clear d1
     refine wpAny_all (rs:=[9]) (by kernel_rfl) (by simp) ?_
     intro i hi
     simp only [List.mem_singleton] at hi
     subst hi
     obtain ⟨v9,W9,hr9,hn9,hg9,hv9⟩:=app_any hX.lb.own hX.fr.size Try.underlying35 infoSl rfl (by omega) (by omega) 35 (some ⟨W7.heap.size,0,none⟩) 1 1 [.slice a7 l.length c7] rfl (.inr ⟨_,rfl,World.news_of_block (cs:=([.slice a7 l.length c7]:List Value).toArray) (t:=22) (fr:=(0,0)) (heap_alloc_new W7 _)⟩) (by intro u hu; simp at hu; subst hu; rfl) (by omega)
     obtain ⟨hE9,k1,k2⟩:=hX.grow (l:=l) ((own_lower ho7 (Nat.zero_le _)).alloc _) (fun b q=>by have:=(ho7.lt b q).1; have:=hWs; omega) hg9 hn9 hv9
     obtain ⟨a9,c9,rfl⟩:=own_len hn9
     refine wpOp_one (o:=ogI5) (by rfl) rfl ?_
     unfold ogI5
     refine appOp (Operand.tmp 19) (Operand.tmp 26) 35 rfl (by kernel_rfl) (by kernel_rfl) hr9 ?_
     refine wpAny_all (rs:=[10]) (by kernel_rfl) (by simp) ?_
     intro i hi
     simp only [List.mem_singleton] at hi
     subst hi
     refine wpOp_one (o:=ogI6) (by rfl) rfl ?_
     unfold ogI6
     unfold Oper.wp
     go_simp
     refine wpAny_all (rs:=[11]) (by kernel_rfl) (by simp) ?_
     intro i hi
     simp only [List.mem_singleton] at hi
     subst hi
     refine wpOp_one (o:=ogI7) (by rfl) rfl ?_
     unfold ogI7
     unfold Oper.wp
     go_simp
     refine wpAny_done (by kernel_rfl) ?_ _
     exact hQ _ _ _ _ _ _ _ _ _ _ _ _ _ (W9.setCell ⟨hb,3,none⟩ _) hE9
namespace SndA
def Sl (v:Value):Prop:=∃ a n c,v=.slice a n c
def CopyV (b:Nat) (w':World) (n:Int) (ve p4 p5 p6 p7:Value) (R:List Int) (C:List (List Int)) (e:Ending):Prop:=∃ vr' vc' cvs',e=.returned (.agg #[.int .i64 n,ve,vr',vc',p4,p5,p6,p7])∧w'.ownsRow b 3 1 vr' R.length (nints R)∧LB b w' vc' C cvs'∧∀ i,i < C.length→∀ g,(cvs'.getD i undef).ownBlock=some g→b≤g
end SndA
set_option maxRecDepth 100000 in
set_option maxHeartbeats 16000000 in
theorem rcopied_any (n:Int) (ve vr vc p4 p5 p6 p7:Value) (R:List Int) (C:List (List Int)) (cvs:List Value) (w:World) (hsl:Sl ve∧Sl p4∧Sl p5∧Sl p6∧Sl p7) (h:LV w vr R) (hR:R.length≤1000) (hc:LB 0 w vc C cvs) (hC:C.length≤1000) (hl:∀ i,i < C.length→(C.getD i []).length≤1000) :
  Calls Try.prog 79 #[.agg #[.int .i64 n,ve,vr,vc,p4,p5,p6,p7]] w fun e w'=>CopyV w.heap.size w' n ve p4 p5 p6 p7 R C e∧Below w.heap.size w w':=by
 have HR0:=Lib.hid h
 have HC0:=Lib.hid hc
 have HLL:=Lib.hid hl
 have hCi:(C.length:Int)≤1000:=by omega
 obtain ⟨⟨ea,en,ec,rfl⟩,⟨a4,n4,c4,rfl⟩,⟨a5,n5,c5,rfl⟩,⟨a6,n6,c6,rfl⟩,⟨a7,n7,c7,rfl⟩⟩:=hsl
 obtain ⟨ra,rc,rfl⟩:=own_len h
 obtain ⟨ca,cc,rfl⟩:=own_len hc.own
 clear h hc hl
 go_enter Try.func79,Try.ntmps79
 go_upto_region 2 with (fail)
 obtain ⟨W1,hW1⟩:∃ x,x=((w.alloc (Obj.cells #[.int .i64 n,.slice ea en ec,.slice ra R.length rc,.slice ca C.length cc,.slice a4 n4 c4,.slice a5 n5 c5,.slice a6 n6 c6,.slice a7 n7 c7] 38 (0,0))).alloc (Obj.cells #[.int .i64 0,.slice none 0 0,.slice none 0 0,.slice none 0 0,.slice none 0 0,.slice none 0 0,.slice none 0 0,.slice none 0 0] 38 (0,0))).alloc (Obj.cells #[.int .i64 n,.slice ea en ec,.slice ra R.length rc,.slice ca C.length cc,.slice a4 n4 c4,.slice a5 n5 c5,.slice a6 n6 c6,.slice a7 n7 c7] 38 (0,0)):=⟨_,rfl⟩
 rw [← hW1]
 obtain ⟨hI,hQ,hH,hb1,hs1⟩:W1.heap[w.heap.size]?=some (Obj.cells #[.int .i64 n,.slice ea en ec,.slice ra R.length rc,.slice ca C.length cc,.slice a4 n4 c4,.slice a5 n5 c5,.slice a6 n6 c6,.slice a7 n7 c7] 38 (0,0))∧W1.heap[w.heap.size + 1]?=some (Obj.cells #[.int .i64 0,.slice none 0 0,.slice none 0 0,.slice none 0 0,.slice none 0 0,.slice none 0 0,.slice none 0 0,.slice none 0 0] 38 (0,0))∧W1.heap[w.heap.size + 1 + 1]?=some (Obj.cells #[.int .i64 n,.slice ea en ec,.slice ra R.length rc,.slice ca C.length cc,.slice a4 n4 c4,.slice a5 n5 c5,.slice a6 n6 c6,.slice a7 n7 c7] 38 (0,0))∧Below w.heap.size w W1∧W1.heap.size=w.heap.size + 1 + 1 + 1:=by
  have e1:=size_alloc1 w (Obj.cells #[.int .i64 n,.slice ea en ec,.slice ra R.length rc,.slice ca C.length cc,.slice a4 n4 c4,.slice a5 n5 c5,.slice a6 n6 c6,.slice a7 n7 c7] 38 (0,0))
  have e2:=size_alloc1 (w.alloc (Obj.cells #[.int .i64 n,.slice ea en ec,.slice ra R.length rc,.slice ca C.length cc,.slice a4 n4 c4,.slice a5 n5 c5,.slice a6 n6 c6,.slice a7 n7 c7] 38 (0,0))) (Obj.cells #[.int .i64 0,.slice none 0 0,.slice none 0 0,.slice none 0 0,.slice none 0 0,.slice none 0 0,.slice none 0 0,.slice none 0 0] 38 (0,0))
  rw [hW1]
  refine ⟨?_,?_,?_,?_,?_⟩
  ·exact (alloc_old _ _ _ (by omega)).trans ((alloc_old _ _ _ (by omega)).trans (heap_alloc_new _ _))
  ·exact (alloc_old _ _ _ (by omega)).trans (at_new _ _ _ (by omega))
  ·exact at_new _ _ _ (by omega)
  ·exact (((Below.refl _ _).alloc (Nat.le_refl _) _).alloc (by omega) _).alloc (by omega) _
  ·rw [size_alloc1,e2,e1]
 clear hW1
 obtain ⟨qb,hqb⟩:∃ x,x=w.heap.size + 1:=⟨_,rfl⟩
 obtain ⟨hb,hhb⟩:∃ x,x=w.heap.size + 1 + 1:=⟨_,rfl⟩
 have HNE:Hid (w.heap.size < W1.heap.size∧qb < W1.heap.size∧hb < W1.heap.size∧w.heap.size ≠ hb∧qb ≠ hb∧w.heap.size ≠ qb∧w.heap.size≤qb∧w.heap.size≤hb):=Lib.hid (by omega)
 rw [← hhb,← hqb]
 rw [← hhb] at hH
 rw [← hqb] at hQ
 have HI:=Lib.hid hI
 have HQ:=Lib.hid hQ
 have HH:=Lib.hid hH
 have HB1:=Lib.hid hb1
 clear hqb hhb hI hQ hH hb1 hs1
 have i2:W1.cell? ⟨w.heap.size,2,none⟩=some (.slice ra R.length rc):=cell_of_row _ _ _ _ _ _ HI.out
 have HR1:=Lib.hid (HR0.out.next HB1.out)
 go_cut [3] (fun x3 wx=>x3=.pointer (some ⟨hb,0,none⟩)∧∃ (v2:Value) (w2:World),wx=w2.setCell ⟨hb,2,none⟩ v2∧Below W1.heap.size W1 w2∧w2.ownsRow W1.heap.size 3 1 v2 R.length (nints R))
 case first=>
  go_wp2_with (first
   | (at_builtin; refine wpList_copy rfl _ rfl rfl rfl HR1.out (by omega) ?_; intro v2 w2 hv2 hb2; have HV2:=Lib.hid hv2; have HB2:=Lib.hid hb2; clear hv2; obtain ⟨va2,vc2,hve2⟩:=own_len HV2.out; subst hve2; have hH2:=(hb2.block hb HNE.out.2.2.1).trans HH.out; have k2:=cell_of_row _ hb 2 _ _ _ hH2; have f2:=frozen_of_row _ hb 2 _ _ hH2; clear hH2 hb2)
   | fail)
  go_meet
  exact ⟨rfl,_,w2,rfl,HB2.out,HV2.out⟩
 case rest=>
  obtain ⟨rfl,v2,w2,rfl,hb2,hv2⟩:=hcut
  obtain ⟨va2,vc2,rfl⟩:=own_len hv2
  have hH2:=(hb2.block hb HNE.out.2.2.1).trans HH.out
  have hH3:=heap_setCell_same w2 hb 2 _ _ (.slice va2 R.length vc2) hH2
  have hH4:=heap_setCell_same (w2.setCell ⟨hb,2,none⟩ (.slice va2 R.length vc2)) hb 3 _ _ (.slice none 0 0) hH3
  have hF4:Fr (fun b=>b=hb) W1 ((w2.setCell ⟨hb,2,none⟩ (.slice va2 R.length vc2)).setCell ⟨hb,3,none⟩ (.slice none 0 0)):=((Fr.of_below hb2).trans (Fr.set w2 hb 2 _ (X:=fun b=>b=hb) rfl)).trans (Fr.set _ hb 3 _ (X:=fun b=>b=hb) rfl)
  have k3:=cell_of_row _ hb 3 _ _ _ hH3
  have f3:=frozen_of_row _ hb 3 _ _ hH3
  have HV4:Hid (((w2.setCell ⟨hb,2,none⟩ (.slice va2 R.length vc2)).setCell ⟨hb,3,none⟩ (.slice none 0 0)).ownsRow W1.heap.size 3 1 (.slice va2 R.length vc2) R.length (nints R)):=Lib.hid (own_fr hv2 ((Fr.set w2 hb 2 _ (X:=fun b=>b=hb) rfl).trans (Fr.set _ hb 3 _ (X:=fun b=>b=hb) rfl)) (fun g q r=>own_typ hv2 hH2 (by decide) (by rw [q,r])))
  have HH4:=Lib.hid hH4
  have HF4:=Lib.hid hF4
  clear hH2 hH3 hH4 hF4 hb2 hv2 i2
  go_upto_region 4 with (fail)
  generalize World.setCell (World.setCell w2 _ _) _ _=w4 at HV4 HH4 HF4 ⊢
  have HNE4:Hid (hb < w4.heap.size):=Lib.hid (blk_lt HH4.out)
  clear k3 f3
  go_wp2_with fail
  go_loopw [4] (fun x wr=>∃ (k:Nat) (v':Value) (vs':List Value),k≤C.length∧x=.int .i64 (k:Int)∧Hid (CPs w4 wr hb n (.slice ea en ec) (.slice va2 R.length vc2) v' (.slice a4 n4 c4) (.slice a5 n5 c5) (.slice a6 n6 c6) (.slice a7 n7 c7) (C.take k) vs')) (fun x _=>C.length - (intOf x).toNat)
  case atStart=>exact ⟨0,_,[],Nat.zero_le _,rfl,Lib.hid ⟨HH4.out,LB.nil _ _,fun i hi=>by simp at hi,Fr.refl _ _,HNE4.out⟩⟩
  case round=>
   obtain ⟨k,v',vs',hk,rfl,HP⟩:=hrel
   have hki:(k:Int)≤1000:=by omega
   have hIr:wr.heap[w.heap.size]?=_:=(HP.out.fr.keep w.heap.size (Nat.lt_of_lt_of_le HNE.out.1 HF4.out.size) HNE.out.2.2.2.1).trans ((HF4.out.keep w.heap.size HNE.out.1 HNE.out.2.2.2.1).trans HI.out)
   have i3:wr.cell? ⟨w.heap.size,3,none⟩=some (.slice ca C.length cc):=cell_of_row _ _ _ _ _ _ hIr
   clear hIr
   by_cases hlt:k < C.length
   ·have d1:decide ((k:Int) < (C.length:Int))=true:=by rw [decide_eq_true_iff]; omega
    have j1:(k:Int) < (C.length:Int):=by omega
    obtain ⟨cg,cc',hce,hcg,hcl⟩:=HC0.out.cell hlt
    simp only [Value.slice.injEq] at hce
    obtain ⟨rfl,-,rfl⟩:=hce
    have hF:Fr (fun b=>b=hb) w wr:=((Fr.of_below HB1.out).trans HF4.out).trans HP.out.fr
    have hcl2:=hF.cell hcl (fun q=>by have:=HNE.out.2.2.2.2.2.2.2; simp only at q; omega)
    have hel:=HC0.out.el k hlt
    have hel2:LV wr _ _:=own_fr hel hF (fun g q r=>by have:=(hel.lt g q).2; have:=HNE.out.2.2.2.2.2.2.2; omega)
    have HCL:=Lib.hid hcl2
    have HEL:=Lib.hid hel2
    have HT:Hid (C.take (k + 1)=C.take k ++ [C.getD k []]):=Lib.hid (take_one hlt _)
    clear hcl hcl2 hel hel2 hF
    go_wp2_with fail
    refine copreg_l w4 wr w.heap.size hb cg C.length cc k n _ _ _ _ _ _ _ _ (C.take k) vs' _ HP.out j1 i3 HCL.out HEL.out (HLL.out k hlt) (by simp; omega) _ _ _ _ _ _ _ _ _ _ _ _ _ _ _ _ _ _ _ _ _ _ _ _ _ _ _ _ (fun _ _ _ _ _ h=>h) ?_
    intro y18 y19 y20 y21 y22 y23 y24 y25 y26 y27 y28 x' v2 W2 hP2
    have HP2:=Lib.hid hP2
    rw [← HT.out] at HP2
    clear hP2 i3
    go_wp2_with fail
    go_roundw
    case rel=>exact ⟨k + 1,_,_,hlt,by go_num,HP2⟩
    case measure=>simp [intOf]; omega
   ·have d1:decide ((k:Int) < (C.length:Int))=false:=by rw [decide_eq_false_iff_not]; omega
    have j1:¬ (k:Int) < (C.length:Int):=by omega
    have e:C.take k=C:=List.take_of_length_le (by omega)
    rw [e] at HP
    obtain ⟨oa,oc,rfl⟩:=own_len HP.out.lb.own
    have hHr:=HP.out.box
    have hQr:wr.heap[qb]?=_:=(HP.out.fr.keep qb (Nat.lt_of_lt_of_le HNE.out.2.1 HF4.out.size) HNE.out.2.2.2.2.1).trans ((HF4.out.keep qb HNE.out.2.1 HNE.out.2.2.2.2.1).trans HQ.out)
    have HQR:=Lib.hid hQr
    have g0:wr.cell? ⟨hb,0,none⟩=some (.int .i64 n):=cell_of_row _ _ _ _ _ _ hHr
    have g1:wr.cell? ⟨hb,1,none⟩=some (.slice ea en ec):=cell_of_row _ _ _ _ _ _ hHr
    have g2:wr.cell? ⟨hb,2,none⟩=some (.slice va2 R.length vc2):=cell_of_row _ _ _ _ _ _ hHr
    have g3:wr.cell? ⟨hb,3,none⟩=some (.slice oa C.length oc):=cell_of_row _ _ _ _ _ _ hHr
    have g4:wr.cell? ⟨hb,4,none⟩=some (.slice a4 n4 c4):=cell_of_row _ _ _ _ _ _ hHr
    have g5:wr.cell? ⟨hb,5,none⟩=some (.slice a5 n5 c5):=cell_of_row _ _ _ _ _ _ hHr
    have g6:wr.cell? ⟨hb,6,none⟩=some (.slice a6 n6 c6):=cell_of_row _ _ _ _ _ _ hHr
    have g7:wr.cell? ⟨hb,7,none⟩=some (.slice a7 n7 c7):=cell_of_row _ _ _ _ _ _ hHr
    have r0:wr.cell? ⟨qb,0,none⟩=some (.int .i64 0):=cell_of_row _ _ _ _ _ _ hQr
    have r1:wr.cell? ⟨qb,1,none⟩=some (.slice none 0 0):=cell_of_row _ _ _ _ _ _ hQr
    have r2:wr.cell? ⟨qb,2,none⟩=some (.slice none 0 0):=cell_of_row _ _ _ _ _ _ hQr
    have r3:wr.cell? ⟨qb,3,none⟩=some (.slice none 0 0):=cell_of_row _ _ _ _ _ _ hQr
    have r4:wr.cell? ⟨qb,4,none⟩=some (.slice none 0 0):=cell_of_row _ _ _ _ _ _ hQr
    have r5:wr.cell? ⟨qb,5,none⟩=some (.slice none 0 0):=cell_of_row _ _ _ _ _ _ hQr
    have r6:wr.cell? ⟨qb,6,none⟩=some (.slice none 0 0):=cell_of_row _ _ _ _ _ _ hQr
    have r7:wr.cell? ⟨qb,7,none⟩=some (.slice none 0 0):=cell_of_row _ _ _ _ _ _ hQr
    have s0:wr.frozen? ⟨qb,0,none⟩=false:=frozen_of_row _ _ _ _ _ hQr
    have s1:wr.frozen? ⟨qb,1,none⟩=false:=frozen_of_row _ _ _ _ _ hQr
    have s2:wr.frozen? ⟨qb,2,none⟩=false:=frozen_of_row _ _ _ _ _ hQr
    have s3:wr.frozen? ⟨qb,3,none⟩=false:=frozen_of_row _ _ _ _ _ hQr
    have s4:wr.frozen? ⟨qb,4,none⟩=false:=frozen_of_row _ _ _ _ _ hQr
    have s5:wr.frozen? ⟨qb,5,none⟩=false:=frozen_of_row _ _ _ _ _ hQr
    have s6:wr.frozen? ⟨qb,6,none⟩=false:=frozen_of_row _ _ _ _ _ hQr
    have s7:wr.frozen? ⟨qb,7,none⟩=false:=frozen_of_row _ _ _ _ _ hQr
    clear hHr hQr e
    go_wp2_with fail
    have hres:=set8_at wr qb 38 _ _ _ _ _ _ _ _ (.int .i64 n) (.slice ea en ec) (.slice va2 R.length vc2) (.slice oa C.length oc) (.slice a4 n4 c4) (.slice a5 n5 c5) (.slice a6 n6 c6) (.slice a7 n7 c7) HQR.out
    have hfs:Fr (fun b=>b=qb) wr ((((((((wr.setCell ⟨qb,0,none⟩ (.int .i64 n)).setCell ⟨qb,1,none⟩ (.slice ea en ec)).setCell ⟨qb,2,none⟩ (.slice va2 R.length vc2)).setCell ⟨qb,3,none⟩ (.slice oa C.length oc)).setCell ⟨qb,4,none⟩ (.slice a4 n4 c4)).setCell ⟨qb,5,none⟩ (.slice a5 n5 c5)).setCell ⟨qb,6,none⟩ (.slice a6 n6 c6)).setCell ⟨qb,7,none⟩ (.slice a7 n7 c7)):=(((((((Fr.set _ qb 0 _ (X:=fun b=>b=qb) rfl).trans (Fr.set _ qb 1 _ rfl)).trans (Fr.set _ qb 2 _ rfl)).trans (Fr.set _ qb 3 _ rfl)).trans (Fr.set _ qb 4 _ rfl)).trans (Fr.set _ qb 5 _ rfl)).trans (Fr.set _ qb 6 _ rfl)).trans (Fr.set _ qb 7 _ rfl)
    have hvr:wr.ownsRow W1.heap.size 3 1 (.slice va2 R.length vc2) R.length (nints R):=own_fr HV4.out HP.out.fr (fun g q r=>own_typ HV4.out HH4.out (by decide) (by rw [q,r]))
    refine bodyPost_ret (v:=.agg #[.int .i64 n,.slice ea en ec,.slice va2 R.length vc2,.slice oa C.length oc,.slice a4 n4 c4,.slice a5 n5 c5,.slice a6 n6 c6,.slice a7 n7 c7]) ?_ rfl ⟨⟨_,_,vs',rfl,own_lower (own_fr hvr hfs (fun g q r=>own_typ hvr HQR.out (by decide) (by rw [q,r]))) HB1.out.size,⟨own_lower (own_fr HP.out.lb.own hfs (fun g q r=>own_typ HP.out.lb.own HQR.out (by decide) (by rw [q,r]))) (Nat.le_trans HB1.out.size HF4.out.size),HP.out.lb.len,fun i hi=>own_fr (HP.out.lb.el i hi) hfs (fun g q r=>own_typ (HP.out.lb.el i hi) HQR.out (by decide) (by rw [q,r]))⟩,fun i hi b q=>Nat.le_trans (Nat.le_trans HB1.out.size HF4.out.size) (HP.out.nw i hi b q)⟩,?_⟩
    ·exact results_cell_row rfl _ _ qb 38 _ (0,0) _ rfl hres Try.underlying38 rfl (by kernel_rfl)
    ·have hn:=HNE.out
     exact ((((Fr.of_below HB1.out).trans (HF4.out.mono (fun _ _ q=>Or.inl q) (Y:=fun b=>b=hb ∨ b=qb))).trans (HP.out.fr.mono (fun _ _ q=>Or.inl q))).trans (hfs.mono (fun _ _ q=>Or.inr q))).below (fun b hl q=>by rcases q with q | q <;> omega) (Nat.le_refl _)
end Go.Proofs.Yteghpophcnehgaa
