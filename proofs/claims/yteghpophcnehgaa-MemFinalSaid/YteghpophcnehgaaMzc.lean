/-
  What the functions that the law reaches do, one by one: contracts. Conditions: those that each of them prints.
-/
import Derived.Test.YteghpophcnehgaaMzb
import Derived.WalkKit
import Derived.Deep.RegionLaw
import Derived.Deep.Quiet
import Derived.Maps.AppendAt
namespace Go.Proofs.Yteghpophcnehgaa
open Go.RowKit ExprA SndA
def ogE0:Oper:={ dst:=some 45,op:=Op.call { callee:=Callee.builtin Builtin.append,args:=#[Operand.const (Value.slice none 0 0),Operand.tmp 44],argTypes:=#[22,22] },type:=22,pos := "ref.go:36", after:=#[{ on:=2,ground:=Ground.data }],guard:=none }
def ogE1:Oper:={ dst:=some 49,op:=Op.load 3 (Operand.tmp 48),type:=3,pos := "ref.go:36", after:=#[{ on:=6,ground:=Ground.data }],guard:=none }
def ogE2:Oper:={ dst:=some 50,op:=Op.buildSlice 22 1 #[(0,Operand.tmp 49)],type:=22,pos := "ref.go:36", after:=#[{ on:=7,ground:=Ground.data }],guard:=none }
def ogE3:Oper:={ dst:=some 51,op:=Op.call { callee:=Callee.builtin Builtin.append,args:=#[Operand.tmp 45,Operand.tmp 50],argTypes:=#[22,22] },type:=22,pos := "ref.go:36", after:=#[{ on:=3,ground:=Ground.data },{ on:=8,ground:=Ground.data },{ on:=3,ground:=Ground.chain }],guard:=none }
def ogE4:Oper:={ dst:=some 53,op:=Op.call { callee:=Callee.value (Operand.func 34),args:=#[Operand.tmp 42,Operand.tmp 43,Operand.tmp 51,Operand.tmp 52],argTypes:=#[44,22,22,35] },type:=35,pos := "ref.go:36", after:=#[{ on:=0,ground:=Ground.data },{ on:=1,ground:=Ground.data },{ on:=9,ground:=Ground.data },{ on:=10,ground:=Ground.data },{ on:=9,ground:=Ground.chain }],guard:=none }
def ogE5:Oper:={ dst:=some 3,op:=Op.assign (Operand.tmp 53),type:=35,pos := "ref.go:36", after:=#[{ on:=11,ground:=Ground.data },{ on:=11,ground:=Ground.chain },{ on:=0,ground:=Ground.phase },{ on:=1,ground:=Ground.phase },{ on:=2,ground:=Ground.phase },{ on:=3,ground:=Ground.phase },{ on:=4,ground:=Ground.phase },{ on:=5,ground:=Ground.phase },{ on:=6,ground:=Ground.phase },{ on:=7,ground:=Ground.phase },{ on:=8,ground:=Ground.phase },{ on:=9,ground:=Ground.phase },{ on:=10,ground:=Ground.phase },{ on:=11,ground:=Ground.phase }],guard:=none }
def rgE0:Array Oper:=#[{ dst:=some 42,op:=Op.move (Operand.tmp 0),type:=44,pos := "ref.go:36", after:=#[],guard:=none },{ dst:=some 43,op:=Op.move (Operand.tmp 1),type:=22,pos := "ref.go:36", after:=#[],guard:=none },{ dst:=some 44,op:=Op.move (Operand.tmp 2),type:=22,pos := "ref.go:36", after:=#[],guard:=none },{ dst:=some 45,op:=Op.call { callee:=Callee.builtin Builtin.append,args:=#[Operand.const (Value.slice none 0 0),Operand.tmp 44],argTypes:=#[22,22] },type:=22,pos := "ref.go:36", after:=#[{ on:=2,ground:=Ground.data }],guard:=none },{ dst:=some 46,op:=Op.move (Operand.tmp 1),type:=22,pos := "ref.go:36", after:=#[],guard:=none },{ dst:=some 47,op:=Op.move (Operand.tmp 11),type:=3,pos := "ref.go:36", after:=#[],guard:=none },{ dst:=some 48,op:=Op.indexAddr 22 (Operand.tmp 46) (Operand.tmp 47),type:=0,pos := "ref.go:36", after:=#[{ on:=4,ground:=Ground.data },{ on:=5,ground:=Ground.data }],guard:=none },{ dst:=some 49,op:=Op.load 3 (Operand.tmp 48),type:=3,pos := "ref.go:36", after:=#[{ on:=6,ground:=Ground.data }],guard:=none },{ dst:=some 50,op:=Op.buildSlice 22 1 #[(0,Operand.tmp 49)],type:=22,pos := "ref.go:36", after:=#[{ on:=7,ground:=Ground.data }],guard:=none },{ dst:=some 51,op:=Op.call { callee:=Callee.builtin Builtin.append,args:=#[Operand.tmp 45,Operand.tmp 50],argTypes:=#[22,22] },type:=22,pos := "ref.go:36", after:=#[{ on:=3,ground:=Ground.data },{ on:=8,ground:=Ground.data },{ on:=3,ground:=Ground.chain }],guard:=none },{ dst:=some 52,op:=Op.move (Operand.tmp 3),type:=35,pos := "ref.go:36", after:=#[],guard:=none },{ dst:=some 53,op:=Op.call { callee:=Callee.value (Operand.func 34),args:=#[Operand.tmp 42,Operand.tmp 43,Operand.tmp 51,Operand.tmp 52],argTypes:=#[44,22,22,35] },type:=35,pos := "ref.go:36", after:=#[{ on:=0,ground:=Ground.data },{ on:=1,ground:=Ground.data },{ on:=9,ground:=Ground.data },{ on:=10,ground:=Ground.data },{ on:=9,ground:=Ground.chain }],guard:=none },{ dst:=some 3,op:=Op.assign (Operand.tmp 53),type:=35,pos := "ref.go:36", after:=#[{ on:=11,ground:=Ground.data },{ on:=11,ground:=Ground.chain },{ on:=0,ground:=Ground.phase },{ on:=1,ground:=Ground.phase },{ on:=2,ground:=Ground.phase },{ on:=3,ground:=Ground.phase },{ on:=4,ground:=Ground.phase },{ on:=5,ground:=Ground.phase },{ on:=6,ground:=Ground.phase },{ on:=7,ground:=Ground.phase },{ on:=8,ground:=Ground.phase },{ on:=9,ground:=Ground.phase },{ on:=10,ground:=Ground.phase },{ on:=11,ground:=Ground.phase }],guard:=none }]
set_option maxRecDepth 20000 in
set_option maxHeartbeats 4000000 in
theorem valreg_l (w:World) (vt vh vo:Value) (dg dl dc k:Nat) (x:Int) (H:List Int) (RR:World→Value→World→Prop) (hk:(k:Int) < (dl:Int)) (hh:LV w vh H) (hH:H.length≤900) (hx:w.cell? ⟨dg,k,none⟩=some (.int .i64 x))
  (hcall:∀ (vn:Value) (W:World),LV W vn (H ++ [x])→Below w.heap.size w W→Calls Try.prog 34 #[vt,.slice (some ⟨dg,0,none⟩) dl dc,vn,vo] W fun e W2=>∃ v',e=.returned v'∧RR W v' W2)
  (z4 z5 z6 z7 z8 z9 z10 z12 z13 z14 z15 z16 z17 z18 z19 z20 z21 z22 z23 z24 z25 z26 z27 z28 z29 z30 z31 z32 z33 z34 z35 z36 z37 z38 z39 z40 z41 z42 z43 z44 z45 z46 z47 z48 z49 z50 z51 z52 z53 z54:Value) (Q:Exit→Act→World→Prop)
  (hQp:∀ c (a:Act) (d:Tmp) v w,Q (.panic c) (a.put (some d) v) w→Q (.panic c) a w)
  (hQ:∀ (y42 y43 y44 y45 y46 y47 y48 y49 y50 y51 y52 y53 v3:Value) (W W2:World),Below w.heap.size w W→RR W v3 W2→Q .normal { tmps:=(vt::.slice (some ⟨dg,0,none⟩) dl dc::vh::v3::z4::z5::z6::z7::z8::z9::z10::.int .i64 (k:Int)::z12::z13::z14::z15::z16::z17::z18::z19::z20::z21::z22::z23::z24::z25::z26::z27::z28::z29::z30::z31::z32::z33::z34::z35::z36::z37::z38::z39::z40::z41::y42::y43::y44::y45::y46::y47::y48::y49::y50::y51::y52::y53::z54::[]).toArray,defers:=[] } W2) :
  Code.wp Try.prog (Code.region 7 rgE0 true) Q { tmps:=(vt::.slice (some ⟨dg,0,none⟩) dl dc::vh::vo::z4::z5::z6::z7::z8::z9::z10::.int .i64 (k:Int)::z12::z13::z14::z15::z16::z17::z18::z19::z20::z21::z22::z23::z24::z25::z26::z27::z28::z29::z30::z31::z32::z33::z34::z35::z36::z37::z38::z39::z40::z41::z42::z43::z44::z45::z46::z47::z48::z49::z50::z51::z52::z53::z54::[]).toArray,defers:=[] } w:=by
 unfold rgE0
 refine wp_region_any (by kernel_rfl) ?_
 have hB:MI w (World.drew w) 3 1 (.slice none 0 0) 0 [] []:=(MI.nil w _ _).drew
 obtain ⟨ha,hc,rfl⟩:=own_len hh
 have HF:=hh.form
 have hnw:H.length=0 ∨ ∃ ad,ha=some ad∧∀ W,Below w.heap.size w W→∀ j u,(nints H)[j]?=some u→W.cell? (ad.add j)=some u:=by
  rcases HF with ⟨_,q⟩ | ⟨g,c',q,_,_,_,hcc⟩
  ·exact .inl (by rw [q]; rfl)
  ·simp only [Value.slice.injEq] at q
   exact .inr ⟨⟨g,0,none⟩,q.1,fun W hb=>news_cells (fun i hi=>by rw [Nat.zero_add]; exact cell_next (hcc i hi) hb)⟩
 clear HF hh
 change wpAny _ _ _ _ _ _ _ (World.drew _)
 generalize World.drew w=W at hB ⊢
 refine wpAny_take (i:=0) (v:=vt) rfl (by kernel_rfl) (by kernel_rfl) (by kernel_rfl) (fun c a w=>hQp c a _ _ w) (Or.inl ⟨by rfl,?_⟩) ?_
 ·intro w
  go_simp
 refine wpAny_take (i:=1) (v:=.slice (some ⟨dg,0,none⟩) dl dc) rfl (by kernel_rfl) (by kernel_rfl) (by kernel_rfl) (fun c a w=>hQp c a _ _ w) (Or.inl ⟨by rfl,?_⟩) ?_
 ·intro w
  go_simp
 refine wpAny_take (i:=2) (v:=.slice ha H.length hc) rfl (by kernel_rfl) (by kernel_rfl) (by kernel_rfl) (fun c a w=>hQp c a _ _ w) (Or.inl ⟨by rfl,?_⟩) ?_
 ·intro w
  go_simp
 refine wpAny_take (i:=4) (v:=.slice (some ⟨dg,0,none⟩) dl dc) rfl (by kernel_rfl) (by kernel_rfl) (by kernel_rfl) (fun c a w=>hQp c a _ _ w) (Or.inl ⟨by rfl,?_⟩) ?_
 ·intro w
  go_simp
 refine wpAny_take (i:=5) (v:=.int .i64 (k:Int)) rfl (by kernel_rfl) (by kernel_rfl) (by kernel_rfl) (fun c a w=>hQp c a _ _ w) (Or.inl ⟨by rfl,?_⟩) ?_
 ·intro w
  go_simp
 refine wpAny_take (i:=6) (v:=.pointer (some ⟨dg,k,none⟩)) rfl (by kernel_rfl) (by kernel_rfl) (by kernel_rfl) (fun c a w=>hQp c a _ _ w) (Or.inl ⟨by rfl,?_⟩) ?_
 ·intro w
  go_simp
 refine wpAny_take (i:=10) (v:=vo) rfl (by kernel_rfl) (by kernel_rfl) (by kernel_rfl) (fun c a w=>hQp c a _ _ w) (Or.inl ⟨by rfl,?_⟩) ?_
 ·intro w
  go_simp
 show wpAny _ _ _ _ 6 _ _ _
 refine wpAny_all (rs:=[3,7]) (by kernel_rfl) (by simp) ?_
 intro i hi
 simp only [List.mem_cons,List.not_mem_nil,or_false] at hi
 rcases hi with rfl | rfl
 ·obtain ⟨v6,W3,hr3,hB3⟩:=hB.app (t:=22) (e0:=3) (z:=.int .i64 0) (bytes:=8) Try.underlying22 infoInt rfl (by omega) (by omega) 22 ha H.length hc (nints H) (by simp [nints]) (by rcases hnw with q | ⟨ad,q,r⟩; exact .inl q; exact .inr ⟨ad,q,r _ hB.bel⟩) (nints_one _) (by omega)
  rw [Nat.zero_add,List.nil_append] at hB3
  clear hB
  have hB:=hB3
  clear hB3
  refine wpOp_one (o:=ogE0) (by rfl) rfl ?_
  unfold ogE0
  refine appOp (Operand.const (Value.slice none 0 0)) (Operand.tmp 44) 22 rfl (by kernel_rfl) (by kernel_rfl) hr3 ?_
  refine wpAny_all (rs:=[7]) (by kernel_rfl) (by simp) ?_
  intro i hi
  simp only [List.mem_singleton] at hi
  subst hi
  have cx:=cell_next hx hB.bel
  refine wpOp_one (o:=ogE1) (by rfl) rfl ?_
  unfold ogE1
  unfold Oper.wp
  go_simp
  clear cx
  refine wpAny_all (rs:=[8]) (by kernel_rfl) (by simp) ?_
  intro i hi
  simp only [List.mem_singleton] at hi
  subst hi
  have hB5:=hB.alloc (Obj.cells ([.int .i64 x]:List Value).toArray 3 (0,0))
  obtain ⟨B8,hB8⟩:∃ q,q=W3.heap.size:=⟨_,rfl⟩
  clear hB
  have hB:=hB5
  clear hB5
  refine wpOp_one (o:=ogE2) (by rfl) rfl ?_
  unfold ogE2
  unfold Oper.wp
  go_simp
  refine wpAny_all (rs:=[9]) (by kernel_rfl) (by simp) ?_
  intro i hi
  simp only [List.mem_singleton] at hi
  subst hi
  obtain ⟨v9,W9,hr9,hB9⟩:=hB.app (t:=22) (e0:=3) (z:=.int .i64 0) (bytes:=8) Try.underlying22 infoInt rfl (by omega) (by omega) 22 (some ⟨B8,0,none⟩) 1 1 [.int .i64 x] rfl (.inr ⟨_,rfl,by rw [hB8]; exact into_src hB (by first | exact List.mem_cons_self .. | exact List.mem_cons_of_mem _ (List.mem_cons_self ..))⟩) (by intro u hu; simp at hu; subst hu; rfl) (by omega)
  clear hB
  have hB:=hB9
  clear hB9
  refine wpOp_one (o:=ogE3) (by rfl) rfl ?_
  unfold ogE3
  refine appOp (Operand.tmp 45) (Operand.tmp 50) 22 rfl (by kernel_rfl) (by rw [hB8]; kernel_rfl) hr9 ?_
  refine wpAny_all (rs:=[11]) (by kernel_rfl) (by simp) ?_
  intro i hi
  simp only [List.mem_singleton] at hi
  subst hi
  have hn:LV W9 v9 (H ++ [x]):=LV.of_own (by rw [nints_app]; exact hB.own) (by simp)
  refine wpOp_one (o:=ogE4) (by rfl) rfl ?_
  unfold ogE4
  unfold Oper.wp
  go_simp
  refine (hcall _ _ hn hB.bel).mono ?_
  rintro e1 W11 ⟨v11,rfl,hR⟩
  dsimp only
  refine wpAny_all (rs:=[12]) (by kernel_rfl) (by simp) ?_
  intro i hi
  simp only [List.mem_singleton] at hi
  subst hi
  refine wpOp_one (o:=ogE5) (by rfl) rfl ?_
  unfold ogE5
  unfold Oper.wp
  go_simp
  refine wpAny_done (by kernel_rfl) ?_ _
  exact hQ _ _ _ _ _ _ _ _ _ _ _ _ v11 _ W11 hB.bel hR
 ·have cx:=cell_next hx hB.bel
  refine wpOp_one (o:=ogE1) (by rfl) rfl ?_
  unfold ogE1
  unfold Oper.wp
  go_simp
  clear cx
  refine wpAny_all (rs:=[3,8]) (by kernel_rfl) (by simp) ?_
  intro i hi
  simp only [List.mem_cons,List.not_mem_nil,or_false] at hi
  rcases hi with rfl | rfl
  ·obtain ⟨v6,W3,hr3,hB3⟩:=hB.app (t:=22) (e0:=3) (z:=.int .i64 0) (bytes:=8) Try.underlying22 infoInt rfl (by omega) (by omega) 22 ha H.length hc (nints H) (by simp [nints]) (by rcases hnw with q | ⟨ad,q,r⟩; exact .inl q; exact .inr ⟨ad,q,r _ hB.bel⟩) (nints_one _) (by omega)
   rw [Nat.zero_add,List.nil_append] at hB3
   clear hB
   have hB:=hB3
   clear hB3
   refine wpOp_one (o:=ogE0) (by rfl) rfl ?_
   unfold ogE0
   refine appOp (Operand.const (Value.slice none 0 0)) (Operand.tmp 44) 22 rfl (by kernel_rfl) (by kernel_rfl) hr3 ?_
   refine wpAny_all (rs:=[8]) (by kernel_rfl) (by simp) ?_
   intro i hi
   simp only [List.mem_singleton] at hi
   subst hi
   have hB5:=hB.alloc (Obj.cells ([.int .i64 x]:List Value).toArray 3 (0,0))
   obtain ⟨B8,hB8⟩:∃ q,q=W3.heap.size:=⟨_,rfl⟩
   clear hB
   have hB:=hB5
   clear hB5
   refine wpOp_one (o:=ogE2) (by rfl) rfl ?_
   unfold ogE2
   unfold Oper.wp
   go_simp
   refine wpAny_all (rs:=[9]) (by kernel_rfl) (by simp) ?_
   intro i hi
   simp only [List.mem_singleton] at hi
   subst hi
   obtain ⟨v9,W9,hr9,hB9⟩:=hB.app (t:=22) (e0:=3) (z:=.int .i64 0) (bytes:=8) Try.underlying22 infoInt rfl (by omega) (by omega) 22 (some ⟨B8,0,none⟩) 1 1 [.int .i64 x] rfl (.inr ⟨_,rfl,by rw [hB8]; exact into_src hB (by first | exact List.mem_cons_self .. | exact List.mem_cons_of_mem _ (List.mem_cons_self ..))⟩) (by intro u hu; simp at hu; subst hu; rfl) (by omega)
   clear hB
   have hB:=hB9
   clear hB9
   refine wpOp_one (o:=ogE3) (by rfl) rfl ?_
   unfold ogE3
   refine appOp (Operand.tmp 45) (Operand.tmp 50) 22 rfl (by kernel_rfl) (by rw [hB8]; kernel_rfl) hr9 ?_
   refine wpAny_all (rs:=[11]) (by kernel_rfl) (by simp) ?_
   intro i hi
   simp only [List.mem_singleton] at hi
   subst hi
   have hn:LV W9 v9 (H ++ [x]):=LV.of_own (by rw [nints_app]; exact hB.own) (by simp)
   refine wpOp_one (o:=ogE4) (by rfl) rfl ?_
   unfold ogE4
   unfold Oper.wp
   go_simp
   refine (hcall _ _ hn hB.bel).mono ?_
   rintro e1 W11 ⟨v11,rfl,hR⟩
   dsimp only
   refine wpAny_all (rs:=[12]) (by kernel_rfl) (by simp) ?_
   intro i hi
   simp only [List.mem_singleton] at hi
   subst hi
   refine wpOp_one (o:=ogE5) (by rfl) rfl ?_
   unfold ogE5
   unfold Oper.wp
   go_simp
   refine wpAny_done (by kernel_rfl) ?_ _
   exact hQ _ _ _ _ _ _ _ _ _ _ _ _ v11 _ W11 hB.bel hR
  ·have hB5:=hB.alloc (Obj.cells ([.int .i64 x]:List Value).toArray 3 (0,0))
   obtain ⟨B8,hB8⟩:∃ q,q=W.heap.size:=⟨_,rfl⟩
   clear hB
   have hB:=hB5
   clear hB5
   refine wpOp_one (o:=ogE2) (by rfl) rfl ?_
   unfold ogE2
   unfold Oper.wp
   go_simp
   refine wpAny_all (rs:=[3]) (by kernel_rfl) (by simp) ?_
   intro i hi
   simp only [List.mem_singleton] at hi
   subst hi
   obtain ⟨v6,W3,hr3,hB3⟩:=hB.app (t:=22) (e0:=3) (z:=.int .i64 0) (bytes:=8) Try.underlying22 infoInt rfl (by omega) (by omega) 22 ha H.length hc (nints H) (by simp [nints]) (by rcases hnw with q | ⟨ad,q,r⟩; exact .inl q; exact .inr ⟨ad,q,r _ hB.bel⟩) (nints_one _) (by omega)
   rw [Nat.zero_add,List.nil_append] at hB3
   clear hB
   have hB:=hB3
   clear hB3
   refine wpOp_one (o:=ogE0) (by rfl) rfl ?_
   unfold ogE0
   refine appOp (Operand.const (Value.slice none 0 0)) (Operand.tmp 44) 22 rfl (by kernel_rfl) (by kernel_rfl) hr3 ?_
   refine wpAny_all (rs:=[9]) (by kernel_rfl) (by simp) ?_
   intro i hi
   simp only [List.mem_singleton] at hi
   subst hi
   obtain ⟨v9,W9,hr9,hB9⟩:=hB.app (t:=22) (e0:=3) (z:=.int .i64 0) (bytes:=8) Try.underlying22 infoInt rfl (by omega) (by omega) 22 (some ⟨B8,0,none⟩) 1 1 [.int .i64 x] rfl (.inr ⟨_,rfl,by rw [hB8]; exact into_src hB (by first | exact List.mem_cons_self .. | exact List.mem_cons_of_mem _ (List.mem_cons_self ..))⟩) (by intro u hu; simp at hu; subst hu; rfl) (by omega)
   clear hB
   have hB:=hB9
   clear hB9
   refine wpOp_one (o:=ogE3) (by rfl) rfl ?_
   unfold ogE3
   refine appOp (Operand.tmp 45) (Operand.tmp 50) 22 rfl (by kernel_rfl) (by rw [hB8]; kernel_rfl) hr9 ?_
   refine wpAny_all (rs:=[11]) (by kernel_rfl) (by simp) ?_
   intro i hi
   simp only [List.mem_singleton] at hi
   subst hi
   have hn:LV W9 v9 (H ++ [x]):=LV.of_own (by rw [nints_app]; exact hB.own) (by simp)
   refine wpOp_one (o:=ogE4) (by rfl) rfl ?_
   unfold ogE4
   unfold Oper.wp
   go_simp
   refine (hcall _ _ hn hB.bel).mono ?_
   rintro e1 W11 ⟨v11,rfl,hR⟩
   dsimp only
   refine wpAny_all (rs:=[12]) (by kernel_rfl) (by simp) ?_
   intro i hi
   simp only [List.mem_singleton] at hi
   subst hi
   refine wpOp_one (o:=ogE5) (by rfl) rfl ?_
   unfold ogE5
   unfold Oper.wp
   go_simp
   refine wpAny_done (by kernel_rfl) ?_ _
   exact hQ _ _ _ _ _ _ _ _ _ _ _ _ v11 _ W11 hB.bel hR
section
variable {P:Program}
theorem wpList_app {ops:Array Oper} {rest:List Oper} {o:Oper} {a:Act} {Q:Exit→Act→World→Prop} {w w':World} {v v' x:Value} (hgd:o.guard=none) (s y:Operand) (t:TypeId)
  (ho:o.op=.call { callee:=.builtin .append,args:=#[s,y],argTypes:=#[t,t] }) (hs:a.eval s=v) (hx:a.eval y=x)
  (hr:(Builtin.append_ #[t,t] o.type #[v,x]).run P w=.ok v' w') (h:wpList P ops Q rest (a.put o.dst v') w'):wpList P ops Q (o::rest) a w:=by
 refine wpList_plain hgd fun K hK=>?_
 unfold Oper.wp execOp
 simp only [ho,resolve,invoke,builtin,Sem.run_bind,Sem.run_pure,Result.andThen_ok,List.map_toArray,List.map_cons,List.map_nil,hs,hx,hr]
 exact hK _ _ h
end
theorem wpList_copy {ops:Array Oper} {rest:List Oper} {o:Oper} {a:Act} {Q:Exit→Act→World→Prop} {w:World} {v:Value} {L:List Int} (hgd:o.guard=none) (y:Operand)
  (ho:o.op=.call { callee:=.builtin .append,args:=#[.const (.slice none 0 0),y],argTypes:=#[22,22] }) (hty:o.type=22) (hx:a.eval y=v) (h:LV w v L) (hL:L.length≤1000)
  (k:∀ v' w',w'.ownsRow w.heap.size 3 1 v' L.length (nints L)→Below w.heap.size w w'→wpList Try.prog ops Q rest (a.put o.dst v') w'):wpList Try.prog ops Q (o::rest) a w:=by
 obtain ⟨v',w',hr,h1,h2⟩:=copy_any h hL
 exact wpList_app hgd _ y 22 ho rfl hx (by rw [hty]; exact hr) (k v' w' h1 h2)
namespace SndA
def ValsR (base:Nat) (w:World) (vo v':Value) (w':World):Prop:=∃ (L':List (List Int)) (vs':List Value),LB base w' v' L' vs'∧(∀ l ∈ L',l.length≤3)∧L'.length≤20001∧Fr (fun b=>vo.ownBlock=some b) w w'∧NewB w vo v'
theorem ThG.hyp {x:World} {th:Th} (h:ThG x th):∀ q,q < th.L.length→InsOk (th.L.getD q Ins.zero)∧TIn x (th.L.getD q Ins.zero).a (th.L.getD q Ins.zero).E∧((th.L.getD q Ins.zero).k=6→(q:Int) + (th.L.getD q Ins.zero).n + 1≤(th.L.length:Int)):=fun q hq=>⟨(h.ins q hq).1,(h.ins q hq).2.1,(h.ins q hq).2.2.2⟩
end SndA
theorem own_apart {W:World} {b1 b2 e1 e2 s1 s2 n1 n2:Nat} {v1 v2:Value} {x1 x2:List Value} (h:W.ownsRow b1 e1 s1 v1 n1 x1) (g:W.ownsRow b2 e2 s2 v2 n2 x2) (he:e1 ≠ e2):∀ b,v1.ownBlock=some b→v2.ownBlock ≠ some b:=fun b q r=>by
 obtain ⟨c,f,a⟩:=Lib.ownsRow_kind h b q
 obtain ⟨c2,f2,a2⟩:=Lib.ownsRow_kind g b r
 rw [a2] at a
 simp only [Option.some.injEq,Obj.cells.injEq] at a
 exact he a.2.1.symm
theorem own_fr {X:Nat→Prop} {W W':World} {b e s n:Nat} {v:Value} {xs:List Value} (h:W.ownsRow b e s v n xs) (hf:Fr X W W') (hn:∀ g,v.ownBlock=some g→¬ X g):W'.ownsRow b e s v n xs:=
 own_keep h fun g q=>hf.keep g (h.lt g q).2 (hn g q)
set_option maxRecDepth 100000 in
set_option maxHeartbeats 16000000 in
theorem rvalues_any (m:Nat):∀ (th:Th) (D H:List Int) (vd vh vo:Value) (L:List (List Int)) (vs:List Value) (w0 w:World),ThG w0 th→LV w0 vd D→Below w0.heap.size w0 w→D.length≤8→LV w vh H→HeadOk th.L H→H.length≤th.L.length→th.L.length < H.length + m→LB w0.heap.size w vo L vs→(∀ l ∈ L,l.length≤3)→L.length≤20000 →
  Calls Try.prog 34 #[th.v,vd,vh,vo] w fun e w'=>∃ v',e=.returned v'∧ValsR w0.heap.size w vo v' w':=by
 induction m with
 | zero=>intro th D H vd vh vo L vs w0 w _ _ _ _ _ _ h1 h2; omega
 | succ m ih=>
 intro th D H vd vh vo L vs w0 w hth hd hB0 hD hh hHO hHl hm hL hl3 hLn
 have HTH:=Lib.hid hth
 have HDV:=Lib.hid hd
 have HB0:=Lib.hid hB0
 have HH:=Lib.hid hh
 have HHO:=Lib.hid hHO
 have HL:=Lib.hid hL
 have HL3:=Lib.hid hl3
 have HIH:=Lib.hid ih
 have h3:=hth.len
 have hHi:(H.length:Int)≤3:=by omega
 have hDi:(D.length:Int)≤8:=by omega
 have hLi:(L.length:Int)≤20000:=by omega
 have HN:Hid (H.length≤th.L.length∧th.L.length < H.length + (m + 1)∧D.length≤8):=Lib.hid ⟨hHl,hm,hD⟩
 obtain ⟨ta,tL,tc⟩:=th
 unfold Th.v
 dsimp only at *
 have HDO:Hid (∀ w1,Below w.heap.size w w1→Calls Try.prog 37 #[.slice ta tL.length tc,vh] w1 fun e w'=>DoBack w1.heap.size w' tL H e∧Below w1.heap.size w1 w'):=Lib.hid fun w1 hb=>by
  have hx:ThG w1 ⟨ta,tL,tc⟩:=hth.next (hB0.trans (hb.mono hB0.size))
  exact do_any ta tL tc vh H w1 hx.lin (ThG.hyp hx) h3 (hh.next hb) (by omega)
 clear hth hd hh hHO hL hl3 hB0 ih hm hHl hD
 obtain ⟨ha,hc,rfl⟩:=own_len HH.out
 obtain ⟨da,dc,rfl⟩:=own_len HDV.out
 obtain ⟨oa,oc,rfl⟩:=own_len HL.out.own
 obtain ⟨i0,hi,hz0,hz1,hz2⟩:=info_parts infoSl
 go_enter Try.func34,Try.ntmps34
 go_wp2_with fail
 refine (HDO.out _ (Below.refl _ _)).mono ?_
 rintro e w1 ⟨hdo,hb1⟩
 have HB1:=Lib.hid hb1
 rcases hdo with ⟨hs,rfl⟩ | ⟨hs,ve,vr,vd2,vc,vi,vg,E,rm,pd,pc,pj,rfl,he,hr1,hr2,hr3,hr4,_,_,_,_,_,⟨ga,gn,gc,rfl⟩,_⟩
 ·have HS:=Lib.hid hs
  clear hs hb1
  unfold R0
  have HBa:Hid (∀ o:Obj,Below w.heap.size w (w1.alloc o)):=Lib.hid fun o=>below_next HB1.out ((Below.refl _ _).alloc (Nat.le_refl _) o)
  go_wp2_with fail
  go_loopw [3,11] (fun z3 z11 wr=>∃ (q:Nat),q≤D.length∧z11=.int .i64 (q:Int)∧Hid (ValsR w0.heap.size w (.slice oa L.length oc) z3 wr)) (fun _ z11 _=>D.length - (intOf z11).toNat)
  case atStart=>exact ⟨0,Nat.zero_le _,rfl,Lib.hid ⟨L,vs,HL.out.next (HBa.out _),HL3.out,by omega,Fr.of_below (HBa.out _),NewB.refl _ _⟩⟩
  case round=>
   obtain ⟨q,hq,rfl,HV⟩:=hrel
   obtain ⟨L',vs',hL',hl3',hn',hF',hN'⟩:=HV.out
   have HL':=Lib.hid hL'
   have HL3':=Lib.hid hl3'
   have HF':=Lib.hid hF'
   have HNB':=Lib.hid hN'
   obtain ⟨oa',oc',rfl⟩:=own_len hL'.own
   have hLi':(L'.length:Int)≤20001:=by omega
   have hqi:(q:Int)≤8:=by omega
   clear hL' hl3' hF' hN' HV
   by_cases hlt:q < D.length
   ·have d1:decide ((q:Int) < (D.length:Int))=true:=by rw [decide_eq_true_iff]; omega
    have i1:(q:Int) < (D.length:Int):=by omega
    by_cases hl20:L'.length≤20000
    ·have d2:decide ((L'.length:Int)≤20000)=true:=by rw [decide_eq_true_iff]; omega
     have i2:(L'.length:Int)≤20000:=by omega
     obtain ⟨g,hda,hg,hgc,hgm,hcell⟩:=own_cell HDV.out hlt rfl
     subst hda
     have HBr:Hid (Below w0.heap.size w0 wr):=Lib.hid (HB0.out.trans (HF'.out.below (fun b hb q=>by have:=(HL.out.own.lt b q).1; omega) HB0.out.size))
     have c0:=cell_next hcell HBr.out
     have HHr:Hid (LV wr (.slice ha H.length hc) H):=Lib.hid (own_fr HH.out HF'.out (fun g q r=>own_apart HH.out HL.out.own (by decide) g q r))
     generalize D.getD q 0=x at *
     go_wp2_with fail
     refine valreg_l wr _ _ _ g D.length dc q x H (fun W v' W2=>ValsR w0.heap.size W (.slice oa' L'.length oc') v' W2) i1 HHr.out (by omega) c0 (fun vn W hvn hbW=>?_) _ _ _ _ _ _ _ _ _ _ _ _ _ _ _ _ _ _ _ _ _ _ _ _ _ _ _ _ _ _ _ _ _ _ _ _ _ _ _ _ _ _ _ _ _ _ _ _ _ _ _ (fun _ _ _ _ _ h=>h) ?_
     ·have hn:=HN.out
      have hs1:=head_short HS.out
      exact HIH.out ⟨ta,tL,tc⟩ D (H ++ [x]) _ vn _ L' vs' w0 W HTH.out HDV.out (HBr.out.trans (hbW.mono HBr.out.size)) hn.2.2 hvn (head_next HS.out x) (by simp; exact hs1) (by simp; omega) (HL'.out.next hbW) HL3'.out hl20
     ·intro y42 y43 y44 y45 y46 y47 y48 y49 y50 y51 y52 y53 v3 W W2 hbW hR
      obtain ⟨L2,vs2,a1,a2,a3,a4,a5⟩:=hR
      have HR:Hid (ValsR w0.heap.size w (.slice oa L.length oc) v3 W2):=Lib.hid ⟨L2,vs2,a1,a2,a3,(HF'.out.trans (Fr.of_below hbW)).trans2 a4 (fun b hb q=>by
        rcases HNB'.out with r | ⟨b2,r,r2⟩
        ·rw [← r]; exact q
        ·rw [r] at q; cases q; omega),(HNB'.out.trans (NewB.refl W _) (Nat.le_trans HF'.out.size hbW.size)).trans a5 (Nat.le_trans HF'.out.size hbW.size)⟩
      clear hbW a1 a2 a3 a4 a5 c0 hcell
      go_wp2_with fail
      go_roundw
      case rel=>exact ⟨q + 1,hlt,by go_num,HR⟩
      case measure=>simp [intOf]; omega
    ·have d2:decide ((L'.length:Int)≤20000)=false:=by rw [decide_eq_false_iff_not]; omega
     have i2:¬ (L'.length:Int)≤20000:=by omega
     go_wp2_with fail
     go_ret
     exact ⟨_,rfl,L',vs',HL'.out,HL3'.out,hn',HF'.out,HNB'.out⟩
   ·have d1:decide ((q:Int) < (D.length:Int))=false:=by rw [decide_eq_false_iff_not]; omega
    have i1:¬ (q:Int) < (D.length:Int):=by omega
    go_wp2_with fail
    go_ret
    exact ⟨_,rfl,L',vs',HL'.out,HL3'.out,hn',HF'.out,HNB'.out⟩
 ·have hu:(doU tL H).2=H.length:=HHO.out
  rw [hu]
  obtain ⟨ea,ec,rfl⟩:=own_len he
  obtain ⟨ra,rc,rfl⟩:=own_len hr1
  obtain ⟨da2,dc2,rfl⟩:=own_len hr2
  obtain ⟨ca,cc,rfl⟩:=own_len hr3
  obtain ⟨ia,ic,rfl⟩:=own_len hr4
  clear he hr1 hr2 hr3 hr4 hs hu hb1
  generalize E.length=eN at *
  generalize rm.length=rN at *
  generalize pd.length=pN1 at *
  generalize pc.length=pN2 at *
  generalize pj.length=pN3 at *
  have HH1:Hid (∀ o:Obj,LV (w1.alloc o) (.slice ha H.length hc) H):=Lib.hid fun o=>HH.out.next (below_next HB1.out ((Below.refl _ _).alloc (Nat.le_refl _) o))
  have HBx:Hid (∀ (o:Obj) (w2:World),Below (w1.alloc o).heap.size (w1.alloc o) w2→Below w.heap.size w w2):=Lib.hid fun o w2 hb=>below_next (below_next HB1.out ((Below.refl _ _).alloc (Nat.le_refl _) o)) hb
  have hb0:Hid (w0.heap.size≤w.heap.size):=Lib.hid HB0.out.size
  go_wp2_with (first
   | (at_builtin; refine wpList_copy rfl _ rfl rfl rfl (HH1.out _) (by omega) ?_; intro v2 w2 hv2 hb2; have HV2:=Lib.hid hv2; have HB2:=Lib.hid (HBx.out _ _ hb2); have HS2:=Lib.hid hb2.size; clear hv2 hb2; obtain ⟨va2,vc2,hve2⟩:=own_len HV2.out; subst hve2; have HO:=Lib.hid (HL.out.next HB2.out))
   | (at_builtin; refine wpList_append_own_at _ rfl (.tmp 26) (.tmp 29) 35 rfl w0.heap.size 22 i0 (.slice none 0 0) 1 24 Try.underlying35 hi hz0 hz1 hz2 rfl (by decide) _ _ _ rfl (HO.out.own.alloc _) ⟨_,0,none⟩ 1 1 [.slice va2 H.length vc2] rfl rfl (World.news_of_block (cs:=#[.slice va2 H.length vc2]) (t:=22) (fr:=(0,0)) (heap_alloc_new _ _)) (by simp [Value.oneCell']) (by unfold maxLen; omega) (by omega) (by have:=hb0.out; have:=HB2.out.size; simp; omega) ?_; intro v3 w3 hown3 hgrow3 _ hv3))
  have hbA:Below w.heap.size w (w2.alloc (Obj.cells #[.slice va2 H.length vc2] 22 (0,0))):=below_next HB2.out ((Below.refl _ _).alloc (Nat.le_refl _) _)
  have HR:Hid (ValsR w0.heap.size w (.slice oa L.length oc) v3 w3):=Lib.hid ⟨L ++ [H],vs ++ [.slice va2 H.length vc2],(HL.out.next hbA).grow hgrow3 hown3 (own_lower (HV2.out.alloc _) (Nat.zero_le _)),fun l hl=>by
    rcases List.mem_append.1 hl with q | q
    ·exact HL3.out l q
    ·rw [List.mem_singleton] at q; subst q; omega,by simp; omega,(Fr.of_below hbA).trans2 (Fr.of_grown (X:=fun b=>Value.ownBlock (.slice oa L.length oc)=some b) hgrow3 (fun b q=>q)) (fun x _ q=>q),by
    rcases hv3 with q | q
    ·exact .inl q
    ·exact .inr ⟨_,q,hbA.size⟩⟩
  clear hbA hown3 hgrow3 hv3
  go_wp2_with fail
  go_ret
  exact ⟨_,rfl,HR.out⟩
end Go.Proofs.Yteghpophcnehgaa
