/-
  What the functions that the law reaches do, one by one: contracts. Conditions: those that each of them prints.
-/
import Derived.Test.YteghpophcnehgaaMzc
import Derived.WalkKit
import Derived.Deep.RegionLaw
import Derived.Deep.Quiet
namespace Go.Proofs.Yteghpophcnehgaa
open Go.RowKit ExprA SndA
def ogQ0:Oper:={ dst:=some 39,op:=Op.load 35 (Operand.tmp 38),type:=35,pos := "ref.go:128", after:=#[{ on:=3,ground:=Ground.data }],guard:=none }
def ogQ1:Oper:={ dst:=some 40,op:=Op.call { callee:=Callee.builtin Builtin.append,args:=#[Operand.const (Value.slice none 0 0),Operand.tmp 39],argTypes:=#[35,35] },type:=35,pos := "ref.go:128", after:=#[{ on:=4,ground:=Ground.data }],guard:=none }
def ogQ2:Oper:={ dst:=some 44,op:=Op.load 35 (Operand.tmp 43),type:=35,pos := "ref.go:128", after:=#[{ on:=8,ground:=Ground.data }],guard:=none }
def ogQ3:Oper:={ dst:=some 47,op:=Op.load 22 (Operand.tmp 46),type:=22,pos := "ref.go:128", after:=#[{ on:=11,ground:=Ground.data }],guard:=none }
def ogQ4:Oper:={ dst:=some 48,op:=Op.buildSlice 35 1 #[(0,Operand.tmp 47)],type:=35,pos := "ref.go:128", after:=#[{ on:=12,ground:=Ground.data }],guard:=none }
def ogQ5:Oper:={ dst:=some 49,op:=Op.call { callee:=Callee.builtin Builtin.append,args:=#[Operand.tmp 40,Operand.tmp 48],argTypes:=#[35,35] },type:=35,pos := "ref.go:128", after:=#[{ on:=5,ground:=Ground.data },{ on:=13,ground:=Ground.data },{ on:=5,ground:=Ground.chain }],guard:=none }
def ogQ6:Oper:={ dst:=some 50,op:=Op.buildSlice 54 1 #[(0,Operand.tmp 49)],type:=54,pos := "ref.go:128", after:=#[{ on:=14,ground:=Ground.data }],guard:=none }
def ogQ7:Oper:={ dst:=some 51,op:=Op.call { callee:=Callee.builtin Builtin.append,args:=#[Operand.tmp 35,Operand.tmp 50],argTypes:=#[54,54] },type:=54,pos := "ref.go:128", after:=#[{ on:=0,ground:=Ground.data },{ on:=15,ground:=Ground.data },{ on:=14,ground:=Ground.chain }],guard:=none }
def ogQ8:Oper:={ dst:=some 5,op:=Op.assign (Operand.tmp 51),type:=54,pos := "ref.go:128", after:=#[{ on:=16,ground:=Ground.data },{ on:=16,ground:=Ground.chain },{ on:=0,ground:=Ground.phase },{ on:=1,ground:=Ground.phase },{ on:=2,ground:=Ground.phase },{ on:=3,ground:=Ground.phase },{ on:=4,ground:=Ground.phase },{ on:=5,ground:=Ground.phase },{ on:=6,ground:=Ground.phase },{ on:=7,ground:=Ground.phase },{ on:=8,ground:=Ground.phase },{ on:=9,ground:=Ground.phase },{ on:=10,ground:=Ground.phase },{ on:=11,ground:=Ground.phase },{ on:=12,ground:=Ground.phase },{ on:=13,ground:=Ground.phase },{ on:=14,ground:=Ground.phase },{ on:=15,ground:=Ground.phase },{ on:=16,ground:=Ground.phase }],guard:=none }
def rgQ0:Array Oper:=#[{ dst:=some 35,op:=Op.move (Operand.tmp 5),type:=54,pos := "ref.go:128", after:=#[],guard:=none },{ dst:=some 36,op:=Op.move (Operand.tmp 3),type:=54,pos := "ref.go:128", after:=#[],guard:=none },{ dst:=some 37,op:=Op.move (Operand.tmp 6),type:=3,pos := "ref.go:128", after:=#[],guard:=none },{ dst:=some 38,op:=Op.indexAddr 54 (Operand.tmp 36) (Operand.tmp 37),type:=0,pos := "ref.go:128", after:=#[{ on:=1,ground:=Ground.data },{ on:=2,ground:=Ground.data }],guard:=none },{ dst:=some 39,op:=Op.load 35 (Operand.tmp 38),type:=35,pos := "ref.go:128", after:=#[{ on:=3,ground:=Ground.data }],guard:=none },{ dst:=some 40,op:=Op.call { callee:=Callee.builtin Builtin.append,args:=#[Operand.const (Value.slice none 0 0),Operand.tmp 39],argTypes:=#[35,35] },type:=35,pos := "ref.go:128", after:=#[{ on:=4,ground:=Ground.data }],guard:=none },{ dst:=some 41,op:=Op.move (Operand.tmp 0),type:=54,pos := "ref.go:128", after:=#[],guard:=none },{ dst:=some 42,op:=Op.move (Operand.tmp 4),type:=3,pos := "ref.go:128", after:=#[],guard:=none },{ dst:=some 43,op:=Op.indexAddr 54 (Operand.tmp 41) (Operand.tmp 42),type:=0,pos := "ref.go:128", after:=#[{ on:=6,ground:=Ground.data },{ on:=7,ground:=Ground.data }],guard:=none },{ dst:=some 44,op:=Op.load 35 (Operand.tmp 43),type:=35,pos := "ref.go:128", after:=#[{ on:=8,ground:=Ground.data }],guard:=none },{ dst:=some 45,op:=Op.move (Operand.tmp 7),type:=3,pos := "ref.go:128", after:=#[],guard:=none },{ dst:=some 46,op:=Op.indexAddr 35 (Operand.tmp 44) (Operand.tmp 45),type:=0,pos := "ref.go:128", after:=#[{ on:=9,ground:=Ground.data },{ on:=10,ground:=Ground.data }],guard:=none },{ dst:=some 47,op:=Op.load 22 (Operand.tmp 46),type:=22,pos := "ref.go:128", after:=#[{ on:=11,ground:=Ground.data }],guard:=none },{ dst:=some 48,op:=Op.buildSlice 35 1 #[(0,Operand.tmp 47)],type:=35,pos := "ref.go:128", after:=#[{ on:=12,ground:=Ground.data }],guard:=none },{ dst:=some 49,op:=Op.call { callee:=Callee.builtin Builtin.append,args:=#[Operand.tmp 40,Operand.tmp 48],argTypes:=#[35,35] },type:=35,pos := "ref.go:128", after:=#[{ on:=5,ground:=Ground.data },{ on:=13,ground:=Ground.data },{ on:=5,ground:=Ground.chain }],guard:=none },{ dst:=some 50,op:=Op.buildSlice 54 1 #[(0,Operand.tmp 49)],type:=54,pos := "ref.go:128", after:=#[{ on:=14,ground:=Ground.data }],guard:=none },{ dst:=some 51,op:=Op.call { callee:=Callee.builtin Builtin.append,args:=#[Operand.tmp 35,Operand.tmp 50],argTypes:=#[54,54] },type:=54,pos := "ref.go:128", after:=#[{ on:=0,ground:=Ground.data },{ on:=15,ground:=Ground.data },{ on:=14,ground:=Ground.chain }],guard:=none },{ dst:=some 5,op:=Op.assign (Operand.tmp 51),type:=54,pos := "ref.go:128", after:=#[{ on:=16,ground:=Ground.data },{ on:=16,ground:=Ground.chain },{ on:=0,ground:=Ground.phase },{ on:=1,ground:=Ground.phase },{ on:=2,ground:=Ground.phase },{ on:=3,ground:=Ground.phase },{ on:=4,ground:=Ground.phase },{ on:=5,ground:=Ground.phase },{ on:=6,ground:=Ground.phase },{ on:=7,ground:=Ground.phase },{ on:=8,ground:=Ground.phase },{ on:=9,ground:=Ground.phase },{ on:=10,ground:=Ground.phase },{ on:=11,ground:=Ground.phase },{ on:=12,ground:=Ground.phase },{ on:=13,ground:=Ground.phase },{ on:=14,ground:=Ground.phase },{ on:=15,ground:=Ground.phase },{ on:=16,ground:=Ground.phase }],guard:=none }]
namespace SndA
structure L3 (base:Nat) (W:World) (v:Value) (M:List (List (List Int))) (ms:List Value):Prop where
 own:W.ownsRow base 35 1 v M.length ms
 len:ms.length=M.length
 el:∀ i,i < M.length→∃ vs,LB 0 W (ms.getD i undef) (M.getD i []) vs
theorem LB.frK {base:Nat} {W W':World} {v:Value} {L:List (List Int)} {vs:List Value} (h:LB base W v L vs) {vo:Value} {b n:Nat} {xs:List Value} (ho:W.ownsRow b 35 1 vo n xs) (hg:W.grownBy W' vo.ownBlock):LB base W' v L vs:=
 ⟨own_keep h.own fun g q=>hg.block g (h.own.lt g q).2 (fun r=>own_apart h.own ho (by decide) g q r.symm),h.len,fun i hi=>own_keep (h.el i hi) fun g q=>hg.block g ((h.el i hi).lt g q).2 (fun r=>own_apart (h.el i hi) ho (by decide) g q r.symm)⟩
theorem LB.of_app {base:Nat} {W:World} {v x:Value} {L:List (List Int)} {vs:List Value} {l:List Int} (ho:W.ownsRow base 22 1 v (L.length + 1) (vs ++ [x])) (hl:vs.length=L.length) (he:∀ i,i < L.length→LV W (vs.getD i undef) (L.getD i [])) (hx:LV W x l):LB base W v (L ++ [l]) (vs ++ [x]):=by
 refine ⟨by rw [List.length_append]; exact ho,by simp [hl],fun i hi=>?_⟩
 rw [List.length_append,List.length_singleton] at hi
 by_cases q:i < L.length
 ·rw [List.getD_eq_getElem?_getD,List.getElem?_append_left (by rw [hl]; exact q),← List.getD_eq_getElem?_getD,List.getD_eq_getElem?_getD (l:=L ++ [l]),List.getElem?_append_left q,← List.getD_eq_getElem?_getD]
  exact he i q
 ·have e:i=L.length:=by omega
  have e1:(vs ++ [x]).getD i undef=x:=by
   rw [List.getD_eq_getElem?_getD,List.getElem?_append_right (by rw [hl]; omega),hl,e,Nat.sub_self]; rfl
  have e2:(L ++ [l]).getD i []=l:=by
   rw [List.getD_eq_getElem?_getD,List.getElem?_append_right (by omega),e,Nat.sub_self]; rfl
  rw [e1,e2]; exact hx
theorem LB.one {base:Nat} {W:World} {v:Value} {L:List (List Int)} {vs:List Value} (h:LB base W v L vs):∀ u ∈ vs,u.oneCell'=true:=fun u hu=>by
 obtain ⟨i,hi,rfl⟩:=List.mem_iff_getElem.1 hu
 have:=h.el i (by rw [← h.len]; exact hi)
 rw [List.getD_eq_getElem?_getD,List.getElem?_eq_getElem hi] at this
 obtain ⟨a,c,e⟩:=own_len this
 simp only [Option.getD_some] at e
 rw [e]; rfl
section
variable {base:Nat} {W W':World} {v:Value} {M:List (List (List Int))} {ms:List Value}
theorem L3.nil (base:Nat) (W:World):L3 base W (.slice none 0 0) [] []:=⟨World.ownsRow_nil _ _ _ _,rfl,fun _ h=>absurd h (Nat.not_lt_zero _)⟩
theorem L3.next (h:L3 base W v M ms) (hb:Below W.heap.size W W'):L3 base W' v M ms:=⟨own_below h.own hb,h.len,fun i hi=>by obtain ⟨vs,a⟩:=h.el i hi; exact ⟨vs,a.next hb⟩⟩
theorem L3.grow {v' x:Value} {L:List (List Int)} {vs:List Value} (h:L3 base W v M ms) (hg:W.grownBy W' v.ownBlock) (ho:W'.ownsRow base 35 1 v' (M.length + 1) (ms ++ [x])) (hx:LB 0 W x L vs):L3 base W' v' (M ++ [L]) (ms ++ [x]):=by
 refine ⟨by rw [List.length_append]; exact ho,by simp [h.len],fun i hi=>?_⟩
 rw [List.length_append,List.length_singleton] at hi
 by_cases q:i < M.length
 ·rw [List.getD_eq_getElem?_getD,List.getElem?_append_left (by rw [h.len]; exact q),← List.getD_eq_getElem?_getD,List.getD_eq_getElem?_getD (l:=M ++ [L]),List.getElem?_append_left q,← List.getD_eq_getElem?_getD]
  obtain ⟨us,a⟩:=h.el i q
  exact ⟨us,a.frK h.own hg⟩
 ·have e:i=M.length:=by omega
  have e1:(ms ++ [x]).getD i undef=x:=by
   rw [List.getD_eq_getElem?_getD,List.getElem?_append_right (by rw [h.len]; omega),h.len,e,Nat.sub_self]; rfl
  have e2:(M ++ [L]).getD i []=L:=by
   rw [List.getD_eq_getElem?_getD,List.getElem?_append_right (by omega),e,Nat.sub_self]; rfl
  rw [e1,e2]; exact ⟨vs,hx.frK h.own hg⟩
theorem L3.cell (h:L3 base W v M ms) {i:Nat} (hi:i < M.length):∃ g c,v=.slice (some ⟨g,0,none⟩) M.length c∧g < W.heap.size∧W.cell? ⟨g,i,none⟩=some (ms.getD i undef):=by
 have hc:=fun g hg=>World.ownsRow.cells h.own (g:=g) hg
 have hl:=World.ownsRow.lt h.own
 rcases h.own.2 with ⟨_,h2⟩ | ⟨g,cap,cur,rfl,_⟩
 ·omega
 ·refine ⟨g,cap,rfl,(hl g rfl).2,?_⟩
  have:=hc g rfl i (ms.getD i undef) (by rw [List.getD_eq_getElem?_getD,List.getElem?_eq_getElem (by rw [h.len]; exact hi)]; rfl)
  have e:(⟨g,0,none⟩:Addr).add i=⟨g,i,none⟩:=by unfold Addr.add; simp; intro q; exact q.symm
  rw [e] at this; exact this
end
end SndA
set_option maxRecDepth 20000 in
set_option maxHeartbeats 16000000 in
theorem lotreg_l (w0 w:World) (ag al ac lg ll lc jg jl jc i k j:Nat) (vm x1 x3:Value) (M:List (List (List Int))) (ms:List Value) (L1:List (List Int)) (vs1:List Value) (l3:List Int) (hM:L3 w0.heap.size w vm M ms) (hw0:w0.heap.size≤w.heap.size) (hMl:M.length≤200000) (hi:(i:Int) < (al:Int)) (hk:(k:Int) < (ll:Int)) (hj:(j:Int) < (jl:Int))
  (h1:w.cell? ⟨lg,k,none⟩=some x1) (hL1:LB 0 w x1 L1 vs1) (hl1:L1.length≤10) (h2:w.cell? ⟨ag,i,none⟩=some (.slice (some ⟨jg,0,none⟩) jl jc)) (h3:w.cell? ⟨jg,j,none⟩=some x3) (hx3:LV w x3 l3)
  (z1 z2 z8 z9 z10 z11 z12 z13 z14 z15 z16 z17 z18 z19 z20 z21 z22 z23 z24 z25 z26 z27 z28 z29 z30 z31 z32 z33 z34 z35 z36 z37 z38 z39 z40 z41 z42 z43 z44 z45 z46 z47 z48 z49 z50 z51 z52 z53:Value) (Q:Exit→Act→World→Prop)
  (hQp:∀ c (a:Act) (d:Tmp) v w,Q (.panic c) (a.put (some d) v) w→Q (.panic c) a w)
  (hQ:∀ (y35 y36 y37 y38 y39 y40 y41 y42 y43 y44 y45 y46 y47 y48 y49 y50 y51 v5 x:Value) (W:World),L3 w0.heap.size W v5 (M ++ [L1 ++ [l3]]) (ms ++ [x])→Fr (fun b=>vm.ownBlock=some b) w W→NewB w vm v5→Q .normal { tmps:=(.slice (some ⟨ag,0,none⟩) al ac::z1::z2::.slice (some ⟨lg,0,none⟩) ll lc::.int .i64 (i:Int)::v5::.int .i64 (k:Int)::.int .i64 (j:Int)::z8::z9::z10::z11::z12::z13::z14::z15::z16::z17::z18::z19::z20::z21::z22::z23::z24::z25::z26::z27::z28::z29::z30::z31::z32::z33::z34::y35::y36::y37::y38::y39::y40::y41::y42::y43::y44::y45::y46::y47::y48::y49::y50::y51::z52::z53::[]).toArray,defers:=[] } W) :
  Code.wp Try.prog (Code.region 12 rgQ0 true) Q { tmps:=(.slice (some ⟨ag,0,none⟩) al ac::z1::z2::.slice (some ⟨lg,0,none⟩) ll lc::.int .i64 (i:Int)::vm::.int .i64 (k:Int)::.int .i64 (j:Int)::z8::z9::z10::z11::z12::z13::z14::z15::z16::z17::z18::z19::z20::z21::z22::z23::z24::z25::z26::z27::z28::z29::z30::z31::z32::z33::z34::z35::z36::z37::z38::z39::z40::z41::z42::z43::z44::z45::z46::z47::z48::z49::z50::z51::z52::z53::[]).toArray,defers:=[] } w:=by
 unfold rgQ0
 refine wp_region_any (by kernel_rfl) ?_
 have hB:MI w (World.drew w) 22 1 (.slice none 0 0) 0 [] []:=(MI.nil w _ _).drew
 obtain ⟨xa,xc,rfl⟩:=own_len hL1.own
 obtain ⟨ya,yc,rfl⟩:=own_len hx3
 have HM:=Lib.hid hM
 have HL1:=Lib.hid hL1
 have HX3:=Lib.hid hx3
 have hvl:vs1.length=L1.length:=hL1.len
 have hone:=hL1.one
 have hnw:L1.length=0 ∨ ∃ ad,xa=some ad∧∀ W,Below w.heap.size w W→∀ j u,vs1[j]?=some u→W.cell? (ad.add j)=some u:=by
  rcases hL1.own.2 with ⟨_,q⟩ | ⟨g,cap,cur,q,_⟩
  ·exact .inl q
  ·simp only [Value.slice.injEq] at q
   exact .inr ⟨⟨g,0,none⟩,q.1,fun W hb j u hj=>World.ownsRow.cells (own_below hL1.own hb) (g:=g) (by rw [q.1]; rfl) j u hj⟩
 clear hM hL1 hx3
 change wpAny _ _ _ _ _ _ _ (World.drew _)
 generalize World.drew w=W at hB ⊢
 refine wpAny_take (i:=0) (v:=vm) rfl (by kernel_rfl) (by kernel_rfl) (by kernel_rfl) (fun c a w=>hQp c a _ _ w) (Or.inl ⟨by rfl,?_⟩) ?_
 ·intro w
  go_simp
 refine wpAny_take (i:=1) (v:=.slice (some ⟨lg,0,none⟩) ll lc) rfl (by kernel_rfl) (by kernel_rfl) (by kernel_rfl) (fun c a w=>hQp c a _ _ w) (Or.inl ⟨by rfl,?_⟩) ?_
 ·intro w
  go_simp
 refine wpAny_take (i:=2) (v:=.int .i64 (k:Int)) rfl (by kernel_rfl) (by kernel_rfl) (by kernel_rfl) (fun c a w=>hQp c a _ _ w) (Or.inl ⟨by rfl,?_⟩) ?_
 ·intro w
  go_simp
 refine wpAny_take (i:=3) (v:=.pointer (some ⟨lg,k,none⟩)) rfl (by kernel_rfl) (by kernel_rfl) (by kernel_rfl) (fun c a w=>hQp c a _ _ w) (Or.inl ⟨by rfl,?_⟩) ?_
 ·intro w
  go_simp
 refine wpAny_take (i:=6) (v:=.slice (some ⟨ag,0,none⟩) al ac) rfl (by kernel_rfl) (by kernel_rfl) (by kernel_rfl) (fun c a w=>hQp c a _ _ w) (Or.inl ⟨by rfl,?_⟩) ?_
 ·intro w
  go_simp
 refine wpAny_take (i:=7) (v:=.int .i64 (i:Int)) rfl (by kernel_rfl) (by kernel_rfl) (by kernel_rfl) (fun c a w=>hQp c a _ _ w) (Or.inl ⟨by rfl,?_⟩) ?_
 ·intro w
  go_simp
 refine wpAny_take (i:=8) (v:=.pointer (some ⟨ag,i,none⟩)) rfl (by kernel_rfl) (by kernel_rfl) (by kernel_rfl) (fun c a w=>hQp c a _ _ w) (Or.inl ⟨by rfl,?_⟩) ?_
 ·intro w
  go_simp
 refine wpAny_take (i:=10) (v:=.int .i64 (j:Int)) rfl (by kernel_rfl) (by kernel_rfl) (by kernel_rfl) (fun c a w=>hQp c a _ _ w) (Or.inl ⟨by rfl,?_⟩) ?_
 ·intro w
  go_simp
 show wpAny _ _ _ _ 10 _ _ _
 refine wpAny_all (rs:=[4,9]) (by kernel_rfl) (by simp) ?_
 intro i hi
 simp only [List.mem_cons,List.not_mem_nil,or_false] at hi
 rcases hi with rfl | rfl
 ·have cx:=cell_next h1 hB.bel
  refine wpOp_one (o:=ogQ0) (by rfl) rfl ?_
  unfold ogQ0
  unfold Oper.wp
  go_simp
  clear cx
  refine wpAny_all (rs:=[5,9]) (by kernel_rfl) (by simp) ?_
  intro i hi
  simp only [List.mem_cons,List.not_mem_nil,or_false] at hi
  rcases hi with rfl | rfl
  ·obtain ⟨v6,W5,hr3,hB3⟩:=hB.app (t:=35) (e0:=22) (z:=.slice none 0 0) (bytes:=24) Try.underlying35 infoSl rfl (by omega) (by omega) 35 xa L1.length xc vs1 (by rw [hvl]; omega) (by rcases hnw with q | ⟨ad,q,r⟩; exact .inl q; exact .inr ⟨ad,q,r _ hB.bel⟩) hone (by omega)
   rw [Nat.zero_add,List.nil_append] at hB3
   clear hB
   have hB:=hB3
   clear hB3
   refine wpOp_one (o:=ogQ1) (by rfl) rfl ?_
   unfold ogQ1
   refine appOp (Operand.const (Value.slice none 0 0)) (Operand.tmp 39) 35 rfl (by kernel_rfl) (by kernel_rfl) hr3 ?_
   refine wpAny_all (rs:=[9]) (by kernel_rfl) (by simp) ?_
   intro i hi
   simp only [List.mem_singleton] at hi
   subst hi
   have cx:=cell_next h2 hB.bel
   refine wpOp_one (o:=ogQ2) (by rfl) rfl ?_
   unfold ogQ2
   unfold Oper.wp
   go_simp
   clear cx
   refine wpAny_take (i:=11) (v:=.pointer (some ⟨jg,j,none⟩)) rfl (by kernel_rfl) (by kernel_rfl) (by kernel_rfl) (fun c a w=>hQp c a _ _ w) (Or.inl ⟨by rfl,?_⟩) ?_
   ·intro w
    go_simp
   refine wpAny_all (rs:=[12]) (by kernel_rfl) (by simp) ?_
   intro i hi
   simp only [List.mem_singleton] at hi
   subst hi
   have cx:=cell_next h3 hB.bel
   refine wpOp_one (o:=ogQ3) (by rfl) rfl ?_
   unfold ogQ3
   unfold Oper.wp
   go_simp
   clear cx
   refine wpAny_all (rs:=[13]) (by kernel_rfl) (by simp) ?_
   intro i hi
   simp only [List.mem_singleton] at hi
   subst hi
   have hB5:=hB.alloc (Obj.cells ([.slice ya l3.length yc]:List Value).toArray 22 (0,0))
   obtain ⟨B8,hB8⟩:∃ q,q=W5.heap.size:=⟨_,rfl⟩
   clear hB
   have hB:=hB5
   clear hB5
   refine wpOp_one (o:=ogQ4) (by rfl) rfl ?_
   unfold ogQ4
   unfold Oper.wp
   go_simp
   refine wpAny_all (rs:=[14]) (by kernel_rfl) (by simp) ?_
   intro i hi
   simp only [List.mem_singleton] at hi
   subst hi
   obtain ⟨v9,W9,hr9,hB9⟩:=hB.app (t:=35) (e0:=22) (z:=.slice none 0 0) (bytes:=24) Try.underlying35 infoSl rfl (by omega) (by omega) 35 (some ⟨B8,0,none⟩) 1 1 [.slice ya l3.length yc] rfl (.inr ⟨_,rfl,by rw [hB8]; exact into_src hB (by first | exact List.mem_cons_self .. | exact List.mem_cons_of_mem _ (List.mem_cons_self ..))⟩) (by intro u hu; simp at hu; subst hu; rfl) (by omega)
   clear hB
   have hB:=hB9
   clear hB9
   have hLB9:LB w.heap.size W9 v9 (L1 ++ [l3]) (vs1 ++ [.slice ya l3.length yc]):=LB.of_app hB.own hvl (fun i hi=>(HL1.out.el i hi).next hB.bel) (HX3.out.next hB.bel)
   have hb9:=hB.bel
   obtain ⟨a9,c9,rfl⟩:=own_len hB.own
   refine wpOp_one (o:=ogQ5) (by rfl) rfl ?_
   unfold ogQ5
   refine appOp (Operand.tmp 40) (Operand.tmp 48) 35 rfl (by kernel_rfl) (by rw [hB8]; kernel_rfl) hr9 ?_
   refine wpAny_all (rs:=[15]) (by kernel_rfl) (by simp) ?_
   intro i hi
   simp only [List.mem_singleton] at hi
   subst hi
   have hbA:Below w.heap.size w (World.alloc W9 (Obj.cells ([.slice a9 (L1.length + 1) c9]:List Value).toArray 35 (0,0))):=hb9.alloc hb9.size _
   have hLBA:=hLB9.next ((Below.refl W9.heap.size W9).alloc (Nat.le_refl _) (Obj.cells ([.slice a9 (L1.length + 1) c9]:List Value).toArray 35 (0,0)))
   have hMA:=HM.out.next hbA
   refine wpOp_one (o:=ogQ6) (by rfl) rfl ?_
   unfold ogQ6
   unfold Oper.wp
   go_simp
   refine wpAny_all (rs:=[16]) (by kernel_rfl) (by simp) ?_
   intro i hi
   simp only [List.mem_singleton] at hi
   subst hi
   obtain ⟨vF,WF,hrF,hnF,hgF,hvF⟩:=app_any hMA.own (by have:=hbA.size; omega) Try.underlying54 infoSl2 rfl (by omega) (by omega) 54 (some ⟨W9.heap.size,0,none⟩) 1 1 [.slice a9 (L1.length + 1) c9] rfl (.inr ⟨_,rfl,World.news_of_block (cs:=([.slice a9 (L1.length + 1) c9]:List Value).toArray) (t:=35) (fr:=(0,0)) (heap_alloc_new W9 _)⟩) (by intro u hu; simp at hu; subst hu; rfl) (by omega)
   have hMF:=hMA.grow hgF hnF (hLBA.lower (Nat.zero_le _))
   refine wpOp_one (o:=ogQ7) (by rfl) rfl ?_
   unfold ogQ7
   refine appOp (Operand.tmp 35) (Operand.tmp 50) 54 rfl (by kernel_rfl) (by kernel_rfl) hrF ?_
   refine wpAny_all (rs:=[17]) (by kernel_rfl) (by simp) ?_
   intro i hi
   simp only [List.mem_singleton] at hi
   subst hi
   refine wpOp_one (o:=ogQ8) (by rfl) rfl ?_
   unfold ogQ8
   unfold Oper.wp
   go_simp
   refine wpAny_done (by kernel_rfl) ?_ _
   refine hQ _ _ _ _ _ _ _ _ _ _ _ _ _ _ _ _ _ vF _ WF hMF ((Fr.of_below hbA).trans (Fr.of_grown hgF (fun b q=>q))) ?_
   rcases hvF with q | q
   ·exact .inl q
   ·exact .inr ⟨_,q,hbA.size⟩
  ·have cx:=cell_next h2 hB.bel
   refine wpOp_one (o:=ogQ2) (by rfl) rfl ?_
   unfold ogQ2
   unfold Oper.wp
   go_simp
   clear cx
   refine wpAny_take (i:=11) (v:=.pointer (some ⟨jg,j,none⟩)) rfl (by kernel_rfl) (by kernel_rfl) (by kernel_rfl) (fun c a w=>hQp c a _ _ w) (Or.inl ⟨by rfl,?_⟩) ?_
   ·intro w
    go_simp
   refine wpAny_all (rs:=[5,12]) (by kernel_rfl) (by simp) ?_
   intro i hi
   simp only [List.mem_cons,List.not_mem_nil,or_false] at hi
   rcases hi with rfl | rfl
   ·obtain ⟨v6,W5,hr3,hB3⟩:=hB.app (t:=35) (e0:=22) (z:=.slice none 0 0) (bytes:=24) Try.underlying35 infoSl rfl (by omega) (by omega) 35 xa L1.length xc vs1 (by rw [hvl]; omega) (by rcases hnw with q | ⟨ad,q,r⟩; exact .inl q; exact .inr ⟨ad,q,r _ hB.bel⟩) hone (by omega)
    rw [Nat.zero_add,List.nil_append] at hB3
    clear hB
    have hB:=hB3
    clear hB3
    refine wpOp_one (o:=ogQ1) (by rfl) rfl ?_
    unfold ogQ1
    refine appOp (Operand.const (Value.slice none 0 0)) (Operand.tmp 39) 35 rfl (by kernel_rfl) (by kernel_rfl) hr3 ?_
    refine wpAny_all (rs:=[12]) (by kernel_rfl) (by simp) ?_
    intro i hi
    simp only [List.mem_singleton] at hi
    subst hi
    have cx:=cell_next h3 hB.bel
    refine wpOp_one (o:=ogQ3) (by rfl) rfl ?_
    unfold ogQ3
    unfold Oper.wp
    go_simp
    clear cx
    refine wpAny_all (rs:=[13]) (by kernel_rfl) (by simp) ?_
    intro i hi
    simp only [List.mem_singleton] at hi
    subst hi
    have hB5:=hB.alloc (Obj.cells ([.slice ya l3.length yc]:List Value).toArray 22 (0,0))
    obtain ⟨B8,hB8⟩:∃ q,q=W5.heap.size:=⟨_,rfl⟩
    clear hB
    have hB:=hB5
    clear hB5
    refine wpOp_one (o:=ogQ4) (by rfl) rfl ?_
    unfold ogQ4
    unfold Oper.wp
    go_simp
    refine wpAny_all (rs:=[14]) (by kernel_rfl) (by simp) ?_
    intro i hi
    simp only [List.mem_singleton] at hi
    subst hi
    obtain ⟨v9,W9,hr9,hB9⟩:=hB.app (t:=35) (e0:=22) (z:=.slice none 0 0) (bytes:=24) Try.underlying35 infoSl rfl (by omega) (by omega) 35 (some ⟨B8,0,none⟩) 1 1 [.slice ya l3.length yc] rfl (.inr ⟨_,rfl,by rw [hB8]; exact into_src hB (by first | exact List.mem_cons_self .. | exact List.mem_cons_of_mem _ (List.mem_cons_self ..))⟩) (by intro u hu; simp at hu; subst hu; rfl) (by omega)
    clear hB
    have hB:=hB9
    clear hB9
    have hLB9:LB w.heap.size W9 v9 (L1 ++ [l3]) (vs1 ++ [.slice ya l3.length yc]):=LB.of_app hB.own hvl (fun i hi=>(HL1.out.el i hi).next hB.bel) (HX3.out.next hB.bel)
    have hb9:=hB.bel
    obtain ⟨a9,c9,rfl⟩:=own_len hB.own
    refine wpOp_one (o:=ogQ5) (by rfl) rfl ?_
    unfold ogQ5
    refine appOp (Operand.tmp 40) (Operand.tmp 48) 35 rfl (by kernel_rfl) (by rw [hB8]; kernel_rfl) hr9 ?_
    refine wpAny_all (rs:=[15]) (by kernel_rfl) (by simp) ?_
    intro i hi
    simp only [List.mem_singleton] at hi
    subst hi
    have hbA:Below w.heap.size w (World.alloc W9 (Obj.cells ([.slice a9 (L1.length + 1) c9]:List Value).toArray 35 (0,0))):=hb9.alloc hb9.size _
    have hLBA:=hLB9.next ((Below.refl W9.heap.size W9).alloc (Nat.le_refl _) (Obj.cells ([.slice a9 (L1.length + 1) c9]:List Value).toArray 35 (0,0)))
    have hMA:=HM.out.next hbA
    refine wpOp_one (o:=ogQ6) (by rfl) rfl ?_
    unfold ogQ6
    unfold Oper.wp
    go_simp
    refine wpAny_all (rs:=[16]) (by kernel_rfl) (by simp) ?_
    intro i hi
    simp only [List.mem_singleton] at hi
    subst hi
    obtain ⟨vF,WF,hrF,hnF,hgF,hvF⟩:=app_any hMA.own (by have:=hbA.size; omega) Try.underlying54 infoSl2 rfl (by omega) (by omega) 54 (some ⟨W9.heap.size,0,none⟩) 1 1 [.slice a9 (L1.length + 1) c9] rfl (.inr ⟨_,rfl,World.news_of_block (cs:=([.slice a9 (L1.length + 1) c9]:List Value).toArray) (t:=35) (fr:=(0,0)) (heap_alloc_new W9 _)⟩) (by intro u hu; simp at hu; subst hu; rfl) (by omega)
    have hMF:=hMA.grow hgF hnF (hLBA.lower (Nat.zero_le _))
    refine wpOp_one (o:=ogQ7) (by rfl) rfl ?_
    unfold ogQ7
    refine appOp (Operand.tmp 35) (Operand.tmp 50) 54 rfl (by kernel_rfl) (by kernel_rfl) hrF ?_
    refine wpAny_all (rs:=[17]) (by kernel_rfl) (by simp) ?_
    intro i hi
    simp only [List.mem_singleton] at hi
    subst hi
    refine wpOp_one (o:=ogQ8) (by rfl) rfl ?_
    unfold ogQ8
    unfold Oper.wp
    go_simp
    refine wpAny_done (by kernel_rfl) ?_ _
    refine hQ _ _ _ _ _ _ _ _ _ _ _ _ _ _ _ _ _ vF _ WF hMF ((Fr.of_below hbA).trans (Fr.of_grown hgF (fun b q=>q))) ?_
    rcases hvF with q | q
    ·exact .inl q
    ·exact .inr ⟨_,q,hbA.size⟩
   ·have cx:=cell_next h3 hB.bel
    refine wpOp_one (o:=ogQ3) (by rfl) rfl ?_
    unfold ogQ3
    unfold Oper.wp
    go_simp
    clear cx
    refine wpAny_all (rs:=[5,13]) (by kernel_rfl) (by simp) ?_
    intro i hi
    simp only [List.mem_cons,List.not_mem_nil,or_false] at hi
    rcases hi with rfl | rfl
    ·obtain ⟨v6,W5,hr3,hB3⟩:=hB.app (t:=35) (e0:=22) (z:=.slice none 0 0) (bytes:=24) Try.underlying35 infoSl rfl (by omega) (by omega) 35 xa L1.length xc vs1 (by rw [hvl]; omega) (by rcases hnw with q | ⟨ad,q,r⟩; exact .inl q; exact .inr ⟨ad,q,r _ hB.bel⟩) hone (by omega)
     rw [Nat.zero_add,List.nil_append] at hB3
     clear hB
     have hB:=hB3
     clear hB3
     refine wpOp_one (o:=ogQ1) (by rfl) rfl ?_
     unfold ogQ1
     refine appOp (Operand.const (Value.slice none 0 0)) (Operand.tmp 39) 35 rfl (by kernel_rfl) (by kernel_rfl) hr3 ?_
     refine wpAny_all (rs:=[13]) (by kernel_rfl) (by simp) ?_
     intro i hi
     simp only [List.mem_singleton] at hi
     subst hi
     have hB5:=hB.alloc (Obj.cells ([.slice ya l3.length yc]:List Value).toArray 22 (0,0))
     obtain ⟨B8,hB8⟩:∃ q,q=W5.heap.size:=⟨_,rfl⟩
     clear hB
     have hB:=hB5
     clear hB5
     refine wpOp_one (o:=ogQ4) (by rfl) rfl ?_
     unfold ogQ4
     unfold Oper.wp
     go_simp
     refine wpAny_all (rs:=[14]) (by kernel_rfl) (by simp) ?_
     intro i hi
     simp only [List.mem_singleton] at hi
     subst hi
     obtain ⟨v9,W9,hr9,hB9⟩:=hB.app (t:=35) (e0:=22) (z:=.slice none 0 0) (bytes:=24) Try.underlying35 infoSl rfl (by omega) (by omega) 35 (some ⟨B8,0,none⟩) 1 1 [.slice ya l3.length yc] rfl (.inr ⟨_,rfl,by rw [hB8]; exact into_src hB (by first | exact List.mem_cons_self .. | exact List.mem_cons_of_mem _ (List.mem_cons_self ..))⟩) (by intro u hu; simp at hu; subst hu; rfl) (by omega)
     clear hB
     have hB:=hB9
     clear hB9
     have hLB9:LB w.heap.size W9 v9 (L1 ++ [l3]) (vs1 ++ [.slice ya l3.length yc]):=LB.of_app hB.own hvl (fun i hi=>(HL1.out.el i hi).next hB.bel) (HX3.out.next hB.bel)
     have hb9:=hB.bel
     obtain ⟨a9,c9,rfl⟩:=own_len hB.own
     refine wpOp_one (o:=ogQ5) (by rfl) rfl ?_
     unfold ogQ5
     refine appOp (Operand.tmp 40) (Operand.tmp 48) 35 rfl (by kernel_rfl) (by rw [hB8]; kernel_rfl) hr9 ?_
     refine wpAny_all (rs:=[15]) (by kernel_rfl) (by simp) ?_
     intro i hi
     simp only [List.mem_singleton] at hi
     subst hi
     have hbA:Below w.heap.size w (World.alloc W9 (Obj.cells ([.slice a9 (L1.length + 1) c9]:List Value).toArray 35 (0,0))):=hb9.alloc hb9.size _
     have hLBA:=hLB9.next ((Below.refl W9.heap.size W9).alloc (Nat.le_refl _) (Obj.cells ([.slice a9 (L1.length + 1) c9]:List Value).toArray 35 (0,0)))
     have hMA:=HM.out.next hbA
     refine wpOp_one (o:=ogQ6) (by rfl) rfl ?_
     unfold ogQ6
     unfold Oper.wp
     go_simp
     refine wpAny_all (rs:=[16]) (by kernel_rfl) (by simp) ?_
     intro i hi
     simp only [List.mem_singleton] at hi
     subst hi
     obtain ⟨vF,WF,hrF,hnF,hgF,hvF⟩:=app_any hMA.own (by have:=hbA.size; omega) Try.underlying54 infoSl2 rfl (by omega) (by omega) 54 (some ⟨W9.heap.size,0,none⟩) 1 1 [.slice a9 (L1.length + 1) c9] rfl (.inr ⟨_,rfl,World.news_of_block (cs:=([.slice a9 (L1.length + 1) c9]:List Value).toArray) (t:=35) (fr:=(0,0)) (heap_alloc_new W9 _)⟩) (by intro u hu; simp at hu; subst hu; rfl) (by omega)
     have hMF:=hMA.grow hgF hnF (hLBA.lower (Nat.zero_le _))
     refine wpOp_one (o:=ogQ7) (by rfl) rfl ?_
     unfold ogQ7
     refine appOp (Operand.tmp 35) (Operand.tmp 50) 54 rfl (by kernel_rfl) (by kernel_rfl) hrF ?_
     refine wpAny_all (rs:=[17]) (by kernel_rfl) (by simp) ?_
     intro i hi
     simp only [List.mem_singleton] at hi
     subst hi
     refine wpOp_one (o:=ogQ8) (by rfl) rfl ?_
     unfold ogQ8
     unfold Oper.wp
     go_simp
     refine wpAny_done (by kernel_rfl) ?_ _
     refine hQ _ _ _ _ _ _ _ _ _ _ _ _ _ _ _ _ _ vF _ WF hMF ((Fr.of_below hbA).trans (Fr.of_grown hgF (fun b q=>q))) ?_
     rcases hvF with q | q
     ·exact .inl q
     ·exact .inr ⟨_,q,hbA.size⟩
    ·have hB5:=hB.alloc (Obj.cells ([.slice ya l3.length yc]:List Value).toArray 22 (0,0))
     obtain ⟨B8,hB8⟩:∃ q,q=W.heap.size:=⟨_,rfl⟩
     clear hB
     have hB:=hB5
     clear hB5
     refine wpOp_one (o:=ogQ4) (by rfl) rfl ?_
     unfold ogQ4
     unfold Oper.wp
     go_simp
     refine wpAny_all (rs:=[5]) (by kernel_rfl) (by simp) ?_
     intro i hi
     simp only [List.mem_singleton] at hi
     subst hi
     obtain ⟨v6,W5,hr3,hB3⟩:=hB.app (t:=35) (e0:=22) (z:=.slice none 0 0) (bytes:=24) Try.underlying35 infoSl rfl (by omega) (by omega) 35 xa L1.length xc vs1 (by rw [hvl]; omega) (by rcases hnw with q | ⟨ad,q,r⟩; exact .inl q; exact .inr ⟨ad,q,r _ hB.bel⟩) hone (by omega)
     rw [Nat.zero_add,List.nil_append] at hB3
     clear hB
     have hB:=hB3
     clear hB3
     refine wpOp_one (o:=ogQ1) (by rfl) rfl ?_
     unfold ogQ1
     refine appOp (Operand.const (Value.slice none 0 0)) (Operand.tmp 39) 35 rfl (by kernel_rfl) (by kernel_rfl) hr3 ?_
     refine wpAny_all (rs:=[14]) (by kernel_rfl) (by simp) ?_
     intro i hi
     simp only [List.mem_singleton] at hi
     subst hi
     obtain ⟨v9,W9,hr9,hB9⟩:=hB.app (t:=35) (e0:=22) (z:=.slice none 0 0) (bytes:=24) Try.underlying35 infoSl rfl (by omega) (by omega) 35 (some ⟨B8,0,none⟩) 1 1 [.slice ya l3.length yc] rfl (.inr ⟨_,rfl,by rw [hB8]; exact into_src hB (by first | exact List.mem_cons_self .. | exact List.mem_cons_of_mem _ (List.mem_cons_self ..))⟩) (by intro u hu; simp at hu; subst hu; rfl) (by omega)
     clear hB
     have hB:=hB9
     clear hB9
     have hLB9:LB w.heap.size W9 v9 (L1 ++ [l3]) (vs1 ++ [.slice ya l3.length yc]):=LB.of_app hB.own hvl (fun i hi=>(HL1.out.el i hi).next hB.bel) (HX3.out.next hB.bel)
     have hb9:=hB.bel
     obtain ⟨a9,c9,rfl⟩:=own_len hB.own
     refine wpOp_one (o:=ogQ5) (by rfl) rfl ?_
     unfold ogQ5
     refine appOp (Operand.tmp 40) (Operand.tmp 48) 35 rfl (by kernel_rfl) (by rw [hB8]; kernel_rfl) hr9 ?_
     refine wpAny_all (rs:=[15]) (by kernel_rfl) (by simp) ?_
     intro i hi
     simp only [List.mem_singleton] at hi
     subst hi
     have hbA:Below w.heap.size w (World.alloc W9 (Obj.cells ([.slice a9 (L1.length + 1) c9]:List Value).toArray 35 (0,0))):=hb9.alloc hb9.size _
     have hLBA:=hLB9.next ((Below.refl W9.heap.size W9).alloc (Nat.le_refl _) (Obj.cells ([.slice a9 (L1.length + 1) c9]:List Value).toArray 35 (0,0)))
     have hMA:=HM.out.next hbA
     refine wpOp_one (o:=ogQ6) (by rfl) rfl ?_
     unfold ogQ6
     unfold Oper.wp
     go_simp
     refine wpAny_all (rs:=[16]) (by kernel_rfl) (by simp) ?_
     intro i hi
     simp only [List.mem_singleton] at hi
     subst hi
     obtain ⟨vF,WF,hrF,hnF,hgF,hvF⟩:=app_any hMA.own (by have:=hbA.size; omega) Try.underlying54 infoSl2 rfl (by omega) (by omega) 54 (some ⟨W9.heap.size,0,none⟩) 1 1 [.slice a9 (L1.length + 1) c9] rfl (.inr ⟨_,rfl,World.news_of_block (cs:=([.slice a9 (L1.length + 1) c9]:List Value).toArray) (t:=35) (fr:=(0,0)) (heap_alloc_new W9 _)⟩) (by intro u hu; simp at hu; subst hu; rfl) (by omega)
     have hMF:=hMA.grow hgF hnF (hLBA.lower (Nat.zero_le _))
     refine wpOp_one (o:=ogQ7) (by rfl) rfl ?_
     unfold ogQ7
     refine appOp (Operand.tmp 35) (Operand.tmp 50) 54 rfl (by kernel_rfl) (by kernel_rfl) hrF ?_
     refine wpAny_all (rs:=[17]) (by kernel_rfl) (by simp) ?_
     intro i hi
     simp only [List.mem_singleton] at hi
     subst hi
     refine wpOp_one (o:=ogQ8) (by rfl) rfl ?_
     unfold ogQ8
     unfold Oper.wp
     go_simp
     refine wpAny_done (by kernel_rfl) ?_ _
     refine hQ _ _ _ _ _ _ _ _ _ _ _ _ _ _ _ _ _ vF _ WF hMF ((Fr.of_below hbA).trans (Fr.of_grown hgF (fun b q=>q))) ?_
     rcases hvF with q | q
     ·exact .inl q
     ·exact .inr ⟨_,q,hbA.size⟩
 ·have cx:=cell_next h2 hB.bel
  refine wpOp_one (o:=ogQ2) (by rfl) rfl ?_
  unfold ogQ2
  unfold Oper.wp
  go_simp
  clear cx
  refine wpAny_take (i:=11) (v:=.pointer (some ⟨jg,j,none⟩)) rfl (by kernel_rfl) (by kernel_rfl) (by kernel_rfl) (fun c a w=>hQp c a _ _ w) (Or.inl ⟨by rfl,?_⟩) ?_
  ·intro w
   go_simp
  refine wpAny_all (rs:=[4,12]) (by kernel_rfl) (by simp) ?_
  intro i hi
  simp only [List.mem_cons,List.not_mem_nil,or_false] at hi
  rcases hi with rfl | rfl
  ·have cx:=cell_next h1 hB.bel
   refine wpOp_one (o:=ogQ0) (by rfl) rfl ?_
   unfold ogQ0
   unfold Oper.wp
   go_simp
   clear cx
   refine wpAny_all (rs:=[5,12]) (by kernel_rfl) (by simp) ?_
   intro i hi
   simp only [List.mem_cons,List.not_mem_nil,or_false] at hi
   rcases hi with rfl | rfl
   ·obtain ⟨v6,W5,hr3,hB3⟩:=hB.app (t:=35) (e0:=22) (z:=.slice none 0 0) (bytes:=24) Try.underlying35 infoSl rfl (by omega) (by omega) 35 xa L1.length xc vs1 (by rw [hvl]; omega) (by rcases hnw with q | ⟨ad,q,r⟩; exact .inl q; exact .inr ⟨ad,q,r _ hB.bel⟩) hone (by omega)
    rw [Nat.zero_add,List.nil_append] at hB3
    clear hB
    have hB:=hB3
    clear hB3
    refine wpOp_one (o:=ogQ1) (by rfl) rfl ?_
    unfold ogQ1
    refine appOp (Operand.const (Value.slice none 0 0)) (Operand.tmp 39) 35 rfl (by kernel_rfl) (by kernel_rfl) hr3 ?_
    refine wpAny_all (rs:=[12]) (by kernel_rfl) (by simp) ?_
    intro i hi
    simp only [List.mem_singleton] at hi
    subst hi
    have cx:=cell_next h3 hB.bel
    refine wpOp_one (o:=ogQ3) (by rfl) rfl ?_
    unfold ogQ3
    unfold Oper.wp
    go_simp
    clear cx
    refine wpAny_all (rs:=[13]) (by kernel_rfl) (by simp) ?_
    intro i hi
    simp only [List.mem_singleton] at hi
    subst hi
    have hB5:=hB.alloc (Obj.cells ([.slice ya l3.length yc]:List Value).toArray 22 (0,0))
    obtain ⟨B8,hB8⟩:∃ q,q=W5.heap.size:=⟨_,rfl⟩
    clear hB
    have hB:=hB5
    clear hB5
    refine wpOp_one (o:=ogQ4) (by rfl) rfl ?_
    unfold ogQ4
    unfold Oper.wp
    go_simp
    refine wpAny_all (rs:=[14]) (by kernel_rfl) (by simp) ?_
    intro i hi
    simp only [List.mem_singleton] at hi
    subst hi
    obtain ⟨v9,W9,hr9,hB9⟩:=hB.app (t:=35) (e0:=22) (z:=.slice none 0 0) (bytes:=24) Try.underlying35 infoSl rfl (by omega) (by omega) 35 (some ⟨B8,0,none⟩) 1 1 [.slice ya l3.length yc] rfl (.inr ⟨_,rfl,by rw [hB8]; exact into_src hB (by first | exact List.mem_cons_self .. | exact List.mem_cons_of_mem _ (List.mem_cons_self ..))⟩) (by intro u hu; simp at hu; subst hu; rfl) (by omega)
    clear hB
    have hB:=hB9
    clear hB9
    have hLB9:LB w.heap.size W9 v9 (L1 ++ [l3]) (vs1 ++ [.slice ya l3.length yc]):=LB.of_app hB.own hvl (fun i hi=>(HL1.out.el i hi).next hB.bel) (HX3.out.next hB.bel)
    have hb9:=hB.bel
    obtain ⟨a9,c9,rfl⟩:=own_len hB.own
    refine wpOp_one (o:=ogQ5) (by rfl) rfl ?_
    unfold ogQ5
    refine appOp (Operand.tmp 40) (Operand.tmp 48) 35 rfl (by kernel_rfl) (by rw [hB8]; kernel_rfl) hr9 ?_
    refine wpAny_all (rs:=[15]) (by kernel_rfl) (by simp) ?_
    intro i hi
    simp only [List.mem_singleton] at hi
    subst hi
    have hbA:Below w.heap.size w (World.alloc W9 (Obj.cells ([.slice a9 (L1.length + 1) c9]:List Value).toArray 35 (0,0))):=hb9.alloc hb9.size _
    have hLBA:=hLB9.next ((Below.refl W9.heap.size W9).alloc (Nat.le_refl _) (Obj.cells ([.slice a9 (L1.length + 1) c9]:List Value).toArray 35 (0,0)))
    have hMA:=HM.out.next hbA
    refine wpOp_one (o:=ogQ6) (by rfl) rfl ?_
    unfold ogQ6
    unfold Oper.wp
    go_simp
    refine wpAny_all (rs:=[16]) (by kernel_rfl) (by simp) ?_
    intro i hi
    simp only [List.mem_singleton] at hi
    subst hi
    obtain ⟨vF,WF,hrF,hnF,hgF,hvF⟩:=app_any hMA.own (by have:=hbA.size; omega) Try.underlying54 infoSl2 rfl (by omega) (by omega) 54 (some ⟨W9.heap.size,0,none⟩) 1 1 [.slice a9 (L1.length + 1) c9] rfl (.inr ⟨_,rfl,World.news_of_block (cs:=([.slice a9 (L1.length + 1) c9]:List Value).toArray) (t:=35) (fr:=(0,0)) (heap_alloc_new W9 _)⟩) (by intro u hu; simp at hu; subst hu; rfl) (by omega)
    have hMF:=hMA.grow hgF hnF (hLBA.lower (Nat.zero_le _))
    refine wpOp_one (o:=ogQ7) (by rfl) rfl ?_
    unfold ogQ7
    refine appOp (Operand.tmp 35) (Operand.tmp 50) 54 rfl (by kernel_rfl) (by kernel_rfl) hrF ?_
    refine wpAny_all (rs:=[17]) (by kernel_rfl) (by simp) ?_
    intro i hi
    simp only [List.mem_singleton] at hi
    subst hi
    refine wpOp_one (o:=ogQ8) (by rfl) rfl ?_
    unfold ogQ8
    unfold Oper.wp
    go_simp
    refine wpAny_done (by kernel_rfl) ?_ _
    refine hQ _ _ _ _ _ _ _ _ _ _ _ _ _ _ _ _ _ vF _ WF hMF ((Fr.of_below hbA).trans (Fr.of_grown hgF (fun b q=>q))) ?_
    rcases hvF with q | q
    ·exact .inl q
    ·exact .inr ⟨_,q,hbA.size⟩
   ·have cx:=cell_next h3 hB.bel
    refine wpOp_one (o:=ogQ3) (by rfl) rfl ?_
    unfold ogQ3
    unfold Oper.wp
    go_simp
    clear cx
    refine wpAny_all (rs:=[5,13]) (by kernel_rfl) (by simp) ?_
    intro i hi
    simp only [List.mem_cons,List.not_mem_nil,or_false] at hi
    rcases hi with rfl | rfl
    ·obtain ⟨v6,W5,hr3,hB3⟩:=hB.app (t:=35) (e0:=22) (z:=.slice none 0 0) (bytes:=24) Try.underlying35 infoSl rfl (by omega) (by omega) 35 xa L1.length xc vs1 (by rw [hvl]; omega) (by rcases hnw with q | ⟨ad,q,r⟩; exact .inl q; exact .inr ⟨ad,q,r _ hB.bel⟩) hone (by omega)
     rw [Nat.zero_add,List.nil_append] at hB3
     clear hB
     have hB:=hB3
     clear hB3
     refine wpOp_one (o:=ogQ1) (by rfl) rfl ?_
     unfold ogQ1
     refine appOp (Operand.const (Value.slice none 0 0)) (Operand.tmp 39) 35 rfl (by kernel_rfl) (by kernel_rfl) hr3 ?_
     refine wpAny_all (rs:=[13]) (by kernel_rfl) (by simp) ?_
     intro i hi
     simp only [List.mem_singleton] at hi
     subst hi
     have hB5:=hB.alloc (Obj.cells ([.slice ya l3.length yc]:List Value).toArray 22 (0,0))
     obtain ⟨B8,hB8⟩:∃ q,q=W5.heap.size:=⟨_,rfl⟩
     clear hB
     have hB:=hB5
     clear hB5
     refine wpOp_one (o:=ogQ4) (by rfl) rfl ?_
     unfold ogQ4
     unfold Oper.wp
     go_simp
     refine wpAny_all (rs:=[14]) (by kernel_rfl) (by simp) ?_
     intro i hi
     simp only [List.mem_singleton] at hi
     subst hi
     obtain ⟨v9,W9,hr9,hB9⟩:=hB.app (t:=35) (e0:=22) (z:=.slice none 0 0) (bytes:=24) Try.underlying35 infoSl rfl (by omega) (by omega) 35 (some ⟨B8,0,none⟩) 1 1 [.slice ya l3.length yc] rfl (.inr ⟨_,rfl,by rw [hB8]; exact into_src hB (by first | exact List.mem_cons_self .. | exact List.mem_cons_of_mem _ (List.mem_cons_self ..))⟩) (by intro u hu; simp at hu; subst hu; rfl) (by omega)
     clear hB
     have hB:=hB9
     clear hB9
     have hLB9:LB w.heap.size W9 v9 (L1 ++ [l3]) (vs1 ++ [.slice ya l3.length yc]):=LB.of_app hB.own hvl (fun i hi=>(HL1.out.el i hi).next hB.bel) (HX3.out.next hB.bel)
     have hb9:=hB.bel
     obtain ⟨a9,c9,rfl⟩:=own_len hB.own
     refine wpOp_one (o:=ogQ5) (by rfl) rfl ?_
     unfold ogQ5
     refine appOp (Operand.tmp 40) (Operand.tmp 48) 35 rfl (by kernel_rfl) (by rw [hB8]; kernel_rfl) hr9 ?_
     refine wpAny_all (rs:=[15]) (by kernel_rfl) (by simp) ?_
     intro i hi
     simp only [List.mem_singleton] at hi
     subst hi
     have hbA:Below w.heap.size w (World.alloc W9 (Obj.cells ([.slice a9 (L1.length + 1) c9]:List Value).toArray 35 (0,0))):=hb9.alloc hb9.size _
     have hLBA:=hLB9.next ((Below.refl W9.heap.size W9).alloc (Nat.le_refl _) (Obj.cells ([.slice a9 (L1.length + 1) c9]:List Value).toArray 35 (0,0)))
     have hMA:=HM.out.next hbA
     refine wpOp_one (o:=ogQ6) (by rfl) rfl ?_
     unfold ogQ6
     unfold Oper.wp
     go_simp
     refine wpAny_all (rs:=[16]) (by kernel_rfl) (by simp) ?_
     intro i hi
     simp only [List.mem_singleton] at hi
     subst hi
     obtain ⟨vF,WF,hrF,hnF,hgF,hvF⟩:=app_any hMA.own (by have:=hbA.size; omega) Try.underlying54 infoSl2 rfl (by omega) (by omega) 54 (some ⟨W9.heap.size,0,none⟩) 1 1 [.slice a9 (L1.length + 1) c9] rfl (.inr ⟨_,rfl,World.news_of_block (cs:=([.slice a9 (L1.length + 1) c9]:List Value).toArray) (t:=35) (fr:=(0,0)) (heap_alloc_new W9 _)⟩) (by intro u hu; simp at hu; subst hu; rfl) (by omega)
     have hMF:=hMA.grow hgF hnF (hLBA.lower (Nat.zero_le _))
     refine wpOp_one (o:=ogQ7) (by rfl) rfl ?_
     unfold ogQ7
     refine appOp (Operand.tmp 35) (Operand.tmp 50) 54 rfl (by kernel_rfl) (by kernel_rfl) hrF ?_
     refine wpAny_all (rs:=[17]) (by kernel_rfl) (by simp) ?_
     intro i hi
     simp only [List.mem_singleton] at hi
     subst hi
     refine wpOp_one (o:=ogQ8) (by rfl) rfl ?_
     unfold ogQ8
     unfold Oper.wp
     go_simp
     refine wpAny_done (by kernel_rfl) ?_ _
     refine hQ _ _ _ _ _ _ _ _ _ _ _ _ _ _ _ _ _ vF _ WF hMF ((Fr.of_below hbA).trans (Fr.of_grown hgF (fun b q=>q))) ?_
     rcases hvF with q | q
     ·exact .inl q
     ·exact .inr ⟨_,q,hbA.size⟩
    ·have hB5:=hB.alloc (Obj.cells ([.slice ya l3.length yc]:List Value).toArray 22 (0,0))
     obtain ⟨B8,hB8⟩:∃ q,q=W.heap.size:=⟨_,rfl⟩
     clear hB
     have hB:=hB5
     clear hB5
     refine wpOp_one (o:=ogQ4) (by rfl) rfl ?_
     unfold ogQ4
     unfold Oper.wp
     go_simp
     refine wpAny_all (rs:=[5]) (by kernel_rfl) (by simp) ?_
     intro i hi
     simp only [List.mem_singleton] at hi
     subst hi
     obtain ⟨v6,W5,hr3,hB3⟩:=hB.app (t:=35) (e0:=22) (z:=.slice none 0 0) (bytes:=24) Try.underlying35 infoSl rfl (by omega) (by omega) 35 xa L1.length xc vs1 (by rw [hvl]; omega) (by rcases hnw with q | ⟨ad,q,r⟩; exact .inl q; exact .inr ⟨ad,q,r _ hB.bel⟩) hone (by omega)
     rw [Nat.zero_add,List.nil_append] at hB3
     clear hB
     have hB:=hB3
     clear hB3
     refine wpOp_one (o:=ogQ1) (by rfl) rfl ?_
     unfold ogQ1
     refine appOp (Operand.const (Value.slice none 0 0)) (Operand.tmp 39) 35 rfl (by kernel_rfl) (by kernel_rfl) hr3 ?_
     refine wpAny_all (rs:=[14]) (by kernel_rfl) (by simp) ?_
     intro i hi
     simp only [List.mem_singleton] at hi
     subst hi
     obtain ⟨v9,W9,hr9,hB9⟩:=hB.app (t:=35) (e0:=22) (z:=.slice none 0 0) (bytes:=24) Try.underlying35 infoSl rfl (by omega) (by omega) 35 (some ⟨B8,0,none⟩) 1 1 [.slice ya l3.length yc] rfl (.inr ⟨_,rfl,by rw [hB8]; exact into_src hB (by first | exact List.mem_cons_self .. | exact List.mem_cons_of_mem _ (List.mem_cons_self ..))⟩) (by intro u hu; simp at hu; subst hu; rfl) (by omega)
     clear hB
     have hB:=hB9
     clear hB9
     have hLB9:LB w.heap.size W9 v9 (L1 ++ [l3]) (vs1 ++ [.slice ya l3.length yc]):=LB.of_app hB.own hvl (fun i hi=>(HL1.out.el i hi).next hB.bel) (HX3.out.next hB.bel)
     have hb9:=hB.bel
     obtain ⟨a9,c9,rfl⟩:=own_len hB.own
     refine wpOp_one (o:=ogQ5) (by rfl) rfl ?_
     unfold ogQ5
     refine appOp (Operand.tmp 40) (Operand.tmp 48) 35 rfl (by kernel_rfl) (by rw [hB8]; kernel_rfl) hr9 ?_
     refine wpAny_all (rs:=[15]) (by kernel_rfl) (by simp) ?_
     intro i hi
     simp only [List.mem_singleton] at hi
     subst hi
     have hbA:Below w.heap.size w (World.alloc W9 (Obj.cells ([.slice a9 (L1.length + 1) c9]:List Value).toArray 35 (0,0))):=hb9.alloc hb9.size _
     have hLBA:=hLB9.next ((Below.refl W9.heap.size W9).alloc (Nat.le_refl _) (Obj.cells ([.slice a9 (L1.length + 1) c9]:List Value).toArray 35 (0,0)))
     have hMA:=HM.out.next hbA
     refine wpOp_one (o:=ogQ6) (by rfl) rfl ?_
     unfold ogQ6
     unfold Oper.wp
     go_simp
     refine wpAny_all (rs:=[16]) (by kernel_rfl) (by simp) ?_
     intro i hi
     simp only [List.mem_singleton] at hi
     subst hi
     obtain ⟨vF,WF,hrF,hnF,hgF,hvF⟩:=app_any hMA.own (by have:=hbA.size; omega) Try.underlying54 infoSl2 rfl (by omega) (by omega) 54 (some ⟨W9.heap.size,0,none⟩) 1 1 [.slice a9 (L1.length + 1) c9] rfl (.inr ⟨_,rfl,World.news_of_block (cs:=([.slice a9 (L1.length + 1) c9]:List Value).toArray) (t:=35) (fr:=(0,0)) (heap_alloc_new W9 _)⟩) (by intro u hu; simp at hu; subst hu; rfl) (by omega)
     have hMF:=hMA.grow hgF hnF (hLBA.lower (Nat.zero_le _))
     refine wpOp_one (o:=ogQ7) (by rfl) rfl ?_
     unfold ogQ7
     refine appOp (Operand.tmp 35) (Operand.tmp 50) 54 rfl (by kernel_rfl) (by kernel_rfl) hrF ?_
     refine wpAny_all (rs:=[17]) (by kernel_rfl) (by simp) ?_
     intro i hi
     simp only [List.mem_singleton] at hi
     subst hi
     refine wpOp_one (o:=ogQ8) (by rfl) rfl ?_
     unfold ogQ8
     unfold Oper.wp
     go_simp
     refine wpAny_done (by kernel_rfl) ?_ _
     refine hQ _ _ _ _ _ _ _ _ _ _ _ _ _ _ _ _ _ vF _ WF hMF ((Fr.of_below hbA).trans (Fr.of_grown hgF (fun b q=>q))) ?_
     rcases hvF with q | q
     ·exact .inl q
     ·exact .inr ⟨_,q,hbA.size⟩
  ·have cx:=cell_next h3 hB.bel
   refine wpOp_one (o:=ogQ3) (by rfl) rfl ?_
   unfold ogQ3
   unfold Oper.wp
   go_simp
   clear cx
   refine wpAny_all (rs:=[4,13]) (by kernel_rfl) (by simp) ?_
   intro i hi
   simp only [List.mem_cons,List.not_mem_nil,or_false] at hi
   rcases hi with rfl | rfl
   ·have cx:=cell_next h1 hB.bel
    refine wpOp_one (o:=ogQ0) (by rfl) rfl ?_
    unfold ogQ0
    unfold Oper.wp
    go_simp
    clear cx
    refine wpAny_all (rs:=[5,13]) (by kernel_rfl) (by simp) ?_
    intro i hi
    simp only [List.mem_cons,List.not_mem_nil,or_false] at hi
    rcases hi with rfl | rfl
    ·obtain ⟨v6,W5,hr3,hB3⟩:=hB.app (t:=35) (e0:=22) (z:=.slice none 0 0) (bytes:=24) Try.underlying35 infoSl rfl (by omega) (by omega) 35 xa L1.length xc vs1 (by rw [hvl]; omega) (by rcases hnw with q | ⟨ad,q,r⟩; exact .inl q; exact .inr ⟨ad,q,r _ hB.bel⟩) hone (by omega)
     rw [Nat.zero_add,List.nil_append] at hB3
     clear hB
     have hB:=hB3
     clear hB3
     refine wpOp_one (o:=ogQ1) (by rfl) rfl ?_
     unfold ogQ1
     refine appOp (Operand.const (Value.slice none 0 0)) (Operand.tmp 39) 35 rfl (by kernel_rfl) (by kernel_rfl) hr3 ?_
     refine wpAny_all (rs:=[13]) (by kernel_rfl) (by simp) ?_
     intro i hi
     simp only [List.mem_singleton] at hi
     subst hi
     have hB5:=hB.alloc (Obj.cells ([.slice ya l3.length yc]:List Value).toArray 22 (0,0))
     obtain ⟨B8,hB8⟩:∃ q,q=W5.heap.size:=⟨_,rfl⟩
     clear hB
     have hB:=hB5
     clear hB5
     refine wpOp_one (o:=ogQ4) (by rfl) rfl ?_
     unfold ogQ4
     unfold Oper.wp
     go_simp
     refine wpAny_all (rs:=[14]) (by kernel_rfl) (by simp) ?_
     intro i hi
     simp only [List.mem_singleton] at hi
     subst hi
     obtain ⟨v9,W9,hr9,hB9⟩:=hB.app (t:=35) (e0:=22) (z:=.slice none 0 0) (bytes:=24) Try.underlying35 infoSl rfl (by omega) (by omega) 35 (some ⟨B8,0,none⟩) 1 1 [.slice ya l3.length yc] rfl (.inr ⟨_,rfl,by rw [hB8]; exact into_src hB (by first | exact List.mem_cons_self .. | exact List.mem_cons_of_mem _ (List.mem_cons_self ..))⟩) (by intro u hu; simp at hu; subst hu; rfl) (by omega)
     clear hB
     have hB:=hB9
     clear hB9
     have hLB9:LB w.heap.size W9 v9 (L1 ++ [l3]) (vs1 ++ [.slice ya l3.length yc]):=LB.of_app hB.own hvl (fun i hi=>(HL1.out.el i hi).next hB.bel) (HX3.out.next hB.bel)
     have hb9:=hB.bel
     obtain ⟨a9,c9,rfl⟩:=own_len hB.own
     refine wpOp_one (o:=ogQ5) (by rfl) rfl ?_
     unfold ogQ5
     refine appOp (Operand.tmp 40) (Operand.tmp 48) 35 rfl (by kernel_rfl) (by rw [hB8]; kernel_rfl) hr9 ?_
     refine wpAny_all (rs:=[15]) (by kernel_rfl) (by simp) ?_
     intro i hi
     simp only [List.mem_singleton] at hi
     subst hi
     have hbA:Below w.heap.size w (World.alloc W9 (Obj.cells ([.slice a9 (L1.length + 1) c9]:List Value).toArray 35 (0,0))):=hb9.alloc hb9.size _
     have hLBA:=hLB9.next ((Below.refl W9.heap.size W9).alloc (Nat.le_refl _) (Obj.cells ([.slice a9 (L1.length + 1) c9]:List Value).toArray 35 (0,0)))
     have hMA:=HM.out.next hbA
     refine wpOp_one (o:=ogQ6) (by rfl) rfl ?_
     unfold ogQ6
     unfold Oper.wp
     go_simp
     refine wpAny_all (rs:=[16]) (by kernel_rfl) (by simp) ?_
     intro i hi
     simp only [List.mem_singleton] at hi
     subst hi
     obtain ⟨vF,WF,hrF,hnF,hgF,hvF⟩:=app_any hMA.own (by have:=hbA.size; omega) Try.underlying54 infoSl2 rfl (by omega) (by omega) 54 (some ⟨W9.heap.size,0,none⟩) 1 1 [.slice a9 (L1.length + 1) c9] rfl (.inr ⟨_,rfl,World.news_of_block (cs:=([.slice a9 (L1.length + 1) c9]:List Value).toArray) (t:=35) (fr:=(0,0)) (heap_alloc_new W9 _)⟩) (by intro u hu; simp at hu; subst hu; rfl) (by omega)
     have hMF:=hMA.grow hgF hnF (hLBA.lower (Nat.zero_le _))
     refine wpOp_one (o:=ogQ7) (by rfl) rfl ?_
     unfold ogQ7
     refine appOp (Operand.tmp 35) (Operand.tmp 50) 54 rfl (by kernel_rfl) (by kernel_rfl) hrF ?_
     refine wpAny_all (rs:=[17]) (by kernel_rfl) (by simp) ?_
     intro i hi
     simp only [List.mem_singleton] at hi
     subst hi
     refine wpOp_one (o:=ogQ8) (by rfl) rfl ?_
     unfold ogQ8
     unfold Oper.wp
     go_simp
     refine wpAny_done (by kernel_rfl) ?_ _
     refine hQ _ _ _ _ _ _ _ _ _ _ _ _ _ _ _ _ _ vF _ WF hMF ((Fr.of_below hbA).trans (Fr.of_grown hgF (fun b q=>q))) ?_
     rcases hvF with q | q
     ·exact .inl q
     ·exact .inr ⟨_,q,hbA.size⟩
    ·have hB5:=hB.alloc (Obj.cells ([.slice ya l3.length yc]:List Value).toArray 22 (0,0))
     obtain ⟨B8,hB8⟩:∃ q,q=W.heap.size:=⟨_,rfl⟩
     clear hB
     have hB:=hB5
     clear hB5
     refine wpOp_one (o:=ogQ4) (by rfl) rfl ?_
     unfold ogQ4
     unfold Oper.wp
     go_simp
     refine wpAny_all (rs:=[5]) (by kernel_rfl) (by simp) ?_
     intro i hi
     simp only [List.mem_singleton] at hi
     subst hi
     obtain ⟨v6,W5,hr3,hB3⟩:=hB.app (t:=35) (e0:=22) (z:=.slice none 0 0) (bytes:=24) Try.underlying35 infoSl rfl (by omega) (by omega) 35 xa L1.length xc vs1 (by rw [hvl]; omega) (by rcases hnw with q | ⟨ad,q,r⟩; exact .inl q; exact .inr ⟨ad,q,r _ hB.bel⟩) hone (by omega)
     rw [Nat.zero_add,List.nil_append] at hB3
     clear hB
     have hB:=hB3
     clear hB3
     refine wpOp_one (o:=ogQ1) (by rfl) rfl ?_
     unfold ogQ1
     refine appOp (Operand.const (Value.slice none 0 0)) (Operand.tmp 39) 35 rfl (by kernel_rfl) (by kernel_rfl) hr3 ?_
     refine wpAny_all (rs:=[14]) (by kernel_rfl) (by simp) ?_
     intro i hi
     simp only [List.mem_singleton] at hi
     subst hi
     obtain ⟨v9,W9,hr9,hB9⟩:=hB.app (t:=35) (e0:=22) (z:=.slice none 0 0) (bytes:=24) Try.underlying35 infoSl rfl (by omega) (by omega) 35 (some ⟨B8,0,none⟩) 1 1 [.slice ya l3.length yc] rfl (.inr ⟨_,rfl,by rw [hB8]; exact into_src hB (by first | exact List.mem_cons_self .. | exact List.mem_cons_of_mem _ (List.mem_cons_self ..))⟩) (by intro u hu; simp at hu; subst hu; rfl) (by omega)
     clear hB
     have hB:=hB9
     clear hB9
     have hLB9:LB w.heap.size W9 v9 (L1 ++ [l3]) (vs1 ++ [.slice ya l3.length yc]):=LB.of_app hB.own hvl (fun i hi=>(HL1.out.el i hi).next hB.bel) (HX3.out.next hB.bel)
     have hb9:=hB.bel
     obtain ⟨a9,c9,rfl⟩:=own_len hB.own
     refine wpOp_one (o:=ogQ5) (by rfl) rfl ?_
     unfold ogQ5
     refine appOp (Operand.tmp 40) (Operand.tmp 48) 35 rfl (by kernel_rfl) (by rw [hB8]; kernel_rfl) hr9 ?_
     refine wpAny_all (rs:=[15]) (by kernel_rfl) (by simp) ?_
     intro i hi
     simp only [List.mem_singleton] at hi
     subst hi
     have hbA:Below w.heap.size w (World.alloc W9 (Obj.cells ([.slice a9 (L1.length + 1) c9]:List Value).toArray 35 (0,0))):=hb9.alloc hb9.size _
     have hLBA:=hLB9.next ((Below.refl W9.heap.size W9).alloc (Nat.le_refl _) (Obj.cells ([.slice a9 (L1.length + 1) c9]:List Value).toArray 35 (0,0)))
     have hMA:=HM.out.next hbA
     refine wpOp_one (o:=ogQ6) (by rfl) rfl ?_
     unfold ogQ6
     unfold Oper.wp
     go_simp
     refine wpAny_all (rs:=[16]) (by kernel_rfl) (by simp) ?_
     intro i hi
     simp only [List.mem_singleton] at hi
     subst hi
     obtain ⟨vF,WF,hrF,hnF,hgF,hvF⟩:=app_any hMA.own (by have:=hbA.size; omega) Try.underlying54 infoSl2 rfl (by omega) (by omega) 54 (some ⟨W9.heap.size,0,none⟩) 1 1 [.slice a9 (L1.length + 1) c9] rfl (.inr ⟨_,rfl,World.news_of_block (cs:=([.slice a9 (L1.length + 1) c9]:List Value).toArray) (t:=35) (fr:=(0,0)) (heap_alloc_new W9 _)⟩) (by intro u hu; simp at hu; subst hu; rfl) (by omega)
     have hMF:=hMA.grow hgF hnF (hLBA.lower (Nat.zero_le _))
     refine wpOp_one (o:=ogQ7) (by rfl) rfl ?_
     unfold ogQ7
     refine appOp (Operand.tmp 35) (Operand.tmp 50) 54 rfl (by kernel_rfl) (by kernel_rfl) hrF ?_
     refine wpAny_all (rs:=[17]) (by kernel_rfl) (by simp) ?_
     intro i hi
     simp only [List.mem_singleton] at hi
     subst hi
     refine wpOp_one (o:=ogQ8) (by rfl) rfl ?_
     unfold ogQ8
     unfold Oper.wp
     go_simp
     refine wpAny_done (by kernel_rfl) ?_ _
     refine hQ _ _ _ _ _ _ _ _ _ _ _ _ _ _ _ _ _ vF _ WF hMF ((Fr.of_below hbA).trans (Fr.of_grown hgF (fun b q=>q))) ?_
     rcases hvF with q | q
     ·exact .inl q
     ·exact .inr ⟨_,q,hbA.size⟩
   ·have hB5:=hB.alloc (Obj.cells ([.slice ya l3.length yc]:List Value).toArray 22 (0,0))
    obtain ⟨B8,hB8⟩:∃ q,q=W.heap.size:=⟨_,rfl⟩
    clear hB
    have hB:=hB5
    clear hB5
    refine wpOp_one (o:=ogQ4) (by rfl) rfl ?_
    unfold ogQ4
    unfold Oper.wp
    go_simp
    refine wpAny_all (rs:=[4]) (by kernel_rfl) (by simp) ?_
    intro i hi
    simp only [List.mem_singleton] at hi
    subst hi
    have cx:=cell_next h1 hB.bel
    refine wpOp_one (o:=ogQ0) (by rfl) rfl ?_
    unfold ogQ0
    unfold Oper.wp
    go_simp
    clear cx
    refine wpAny_all (rs:=[5]) (by kernel_rfl) (by simp) ?_
    intro i hi
    simp only [List.mem_singleton] at hi
    subst hi
    obtain ⟨v6,W5,hr3,hB3⟩:=hB.app (t:=35) (e0:=22) (z:=.slice none 0 0) (bytes:=24) Try.underlying35 infoSl rfl (by omega) (by omega) 35 xa L1.length xc vs1 (by rw [hvl]; omega) (by rcases hnw with q | ⟨ad,q,r⟩; exact .inl q; exact .inr ⟨ad,q,r _ hB.bel⟩) hone (by omega)
    rw [Nat.zero_add,List.nil_append] at hB3
    clear hB
    have hB:=hB3
    clear hB3
    refine wpOp_one (o:=ogQ1) (by rfl) rfl ?_
    unfold ogQ1
    refine appOp (Operand.const (Value.slice none 0 0)) (Operand.tmp 39) 35 rfl (by kernel_rfl) (by kernel_rfl) hr3 ?_
    refine wpAny_all (rs:=[14]) (by kernel_rfl) (by simp) ?_
    intro i hi
    simp only [List.mem_singleton] at hi
    subst hi
    obtain ⟨v9,W9,hr9,hB9⟩:=hB.app (t:=35) (e0:=22) (z:=.slice none 0 0) (bytes:=24) Try.underlying35 infoSl rfl (by omega) (by omega) 35 (some ⟨B8,0,none⟩) 1 1 [.slice ya l3.length yc] rfl (.inr ⟨_,rfl,by rw [hB8]; exact into_src hB (by first | exact List.mem_cons_self .. | exact List.mem_cons_of_mem _ (List.mem_cons_self ..))⟩) (by intro u hu; simp at hu; subst hu; rfl) (by omega)
    clear hB
    have hB:=hB9
    clear hB9
    have hLB9:LB w.heap.size W9 v9 (L1 ++ [l3]) (vs1 ++ [.slice ya l3.length yc]):=LB.of_app hB.own hvl (fun i hi=>(HL1.out.el i hi).next hB.bel) (HX3.out.next hB.bel)
    have hb9:=hB.bel
    obtain ⟨a9,c9,rfl⟩:=own_len hB.own
    refine wpOp_one (o:=ogQ5) (by rfl) rfl ?_
    unfold ogQ5
    refine appOp (Operand.tmp 40) (Operand.tmp 48) 35 rfl (by kernel_rfl) (by rw [hB8]; kernel_rfl) hr9 ?_
    refine wpAny_all (rs:=[15]) (by kernel_rfl) (by simp) ?_
    intro i hi
    simp only [List.mem_singleton] at hi
    subst hi
    have hbA:Below w.heap.size w (World.alloc W9 (Obj.cells ([.slice a9 (L1.length + 1) c9]:List Value).toArray 35 (0,0))):=hb9.alloc hb9.size _
    have hLBA:=hLB9.next ((Below.refl W9.heap.size W9).alloc (Nat.le_refl _) (Obj.cells ([.slice a9 (L1.length + 1) c9]:List Value).toArray 35 (0,0)))
    have hMA:=HM.out.next hbA
    refine wpOp_one (o:=ogQ6) (by rfl) rfl ?_
    unfold ogQ6
    unfold Oper.wp
    go_simp
    refine wpAny_all (rs:=[16]) (by kernel_rfl) (by simp) ?_
    intro i hi
    simp only [List.mem_singleton] at hi
    subst hi
    obtain ⟨vF,WF,hrF,hnF,hgF,hvF⟩:=app_any hMA.own (by have:=hbA.size; omega) Try.underlying54 infoSl2 rfl (by omega) (by omega) 54 (some ⟨W9.heap.size,0,none⟩) 1 1 [.slice a9 (L1.length + 1) c9] rfl (.inr ⟨_,rfl,World.news_of_block (cs:=([.slice a9 (L1.length + 1) c9]:List Value).toArray) (t:=35) (fr:=(0,0)) (heap_alloc_new W9 _)⟩) (by intro u hu; simp at hu; subst hu; rfl) (by omega)
    have hMF:=hMA.grow hgF hnF (hLBA.lower (Nat.zero_le _))
    refine wpOp_one (o:=ogQ7) (by rfl) rfl ?_
    unfold ogQ7
    refine appOp (Operand.tmp 35) (Operand.tmp 50) 54 rfl (by kernel_rfl) (by kernel_rfl) hrF ?_
    refine wpAny_all (rs:=[17]) (by kernel_rfl) (by simp) ?_
    intro i hi
    simp only [List.mem_singleton] at hi
    subst hi
    refine wpOp_one (o:=ogQ8) (by rfl) rfl ?_
    unfold ogQ8
    unfold Oper.wp
    go_simp
    refine wpAny_done (by kernel_rfl) ?_ _
    refine hQ _ _ _ _ _ _ _ _ _ _ _ _ _ _ _ _ _ vF _ WF hMF ((Fr.of_below hbA).trans (Fr.of_grown hgF (fun b q=>q))) ?_
    rcases hvF with q | q
    ·exact .inl q
    ·exact .inr ⟨_,q,hbA.size⟩
end Go.Proofs.Yteghpophcnehgaa
