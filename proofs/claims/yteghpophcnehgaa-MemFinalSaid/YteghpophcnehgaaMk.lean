/-
  What the functions that the law reaches do, one by one: contracts. Conditions: those that each of them prints.
-/
import Derived.Test.YteghpophcnehgaaMj
import Derived.WalkKit
import Derived.Deep.RegionLaw
namespace Go.Proofs.Yteghpophcnehgaa
open Go.RowKit ExprA SndA
set_option maxRecDepth 20000 in
set_option maxHeartbeats 4000000 in
theorem regsreg_l (w:World) (v p1 p2:Value) (a1 a2:Option Addr) (b o n c c1 c2 k q:Nat) (x:Int) (L:List Int) (hk:k≤L.length) (hL:L.length≤1000) (hq:q < n) (hn:n≤1000) (hce:w.cell? ⟨b,o + q * 2 + 1,none⟩=some (.int .i64 x)) (e1:p1=.slice a1 k c1) (e2:p2=.slice a2 (L.length - k) c2)
  (hn1:k=0 ∨ ∃ ad,a1=some ad∧∀ W,Below w.heap.size w W→∀ j u,(nints (L.take k))[j]?=some u→W.cell? (ad.add j)=some u)
  (hn2:L.length - k=0 ∨ ∃ ad,a2=some ad∧∀ W,Below w.heap.size w W→∀ j u,(nints (L.drop k))[j]?=some u→W.cell? (ad.add j)=some u)
  (z1 z2 z6 z7 z8 z9 z10 z11 z12 z13 z14 z15 z16 z17 z18 z19 z20 z21 z22 z23 z24 z25 z26 z27 z28 z29 z30 z31 z32 z33 z34 z35 z36 z37 z38 z39 z40 z41 z42 z43 z44 z45 z46 z47 z48 z49 z50 z51 z52 z53 z54 z55 z56 z57 z58 z59 z60 z61 z62 z63 z64 z65 z66 z67:Value) (Q:Exit→Act→World→Prop)
  (hQp:∀ c (a:Act) (d:Tmp) v w,Q (.panic c) (a.put (some d) v) w→Q (.panic c) a w)
  (h1:∀ (a:Act) (w':World),a.tmps[52]?.getD undef=v→a.tmps[53]?.getD undef=.int .i64 (k:Int)→(execOp a.eval { dst:=some 54,op:=Op.slice 22 (Operand.tmp 52) none (some (Operand.tmp 53)) none,type:=22,pos := "ref.go:202", after:=#[{ on:=0,ground:=Ground.data },{ on:=1,ground:=Ground.data }],guard:=none }).run Try.prog w'=.ok (.value p1) w')
  (h2:∀ (a:Act) (w':World),a.tmps[63]?.getD undef=v→a.tmps[64]?.getD undef=.int .i64 (k:Int)→(execOp a.eval { dst:=some 65,op:=Op.slice 22 (Operand.tmp 63) (some (Operand.tmp 64)) none none,type:=22,pos := "ref.go:202", after:=#[{ on:=11,ground:=Ground.data },{ on:=12,ground:=Ground.data }],guard:=none }).run Try.prog w'=.ok (.value p2) w')
  (hQ:∀ (y52 y53 y54 y55 y56 y57 y58 y59 y60 y61 y62 y63 y64 y65 y66 v3:Value) (W':World),LV W' v3 (L.take k ++ [x] ++ L.drop k)→Below w.heap.size w W'→Q .normal { tmps:=(.slice (some ⟨b,o,none⟩) n c::z1::z2::v3::.int .i64 (q:Int)::.int .i64 (k:Int)::z6::z7::z8::z9::z10::z11::z12::z13::z14::z15::z16::z17::z18::z19::z20::z21::z22::z23::z24::z25::z26::z27::z28::z29::z30::z31::z32::z33::z34::z35::z36::z37::z38::z39::z40::z41::z42::z43::z44::z45::z46::z47::z48::z49::z50::z51::y52::y53::y54::y55::y56::y57::y58::y59::y60::y61::y62::y63::y64::y65::y66::z67::[]).toArray,defers:=[] } W') :
  Code.wp Try.prog (Code.region 10 #[{ dst:=some 52,op:=Op.move (Operand.tmp 3),type:=22,pos := "ref.go:202", after:=#[],guard:=none },{ dst:=some 53,op:=Op.move (Operand.tmp 5),type:=3,pos := "ref.go:202", after:=#[],guard:=none },{ dst:=some 54,op:=Op.slice 22 (Operand.tmp 52) none (some (Operand.tmp 53)) none,type:=22,pos := "ref.go:202", after:=#[{ on:=0,ground:=Ground.data },{ on:=1,ground:=Ground.data }],guard:=none },{ dst:=some 55,op:=Op.call { callee:=Callee.builtin Builtin.append,args:=#[Operand.const (Value.slice none 0 0),Operand.tmp 54],argTypes:=#[22,22] },type:=22,pos := "ref.go:202", after:=#[{ on:=2,ground:=Ground.data }],guard:=none },{ dst:=some 56,op:=Op.move (Operand.tmp 0),type:=45,pos := "ref.go:202", after:=#[],guard:=none },{ dst:=some 57,op:=Op.move (Operand.tmp 4),type:=3,pos := "ref.go:202", after:=#[],guard:=none },{ dst:=some 58,op:=Op.indexAddr 45 (Operand.tmp 56) (Operand.tmp 57),type:=0,pos := "ref.go:202", after:=#[{ on:=4,ground:=Ground.data },{ on:=5,ground:=Ground.data }],guard:=none },{ dst:=some 59,op:=Op.fieldAddr 85 (Operand.tmp 58) 1,type:=0,pos := "ref.go:202", after:=#[{ on:=6,ground:=Ground.data }],guard:=none },{ dst:=some 60,op:=Op.load 3 (Operand.tmp 59),type:=3,pos := "ref.go:202", after:=#[{ on:=7,ground:=Ground.data }],guard:=none },{ dst:=some 61,op:=Op.buildSlice 22 1 #[(0,Operand.tmp 60)],type:=22,pos := "ref.go:202", after:=#[{ on:=8,ground:=Ground.data }],guard:=none },{ dst:=some 62,op:=Op.call { callee:=Callee.builtin Builtin.append,args:=#[Operand.tmp 55,Operand.tmp 61],argTypes:=#[22,22] },type:=22,pos := "ref.go:202", after:=#[{ on:=3,ground:=Ground.data },{ on:=9,ground:=Ground.data },{ on:=3,ground:=Ground.chain }],guard:=none },{ dst:=some 63,op:=Op.move (Operand.tmp 3),type:=22,pos := "ref.go:202", after:=#[],guard:=none },{ dst:=some 64,op:=Op.move (Operand.tmp 5),type:=3,pos := "ref.go:202", after:=#[],guard:=none },{ dst:=some 65,op:=Op.slice 22 (Operand.tmp 63) (some (Operand.tmp 64)) none none,type:=22,pos := "ref.go:202", after:=#[{ on:=11,ground:=Ground.data },{ on:=12,ground:=Ground.data }],guard:=none },{ dst:=some 66,op:=Op.call { callee:=Callee.builtin Builtin.append,args:=#[Operand.tmp 62,Operand.tmp 65],argTypes:=#[22,22] },type:=22,pos := "ref.go:202", after:=#[{ on:=10,ground:=Ground.data },{ on:=13,ground:=Ground.data },{ on:=10,ground:=Ground.chain }],guard:=none },{ dst:=some 3,op:=Op.assign (Operand.tmp 66),type:=22,pos := "ref.go:202", after:=#[{ on:=14,ground:=Ground.data },{ on:=14,ground:=Ground.chain },{ on:=0,ground:=Ground.phase },{ on:=1,ground:=Ground.phase },{ on:=2,ground:=Ground.phase },{ on:=3,ground:=Ground.phase },{ on:=4,ground:=Ground.phase },{ on:=5,ground:=Ground.phase },{ on:=6,ground:=Ground.phase },{ on:=7,ground:=Ground.phase },{ on:=8,ground:=Ground.phase },{ on:=9,ground:=Ground.phase },{ on:=10,ground:=Ground.phase },{ on:=11,ground:=Ground.phase },{ on:=12,ground:=Ground.phase },{ on:=13,ground:=Ground.phase },{ on:=14,ground:=Ground.phase }],guard:=none }] true) Q { tmps:=(.slice (some ⟨b,o,none⟩) n c::z1::z2::v::.int .i64 (q:Int)::.int .i64 (k:Int)::z6::z7::z8::z9::z10::z11::z12::z13::z14::z15::z16::z17::z18::z19::z20::z21::z22::z23::z24::z25::z26::z27::z28::z29::z30::z31::z32::z33::z34::z35::z36::z37::z38::z39::z40::z41::z42::z43::z44::z45::z46::z47::z48::z49::z50::z51::z52::z53::z54::z55::z56::z57::z58::z59::z60::z61::z62::z63::z64::z65::z66::z67::[]).toArray,defers:=[] } w:=by
 subst e1
 subst e2
 have hqi:(q:Int) < (n:Int):=by omega
 have hq0:(q:Int)≤1000:=by omega
 refine wp_region_any (by kernel_rfl) ?_
 have hB:=(MI.nil w 3 1).drew
 change wpAny _ _ _ _ _ _ _ (World.drew _)
 generalize World.drew w=W at hB ⊢
 refine wpAny_take (i:=0) (v:=v) rfl (by kernel_rfl) (by kernel_rfl) (by kernel_rfl) (fun c a w=>hQp c a _ _ w) (Or.inl ⟨by rfl,?_⟩) ?_
 ·intro w
  go_simp
 refine wpAny_take (i:=1) (v:=.int .i64 (k:Int)) rfl (by kernel_rfl) (by kernel_rfl) (by kernel_rfl) (fun c a w=>hQp c a _ _ w) (Or.inl ⟨by rfl,?_⟩) ?_
 ·intro w
  go_simp
 refine wpAny_take (i:=2) (v:=.slice a1 k c1) rfl (by kernel_rfl) (by kernel_rfl) (by kernel_rfl) (fun c a w=>hQp c a _ _ w) (Or.inl ⟨by rfl,?_⟩) ?_
 ·intro w
  exact h1 _ w (by kernel_rfl) (by kernel_rfl)
 refine wpAny_take (i:=4) (v:=.slice (some ⟨b,o,none⟩) n c) rfl (by kernel_rfl) (by kernel_rfl) (by kernel_rfl) (fun c a w=>hQp c a _ _ w) (Or.inl ⟨by rfl,?_⟩) ?_
 ·intro w
  go_simp
 refine wpAny_take (i:=5) (v:=.int .i64 (q:Int)) rfl (by kernel_rfl) (by kernel_rfl) (by kernel_rfl) (fun c a w=>hQp c a _ _ w) (Or.inl ⟨by rfl,?_⟩) ?_
 ·intro w
  go_simp
 refine wpAny_take (i:=6) (v:=.pointer (some ⟨b,o + q * 2,none⟩)) rfl (by kernel_rfl) (by kernel_rfl) (by kernel_rfl) (fun c a w=>hQp c a _ _ w) (Or.inl ⟨by rfl,?_⟩) ?_
 ·intro w
  go_simp
 refine wpAny_take (i:=7) (v:=.pointer (some ⟨b,o + q * 2 + 1,none⟩)) rfl (by kernel_rfl) (by kernel_rfl) (by kernel_rfl) (fun c a w=>hQp c a _ _ w) (Or.inl ⟨by rfl,?_⟩) ?_
 ·intro w
  go_simp
 refine wpAny_take (i:=11) (v:=v) rfl (by kernel_rfl) (by kernel_rfl) (by kernel_rfl) (fun c a w=>hQp c a _ _ w) (Or.inl ⟨by rfl,?_⟩) ?_
 ·intro w
  go_simp
 refine wpAny_take (i:=12) (v:=.int .i64 (k:Int)) rfl (by kernel_rfl) (by kernel_rfl) (by kernel_rfl) (fun c a w=>hQp c a _ _ w) (Or.inl ⟨by rfl,?_⟩) ?_
 ·intro w
  go_simp
 refine wpAny_take (i:=13) (v:=.slice a2 (L.length - k) c2) rfl (by kernel_rfl) (by kernel_rfl) (by kernel_rfl) (fun c a w=>hQp c a _ _ w) (Or.inl ⟨by rfl,?_⟩) ?_
 ·intro w
  exact h2 _ w (by kernel_rfl) (by kernel_rfl)
 show wpAny _ _ _ _ 6 _ _ _
 refine wpAny_all (rs:=[3,8]) (by kernel_rfl) (by simp) ?_
 intro i hi
 simp only [List.mem_cons,List.not_mem_nil,or_false] at hi
 rcases hi with rfl | rfl
 ·obtain ⟨v3,W3,hr3,hB3⟩:=hB.app (t:=22) (e0:=3) (z:=.int .i64 0) (bytes:=8) Try.underlying22 infoInt rfl (by omega) (by omega) 22 a1 k c1 (nints (L.take k)) (by simp [nints]; omega) (by rcases hn1 with q | ⟨ad,q,r⟩; exact .inl q; exact .inr ⟨ad,q,r _ hB.bel⟩) (nints_one _) (by omega)
  clear hB
  have hB:=hB3
  clear hB3
  refine wpOp_one (o:={ dst:=some 55,op:=Op.call { callee:=Callee.builtin Builtin.append,args:=#[Operand.const (Value.slice none 0 0),Operand.tmp 54],argTypes:=#[22,22] },type:=22,pos := "ref.go:202", after:=#[{ on:=2,ground:=Ground.data }],guard:=none }) (by rfl) rfl ?_
  refine appOp (Operand.const (Value.slice none 0 0)) (Operand.tmp 54) 22 rfl (by kernel_rfl) (by kernel_rfl) hr3 ?_
  refine wpAny_all (rs:=[8]) (by kernel_rfl) (by simp) ?_
  intro i hi
  simp only [List.mem_singleton] at hi
  subst hi
  have ce:=cell_next hce hB.bel
  refine wpOp_one (o:={ dst:=some 60,op:=Op.load 3 (Operand.tmp 59),type:=3,pos := "ref.go:202", after:=#[{ on:=7,ground:=Ground.data }],guard:=none }) (by rfl) rfl ?_
  unfold Oper.wp
  go_simp
  clear ce
  refine wpAny_all (rs:=[9]) (by kernel_rfl) (by simp) ?_
  intro i hi
  simp only [List.mem_singleton] at hi
  subst hi
  have hB5:=hB.alloc (Obj.cells ([.int .i64 x]:List Value).toArray 3 (0,0))
  clear hB
  have hB:=hB5
  clear hB5
  refine wpOp_one (o:={ dst:=some 61,op:=Op.buildSlice 22 1 #[(0,Operand.tmp 60)],type:=22,pos := "ref.go:202", after:=#[{ on:=8,ground:=Ground.data }],guard:=none }) (by rfl) rfl ?_
  unfold Oper.wp
  go_simp
  refine wpAny_all (rs:=[10]) (by kernel_rfl) (by simp) ?_
  intro i hi
  simp only [List.mem_singleton] at hi
  subst hi
  obtain ⟨v6,W6,hr6,hB6⟩:=hB.app (t:=22) (e0:=3) (z:=.int .i64 0) (bytes:=8) Try.underlying22 infoInt rfl (by omega) (by omega) 22 (some ⟨W3.heap.size,0,none⟩) 1 1 [.int .i64 x] rfl (.inr ⟨_,rfl,into_src hB (List.mem_cons_self ..)⟩) (by intro u hu; simp at hu; subst hu; rfl) (by omega)
  clear hB
  have hB:=hB6
  clear hB6
  refine wpOp_one (o:={ dst:=some 62,op:=Op.call { callee:=Callee.builtin Builtin.append,args:=#[Operand.tmp 55,Operand.tmp 61],argTypes:=#[22,22] },type:=22,pos := "ref.go:202", after:=#[{ on:=3,ground:=Ground.data },{ on:=9,ground:=Ground.data },{ on:=3,ground:=Ground.chain }],guard:=none }) (by rfl) rfl ?_
  refine appOp (Operand.tmp 55) (Operand.tmp 61) 22 rfl (by kernel_rfl) (by kernel_rfl) hr6 ?_
  refine wpAny_all (rs:=[14]) (by kernel_rfl) (by simp) ?_
  intro i hi
  simp only [List.mem_singleton] at hi
  subst hi
  obtain ⟨v10,W10,hr10,hB10⟩:=hB.app (t:=22) (e0:=3) (z:=.int .i64 0) (bytes:=8) Try.underlying22 infoInt rfl (by omega) (by omega) 22 a2 (L.length - k) c2 (nints (L.drop k)) (by simp [nints]) (by rcases hn2 with q | ⟨ad,q,r⟩; exact .inl q; exact .inr ⟨ad,q,r _ hB.bel⟩) (nints_one _) (by omega)
  clear hB
  have hB:=hB10
  clear hB10
  refine wpOp_one (o:={ dst:=some 66,op:=Op.call { callee:=Callee.builtin Builtin.append,args:=#[Operand.tmp 62,Operand.tmp 65],argTypes:=#[22,22] },type:=22,pos := "ref.go:202", after:=#[{ on:=10,ground:=Ground.data },{ on:=13,ground:=Ground.data },{ on:=10,ground:=Ground.chain }],guard:=none }) (by rfl) rfl ?_
  refine appOp (Operand.tmp 62) (Operand.tmp 65) 22 rfl (by kernel_rfl) (by kernel_rfl) hr10 ?_
  refine wpAny_all (rs:=[15]) (by kernel_rfl) (by simp) ?_
  intro i hi
  simp only [List.mem_singleton] at hi
  subst hi
  refine wpOp_one (o:={ dst:=some 3,op:=Op.assign (Operand.tmp 66),type:=22,pos := "ref.go:202", after:=#[{ on:=14,ground:=Ground.data },{ on:=14,ground:=Ground.chain },{ on:=0,ground:=Ground.phase },{ on:=1,ground:=Ground.phase },{ on:=2,ground:=Ground.phase },{ on:=3,ground:=Ground.phase },{ on:=4,ground:=Ground.phase },{ on:=5,ground:=Ground.phase },{ on:=6,ground:=Ground.phase },{ on:=7,ground:=Ground.phase },{ on:=8,ground:=Ground.phase },{ on:=9,ground:=Ground.phase },{ on:=10,ground:=Ground.phase },{ on:=11,ground:=Ground.phase },{ on:=12,ground:=Ground.phase },{ on:=13,ground:=Ground.phase },{ on:=14,ground:=Ground.phase }],guard:=none }) (by rfl) rfl ?_
  unfold Oper.wp
  go_simp
  refine wpAny_done (by kernel_rfl) ?_ _
  exact hQ _ _ _ _ _ _ _ _ _ _ _ _ _ _ _ v10 W10 (LV.of_own (by have:=hB.own; rw [ins_row] at this; exact this) (by simp; omega)) hB.bel
 ·have ce:=cell_next hce hB.bel
  refine wpOp_one (o:={ dst:=some 60,op:=Op.load 3 (Operand.tmp 59),type:=3,pos := "ref.go:202", after:=#[{ on:=7,ground:=Ground.data }],guard:=none }) (by rfl) rfl ?_
  unfold Oper.wp
  go_simp
  clear ce
  refine wpAny_all (rs:=[3,9]) (by kernel_rfl) (by simp) ?_
  intro i hi
  simp only [List.mem_cons,List.not_mem_nil,or_false] at hi
  rcases hi with rfl | rfl
  ·obtain ⟨v3,W3,hr3,hB3⟩:=hB.app (t:=22) (e0:=3) (z:=.int .i64 0) (bytes:=8) Try.underlying22 infoInt rfl (by omega) (by omega) 22 a1 k c1 (nints (L.take k)) (by simp [nints]; omega) (by rcases hn1 with q | ⟨ad,q,r⟩; exact .inl q; exact .inr ⟨ad,q,r _ hB.bel⟩) (nints_one _) (by omega)
   clear hB
   have hB:=hB3
   clear hB3
   refine wpOp_one (o:={ dst:=some 55,op:=Op.call { callee:=Callee.builtin Builtin.append,args:=#[Operand.const (Value.slice none 0 0),Operand.tmp 54],argTypes:=#[22,22] },type:=22,pos := "ref.go:202", after:=#[{ on:=2,ground:=Ground.data }],guard:=none }) (by rfl) rfl ?_
   refine appOp (Operand.const (Value.slice none 0 0)) (Operand.tmp 54) 22 rfl (by kernel_rfl) (by kernel_rfl) hr3 ?_
   refine wpAny_all (rs:=[9]) (by kernel_rfl) (by simp) ?_
   intro i hi
   simp only [List.mem_singleton] at hi
   subst hi
   have hB5:=hB.alloc (Obj.cells ([.int .i64 x]:List Value).toArray 3 (0,0))
   clear hB
   have hB:=hB5
   clear hB5
   refine wpOp_one (o:={ dst:=some 61,op:=Op.buildSlice 22 1 #[(0,Operand.tmp 60)],type:=22,pos := "ref.go:202", after:=#[{ on:=8,ground:=Ground.data }],guard:=none }) (by rfl) rfl ?_
   unfold Oper.wp
   go_simp
   refine wpAny_all (rs:=[10]) (by kernel_rfl) (by simp) ?_
   intro i hi
   simp only [List.mem_singleton] at hi
   subst hi
   obtain ⟨v6,W6,hr6,hB6⟩:=hB.app (t:=22) (e0:=3) (z:=.int .i64 0) (bytes:=8) Try.underlying22 infoInt rfl (by omega) (by omega) 22 (some ⟨W3.heap.size,0,none⟩) 1 1 [.int .i64 x] rfl (.inr ⟨_,rfl,into_src hB (List.mem_cons_self ..)⟩) (by intro u hu; simp at hu; subst hu; rfl) (by omega)
   clear hB
   have hB:=hB6
   clear hB6
   refine wpOp_one (o:={ dst:=some 62,op:=Op.call { callee:=Callee.builtin Builtin.append,args:=#[Operand.tmp 55,Operand.tmp 61],argTypes:=#[22,22] },type:=22,pos := "ref.go:202", after:=#[{ on:=3,ground:=Ground.data },{ on:=9,ground:=Ground.data },{ on:=3,ground:=Ground.chain }],guard:=none }) (by rfl) rfl ?_
   refine appOp (Operand.tmp 55) (Operand.tmp 61) 22 rfl (by kernel_rfl) (by kernel_rfl) hr6 ?_
   refine wpAny_all (rs:=[14]) (by kernel_rfl) (by simp) ?_
   intro i hi
   simp only [List.mem_singleton] at hi
   subst hi
   obtain ⟨v10,W10,hr10,hB10⟩:=hB.app (t:=22) (e0:=3) (z:=.int .i64 0) (bytes:=8) Try.underlying22 infoInt rfl (by omega) (by omega) 22 a2 (L.length - k) c2 (nints (L.drop k)) (by simp [nints]) (by rcases hn2 with q | ⟨ad,q,r⟩; exact .inl q; exact .inr ⟨ad,q,r _ hB.bel⟩) (nints_one _) (by omega)
   clear hB
   have hB:=hB10
   clear hB10
   refine wpOp_one (o:={ dst:=some 66,op:=Op.call { callee:=Callee.builtin Builtin.append,args:=#[Operand.tmp 62,Operand.tmp 65],argTypes:=#[22,22] },type:=22,pos := "ref.go:202", after:=#[{ on:=10,ground:=Ground.data },{ on:=13,ground:=Ground.data },{ on:=10,ground:=Ground.chain }],guard:=none }) (by rfl) rfl ?_
   refine appOp (Operand.tmp 62) (Operand.tmp 65) 22 rfl (by kernel_rfl) (by kernel_rfl) hr10 ?_
   refine wpAny_all (rs:=[15]) (by kernel_rfl) (by simp) ?_
   intro i hi
   simp only [List.mem_singleton] at hi
   subst hi
   refine wpOp_one (o:={ dst:=some 3,op:=Op.assign (Operand.tmp 66),type:=22,pos := "ref.go:202", after:=#[{ on:=14,ground:=Ground.data },{ on:=14,ground:=Ground.chain },{ on:=0,ground:=Ground.phase },{ on:=1,ground:=Ground.phase },{ on:=2,ground:=Ground.phase },{ on:=3,ground:=Ground.phase },{ on:=4,ground:=Ground.phase },{ on:=5,ground:=Ground.phase },{ on:=6,ground:=Ground.phase },{ on:=7,ground:=Ground.phase },{ on:=8,ground:=Ground.phase },{ on:=9,ground:=Ground.phase },{ on:=10,ground:=Ground.phase },{ on:=11,ground:=Ground.phase },{ on:=12,ground:=Ground.phase },{ on:=13,ground:=Ground.phase },{ on:=14,ground:=Ground.phase }],guard:=none }) (by rfl) rfl ?_
   unfold Oper.wp
   go_simp
   refine wpAny_done (by kernel_rfl) ?_ _
   exact hQ _ _ _ _ _ _ _ _ _ _ _ _ _ _ _ v10 W10 (LV.of_own (by have:=hB.own; rw [ins_row] at this; exact this) (by simp; omega)) hB.bel
  ·have hB5:=hB.alloc (Obj.cells ([.int .i64 x]:List Value).toArray 3 (0,0))
   clear hB
   have hB:=hB5
   clear hB5
   refine wpOp_one (o:={ dst:=some 61,op:=Op.buildSlice 22 1 #[(0,Operand.tmp 60)],type:=22,pos := "ref.go:202", after:=#[{ on:=8,ground:=Ground.data }],guard:=none }) (by rfl) rfl ?_
   unfold Oper.wp
   go_simp
   refine wpAny_all (rs:=[3]) (by kernel_rfl) (by simp) ?_
   intro i hi
   simp only [List.mem_singleton] at hi
   subst hi
   obtain ⟨v3,W3,hr3,hB3⟩:=hB.app (t:=22) (e0:=3) (z:=.int .i64 0) (bytes:=8) Try.underlying22 infoInt rfl (by omega) (by omega) 22 a1 k c1 (nints (L.take k)) (by simp [nints]; omega) (by rcases hn1 with q | ⟨ad,q,r⟩; exact .inl q; exact .inr ⟨ad,q,r _ hB.bel⟩) (nints_one _) (by omega)
   clear hB
   have hB:=hB3
   clear hB3
   refine wpOp_one (o:={ dst:=some 55,op:=Op.call { callee:=Callee.builtin Builtin.append,args:=#[Operand.const (Value.slice none 0 0),Operand.tmp 54],argTypes:=#[22,22] },type:=22,pos := "ref.go:202", after:=#[{ on:=2,ground:=Ground.data }],guard:=none }) (by rfl) rfl ?_
   refine appOp (Operand.const (Value.slice none 0 0)) (Operand.tmp 54) 22 rfl (by kernel_rfl) (by kernel_rfl) hr3 ?_
   refine wpAny_all (rs:=[10]) (by kernel_rfl) (by simp) ?_
   intro i hi
   simp only [List.mem_singleton] at hi
   subst hi
   obtain ⟨v6,W6,hr6,hB6⟩:=hB.app (t:=22) (e0:=3) (z:=.int .i64 0) (bytes:=8) Try.underlying22 infoInt rfl (by omega) (by omega) 22 (some ⟨W.heap.size,0,none⟩) 1 1 [.int .i64 x] rfl (.inr ⟨_,rfl,into_src hB (List.mem_cons_self ..)⟩) (by intro u hu; simp at hu; subst hu; rfl) (by omega)
   clear hB
   have hB:=hB6
   clear hB6
   refine wpOp_one (o:={ dst:=some 62,op:=Op.call { callee:=Callee.builtin Builtin.append,args:=#[Operand.tmp 55,Operand.tmp 61],argTypes:=#[22,22] },type:=22,pos := "ref.go:202", after:=#[{ on:=3,ground:=Ground.data },{ on:=9,ground:=Ground.data },{ on:=3,ground:=Ground.chain }],guard:=none }) (by rfl) rfl ?_
   refine appOp (Operand.tmp 55) (Operand.tmp 61) 22 rfl (by kernel_rfl) (by kernel_rfl) hr6 ?_
   refine wpAny_all (rs:=[14]) (by kernel_rfl) (by simp) ?_
   intro i hi
   simp only [List.mem_singleton] at hi
   subst hi
   obtain ⟨v10,W10,hr10,hB10⟩:=hB.app (t:=22) (e0:=3) (z:=.int .i64 0) (bytes:=8) Try.underlying22 infoInt rfl (by omega) (by omega) 22 a2 (L.length - k) c2 (nints (L.drop k)) (by simp [nints]) (by rcases hn2 with q | ⟨ad,q,r⟩; exact .inl q; exact .inr ⟨ad,q,r _ hB.bel⟩) (nints_one _) (by omega)
   clear hB
   have hB:=hB10
   clear hB10
   refine wpOp_one (o:={ dst:=some 66,op:=Op.call { callee:=Callee.builtin Builtin.append,args:=#[Operand.tmp 62,Operand.tmp 65],argTypes:=#[22,22] },type:=22,pos := "ref.go:202", after:=#[{ on:=10,ground:=Ground.data },{ on:=13,ground:=Ground.data },{ on:=10,ground:=Ground.chain }],guard:=none }) (by rfl) rfl ?_
   refine appOp (Operand.tmp 62) (Operand.tmp 65) 22 rfl (by kernel_rfl) (by kernel_rfl) hr10 ?_
   refine wpAny_all (rs:=[15]) (by kernel_rfl) (by simp) ?_
   intro i hi
   simp only [List.mem_singleton] at hi
   subst hi
   refine wpOp_one (o:={ dst:=some 3,op:=Op.assign (Operand.tmp 66),type:=22,pos := "ref.go:202", after:=#[{ on:=14,ground:=Ground.data },{ on:=14,ground:=Ground.chain },{ on:=0,ground:=Ground.phase },{ on:=1,ground:=Ground.phase },{ on:=2,ground:=Ground.phase },{ on:=3,ground:=Ground.phase },{ on:=4,ground:=Ground.phase },{ on:=5,ground:=Ground.phase },{ on:=6,ground:=Ground.phase },{ on:=7,ground:=Ground.phase },{ on:=8,ground:=Ground.phase },{ on:=9,ground:=Ground.phase },{ on:=10,ground:=Ground.phase },{ on:=11,ground:=Ground.phase },{ on:=12,ground:=Ground.phase },{ on:=13,ground:=Ground.phase },{ on:=14,ground:=Ground.phase }],guard:=none }) (by rfl) rfl ?_
   unfold Oper.wp
   go_simp
   refine wpAny_done (by kernel_rfl) ?_ _
   exact hQ _ _ _ _ _ _ _ _ _ _ _ _ _ _ _ v10 W10 (LV.of_own (by have:=hB.own; rw [ins_row] at this; exact this) (by simp; omega)) hB.bel
end Go.Proofs.Yteghpophcnehgaa
