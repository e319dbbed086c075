/-
  What the functions that the law reaches do, one by one: contracts. Conditions: those that each of them prints.
-/
import Derived.Test.YteghpophcnehgaaMw
import Derived.WalkKit
import Derived.Deep.RegionLaw
import Derived.Deep.Quiet
namespace Go.Proofs.Yteghpophcnehgaa
open Go.RowKit ExprA SndA
def ofSc0:Oper:={ dst:=some 18,op:=Op.load 3 (Operand.tmp 17),type:=3,pos := "ref.go:29", after:=#[{ on:=4,ground:=Ground.data }],guard:=none }
def ofSc1:Oper:={ dst:=some 20,op:=Op.binOp BinOp.add 3 (Operand.tmp 18) (Operand.tmp 19) 3,type:=3,pos := "ref.go:29", after:=#[{ on:=5,ground:=Ground.data },{ on:=6,ground:=Ground.data }],guard:=none }
def ofSc2:Oper:={ dst:=some 25,op:=Op.load 3 (Operand.tmp 24),type:=3,pos := "ref.go:29", after:=#[{ on:=11,ground:=Ground.data }],guard:=none }
def ofSc3:Oper:={ dst:=some 27,op:=Op.binOp BinOp.add 3 (Operand.tmp 25) (Operand.tmp 26) 3,type:=3,pos := "ref.go:29", after:=#[{ on:=12,ground:=Ground.data },{ on:=13,ground:=Ground.data }],guard:=none }
def ofSc4:Oper:={ dst:=some 28,op:=Op.build 123 #[(0,Operand.tmp 20),(1,Operand.tmp 27)],type:=123,pos := "ref.go:29", after:=#[{ on:=7,ground:=Ground.data },{ on:=14,ground:=Ground.data }],guard:=none }
def ofSc5:Oper:={ dst:=some 29,op:=Op.buildSlice 36 1 #[(0,Operand.tmp 28)],type:=36,pos := "ref.go:29", after:=#[{ on:=15,ground:=Ground.data }],guard:=none }
def ofSc6:Oper:={ dst:=some 30,op:=Op.call { callee:=Callee.builtin Builtin.append,args:=#[Operand.tmp 13,Operand.tmp 29],argTypes:=#[36,36] },type:=36,pos := "ref.go:29", after:=#[{ on:=0,ground:=Ground.data },{ on:=16,ground:=Ground.data }],guard:=none }
def ofSc7:Oper:={ dst:=some 5,op:=Op.assign (Operand.tmp 30),type:=36,pos := "ref.go:29", after:=#[{ on:=17,ground:=Ground.data },{ on:=17,ground:=Ground.chain },{ on:=0,ground:=Ground.phase },{ on:=1,ground:=Ground.phase },{ on:=2,ground:=Ground.phase },{ on:=3,ground:=Ground.phase },{ on:=4,ground:=Ground.phase },{ on:=5,ground:=Ground.phase },{ on:=6,ground:=Ground.phase },{ on:=7,ground:=Ground.phase },{ on:=8,ground:=Ground.phase },{ on:=9,ground:=Ground.phase },{ on:=10,ground:=Ground.phase },{ on:=11,ground:=Ground.phase },{ on:=12,ground:=Ground.phase },{ on:=13,ground:=Ground.phase },{ on:=14,ground:=Ground.phase },{ on:=15,ground:=Ground.phase },{ on:=16,ground:=Ground.phase },{ on:=17,ground:=Ground.phase }],guard:=none }
def rfSc0:Array Oper:=#[{ dst:=some 13,op:=Op.move (Operand.tmp 5),type:=36,pos := "ref.go:29", after:=#[],guard:=none },{ dst:=some 14,op:=Op.move (Operand.tmp 0),type:=36,pos := "ref.go:29", after:=#[],guard:=none },{ dst:=some 15,op:=Op.move (Operand.tmp 6),type:=3,pos := "ref.go:29", after:=#[],guard:=none },{ dst:=some 16,op:=Op.indexAddr 36 (Operand.tmp 14) (Operand.tmp 15),type:=0,pos := "ref.go:29", after:=#[{ on:=1,ground:=Ground.data },{ on:=2,ground:=Ground.data }],guard:=none },{ dst:=some 17,op:=Op.fieldAddr 123 (Operand.tmp 16) 0,type:=0,pos := "ref.go:29", after:=#[{ on:=3,ground:=Ground.data }],guard:=none },{ dst:=some 18,op:=Op.load 3 (Operand.tmp 17),type:=3,pos := "ref.go:29", after:=#[{ on:=4,ground:=Ground.data }],guard:=none },{ dst:=some 19,op:=Op.move (Operand.tmp 1),type:=3,pos := "ref.go:29", after:=#[],guard:=none },{ dst:=some 20,op:=Op.binOp BinOp.add 3 (Operand.tmp 18) (Operand.tmp 19) 3,type:=3,pos := "ref.go:29", after:=#[{ on:=5,ground:=Ground.data },{ on:=6,ground:=Ground.data }],guard:=none },{ dst:=some 21,op:=Op.move (Operand.tmp 0),type:=36,pos := "ref.go:29", after:=#[],guard:=none },{ dst:=some 22,op:=Op.move (Operand.tmp 6),type:=3,pos := "ref.go:29", after:=#[],guard:=none },{ dst:=some 23,op:=Op.indexAddr 36 (Operand.tmp 21) (Operand.tmp 22),type:=0,pos := "ref.go:29", after:=#[{ on:=8,ground:=Ground.data },{ on:=9,ground:=Ground.data }],guard:=none },{ dst:=some 24,op:=Op.fieldAddr 123 (Operand.tmp 23) 1,type:=0,pos := "ref.go:29", after:=#[{ on:=10,ground:=Ground.data }],guard:=none },{ dst:=some 25,op:=Op.load 3 (Operand.tmp 24),type:=3,pos := "ref.go:29", after:=#[{ on:=11,ground:=Ground.data }],guard:=none },{ dst:=some 26,op:=Op.move (Operand.tmp 1),type:=3,pos := "ref.go:29", after:=#[],guard:=none },{ dst:=some 27,op:=Op.binOp BinOp.add 3 (Operand.tmp 25) (Operand.tmp 26) 3,type:=3,pos := "ref.go:29", after:=#[{ on:=12,ground:=Ground.data },{ on:=13,ground:=Ground.data }],guard:=none },{ dst:=some 28,op:=Op.build 123 #[(0,Operand.tmp 20),(1,Operand.tmp 27)],type:=123,pos := "ref.go:29", after:=#[{ on:=7,ground:=Ground.data },{ on:=14,ground:=Ground.data }],guard:=none },{ dst:=some 29,op:=Op.buildSlice 36 1 #[(0,Operand.tmp 28)],type:=36,pos := "ref.go:29", after:=#[{ on:=15,ground:=Ground.data }],guard:=none },{ dst:=some 30,op:=Op.call { callee:=Callee.builtin Builtin.append,args:=#[Operand.tmp 13,Operand.tmp 29],argTypes:=#[36,36] },type:=36,pos := "ref.go:29", after:=#[{ on:=0,ground:=Ground.data },{ on:=16,ground:=Ground.data }],guard:=none },{ dst:=some 5,op:=Op.assign (Operand.tmp 30),type:=36,pos := "ref.go:29", after:=#[{ on:=17,ground:=Ground.data },{ on:=17,ground:=Ground.chain },{ on:=0,ground:=Ground.phase },{ on:=1,ground:=Ground.phase },{ on:=2,ground:=Ground.phase },{ on:=3,ground:=Ground.phase },{ on:=4,ground:=Ground.phase },{ on:=5,ground:=Ground.phase },{ on:=6,ground:=Ground.phase },{ on:=7,ground:=Ground.phase },{ on:=8,ground:=Ground.phase },{ on:=9,ground:=Ground.phase },{ on:=10,ground:=Ground.phase },{ on:=11,ground:=Ground.phase },{ on:=12,ground:=Ground.phase },{ on:=13,ground:=Ground.phase },{ on:=14,ground:=Ground.phase },{ on:=15,ground:=Ground.phase },{ on:=16,ground:=Ground.phase },{ on:=17,ground:=Ground.phase }],guard:=none }]
set_option maxRecDepth 20000 in
set_option maxHeartbeats 4000000 in
theorem movreg_l (w0 w:World) (v:Value) (g c k len:Nat) (n x y x2 y2:Int) (M:List (Int × Int)) (hki:(k:Int) < (len:Int)) (hM:MI w0 w 123 2 v M.length (icells M) []) (hMl:M.length≤1000) (hx:w.cell? ⟨g,k * 2,none⟩=some (.int .i64 x)) (hy:w.cell? ⟨g,k * 2 + 1,none⟩=some (.int .i64 y)) (hwx:IntKind.i64.wrap (x + n)=x2) (hwy:IntKind.i64.wrap (y + n)=y2)
  (z2 z3 z4 z7 z8 z9 z10 z11 z12 z13 z14 z15 z16 z17 z18 z19 z20 z21 z22 z23 z24 z25 z26 z27 z28 z29 z30 z31:Value) (Q:Exit→Act→World→Prop)
  (hQp:∀ c (a:Act) (d:Tmp) v w,Q (.panic c) (a.put (some d) v) w→Q (.panic c) a w)
  (hQ:∀ (y13 y14 y15 y16 y17 y18 y19 y20 y21 y22 y23 y24 y25 y26 y27 y28 y29 y30 v5:Value) (W':World),MI w0 W' 123 2 v5 (M.length + 1) (icells (M ++ [(x2,y2)])) []→Q .normal { tmps:=(.slice (some ⟨g,0,none⟩) len c::.int .i64 n::z2::z3::z4::v5::.int .i64 (k:Int)::z7::z8::z9::z10::z11::z12::y13::y14::y15::y16::y17::y18::y19::y20::y21::y22::y23::y24::y25::y26::y27::y28::y29::y30::z31::[]).toArray,defers:=[] } W') :
  Code.wp Try.prog (Code.region 5 rfSc0 true) Q { tmps:=(.slice (some ⟨g,0,none⟩) len c::.int .i64 n::z2::z3::z4::v::.int .i64 (k:Int)::z7::z8::z9::z10::z11::z12::z13::z14::z15::z16::z17::z18::z19::z20::z21::z22::z23::z24::z25::z26::z27::z28::z29::z30::z31::[]).toArray,defers:=[] } w:=by
 unfold rfSc0
 refine wp_region_any (by kernel_rfl) ?_
 have hB:=hM.drew
 have hW:Below w.heap.size w (World.drew w):=bel_drewN w 1
 clear hM
 change wpAny _ _ _ _ _ _ _ (World.drew _)
 generalize World.drew w=W at hB hW ⊢
 refine wpAny_take (i:=0) (v:=v) rfl (by kernel_rfl) (by kernel_rfl) (by kernel_rfl) (fun c a w=>hQp c a _ _ w) (Or.inl ⟨by rfl,?_⟩) ?_
 ·intro w
  go_simp
 refine wpAny_take (i:=1) (v:=.slice (some ⟨g,0,none⟩) len c) rfl (by kernel_rfl) (by kernel_rfl) (by kernel_rfl) (fun c a w=>hQp c a _ _ w) (Or.inl ⟨by rfl,?_⟩) ?_
 ·intro w
  go_simp
 refine wpAny_take (i:=2) (v:=.int .i64 (k:Int)) rfl (by kernel_rfl) (by kernel_rfl) (by kernel_rfl) (fun c a w=>hQp c a _ _ w) (Or.inl ⟨by rfl,?_⟩) ?_
 ·intro w
  go_simp
 refine wpAny_take (i:=3) (v:=.pointer (some ⟨g,k * 2,none⟩)) rfl (by kernel_rfl) (by kernel_rfl) (by kernel_rfl) (fun c a w=>hQp c a _ _ w) (Or.inl ⟨by rfl,?_⟩) ?_
 ·intro w
  go_simp
 refine wpAny_take (i:=4) (v:=.pointer (some ⟨g,k * 2,none⟩)) rfl (by kernel_rfl) (by kernel_rfl) (by kernel_rfl) (fun c a w=>hQp c a _ _ w) (Or.inl ⟨by rfl,?_⟩) ?_
 ·intro w
  go_simp
 refine wpAny_take (i:=6) (v:=.int .i64 n) rfl (by kernel_rfl) (by kernel_rfl) (by kernel_rfl) (fun c a w=>hQp c a _ _ w) (Or.inl ⟨by rfl,?_⟩) ?_
 ·intro w
  go_simp
 refine wpAny_take (i:=8) (v:=.slice (some ⟨g,0,none⟩) len c) rfl (by kernel_rfl) (by kernel_rfl) (by kernel_rfl) (fun c a w=>hQp c a _ _ w) (Or.inl ⟨by rfl,?_⟩) ?_
 ·intro w
  go_simp
 refine wpAny_take (i:=9) (v:=.int .i64 (k:Int)) rfl (by kernel_rfl) (by kernel_rfl) (by kernel_rfl) (fun c a w=>hQp c a _ _ w) (Or.inl ⟨by rfl,?_⟩) ?_
 ·intro w
  go_simp
 refine wpAny_take (i:=10) (v:=.pointer (some ⟨g,k * 2,none⟩)) rfl (by kernel_rfl) (by kernel_rfl) (by kernel_rfl) (fun c a w=>hQp c a _ _ w) (Or.inl ⟨by rfl,?_⟩) ?_
 ·intro w
  go_simp
 refine wpAny_take (i:=11) (v:=.pointer (some ⟨g,k * 2 + 1,none⟩)) rfl (by kernel_rfl) (by kernel_rfl) (by kernel_rfl) (fun c a w=>hQp c a _ _ w) (Or.inl ⟨by rfl,?_⟩) ?_
 ·intro w
  go_simp
 refine wpAny_take (i:=13) (v:=.int .i64 n) rfl (by kernel_rfl) (by kernel_rfl) (by kernel_rfl) (fun c a w=>hQp c a _ _ w) (Or.inl ⟨by rfl,?_⟩) ?_
 ·intro w
  go_simp
 show wpAny _ _ _ _ 8 _ _ _
 refine wpAny_all (rs:=[5,12]) (by kernel_rfl) (by simp) ?_
 intro i hi
 simp only [List.mem_cons,List.not_mem_nil,or_false] at hi
 rcases hi with rfl | rfl
 ·have cx:=cell_next hx hW
  refine wpOp_one (o:=ofSc0) (by rfl) rfl ?_
  unfold ofSc0
  unfold Oper.wp
  go_simp
  clear cx
  refine wpAny_all (rs:=[7,12]) (by kernel_rfl) (by simp) ?_
  intro i hi
  simp only [List.mem_cons,List.not_mem_nil,or_false] at hi
  rcases hi with rfl | rfl
  ·refine wpOp_one (o:=ofSc1) (by rfl) rfl ?_
   unfold ofSc1
   unfold Oper.wp
   go_simp
   refine wpAny_all (rs:=[12]) (by kernel_rfl) (by simp) ?_
   intro i hi
   simp only [List.mem_singleton] at hi
   subst hi
   have cy:=cell_next hy hW
   refine wpOp_one (o:=ofSc2) (by rfl) rfl ?_
   unfold ofSc2
   unfold Oper.wp
   go_simp
   clear cy
   refine wpAny_all (rs:=[14]) (by kernel_rfl) (by simp) ?_
   intro i hi
   simp only [List.mem_singleton] at hi
   subst hi
   refine wpOp_one (o:=ofSc3) (by rfl) rfl ?_
   unfold ofSc3
   unfold Oper.wp
   go_simp
   refine wpAny_all (rs:=[15]) (by kernel_rfl) (by simp) ?_
   intro i hi
   simp only [List.mem_singleton] at hi
   subst hi
   refine wpOp_one (o:=ofSc4) (by rfl) rfl ?_
   unfold ofSc4
   unfold Oper.wp
   go_simp
   refine wpAny_all (rs:=[16]) (by kernel_rfl) (by simp) ?_
   intro i hi
   simp only [List.mem_singleton] at hi
   subst hi
   have hB5:=hB.alloc (Obj.cells ([.int .i64 x2,.int .i64 y2]:List Value).toArray 123 (0,0))
   clear hB
   have hB:=hB5
   clear hB5
   refine wpOp_one (o:=ofSc5) (by rfl) rfl ?_
   unfold ofSc5
   unfold Oper.wp
   go_simp
   refine wpAny_all (rs:=[17]) (by kernel_rfl) (by simp) ?_
   intro i hi
   simp only [List.mem_singleton] at hi
   subst hi
   obtain ⟨v6,W6,hr6,hB6⟩:=hB.app (t:=36) (e0:=123) (z:=.agg #[.int .i64 0,.int .i64 0]) (bytes:=16) Try.underlying36 infoPair rfl (by omega) (by omega) 36 (some ⟨W.heap.size,0,none⟩) 1 1 [.int .i64 x2,.int .i64 y2] rfl (.inr ⟨_,rfl,into_src hB (List.mem_cons_self ..)⟩) (by intro u hu; simp at hu; rcases hu with rfl | rfl <;> rfl) (by omega)
   clear hB
   have hB:=hB6
   clear hB6
   refine wpOp_one (o:=ofSc6) (by rfl) rfl ?_
   unfold ofSc6
   refine appOp (Operand.tmp 13) (Operand.tmp 29) 36 rfl (by kernel_rfl) (by kernel_rfl) hr6 ?_
   refine wpAny_all (rs:=[18]) (by kernel_rfl) (by simp) ?_
   intro i hi
   simp only [List.mem_singleton] at hi
   subst hi
   refine wpOp_one (o:=ofSc7) (by rfl) rfl ?_
   unfold ofSc7
   unfold Oper.wp
   go_simp
   refine wpAny_done (by kernel_rfl) ?_ _
   exact hQ _ _ _ _ _ _ _ _ _ _ _ _ _ _ _ _ _ _ v6 W6 ⟨by rw [icells_app]; exact hB.own,fun _ h=>absurd h (List.not_mem_nil),hB.bel⟩
  ·have cy:=cell_next hy hW
   refine wpOp_one (o:=ofSc2) (by rfl) rfl ?_
   unfold ofSc2
   unfold Oper.wp
   go_simp
   clear cy
   refine wpAny_all (rs:=[7,14]) (by kernel_rfl) (by simp) ?_
   intro i hi
   simp only [List.mem_cons,List.not_mem_nil,or_false] at hi
   rcases hi with rfl | rfl
   ·refine wpOp_one (o:=ofSc1) (by rfl) rfl ?_
    unfold ofSc1
    unfold Oper.wp
    go_simp
    refine wpAny_all (rs:=[14]) (by kernel_rfl) (by simp) ?_
    intro i hi
    simp only [List.mem_singleton] at hi
    subst hi
    refine wpOp_one (o:=ofSc3) (by rfl) rfl ?_
    unfold ofSc3
    unfold Oper.wp
    go_simp
    refine wpAny_all (rs:=[15]) (by kernel_rfl) (by simp) ?_
    intro i hi
    simp only [List.mem_singleton] at hi
    subst hi
    refine wpOp_one (o:=ofSc4) (by rfl) rfl ?_
    unfold ofSc4
    unfold Oper.wp
    go_simp
    refine wpAny_all (rs:=[16]) (by kernel_rfl) (by simp) ?_
    intro i hi
    simp only [List.mem_singleton] at hi
    subst hi
    have hB5:=hB.alloc (Obj.cells ([.int .i64 x2,.int .i64 y2]:List Value).toArray 123 (0,0))
    clear hB
    have hB:=hB5
    clear hB5
    refine wpOp_one (o:=ofSc5) (by rfl) rfl ?_
    unfold ofSc5
    unfold Oper.wp
    go_simp
    refine wpAny_all (rs:=[17]) (by kernel_rfl) (by simp) ?_
    intro i hi
    simp only [List.mem_singleton] at hi
    subst hi
    obtain ⟨v6,W6,hr6,hB6⟩:=hB.app (t:=36) (e0:=123) (z:=.agg #[.int .i64 0,.int .i64 0]) (bytes:=16) Try.underlying36 infoPair rfl (by omega) (by omega) 36 (some ⟨W.heap.size,0,none⟩) 1 1 [.int .i64 x2,.int .i64 y2] rfl (.inr ⟨_,rfl,into_src hB (List.mem_cons_self ..)⟩) (by intro u hu; simp at hu; rcases hu with rfl | rfl <;> rfl) (by omega)
    clear hB
    have hB:=hB6
    clear hB6
    refine wpOp_one (o:=ofSc6) (by rfl) rfl ?_
    unfold ofSc6
    refine appOp (Operand.tmp 13) (Operand.tmp 29) 36 rfl (by kernel_rfl) (by kernel_rfl) hr6 ?_
    refine wpAny_all (rs:=[18]) (by kernel_rfl) (by simp) ?_
    intro i hi
    simp only [List.mem_singleton] at hi
    subst hi
    refine wpOp_one (o:=ofSc7) (by rfl) rfl ?_
    unfold ofSc7
    unfold Oper.wp
    go_simp
    refine wpAny_done (by kernel_rfl) ?_ _
    exact hQ _ _ _ _ _ _ _ _ _ _ _ _ _ _ _ _ _ _ v6 W6 ⟨by rw [icells_app]; exact hB.own,fun _ h=>absurd h (List.not_mem_nil),hB.bel⟩
   ·refine wpOp_one (o:=ofSc3) (by rfl) rfl ?_
    unfold ofSc3
    unfold Oper.wp
    go_simp
    refine wpAny_all (rs:=[7]) (by kernel_rfl) (by simp) ?_
    intro i hi
    simp only [List.mem_singleton] at hi
    subst hi
    refine wpOp_one (o:=ofSc1) (by rfl) rfl ?_
    unfold ofSc1
    unfold Oper.wp
    go_simp
    refine wpAny_all (rs:=[15]) (by kernel_rfl) (by simp) ?_
    intro i hi
    simp only [List.mem_singleton] at hi
    subst hi
    refine wpOp_one (o:=ofSc4) (by rfl) rfl ?_
    unfold ofSc4
    unfold Oper.wp
    go_simp
    refine wpAny_all (rs:=[16]) (by kernel_rfl) (by simp) ?_
    intro i hi
    simp only [List.mem_singleton] at hi
    subst hi
    have hB5:=hB.alloc (Obj.cells ([.int .i64 x2,.int .i64 y2]:List Value).toArray 123 (0,0))
    clear hB
    have hB:=hB5
    clear hB5
    refine wpOp_one (o:=ofSc5) (by rfl) rfl ?_
    unfold ofSc5
    unfold Oper.wp
    go_simp
    refine wpAny_all (rs:=[17]) (by kernel_rfl) (by simp) ?_
    intro i hi
    simp only [List.mem_singleton] at hi
    subst hi
    obtain ⟨v6,W6,hr6,hB6⟩:=hB.app (t:=36) (e0:=123) (z:=.agg #[.int .i64 0,.int .i64 0]) (bytes:=16) Try.underlying36 infoPair rfl (by omega) (by omega) 36 (some ⟨W.heap.size,0,none⟩) 1 1 [.int .i64 x2,.int .i64 y2] rfl (.inr ⟨_,rfl,into_src hB (List.mem_cons_self ..)⟩) (by intro u hu; simp at hu; rcases hu with rfl | rfl <;> rfl) (by omega)
    clear hB
    have hB:=hB6
    clear hB6
    refine wpOp_one (o:=ofSc6) (by rfl) rfl ?_
    unfold ofSc6
    refine appOp (Operand.tmp 13) (Operand.tmp 29) 36 rfl (by kernel_rfl) (by kernel_rfl) hr6 ?_
    refine wpAny_all (rs:=[18]) (by kernel_rfl) (by simp) ?_
    intro i hi
    simp only [List.mem_singleton] at hi
    subst hi
    refine wpOp_one (o:=ofSc7) (by rfl) rfl ?_
    unfold ofSc7
    unfold Oper.wp
    go_simp
    refine wpAny_done (by kernel_rfl) ?_ _
    exact hQ _ _ _ _ _ _ _ _ _ _ _ _ _ _ _ _ _ _ v6 W6 ⟨by rw [icells_app]; exact hB.own,fun _ h=>absurd h (List.not_mem_nil),hB.bel⟩
 ·have cy:=cell_next hy hW
  refine wpOp_one (o:=ofSc2) (by rfl) rfl ?_
  unfold ofSc2
  unfold Oper.wp
  go_simp
  clear cy
  refine wpAny_all (rs:=[5,14]) (by kernel_rfl) (by simp) ?_
  intro i hi
  simp only [List.mem_cons,List.not_mem_nil,or_false] at hi
  rcases hi with rfl | rfl
  ·have cx:=cell_next hx hW
   refine wpOp_one (o:=ofSc0) (by rfl) rfl ?_
   unfold ofSc0
   unfold Oper.wp
   go_simp
   clear cx
   refine wpAny_all (rs:=[7,14]) (by kernel_rfl) (by simp) ?_
   intro i hi
   simp only [List.mem_cons,List.not_mem_nil,or_false] at hi
   rcases hi with rfl | rfl
   ·refine wpOp_one (o:=ofSc1) (by rfl) rfl ?_
    unfold ofSc1
    unfold Oper.wp
    go_simp
    refine wpAny_all (rs:=[14]) (by kernel_rfl) (by simp) ?_
    intro i hi
    simp only [List.mem_singleton] at hi
    subst hi
    refine wpOp_one (o:=ofSc3) (by rfl) rfl ?_
    unfold ofSc3
    unfold Oper.wp
    go_simp
    refine wpAny_all (rs:=[15]) (by kernel_rfl) (by simp) ?_
    intro i hi
    simp only [List.mem_singleton] at hi
    subst hi
    refine wpOp_one (o:=ofSc4) (by rfl) rfl ?_
    unfold ofSc4
    unfold Oper.wp
    go_simp
    refine wpAny_all (rs:=[16]) (by kernel_rfl) (by simp) ?_
    intro i hi
    simp only [List.mem_singleton] at hi
    subst hi
    have hB5:=hB.alloc (Obj.cells ([.int .i64 x2,.int .i64 y2]:List Value).toArray 123 (0,0))
    clear hB
    have hB:=hB5
    clear hB5
    refine wpOp_one (o:=ofSc5) (by rfl) rfl ?_
    unfold ofSc5
    unfold Oper.wp
    go_simp
    refine wpAny_all (rs:=[17]) (by kernel_rfl) (by simp) ?_
    intro i hi
    simp only [List.mem_singleton] at hi
    subst hi
    obtain ⟨v6,W6,hr6,hB6⟩:=hB.app (t:=36) (e0:=123) (z:=.agg #[.int .i64 0,.int .i64 0]) (bytes:=16) Try.underlying36 infoPair rfl (by omega) (by omega) 36 (some ⟨W.heap.size,0,none⟩) 1 1 [.int .i64 x2,.int .i64 y2] rfl (.inr ⟨_,rfl,into_src hB (List.mem_cons_self ..)⟩) (by intro u hu; simp at hu; rcases hu with rfl | rfl <;> rfl) (by omega)
    clear hB
    have hB:=hB6
    clear hB6
    refine wpOp_one (o:=ofSc6) (by rfl) rfl ?_
    unfold ofSc6
    refine appOp (Operand.tmp 13) (Operand.tmp 29) 36 rfl (by kernel_rfl) (by kernel_rfl) hr6 ?_
    refine wpAny_all (rs:=[18]) (by kernel_rfl) (by simp) ?_
    intro i hi
    simp only [List.mem_singleton] at hi
    subst hi
    refine wpOp_one (o:=ofSc7) (by rfl) rfl ?_
    unfold ofSc7
    unfold Oper.wp
    go_simp
    refine wpAny_done (by kernel_rfl) ?_ _
    exact hQ _ _ _ _ _ _ _ _ _ _ _ _ _ _ _ _ _ _ v6 W6 ⟨by rw [icells_app]; exact hB.own,fun _ h=>absurd h (List.not_mem_nil),hB.bel⟩
   ·refine wpOp_one (o:=ofSc3) (by rfl) rfl ?_
    unfold ofSc3
    unfold Oper.wp
    go_simp
    refine wpAny_all (rs:=[7]) (by kernel_rfl) (by simp) ?_
    intro i hi
    simp only [List.mem_singleton] at hi
    subst hi
    refine wpOp_one (o:=ofSc1) (by rfl) rfl ?_
    unfold ofSc1
    unfold Oper.wp
    go_simp
    refine wpAny_all (rs:=[15]) (by kernel_rfl) (by simp) ?_
    intro i hi
    simp only [List.mem_singleton] at hi
    subst hi
    refine wpOp_one (o:=ofSc4) (by rfl) rfl ?_
    unfold ofSc4
    unfold Oper.wp
    go_simp
    refine wpAny_all (rs:=[16]) (by kernel_rfl) (by simp) ?_
    intro i hi
    simp only [List.mem_singleton] at hi
    subst hi
    have hB5:=hB.alloc (Obj.cells ([.int .i64 x2,.int .i64 y2]:List Value).toArray 123 (0,0))
    clear hB
    have hB:=hB5
    clear hB5
    refine wpOp_one (o:=ofSc5) (by rfl) rfl ?_
    unfold ofSc5
    unfold Oper.wp
    go_simp
    refine wpAny_all (rs:=[17]) (by kernel_rfl) (by simp) ?_
    intro i hi
    simp only [List.mem_singleton] at hi
    subst hi
    obtain ⟨v6,W6,hr6,hB6⟩:=hB.app (t:=36) (e0:=123) (z:=.agg #[.int .i64 0,.int .i64 0]) (bytes:=16) Try.underlying36 infoPair rfl (by omega) (by omega) 36 (some ⟨W.heap.size,0,none⟩) 1 1 [.int .i64 x2,.int .i64 y2] rfl (.inr ⟨_,rfl,into_src hB (List.mem_cons_self ..)⟩) (by intro u hu; simp at hu; rcases hu with rfl | rfl <;> rfl) (by omega)
    clear hB
    have hB:=hB6
    clear hB6
    refine wpOp_one (o:=ofSc6) (by rfl) rfl ?_
    unfold ofSc6
    refine appOp (Operand.tmp 13) (Operand.tmp 29) 36 rfl (by kernel_rfl) (by kernel_rfl) hr6 ?_
    refine wpAny_all (rs:=[18]) (by kernel_rfl) (by simp) ?_
    intro i hi
    simp only [List.mem_singleton] at hi
    subst hi
    refine wpOp_one (o:=ofSc7) (by rfl) rfl ?_
    unfold ofSc7
    unfold Oper.wp
    go_simp
    refine wpAny_done (by kernel_rfl) ?_ _
    exact hQ _ _ _ _ _ _ _ _ _ _ _ _ _ _ _ _ _ _ v6 W6 ⟨by rw [icells_app]; exact hB.own,fun _ h=>absurd h (List.not_mem_nil),hB.bel⟩
  ·refine wpOp_one (o:=ofSc3) (by rfl) rfl ?_
   unfold ofSc3
   unfold Oper.wp
   go_simp
   refine wpAny_all (rs:=[5]) (by kernel_rfl) (by simp) ?_
   intro i hi
   simp only [List.mem_singleton] at hi
   subst hi
   have cx:=cell_next hx hW
   refine wpOp_one (o:=ofSc0) (by rfl) rfl ?_
   unfold ofSc0
   unfold Oper.wp
   go_simp
   clear cx
   refine wpAny_all (rs:=[7]) (by kernel_rfl) (by simp) ?_
   intro i hi
   simp only [List.mem_singleton] at hi
   subst hi
   refine wpOp_one (o:=ofSc1) (by rfl) rfl ?_
   unfold ofSc1
   unfold Oper.wp
   go_simp
   refine wpAny_all (rs:=[15]) (by kernel_rfl) (by simp) ?_
   intro i hi
   simp only [List.mem_singleton] at hi
   subst hi
   refine wpOp_one (o:=ofSc4) (by rfl) rfl ?_
   unfold ofSc4
   unfold Oper.wp
   go_simp
   refine wpAny_all (rs:=[16]) (by kernel_rfl) (by simp) ?_
   intro i hi
   simp only [List.mem_singleton] at hi
   subst hi
   have hB5:=hB.alloc (Obj.cells ([.int .i64 x2,.int .i64 y2]:List Value).toArray 123 (0,0))
   clear hB
   have hB:=hB5
   clear hB5
   refine wpOp_one (o:=ofSc5) (by rfl) rfl ?_
   unfold ofSc5
   unfold Oper.wp
   go_simp
   refine wpAny_all (rs:=[17]) (by kernel_rfl) (by simp) ?_
   intro i hi
   simp only [List.mem_singleton] at hi
   subst hi
   obtain ⟨v6,W6,hr6,hB6⟩:=hB.app (t:=36) (e0:=123) (z:=.agg #[.int .i64 0,.int .i64 0]) (bytes:=16) Try.underlying36 infoPair rfl (by omega) (by omega) 36 (some ⟨W.heap.size,0,none⟩) 1 1 [.int .i64 x2,.int .i64 y2] rfl (.inr ⟨_,rfl,into_src hB (List.mem_cons_self ..)⟩) (by intro u hu; simp at hu; rcases hu with rfl | rfl <;> rfl) (by omega)
   clear hB
   have hB:=hB6
   clear hB6
   refine wpOp_one (o:=ofSc6) (by rfl) rfl ?_
   unfold ofSc6
   refine appOp (Operand.tmp 13) (Operand.tmp 29) 36 rfl (by kernel_rfl) (by kernel_rfl) hr6 ?_
   refine wpAny_all (rs:=[18]) (by kernel_rfl) (by simp) ?_
   intro i hi
   simp only [List.mem_singleton] at hi
   subst hi
   refine wpOp_one (o:=ofSc7) (by rfl) rfl ?_
   unfold ofSc7
   unfold Oper.wp
   go_simp
   refine wpAny_done (by kernel_rfl) ?_ _
   exact hQ _ _ _ _ _ _ _ _ _ _ _ _ _ _ _ _ _ _ v6 W6 ⟨by rw [icells_app]; exact hB.own,fun _ h=>absurd h (List.not_mem_nil),hB.bel⟩
namespace SndA
def mvd (n:Int) (p:Int × Int):Int × Int:=(IntKind.i64.wrap (p.1 + n),IntKind.i64.wrap (p.2 + n))
end SndA
set_option maxRecDepth 100000 in
set_option maxHeartbeats 16000000 in
theorem moved_any (v0:Value) (L:List (Int × Int)) (n:Int) (w:World) (h:PV w v0 L) (hL:L.length≤500) :
  Calls Try.prog 58 #[v0,.int .i64 n] w fun e w'=>(∃ v',e=.returned v'∧PV w' v' (L.map (mvd n)))∧Below w.heap.size w w':=by
 have hLi:(L.length:Int)≤500:=by omega
 have HF:=Lib.hid h.form
 obtain ⟨da,dc,rfl⟩:=own_len h
 clear h
 go_enter Try.func58,Try.ntmps58
 go_wp2_with fail
 go_loopw [5,6] (fun d x wr=>∃ q:Nat,q≤L.length∧x=.int .i64 (q:Int)∧Hid (MI w wr 123 2 d q (icells ((L.take q).map (mvd n))) [])) (fun _ x _=>L.length - (intOf x).toNat)
 case atStart=>exact ⟨0,Nat.zero_le _,rfl,Lib.hid (MI.nil _ _ _)⟩
 case round=>
  obtain ⟨q,hq,rfl,HM⟩:=hrel
  have hqi:(q:Int)≤500:=by omega
  by_cases hlt:q < L.length
  ·have d1:decide ((q:Int) < (L.length:Int))=true:=by rw [decide_eq_true_iff]; omega
   have i1:(q:Int) < (L.length:Int):=by omega
   go_wp2_with fail
   rcases HF.out with ⟨_,hnil⟩ | ⟨g,c,hv,hg,_,_,hc⟩
   ·rw [hnil] at hlt
    exact absurd hlt (Nat.not_lt_zero _)
   ·simp only [Value.slice.injEq] at hv
    obtain ⟨rfl,_,rfl⟩:=hv
    obtain ⟨a0,a1⟩:=hc q hlt
    have b0:=cell_next a0 HM.out.bel
    have b1:=cell_next a1 HM.out.bel
    have hMl:((L.take q).map (mvd n)).length=q:=by simp; omega
    have HT:Hid (L.take (q + 1)=L.take q ++ [L.getD q (0,0)]):=Lib.hid (take_one hlt _)
    clear a0 a1 hc
    refine movreg_l w wr _ g dc q L.length n _ _ _ _ ((L.take q).map (mvd n)) i1 (by rw [hMl]; exact HM.out) (by omega) b0 b1 rfl rfl _ _ _ _ _ _ _ _ _ _ _ _ _ _ _ _ _ _ _ _ _ _ _ _ _ _ _ _ _ (fun _ _ _ _ _ h=>h) ?_
    intro y13 y14 y15 y16 y17 y18 y19 y20 y21 y22 y23 y24 y25 y26 y27 y28 y29 y30 v5 W' hm
    have HM2:Hid (MI w W' 123 2 v5 (q + 1) (icells ((L.take (q + 1)).map (mvd n))) []):=Lib.hid (by
     rw [hMl] at hm
     rw [HT.out,List.map_append]
     exact hm)
    clear hm b0 b1
    go_wp2_with fail
    go_roundw
    case rel=>exact ⟨q + 1,hlt,by go_num,HM2⟩
    case measure=>simp [intOf]; omega
  ·have d1:decide ((q:Int) < (L.length:Int))=false:=by rw [decide_eq_false_iff_not]; omega
   have i1:¬ (q:Int) < (L.length:Int):=by omega
   have e:q=L.length:=by omega
   subst e
   go_wp2_with fail
   go_ret
   exact ⟨⟨_,rfl,PV.of_own (n:=L.length) (by have:=HM.out.own; rw [List.take_length] at this; exact this) (by simp)⟩,HM.out.bel⟩
end Go.Proofs.Yteghpophcnehgaa
