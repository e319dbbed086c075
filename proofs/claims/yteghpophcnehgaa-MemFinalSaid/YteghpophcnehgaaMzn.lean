/-
  What the functions that the law reaches do, one by one: contracts. Conditions: those that each of them prints.
-/
import Derived.Test.YteghpophcnehgaaMzk
import Derived.Test.YteghpophcnehgaaMzm
import Derived.Test.YteghpophcnehgaaMzh
import Derived.Test.YteghpophcnehgaaMzd
import Derived.WalkKit
import Derived.Deep.RegionLaw
import Derived.Deep.Quiet
import Derived.Maps.AppendAt
import Derived.Deep.DeepCutAuto
import Derived.Deep.CutBlock
namespace Go.Proofs.Yteghpophcnehgaa
open Go.RowKit ExprA SndA
def ogS0:Oper:={ dst:=some 44,op:=Op.load 25 (Operand.tmp 2),type:=25,pos := "ref.go:148", after:=#[],guard:=none }
def ogS1:Oper:={ dst:=some 48,op:=Op.load 35 (Operand.tmp 47),type:=35,pos := "ref.go:148", after:=#[{ on:=3,ground:=Ground.data }],guard:=none }
def ogS2:Oper:={ dst:=some 49,op:=Op.call { callee:=Callee.value (Operand.func 21),args:=#[Operand.tmp 44,Operand.tmp 48],argTypes:=#[25,35] },type:=60,pos := "ref.go:148", after:=#[{ on:=0,ground:=Ground.data },{ on:=4,ground:=Ground.data }],guard:=none }
def ogS3:Oper:={ dst:=some 11,op:=Op.alloc 38,type:=0,pos := "ref.go:148", after:=#[],guard:=none }
def ogS4:Oper:={ dst:=none,op:=Op.store 38 (Operand.tmp 11) (Operand.tmp 50),type:=0,pos := "ref.go:148", after:=#[{ on:=9,ground:=Ground.data },{ on:=7,ground:=Ground.data },{ on:=5,ground:=Ground.chain },{ on:=0,ground:=Ground.phase },{ on:=1,ground:=Ground.phase },{ on:=2,ground:=Ground.phase },{ on:=3,ground:=Ground.phase },{ on:=4,ground:=Ground.phase },{ on:=5,ground:=Ground.phase },{ on:=6,ground:=Ground.phase },{ on:=7,ground:=Ground.phase },{ on:=8,ground:=Ground.textOnly Departure.lateStores },{ on:=9,ground:=Ground.phase }],guard:=none }
def rgS0:Array Oper:=#[{ dst:=some 44,op:=Op.load 25 (Operand.tmp 2),type:=25,pos := "ref.go:148", after:=#[],guard:=none },{ dst:=some 45,op:=Op.move (Operand.tmp 9),type:=54,pos := "ref.go:148", after:=#[],guard:=none },{ dst:=some 46,op:=Op.move (Operand.tmp 10),type:=3,pos := "ref.go:148", after:=#[],guard:=none },{ dst:=some 47,op:=Op.indexAddr 54 (Operand.tmp 45) (Operand.tmp 46),type:=0,pos := "ref.go:148", after:=#[{ on:=1,ground:=Ground.data },{ on:=2,ground:=Ground.data }],guard:=none },{ dst:=some 48,op:=Op.load 35 (Operand.tmp 47),type:=35,pos := "ref.go:148", after:=#[{ on:=3,ground:=Ground.data }],guard:=none },{ dst:=some 49,op:=Op.call { callee:=Callee.value (Operand.func 21),args:=#[Operand.tmp 44,Operand.tmp 48],argTypes:=#[25,35] },type:=60,pos := "ref.go:148", after:=#[{ on:=0,ground:=Ground.data },{ on:=4,ground:=Ground.data }],guard:=none },{ dst:=some 43,op:=Op.move (Operand.tmp 49),type:=60,pos := "ref.go:148", after:=#[{ on:=5,ground:=Ground.data }],guard:=none },{ dst:=some 50,op:=Op.extract (Operand.tmp 43) 0,type:=38,pos := "ref.go:148", after:=#[{ on:=6,ground:=Ground.data }],guard:=none },{ dst:=some 51,op:=Op.extract (Operand.tmp 43) 1,type:=30,pos := "ref.go:148", after:=#[{ on:=6,ground:=Ground.data },{ on:=10,ground:=Ground.gcOnly Departure.lateStores }],guard:=none },{ dst:=some 11,op:=Op.alloc 38,type:=0,pos := "ref.go:148", after:=#[],guard:=none },{ dst:=none,op:=Op.store 38 (Operand.tmp 11) (Operand.tmp 50),type:=0,pos := "ref.go:148", after:=#[{ on:=9,ground:=Ground.data },{ on:=7,ground:=Ground.data },{ on:=5,ground:=Ground.chain },{ on:=0,ground:=Ground.phase },{ on:=1,ground:=Ground.phase },{ on:=2,ground:=Ground.phase },{ on:=3,ground:=Ground.phase },{ on:=4,ground:=Ground.phase },{ on:=5,ground:=Ground.phase },{ on:=6,ground:=Ground.phase },{ on:=7,ground:=Ground.phase },{ on:=8,ground:=Ground.textOnly Departure.lateStores },{ on:=9,ground:=Ground.phase }],guard:=none },{ dst:=some 12,op:=Op.assign (Operand.tmp 51),type:=30,pos := "ref.go:148", after:=#[{ on:=8,ground:=Ground.data },{ on:=10,ground:=Ground.chain },{ on:=0,ground:=Ground.phase },{ on:=1,ground:=Ground.phase },{ on:=2,ground:=Ground.phase },{ on:=3,ground:=Ground.phase },{ on:=4,ground:=Ground.phase },{ on:=5,ground:=Ground.phase },{ on:=6,ground:=Ground.phase },{ on:=7,ground:=Ground.phase },{ on:=8,ground:=Ground.phase },{ on:=9,ground:=Ground.phase },{ on:=10,ground:=Ground.phase }],guard:=none }]
set_option maxRecDepth 20000 in
set_option maxHeartbeats 32000000 in
theorem allreg_l (w:World) (pb tb T lg ll lc i:Nat) (P:List Th) (x1:Value) (L1:List (List Int)) (vs1:List Value) (hi:(i:Int) < (ll:Int)) (hp0:w.cell? ⟨pb,0,none⟩=some (.int .i64 2)) (hp1:w.cell? ⟨pb,1,none⟩=some (.slice (some ⟨tb,0,none⟩) T T)) (hP:PG w tb T P)
  (h1:w.cell? ⟨lg,i,none⟩=some x1) (hL1:LB 0 w x1 L1 vs1) (hl1:L1.length≤10) (hl3:∀ l ∈ L1,l.length≤3)
  (z0 z1 z3 z4 z5 z6 z7 z8 z11 z12 z13 z14 z15 z16 z17 z18 z19 z20 z21 z22 z23 z24 z25 z26 z27 z28 z29 z30 z31 z32 z33 z34 z35 z36 z37 z38 z39 z40 z41 z42 z43 z44 z45 z46 z47 z48 z49 z50 z51 z52 z53 z54 z55 z56 z57 z58 z59 z60 z61 z62:Value) (Q:Exit→Act→World→Prop)
  (hQp:∀ c (a:Act) (d:Tmp) v w,Q (.panic c) (a.put (some d) v) w→Q (.panic c) a w)
  (hQ:∀ (y44 y45 y46 y47 y48 y49 y43 y50 y51 y12:Value) (gb n:Nat) (ve p4 p5 p6 p7:Value) (E:List Ev) (W:World),Below w.heap.size w W→w.heap.size≤gb→W.heap[gb]?=some (.cells #[.int .i64 (n:Int),ve,.slice none 0 0,.slice none 0 0,p4,p5,p6,p7] 38 (0,0))→W.ownsRow 0 49 6 ve E.length (ecs E)→Sl p4∧Sl p5∧Sl p6∧Sl p7→n≤E.length∧n≤2∧E.length≤100→Q .normal { tmps:=(z0::z1::.pointer (some ⟨pb,0,none⟩)::z3::z4::z5::z6::z7::z8::.slice (some ⟨lg,0,none⟩) ll lc::.int .i64 (i:Int)::.pointer (some ⟨gb,0,none⟩)::y12::z13::z14::z15::z16::z17::z18::z19::z20::z21::z22::z23::z24::z25::z26::z27::z28::z29::z30::z31::z32::z33::z34::z35::z36::z37::z38::z39::z40::z41::z42::y43::y44::y45::y46::y47::y48::y49::y50::y51::z52::z53::z54::z55::z56::z57::z58::z59::z60::z61::z62::[]).toArray,defers:=[] } W) :
  Code.wp Try.prog (Code.region 13 rgS0 true) Q { tmps:=(z0::z1::.pointer (some ⟨pb,0,none⟩)::z3::z4::z5::z6::z7::z8::.slice (some ⟨lg,0,none⟩) ll lc::.int .i64 (i:Int)::z11::z12::z13::z14::z15::z16::z17::z18::z19::z20::z21::z22::z23::z24::z25::z26::z27::z28::z29::z30::z31::z32::z33::z34::z35::z36::z37::z38::z39::z40::z41::z42::z43::z44::z45::z46::z47::z48::z49::z50::z51::z52::z53::z54::z55::z56::z57::z58::z59::z60::z61::z62::[]).toArray,defers:=[] } w:=by
 unfold rgS0
 refine wp_region_any (by kernel_rfl) ?_
 have hB:Below w.heap.size w (World.drew w):=bel_drewN w 1
 have HC:Hid (∀ W,Below w.heap.size w W→Calls Try.prog 21 #[.agg #[.int .i64 2,.slice (some ⟨tb,0,none⟩) T T],x1] W fun e w'=>SkelV w' e∧Below W.heap.size W w'):=Lib.hid fun W hb=>rskel_any tb T P x1 L1 vs1 W (hP.next hb) (hL1.next hb) (fun j hj=>by have:=hl3 _ (mem_getD hj []); omega) (by omega)
 obtain ⟨xa,xc,rfl⟩:=own_len hL1.own
 clear hP hL1
 change wpAny _ _ _ _ _ _ _ (World.drew _)
 generalize World.drew w=W at hB ⊢
 refine wpAny_take (i:=1) (v:=.slice (some ⟨lg,0,none⟩) ll lc) rfl (by kernel_rfl) (by kernel_rfl) (by kernel_rfl) (fun c a w=>hQp c a _ _ w) (Or.inl ⟨by rfl,?_⟩) ?_
 ·intro w
  go_simp
 refine wpAny_take (i:=2) (v:=.int .i64 (i:Int)) rfl (by kernel_rfl) (by kernel_rfl) (by kernel_rfl) (fun c a w=>hQp c a _ _ w) (Or.inl ⟨by rfl,?_⟩) ?_
 ·intro w
  go_simp
 refine wpAny_take (i:=3) (v:=.pointer (some ⟨lg,i,none⟩)) rfl (by kernel_rfl) (by kernel_rfl) (by kernel_rfl) (fun c a w=>hQp c a _ _ w) (Or.inl ⟨by rfl,?_⟩) ?_
 ·intro w
  go_simp
 show wpAny _ _ _ _ 9 _ _ _
 refine wpAny_all (rs:=[0,4,9]) (by kernel_rfl) (by simp) ?_
 intro i hi
 simp only [List.mem_cons,List.not_mem_nil,or_false] at hi
 rcases hi with rfl | rfl | rfl
 ·have c0:=cell_next hp0 hB
  have c1:=cell_next hp1 hB
  refine wpOp_one (o:=ogS0) (by rfl) rfl ?_
  unfold ogS0
  unfold Oper.wp
  go_simp
  clear c0 c1
  refine wpAny_all (rs:=[4,9]) (by kernel_rfl) (by simp) ?_
  intro i hi
  simp only [List.mem_cons,List.not_mem_nil,or_false] at hi
  rcases hi with rfl | rfl
  ·have c0:=cell_next h1 hB
   refine wpOp_one (o:=ogS1) (by rfl) rfl ?_
   unfold ogS1
   unfold Oper.wp
   go_simp
   clear c0
   refine wpAny_all (rs:=[5,9]) (by kernel_rfl) (by simp) ?_
   intro i hi
   simp only [List.mem_cons,List.not_mem_nil,or_false] at hi
   rcases hi with rfl | rfl
   ·refine wpOp_one (o:=ogS2) (by rfl) rfl ?_
    unfold ogS2
    unfold Oper.wp
    go_simp
    refine (HC.out _ hB).mono ?_
    rintro e5 W5 ⟨⟨n,ve,p4,p5,p6,p7,E,err,rfl,hve,s4,s5,s6,s7,hn1,hn2,hn3⟩,hb5⟩
    dsimp only
    obtain ⟨ea,ec,rfl⟩:=own_len hve
    obtain ⟨⟨a4,n4,c4,rfl⟩,⟨a5,n5,c5,rfl⟩,⟨a6,n6,c6,rfl⟩,⟨a7,n7,c7,rfl⟩⟩:Sl p4∧Sl p5∧Sl p6∧Sl p7:=⟨s4,s5,s6,s7⟩
    have HVE:=Lib.hid hve
    have HNN:=Lib.hid (And.intro hn1 (And.intro hn2 hn3))
    clear hve hn1 hn2 hn3
    have hB5:=below_next hB hb5
    clear hB
    have hB:=hB5
    clear hB5
    refine wpAny_take (i:=6) (v:=.tuple #[.agg #[.int .i64 (n:Int),.slice ea E.length ec,.slice none 0 0,.slice none 0 0,.slice a4 n4 c4,.slice a5 n5 c5,.slice a6 n6 c6,.slice a7 n7 c7],.int .i64 err]) rfl (by kernel_rfl) (by kernel_rfl) (by kernel_rfl) (fun c a w=>hQp c a _ _ w) (Or.inl ⟨by rfl,?_⟩) ?_
    ·intro w
     go_simp
    refine wpAny_take (i:=7) (v:=.agg #[.int .i64 (n:Int),.slice ea E.length ec,.slice none 0 0,.slice none 0 0,.slice a4 n4 c4,.slice a5 n5 c5,.slice a6 n6 c6,.slice a7 n7 c7]) rfl (by kernel_rfl) (by kernel_rfl) (by kernel_rfl) (fun c a w=>hQp c a _ _ w) (Or.inl ⟨by rfl,?_⟩) ?_
    ·intro w
     go_simp
    refine wpAny_take (i:=8) (v:=.int .i64 err) rfl (by kernel_rfl) (by kernel_rfl) (by kernel_rfl) (fun c a w=>hQp c a _ _ w) (Or.inl ⟨by rfl,?_⟩) ?_
    ·intro w
     go_simp
    refine wpAny_all (rs:=[9]) (by kernel_rfl) (by simp) ?_
    intro i hi
    simp only [List.mem_singleton] at hi
    subst hi
    have hB9:=hB.alloc hB.size (Obj.cells #[.int .i64 0,.slice none 0 0,.slice none 0 0,.slice none 0 0,.slice none 0 0,.slice none 0 0,.slice none 0 0,.slice none 0 0] 38 (0,0))
    have hG:=heap_alloc_new W5 (Obj.cells #[.int .i64 0,.slice none 0 0,.slice none 0 0,.slice none 0 0,.slice none 0 0,.slice none 0 0,.slice none 0 0,.slice none 0 0] 38 (0,0))
    obtain ⟨B9,hB9e⟩:∃ q,q=W5.heap.size:=⟨_,rfl⟩
    have hBL:w.heap.size≤B9:=by rw [hB9e]; exact hB.size
    have HVE9:=Lib.hid (HVE.out.alloc (Obj.cells #[.int .i64 0,.slice none 0 0,.slice none 0 0,.slice none 0 0,.slice none 0 0,.slice none 0 0,.slice none 0 0,.slice none 0 0] 38 (0,0)))
    clear HVE
    have HVE:=HVE9
    clear HVE9
    clear hB
    have hB:=hB9
    clear hB9
    refine wpOp_one (o:=ogS3) (by rfl) rfl ?_
    unfold ogS3
    unfold Oper.wp
    go_simp
    rw [← hB9e]
    rw [← hB9e] at hG
    clear hB9e
    refine wpAny_all (rs:=[10]) (by kernel_rfl) (by simp) ?_
    intro i hi
    simp only [List.mem_singleton] at hi
    subst hi
    have r0:=cell_of_row _ B9 0 _ _ _ hG
    have s0_:=frozen_of_row _ B9 0 _ _ hG
    have r1:=cell_of_row _ B9 1 _ _ _ hG
    have s1_:=frozen_of_row _ B9 1 _ _ hG
    have r2:=cell_of_row _ B9 2 _ _ _ hG
    have s2_:=frozen_of_row _ B9 2 _ _ hG
    have r3:=cell_of_row _ B9 3 _ _ _ hG
    have s3_:=frozen_of_row _ B9 3 _ _ hG
    have r4:=cell_of_row _ B9 4 _ _ _ hG
    have s4_:=frozen_of_row _ B9 4 _ _ hG
    have r5:=cell_of_row _ B9 5 _ _ _ hG
    have s5_:=frozen_of_row _ B9 5 _ _ hG
    have r6:=cell_of_row _ B9 6 _ _ _ hG
    have s6_:=frozen_of_row _ B9 6 _ _ hG
    have r7:=cell_of_row _ B9 7 _ _ _ hG
    have s7_:=frozen_of_row _ B9 7 _ _ hG
    refine wpOp_one (o:=ogS4) (by rfl) rfl ?_
    unfold ogS4
    unfold Oper.wp
    go_simp
    clear r0 s0_ r1 s1_ r2 s2_ r3 s3_ r4 s4_ r5 s5_ r6 s6_ r7 s7_
    refine wpAny_take (i:=11) (v:=.int .i64 err) rfl (by kernel_rfl) (by kernel_rfl) (by kernel_rfl) (fun c a w=>hQp c a _ _ w) (Or.inl ⟨by rfl,?_⟩) ?_
    ·intro w
     go_simp
    refine wpAny_done (by kernel_rfl) ?_ _
    have k1:=below_set8 hB B9 (.int .i64 (n:Int)) (.slice ea E.length ec) (.slice none 0 0) (.slice none 0 0) (.slice a4 n4 c4) (.slice a5 n5 c5) (.slice a6 n6 c6) (.slice a7 n7 c7) hBL
    have k2:=set8_at _ B9 38 _ _ _ _ _ _ _ _ (.int .i64 (n:Int)) (.slice ea E.length ec) (.slice none 0 0) (.slice none 0 0) (.slice a4 n4 c4) (.slice a5 n5 c5) (.slice a6 n6 c6) (.slice a7 n7 c7) hG
    have k3:=own_fr HVE.out (set8_fr _ B9 (.int .i64 (n:Int)) (.slice ea E.length ec) (.slice none 0 0) (.slice none 0 0) (.slice a4 n4 c4) (.slice a5 n5 c5) (.slice a6 n6 c6) (.slice a7 n7 c7)) (fun g q r=>own_typ HVE.out hG (by decide) (by rw [q,r]))
    clear hG hB hb5
    generalize World.setCell (World.setCell (World.setCell (World.setCell (World.setCell (World.setCell (World.setCell (World.setCell _ _ _) _ _) _ _) _ _) _ _) _ _) _ _) _ _=WF at k1 k2 k3 ⊢
    exact hQ _ _ _ _ _ _ _ _ _ _ B9 n _ _ _ _ _ E WF k1 hBL k2 k3 ⟨⟨_,_,_,rfl⟩,⟨_,_,_,rfl⟩,⟨_,_,_,rfl⟩,⟨_,_,_,rfl⟩⟩ HNN.out
   ·have hB9:=hB.alloc hB.size (Obj.cells #[.int .i64 0,.slice none 0 0,.slice none 0 0,.slice none 0 0,.slice none 0 0,.slice none 0 0,.slice none 0 0,.slice none 0 0] 38 (0,0))
    have hG:=heap_alloc_new W (Obj.cells #[.int .i64 0,.slice none 0 0,.slice none 0 0,.slice none 0 0,.slice none 0 0,.slice none 0 0,.slice none 0 0,.slice none 0 0] 38 (0,0))
    obtain ⟨B9,hB9e⟩:∃ q,q=W.heap.size:=⟨_,rfl⟩
    have hBL:w.heap.size≤B9:=by rw [hB9e]; exact hB.size
    clear hB
    have hB:=hB9
    clear hB9
    refine wpOp_one (o:=ogS3) (by rfl) rfl ?_
    unfold ogS3
    unfold Oper.wp
    go_simp
    rw [← hB9e]
    rw [← hB9e] at hG
    clear hB9e
    refine wpAny_all (rs:=[5]) (by kernel_rfl) (by simp) ?_
    intro i hi
    simp only [List.mem_singleton] at hi
    subst hi
    refine wpOp_one (o:=ogS2) (by rfl) rfl ?_
    unfold ogS2
    unfold Oper.wp
    go_simp
    refine (HC.out _ hB).mono ?_
    rintro e5 W5 ⟨⟨n,ve,p4,p5,p6,p7,E,err,rfl,hve,s4,s5,s6,s7,hn1,hn2,hn3⟩,hb5⟩
    dsimp only
    obtain ⟨ea,ec,rfl⟩:=own_len hve
    obtain ⟨⟨a4,n4,c4,rfl⟩,⟨a5,n5,c5,rfl⟩,⟨a6,n6,c6,rfl⟩,⟨a7,n7,c7,rfl⟩⟩:Sl p4∧Sl p5∧Sl p6∧Sl p7:=⟨s4,s5,s6,s7⟩
    have HVE:=Lib.hid hve
    have HNN:=Lib.hid (And.intro hn1 (And.intro hn2 hn3))
    clear hve hn1 hn2 hn3
    have hG9:=(hb5.block _ (blk_lt hG)).trans hG
    clear hG
    have hG:=hG9
    clear hG9
    have hB5:=below_next hB hb5
    clear hB
    have hB:=hB5
    clear hB5
    refine wpAny_take (i:=6) (v:=.tuple #[.agg #[.int .i64 (n:Int),.slice ea E.length ec,.slice none 0 0,.slice none 0 0,.slice a4 n4 c4,.slice a5 n5 c5,.slice a6 n6 c6,.slice a7 n7 c7],.int .i64 err]) rfl (by kernel_rfl) (by kernel_rfl) (by kernel_rfl) (fun c a w=>hQp c a _ _ w) (Or.inl ⟨by rfl,?_⟩) ?_
    ·intro w
     go_simp
    refine wpAny_take (i:=7) (v:=.agg #[.int .i64 (n:Int),.slice ea E.length ec,.slice none 0 0,.slice none 0 0,.slice a4 n4 c4,.slice a5 n5 c5,.slice a6 n6 c6,.slice a7 n7 c7]) rfl (by kernel_rfl) (by kernel_rfl) (by kernel_rfl) (fun c a w=>hQp c a _ _ w) (Or.inl ⟨by rfl,?_⟩) ?_
    ·intro w
     go_simp
    refine wpAny_take (i:=8) (v:=.int .i64 err) rfl (by kernel_rfl) (by kernel_rfl) (by kernel_rfl) (fun c a w=>hQp c a _ _ w) (Or.inl ⟨by rfl,?_⟩) ?_
    ·intro w
     go_simp
    refine wpAny_all (rs:=[10]) (by kernel_rfl) (by simp) ?_
    intro i hi
    simp only [List.mem_singleton] at hi
    subst hi
    have r0:=cell_of_row _ B9 0 _ _ _ hG
    have s0_:=frozen_of_row _ B9 0 _ _ hG
    have r1:=cell_of_row _ B9 1 _ _ _ hG
    have s1_:=frozen_of_row _ B9 1 _ _ hG
    have r2:=cell_of_row _ B9 2 _ _ _ hG
    have s2_:=frozen_of_row _ B9 2 _ _ hG
    have r3:=cell_of_row _ B9 3 _ _ _ hG
    have s3_:=frozen_of_row _ B9 3 _ _ hG
    have r4:=cell_of_row _ B9 4 _ _ _ hG
    have s4_:=frozen_of_row _ B9 4 _ _ hG
    have r5:=cell_of_row _ B9 5 _ _ _ hG
    have s5_:=frozen_of_row _ B9 5 _ _ hG
    have r6:=cell_of_row _ B9 6 _ _ _ hG
    have s6_:=frozen_of_row _ B9 6 _ _ hG
    have r7:=cell_of_row _ B9 7 _ _ _ hG
    have s7_:=frozen_of_row _ B9 7 _ _ hG
    refine wpOp_one (o:=ogS4) (by rfl) rfl ?_
    unfold ogS4
    unfold Oper.wp
    go_simp
    clear r0 s0_ r1 s1_ r2 s2_ r3 s3_ r4 s4_ r5 s5_ r6 s6_ r7 s7_
    refine wpAny_take (i:=11) (v:=.int .i64 err) rfl (by kernel_rfl) (by kernel_rfl) (by kernel_rfl) (fun c a w=>hQp c a _ _ w) (Or.inl ⟨by rfl,?_⟩) ?_
    ·intro w
     go_simp
    refine wpAny_done (by kernel_rfl) ?_ _
    have k1:=below_set8 hB B9 (.int .i64 (n:Int)) (.slice ea E.length ec) (.slice none 0 0) (.slice none 0 0) (.slice a4 n4 c4) (.slice a5 n5 c5) (.slice a6 n6 c6) (.slice a7 n7 c7) hBL
    have k2:=set8_at _ B9 38 _ _ _ _ _ _ _ _ (.int .i64 (n:Int)) (.slice ea E.length ec) (.slice none 0 0) (.slice none 0 0) (.slice a4 n4 c4) (.slice a5 n5 c5) (.slice a6 n6 c6) (.slice a7 n7 c7) hG
    have k3:=own_fr HVE.out (set8_fr _ B9 (.int .i64 (n:Int)) (.slice ea E.length ec) (.slice none 0 0) (.slice none 0 0) (.slice a4 n4 c4) (.slice a5 n5 c5) (.slice a6 n6 c6) (.slice a7 n7 c7)) (fun g q r=>own_typ HVE.out hG (by decide) (by rw [q,r]))
    clear hG hB hb5
    generalize World.setCell (World.setCell (World.setCell (World.setCell (World.setCell (World.setCell (World.setCell (World.setCell _ _ _) _ _) _ _) _ _) _ _) _ _) _ _) _ _=WF at k1 k2 k3 ⊢
    exact hQ _ _ _ _ _ _ _ _ _ _ B9 n _ _ _ _ _ E WF k1 hBL k2 k3 ⟨⟨_,_,_,rfl⟩,⟨_,_,_,rfl⟩,⟨_,_,_,rfl⟩,⟨_,_,_,rfl⟩⟩ HNN.out
  ·have hB9:=hB.alloc hB.size (Obj.cells #[.int .i64 0,.slice none 0 0,.slice none 0 0,.slice none 0 0,.slice none 0 0,.slice none 0 0,.slice none 0 0,.slice none 0 0] 38 (0,0))
   have hG:=heap_alloc_new W (Obj.cells #[.int .i64 0,.slice none 0 0,.slice none 0 0,.slice none 0 0,.slice none 0 0,.slice none 0 0,.slice none 0 0,.slice none 0 0] 38 (0,0))
   obtain ⟨B9,hB9e⟩:∃ q,q=W.heap.size:=⟨_,rfl⟩
   have hBL:w.heap.size≤B9:=by rw [hB9e]; exact hB.size
   clear hB
   have hB:=hB9
   clear hB9
   refine wpOp_one (o:=ogS3) (by rfl) rfl ?_
   unfold ogS3
   unfold Oper.wp
   go_simp
   rw [← hB9e]
   rw [← hB9e] at hG
   clear hB9e
   refine wpAny_all (rs:=[4]) (by kernel_rfl) (by simp) ?_
   intro i hi
   simp only [List.mem_singleton] at hi
   subst hi
   have c0:=cell_next h1 hB
   refine wpOp_one (o:=ogS1) (by rfl) rfl ?_
   unfold ogS1
   unfold Oper.wp
   go_simp
   clear c0
   refine wpAny_all (rs:=[5]) (by kernel_rfl) (by simp) ?_
   intro i hi
   simp only [List.mem_singleton] at hi
   subst hi
   refine wpOp_one (o:=ogS2) (by rfl) rfl ?_
   unfold ogS2
   unfold Oper.wp
   go_simp
   refine (HC.out _ hB).mono ?_
   rintro e5 W5 ⟨⟨n,ve,p4,p5,p6,p7,E,err,rfl,hve,s4,s5,s6,s7,hn1,hn2,hn3⟩,hb5⟩
   dsimp only
   obtain ⟨ea,ec,rfl⟩:=own_len hve
   obtain ⟨⟨a4,n4,c4,rfl⟩,⟨a5,n5,c5,rfl⟩,⟨a6,n6,c6,rfl⟩,⟨a7,n7,c7,rfl⟩⟩:Sl p4∧Sl p5∧Sl p6∧Sl p7:=⟨s4,s5,s6,s7⟩
   have HVE:=Lib.hid hve
   have HNN:=Lib.hid (And.intro hn1 (And.intro hn2 hn3))
   clear hve hn1 hn2 hn3
   have hG9:=(hb5.block _ (blk_lt hG)).trans hG
   clear hG
   have hG:=hG9
   clear hG9
   have hB5:=below_next hB hb5
   clear hB
   have hB:=hB5
   clear hB5
   refine wpAny_take (i:=6) (v:=.tuple #[.agg #[.int .i64 (n:Int),.slice ea E.length ec,.slice none 0 0,.slice none 0 0,.slice a4 n4 c4,.slice a5 n5 c5,.slice a6 n6 c6,.slice a7 n7 c7],.int .i64 err]) rfl (by kernel_rfl) (by kernel_rfl) (by kernel_rfl) (fun c a w=>hQp c a _ _ w) (Or.inl ⟨by rfl,?_⟩) ?_
   ·intro w
    go_simp
   refine wpAny_take (i:=7) (v:=.agg #[.int .i64 (n:Int),.slice ea E.length ec,.slice none 0 0,.slice none 0 0,.slice a4 n4 c4,.slice a5 n5 c5,.slice a6 n6 c6,.slice a7 n7 c7]) rfl (by kernel_rfl) (by kernel_rfl) (by kernel_rfl) (fun c a w=>hQp c a _ _ w) (Or.inl ⟨by rfl,?_⟩) ?_
   ·intro w
    go_simp
   refine wpAny_take (i:=8) (v:=.int .i64 err) rfl (by kernel_rfl) (by kernel_rfl) (by kernel_rfl) (fun c a w=>hQp c a _ _ w) (Or.inl ⟨by rfl,?_⟩) ?_
   ·intro w
    go_simp
   refine wpAny_all (rs:=[10]) (by kernel_rfl) (by simp) ?_
   intro i hi
   simp only [List.mem_singleton] at hi
   subst hi
   have r0:=cell_of_row _ B9 0 _ _ _ hG
   have s0_:=frozen_of_row _ B9 0 _ _ hG
   have r1:=cell_of_row _ B9 1 _ _ _ hG
   have s1_:=frozen_of_row _ B9 1 _ _ hG
   have r2:=cell_of_row _ B9 2 _ _ _ hG
   have s2_:=frozen_of_row _ B9 2 _ _ hG
   have r3:=cell_of_row _ B9 3 _ _ _ hG
   have s3_:=frozen_of_row _ B9 3 _ _ hG
   have r4:=cell_of_row _ B9 4 _ _ _ hG
   have s4_:=frozen_of_row _ B9 4 _ _ hG
   have r5:=cell_of_row _ B9 5 _ _ _ hG
   have s5_:=frozen_of_row _ B9 5 _ _ hG
   have r6:=cell_of_row _ B9 6 _ _ _ hG
   have s6_:=frozen_of_row _ B9 6 _ _ hG
   have r7:=cell_of_row _ B9 7 _ _ _ hG
   have s7_:=frozen_of_row _ B9 7 _ _ hG
   refine wpOp_one (o:=ogS4) (by rfl) rfl ?_
   unfold ogS4
   unfold Oper.wp
   go_simp
   clear r0 s0_ r1 s1_ r2 s2_ r3 s3_ r4 s4_ r5 s5_ r6 s6_ r7 s7_
   refine wpAny_take (i:=11) (v:=.int .i64 err) rfl (by kernel_rfl) (by kernel_rfl) (by kernel_rfl) (fun c a w=>hQp c a _ _ w) (Or.inl ⟨by rfl,?_⟩) ?_
   ·intro w
    go_simp
   refine wpAny_done (by kernel_rfl) ?_ _
   have k1:=below_set8 hB B9 (.int .i64 (n:Int)) (.slice ea E.length ec) (.slice none 0 0) (.slice none 0 0) (.slice a4 n4 c4) (.slice a5 n5 c5) (.slice a6 n6 c6) (.slice a7 n7 c7) hBL
   have k2:=set8_at _ B9 38 _ _ _ _ _ _ _ _ (.int .i64 (n:Int)) (.slice ea E.length ec) (.slice none 0 0) (.slice none 0 0) (.slice a4 n4 c4) (.slice a5 n5 c5) (.slice a6 n6 c6) (.slice a7 n7 c7) hG
   have k3:=own_fr HVE.out (set8_fr _ B9 (.int .i64 (n:Int)) (.slice ea E.length ec) (.slice none 0 0) (.slice none 0 0) (.slice a4 n4 c4) (.slice a5 n5 c5) (.slice a6 n6 c6) (.slice a7 n7 c7)) (fun g q r=>own_typ HVE.out hG (by decide) (by rw [q,r]))
   clear hG hB hb5
   generalize World.setCell (World.setCell (World.setCell (World.setCell (World.setCell (World.setCell (World.setCell (World.setCell _ _ _) _ _) _ _) _ _) _ _) _ _) _ _) _ _=WF at k1 k2 k3 ⊢
   exact hQ _ _ _ _ _ _ _ _ _ _ B9 n _ _ _ _ _ E WF k1 hBL k2 k3 ⟨⟨_,_,_,rfl⟩,⟨_,_,_,rfl⟩,⟨_,_,_,rfl⟩,⟨_,_,_,rfl⟩⟩ HNN.out
 ·have c0:=cell_next h1 hB
  refine wpOp_one (o:=ogS1) (by rfl) rfl ?_
  unfold ogS1
  unfold Oper.wp
  go_simp
  clear c0
  refine wpAny_all (rs:=[0,9]) (by kernel_rfl) (by simp) ?_
  intro i hi
  simp only [List.mem_cons,List.not_mem_nil,or_false] at hi
  rcases hi with rfl | rfl
  ·have c0:=cell_next hp0 hB
   have c1:=cell_next hp1 hB
   refine wpOp_one (o:=ogS0) (by rfl) rfl ?_
   unfold ogS0
   unfold Oper.wp
   go_simp
   clear c0 c1
   refine wpAny_all (rs:=[5,9]) (by kernel_rfl) (by simp) ?_
   intro i hi
   simp only [List.mem_cons,List.not_mem_nil,or_false] at hi
   rcases hi with rfl | rfl
   ·refine wpOp_one (o:=ogS2) (by rfl) rfl ?_
    unfold ogS2
    unfold Oper.wp
    go_simp
    refine (HC.out _ hB).mono ?_
    rintro e5 W5 ⟨⟨n,ve,p4,p5,p6,p7,E,err,rfl,hve,s4,s5,s6,s7,hn1,hn2,hn3⟩,hb5⟩
    dsimp only
    obtain ⟨ea,ec,rfl⟩:=own_len hve
    obtain ⟨⟨a4,n4,c4,rfl⟩,⟨a5,n5,c5,rfl⟩,⟨a6,n6,c6,rfl⟩,⟨a7,n7,c7,rfl⟩⟩:Sl p4∧Sl p5∧Sl p6∧Sl p7:=⟨s4,s5,s6,s7⟩
    have HVE:=Lib.hid hve
    have HNN:=Lib.hid (And.intro hn1 (And.intro hn2 hn3))
    clear hve hn1 hn2 hn3
    have hB5:=below_next hB hb5
    clear hB
    have hB:=hB5
    clear hB5
    refine wpAny_take (i:=6) (v:=.tuple #[.agg #[.int .i64 (n:Int),.slice ea E.length ec,.slice none 0 0,.slice none 0 0,.slice a4 n4 c4,.slice a5 n5 c5,.slice a6 n6 c6,.slice a7 n7 c7],.int .i64 err]) rfl (by kernel_rfl) (by kernel_rfl) (by kernel_rfl) (fun c a w=>hQp c a _ _ w) (Or.inl ⟨by rfl,?_⟩) ?_
    ·intro w
     go_simp
    refine wpAny_take (i:=7) (v:=.agg #[.int .i64 (n:Int),.slice ea E.length ec,.slice none 0 0,.slice none 0 0,.slice a4 n4 c4,.slice a5 n5 c5,.slice a6 n6 c6,.slice a7 n7 c7]) rfl (by kernel_rfl) (by kernel_rfl) (by kernel_rfl) (fun c a w=>hQp c a _ _ w) (Or.inl ⟨by rfl,?_⟩) ?_
    ·intro w
     go_simp
    refine wpAny_take (i:=8) (v:=.int .i64 err) rfl (by kernel_rfl) (by kernel_rfl) (by kernel_rfl) (fun c a w=>hQp c a _ _ w) (Or.inl ⟨by rfl,?_⟩) ?_
    ·intro w
     go_simp
    refine wpAny_all (rs:=[9]) (by kernel_rfl) (by simp) ?_
    intro i hi
    simp only [List.mem_singleton] at hi
    subst hi
    have hB9:=hB.alloc hB.size (Obj.cells #[.int .i64 0,.slice none 0 0,.slice none 0 0,.slice none 0 0,.slice none 0 0,.slice none 0 0,.slice none 0 0,.slice none 0 0] 38 (0,0))
    have hG:=heap_alloc_new W5 (Obj.cells #[.int .i64 0,.slice none 0 0,.slice none 0 0,.slice none 0 0,.slice none 0 0,.slice none 0 0,.slice none 0 0,.slice none 0 0] 38 (0,0))
    obtain ⟨B9,hB9e⟩:∃ q,q=W5.heap.size:=⟨_,rfl⟩
    have hBL:w.heap.size≤B9:=by rw [hB9e]; exact hB.size
    have HVE9:=Lib.hid (HVE.out.alloc (Obj.cells #[.int .i64 0,.slice none 0 0,.slice none 0 0,.slice none 0 0,.slice none 0 0,.slice none 0 0,.slice none 0 0,.slice none 0 0] 38 (0,0)))
    clear HVE
    have HVE:=HVE9
    clear HVE9
    clear hB
    have hB:=hB9
    clear hB9
    refine wpOp_one (o:=ogS3) (by rfl) rfl ?_
    unfold ogS3
    unfold Oper.wp
    go_simp
    rw [← hB9e]
    rw [← hB9e] at hG
    clear hB9e
    refine wpAny_all (rs:=[10]) (by kernel_rfl) (by simp) ?_
    intro i hi
    simp only [List.mem_singleton] at hi
    subst hi
    have r0:=cell_of_row _ B9 0 _ _ _ hG
    have s0_:=frozen_of_row _ B9 0 _ _ hG
    have r1:=cell_of_row _ B9 1 _ _ _ hG
    have s1_:=frozen_of_row _ B9 1 _ _ hG
    have r2:=cell_of_row _ B9 2 _ _ _ hG
    have s2_:=frozen_of_row _ B9 2 _ _ hG
    have r3:=cell_of_row _ B9 3 _ _ _ hG
    have s3_:=frozen_of_row _ B9 3 _ _ hG
    have r4:=cell_of_row _ B9 4 _ _ _ hG
    have s4_:=frozen_of_row _ B9 4 _ _ hG
    have r5:=cell_of_row _ B9 5 _ _ _ hG
    have s5_:=frozen_of_row _ B9 5 _ _ hG
    have r6:=cell_of_row _ B9 6 _ _ _ hG
    have s6_:=frozen_of_row _ B9 6 _ _ hG
    have r7:=cell_of_row _ B9 7 _ _ _ hG
    have s7_:=frozen_of_row _ B9 7 _ _ hG
    refine wpOp_one (o:=ogS4) (by rfl) rfl ?_
    unfold ogS4
    unfold Oper.wp
    go_simp
    clear r0 s0_ r1 s1_ r2 s2_ r3 s3_ r4 s4_ r5 s5_ r6 s6_ r7 s7_
    refine wpAny_take (i:=11) (v:=.int .i64 err) rfl (by kernel_rfl) (by kernel_rfl) (by kernel_rfl) (fun c a w=>hQp c a _ _ w) (Or.inl ⟨by rfl,?_⟩) ?_
    ·intro w
     go_simp
    refine wpAny_done (by kernel_rfl) ?_ _
    have k1:=below_set8 hB B9 (.int .i64 (n:Int)) (.slice ea E.length ec) (.slice none 0 0) (.slice none 0 0) (.slice a4 n4 c4) (.slice a5 n5 c5) (.slice a6 n6 c6) (.slice a7 n7 c7) hBL
    have k2:=set8_at _ B9 38 _ _ _ _ _ _ _ _ (.int .i64 (n:Int)) (.slice ea E.length ec) (.slice none 0 0) (.slice none 0 0) (.slice a4 n4 c4) (.slice a5 n5 c5) (.slice a6 n6 c6) (.slice a7 n7 c7) hG
    have k3:=own_fr HVE.out (set8_fr _ B9 (.int .i64 (n:Int)) (.slice ea E.length ec) (.slice none 0 0) (.slice none 0 0) (.slice a4 n4 c4) (.slice a5 n5 c5) (.slice a6 n6 c6) (.slice a7 n7 c7)) (fun g q r=>own_typ HVE.out hG (by decide) (by rw [q,r]))
    clear hG hB hb5
    generalize World.setCell (World.setCell (World.setCell (World.setCell (World.setCell (World.setCell (World.setCell (World.setCell _ _ _) _ _) _ _) _ _) _ _) _ _) _ _) _ _=WF at k1 k2 k3 ⊢
    exact hQ _ _ _ _ _ _ _ _ _ _ B9 n _ _ _ _ _ E WF k1 hBL k2 k3 ⟨⟨_,_,_,rfl⟩,⟨_,_,_,rfl⟩,⟨_,_,_,rfl⟩,⟨_,_,_,rfl⟩⟩ HNN.out
   ·have hB9:=hB.alloc hB.size (Obj.cells #[.int .i64 0,.slice none 0 0,.slice none 0 0,.slice none 0 0,.slice none 0 0,.slice none 0 0,.slice none 0 0,.slice none 0 0] 38 (0,0))
    have hG:=heap_alloc_new W (Obj.cells #[.int .i64 0,.slice none 0 0,.slice none 0 0,.slice none 0 0,.slice none 0 0,.slice none 0 0,.slice none 0 0,.slice none 0 0] 38 (0,0))
    obtain ⟨B9,hB9e⟩:∃ q,q=W.heap.size:=⟨_,rfl⟩
    have hBL:w.heap.size≤B9:=by rw [hB9e]; exact hB.size
    clear hB
    have hB:=hB9
    clear hB9
    refine wpOp_one (o:=ogS3) (by rfl) rfl ?_
    unfold ogS3
    unfold Oper.wp
    go_simp
    rw [← hB9e]
    rw [← hB9e] at hG
    clear hB9e
    refine wpAny_all (rs:=[5]) (by kernel_rfl) (by simp) ?_
    intro i hi
    simp only [List.mem_singleton] at hi
    subst hi
    refine wpOp_one (o:=ogS2) (by rfl) rfl ?_
    unfold ogS2
    unfold Oper.wp
    go_simp
    refine (HC.out _ hB).mono ?_
    rintro e5 W5 ⟨⟨n,ve,p4,p5,p6,p7,E,err,rfl,hve,s4,s5,s6,s7,hn1,hn2,hn3⟩,hb5⟩
    dsimp only
    obtain ⟨ea,ec,rfl⟩:=own_len hve
    obtain ⟨⟨a4,n4,c4,rfl⟩,⟨a5,n5,c5,rfl⟩,⟨a6,n6,c6,rfl⟩,⟨a7,n7,c7,rfl⟩⟩:Sl p4∧Sl p5∧Sl p6∧Sl p7:=⟨s4,s5,s6,s7⟩
    have HVE:=Lib.hid hve
    have HNN:=Lib.hid (And.intro hn1 (And.intro hn2 hn3))
    clear hve hn1 hn2 hn3
    have hG9:=(hb5.block _ (blk_lt hG)).trans hG
    clear hG
    have hG:=hG9
    clear hG9
    have hB5:=below_next hB hb5
    clear hB
    have hB:=hB5
    clear hB5
    refine wpAny_take (i:=6) (v:=.tuple #[.agg #[.int .i64 (n:Int),.slice ea E.length ec,.slice none 0 0,.slice none 0 0,.slice a4 n4 c4,.slice a5 n5 c5,.slice a6 n6 c6,.slice a7 n7 c7],.int .i64 err]) rfl (by kernel_rfl) (by kernel_rfl) (by kernel_rfl) (fun c a w=>hQp c a _ _ w) (Or.inl ⟨by rfl,?_⟩) ?_
    ·intro w
     go_simp
    refine wpAny_take (i:=7) (v:=.agg #[.int .i64 (n:Int),.slice ea E.length ec,.slice none 0 0,.slice none 0 0,.slice a4 n4 c4,.slice a5 n5 c5,.slice a6 n6 c6,.slice a7 n7 c7]) rfl (by kernel_rfl) (by kernel_rfl) (by kernel_rfl) (fun c a w=>hQp c a _ _ w) (Or.inl ⟨by rfl,?_⟩) ?_
    ·intro w
     go_simp
    refine wpAny_take (i:=8) (v:=.int .i64 err) rfl (by kernel_rfl) (by kernel_rfl) (by kernel_rfl) (fun c a w=>hQp c a _ _ w) (Or.inl ⟨by rfl,?_⟩) ?_
    ·intro w
     go_simp
    refine wpAny_all (rs:=[10]) (by kernel_rfl) (by simp) ?_
    intro i hi
    simp only [List.mem_singleton] at hi
    subst hi
    have r0:=cell_of_row _ B9 0 _ _ _ hG
    have s0_:=frozen_of_row _ B9 0 _ _ hG
    have r1:=cell_of_row _ B9 1 _ _ _ hG
    have s1_:=frozen_of_row _ B9 1 _ _ hG
    have r2:=cell_of_row _ B9 2 _ _ _ hG
    have s2_:=frozen_of_row _ B9 2 _ _ hG
    have r3:=cell_of_row _ B9 3 _ _ _ hG
    have s3_:=frozen_of_row _ B9 3 _ _ hG
    have r4:=cell_of_row _ B9 4 _ _ _ hG
    have s4_:=frozen_of_row _ B9 4 _ _ hG
    have r5:=cell_of_row _ B9 5 _ _ _ hG
    have s5_:=frozen_of_row _ B9 5 _ _ hG
    have r6:=cell_of_row _ B9 6 _ _ _ hG
    have s6_:=frozen_of_row _ B9 6 _ _ hG
    have r7:=cell_of_row _ B9 7 _ _ _ hG
    have s7_:=frozen_of_row _ B9 7 _ _ hG
    refine wpOp_one (o:=ogS4) (by rfl) rfl ?_
    unfold ogS4
    unfold Oper.wp
    go_simp
    clear r0 s0_ r1 s1_ r2 s2_ r3 s3_ r4 s4_ r5 s5_ r6 s6_ r7 s7_
    refine wpAny_take (i:=11) (v:=.int .i64 err) rfl (by kernel_rfl) (by kernel_rfl) (by kernel_rfl) (fun c a w=>hQp c a _ _ w) (Or.inl ⟨by rfl,?_⟩) ?_
    ·intro w
     go_simp
    refine wpAny_done (by kernel_rfl) ?_ _
    have k1:=below_set8 hB B9 (.int .i64 (n:Int)) (.slice ea E.length ec) (.slice none 0 0) (.slice none 0 0) (.slice a4 n4 c4) (.slice a5 n5 c5) (.slice a6 n6 c6) (.slice a7 n7 c7) hBL
    have k2:=set8_at _ B9 38 _ _ _ _ _ _ _ _ (.int .i64 (n:Int)) (.slice ea E.length ec) (.slice none 0 0) (.slice none 0 0) (.slice a4 n4 c4) (.slice a5 n5 c5) (.slice a6 n6 c6) (.slice a7 n7 c7) hG
    have k3:=own_fr HVE.out (set8_fr _ B9 (.int .i64 (n:Int)) (.slice ea E.length ec) (.slice none 0 0) (.slice none 0 0) (.slice a4 n4 c4) (.slice a5 n5 c5) (.slice a6 n6 c6) (.slice a7 n7 c7)) (fun g q r=>own_typ HVE.out hG (by decide) (by rw [q,r]))
    clear hG hB hb5
    generalize World.setCell (World.setCell (World.setCell (World.setCell (World.setCell (World.setCell (World.setCell (World.setCell _ _ _) _ _) _ _) _ _) _ _) _ _) _ _) _ _=WF at k1 k2 k3 ⊢
    exact hQ _ _ _ _ _ _ _ _ _ _ B9 n _ _ _ _ _ E WF k1 hBL k2 k3 ⟨⟨_,_,_,rfl⟩,⟨_,_,_,rfl⟩,⟨_,_,_,rfl⟩,⟨_,_,_,rfl⟩⟩ HNN.out
  ·have hB9:=hB.alloc hB.size (Obj.cells #[.int .i64 0,.slice none 0 0,.slice none 0 0,.slice none 0 0,.slice none 0 0,.slice none 0 0,.slice none 0 0,.slice none 0 0] 38 (0,0))
   have hG:=heap_alloc_new W (Obj.cells #[.int .i64 0,.slice none 0 0,.slice none 0 0,.slice none 0 0,.slice none 0 0,.slice none 0 0,.slice none 0 0,.slice none 0 0] 38 (0,0))
   obtain ⟨B9,hB9e⟩:∃ q,q=W.heap.size:=⟨_,rfl⟩
   have hBL:w.heap.size≤B9:=by rw [hB9e]; exact hB.size
   clear hB
   have hB:=hB9
   clear hB9
   refine wpOp_one (o:=ogS3) (by rfl) rfl ?_
   unfold ogS3
   unfold Oper.wp
   go_simp
   rw [← hB9e]
   rw [← hB9e] at hG
   clear hB9e
   refine wpAny_all (rs:=[0]) (by kernel_rfl) (by simp) ?_
   intro i hi
   simp only [List.mem_singleton] at hi
   subst hi
   have c0:=cell_next hp0 hB
   have c1:=cell_next hp1 hB
   refine wpOp_one (o:=ogS0) (by rfl) rfl ?_
   unfold ogS0
   unfold Oper.wp
   go_simp
   clear c0 c1
   refine wpAny_all (rs:=[5]) (by kernel_rfl) (by simp) ?_
   intro i hi
   simp only [List.mem_singleton] at hi
   subst hi
   refine wpOp_one (o:=ogS2) (by rfl) rfl ?_
   unfold ogS2
   unfold Oper.wp
   go_simp
   refine (HC.out _ hB).mono ?_
   rintro e5 W5 ⟨⟨n,ve,p4,p5,p6,p7,E,err,rfl,hve,s4,s5,s6,s7,hn1,hn2,hn3⟩,hb5⟩
   dsimp only
   obtain ⟨ea,ec,rfl⟩:=own_len hve
   obtain ⟨⟨a4,n4,c4,rfl⟩,⟨a5,n5,c5,rfl⟩,⟨a6,n6,c6,rfl⟩,⟨a7,n7,c7,rfl⟩⟩:Sl p4∧Sl p5∧Sl p6∧Sl p7:=⟨s4,s5,s6,s7⟩
   have HVE:=Lib.hid hve
   have HNN:=Lib.hid (And.intro hn1 (And.intro hn2 hn3))
   clear hve hn1 hn2 hn3
   have hG9:=(hb5.block _ (blk_lt hG)).trans hG
   clear hG
   have hG:=hG9
   clear hG9
   have hB5:=below_next hB hb5
   clear hB
   have hB:=hB5
   clear hB5
   refine wpAny_take (i:=6) (v:=.tuple #[.agg #[.int .i64 (n:Int),.slice ea E.length ec,.slice none 0 0,.slice none 0 0,.slice a4 n4 c4,.slice a5 n5 c5,.slice a6 n6 c6,.slice a7 n7 c7],.int .i64 err]) rfl (by kernel_rfl) (by kernel_rfl) (by kernel_rfl) (fun c a w=>hQp c a _ _ w) (Or.inl ⟨by rfl,?_⟩) ?_
   ·intro w
    go_simp
   refine wpAny_take (i:=7) (v:=.agg #[.int .i64 (n:Int),.slice ea E.length ec,.slice none 0 0,.slice none 0 0,.slice a4 n4 c4,.slice a5 n5 c5,.slice a6 n6 c6,.slice a7 n7 c7]) rfl (by kernel_rfl) (by kernel_rfl) (by kernel_rfl) (fun c a w=>hQp c a _ _ w) (Or.inl ⟨by rfl,?_⟩) ?_
   ·intro w
    go_simp
   refine wpAny_take (i:=8) (v:=.int .i64 err) rfl (by kernel_rfl) (by kernel_rfl) (by kernel_rfl) (fun c a w=>hQp c a _ _ w) (Or.inl ⟨by rfl,?_⟩) ?_
   ·intro w
    go_simp
   refine wpAny_all (rs:=[10]) (by kernel_rfl) (by simp) ?_
   intro i hi
   simp only [List.mem_singleton] at hi
   subst hi
   have r0:=cell_of_row _ B9 0 _ _ _ hG
   have s0_:=frozen_of_row _ B9 0 _ _ hG
   have r1:=cell_of_row _ B9 1 _ _ _ hG
   have s1_:=frozen_of_row _ B9 1 _ _ hG
   have r2:=cell_of_row _ B9 2 _ _ _ hG
   have s2_:=frozen_of_row _ B9 2 _ _ hG
   have r3:=cell_of_row _ B9 3 _ _ _ hG
   have s3_:=frozen_of_row _ B9 3 _ _ hG
   have r4:=cell_of_row _ B9 4 _ _ _ hG
   have s4_:=frozen_of_row _ B9 4 _ _ hG
   have r5:=cell_of_row _ B9 5 _ _ _ hG
   have s5_:=frozen_of_row _ B9 5 _ _ hG
   have r6:=cell_of_row _ B9 6 _ _ _ hG
   have s6_:=frozen_of_row _ B9 6 _ _ hG
   have r7:=cell_of_row _ B9 7 _ _ _ hG
   have s7_:=frozen_of_row _ B9 7 _ _ hG
   refine wpOp_one (o:=ogS4) (by rfl) rfl ?_
   unfold ogS4
   unfold Oper.wp
   go_simp
   clear r0 s0_ r1 s1_ r2 s2_ r3 s3_ r4 s4_ r5 s5_ r6 s6_ r7 s7_
   refine wpAny_take (i:=11) (v:=.int .i64 err) rfl (by kernel_rfl) (by kernel_rfl) (by kernel_rfl) (fun c a w=>hQp c a _ _ w) (Or.inl ⟨by rfl,?_⟩) ?_
   ·intro w
    go_simp
   refine wpAny_done (by kernel_rfl) ?_ _
   have k1:=below_set8 hB B9 (.int .i64 (n:Int)) (.slice ea E.length ec) (.slice none 0 0) (.slice none 0 0) (.slice a4 n4 c4) (.slice a5 n5 c5) (.slice a6 n6 c6) (.slice a7 n7 c7) hBL
   have k2:=set8_at _ B9 38 _ _ _ _ _ _ _ _ (.int .i64 (n:Int)) (.slice ea E.length ec) (.slice none 0 0) (.slice none 0 0) (.slice a4 n4 c4) (.slice a5 n5 c5) (.slice a6 n6 c6) (.slice a7 n7 c7) hG
   have k3:=own_fr HVE.out (set8_fr _ B9 (.int .i64 (n:Int)) (.slice ea E.length ec) (.slice none 0 0) (.slice none 0 0) (.slice a4 n4 c4) (.slice a5 n5 c5) (.slice a6 n6 c6) (.slice a7 n7 c7)) (fun g q r=>own_typ HVE.out hG (by decide) (by rw [q,r]))
   clear hG hB hb5
   generalize World.setCell (World.setCell (World.setCell (World.setCell (World.setCell (World.setCell (World.setCell (World.setCell _ _ _) _ _) _ _) _ _) _ _) _ _) _ _) _ _=WF at k1 k2 k3 ⊢
   exact hQ _ _ _ _ _ _ _ _ _ _ B9 n _ _ _ _ _ E WF k1 hBL k2 k3 ⟨⟨_,_,_,rfl⟩,⟨_,_,_,rfl⟩,⟨_,_,_,rfl⟩,⟨_,_,_,rfl⟩⟩ HNN.out
 ·have hB9:=hB.alloc hB.size (Obj.cells #[.int .i64 0,.slice none 0 0,.slice none 0 0,.slice none 0 0,.slice none 0 0,.slice none 0 0,.slice none 0 0,.slice none 0 0] 38 (0,0))
  have hG:=heap_alloc_new W (Obj.cells #[.int .i64 0,.slice none 0 0,.slice none 0 0,.slice none 0 0,.slice none 0 0,.slice none 0 0,.slice none 0 0,.slice none 0 0] 38 (0,0))
  obtain ⟨B9,hB9e⟩:∃ q,q=W.heap.size:=⟨_,rfl⟩
  have hBL:w.heap.size≤B9:=by rw [hB9e]; exact hB.size
  clear hB
  have hB:=hB9
  clear hB9
  refine wpOp_one (o:=ogS3) (by rfl) rfl ?_
  unfold ogS3
  unfold Oper.wp
  go_simp
  rw [← hB9e]
  rw [← hB9e] at hG
  clear hB9e
  refine wpAny_all (rs:=[0,4]) (by kernel_rfl) (by simp) ?_
  intro i hi
  simp only [List.mem_cons,List.not_mem_nil,or_false] at hi
  rcases hi with rfl | rfl
  ·have c0:=cell_next hp0 hB
   have c1:=cell_next hp1 hB
   refine wpOp_one (o:=ogS0) (by rfl) rfl ?_
   unfold ogS0
   unfold Oper.wp
   go_simp
   clear c0 c1
   refine wpAny_all (rs:=[4]) (by kernel_rfl) (by simp) ?_
   intro i hi
   simp only [List.mem_singleton] at hi
   subst hi
   have c0:=cell_next h1 hB
   refine wpOp_one (o:=ogS1) (by rfl) rfl ?_
   unfold ogS1
   unfold Oper.wp
   go_simp
   clear c0
   refine wpAny_all (rs:=[5]) (by kernel_rfl) (by simp) ?_
   intro i hi
   simp only [List.mem_singleton] at hi
   subst hi
   refine wpOp_one (o:=ogS2) (by rfl) rfl ?_
   unfold ogS2
   unfold Oper.wp
   go_simp
   refine (HC.out _ hB).mono ?_
   rintro e5 W5 ⟨⟨n,ve,p4,p5,p6,p7,E,err,rfl,hve,s4,s5,s6,s7,hn1,hn2,hn3⟩,hb5⟩
   dsimp only
   obtain ⟨ea,ec,rfl⟩:=own_len hve
   obtain ⟨⟨a4,n4,c4,rfl⟩,⟨a5,n5,c5,rfl⟩,⟨a6,n6,c6,rfl⟩,⟨a7,n7,c7,rfl⟩⟩:Sl p4∧Sl p5∧Sl p6∧Sl p7:=⟨s4,s5,s6,s7⟩
   have HVE:=Lib.hid hve
   have HNN:=Lib.hid (And.intro hn1 (And.intro hn2 hn3))
   clear hve hn1 hn2 hn3
   have hG9:=(hb5.block _ (blk_lt hG)).trans hG
   clear hG
   have hG:=hG9
   clear hG9
   have hB5:=below_next hB hb5
   clear hB
   have hB:=hB5
   clear hB5
   refine wpAny_take (i:=6) (v:=.tuple #[.agg #[.int .i64 (n:Int),.slice ea E.length ec,.slice none 0 0,.slice none 0 0,.slice a4 n4 c4,.slice a5 n5 c5,.slice a6 n6 c6,.slice a7 n7 c7],.int .i64 err]) rfl (by kernel_rfl) (by kernel_rfl) (by kernel_rfl) (fun c a w=>hQp c a _ _ w) (Or.inl ⟨by rfl,?_⟩) ?_
   ·intro w
    go_simp
   refine wpAny_take (i:=7) (v:=.agg #[.int .i64 (n:Int),.slice ea E.length ec,.slice none 0 0,.slice none 0 0,.slice a4 n4 c4,.slice a5 n5 c5,.slice a6 n6 c6,.slice a7 n7 c7]) rfl (by kernel_rfl) (by kernel_rfl) (by kernel_rfl) (fun c a w=>hQp c a _ _ w) (Or.inl ⟨by rfl,?_⟩) ?_
   ·intro w
    go_simp
   refine wpAny_take (i:=8) (v:=.int .i64 err) rfl (by kernel_rfl) (by kernel_rfl) (by kernel_rfl) (fun c a w=>hQp c a _ _ w) (Or.inl ⟨by rfl,?_⟩) ?_
   ·intro w
    go_simp
   refine wpAny_all (rs:=[10]) (by kernel_rfl) (by simp) ?_
   intro i hi
   simp only [List.mem_singleton] at hi
   subst hi
   have r0:=cell_of_row _ B9 0 _ _ _ hG
   have s0_:=frozen_of_row _ B9 0 _ _ hG
   have r1:=cell_of_row _ B9 1 _ _ _ hG
   have s1_:=frozen_of_row _ B9 1 _ _ hG
   have r2:=cell_of_row _ B9 2 _ _ _ hG
   have s2_:=frozen_of_row _ B9 2 _ _ hG
   have r3:=cell_of_row _ B9 3 _ _ _ hG
   have s3_:=frozen_of_row _ B9 3 _ _ hG
   have r4:=cell_of_row _ B9 4 _ _ _ hG
   have s4_:=frozen_of_row _ B9 4 _ _ hG
   have r5:=cell_of_row _ B9 5 _ _ _ hG
   have s5_:=frozen_of_row _ B9 5 _ _ hG
   have r6:=cell_of_row _ B9 6 _ _ _ hG
   have s6_:=frozen_of_row _ B9 6 _ _ hG
   have r7:=cell_of_row _ B9 7 _ _ _ hG
   have s7_:=frozen_of_row _ B9 7 _ _ hG
   refine wpOp_one (o:=ogS4) (by rfl) rfl ?_
   unfold ogS4
   unfold Oper.wp
   go_simp
   clear r0 s0_ r1 s1_ r2 s2_ r3 s3_ r4 s4_ r5 s5_ r6 s6_ r7 s7_
   refine wpAny_take (i:=11) (v:=.int .i64 err) rfl (by kernel_rfl) (by kernel_rfl) (by kernel_rfl) (fun c a w=>hQp c a _ _ w) (Or.inl ⟨by rfl,?_⟩) ?_
   ·intro w
    go_simp
   refine wpAny_done (by kernel_rfl) ?_ _
   have k1:=below_set8 hB B9 (.int .i64 (n:Int)) (.slice ea E.length ec) (.slice none 0 0) (.slice none 0 0) (.slice a4 n4 c4) (.slice a5 n5 c5) (.slice a6 n6 c6) (.slice a7 n7 c7) hBL
   have k2:=set8_at _ B9 38 _ _ _ _ _ _ _ _ (.int .i64 (n:Int)) (.slice ea E.length ec) (.slice none 0 0) (.slice none 0 0) (.slice a4 n4 c4) (.slice a5 n5 c5) (.slice a6 n6 c6) (.slice a7 n7 c7) hG
   have k3:=own_fr HVE.out (set8_fr _ B9 (.int .i64 (n:Int)) (.slice ea E.length ec) (.slice none 0 0) (.slice none 0 0) (.slice a4 n4 c4) (.slice a5 n5 c5) (.slice a6 n6 c6) (.slice a7 n7 c7)) (fun g q r=>own_typ HVE.out hG (by decide) (by rw [q,r]))
   clear hG hB hb5
   generalize World.setCell (World.setCell (World.setCell (World.setCell (World.setCell (World.setCell (World.setCell (World.setCell _ _ _) _ _) _ _) _ _) _ _) _ _) _ _) _ _=WF at k1 k2 k3 ⊢
   exact hQ _ _ _ _ _ _ _ _ _ _ B9 n _ _ _ _ _ E WF k1 hBL k2 k3 ⟨⟨_,_,_,rfl⟩,⟨_,_,_,rfl⟩,⟨_,_,_,rfl⟩,⟨_,_,_,rfl⟩⟩ HNN.out
  ·have c0:=cell_next h1 hB
   refine wpOp_one (o:=ogS1) (by rfl) rfl ?_
   unfold ogS1
   unfold Oper.wp
   go_simp
   clear c0
   refine wpAny_all (rs:=[0]) (by kernel_rfl) (by simp) ?_
   intro i hi
   simp only [List.mem_singleton] at hi
   subst hi
   have c0:=cell_next hp0 hB
   have c1:=cell_next hp1 hB
   refine wpOp_one (o:=ogS0) (by rfl) rfl ?_
   unfold ogS0
   unfold Oper.wp
   go_simp
   clear c0 c1
   refine wpAny_all (rs:=[5]) (by kernel_rfl) (by simp) ?_
   intro i hi
   simp only [List.mem_singleton] at hi
   subst hi
   refine wpOp_one (o:=ogS2) (by rfl) rfl ?_
   unfold ogS2
   unfold Oper.wp
   go_simp
   refine (HC.out _ hB).mono ?_
   rintro e5 W5 ⟨⟨n,ve,p4,p5,p6,p7,E,err,rfl,hve,s4,s5,s6,s7,hn1,hn2,hn3⟩,hb5⟩
   dsimp only
   obtain ⟨ea,ec,rfl⟩:=own_len hve
   obtain ⟨⟨a4,n4,c4,rfl⟩,⟨a5,n5,c5,rfl⟩,⟨a6,n6,c6,rfl⟩,⟨a7,n7,c7,rfl⟩⟩:Sl p4∧Sl p5∧Sl p6∧Sl p7:=⟨s4,s5,s6,s7⟩
   have HVE:=Lib.hid hve
   have HNN:=Lib.hid (And.intro hn1 (And.intro hn2 hn3))
   clear hve hn1 hn2 hn3
   have hG9:=(hb5.block _ (blk_lt hG)).trans hG
   clear hG
   have hG:=hG9
   clear hG9
   have hB5:=below_next hB hb5
   clear hB
   have hB:=hB5
   clear hB5
   refine wpAny_take (i:=6) (v:=.tuple #[.agg #[.int .i64 (n:Int),.slice ea E.length ec,.slice none 0 0,.slice none 0 0,.slice a4 n4 c4,.slice a5 n5 c5,.slice a6 n6 c6,.slice a7 n7 c7],.int .i64 err]) rfl (by kernel_rfl) (by kernel_rfl) (by kernel_rfl) (fun c a w=>hQp c a _ _ w) (Or.inl ⟨by rfl,?_⟩) ?_
   ·intro w
    go_simp
   refine wpAny_take (i:=7) (v:=.agg #[.int .i64 (n:Int),.slice ea E.length ec,.slice none 0 0,.slice none 0 0,.slice a4 n4 c4,.slice a5 n5 c5,.slice a6 n6 c6,.slice a7 n7 c7]) rfl (by kernel_rfl) (by kernel_rfl) (by kernel_rfl) (fun c a w=>hQp c a _ _ w) (Or.inl ⟨by rfl,?_⟩) ?_
   ·intro w
    go_simp
   refine wpAny_take (i:=8) (v:=.int .i64 err) rfl (by kernel_rfl) (by kernel_rfl) (by kernel_rfl) (fun c a w=>hQp c a _ _ w) (Or.inl ⟨by rfl,?_⟩) ?_
   ·intro w
    go_simp
   refine wpAny_all (rs:=[10]) (by kernel_rfl) (by simp) ?_
   intro i hi
   simp only [List.mem_singleton] at hi
   subst hi
   have r0:=cell_of_row _ B9 0 _ _ _ hG
   have s0_:=frozen_of_row _ B9 0 _ _ hG
   have r1:=cell_of_row _ B9 1 _ _ _ hG
   have s1_:=frozen_of_row _ B9 1 _ _ hG
   have r2:=cell_of_row _ B9 2 _ _ _ hG
   have s2_:=frozen_of_row _ B9 2 _ _ hG
   have r3:=cell_of_row _ B9 3 _ _ _ hG
   have s3_:=frozen_of_row _ B9 3 _ _ hG
   have r4:=cell_of_row _ B9 4 _ _ _ hG
   have s4_:=frozen_of_row _ B9 4 _ _ hG
   have r5:=cell_of_row _ B9 5 _ _ _ hG
   have s5_:=frozen_of_row _ B9 5 _ _ hG
   have r6:=cell_of_row _ B9 6 _ _ _ hG
   have s6_:=frozen_of_row _ B9 6 _ _ hG
   have r7:=cell_of_row _ B9 7 _ _ _ hG
   have s7_:=frozen_of_row _ B9 7 _ _ hG
   refine wpOp_one (o:=ogS4) (by rfl) rfl ?_
   unfold ogS4
   unfold Oper.wp
   go_simp
   clear r0 s0_ r1 s1_ r2 s2_ r3 s3_ r4 s4_ r5 s5_ r6 s6_ r7 s7_
   refine wpAny_take (i:=11) (v:=.int .i64 err) rfl (by kernel_rfl) (by kernel_rfl) (by kernel_rfl) (fun c a w=>hQp c a _ _ w) (Or.inl ⟨by rfl,?_⟩) ?_
   ·intro w
    go_simp
   refine wpAny_done (by kernel_rfl) ?_ _
   have k1:=below_set8 hB B9 (.int .i64 (n:Int)) (.slice ea E.length ec) (.slice none 0 0) (.slice none 0 0) (.slice a4 n4 c4) (.slice a5 n5 c5) (.slice a6 n6 c6) (.slice a7 n7 c7) hBL
   have k2:=set8_at _ B9 38 _ _ _ _ _ _ _ _ (.int .i64 (n:Int)) (.slice ea E.length ec) (.slice none 0 0) (.slice none 0 0) (.slice a4 n4 c4) (.slice a5 n5 c5) (.slice a6 n6 c6) (.slice a7 n7 c7) hG
   have k3:=own_fr HVE.out (set8_fr _ B9 (.int .i64 (n:Int)) (.slice ea E.length ec) (.slice none 0 0) (.slice none 0 0) (.slice a4 n4 c4) (.slice a5 n5 c5) (.slice a6 n6 c6) (.slice a7 n7 c7)) (fun g q r=>own_typ HVE.out hG (by decide) (by rw [q,r]))
   clear hG hB hb5
   generalize World.setCell (World.setCell (World.setCell (World.setCell (World.setCell (World.setCell (World.setCell (World.setCell _ _ _) _ _) _ _) _ _) _ _) _ _) _ _) _ _=WF at k1 k2 k3 ⊢
   exact hQ _ _ _ _ _ _ _ _ _ _ B9 n _ _ _ _ _ E WF k1 hBL k2 k3 ⟨⟨_,_,_,rfl⟩,⟨_,_,_,rfl⟩,⟨_,_,_,rfl⟩,⟨_,_,_,rfl⟩⟩ HNN.out
end Go.Proofs.Yteghpophcnehgaa
