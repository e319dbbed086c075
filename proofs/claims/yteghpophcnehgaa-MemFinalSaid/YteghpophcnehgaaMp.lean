/-
  What the functions that the law reaches do, one by one: contracts. Conditions: those that each of them prints.
-/
import Derived.Test.YteghpophcnehgaaMo
import Derived.WalkKit
namespace Go.Proofs.Yteghpophcnehgaa
open Go.RowKit ExprA SndA
namespace SndA
def EvBack (w0:WK) (w':World) (s gb:Nat) (vr:Value) (E:List Ev) (e:Ev) (rm:List (Int × Int)) (used:Int) (rg:List Int) (sh:Bool) (im:Nat→Value) (li:Nat→List Int) (pi:Nat→List (Int × Int)) (D:List Int) (e1:Ending):Prop:=
 ∃ ve' im' pi',e1=.returned (.int .i64 (E.length:Int))∧RS w0 w' s gb ve' vr (E ++ [e]) rm used rg sh im' li pi'∧PairsOk (pi 2) D (E.length:Int) (pi' 2)∧PairsOk (pi 3) (li 16) (E.length:Int) (pi' 3)∧PairsOk (pi 4) (li 17) (E.length:Int) (pi' 4)∧∀ k,7≤k→im' k=im k
end SndA
set_option maxRecDepth 20000 in
set_option maxHeartbeats 8000000 in
theorem event_any {w0:WK} {s gb:Nat} {ve vr:Value} {E:List Ev} {rm:List (Int × Int)} {used:Int} {rg:List Int} {sh:Bool} {im:Nat→Value} {li:Nat→List Int} {pi:Nat→List (Int × Int)} (e:Ev) (w:World) (h:RS w0 w s gb ve vr E rm used rg sh im li pi) (hE:E.length≤1000) (h2:(pi 2).length + (li 20).length≤1000) (h3:(pi 3).length + (li 16).length≤1000) (h4:(pi 4).length + (li 17).length≤1000) :
  Calls Try.prog 54 #[.pointer (some ⟨s,0,none⟩),.agg #[.int .i64 e.th,.int .i64 e.kd,.int .i64 e.md,.int .i64 e.lc,.int .i64 e.vl,.bool e.ex],im 20] w fun e1 w'=>EvBack w0 w' s gb vr E e rm used rg sh im li pi (li 20) e1∧Below w0.heap.size w0.toWorld w':=by
 have HS:=Lib.hid h
 obtain ⟨pa,pc,hve⟩:=own_len h.oe
 have c0:w.cell? ⟨s,0,none⟩=some (.slice pa E.length pc):=by rw [← hve]; simp only [World.cell?,h.box]; rfl
 have hEi:(E.length:Int)≤1000:=by omega
 have hsl:s < w.heap.size:=h.lts
 clear h hve
 go_enter Try.func54,Try.ntmps54
 go_wp2_with fail
 have hb0:Below w.heap.size w (w.alloc (Obj.cells e.cs.toArray 49 (0,0))):=(Below.refl _ _).alloc (Nat.le_refl _) _
 refine evreg_l (w.alloc (Obj.cells e.cs.toArray 49 (0,0))) w.heap.size e (HS.out.next hb0) hE (heap_alloc_new _ _) _ _ _ _ _ _ _ _ _ _ _ _ _ _ _ _ _ _ _ _ _ _ _ _ _ _ _ _ _ _ _ _ _ _ _ _ _ _ _ _ _ _ _ _ _ _ _ _ _ _ _ _ _ _ _ _ _ _ _ _ _ _ _ _ _ _ _  _ (fun _ _ _ _ _ h=>h) ?_
 intro y14 y15 y16 y17 y18 y19 y20 y21 y22 y23 y24 y25 ve' W' hS1
 have HS1:=Lib.hid hS1
 have k2:W'.cell? ⟨s,2,none⟩=some (im 2):=by simp only [World.cell?,hS1.box]; rfl
 clear hS1 c0
 go_wp2_with fail
 refine (pairs_any (im 2) (im 20) (pi 2) (li 20) (E.length:Int) _ (HS1.out.cp 2 (by omega) (by omega)) (HS1.out.cl 20 (by omega) (by omega)) h2).mono ?_
 rintro e1 w2 ⟨⟨v2,M2,rfl,hv,hp2,hn⟩,hb⟩
 have hS2:=HS1.out.next hb
 have ha:Apart w2 s gb ve' vr v2:=by
  rcases hn with q | q
  ·rw [q]; exact fun b r=>hS2.apt 2 (.inl ⟨by omega,by omega⟩) b r
  ·exact apart_new hv q HS1.out.lts HS1.out.ltg (fun b r=>(HS1.out.oe.lt b r).2) (fun b r=>(HS1.out.op.lt b r).2)
 have HS3:=Lib.hid (hS2.set2 v2 M2 hv ha (HS1.out.newAt 2 (by omega) (by omega) hn))
 have HP2:=Lib.hid hp2
 have f1:w2.cell? ⟨s,2,none⟩=some (im 2):=by simp only [World.cell?,hS2.box]; rfl
 have f2:w2.frozen? ⟨s,2,none⟩=false:=by simp only [World.frozen?,hS2.box]; rfl
 obtain ⟨pa2,pc2,e2⟩:=own_len hv
 subst e2
 clear hv hp2 hn hb hS2 ha k2
 go_wp2_with fail
 refine depreg4_l _ (E.length:Int) HS3.out (by rw [updF_ne _ _ (by omega)]; exact h3) _ _ _ _ _ _ _ _ _ _ _ _ _ _ _ _ _ _ _ _ _ _ _ _ _ _ _ _ _ _ _ _ _ _ _ _ _ _ _ _ _ _ _ _ _ _ _ _ _ _ _ _ _ _ _ _ _ _ _ _ _ _ _ _ _ _ _  _ (fun _ _ _ _ _ h=>h) ?_
 intro y38 y39 y40 y41 y42 y43 y44 y45 y46 y47 y48 y49 y50 y51 y52 v3 M3 w3 hS4 hp3
 have HS4:=Lib.hid hS4
 have HP3:=Lib.hid hp3
 clear hS4 hp3 f1 f2
 go_wp2_with fail
 refine depreg5_l _ (E.length:Int) HS4.out (by rw [updF_ne _ _ (by omega),updF_ne _ _ (by omega)]; exact h4) _ _ _ _ _ _ _ _ _ _ _ _ _ _ _ _ _ _ _ _ _ _ _ _ _ _ _ _ _ _ _ _ _ _ _ _ _ _ _ _ _ _ _ _ _ _ _ _ _ _ _ _ _ _ _ _ _ _ _ _ _ _ _ _ _ _ _  _ (fun _ _ _ _ _ h=>h) ?_
 intro y53 y54 y55 y56 y57 y58 y59 y60 y61 y62 y63 y64 y65 y66 y67 v4 M4 w4 hS5 hp4
 have HS5:=Lib.hid hS5
 have HP4:=Lib.hid hp4
 clear hS5 hp4
 go_wp2_with fail
 go_ret
 refine ⟨⟨ve',_,_,rfl,HS5.out,?_,?_,?_,fun k hk=>by rw [updF_ne _ _ (by omega),updF_ne _ _ (by omega),updF_ne _ _ (by omega)]⟩,HS5.out.bel⟩
 ·have:=HP2.out; simpa [updF] using this
 ·have:=HP3.out; simpa [updF] using this
 ·have:=HP4.out; simpa [updF] using this
end Go.Proofs.Yteghpophcnehgaa
namespace Go.Proofs.Yteghpophcnehgaa
open Go.RowKit ExprA SndA
def ofM0:Oper:={ dst:=some 58,op:=Op.load 22 (Operand.tmp 57),type:=22,pos := "ref.go:96", after:=#[{ on:=3,ground:=Ground.data }],guard:=none }
def ofM1:Oper:={ dst:=some 64,op:=Op.buildSlice 22 1 #[(0,Operand.tmp 63)],type:=22,pos := "ref.go:96", after:=#[{ on:=9,ground:=Ground.data }],guard:=none }
def ofM2:Oper:={ dst:=some 65,op:=Op.indexAddr 22 (Operand.tmp 58) (Operand.tmp 59),type:=0,pos := "ref.go:96", after:=#[{ on:=4,ground:=Ground.data },{ on:=5,ground:=Ground.data },{ on:=0,ground:=Ground.phase },{ on:=1,ground:=Ground.phase },{ on:=2,ground:=Ground.phase },{ on:=3,ground:=Ground.phase },{ on:=4,ground:=Ground.phase },{ on:=5,ground:=Ground.phase },{ on:=6,ground:=Ground.textOnly Departure.lateStores },{ on:=7,ground:=Ground.textOnly Departure.lateStores },{ on:=8,ground:=Ground.phase },{ on:=9,ground:=Ground.textOnly Departure.lateStores },{ on:=10,ground:=Ground.textOnly Departure.lateStoresUnsure }],guard:=none }
def ofM3:Oper:={ dst:=none,op:=Op.store 3 (Operand.tmp 65) (Operand.tmp 62),type:=0,pos := "ref.go:96", after:=#[{ on:=11,ground:=Ground.data },{ on:=8,ground:=Ground.data },{ on:=0,ground:=Ground.phase },{ on:=1,ground:=Ground.phase },{ on:=2,ground:=Ground.phase },{ on:=3,ground:=Ground.phase },{ on:=4,ground:=Ground.phase },{ on:=5,ground:=Ground.phase },{ on:=6,ground:=Ground.textOnly Departure.lateStores },{ on:=7,ground:=Ground.textOnly Departure.lateStores },{ on:=8,ground:=Ground.phase },{ on:=9,ground:=Ground.textOnly Departure.lateStores },{ on:=10,ground:=Ground.textOnly Departure.lateStoresUnsure }],guard:=none }
def ofM4:Oper:={ dst:=some 68,op:=Op.indexAddr 96 (Operand.tmp 67) (Operand.tmp 61),type:=0,pos := "ref.go:96", after:=#[{ on:=14,ground:=Ground.data },{ on:=7,ground:=Ground.data },{ on:=0,ground:=Ground.phase },{ on:=1,ground:=Ground.phase },{ on:=2,ground:=Ground.phase },{ on:=3,ground:=Ground.phase },{ on:=4,ground:=Ground.phase },{ on:=5,ground:=Ground.phase },{ on:=6,ground:=Ground.phase },{ on:=7,ground:=Ground.phase },{ on:=8,ground:=Ground.phase },{ on:=9,ground:=Ground.phase },{ on:=10,ground:=Ground.phase },{ on:=11,ground:=Ground.phase },{ on:=12,ground:=Ground.phase }],guard:=none }
def ofM5:Oper:={ dst:=none,op:=Op.store 22 (Operand.tmp 68) (Operand.tmp 64),type:=0,pos := "ref.go:96", after:=#[{ on:=15,ground:=Ground.data },{ on:=10,ground:=Ground.data },{ on:=12,ground:=Ground.chain },{ on:=0,ground:=Ground.phase },{ on:=1,ground:=Ground.phase },{ on:=2,ground:=Ground.phase },{ on:=3,ground:=Ground.phase },{ on:=4,ground:=Ground.phase },{ on:=5,ground:=Ground.phase },{ on:=6,ground:=Ground.phase },{ on:=7,ground:=Ground.phase },{ on:=8,ground:=Ground.phase },{ on:=9,ground:=Ground.phase },{ on:=10,ground:=Ground.phase },{ on:=11,ground:=Ground.phase },{ on:=12,ground:=Ground.phase }],guard:=none }
def rfM0:Array Oper:=#[{ dst:=some 54,op:=Op.move (Operand.tmp 0),type:=94,pos := "ref.go:96", after:=#[],guard:=none },{ dst:=some 55,op:=Op.nilCheck (Operand.tmp 54),type:=0,pos := "ref.go:96", after:=#[{ on:=0,ground:=Ground.data }],guard:=none },{ dst:=some 56,op:=Op.fieldAddr 98 (Operand.tmp 55) 0,type:=0,pos := "ref.go:96", after:=#[{ on:=1,ground:=Ground.data }],guard:=none },{ dst:=some 57,op:=Op.fieldAddr 76 (Operand.tmp 56) 6,type:=0,pos := "ref.go:96", after:=#[{ on:=2,ground:=Ground.data }],guard:=none },{ dst:=some 58,op:=Op.load 22 (Operand.tmp 57),type:=22,pos := "ref.go:96", after:=#[{ on:=3,ground:=Ground.data }],guard:=none },{ dst:=some 59,op:=Op.move (Operand.tmp 4),type:=3,pos := "ref.go:96", after:=#[],guard:=none },{ dst:=some 60,op:=Op.move (Operand.tmp 0),type:=94,pos := "ref.go:96", after:=#[{ on:=12,ground:=Ground.gcOnly Departure.lateStores }],guard:=none },{ dst:=some 61,op:=Op.move (Operand.tmp 4),type:=3,pos := "ref.go:96", after:=#[{ on:=12,ground:=Ground.gcOnly Departure.lateStores }],guard:=none },{ dst:=some 62,op:=Op.move (Operand.tmp 11),type:=3,pos := "ref.go:96", after:=#[],guard:=none },{ dst:=some 63,op:=Op.move (Operand.tmp 12),type:=3,pos := "ref.go:96", after:=#[],guard:=none },{ dst:=some 64,op:=Op.buildSlice 22 1 #[(0,Operand.tmp 63)],type:=22,pos := "ref.go:96", after:=#[{ on:=9,ground:=Ground.data }],guard:=none },{ dst:=some 65,op:=Op.indexAddr 22 (Operand.tmp 58) (Operand.tmp 59),type:=0,pos := "ref.go:96", after:=#[{ on:=4,ground:=Ground.data },{ on:=5,ground:=Ground.data },{ on:=0,ground:=Ground.phase },{ on:=1,ground:=Ground.phase },{ on:=2,ground:=Ground.phase },{ on:=3,ground:=Ground.phase },{ on:=4,ground:=Ground.phase },{ on:=5,ground:=Ground.phase },{ on:=6,ground:=Ground.textOnly Departure.lateStores },{ on:=7,ground:=Ground.textOnly Departure.lateStores },{ on:=8,ground:=Ground.phase },{ on:=9,ground:=Ground.textOnly Departure.lateStores },{ on:=10,ground:=Ground.textOnly Departure.lateStoresUnsure }],guard:=none },{ dst:=none,op:=Op.store 3 (Operand.tmp 65) (Operand.tmp 62),type:=0,pos := "ref.go:96", after:=#[{ on:=11,ground:=Ground.data },{ on:=8,ground:=Ground.data },{ on:=0,ground:=Ground.phase },{ on:=1,ground:=Ground.phase },{ on:=2,ground:=Ground.phase },{ on:=3,ground:=Ground.phase },{ on:=4,ground:=Ground.phase },{ on:=5,ground:=Ground.phase },{ on:=6,ground:=Ground.textOnly Departure.lateStores },{ on:=7,ground:=Ground.textOnly Departure.lateStores },{ on:=8,ground:=Ground.phase },{ on:=9,ground:=Ground.textOnly Departure.lateStores },{ on:=10,ground:=Ground.textOnly Departure.lateStoresUnsure }],guard:=none },{ dst:=some 66,op:=Op.nilCheck (Operand.tmp 60),type:=0,pos := "ref.go:96", after:=#[{ on:=6,ground:=Ground.data }],guard:=none },{ dst:=some 67,op:=Op.fieldAddr 98 (Operand.tmp 66) 2,type:=0,pos := "ref.go:96", after:=#[{ on:=13,ground:=Ground.data }],guard:=none },{ dst:=some 68,op:=Op.indexAddr 96 (Operand.tmp 67) (Operand.tmp 61),type:=0,pos := "ref.go:96", after:=#[{ on:=14,ground:=Ground.data },{ on:=7,ground:=Ground.data },{ on:=0,ground:=Ground.phase },{ on:=1,ground:=Ground.phase },{ on:=2,ground:=Ground.phase },{ on:=3,ground:=Ground.phase },{ on:=4,ground:=Ground.phase },{ on:=5,ground:=Ground.phase },{ on:=6,ground:=Ground.phase },{ on:=7,ground:=Ground.phase },{ on:=8,ground:=Ground.phase },{ on:=9,ground:=Ground.phase },{ on:=10,ground:=Ground.phase },{ on:=11,ground:=Ground.phase },{ on:=12,ground:=Ground.phase }],guard:=none },{ dst:=none,op:=Op.store 22 (Operand.tmp 68) (Operand.tmp 64),type:=0,pos := "ref.go:96", after:=#[{ on:=15,ground:=Ground.data },{ on:=10,ground:=Ground.data },{ on:=12,ground:=Ground.chain },{ on:=0,ground:=Ground.phase },{ on:=1,ground:=Ground.phase },{ on:=2,ground:=Ground.phase },{ on:=3,ground:=Ground.phase },{ on:=4,ground:=Ground.phase },{ on:=5,ground:=Ground.phase },{ on:=6,ground:=Ground.phase },{ on:=7,ground:=Ground.phase },{ on:=8,ground:=Ground.phase },{ on:=9,ground:=Ground.phase },{ on:=10,ground:=Ground.phase },{ on:=11,ground:=Ground.phase },{ on:=12,ground:=Ground.phase }],guard:=none }]
set_option maxRecDepth 20000 in
set_option maxHeartbeats 8000000 in
theorem rdreg_l {w0:WK} {s gb:Nat} {ve vr:Value} {E:List Ev} {rm:List (Int × Int)} {used:Int} {rg:List Int} {sh:Bool} {im:Nat→Value} {li:Nat→List Int} {pi:Nat→List (Int × Int)} (w:World) (r:Nat) (v n:Int) (hr:r < 8) (h:RS w0 w s gb ve vr E rm used rg sh im li pi)
  (z1 z2 z3 z5 z6 z7 z8 z9 z10 z13 z14 z15 z16 z17 z18 z19 z20 z21 z22 z23 z24 z25 z26 z27 z28 z29 z30 z31 z32 z33 z34 z35 z36 z37 z38 z39 z40 z41 z42 z43 z44 z45 z46 z47 z48 z49 z50 z51 z52 z53 z54 z55 z56 z57 z58 z59 z60 z61 z62 z63 z64 z65 z66 z67 z68:Value) (Q:Exit→Act→World→Prop)
  (hQp:∀ c (a:Act) (d:Tmp) v w,Q (.panic c) (a.put (some d) v) w→Q (.panic c) a w)
  (hQ:∀ (y54 y55 y56 y57 y58 y59 y60 y61 y62 y63 y64 y65 y66 y67 y68:Value) (im':Nat→Value) (W':World),RS w0 W' s gb ve vr E rm used (rg.set r v) sh im' (updF (updF li 18 [n]) (8 + r) [n]) pi→(∀ k,19≤k→im' k=im k)→Q .normal { tmps:=(.pointer (some ⟨s,0,none⟩)::z1::z2::z3::.int .i64 (r:Int)::z5::z6::z7::z8::z9::z10::.int .i64 v::.int .i64 n::z13::z14::z15::z16::z17::z18::z19::z20::z21::z22::z23::z24::z25::z26::z27::z28::z29::z30::z31::z32::z33::z34::z35::z36::z37::z38::z39::z40::z41::z42::z43::z44::z45::z46::z47::z48::z49::z50::z51::z52::z53::y54::y55::y56::y57::y58::y59::y60::y61::y62::y63::y64::y65::y66::y67::y68::[]).toArray,defers:=[] } W') :
  Code.wp Try.prog (Code.region 7 rfM0 true) Q { tmps:=(.pointer (some ⟨s,0,none⟩)::z1::z2::z3::.int .i64 (r:Int)::z5::z6::z7::z8::z9::z10::.int .i64 v::.int .i64 n::z13::z14::z15::z16::z17::z18::z19::z20::z21::z22::z23::z24::z25::z26::z27::z28::z29::z30::z31::z32::z33::z34::z35::z36::z37::z38::z39::z40::z41::z42::z43::z44::z45::z46::z47::z48::z49::z50::z51::z52::z53::z54::z55::z56::z57::z58::z59::z60::z61::z62::z63::z64::z65::z66::z67::z68::[]).toArray,defers:=[] } w:=by
 unfold rfM0
 have hri:(r:Int) < 8:=by omega
 refine wp_region_any (by kernel_rfl) ?_
 have hB:=h.next (Below.refl _ _).drew
 change wpAny _ _ _ _ _ _ _ (World.drew _)
 generalize World.drew w=W0 at hB ⊢
 clear h
 refine wpAny_take (i:=0) (v:=.pointer (some ⟨s,0,none⟩)) rfl (by kernel_rfl) (by kernel_rfl) (by kernel_rfl) (fun c a w=>hQp c a _ _ w) (Or.inl ⟨by rfl,?_⟩) ?_
 ·intro w
  go_simp
 refine wpAny_take (i:=1) (v:=.pointer (some ⟨s,0,none⟩)) rfl (by kernel_rfl) (by kernel_rfl) (by kernel_rfl) (fun c a w=>hQp c a _ _ w) (Or.inl ⟨by rfl,?_⟩) ?_
 ·intro w
  go_simp
 refine wpAny_take (i:=2) (v:=.pointer (some ⟨s,0,none⟩)) rfl (by kernel_rfl) (by kernel_rfl) (by kernel_rfl) (fun c a w=>hQp c a _ _ w) (Or.inl ⟨by rfl,?_⟩) ?_
 ·intro w
  go_simp
 refine wpAny_take (i:=3) (v:=.pointer (some ⟨s,6,none⟩)) rfl (by kernel_rfl) (by kernel_rfl) (by kernel_rfl) (fun c a w=>hQp c a _ _ w) (Or.inl ⟨by rfl,?_⟩) ?_
 ·intro w
  go_simp
 refine wpAny_take (i:=5) (v:=.int .i64 (r:Int)) rfl (by kernel_rfl) (by kernel_rfl) (by kernel_rfl) (fun c a w=>hQp c a _ _ w) (Or.inl ⟨by rfl,?_⟩) ?_
 ·intro w
  go_simp
 refine wpAny_take (i:=6) (v:=.pointer (some ⟨s,0,none⟩)) rfl (by kernel_rfl) (by kernel_rfl) (by kernel_rfl) (fun c a w=>hQp c a _ _ w) (Or.inl ⟨by rfl,?_⟩) ?_
 ·intro w
  go_simp
 refine wpAny_take (i:=7) (v:=.int .i64 (r:Int)) rfl (by kernel_rfl) (by kernel_rfl) (by kernel_rfl) (fun c a w=>hQp c a _ _ w) (Or.inl ⟨by rfl,?_⟩) ?_
 ·intro w
  go_simp
 refine wpAny_take (i:=8) (v:=.int .i64 v) rfl (by kernel_rfl) (by kernel_rfl) (by kernel_rfl) (fun c a w=>hQp c a _ _ w) (Or.inl ⟨by rfl,?_⟩) ?_
 ·intro w
  go_simp
 refine wpAny_take (i:=9) (v:=.int .i64 n) rfl (by kernel_rfl) (by kernel_rfl) (by kernel_rfl) (fun c a w=>hQp c a _ _ w) (Or.inl ⟨by rfl,?_⟩) ?_
 ·intro w
  go_simp
 refine wpAny_take (i:=13) (v:=.pointer (some ⟨s,0,none⟩)) rfl (by kernel_rfl) (by kernel_rfl) (by kernel_rfl) (fun c a w=>hQp c a _ _ w) (Or.inl ⟨by rfl,?_⟩) ?_
 ·intro w
  go_simp
 refine wpAny_take (i:=14) (v:=.pointer (some ⟨s,8,none⟩)) rfl (by kernel_rfl) (by kernel_rfl) (by kernel_rfl) (fun c a w=>hQp c a _ _ w) (Or.inl ⟨by rfl,?_⟩) ?_
 ·intro w
  go_simp
 show wpAny _ _ _ _ 6 _ _ _
 refine wpAny_all (rs:=[4,10]) (by kernel_rfl) (by simp) ?_
 intro i hi
 simp only [List.mem_cons,List.not_mem_nil,or_false] at hi
 rcases hi with rfl | rfl
 ·have c6:W0.cell? ⟨s,6,none⟩=some (.slice (some ⟨gb,0,none⟩) 8 8):=by simp only [World.cell?,hB.box]; rfl
  refine wpOp_one (o:=ofM0) (by rfl) rfl ?_
  unfold ofM0
  unfold Oper.wp
  go_simp
  clear c6
  refine wpAny_all (rs:=[10,11]) (by kernel_rfl) (by simp) ?_
  intro i hi
  simp only [List.mem_cons,List.not_mem_nil,or_false] at hi
  rcases hi with rfl | rfl
  ·have hN:=hB.one n 18 (by omega) (by omega)
   clear hB
   have hB:=hN
   clear hN
   refine wpOp_one (o:=ofM1) (by rfl) rfl ?_
   unfold ofM1
   unfold Oper.wp
   go_simp
   obtain ⟨xb,hxb⟩:∃ x,x=W0.heap.size:=⟨_,rfl⟩
   rw [← hxb] at hB ⊢
   clear hxb
   obtain ⟨W1,hV⟩:∃ x,x=W0.alloc (.cells #[.int .i64 n] 3 (0,0)):=⟨_,rfl⟩
   rw [← hV] at hB ⊢
   clear hV
   refine wpAny_all (rs:=[11]) (by kernel_rfl) (by simp) ?_
   intro i hi
   simp only [List.mem_singleton] at hi
   subst hi
   refine wpOp_one (o:=ofM2) (by rfl) rfl ?_
   unfold ofM2
   unfold Oper.wp
   go_simp
   refine wpAny_all (rs:=[12]) (by kernel_rfl) (by simp) ?_
   intro i hi
   simp only [List.mem_singleton] at hi
   subst hi
   obtain ⟨c8,d8⟩:=hB.regAt r hr
   have hN:=hB.setR r v
   clear hB
   have hB:=hN
   clear hN
   refine wpOp_one (o:=ofM3) (by rfl) rfl ?_
   unfold ofM3
   unfold Oper.wp
   go_simp
   clear c8 d8
   obtain ⟨W2,hV⟩:∃ x,x=W1.setCell ⟨gb,r,none⟩ (.int .i64 v):=⟨_,rfl⟩
   rw [← hV] at hB ⊢
   clear hV
   refine wpAny_all (rs:=[15]) (by kernel_rfl) (by simp) ?_
   intro i hi
   simp only [List.mem_singleton] at hi
   subst hi
   refine wpOp_one (o:=ofM4) (by rfl) rfl ?_
   unfold ofM4
   unfold Oper.wp
   go_simp
   refine wpAny_all (rs:=[16]) (by kernel_rfl) (by simp) ?_
   intro i hi
   simp only [List.mem_singleton] at hi
   subst hi
   have c9:=hB.fromAt r hr
   have d9:=hB.frozF (8 + r)
   have hv:=hB.cl 18 (by omega) (by omega)
   have ha:Apart W2 s gb ve vr _:=hB.apt 18 (.inr ⟨by omega,by omega⟩)
   have hN:=hB.setF r hr _ _ hv ha
   clear hB
   have hB:=hN
   clear hN
   simp only [updF_at] at hB
   clear hv ha
   refine wpOp_one (o:=ofM5) (by rfl) rfl ?_
   unfold ofM5
   unfold Oper.wp
   go_simp
   clear c9 d9
   refine wpAny_done (by kernel_rfl) ?_ _
   exact hQ _ _ _ _ _ _ _ _ _ _ _ _ _ _ _ _ _ hB (fun k hk=>by rw [updF_ne _ _ (by omega),updF_ne _ _ (by omega)])
  ·refine wpOp_one (o:=ofM2) (by rfl) rfl ?_
   unfold ofM2
   unfold Oper.wp
   go_simp
   refine wpAny_all (rs:=[10,12]) (by kernel_rfl) (by simp) ?_
   intro i hi
   simp only [List.mem_cons,List.not_mem_nil,or_false] at hi
   rcases hi with rfl | rfl
   ·have hN:=hB.one n 18 (by omega) (by omega)
    clear hB
    have hB:=hN
    clear hN
    refine wpOp_one (o:=ofM1) (by rfl) rfl ?_
    unfold ofM1
    unfold Oper.wp
    go_simp
    obtain ⟨xb,hxb⟩:∃ x,x=W0.heap.size:=⟨_,rfl⟩
    rw [← hxb] at hB ⊢
    clear hxb
    obtain ⟨W1,hV⟩:∃ x,x=W0.alloc (.cells #[.int .i64 n] 3 (0,0)):=⟨_,rfl⟩
    rw [← hV] at hB ⊢
    clear hV
    refine wpAny_all (rs:=[12]) (by kernel_rfl) (by simp) ?_
    intro i hi
    simp only [List.mem_singleton] at hi
    subst hi
    obtain ⟨c8,d8⟩:=hB.regAt r hr
    have hN:=hB.setR r v
    clear hB
    have hB:=hN
    clear hN
    refine wpOp_one (o:=ofM3) (by rfl) rfl ?_
    unfold ofM3
    unfold Oper.wp
    go_simp
    clear c8 d8
    obtain ⟨W2,hV⟩:∃ x,x=W1.setCell ⟨gb,r,none⟩ (.int .i64 v):=⟨_,rfl⟩
    rw [← hV] at hB ⊢
    clear hV
    refine wpAny_all (rs:=[15]) (by kernel_rfl) (by simp) ?_
    intro i hi
    simp only [List.mem_singleton] at hi
    subst hi
    refine wpOp_one (o:=ofM4) (by rfl) rfl ?_
    unfold ofM4
    unfold Oper.wp
    go_simp
    refine wpAny_all (rs:=[16]) (by kernel_rfl) (by simp) ?_
    intro i hi
    simp only [List.mem_singleton] at hi
    subst hi
    have c9:=hB.fromAt r hr
    have d9:=hB.frozF (8 + r)
    have hv:=hB.cl 18 (by omega) (by omega)
    have ha:Apart W2 s gb ve vr _:=hB.apt 18 (.inr ⟨by omega,by omega⟩)
    have hN:=hB.setF r hr _ _ hv ha
    clear hB
    have hB:=hN
    clear hN
    simp only [updF_at] at hB
    clear hv ha
    refine wpOp_one (o:=ofM5) (by rfl) rfl ?_
    unfold ofM5
    unfold Oper.wp
    go_simp
    clear c9 d9
    refine wpAny_done (by kernel_rfl) ?_ _
    exact hQ _ _ _ _ _ _ _ _ _ _ _ _ _ _ _ _ _ hB (fun k hk=>by rw [updF_ne _ _ (by omega),updF_ne _ _ (by omega)])
   ·obtain ⟨c8,d8⟩:=hB.regAt r hr
    have hN:=hB.setR r v
    clear hB
    have hB:=hN
    clear hN
    refine wpOp_one (o:=ofM3) (by rfl) rfl ?_
    unfold ofM3
    unfold Oper.wp
    go_simp
    clear c8 d8
    obtain ⟨W1,hV⟩:∃ x,x=W0.setCell ⟨gb,r,none⟩ (.int .i64 v):=⟨_,rfl⟩
    rw [← hV] at hB ⊢
    clear hV
    refine wpAny_all (rs:=[10]) (by kernel_rfl) (by simp) ?_
    intro i hi
    simp only [List.mem_singleton] at hi
    subst hi
    have hN:=hB.one n 18 (by omega) (by omega)
    clear hB
    have hB:=hN
    clear hN
    refine wpOp_one (o:=ofM1) (by rfl) rfl ?_
    unfold ofM1
    unfold Oper.wp
    go_simp
    obtain ⟨xb,hxb⟩:∃ x,x=W1.heap.size:=⟨_,rfl⟩
    rw [← hxb] at hB ⊢
    clear hxb
    obtain ⟨W2,hV⟩:∃ x,x=W1.alloc (.cells #[.int .i64 n] 3 (0,0)):=⟨_,rfl⟩
    rw [← hV] at hB ⊢
    clear hV
    refine wpAny_all (rs:=[15]) (by kernel_rfl) (by simp) ?_
    intro i hi
    simp only [List.mem_singleton] at hi
    subst hi
    refine wpOp_one (o:=ofM4) (by rfl) rfl ?_
    unfold ofM4
    unfold Oper.wp
    go_simp
    refine wpAny_all (rs:=[16]) (by kernel_rfl) (by simp) ?_
    intro i hi
    simp only [List.mem_singleton] at hi
    subst hi
    have c9:=hB.fromAt r hr
    have d9:=hB.frozF (8 + r)
    have hv:=hB.cl 18 (by omega) (by omega)
    have ha:Apart W2 s gb ve vr _:=hB.apt 18 (.inr ⟨by omega,by omega⟩)
    have hN:=hB.setF r hr _ _ hv ha
    clear hB
    have hB:=hN
    clear hN
    simp only [updF_at] at hB
    clear hv ha
    refine wpOp_one (o:=ofM5) (by rfl) rfl ?_
    unfold ofM5
    unfold Oper.wp
    go_simp
    clear c9 d9
    refine wpAny_done (by kernel_rfl) ?_ _
    exact hQ _ _ _ _ _ _ _ _ _ _ _ _ _ _ _ _ _ hB (fun k hk=>by rw [updF_ne _ _ (by omega),updF_ne _ _ (by omega)])
 ·have hN:=hB.one n 18 (by omega) (by omega)
  clear hB
  have hB:=hN
  clear hN
  refine wpOp_one (o:=ofM1) (by rfl) rfl ?_
  unfold ofM1
  unfold Oper.wp
  go_simp
  obtain ⟨xb,hxb⟩:∃ x,x=W0.heap.size:=⟨_,rfl⟩
  rw [← hxb] at hB ⊢
  clear hxb
  obtain ⟨W1,hV⟩:∃ x,x=W0.alloc (.cells #[.int .i64 n] 3 (0,0)):=⟨_,rfl⟩
  rw [← hV] at hB ⊢
  clear hV
  refine wpAny_all (rs:=[4]) (by kernel_rfl) (by simp) ?_
  intro i hi
  simp only [List.mem_singleton] at hi
  subst hi
  have c6:W1.cell? ⟨s,6,none⟩=some (.slice (some ⟨gb,0,none⟩) 8 8):=by simp only [World.cell?,hB.box]; rfl
  refine wpOp_one (o:=ofM0) (by rfl) rfl ?_
  unfold ofM0
  unfold Oper.wp
  go_simp
  clear c6
  refine wpAny_all (rs:=[11]) (by kernel_rfl) (by simp) ?_
  intro i hi
  simp only [List.mem_singleton] at hi
  subst hi
  refine wpOp_one (o:=ofM2) (by rfl) rfl ?_
  unfold ofM2
  unfold Oper.wp
  go_simp
  refine wpAny_all (rs:=[12]) (by kernel_rfl) (by simp) ?_
  intro i hi
  simp only [List.mem_singleton] at hi
  subst hi
  obtain ⟨c8,d8⟩:=hB.regAt r hr
  have hN:=hB.setR r v
  clear hB
  have hB:=hN
  clear hN
  refine wpOp_one (o:=ofM3) (by rfl) rfl ?_
  unfold ofM3
  unfold Oper.wp
  go_simp
  clear c8 d8
  obtain ⟨W2,hV⟩:∃ x,x=W1.setCell ⟨gb,r,none⟩ (.int .i64 v):=⟨_,rfl⟩
  rw [← hV] at hB ⊢
  clear hV
  refine wpAny_all (rs:=[15]) (by kernel_rfl) (by simp) ?_
  intro i hi
  simp only [List.mem_singleton] at hi
  subst hi
  refine wpOp_one (o:=ofM4) (by rfl) rfl ?_
  unfold ofM4
  unfold Oper.wp
  go_simp
  refine wpAny_all (rs:=[16]) (by kernel_rfl) (by simp) ?_
  intro i hi
  simp only [List.mem_singleton] at hi
  subst hi
  have c9:=hB.fromAt r hr
  have d9:=hB.frozF (8 + r)
  have hv:=hB.cl 18 (by omega) (by omega)
  have ha:Apart W2 s gb ve vr _:=hB.apt 18 (.inr ⟨by omega,by omega⟩)
  have hN:=hB.setF r hr _ _ hv ha
  clear hB
  have hB:=hN
  clear hN
  simp only [updF_at] at hB
  clear hv ha
  refine wpOp_one (o:=ofM5) (by rfl) rfl ?_
  unfold ofM5
  unfold Oper.wp
  go_simp
  clear c9 d9
  refine wpAny_done (by kernel_rfl) ?_ _
  exact hQ _ _ _ _ _ _ _ _ _ _ _ _ _ _ _ _ _ hB (fun k hk=>by rw [updF_ne _ _ (by omega),updF_ne _ _ (by omega)])
end Go.Proofs.Yteghpophcnehgaa
