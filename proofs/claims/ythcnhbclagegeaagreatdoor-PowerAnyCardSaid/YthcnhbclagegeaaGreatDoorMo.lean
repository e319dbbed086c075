/-
  What the functions that the law reaches do, one by one: contracts. Conditions: those that each of them prints.
-/
import Derived.Test.YthcnhbclagegeaaGreatDoorMl
import Derived.BigRegion
import Derived.Deep.QuietTactic
import Derived.BigQuiet
set_option maxRecDepth 20000
set_option maxHeartbeats 20000000
namespace Go.Proofs.YthcnhbclagegeaaGreatDoor
open Go.RowKit RelA
section
theorem Zrm {W:World} {B bx by_ m n:Nat} {x0 x3 u v:Int} {Q:Exit->Act->World->Prop} {z0 z1 z2 z4 z9 z10 z11 z12 z13 z14 z15 z16 z17 z18 z19 z20 z21 z22 z23 z24 z25 z26 z27 z28 z29 z30 z31 z32 z33 z34 z35 z36 z37 z38 z39 z40 z41 z42 z43 z44 z45 z46 z47 z48 z49 z50 z51 z52 z53 z54 z55 z56 z57 z58 z59 z60 z61 z62 z63 z64 z65 z66 z67 z68 z69 z70 z71 z72 z73 z74 z75 z76 z77 z78 z79 z80 z81 z82 z83 z84 z85 z86 z87 z88 z89 z90 z91 z92 z93 z94 z95 z96 z97 z98 z99 z100 z101 z102 z103 z104 z105 z106 z107 z108 z109 z110 z111 z112 z113 z114 z115 z116 z117 z118 z119 z120 z121 z122 z123:Value} (hm40:(m:Int)<40) (hn40:(n:Int)<40) (hne:¬ n=m) (u1:0<=u) (v1:0<=v) (hu9:u<1000) (hv9:v<1000)
  (qa:W.cell? ⟨B,m,none⟩=some (.int .i64 u)) (qb:W.cell? ⟨B,n,none⟩=some (.int .i64 v)) (qfa:W.frozen? ⟨B,m,none⟩=false) (qfb:W.frozen? ⟨B,n,none⟩=false)
  (e0:W.cell? ⟨bx,0,none⟩=some (.int .i64 x0)) (e1:W.cell? ⟨bx,1,none⟩=some (.int .i64 1)) (e3:W.cell? ⟨bx,3,none⟩=some (.int .i64 x3)) (e5:W.cell? ⟨bx,5,none⟩=some (.bool true))
  (f0:W.cell? ⟨by_,0,none⟩=some (.int .i64 x0)) (f1:W.cell? ⟨by_,1,none⟩=some (.int .i64 2)) (f3:W.cell? ⟨by_,3,none⟩=some (.int .i64 x3)) (f5:W.cell? ⟨by_,5,none⟩=some (.bool true))
  (hK:∀ W':World,Hid (W'=(W.setCell ⟨B,m,none⟩ (.int .i64 (u+1))).setCell ⟨B,n,none⟩ (.int .i64 (v+1)))->∀ y55 y56 y57 y58 y59 y60 y61 y62 y63 y64 y65 y66 y67 y68 y69 y70 y71 y72 y73 y74 y75 y76 y77 y78 y79 y80 y81 y82 y83 y84 y85 y86 y87 y88 y89 y90 y91 y92 y93 y94 y95 y96:Value,Q .normal { tmps:=(z0::z1::z2::.pointer (some ⟨B,0,none⟩)::z4::.int .i64 (m:Nat)::.int .i64 (n:Nat)::.pointer (some ⟨bx,0,none⟩)::.pointer (some ⟨by_,0,none⟩)::z9::z10::z11::z12::z13::z14::z15::z16::z17::z18::z19::z20::z21::z22::z23::z24::z25::z26::z27::z28::z29::z30::z31::z32::z33::z34::z35::z36::z37::z38::z39::z40::z41::z42::z43::z44::z45::z46::z47::z48::z49::z50::z51::z52::z53::z54::y55::y56::y57::y58::y59::y60::y61::y62::y63::y64::y65::y66::y67::y68::y69::y70::y71::y72::y73::y74::y75::y76::y77::y78::y79::y80::y81::y82::y83::y84::y85::y86::y87::y88::y89::y90::y91::y92::y93::y94::y95::y96::z97::z98::z99::z100::z101::z102::z103::z104::z105::z106::z107::z108::z109::z110::z111::z112::z113::z114::z115::z116::z117::z118::z119::z120::z121::z122::z123::[]).toArray,defers:=[] } W') :
  Code.wp Tryz.prog ((((Code.region 9 #[{ dst:=some 55,op:=Op.fieldAddr 53 (Operand.tmp 7) 0,type:=0,pos := "ref.go:84", after:=#[],guard:=none },{ dst:=some 56,op:=Op.load 3 (Operand.tmp 55),type:=3,pos := "ref.go:84", after:=#[{ on:=0,ground:=Ground.data }],guard:=none },{ dst:=some 57,op:=Op.fieldAddr 53 (Operand.tmp 8) 0,type:=0,pos := "ref.go:84", after:=#[],guard:=none },{ dst:=some 58,op:=Op.load 3 (Operand.tmp 57),type:=3,pos := "ref.go:84", after:=#[{ on:=2,ground:=Ground.data }],guard:=none },{ dst:=some 59,op:=Op.binOp BinOp.neq 3 (Operand.tmp 56) (Operand.tmp 58) 3,type:=4,pos := "ref.go:84", after:=#[{ on:=1,ground:=Ground.data },{ on:=3,ground:=Ground.data }],guard:=none },{ dst:=some 60,op:=Op.move (Operand.tmp 59),type:=4,pos := "ref.go:84", after:=#[{ on:=4,ground:=Ground.data }],guard:=none },{ dst:=some 61,op:=Op.fieldAddr 53 (Operand.tmp 7) 1,type:=0,pos := "ref.go:84", after:=#[{ on:=5,ground:=Ground.guard }],guard:=some (5,false) },{ dst:=some 62,op:=Op.load 3 (Operand.tmp 61),type:=3,pos := "ref.go:84", after:=#[{ on:=6,ground:=Ground.data },{ on:=5,ground:=Ground.guard }],guard:=some (5,false) },{ dst:=some 63,op:=Op.binOp BinOp.neq 3 (Operand.tmp 62) (Operand.const (Value.int IntKind.i64 1)) 3,type:=4,pos := "ref.go:84", after:=#[{ on:=7,ground:=Ground.data },{ on:=5,ground:=Ground.guard }],guard:=some (5,false) },{ dst:=some 64,op:=Op.pick (Operand.tmp 60) (Operand.const (Value.bool true)) (Operand.tmp 63),type:=4,pos := "ref.go:84", after:=#[{ on:=5,ground:=Ground.data },{ on:=8,ground:=Ground.data }],guard:=none },{ dst:=some 65,op:=Op.move (Operand.tmp 64),type:=4,pos := "ref.go:84", after:=#[{ on:=9,ground:=Ground.data },{ on:=5,ground:=Ground.chain }],guard:=none },{ dst:=some 66,op:=Op.fieldAddr 53 (Operand.tmp 8) 1,type:=0,pos := "ref.go:84", after:=#[{ on:=10,ground:=Ground.guard }],guard:=some (10,false) },{ dst:=some 67,op:=Op.load 3 (Operand.tmp 66),type:=3,pos := "ref.go:84", after:=#[{ on:=11,ground:=Ground.data },{ on:=10,ground:=Ground.guard }],guard:=some (10,false) },{ dst:=some 68,op:=Op.binOp BinOp.neq 3 (Operand.tmp 67) (Operand.const (Value.int IntKind.i64 2)) 3,type:=4,pos := "ref.go:84", after:=#[{ on:=12,ground:=Ground.data },{ on:=10,ground:=Ground.guard }],guard:=some (10,false) },{ dst:=some 69,op:=Op.pick (Operand.tmp 65) (Operand.const (Value.bool true)) (Operand.tmp 68),type:=4,pos := "ref.go:84", after:=#[{ on:=10,ground:=Ground.data },{ on:=13,ground:=Ground.data }],guard:=none },{ dst:=some 70,op:=Op.move (Operand.tmp 69),type:=4,pos := "ref.go:84", after:=#[{ on:=14,ground:=Ground.data },{ on:=10,ground:=Ground.chain }],guard:=none },{ dst:=some 71,op:=Op.fieldAddr 53 (Operand.tmp 7) 3,type:=0,pos := "ref.go:84", after:=#[{ on:=15,ground:=Ground.guard }],guard:=some (15,false) },{ dst:=some 72,op:=Op.load 3 (Operand.tmp 71),type:=3,pos := "ref.go:84", after:=#[{ on:=16,ground:=Ground.data },{ on:=15,ground:=Ground.guard }],guard:=some (15,false) },{ dst:=some 73,op:=Op.fieldAddr 53 (Operand.tmp 8) 3,type:=0,pos := "ref.go:84", after:=#[{ on:=15,ground:=Ground.guard }],guard:=some (15,false) },{ dst:=some 74,op:=Op.load 3 (Operand.tmp 73),type:=3,pos := "ref.go:84", after:=#[{ on:=18,ground:=Ground.data },{ on:=15,ground:=Ground.guard }],guard:=some (15,false) },{ dst:=some 75,op:=Op.binOp BinOp.neq 3 (Operand.tmp 72) (Operand.tmp 74) 3,type:=4,pos := "ref.go:84", after:=#[{ on:=17,ground:=Ground.data },{ on:=19,ground:=Ground.data },{ on:=15,ground:=Ground.guard }],guard:=some (15,false) },{ dst:=some 76,op:=Op.pick (Operand.tmp 70) (Operand.const (Value.bool true)) (Operand.tmp 75),type:=4,pos := "ref.go:84", after:=#[{ on:=15,ground:=Ground.data },{ on:=20,ground:=Ground.data }],guard:=none },{ dst:=some 77,op:=Op.move (Operand.tmp 76),type:=4,pos := "ref.go:84", after:=#[{ on:=21,ground:=Ground.data },{ on:=15,ground:=Ground.chain }],guard:=none },{ dst:=some 78,op:=Op.fieldAddr 53 (Operand.tmp 7) 5,type:=0,pos := "ref.go:84", after:=#[{ on:=22,ground:=Ground.guard }],guard:=some (22,false) },{ dst:=some 79,op:=Op.load 4 (Operand.tmp 78),type:=4,pos := "ref.go:84", after:=#[{ on:=23,ground:=Ground.data },{ on:=22,ground:=Ground.guard }],guard:=some (22,false) },{ dst:=some 80,op:=Op.unOp UnOp.not 4 (Operand.tmp 79),type:=4,pos := "ref.go:84", after:=#[{ on:=24,ground:=Ground.data },{ on:=22,ground:=Ground.guard }],guard:=some (22,false) },{ dst:=some 81,op:=Op.pick (Operand.tmp 77) (Operand.const (Value.bool true)) (Operand.tmp 80),type:=4,pos := "ref.go:84", after:=#[{ on:=22,ground:=Ground.data },{ on:=25,ground:=Ground.data }],guard:=none },{ dst:=some 82,op:=Op.move (Operand.tmp 81),type:=4,pos := "ref.go:84", after:=#[{ on:=26,ground:=Ground.data },{ on:=22,ground:=Ground.chain }],guard:=none },{ dst:=some 83,op:=Op.fieldAddr 53 (Operand.tmp 8) 5,type:=0,pos := "ref.go:84", after:=#[{ on:=27,ground:=Ground.guard }],guard:=some (27,false) },{ dst:=some 84,op:=Op.load 4 (Operand.tmp 83),type:=4,pos := "ref.go:84", after:=#[{ on:=28,ground:=Ground.data },{ on:=27,ground:=Ground.guard }],guard:=some (27,false) },{ dst:=some 85,op:=Op.unOp UnOp.not 4 (Operand.tmp 84),type:=4,pos := "ref.go:84", after:=#[{ on:=29,ground:=Ground.data },{ on:=27,ground:=Ground.guard }],guard:=some (27,false) },{ dst:=some 86,op:=Op.pick (Operand.tmp 82) (Operand.const (Value.bool true)) (Operand.tmp 85),type:=4,pos := "ref.go:84", after:=#[{ on:=27,ground:=Ground.data },{ on:=30,ground:=Ground.data }],guard:=none }] false).seq (Code.cond (Operand.tmp 86) ((Code.region 10 #[{ dst:=some 2,op:=Op.assign (Operand.const (Value.bool false)),type:=4,pos := "ref.go:85", after:=#[],guard:=none }] false).seq Code.ret) Code.skip)).seq ((Code.region 11 #[{ dst:=some 87,op:=Op.move (Operand.tmp 5),type:=3,pos := "ref.go:87", after:=#[],guard:=none },{ dst:=some 88,op:=Op.indexAddr 54 (Operand.tmp 3) (Operand.tmp 87),type:=0,pos := "ref.go:87", after:=#[{ on:=0,ground:=Ground.data }],guard:=none },{ dst:=some 89,op:=Op.load 3 (Operand.tmp 88),type:=3,pos := "ref.go:87", after:=#[{ on:=1,ground:=Ground.data }],guard:=none },{ dst:=some 90,op:=Op.binOp BinOp.add 3 (Operand.tmp 89) (Operand.const (Value.int IntKind.i64 1)) 3,type:=3,pos := "ref.go:87", after:=#[{ on:=2,ground:=Ground.data }],guard:=none },{ dst:=some 91,op:=Op.indexAddr 54 (Operand.tmp 3) (Operand.tmp 87),type:=0,pos := "ref.go:87", after:=#[{ on:=0,ground:=Ground.data },{ on:=0,ground:=Ground.phase },{ on:=1,ground:=Ground.phase },{ on:=2,ground:=Ground.phase },{ on:=3,ground:=Ground.phase }],guard:=none },{ dst:=none,op:=Op.store 3 (Operand.tmp 91) (Operand.tmp 90),type:=0,pos := "ref.go:87", after:=#[{ on:=4,ground:=Ground.data },{ on:=3,ground:=Ground.data },{ on:=0,ground:=Ground.phase },{ on:=1,ground:=Ground.phase },{ on:=2,ground:=Ground.phase },{ on:=3,ground:=Ground.phase }],guard:=none }] false).seq (Code.region 12 #[{ dst:=some 92,op:=Op.move (Operand.tmp 6),type:=3,pos := "ref.go:88", after:=#[],guard:=none },{ dst:=some 93,op:=Op.indexAddr 54 (Operand.tmp 3) (Operand.tmp 92),type:=0,pos := "ref.go:88", after:=#[{ on:=0,ground:=Ground.data }],guard:=none },{ dst:=some 94,op:=Op.load 3 (Operand.tmp 93),type:=3,pos := "ref.go:88", after:=#[{ on:=1,ground:=Ground.data }],guard:=none },{ dst:=some 95,op:=Op.binOp BinOp.add 3 (Operand.tmp 94) (Operand.const (Value.int IntKind.i64 1)) 3,type:=3,pos := "ref.go:88", after:=#[{ on:=2,ground:=Ground.data }],guard:=none },{ dst:=some 96,op:=Op.indexAddr 54 (Operand.tmp 3) (Operand.tmp 92),type:=0,pos := "ref.go:88", after:=#[{ on:=0,ground:=Ground.data },{ on:=0,ground:=Ground.phase },{ on:=1,ground:=Ground.phase },{ on:=2,ground:=Ground.phase },{ on:=3,ground:=Ground.phase }],guard:=none },{ dst:=none,op:=Op.store 3 (Operand.tmp 96) (Operand.tmp 95),type:=0,pos := "ref.go:88", after:=#[{ on:=4,ground:=Ground.data },{ on:=3,ground:=Ground.data },{ on:=0,ground:=Ground.phase },{ on:=1,ground:=Ground.phase },{ on:=2,ground:=Ground.phase },{ on:=3,ground:=Ground.phase }],guard:=none }] false)))) Q { tmps:=(z0::z1::z2::.pointer (some ⟨B,0,none⟩)::z4::.int .i64 (m:Nat)::.int .i64 (n:Nat)::.pointer (some ⟨bx,0,none⟩)::.pointer (some ⟨by_,0,none⟩)::z9::z10::z11::z12::z13::z14::z15::z16::z17::z18::z19::z20::z21::z22::z23::z24::z25::z26::z27::z28::z29::z30::z31::z32::z33::z34::z35::z36::z37::z38::z39::z40::z41::z42::z43::z44::z45::z46::z47::z48::z49::z50::z51::z52::z53::z54::z55::z56::z57::z58::z59::z60::z61::z62::z63::z64::z65::z66::z67::z68::z69::z70::z71::z72::z73::z74::z75::z76::z77::z78::z79::z80::z81::z82::z83::z84::z85::z86::z87::z88::z89::z90::z91::z92::z93::z94::z95::z96::z97::z98::z99::z100::z101::z102::z103::z104::z105::z106::z107::z108::z109::z110::z111::z112::z113::z114::z115::z116::z117::z118::z119::z120::z121::z122::z123::[]).toArray,defers:=[] } W:=by
 have p0:(x0 !=x0)=false:=by simp
 have p1:((1:Int)!=1)=false:=by decide
 have p2:((2:Int)!=2)=false:=by decide
 have p3:(x3 !=x3)=false:=by simp
 have HK:=jh hK
 clear hK
 go_wp2_with fail
 exact HK.out _ (jh rfl) _ _ _ _ _ _ _ _ _ _ _ _ _ _ _ _ _ _ _ _ _ _ _ _ _ _ _ _ _ _ _ _ _ _ _ _ _ _ _ _ _ _
theorem Zrn {W:World} {k:Nat} {Q:Exit->Act->World->Prop} {z0 z1 z2 z3 z5 z6 z7 z8 z9 z10 z11 z12 z13 z14 z15 z16 z17 z18 z19 z20 z21 z22 z23 z24 z25 z26 z27 z28 z29 z30 z31 z32 z33 z34 z35 z36 z37 z38 z39 z40 z41 z42 z43 z44 z45 z46 z47 z48 z49 z50 z51 z52 z53 z54 z55 z56 z57 z58 z59 z60 z61 z62 z63 z64 z65 z66 z67 z68 z69 z70 z71 z72 z73 z74 z75 z76 z77 z78 z79 z80 z81 z82 z83 z84 z85 z86 z87 z88 z89 z90 z91 z92 z93 z94 z95 z96 z97 z98 z99 z100 z101 z102 z103 z104 z105 z106 z107 z108 z109 z110 z111 z112 z113 z114 z115 z116 z117 z118 z119 z120 z121 z122 z123:Value} (hk9:(k:Int)<1000)
  (hK:∀ y15 y16:Value,Q .normal { tmps:=(z0::z1::z2::z3::.int .i64 ((k:Int)+1)::z5::z6::z7::z8::z9::z10::z11::z12::z13::z14::y15::y16::z17::z18::z19::z20::z21::z22::z23::z24::z25::z26::z27::z28::z29::z30::z31::z32::z33::z34::z35::z36::z37::z38::z39::z40::z41::z42::z43::z44::z45::z46::z47::z48::z49::z50::z51::z52::z53::z54::z55::z56::z57::z58::z59::z60::z61::z62::z63::z64::z65::z66::z67::z68::z69::z70::z71::z72::z73::z74::z75::z76::z77::z78::z79::z80::z81::z82::z83::z84::z85::z86::z87::z88::z89::z90::z91::z92::z93::z94::z95::z96::z97::z98::z99::z100::z101::z102::z103::z104::z105::z106::z107::z108::z109::z110::z111::z112::z113::z114::z115::z116::z117::z118::z119::z120::z121::z122::z123::[]).toArray,defers:=[] } W) :
  Code.wp Tryz.prog (Code.region 4 #[{ dst:=some 15,op:=Op.move (Operand.tmp 4),type:=3,pos := "ref.go:78", after:=#[],guard:=none },{ dst:=some 16,op:=Op.binOp BinOp.add 3 (Operand.tmp 15) (Operand.const (Value.int IntKind.i64 1)) 3,type:=3,pos := "ref.go:78", after:=#[{ on:=0,ground:=Ground.data }],guard:=none },{ dst:=some 4,op:=Op.assign (Operand.tmp 16),type:=3,pos := "ref.go:78", after:=#[{ on:=1,ground:=Ground.data },{ on:=0,ground:=Ground.phase },{ on:=1,ground:=Ground.phase }],guard:=none }] false) Q { tmps:=(z0::z1::z2::z3::.int .i64 (k:Nat)::z5::z6::z7::z8::z9::z10::z11::z12::z13::z14::z15::z16::z17::z18::z19::z20::z21::z22::z23::z24::z25::z26::z27::z28::z29::z30::z31::z32::z33::z34::z35::z36::z37::z38::z39::z40::z41::z42::z43::z44::z45::z46::z47::z48::z49::z50::z51::z52::z53::z54::z55::z56::z57::z58::z59::z60::z61::z62::z63::z64::z65::z66::z67::z68::z69::z70::z71::z72::z73::z74::z75::z76::z77::z78::z79::z80::z81::z82::z83::z84::z85::z86::z87::z88::z89::z90::z91::z92::z93::z94::z95::z96::z97::z98::z99::z100::z101::z102::z103::z104::z105::z106::z107::z108::z109::z110::z111::z112::z113::z114::z115::z116::z117::z118::z119::z120::z121::z122::z123::[]).toArray,defers:=[] } W:=by
 have HK:=jh hK
 clear hK
 go_wp2_with fail
 exact HK.out _ _
end
section
namespace RelA
theorem Zf0 (w:World) (t:TypeId) (cs cs2:Array Value) (j:Nat):((w.alloc (.cells cs t (0,0))).alloc (.cells cs2 t (0,0))).cell? ⟨w.heap.size,j,none⟩=cs[j]?:=by
 have hb:Below (w.alloc (.cells cs t (0,0))).heap.size (w.alloc (.cells cs t (0,0))) ((w.alloc (.cells cs t (0,0))).alloc (.cells cs2 t (0,0))):=jb
 have h1:=hb.cell (p:=⟨w.heap.size,j,none⟩) (by simp)
 rw[h1,cell_of_row _ _ _ _ _ _ (heap_alloc_new _ _)]
theorem Ze6 (w:World) (t:TypeId) (cs cs2:Array Value) (j:Nat):((w.alloc (.cells cs t (0,0))).alloc (.cells cs2 t (0,0))).cell? ⟨w.heap.size+1,j,none⟩=cs2[j]?:=by
 have e:w.heap.size+1=(w.alloc (.cells cs t (0,0))).heap.size:=by simp
 rw[e,cell_of_row _ _ _ _ _ _ (heap_alloc_new _ _)]
def Zj2 (f:Nat->Int):Array Value:=((List.range 40).map fun i=>Value.int .i64 (f i)).toArray
def NAt (w:World) (c:Nat) (f:Nat->Int):Prop:=w.heap[c]?=some (.cells (Zj2 f) 54 (0,0))
theorem Zti (f:Nat->Int) (i:Nat) (hi:i<40):(Zj2 f)[i]?=some (.int .i64 (f i)):=by
 unfold Zj2;simp[hi]
theorem NAt.ci {w:World} {c:Nat} {f:Nat->Int} (h:NAt w c f) (i:Nat) (hi:i<40):w.cell? ⟨c,i,none⟩=some (.int .i64 (f i)):=by
 rw[cell_of_row w c _ _ _ _ h];exact Zti f i hi
theorem NAt.lt {w:World} {c:Nat} {f:Nat->Int} (h:NAt w c f):c<w.heap.size:=block_lt_of_cell (h.ci 0 (by omega))
theorem NAt.next {w w':World} {c:Nat} {f:Nat->Int} (h:NAt w c f) (hb:Below w.heap.size w w'):NAt w' c f:=by
 unfold NAt;rw[hb.block c h.lt];exact h
theorem NAt.alloc {w:World} {c:Nat} {f:Nat->Int} (h:NAt w c f) (o:Obj):NAt (w.alloc o) c f:=h.next ((Below.refl w.heap.size w).alloc (Nat.le_refl _) o)
theorem NAt.frozen {w:World} {c:Nat} {f:Nat->Int} (h:NAt w c f) (j:Nat):w.frozen? ⟨c,j,none⟩=false:=frozen_of_row w c j _ _ h
def Ydz (f:Nat->Int) (a:Nat) (v:Int):Nat->Int:=fun i=>if i=a then v else f i
theorem Zth (f:Nat->Int) (a:Nat) (v:Int):(Zj2 f).setIfInBounds a (.int .i64 v)=Zj2 (Ydz f a v):=by
 apply Array.ext'
 rw[Array.toList_setIfInBounds]
 unfold Zj2
 apply List.ext_getElem?
 intro k
 rw[List.getElem?_set]
 by_cases e:a=k
 ·subst e
  by_cases hk:a<40
  ·simp[hk,Ydz]
  ·simp[hk]
 ·have e':¬ k=a:=fun x=>e x.symm
  rw[if_neg e]
  by_cases hk:k<40
  ·simp[hk,Ydz,e']
  ·simp[hk]
theorem NAt.set {w:World} {c:Nat} {f:Nat->Int} (h:NAt w c f) (a:Nat) (v:Int):NAt (w.setCell ⟨c,a,none⟩ (.int .i64 v)) c (Ydz f a v):=by
 unfold NAt
 rw[heap_setCell_same w c a (Zj2 f) 54 _ h,Zth f a v]
def Zdn (L:List (Int×Int)):Nat->Nat->Int
 | 0,_=>0
 | k+1,i=>Zdn L k i+(if (L.getD k (0,0)).1=i then 1 else 0)+(if (L.getD k (0,0)).2=i then 1 else 0)
theorem Zms (L:List (Int×Int)) (k i:Nat):0<=Zdn L k i/\Zdn L k i<=2*k:=by
 induction k with
 | zero=>exact⟨Int.le_refl _,Int.le_refl _⟩
 | succ k ih=>
  unfold Zdn
  constructor
  ·split<;>split<;>omega
  ·split<;>split<;>omega
theorem Zo1 (L:List (Int×Int)) (k m n:Nat) (e:L.getD k (0,0)=((m:Int),(n:Int))) (h:n=m+1):Ydz (Ydz (Zdn L k) m (Zdn L k m+1)) n (Zdn L k n+1)=Zdn L (k+1):=by
 funext i
 show _=Zdn L k i+(if (L.getD k (0,0)).1=i then 1 else 0)+(if (L.getD k (0,0)).2=i then 1 else 0)
 rw[e]
 unfold Ydz
 by_cases h1:i=n
 ·subst h1
  rw[if_pos rfl,if_neg (by show ¬ (m:Int)=_;omega),if_pos rfl]
  omega
 ·rw[if_neg h1]
  by_cases h2:i=m
  ·subst h2
   rw[if_pos rfl,if_pos rfl,if_neg (by show ¬ (n:Int)=_;omega)]
   omega
  ·rw[if_neg h2,if_neg (by show ¬ (m:Int)=_;omega),if_neg (by show ¬ (n:Int)=_;omega)]
   omega
def Says (K:Prop) (w:World) (e:Ending) (w':World):Prop:=∃ x,e=.returned (.bool x)/\(x=true->K)/\Below w.heap.size w w'
theorem Says.no {K:Prop} {w w':World} (h:Below w.heap.size w w'):Says K w (.returned (.bool false)) w':=⟨false,rfl,(fun hx=>by cases hx),h⟩
theorem Says.yes {K:Prop} {w w':World} (h:Below w.heap.size w w') (k:K):Says K w (.returned (.bool true)) w':=⟨true,rfl,(fun _=>k),h⟩
def Zd0 (E:List Ev) (p:Int×Int):Prop:=∃ m n:Nat,p=((m:Int),(n:Int))/\n=m+1/\n<E.length/\(Ev.at E m).th=(Ev.at E n).th/\(Ev.at E m).kd=1/\(Ev.at E n).kd=2/\(Ev.at E m).lc=(Ev.at E n).lc/\(Ev.at E m).ex=true/\(Ev.at E n).ex=true
structure RmwsOk (E:List Ev) (L:List (Int×Int)):Prop where
 at_:∀ k,k<L.length->Zd0 E (L.getD k (0,0))
 ex:∀ i,i<E.length->Zdn L L.length i<=1/\((Ev.at E i).ex=(Zdn L L.length i==1))
 up:Zd5 L
end RelA
theorem Zvw {w w1 wr W2:World} {o1 o2:Obj} {m n k:Nat} {u v:Int} {E:List Ev} {Rmw:List (Int×Int)} (hlt:k<Rmw.length)
  (HS1:Hid (w1.heap.size=w.heap.size+1))
  (HBY:Hid (∀ (o o':Obj),Below w1.heap.size w1 ((wr.alloc o).alloc o').drew.drew))
  (HWW:Hid (∀ (o o':Obj),NAt ((((wr.alloc o).alloc o').drew.drew.setCell ⟨w.heap.size+1,m,none⟩ (Value.int IntKind.i64 (u+1))).setCell ⟨w.heap.size+1,n,none⟩ (Value.int IntKind.i64 (v+1))) (w.heap.size+1) (Zdn Rmw (k+1))))
  (HL:∀ (j:Nat),j<k+1->Zd0 E (Rmw.getD j (0,0)))
  (HW2:Hid (W2=(((wr.alloc o1).alloc o2).drew.drew.setCell ⟨w.heap.size+1,m,none⟩ (Value.int IntKind.i64 (u+1))).setCell ⟨w.heap.size+1,n,none⟩ (Value.int IntKind.i64 (v+1)))) :
  Below w1.heap.size w1 W2/\∃ k':Nat,k'<=Rmw.length/\Value.int .i64 ((k:Int)+1)=.int .i64 k'/\NAt W2 (w.heap.size+1) (Zdn Rmw k')/\Hid (∀ j,j<k'->Zd0 E (Rmw.getD j (0,0))):=by
 refine⟨by rw[HW2.out];exact((HBY.out _ _).setCell (Nat.le_of_eq HS1.out) _).setCell (Nat.le_of_eq HS1.out) _,k+1,by omega,by go_num,by rw[HW2.out];exact HWW.out _ _,jh HL⟩
theorem Ye8 (g:Gr) (w:World) (hes:EsIn w g.ea g.E) (he:g.E.length<=40) (h:PIn w g.ma g.Rmw g.mc) (hl:g.Rmw.length<=400) :
  Calls Tryz.prog 19 #[g.v] w (Says (RmwsOk g.E g.Rmw) w):=by
 have HR:=jh (fun w' (hb:Below w.heap.size w w')=>Zlp g.ma g.Rmw g.mc w' (h.next hb) hl)
 have HG0:=jh (GBox.of_alloc w g 27)
 obtain⟨G,hG⟩:∃ G,G=g:=⟨_,rfl⟩
 obtain⟨locs,ea,E,ec,ra,R,rc,ca,C,cc,ma,Rmw,mc,da,Data,dc,ta,Ctrl,tc,ia,CtrlI,ic⟩:=g
 simp only[Gr.v,Zaw] at hes he h hl HR HG0 ⊢
 rw[<- hG] at HG0
 have HI:=jh h
 have HES:=jh hes
 clear h hes
 go_enter Tryz.func19,Tryz.ntmps19
 go_wp2_with fail
 obtain⟨w1,hw1⟩:∃ x,x=w.alloc (Obj.cells #[.int .i64 locs,.slice ea E.length ec,.slice ra R.length rc,.slice ca C.length cc,.slice ma Rmw.length mc,.slice da Data.length dc,.slice ta Ctrl.length tc,.slice ia CtrlI.length ic] 27 (0,0)):=⟨_,rfl⟩
 rw[<- hw1] at HG0 ⊢
 have hs1:w1.heap.size=w.heap.size+1:=by rw[hw1];simp
 have HB1:Hid (Below w.heap.size w w1):=jh (by rw[hw1];exact jb)
 clear hw1
 have HI1:=jh (HI.out.next HB1.out)
 have HE1:=jh (HES.out.next HB1.out)
 have HS1:=jh hs1
 clear HI HES hs1
 go_loopw [4] (fun v wr=>Below w1.heap.size w1 wr/\∃ k:Nat,k<=Rmw.length/\v=.int .i64 k/\NAt wr (w.heap.size+1) (Zdn Rmw k)/\Hid (∀ j,j<k->Zd0 E (Rmw.getD j (0,0)))) (fun v _=>Rmw.length-(intOf v).toNat)
 case atStart=>exact⟨jb,0,by omega,rfl,(by unfold NAt;rw[<- HS1.out];exact heap_alloc_new _ _),jh (fun j _=>by omega)⟩
 case round=>
  obtain⟨hbe,k,hk,rfl,hat,HD⟩:=hrel
  obtain⟨c0,c1,c2,c3,c4,c5,c6,c7⟩:=HG0.out.next hbe
  rw[hG] at c0 c1 c2 c3 c4 c5 c6 c7
  dsimp only at c0 c1 c2 c3 c4 c5 c6 c7
  clear c0 c2 c3 c5 c6 c7
  by_cases hlt:k<Rmw.length
  ·have hdk:decide ((k:Int)<(Rmw.length:Int))=true:=by simp;omega
   have hki:(k:Int)<(Rmw.length:Int):=by omega
   have hk9:(k:Int)<1000:=by omega
   have hE40:(E.length:Int)<=40:=by omega
   have HS:Hid (Zd0 E (Rmw.getD k (0,0))->∀ j,j<k+1->Zd0 E (Rmw.getD j (0,0))):=jh (fun hx j b=>by
    rcases Nat.lt_succ_iff_lt_or_eq.1 b with e | rfl
    ·exact HD.out j e
    ·exact hx)
   rcases HI1.out.next hbe with⟨_,h0,_⟩ | ⟨_,_,h0⟩ | ⟨b,o,rfl,hbl,hcc⟩
   ·rw[h0] at hlt;simp at hlt
   ·rw[h0] at hlt;simp at hlt
   ·obtain⟨p0,p1⟩:=hcc k hlt
    have HB:=jh (Zab HB1.out hbe.drew)
    have HSTEP:=jh (fun m n=>Zo1 Rmw k m n)
    have HLE:=jh (Zms Rmw k)
    clear hcc HD
    generalize Rmw.getD k (0,0)=p at *
    obtain⟨x,y⟩:=p
    dsimp only at p0 p1
    go_wp2_with fail
    go_region
    clear p0 p1
    have HAT:=jh hat
    have HBE:=jh hbe
    clear hat
    by_cases e1:x<0
    ·have l1:decide (x<0)=true:=by simp[e1]
     clear hbe
     go_wp2_with fail
     go_ret
     exact Says.no HB.out
    ·have l1:decide (x<0)=false:=by simp[e1]
     by_cases e2:(E.length:Int)-1<=x
     ·have l2:decide ((E.length:Int)-1<=x)=true:=by simp;omega
      clear hbe
      go_wp2_with fail
      go_ret
      exact Says.no HB.out
     ·have l2:decide ((E.length:Int)-1<=x)=false:=by simp;omega
      by_cases e3:y=x+1
      ·have l3:(y==x+1)=true:=by simp[e3]
       obtain⟨m,rfl⟩:=Int.eq_ofNat_of_zero_le (show 0<=x by omega)
       obtain⟨n,rfl⟩:=Int.eq_ofNat_of_zero_le (show 0<=y by omega)
       have hnm:n=m+1:=by omega
       have hm:m<E.length:=by omega
       have hn:n<E.length:=by omega
       have hmi:(m:Int)<(E.length:Int):=by omega
       have hni:(n:Int)<(E.length:Int):=by omega
       have hm40:(m:Int)<40:=by omega
       have hn40:(n:Int)<40:=by omega
       have l3n:(n==m+1)=true:=by simp[hnm]
       have HS2:Hid ((Ev.at E m).th=(Ev.at E n).th->(Ev.at E m).kd=1->(Ev.at E n).kd=2->(Ev.at E m).lc=(Ev.at E n).lc->(Ev.at E m).ex=true->(Ev.at E n).ex=true->∀ j,j<k+1->Zd0 E (Rmw.getD j (0,0))):=jh (fun u1 u2 u3 u4 u5 u6=>HS.out ⟨m,n,rfl,hnm,hn,u1,u2,u3,u4,u5,u6⟩)
       have HNM:=jh hnm
       clear hnm e3
       rcases HE1.out.next hbe with h0 | ⟨eb,eo,rfl,hebl,hecc⟩
       ·rw[h0] at hm;simp at hm
       ·obtain⟨d0,d1,d2,d3,d4,d5⟩:=hecc m hm
        obtain⟨f0,f1,f2,f3,f4,f5⟩:=hecc n hn
        clear hecc hebl HS
        change _=some (Value.int _ (Ev.at E m).th) at d0
        change _=some (Value.int _ (Ev.at E m).kd) at d1
        change _=some (Value.int _ (Ev.at E m).md) at d2
        change _=some (Value.int _ (Ev.at E m).lc) at d3
        change _=some (Value.int _ (Ev.at E m).vl) at d4
        change _=some (Value.bool (Ev.at E m).ex) at d5
        change _=some (Value.int _ (Ev.at E n).th) at f0
        change _=some (Value.int _ (Ev.at E n).kd) at f1
        change _=some (Value.int _ (Ev.at E n).md) at f2
        change _=some (Value.int _ (Ev.at E n).lc) at f3
        change _=some (Value.int _ (Ev.at E n).vl) at f4
        change _=some (Value.bool (Ev.at E n).ex) at f5
        generalize Ev.at E m=ev at *
        generalize Ev.at E n=fv at *
        obtain⟨x0,x1,x2,x3,x4,x5⟩:=ev
        obtain⟨y0,y1,y2,y3,y4,y5⟩:=fv
        dsimp only at d0 d1 d2 d3 d4 d5 f0 f1 f2 f3 f4 f5 HS2
        have z1:∀ o,Below wr.heap.size wr (wr.alloc o):=fun o=>(Below.refl _ _).alloc (Nat.le_refl _) o
        have z2:∀ o o',Below wr.heap.size wr ((wr.alloc o).alloc o'):=fun o o'=>Zab (z1 o) ((Below.refl _ _).alloc (Nat.le_refl _) o')
        have c1z:=fun o=>Zaa c1 (z1 o)
        have c1zz:=fun o o'=>Zaa c1 (z2 o o')
        have d0z:=fun o=>Zaa d0 (z1 o)
        have d0zz:=fun o o'=>Zaa d0 (z2 o o')
        have d1z:=fun o=>Zaa d1 (z1 o)
        have d1zz:=fun o o'=>Zaa d1 (z2 o o')
        have d2z:=fun o=>Zaa d2 (z1 o)
        have d2zz:=fun o o'=>Zaa d2 (z2 o o')
        have d3z:=fun o=>Zaa d3 (z1 o)
        have d3zz:=fun o o'=>Zaa d3 (z2 o o')
        have d4z:=fun o=>Zaa d4 (z1 o)
        have d4zz:=fun o o'=>Zaa d4 (z2 o o')
        have d5z:=fun o=>Zaa d5 (z1 o)
        have d5zz:=fun o o'=>Zaa d5 (z2 o o')
        have f0z:=fun o=>Zaa f0 (z1 o)
        have f0zz:=fun o o'=>Zaa f0 (z2 o o')
        have f1z:=fun o=>Zaa f1 (z1 o)
        have f1zz:=fun o o'=>Zaa f1 (z2 o o')
        have f2z:=fun o=>Zaa f2 (z1 o)
        have f2zz:=fun o o'=>Zaa f2 (z2 o o')
        have f3z:=fun o=>Zaa f3 (z1 o)
        have f3zz:=fun o o'=>Zaa f3 (z2 o o')
        have f4z:=fun o=>Zaa f4 (z1 o)
        have f4zz:=fun o o'=>Zaa f4 (z2 o o')
        have f5z:=fun o=>Zaa f5 (z1 o)
        have f5zz:=fun o o'=>Zaa f5 (z2 o o')
        have HBZ:=jh (fun o o'=>(Zab (Zab HB1.out hbe) (z2 o o')).drew.drew)
        have HBY:=jh (fun o o'=>(Zab hbe (z2 o o')).drew.drew)
        clear z1 z2 hbe
        have a1:=(Zf0 wr 53 #[.int .i64 x0,.int .i64 x1,.int .i64 x2,.int .i64 x3,.int .i64 x4,.bool x5] #[.int .i64 y0,.int .i64 y1,.int .i64 y2,.int .i64 y3,.int .i64 y4,.bool y5])
        have a2:=(Ze6 wr 53 #[.int .i64 x0,.int .i64 x1,.int .i64 x2,.int .i64 x3,.int .i64 x4,.bool x5] #[.int .i64 y0,.int .i64 y1,.int .i64 y2,.int .i64 y3,.int .i64 y4,.bool y5])
        have b1:=(Zf0 wr 53 #[.int .i64 y0,.int .i64 y1,.int .i64 y2,.int .i64 y3,.int .i64 y4,.bool y5] #[.int .i64 x0,.int .i64 x1,.int .i64 x2,.int .i64 x3,.int .i64 x4,.bool x5])
        have b2:=(Ze6 wr 53 #[.int .i64 y0,.int .i64 y1,.int .i64 y2,.int .i64 y3,.int .i64 y4,.bool y5] #[.int .i64 x0,.int .i64 x1,.int .i64 x2,.int .i64 x3,.int .i64 x4,.bool x5])
        have hxa0:=a1 0
        have hxa1:=a1 1
        have hxa3:=a1 3
        have hxa5:=a1 5
        have hya0:=a2 0
        have hya1:=a2 1
        have hya3:=a2 3
        have hya5:=a2 5
        have hxb0:=b2 0
        have hxb1:=b2 1
        have hxb3:=b2 3
        have hxb5:=b2 5
        have hyb0:=b1 0
        have hyb1:=b1 1
        have hyb3:=b1 3
        have hyb5:=b1 5
        simp only[List.getElem?_toArray,List.getElem?_cons_succ,List.getElem?_cons_zero] at hxa0 hxa1 hxa3 hxa5 hya0 hya1 hya3 hya5 hxb0 hxb1 hxb3 hxb5 hyb0 hyb1 hyb3 hyb5
        clear a1 a2 b1 b2
        as_aux_lemma=>
         go_wp2_with fail
         go_region
         all_goals clear c1z c1zz d0z d0zz d1z d1zz d2z d2zz d3z d3zz d4z d4zz d5z d5zz f0z f0zz f1z f1zz f2z f2zz f3z f3zz f4z f4zz f5z f5zz
         all_goals
          have HNX:=jh (HSTEP.out m n rfl HNM.out)
          obtain⟨u1,u2⟩:=HLE.out m
          obtain⟨v1,v2⟩:=HLE.out n
          have hne:¬ n=m:=by have:=HNM.out;omega
          have hne2:¬ m=n:=fun e=>hne e.symm
          clear HSTEP HLE
          have HW:=fun o o'=>((HAT.out.alloc o).alloc o')
          have ha:=fun o o'=>(HW o o').ci m (by omega)
          have hb:=fun o o'=>(HW o o').ci n (by omega)
          have hfa:=fun o o'=>(HW o o').frozen m
          have hfb:=fun o o'=>(HW o o').frozen n
          have HWW:=jh (fun o o'=>((show NAt ((wr.alloc o).alloc o').drew.drew (w.heap.size+1) _ from HW o o').set m (Zdn Rmw k m+1)).set n (Zdn Rmw k n+1))
          rw[HNX.out] at HWW
          clear HW HNX
          generalize Zdn Rmw k m=u at *
          generalize Zdn Rmw k n=v at *
          have hu9:u<1000:=by omega
          have hv9:v<1000:=by omega
          clear u2 v2
          by_cases q:x0=y0
          rotate_left
          ·have l:(x0 !=y0)=true:=by simp[q]
           as_aux_lemma=>
            go_wp2_with fail
            go_ret
            exact Says.no (HBZ.out _ _)
          subst q
          have p0:(x0 !=x0)=false:=by simp
          by_cases q:x1=1
          rotate_left
          ·have l:(x1 !=1)=true:=by simp[q]
           as_aux_lemma=>
            go_wp2_with fail
            go_ret
            exact Says.no (HBZ.out _ _)
          subst q
          have p1:((1:Int)!=1)=false:=by decide
          by_cases q:y1=2
          rotate_left
          ·have l:(y1 !=2)=true:=by simp[q]
           as_aux_lemma=>
            go_wp2_with fail
            go_ret
            exact Says.no (HBZ.out _ _)
          subst q
          have p2:((2:Int)!=2)=false:=by decide
          by_cases q:x3=y3
          rotate_left
          ·have l:(x3 !=y3)=true:=by simp[q]
           as_aux_lemma=>
            go_wp2_with fail
            go_ret
            exact Says.no (HBZ.out _ _)
          subst q
          have p3:(x3 !=x3)=false:=by simp
          cases x5
          ·
           as_aux_lemma=>
            go_wp2_with fail
            go_ret
            exact Says.no (HBZ.out _ _)
          cases y5
          ·
           as_aux_lemma=>
            go_wp2_with fail
            go_ret
            exact Says.no (HBZ.out _ _)
          as_aux_lemma=>
           rename_i K1 h1 K0 h0
           show K0 _ _
           refine h0 _ _ ?_
           clear h0
           refine Zrm (B:=w.heap.size+1) (m:=m) (n:=n) (x0:=x0) (x3:=x3) (u:=u) (v:=v) hm40 hn40 hne u1 v1 hu9 hv9 (ha _ _) (hb _ _) (hfa _ _) (hfb _ _) (by first | exact hxa0 | exact hxb0) (by first | exact hxa1 | exact hxb1) (by first | exact hxa3 | exact hxb3) (by first | exact hxa5 | exact hxb5) (by first | exact hya0 | exact hyb0) (by first | exact hya1 | exact hyb1) (by first | exact hya3 | exact hyb3) (by first | exact hya5 | exact hyb5) ?_
           clear ha hb hfa hfb hxa0 hxa1 hxa3 hxa5 hya0 hya1 hya3 hya5 hxb0 hxb1 hxb3 hxb5 hyb0 hyb1 hyb3 hyb5 d0 d1 d2 d3 d4 d5 f0 f1 f2 f3 f4 f5 c1 c4 p0 p1 p2 p3 HBZ HAT HBE l1 l2 l3 l3n e1 e2
           intro W2 HW2
           intros
           refine K1 _ _ ?_
           refine Zrn (k:=k) hk9 ?_
           intros
           go_big_open
           refine And.intro ?_ ?_
           ·(repeat apply Exists.intro)
            exact⟨Zvw hlt HS1 HBY HWW (HS2.out rfl rfl rfl rfl rfl rfl) HW2,rfl⟩
           ·show Rmw.length-(intOf (.int .i64 ((k:Int)+1))).toNat<Rmw.length-(intOf (.int .i64 (k:Int))).toNat
            clear HWW HBY HW2
            simp[intOf]
            omega
      ·have l3:(y==x+1)=false:=by simp[e3]
       clear hbe
       go_wp2_with fail
       go_ret
       exact Says.no HB.out
  ·have hdk:decide ((k:Int)<(Rmw.length:Int))=false:=by simp;omega
   have hke:k=Rmw.length:=by omega
   rw[hke] at hat HD
   have HAT:=jh hat
   have HBE:=jh hbe
   clear hat hke hk
   go_wp2_with fail
   clear c1 c4 hdk hbe
   go_loopw [9] (fun v wi=>Below w1.heap.size w1 wi/\∃ i:Nat,i<=E.length/\v=.int .i64 i/\NAt wi (w.heap.size+1) (Zdn Rmw Rmw.length)/\Hid (∀ j,j<i->Zdn Rmw Rmw.length j<=1/\((Ev.at E j).ex=(Zdn Rmw Rmw.length j==1)))) (fun v _=>E.length-(intOf v).toNat)
   case atStart=>exact⟨HBE.out,0,by omega,rfl,HAT.out,jh (fun j _=>by omega)⟩
   case round=>
    obtain⟨hbi,i,hi,rfl,hat,HQ⟩:=hrel
    clear HAT HBE
    obtain⟨c0,c1,c2,c3,c4,c5,c6,c7⟩:=HG0.out.next hbi
    rw[hG] at c0 c1 c2 c3 c4 c5 c6 c7
    dsimp only at c0 c1 c2 c3 c4 c5 c6 c7
    clear c0 c2 c3 c5 c6 c7
    have HB:=jh (Zar (Zab HB1.out hbi))
    by_cases hil:i<E.length
    ·have hdi:decide ((i:Int)<(E.length:Int))=true:=by simp;omega
     have hii:(i:Int)<(E.length:Int):=by omega
     have hi40:(i:Int)<40:=by omega
     have HS:Hid (Zdn Rmw Rmw.length i<=1->((Ev.at E i).ex=(Zdn Rmw Rmw.length i==1))->∀ j,j<i+1->Zdn Rmw Rmw.length j<=1/\((Ev.at E j).ex=(Zdn Rmw Rmw.length j==1))):=jh (fun hx hy j b=>by
      rcases Nat.lt_succ_iff_lt_or_eq.1 b with e | rfl
      ·exact HQ.out j e
      ·exact⟨hx,hy⟩)
     have ha:=hat.ci i (by omega)
     have HAN:=jh (fun nn=>(show NAt (wr.drewN nn) (w.heap.size+1) _ from hat))
     have HBI:=jh (Zar hbi)
     obtain⟨u1,u2⟩:=Zms Rmw Rmw.length i
     clear hat HQ
     generalize Zdn Rmw Rmw.length i=u at *
     rcases HE1.out.next hbi with h0 | ⟨eb,eo,rfl,hebl,hecc⟩
     ·rw[h0] at hil;simp at hil
     ·obtain⟨d0,d1,d2,d3,d4,d5⟩:=hecc i hil
      clear hecc hebl hbi
      change _=some (Value.int _ (Ev.at E i).th) at d0
      change _=some (Value.int _ (Ev.at E i).kd) at d1
      change _=some (Value.int _ (Ev.at E i).md) at d2
      change _=some (Value.int _ (Ev.at E i).lc) at d3
      change _=some (Value.int _ (Ev.at E i).vl) at d4
      change _=some (Value.bool (Ev.at E i).ex) at d5
      generalize Ev.at E i=ev at *
      obtain⟨x0,x1,x2,x3,x4,x5⟩:=ev
      dsimp only at d0 d1 d2 d3 d4 d5 HS
      clear d0 d1 d2 d3 d4
      by_cases e1:1<u
      ·have l1:decide (1<u)=true:=by simp[e1]
       go_wp2_with fail
       go_quiet (fail)
       go_wp2_with fail
       go_ret
       exact Says.no (HB.out _)
      ·have l1:decide (1<u)=false:=by simp;omega
       have hu1:u<=1:=by omega
       cases hb:(u==1)
       ·cases x5
        ·have HL:=jh (HS.out hu1 hb.symm)
         go_wp2_with fail
         go_quiet (fail)
         go_wp2_with fail
         go_roundw
         case rel=>exact⟨HBI.out _,i+1,by omega,by go_num,HAN.out _,HL⟩
         case measure=>simp[intOf];omega
        ·go_wp2_with fail
         go_quiet (fail)
         go_wp2_with fail
         go_ret
         exact Says.no (HB.out _)
       ·cases x5
        ·go_wp2_with fail
         go_quiet (fail)
         go_wp2_with fail
         go_ret
         exact Says.no (HB.out _)
        ·have HL:=jh (HS.out hu1 hb.symm)
         go_wp2_with fail
         go_quiet (fail)
         go_wp2_with fail
         go_roundw
         case rel=>exact⟨HBI.out _,i+1,by omega,by go_num,HAN.out _,HL⟩
         case measure=>simp[intOf];omega
    ·have hdi:decide ((i:Int)<(E.length:Int))=false:=by simp;omega
     have HL:=jh (fun j (hj:j<E.length)=>HQ.out j (by omega))
     have HB0:=jh (Zab HB1.out hbi)
     clear HQ hat HB
     go_wp2_with fail
     refine(HR.out _ HB0.out).mono ?_
     rintro e wn ⟨x,rfl,hx,hbn⟩
     have HX:=jh hx
     have HBN:=jh (Zab HB0.out hbn)
     clear hx hbn
     go_wp2_with fail
     go_ret
     exact⟨_,rfl,(fun e=>⟨HD.out,HL.out,HX.out e⟩),HBN.out⟩
end
end Go.Proofs.YthcnhbclagegeaaGreatDoor
