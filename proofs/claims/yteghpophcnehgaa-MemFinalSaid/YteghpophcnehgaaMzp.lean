/-
  What the functions that the law reaches do, one by one: contracts. Conditions: those that each of them prints.
-/
import Derived.Test.YteghpophcnehgaaMzo
import Derived.Test.YteghpophcnehgaaMzm
import Derived.WalkKit
import Derived.Deep.RegionLaw
import Derived.Deep.Quiet
import Derived.Deep.DeepCutAuto
import Derived.Deep.CutBlock
namespace Go.Proofs.Yteghpophcnehgaa
open Go.RowKit ExprA SndA
def ogW0:Oper:={ dst:=some 14,op:=Op.load 34 (Operand.tmp 13),type:=34,pos := "ref.go:13", after:=#[{ on:=1,ground:=Ground.data }],guard:=none }
def ogW1:Oper:={ dst:=some 16,op:=Op.load 35 (Operand.tmp 15),type:=35,pos := "ref.go:13", after:=#[{ on:=3,ground:=Ground.data }],guard:=none }
def ogW2:Oper:={ dst:=some 18,op:=Op.indexAddr 35 (Operand.tmp 16) (Operand.tmp 17),type:=0,pos := "ref.go:13", after:=#[{ on:=4,ground:=Ground.data },{ on:=5,ground:=Ground.data }],guard:=none }
def ogW3:Oper:={ dst:=some 19,op:=Op.load 22 (Operand.tmp 18),type:=22,pos := "ref.go:13", after:=#[{ on:=6,ground:=Ground.data }],guard:=none }
def ogW4:Oper:={ dst:=some 21,op:=Op.load 35 (Operand.tmp 20),type:=35,pos := "ref.go:13", after:=#[{ on:=8,ground:=Ground.data }],guard:=none }
def ogW5:Oper:={ dst:=some 23,op:=Op.indexAddr 35 (Operand.tmp 21) (Operand.tmp 22),type:=0,pos := "ref.go:13", after:=#[{ on:=9,ground:=Ground.data },{ on:=10,ground:=Ground.data }],guard:=none }
def ogW6:Oper:={ dst:=some 24,op:=Op.load 22 (Operand.tmp 23),type:=22,pos := "ref.go:13", after:=#[{ on:=11,ground:=Ground.data }],guard:=none }
def ogW7:Oper:={ dst:=some 25,op:=Op.call { callee:=Callee.builtin Builtin.len,args:=#[Operand.tmp 24],argTypes:=#[22] },type:=3,pos := "ref.go:13", after:=#[{ on:=12,ground:=Ground.data }],guard:=none }
def ogW8:Oper:={ dst:=some 26,op:=Op.binOp BinOp.sub 3 (Operand.tmp 25) (Operand.const (Value.int IntKind.i64 1)) 3,type:=3,pos := "ref.go:13", after:=#[{ on:=13,ground:=Ground.data }],guard:=none }
def ogW9:Oper:={ dst:=some 27,op:=Op.indexAddr 22 (Operand.tmp 19) (Operand.tmp 26),type:=0,pos := "ref.go:13", after:=#[{ on:=7,ground:=Ground.data },{ on:=14,ground:=Ground.data }],guard:=none }
def ogW10:Oper:={ dst:=some 28,op:=Op.load 3 (Operand.tmp 27),type:=3,pos := "ref.go:13", after:=#[{ on:=15,ground:=Ground.data }],guard:=none }
def ogW11:Oper:={ dst:=some 29,op:=Op.indexAddr 34 (Operand.tmp 14) (Operand.tmp 28),type:=0,pos := "ref.go:13", after:=#[{ on:=2,ground:=Ground.data },{ on:=16,ground:=Ground.data }],guard:=none }
def ogW12:Oper:={ dst:=some 30,op:=Op.fieldAddr 49 (Operand.tmp 29) 4,type:=0,pos := "ref.go:13", after:=#[{ on:=17,ground:=Ground.data }],guard:=none }
def ogW13:Oper:={ dst:=some 31,op:=Op.load 3 (Operand.tmp 30),type:=3,pos := "ref.go:13", after:=#[{ on:=18,ground:=Ground.data }],guard:=none }
def ogW14:Oper:={ dst:=some 32,op:=Op.buildSlice 22 1 #[(0,Operand.tmp 31)],type:=22,pos := "ref.go:13", after:=#[{ on:=19,ground:=Ground.data }],guard:=none }
def ogW15:Oper:={ dst:=some 33,op:=Op.call { callee:=Callee.builtin Builtin.append,args:=#[Operand.tmp 12,Operand.tmp 32],argTypes:=#[22,22] },type:=22,pos := "ref.go:13", after:=#[{ on:=0,ground:=Ground.data },{ on:=20,ground:=Ground.data }],guard:=none }
def ogW16:Oper:={ dst:=some 3,op:=Op.assign (Operand.tmp 33),type:=22,pos := "ref.go:13", after:=#[{ on:=21,ground:=Ground.data },{ on:=21,ground:=Ground.chain },{ on:=0,ground:=Ground.phase },{ on:=1,ground:=Ground.phase },{ on:=2,ground:=Ground.phase },{ on:=3,ground:=Ground.phase },{ on:=4,ground:=Ground.phase },{ on:=5,ground:=Ground.phase },{ on:=6,ground:=Ground.phase },{ on:=7,ground:=Ground.phase },{ on:=8,ground:=Ground.phase },{ on:=9,ground:=Ground.phase },{ on:=10,ground:=Ground.phase },{ on:=11,ground:=Ground.phase },{ on:=12,ground:=Ground.phase },{ on:=13,ground:=Ground.phase },{ on:=14,ground:=Ground.phase },{ on:=15,ground:=Ground.phase },{ on:=16,ground:=Ground.phase },{ on:=17,ground:=Ground.phase },{ on:=18,ground:=Ground.phase },{ on:=19,ground:=Ground.phase },{ on:=20,ground:=Ground.phase },{ on:=21,ground:=Ground.phase }],guard:=none }
def rgW0:Array Oper:=#[{ dst:=some 12,op:=Op.move (Operand.tmp 3),type:=22,pos := "ref.go:13", after:=#[],guard:=none },{ dst:=some 13,op:=Op.fieldAddr 38 (Operand.tmp 1) 1,type:=0,pos := "ref.go:13", after:=#[],guard:=none },{ dst:=some 14,op:=Op.load 34 (Operand.tmp 13),type:=34,pos := "ref.go:13", after:=#[{ on:=1,ground:=Ground.data }],guard:=none },{ dst:=some 15,op:=Op.fieldAddr 38 (Operand.tmp 1) 3,type:=0,pos := "ref.go:13", after:=#[],guard:=none },{ dst:=some 16,op:=Op.load 35 (Operand.tmp 15),type:=35,pos := "ref.go:13", after:=#[{ on:=3,ground:=Ground.data }],guard:=none },{ dst:=some 17,op:=Op.move (Operand.tmp 4),type:=3,pos := "ref.go:13", after:=#[],guard:=none },{ dst:=some 18,op:=Op.indexAddr 35 (Operand.tmp 16) (Operand.tmp 17),type:=0,pos := "ref.go:13", after:=#[{ on:=4,ground:=Ground.data },{ on:=5,ground:=Ground.data }],guard:=none },{ dst:=some 19,op:=Op.load 22 (Operand.tmp 18),type:=22,pos := "ref.go:13", after:=#[{ on:=6,ground:=Ground.data }],guard:=none },{ dst:=some 20,op:=Op.fieldAddr 38 (Operand.tmp 1) 3,type:=0,pos := "ref.go:13", after:=#[],guard:=none },{ dst:=some 21,op:=Op.load 35 (Operand.tmp 20),type:=35,pos := "ref.go:13", after:=#[{ on:=8,ground:=Ground.data }],guard:=none },{ dst:=some 22,op:=Op.move (Operand.tmp 4),type:=3,pos := "ref.go:13", after:=#[],guard:=none },{ dst:=some 23,op:=Op.indexAddr 35 (Operand.tmp 21) (Operand.tmp 22),type:=0,pos := "ref.go:13", after:=#[{ on:=9,ground:=Ground.data },{ on:=10,ground:=Ground.data }],guard:=none },{ dst:=some 24,op:=Op.load 22 (Operand.tmp 23),type:=22,pos := "ref.go:13", after:=#[{ on:=11,ground:=Ground.data }],guard:=none },{ dst:=some 25,op:=Op.call { callee:=Callee.builtin Builtin.len,args:=#[Operand.tmp 24],argTypes:=#[22] },type:=3,pos := "ref.go:13", after:=#[{ on:=12,ground:=Ground.data }],guard:=none },{ dst:=some 26,op:=Op.binOp BinOp.sub 3 (Operand.tmp 25) (Operand.const (Value.int IntKind.i64 1)) 3,type:=3,pos := "ref.go:13", after:=#[{ on:=13,ground:=Ground.data }],guard:=none },{ dst:=some 27,op:=Op.indexAddr 22 (Operand.tmp 19) (Operand.tmp 26),type:=0,pos := "ref.go:13", after:=#[{ on:=7,ground:=Ground.data },{ on:=14,ground:=Ground.data }],guard:=none },{ dst:=some 28,op:=Op.load 3 (Operand.tmp 27),type:=3,pos := "ref.go:13", after:=#[{ on:=15,ground:=Ground.data }],guard:=none },{ dst:=some 29,op:=Op.indexAddr 34 (Operand.tmp 14) (Operand.tmp 28),type:=0,pos := "ref.go:13", after:=#[{ on:=2,ground:=Ground.data },{ on:=16,ground:=Ground.data }],guard:=none },{ dst:=some 30,op:=Op.fieldAddr 49 (Operand.tmp 29) 4,type:=0,pos := "ref.go:13", after:=#[{ on:=17,ground:=Ground.data }],guard:=none },{ dst:=some 31,op:=Op.load 3 (Operand.tmp 30),type:=3,pos := "ref.go:13", after:=#[{ on:=18,ground:=Ground.data }],guard:=none },{ dst:=some 32,op:=Op.buildSlice 22 1 #[(0,Operand.tmp 31)],type:=22,pos := "ref.go:13", after:=#[{ on:=19,ground:=Ground.data }],guard:=none },{ dst:=some 33,op:=Op.call { callee:=Callee.builtin Builtin.append,args:=#[Operand.tmp 12,Operand.tmp 32],argTypes:=#[22,22] },type:=22,pos := "ref.go:13", after:=#[{ on:=0,ground:=Ground.data },{ on:=20,ground:=Ground.data }],guard:=none },{ dst:=some 3,op:=Op.assign (Operand.tmp 33),type:=22,pos := "ref.go:13", after:=#[{ on:=21,ground:=Ground.data },{ on:=21,ground:=Ground.chain },{ on:=0,ground:=Ground.phase },{ on:=1,ground:=Ground.phase },{ on:=2,ground:=Ground.phase },{ on:=3,ground:=Ground.phase },{ on:=4,ground:=Ground.phase },{ on:=5,ground:=Ground.phase },{ on:=6,ground:=Ground.phase },{ on:=7,ground:=Ground.phase },{ on:=8,ground:=Ground.phase },{ on:=9,ground:=Ground.phase },{ on:=10,ground:=Ground.phase },{ on:=11,ground:=Ground.phase },{ on:=12,ground:=Ground.phase },{ on:=13,ground:=Ground.phase },{ on:=14,ground:=Ground.phase },{ on:=15,ground:=Ground.phase },{ on:=16,ground:=Ground.phase },{ on:=17,ground:=Ground.phase },{ on:=18,ground:=Ground.phase },{ on:=19,ground:=Ground.phase },{ on:=20,ground:=Ground.phase },{ on:=21,ground:=Ground.phase }],guard:=none }]
def allD2 (d:Bool) (f:Bool→Bool):Bool:=f false && (!d || f true)
theorem allD2_at {d:Bool} {f:Bool→Bool} (h:allD2 d f=true) (b:Bool) (hb:b=true→d=true):f b=true:=by
 unfold allD2 at h
 cases b with
 | false=>simp_all
 | true=>rw [hb rfl] at h; simp_all
def opsrf5:Array Oper:=rgW0
def arrrf5 (b2 b4 b6 b7 b9 b11 b12 b13 b14 b15 b16 b17 b18 b19:Bool):Array Bool:=#[true,true,b2,true,b4,true,b6,b7,true,b9,true,b11,b12,b13,b14,b15,b16,b17,b18,b19,false,false,false]
def conrf5 (b2 b4 b6 b7 b9 b11 b12 b13 b14 b15 b16 b17 b18 b19:Bool):Prop:=(b6=true→(b4)=true)∧(b7=true→(b6)=true)∧(b11=true→(b9)=true)∧(b12=true→(b11)=true)∧(b13=true→(b12)=true)∧(b14=true→(b13)=true)∧(b15=true→(b7 && b14)=true)∧(b16=true→(b15)=true)∧(b17=true→(b2 && b16)=true)∧(b18=true→(b17)=true)∧(b19=true→(b18)=true)
def chkrf5 (b2 b4 b6 b7 b9 b11 b12 b13 b14 b15 b16 b17 b18 b19:Bool):Bool:=
 let r:=Region.ready .any opsrf5 (arrrf5 b2 b4 b6 b7 b9 b11 b12 b13 b14 b15 b16 b17 b18 b19)
 (b2 && b4 && b6 && b7 && b9 && b11 && b12 && b13 && b14 && b15 && b16 && b17 && b18 && b19) || (!r.isEmpty && r.all fun i=>match i with | 2=>!b2 | 4=>!b4 | 6=>b4 && !b6 | 7=>b4 && b6 && !b7 | 9=>!b9 | 11=>b9 && !b11 | 12=>b9 && b11 && !b12 | 13=>b9 && b11 && b12 && !b13 | 14=>b9 && b11 && b12 && b13 && !b14 | 15=>b4 && b6 && b7 && b9 && b11 && b12 && b13 && b14 && !b15 | 16=>b4 && b6 && b7 && b9 && b11 && b12 && b13 && b14 && b15 && !b16 | 17=>b2 && b4 && b6 && b7 && b9 && b11 && b12 && b13 && b14 && b15 && b16 && !b17 | 18=>b2 && b4 && b6 && b7 && b9 && b11 && b12 && b13 && b14 && b15 && b16 && b17 && !b18 | 19=>b2 && b4 && b6 && b7 && b9 && b11 && b12 && b13 && b14 && b15 && b16 && b17 && b18 && !b19 | _=>false)
theorem rdyrf5':(allD2 (true) fun b2=>allD2 (true) fun b4=>allD2 (b4) fun b6=>allD2 (b6) fun b7=>allD2 (true) fun b9=>allD2 (b9) fun b11=>allD2 (b11) fun b12=>allD2 (b12) fun b13=>allD2 (b13) fun b14=>allD2 (b7 && b14) fun b15=>allD2 (b15) fun b16=>allD2 (b2 && b16) fun b17=>allD2 (b17) fun b18=>allD2 (b18) fun b19=>chkrf5 b2 b4 b6 b7 b9 b11 b12 b13 b14 b15 b16 b17 b18 b19)=true:=by kernel_rfl
theorem rdyrf5 (b2 b4 b6 b7 b9 b11 b12 b13 b14 b15 b16 b17 b18 b19:Bool) (h:conrf5 b2 b4 b6 b7 b9 b11 b12 b13 b14 b15 b16 b17 b18 b19):chkrf5 b2 b4 b6 b7 b9 b11 b12 b13 b14 b15 b16 b17 b18 b19=true:=by
 obtain ⟨c6,c7,c11,c12,c13,c14,c15,c16,c17,c18,c19⟩:=h
 exact allD2_at (allD2_at (allD2_at (allD2_at (allD2_at (allD2_at (allD2_at (allD2_at (allD2_at (allD2_at (allD2_at (allD2_at (allD2_at (allD2_at (rdyrf5') b2 (fun _=>rfl)) b4 (fun _=>rfl)) b6 c6) b7 c7) b9 (fun _=>rfl)) b11 c11) b12 c12) b13 c13) b14 c14) b15 c15) b16 c16) b17 c17) b18 c18) b19 c19
namespace SndA
def Irf5 (wA:World) (pb eg el ec cg cl cc gx xl xc k x1 lq:Nat) (vv:Int) (vm:Value) (z0 z2 z5 z6 z7 z8 z9 z10 z11 z14 z16 z18 z19 z21 z23 z24 z25 z26 z27 z28 z29 z30 z31 z32 z33 z34:Value) (k0:Nat) (L:Array Bool) (a:Act) (w:World):Prop:=
 ∃ (b2 b4 b6 b7 b9 b11 b12 b13 b14 b15 b16 b17 b18 b19:Bool),k0=nb b2 + nb b4 + nb b6 + nb b7 + nb b9 + nb b11 + nb b12 + nb b13 + nb b14 + nb b15 + nb b16 + nb b17 + nb b18 + nb b19∧L=arrrf5 b2 b4 b6 b7 b9 b11 b12 b13 b14 b15 b16 b17 b18 b19∧a={ tmps:=(z0::.pointer (some ⟨pb,0,none⟩)::z2::vm::.int .i64 (k:Int)::z5::z6::z7::z8::z9::z10::z11::vm::.pointer (some ⟨pb,1,none⟩)::(bif b2 then .slice (some ⟨eg,0,none⟩) el ec else z14)::.pointer (some ⟨pb,3,none⟩)::(bif b4 then .slice (some ⟨cg,0,none⟩) cl cc else z16)::.int .i64 (k:Int)::(bif b6 then .pointer (some ⟨cg,k,none⟩) else z18)::(bif b7 then .slice (some ⟨gx,0,none⟩) xl xc else z19)::.pointer (some ⟨pb,3,none⟩)::(bif b9 then .slice (some ⟨cg,0,none⟩) cl cc else z21)::.int .i64 (k:Int)::(bif b11 then .pointer (some ⟨cg,k,none⟩) else z23)::(bif b12 then .slice (some ⟨gx,0,none⟩) xl xc else z24)::(bif b13 then .int .i64 (xl:Int) else z25)::(bif b14 then .int .i64 (x1:Int) else z26)::(bif b15 then .pointer (some ⟨gx,x1,none⟩) else z27)::(bif b16 then .int .i64 (lq:Int) else z28)::(bif b17 then .pointer (some ⟨eg,lq * 6,none⟩) else z29)::(bif b18 then .pointer (some ⟨eg,lq * 6 + 4,none⟩) else z30)::(bif b19 then .int .i64 vv else z31)::z32::z33::z34::[]).toArray,defers:=[] }∧w=wA∧conrf5 b2 b4 b6 b7 b9 b11 b12 b13 b14 b15 b16 b17 b18 b19
end SndA
set_option maxRecDepth 100000 in
set_option maxHeartbeats 8000000 in
theorem steprf5 (wA:World) (pb eg el ec cg cl cc gx xl xc k x1 lq:Nat) (vv:Int) (vm:Value) (p1:wA.cell? ⟨pb,1,none⟩=some (.slice (some ⟨eg,0,none⟩) el ec)) (p3:wA.cell? ⟨pb,3,none⟩=some (.slice (some ⟨cg,0,none⟩) cl cc)) (hc:wA.cell? ⟨cg,k,none⟩=some (.slice (some ⟨gx,0,none⟩) xl xc)) (hx:wA.cell? ⟨gx,x1,none⟩=some (.int .i64 (lq:Int))) (he:wA.cell? ⟨eg,lq * 6 + 4,none⟩=some (.int .i64 vv)) (hk:(k:Int) < (cl:Int)) (hw1:IntKind.i64.wrap ((xl:Int) - 1)=(x1:Int)) (h1:(x1:Int) < (xl:Int)) (hq:(lq:Int) < (el:Int)) (z0 z2 z5 z6 z7 z8 z9 z10 z11 z14 z16 z18 z19 z21 z23 z24 z25 z26 z27 z28 z29 z30 z31 z32 z33 z34:Value) (Q:Exit→Act→World→Prop) (k0:Nat) (L:Array Bool) (a:Act) (w:World) (h:Irf5 wA pb eg el ec cg cl cc gx xl xc k x1 lq vv vm z0 z2 z5 z6 z7 z8 z9 z10 z11 z14 z16 z18 z19 z21 z23 z24 z25 z26 z27 z28 z29 z30 z31 z32 z33 z34 (k0 + 1) L a w) :
  Region.ready .any opsrf5 L ≠ []∧∀ i' ∈ Region.ready .any opsrf5 L,wpOp Try.prog opsrf5 Q i' (fun a' w'=>Irf5 wA pb eg el ec cg cl cc gx xl xc k x1 lq vv vm z0 z2 z5 z6 z7 z8 z9 z10 z11 z14 z16 z18 z19 z21 z23 z24 z25 z26 z27 z28 z29 z30 z31 z32 z33 z34 k0 (L.setIfInBounds i' true) a' w') a w:=by
 obtain ⟨b2,b4,b6,b7,b9,b11,b12,b13,b14,b15,b16,b17,b18,b19,hk0,rfl,rfl,hM,hcon⟩:=h
 subst hM
 have hnt:nb true=0:=rfl
 have hnf:nb false=1:=rfl
 have hc0:=rdyrf5 b2 b4 b6 b7 b9 b11 b12 b13 b14 b15 b16 b17 b18 b19 hcon
 unfold chkrf5 at hc0
 have hn:(b2 && b4 && b6 && b7 && b9 && b11 && b12 && b13 && b14 && b15 && b16 && b17 && b18 && b19)=false:=by
  cases hq0:(b2 && b4 && b6 && b7 && b9 && b11 && b12 && b13 && b14 && b15 && b16 && b17 && b18 && b19) with
  | false=>rfl
  | true=>
   simp only [Bool.and_eq_true] at hq0
   obtain ⟨⟨⟨⟨⟨⟨⟨⟨⟨⟨⟨⟨⟨rfl,rfl⟩,rfl⟩,rfl⟩,rfl⟩,rfl⟩,rfl⟩,rfl⟩,rfl⟩,rfl⟩,rfl⟩,rfl⟩,rfl⟩,rfl⟩:=hq0
   simp [nb] at hk0
 rw [hn] at hc0
 obtain ⟨c6,c7,c11,c12,c13,c14,c15,c16,c17,c18,c19⟩:=hcon
 simp only [Bool.false_or,Bool.and_eq_true,List.all_eq_true,Bool.not_eq_true'] at hc0
 refine ⟨fun h0=>by rw [h0] at hc0; simp at hc0,fun i' hi'=>?_⟩
 have hi2:=hc0.2 i' hi'
 clear hc0 hi' hn
 split at hi2
 ·simp only [Bool.not_eq_true'] at hi2
  subst hi2
  refine wpOp_one (o:=ogW0) (by rfl) rfl ?_
  unfold ogW0
  generalize hK:(fun a' w'=>Irf5 w pb eg el ec cg cl cc gx xl xc k x1 lq vv vm z0 z2 z5 z6 z7 z8 z9 z10 z11 z14 z16 z18 z19 z21 z23 z24 z25 z26 z27 z28 z29 z30 z31 z32 z33 z34 k0 ((arrrf5 false b4 b6 b7 b9 b11 b12 b13 b14 b15 b16 b17 b18 b19).setIfInBounds 2 true) a' w')=K
  unfold Oper.wp
  go_simp
  subst hK
  exact ⟨true,b4,b6,b7,b9,b11,b12,b13,b14,b15,b16,b17,b18,b19,by omega,rfl,rfl,rfl,⟨by first | exact c6 | exact fun _=>rfl | (intro q; have:=c6 q; simp at this),by first | exact c7 | exact fun _=>rfl | (intro q; have:=c7 q; simp at this),by first | exact c11 | exact fun _=>rfl | (intro q; have:=c11 q; simp at this),by first | exact c12 | exact fun _=>rfl | (intro q; have:=c12 q; simp at this),by first | exact c13 | exact fun _=>rfl | (intro q; have:=c13 q; simp at this),by first | exact c14 | exact fun _=>rfl | (intro q; have:=c14 q; simp at this),by first | exact c15 | exact fun _=>rfl | (intro q; have:=c15 q; simp at this),by first | exact c16 | exact fun _=>rfl | (intro q; have:=c16 q; simp at this),by first | exact c17 | exact fun _=>rfl | (intro q; have:=c17 q; simp at this),by first | exact c18 | exact fun _=>rfl | (intro q; have:=c18 q; simp at this),by first | exact c19 | exact fun _=>rfl | (intro q; have:=c19 q; simp at this)⟩⟩
 ·simp only [Bool.not_eq_true'] at hi2
  subst hi2
  refine wpOp_one (o:=ogW1) (by rfl) rfl ?_
  unfold ogW1
  generalize hK:(fun a' w'=>Irf5 w pb eg el ec cg cl cc gx xl xc k x1 lq vv vm z0 z2 z5 z6 z7 z8 z9 z10 z11 z14 z16 z18 z19 z21 z23 z24 z25 z26 z27 z28 z29 z30 z31 z32 z33 z34 k0 ((arrrf5 b2 false b6 b7 b9 b11 b12 b13 b14 b15 b16 b17 b18 b19).setIfInBounds 4 true) a' w')=K
  unfold Oper.wp
  go_simp
  subst hK
  exact ⟨b2,true,b6,b7,b9,b11,b12,b13,b14,b15,b16,b17,b18,b19,by omega,rfl,rfl,rfl,⟨by first | exact c6 | exact fun _=>rfl | (intro q; have:=c6 q; simp at this),by first | exact c7 | exact fun _=>rfl | (intro q; have:=c7 q; simp at this),by first | exact c11 | exact fun _=>rfl | (intro q; have:=c11 q; simp at this),by first | exact c12 | exact fun _=>rfl | (intro q; have:=c12 q; simp at this),by first | exact c13 | exact fun _=>rfl | (intro q; have:=c13 q; simp at this),by first | exact c14 | exact fun _=>rfl | (intro q; have:=c14 q; simp at this),by first | exact c15 | exact fun _=>rfl | (intro q; have:=c15 q; simp at this),by first | exact c16 | exact fun _=>rfl | (intro q; have:=c16 q; simp at this),by first | exact c17 | exact fun _=>rfl | (intro q; have:=c17 q; simp at this),by first | exact c18 | exact fun _=>rfl | (intro q; have:=c18 q; simp at this),by first | exact c19 | exact fun _=>rfl | (intro q; have:=c19 q; simp at this)⟩⟩
 ·simp only [Bool.and_eq_true,Bool.not_eq_true'] at hi2
  obtain ⟨rfl,rfl⟩:=hi2
  refine wpOp_one (o:=ogW2) (by rfl) rfl ?_
  unfold ogW2
  generalize hK:(fun a' w'=>Irf5 w pb eg el ec cg cl cc gx xl xc k x1 lq vv vm z0 z2 z5 z6 z7 z8 z9 z10 z11 z14 z16 z18 z19 z21 z23 z24 z25 z26 z27 z28 z29 z30 z31 z32 z33 z34 k0 ((arrrf5 b2 true false b7 b9 b11 b12 b13 b14 b15 b16 b17 b18 b19).setIfInBounds 6 true) a' w')=K
  unfold Oper.wp
  go_simp
  subst hK
  exact ⟨b2,true,true,b7,b9,b11,b12,b13,b14,b15,b16,b17,b18,b19,by omega,rfl,rfl,rfl,⟨by first | exact c6 | exact fun _=>rfl | (intro q; have:=c6 q; simp at this),by first | exact c7 | exact fun _=>rfl | (intro q; have:=c7 q; simp at this),by first | exact c11 | exact fun _=>rfl | (intro q; have:=c11 q; simp at this),by first | exact c12 | exact fun _=>rfl | (intro q; have:=c12 q; simp at this),by first | exact c13 | exact fun _=>rfl | (intro q; have:=c13 q; simp at this),by first | exact c14 | exact fun _=>rfl | (intro q; have:=c14 q; simp at this),by first | exact c15 | exact fun _=>rfl | (intro q; have:=c15 q; simp at this),by first | exact c16 | exact fun _=>rfl | (intro q; have:=c16 q; simp at this),by first | exact c17 | exact fun _=>rfl | (intro q; have:=c17 q; simp at this),by first | exact c18 | exact fun _=>rfl | (intro q; have:=c18 q; simp at this),by first | exact c19 | exact fun _=>rfl | (intro q; have:=c19 q; simp at this)⟩⟩
 ·simp only [Bool.and_eq_true,Bool.not_eq_true'] at hi2
  obtain ⟨⟨rfl,rfl⟩,rfl⟩:=hi2
  refine wpOp_one (o:=ogW3) (by rfl) rfl ?_
  unfold ogW3
  generalize hK:(fun a' w'=>Irf5 w pb eg el ec cg cl cc gx xl xc k x1 lq vv vm z0 z2 z5 z6 z7 z8 z9 z10 z11 z14 z16 z18 z19 z21 z23 z24 z25 z26 z27 z28 z29 z30 z31 z32 z33 z34 k0 ((arrrf5 b2 true true false b9 b11 b12 b13 b14 b15 b16 b17 b18 b19).setIfInBounds 7 true) a' w')=K
  unfold Oper.wp
  go_simp
  subst hK
  exact ⟨b2,true,true,true,b9,b11,b12,b13,b14,b15,b16,b17,b18,b19,by omega,rfl,rfl,rfl,⟨by first | exact c6 | exact fun _=>rfl | (intro q; have:=c6 q; simp at this),by first | exact c7 | exact fun _=>rfl | (intro q; have:=c7 q; simp at this),by first | exact c11 | exact fun _=>rfl | (intro q; have:=c11 q; simp at this),by first | exact c12 | exact fun _=>rfl | (intro q; have:=c12 q; simp at this),by first | exact c13 | exact fun _=>rfl | (intro q; have:=c13 q; simp at this),by first | exact c14 | exact fun _=>rfl | (intro q; have:=c14 q; simp at this),by first | exact c15 | exact fun _=>rfl | (intro q; have:=c15 q; simp at this),by first | exact c16 | exact fun _=>rfl | (intro q; have:=c16 q; simp at this),by first | exact c17 | exact fun _=>rfl | (intro q; have:=c17 q; simp at this),by first | exact c18 | exact fun _=>rfl | (intro q; have:=c18 q; simp at this),by first | exact c19 | exact fun _=>rfl | (intro q; have:=c19 q; simp at this)⟩⟩
 ·simp only [Bool.not_eq_true'] at hi2
  subst hi2
  refine wpOp_one (o:=ogW4) (by rfl) rfl ?_
  unfold ogW4
  generalize hK:(fun a' w'=>Irf5 w pb eg el ec cg cl cc gx xl xc k x1 lq vv vm z0 z2 z5 z6 z7 z8 z9 z10 z11 z14 z16 z18 z19 z21 z23 z24 z25 z26 z27 z28 z29 z30 z31 z32 z33 z34 k0 ((arrrf5 b2 b4 b6 b7 false b11 b12 b13 b14 b15 b16 b17 b18 b19).setIfInBounds 9 true) a' w')=K
  unfold Oper.wp
  go_simp
  subst hK
  exact ⟨b2,b4,b6,b7,true,b11,b12,b13,b14,b15,b16,b17,b18,b19,by omega,rfl,rfl,rfl,⟨by first | exact c6 | exact fun _=>rfl | (intro q; have:=c6 q; simp at this),by first | exact c7 | exact fun _=>rfl | (intro q; have:=c7 q; simp at this),by first | exact c11 | exact fun _=>rfl | (intro q; have:=c11 q; simp at this),by first | exact c12 | exact fun _=>rfl | (intro q; have:=c12 q; simp at this),by first | exact c13 | exact fun _=>rfl | (intro q; have:=c13 q; simp at this),by first | exact c14 | exact fun _=>rfl | (intro q; have:=c14 q; simp at this),by first | exact c15 | exact fun _=>rfl | (intro q; have:=c15 q; simp at this),by first | exact c16 | exact fun _=>rfl | (intro q; have:=c16 q; simp at this),by first | exact c17 | exact fun _=>rfl | (intro q; have:=c17 q; simp at this),by first | exact c18 | exact fun _=>rfl | (intro q; have:=c18 q; simp at this),by first | exact c19 | exact fun _=>rfl | (intro q; have:=c19 q; simp at this)⟩⟩
 ·simp only [Bool.and_eq_true,Bool.not_eq_true'] at hi2
  obtain ⟨rfl,rfl⟩:=hi2
  refine wpOp_one (o:=ogW5) (by rfl) rfl ?_
  unfold ogW5
  generalize hK:(fun a' w'=>Irf5 w pb eg el ec cg cl cc gx xl xc k x1 lq vv vm z0 z2 z5 z6 z7 z8 z9 z10 z11 z14 z16 z18 z19 z21 z23 z24 z25 z26 z27 z28 z29 z30 z31 z32 z33 z34 k0 ((arrrf5 b2 b4 b6 b7 true false b12 b13 b14 b15 b16 b17 b18 b19).setIfInBounds 11 true) a' w')=K
  unfold Oper.wp
  go_simp
  subst hK
  exact ⟨b2,b4,b6,b7,true,true,b12,b13,b14,b15,b16,b17,b18,b19,by omega,rfl,rfl,rfl,⟨by first | exact c6 | exact fun _=>rfl | (intro q; have:=c6 q; simp at this),by first | exact c7 | exact fun _=>rfl | (intro q; have:=c7 q; simp at this),by first | exact c11 | exact fun _=>rfl | (intro q; have:=c11 q; simp at this),by first | exact c12 | exact fun _=>rfl | (intro q; have:=c12 q; simp at this),by first | exact c13 | exact fun _=>rfl | (intro q; have:=c13 q; simp at this),by first | exact c14 | exact fun _=>rfl | (intro q; have:=c14 q; simp at this),by first | exact c15 | exact fun _=>rfl | (intro q; have:=c15 q; simp at this),by first | exact c16 | exact fun _=>rfl | (intro q; have:=c16 q; simp at this),by first | exact c17 | exact fun _=>rfl | (intro q; have:=c17 q; simp at this),by first | exact c18 | exact fun _=>rfl | (intro q; have:=c18 q; simp at this),by first | exact c19 | exact fun _=>rfl | (intro q; have:=c19 q; simp at this)⟩⟩
 ·simp only [Bool.and_eq_true,Bool.not_eq_true'] at hi2
  obtain ⟨⟨rfl,rfl⟩,rfl⟩:=hi2
  refine wpOp_one (o:=ogW6) (by rfl) rfl ?_
  unfold ogW6
  generalize hK:(fun a' w'=>Irf5 w pb eg el ec cg cl cc gx xl xc k x1 lq vv vm z0 z2 z5 z6 z7 z8 z9 z10 z11 z14 z16 z18 z19 z21 z23 z24 z25 z26 z27 z28 z29 z30 z31 z32 z33 z34 k0 ((arrrf5 b2 b4 b6 b7 true true false b13 b14 b15 b16 b17 b18 b19).setIfInBounds 12 true) a' w')=K
  unfold Oper.wp
  go_simp
  subst hK
  exact ⟨b2,b4,b6,b7,true,true,true,b13,b14,b15,b16,b17,b18,b19,by omega,rfl,rfl,rfl,⟨by first | exact c6 | exact fun _=>rfl | (intro q; have:=c6 q; simp at this),by first | exact c7 | exact fun _=>rfl | (intro q; have:=c7 q; simp at this),by first | exact c11 | exact fun _=>rfl | (intro q; have:=c11 q; simp at this),by first | exact c12 | exact fun _=>rfl | (intro q; have:=c12 q; simp at this),by first | exact c13 | exact fun _=>rfl | (intro q; have:=c13 q; simp at this),by first | exact c14 | exact fun _=>rfl | (intro q; have:=c14 q; simp at this),by first | exact c15 | exact fun _=>rfl | (intro q; have:=c15 q; simp at this),by first | exact c16 | exact fun _=>rfl | (intro q; have:=c16 q; simp at this),by first | exact c17 | exact fun _=>rfl | (intro q; have:=c17 q; simp at this),by first | exact c18 | exact fun _=>rfl | (intro q; have:=c18 q; simp at this),by first | exact c19 | exact fun _=>rfl | (intro q; have:=c19 q; simp at this)⟩⟩
 ·simp only [Bool.and_eq_true,Bool.not_eq_true'] at hi2
  obtain ⟨⟨⟨rfl,rfl⟩,rfl⟩,rfl⟩:=hi2
  refine wpOp_one (o:=ogW7) (by rfl) rfl ?_
  unfold ogW7
  generalize hK:(fun a' w'=>Irf5 w pb eg el ec cg cl cc gx xl xc k x1 lq vv vm z0 z2 z5 z6 z7 z8 z9 z10 z11 z14 z16 z18 z19 z21 z23 z24 z25 z26 z27 z28 z29 z30 z31 z32 z33 z34 k0 ((arrrf5 b2 b4 b6 b7 true true true false b14 b15 b16 b17 b18 b19).setIfInBounds 13 true) a' w')=K
  unfold Oper.wp
  go_simp
  subst hK
  exact ⟨b2,b4,b6,b7,true,true,true,true,b14,b15,b16,b17,b18,b19,by omega,rfl,rfl,rfl,⟨by first | exact c6 | exact fun _=>rfl | (intro q; have:=c6 q; simp at this),by first | exact c7 | exact fun _=>rfl | (intro q; have:=c7 q; simp at this),by first | exact c11 | exact fun _=>rfl | (intro q; have:=c11 q; simp at this),by first | exact c12 | exact fun _=>rfl | (intro q; have:=c12 q; simp at this),by first | exact c13 | exact fun _=>rfl | (intro q; have:=c13 q; simp at this),by first | exact c14 | exact fun _=>rfl | (intro q; have:=c14 q; simp at this),by first | exact c15 | exact fun _=>rfl | (intro q; have:=c15 q; simp at this),by first | exact c16 | exact fun _=>rfl | (intro q; have:=c16 q; simp at this),by first | exact c17 | exact fun _=>rfl | (intro q; have:=c17 q; simp at this),by first | exact c18 | exact fun _=>rfl | (intro q; have:=c18 q; simp at this),by first | exact c19 | exact fun _=>rfl | (intro q; have:=c19 q; simp at this)⟩⟩
 ·simp only [Bool.and_eq_true,Bool.not_eq_true'] at hi2
  obtain ⟨⟨⟨⟨rfl,rfl⟩,rfl⟩,rfl⟩,rfl⟩:=hi2
  refine wpOp_one (o:=ogW8) (by rfl) rfl ?_
  unfold ogW8
  generalize hK:(fun a' w'=>Irf5 w pb eg el ec cg cl cc gx xl xc k x1 lq vv vm z0 z2 z5 z6 z7 z8 z9 z10 z11 z14 z16 z18 z19 z21 z23 z24 z25 z26 z27 z28 z29 z30 z31 z32 z33 z34 k0 ((arrrf5 b2 b4 b6 b7 true true true true false b15 b16 b17 b18 b19).setIfInBounds 14 true) a' w')=K
  unfold Oper.wp
  go_simp
  subst hK
  exact ⟨b2,b4,b6,b7,true,true,true,true,true,b15,b16,b17,b18,b19,by omega,rfl,rfl,rfl,⟨by first | exact c6 | exact fun _=>rfl | (intro q; have:=c6 q; simp at this),by first | exact c7 | exact fun _=>rfl | (intro q; have:=c7 q; simp at this),by first | exact c11 | exact fun _=>rfl | (intro q; have:=c11 q; simp at this),by first | exact c12 | exact fun _=>rfl | (intro q; have:=c12 q; simp at this),by first | exact c13 | exact fun _=>rfl | (intro q; have:=c13 q; simp at this),by first | exact c14 | exact fun _=>rfl | (intro q; have:=c14 q; simp at this),by first | exact c15 | exact fun _=>rfl | (intro q; have:=c15 q; simp at this),by first | exact c16 | exact fun _=>rfl | (intro q; have:=c16 q; simp at this),by first | exact c17 | exact fun _=>rfl | (intro q; have:=c17 q; simp at this),by first | exact c18 | exact fun _=>rfl | (intro q; have:=c18 q; simp at this),by first | exact c19 | exact fun _=>rfl | (intro q; have:=c19 q; simp at this)⟩⟩
 ·simp only [Bool.and_eq_true,Bool.not_eq_true'] at hi2
  obtain ⟨⟨⟨⟨⟨⟨⟨⟨rfl,rfl⟩,rfl⟩,rfl⟩,rfl⟩,rfl⟩,rfl⟩,rfl⟩,rfl⟩:=hi2
  refine wpOp_one (o:=ogW9) (by rfl) rfl ?_
  unfold ogW9
  generalize hK:(fun a' w'=>Irf5 w pb eg el ec cg cl cc gx xl xc k x1 lq vv vm z0 z2 z5 z6 z7 z8 z9 z10 z11 z14 z16 z18 z19 z21 z23 z24 z25 z26 z27 z28 z29 z30 z31 z32 z33 z34 k0 ((arrrf5 b2 true true true true true true true true false b16 b17 b18 b19).setIfInBounds 15 true) a' w')=K
  unfold Oper.wp
  go_simp
  subst hK
  exact ⟨b2,true,true,true,true,true,true,true,true,true,b16,b17,b18,b19,by omega,rfl,rfl,rfl,⟨by first | exact c6 | exact fun _=>rfl | (intro q; have:=c6 q; simp at this),by first | exact c7 | exact fun _=>rfl | (intro q; have:=c7 q; simp at this),by first | exact c11 | exact fun _=>rfl | (intro q; have:=c11 q; simp at this),by first | exact c12 | exact fun _=>rfl | (intro q; have:=c12 q; simp at this),by first | exact c13 | exact fun _=>rfl | (intro q; have:=c13 q; simp at this),by first | exact c14 | exact fun _=>rfl | (intro q; have:=c14 q; simp at this),by first | exact c15 | exact fun _=>rfl | (intro q; have:=c15 q; simp at this),by first | exact c16 | exact fun _=>rfl | (intro q; have:=c16 q; simp at this),by first | exact c17 | exact fun _=>rfl | (intro q; have:=c17 q; simp at this),by first | exact c18 | exact fun _=>rfl | (intro q; have:=c18 q; simp at this),by first | exact c19 | exact fun _=>rfl | (intro q; have:=c19 q; simp at this)⟩⟩
 ·simp only [Bool.and_eq_true,Bool.not_eq_true'] at hi2
  obtain ⟨⟨⟨⟨⟨⟨⟨⟨⟨rfl,rfl⟩,rfl⟩,rfl⟩,rfl⟩,rfl⟩,rfl⟩,rfl⟩,rfl⟩,rfl⟩:=hi2
  refine wpOp_one (o:=ogW10) (by rfl) rfl ?_
  unfold ogW10
  generalize hK:(fun a' w'=>Irf5 w pb eg el ec cg cl cc gx xl xc k x1 lq vv vm z0 z2 z5 z6 z7 z8 z9 z10 z11 z14 z16 z18 z19 z21 z23 z24 z25 z26 z27 z28 z29 z30 z31 z32 z33 z34 k0 ((arrrf5 b2 true true true true true true true true true false b17 b18 b19).setIfInBounds 16 true) a' w')=K
  unfold Oper.wp
  go_simp
  subst hK
  exact ⟨b2,true,true,true,true,true,true,true,true,true,true,b17,b18,b19,by omega,rfl,rfl,rfl,⟨by first | exact c6 | exact fun _=>rfl | (intro q; have:=c6 q; simp at this),by first | exact c7 | exact fun _=>rfl | (intro q; have:=c7 q; simp at this),by first | exact c11 | exact fun _=>rfl | (intro q; have:=c11 q; simp at this),by first | exact c12 | exact fun _=>rfl | (intro q; have:=c12 q; simp at this),by first | exact c13 | exact fun _=>rfl | (intro q; have:=c13 q; simp at this),by first | exact c14 | exact fun _=>rfl | (intro q; have:=c14 q; simp at this),by first | exact c15 | exact fun _=>rfl | (intro q; have:=c15 q; simp at this),by first | exact c16 | exact fun _=>rfl | (intro q; have:=c16 q; simp at this),by first | exact c17 | exact fun _=>rfl | (intro q; have:=c17 q; simp at this),by first | exact c18 | exact fun _=>rfl | (intro q; have:=c18 q; simp at this),by first | exact c19 | exact fun _=>rfl | (intro q; have:=c19 q; simp at this)⟩⟩
 ·simp only [Bool.and_eq_true,Bool.not_eq_true'] at hi2
  obtain ⟨⟨⟨⟨⟨⟨⟨⟨⟨⟨⟨rfl,rfl⟩,rfl⟩,rfl⟩,rfl⟩,rfl⟩,rfl⟩,rfl⟩,rfl⟩,rfl⟩,rfl⟩,rfl⟩:=hi2
  refine wpOp_one (o:=ogW11) (by rfl) rfl ?_
  unfold ogW11
  generalize hK:(fun a' w'=>Irf5 w pb eg el ec cg cl cc gx xl xc k x1 lq vv vm z0 z2 z5 z6 z7 z8 z9 z10 z11 z14 z16 z18 z19 z21 z23 z24 z25 z26 z27 z28 z29 z30 z31 z32 z33 z34 k0 ((arrrf5 true true true true true true true true true true true false b18 b19).setIfInBounds 17 true) a' w')=K
  unfold Oper.wp
  go_simp
  subst hK
  exact ⟨true,true,true,true,true,true,true,true,true,true,true,true,b18,b19,by omega,rfl,rfl,rfl,⟨by first | exact c6 | exact fun _=>rfl | (intro q; have:=c6 q; simp at this),by first | exact c7 | exact fun _=>rfl | (intro q; have:=c7 q; simp at this),by first | exact c11 | exact fun _=>rfl | (intro q; have:=c11 q; simp at this),by first | exact c12 | exact fun _=>rfl | (intro q; have:=c12 q; simp at this),by first | exact c13 | exact fun _=>rfl | (intro q; have:=c13 q; simp at this),by first | exact c14 | exact fun _=>rfl | (intro q; have:=c14 q; simp at this),by first | exact c15 | exact fun _=>rfl | (intro q; have:=c15 q; simp at this),by first | exact c16 | exact fun _=>rfl | (intro q; have:=c16 q; simp at this),by first | exact c17 | exact fun _=>rfl | (intro q; have:=c17 q; simp at this),by first | exact c18 | exact fun _=>rfl | (intro q; have:=c18 q; simp at this),by first | exact c19 | exact fun _=>rfl | (intro q; have:=c19 q; simp at this)⟩⟩
 ·simp only [Bool.and_eq_true,Bool.not_eq_true'] at hi2
  obtain ⟨⟨⟨⟨⟨⟨⟨⟨⟨⟨⟨⟨rfl,rfl⟩,rfl⟩,rfl⟩,rfl⟩,rfl⟩,rfl⟩,rfl⟩,rfl⟩,rfl⟩,rfl⟩,rfl⟩,rfl⟩:=hi2
  refine wpOp_one (o:=ogW12) (by rfl) rfl ?_
  unfold ogW12
  generalize hK:(fun a' w'=>Irf5 w pb eg el ec cg cl cc gx xl xc k x1 lq vv vm z0 z2 z5 z6 z7 z8 z9 z10 z11 z14 z16 z18 z19 z21 z23 z24 z25 z26 z27 z28 z29 z30 z31 z32 z33 z34 k0 ((arrrf5 true true true true true true true true true true true true false b19).setIfInBounds 18 true) a' w')=K
  unfold Oper.wp
  go_simp
  subst hK
  exact ⟨true,true,true,true,true,true,true,true,true,true,true,true,true,b19,by omega,rfl,rfl,rfl,⟨by first | exact c6 | exact fun _=>rfl | (intro q; have:=c6 q; simp at this),by first | exact c7 | exact fun _=>rfl | (intro q; have:=c7 q; simp at this),by first | exact c11 | exact fun _=>rfl | (intro q; have:=c11 q; simp at this),by first | exact c12 | exact fun _=>rfl | (intro q; have:=c12 q; simp at this),by first | exact c13 | exact fun _=>rfl | (intro q; have:=c13 q; simp at this),by first | exact c14 | exact fun _=>rfl | (intro q; have:=c14 q; simp at this),by first | exact c15 | exact fun _=>rfl | (intro q; have:=c15 q; simp at this),by first | exact c16 | exact fun _=>rfl | (intro q; have:=c16 q; simp at this),by first | exact c17 | exact fun _=>rfl | (intro q; have:=c17 q; simp at this),by first | exact c18 | exact fun _=>rfl | (intro q; have:=c18 q; simp at this),by first | exact c19 | exact fun _=>rfl | (intro q; have:=c19 q; simp at this)⟩⟩
 ·simp only [Bool.and_eq_true,Bool.not_eq_true'] at hi2
  obtain ⟨⟨⟨⟨⟨⟨⟨⟨⟨⟨⟨⟨⟨rfl,rfl⟩,rfl⟩,rfl⟩,rfl⟩,rfl⟩,rfl⟩,rfl⟩,rfl⟩,rfl⟩,rfl⟩,rfl⟩,rfl⟩,rfl⟩:=hi2
  refine wpOp_one (o:=ogW13) (by rfl) rfl ?_
  unfold ogW13
  generalize hK:(fun a' w'=>Irf5 w pb eg el ec cg cl cc gx xl xc k x1 lq vv vm z0 z2 z5 z6 z7 z8 z9 z10 z11 z14 z16 z18 z19 z21 z23 z24 z25 z26 z27 z28 z29 z30 z31 z32 z33 z34 k0 ((arrrf5 true true true true true true true true true true true true true false).setIfInBounds 19 true) a' w')=K
  unfold Oper.wp
  go_simp
  subst hK
  exact ⟨true,true,true,true,true,true,true,true,true,true,true,true,true,true,by omega,rfl,rfl,rfl,⟨by first | exact c6 | exact fun _=>rfl | (intro q; have:=c6 q; simp at this),by first | exact c7 | exact fun _=>rfl | (intro q; have:=c7 q; simp at this),by first | exact c11 | exact fun _=>rfl | (intro q; have:=c11 q; simp at this),by first | exact c12 | exact fun _=>rfl | (intro q; have:=c12 q; simp at this),by first | exact c13 | exact fun _=>rfl | (intro q; have:=c13 q; simp at this),by first | exact c14 | exact fun _=>rfl | (intro q; have:=c14 q; simp at this),by first | exact c15 | exact fun _=>rfl | (intro q; have:=c15 q; simp at this),by first | exact c16 | exact fun _=>rfl | (intro q; have:=c16 q; simp at this),by first | exact c17 | exact fun _=>rfl | (intro q; have:=c17 q; simp at this),by first | exact c18 | exact fun _=>rfl | (intro q; have:=c18 q; simp at this),by first | exact c19 | exact fun _=>rfl | (intro q; have:=c19 q; simp at this)⟩⟩
 ·cases hi2
set_option maxRecDepth 100000 in
set_option maxHeartbeats 8000000 in
theorem rf5_l (w0 w:World) (pb eg el ec cg cl cc gx xl xc k x1 lq:Nat) (vv:Int) (vm:Value) (p1:w.cell? ⟨pb,1,none⟩=some (.slice (some ⟨eg,0,none⟩) el ec)) (p3:w.cell? ⟨pb,3,none⟩=some (.slice (some ⟨cg,0,none⟩) cl cc)) (hc:w.cell? ⟨cg,k,none⟩=some (.slice (some ⟨gx,0,none⟩) xl xc)) (hx:w.cell? ⟨gx,x1,none⟩=some (.int .i64 (lq:Int))) (he:w.cell? ⟨eg,lq * 6 + 4,none⟩=some (.int .i64 vv)) (hk:(k:Int) < (cl:Int)) (hw1:IntKind.i64.wrap ((xl:Int) - 1)=(x1:Int)) (h1:(x1:Int) < (xl:Int)) (hq:(lq:Int) < (el:Int)) (M:List Int) (hM:MI w0 w 3 1 vm M.length (nints M) []) (hMl:M.length≤1000) (z0 z2 z5 z6 z7 z8 z9 z10 z11 z12 z13 z14 z15 z16 z17 z18 z19 z20 z21 z22 z23 z24 z25 z26 z27 z28 z29 z30 z31 z32 z33 z34:Value) (Q:Exit→Act→World→Prop)
  (hQp:∀ c (a:Act) (d:Tmp) v w,Q (.panic c) (a.put (some d) v) w→Q (.panic c) a w)
  (hQ:∀ (y12 y13 y14 y15 y16 y17 y18 y19 y20 y21 y22 y23 y24 y25 y26 y27 y28 y29 y30 y31 y32 y33 v3:Value) (W':World),MI w0 W' 3 1 v3 (M.length + 1) (nints M ++ [.int .i64 vv]) []→Q .normal { tmps:=(z0::.pointer (some ⟨pb,0,none⟩)::z2::v3::.int .i64 (k:Int)::z5::z6::z7::z8::z9::z10::z11::y12::y13::y14::y15::y16::y17::y18::y19::y20::y21::y22::y23::y24::y25::y26::y27::y28::y29::y30::y31::y32::y33::z34::[]).toArray,defers:=[] } W') :
  Code.wp Try.prog (Code.region 5 rgW0 true) Q { tmps:=(z0::.pointer (some ⟨pb,0,none⟩)::z2::vm::.int .i64 (k:Int)::z5::z6::z7::z8::z9::z10::z11::z12::z13::z14::z15::z16::z17::z18::z19::z20::z21::z22::z23::z24::z25::z26::z27::z28::z29::z30::z31::z32::z33::z34::[]).toArray,defers:=[] } w:=by
 unfold rgW0
 refine wp_region_any (by kernel_rfl) ?_
 have hB:=hM.drew
 have hD:Below w.heap.size w (World.drew w):=bel_drewN w 1
 clear hM
 have p1:=cell_next p1 hD
 have p3:=cell_next p3 hD
 have hc:=cell_next hc hD
 have hx:=cell_next hx hD
 have he:=cell_next he hD
 change wpAny _ _ _ _ _ _ _ (World.drew _)
 generalize World.drew w=W at hB p1 p3 hc hx he ⊢
 refine wpAny_take (i:=0) (v:=vm) rfl (by kernel_rfl) (by kernel_rfl) (by kernel_rfl) (fun c a w=>hQp c a _ _ w) (Or.inl ⟨by rfl,?_⟩) ?_
 ·intro w
  go_simp
 refine wpAny_take (i:=1) (v:=.pointer (some ⟨pb,1,none⟩)) rfl (by kernel_rfl) (by kernel_rfl) (by kernel_rfl) (fun c a w=>hQp c a _ _ w) (Or.inl ⟨by rfl,?_⟩) ?_
 ·intro w
  go_simp
 refine wpAny_take (i:=3) (v:=.pointer (some ⟨pb,3,none⟩)) rfl (by kernel_rfl) (by kernel_rfl) (by kernel_rfl) (fun c a w=>hQp c a _ _ w) (Or.inl ⟨by rfl,?_⟩) ?_
 ·intro w
  go_simp
 refine wpAny_take (i:=5) (v:=.int .i64 (k:Int)) rfl (by kernel_rfl) (by kernel_rfl) (by kernel_rfl) (fun c a w=>hQp c a _ _ w) (Or.inl ⟨by rfl,?_⟩) ?_
 ·intro w
  go_simp
 refine wpAny_take (i:=8) (v:=.pointer (some ⟨pb,3,none⟩)) rfl (by kernel_rfl) (by kernel_rfl) (by kernel_rfl) (fun c a w=>hQp c a _ _ w) (Or.inl ⟨by rfl,?_⟩) ?_
 ·intro w
  go_simp
 refine wpAny_take (i:=10) (v:=.int .i64 (k:Int)) rfl (by kernel_rfl) (by kernel_rfl) (by kernel_rfl) (fun c a w=>hQp c a _ _ w) (Or.inl ⟨by rfl,?_⟩) ?_
 ·intro w
  go_simp
 show wpAny _ _ opsrf5 _ (3 + 14) _ _ _
 refine wpAny_inv (I:=Irf5 W pb eg el ec cg cl cc gx xl xc k x1 lq vv vm z0 z2 z5 z6 z7 z8 z9 z10 z11 z14 z16 z18 z19 z21 z23 z24 z25 z26 z27 z28 z29 z30 z31 z32 z33 z34) (fun k0 L a w=>steprf5 W pb eg el ec cg cl cc gx xl xc k x1 lq vv vm p1 p3 hc hx he hk hw1 h1 hq z0 z2 z5 z6 z7 z8 z9 z10 z11 z14 z16 z18 z19 z21 z23 z24 z25 z26 z27 z28 z29 z30 z31 z32 z33 z34 Q k0 L a w) ?_ 14 _ _ _ ⟨false,false,false,false,false,false,false,false,false,false,false,false,false,false,by kernel_rfl,by kernel_rfl,by kernel_rfl,rfl,by simp [conrf5]⟩
 rintro L a w1 ⟨b2,b4,b6,b7,b9,b11,b12,b13,b14,b15,b16,b17,b18,b19,hk0,rfl,rfl,hw1e,-⟩
 subst hw1e
 obtain ⟨rfl,rfl,rfl,rfl,rfl,rfl,rfl,rfl,rfl,rfl,rfl,rfl,rfl,rfl⟩:b2=true∧b4=true∧b6=true∧b7=true∧b9=true∧b11=true∧b12=true∧b13=true∧b14=true∧b15=true∧b16=true∧b17=true∧b18=true∧b19=true:=⟨nb0 _ (by omega),nb0 _ (by omega),nb0 _ (by omega),nb0 _ (by omega),nb0 _ (by omega),nb0 _ (by omega),nb0 _ (by omega),nb0 _ (by omega),nb0 _ (by omega),nb0 _ (by omega),nb0 _ (by omega),nb0 _ (by omega),nb0 _ (by omega),nb0 _ (by omega)⟩
 clear hk0
 refine wpAny_all (rs:=[20]) (by kernel_rfl) (by simp) ?_
 intro i hi
 simp only [List.mem_singleton] at hi
 subst hi
 have hB5:=hB.alloc (Obj.cells ([.int .i64 vv]:List Value).toArray 3 (0,0))
 clear hB
 have hB:=hB5
 clear hB5
 refine wpOp_one (o:=ogW14) (by rfl) rfl ?_
 unfold ogW14
 unfold Oper.wp
 go_simp
 refine wpAny_all (rs:=[21]) (by kernel_rfl) (by simp) ?_
 intro i hi
 simp only [List.mem_singleton] at hi
 subst hi
 obtain ⟨v9,W9,hr9,hB9⟩:=hB.app (t:=22) (e0:=3) (z:=.int .i64 0) (bytes:=8) Try.underlying22 infoInt rfl (by omega) (by omega) 22 (some ⟨w1.heap.size,0,none⟩) 1 1 [.int .i64 vv] rfl (.inr ⟨_,rfl,into_src hB (List.mem_cons_self ..)⟩) (by intro u hu; simp at hu; subst hu; rfl) (by omega)
 clear hB
 have hB:=hB9
 clear hB9
 refine wpOp_one (o:=ogW15) (by rfl) rfl ?_
 unfold ogW15
 refine appOp (Operand.tmp 12) (Operand.tmp 32) 22 rfl (by kernel_rfl) (by kernel_rfl) hr9 ?_
 refine wpAny_all (rs:=[22]) (by kernel_rfl) (by simp) ?_
 intro i hi
 simp only [List.mem_singleton] at hi
 subst hi
 refine wpOp_one (o:=ogW16) (by rfl) rfl ?_
 unfold ogW16
 unfold Oper.wp
 go_simp
 refine wpAny_done (by kernel_rfl) ?_ _
 exact hQ _ _ _ _ _ _ _ _ _ _ _ _ _ _ _ _ _ _ _ _ _ _ v9 W9 ⟨hB.own,fun _ h=>absurd h (List.not_mem_nil),hB.bel⟩
set_option maxRecDepth 100000 in
set_option maxHeartbeats 16000000 in
theorem rfinal_any (P:Nat→Prop) (g:G8) (E:List Ev) (C:List (List Int)) (cvs:List Value) (w:World) (h:GOk P w g E C cvs) :
  Calls Try.prog 12 #[g.v] w fun e w'=>(∃ v,e=.returned v∧LV w' v (fin8 E C))∧Below w.heap.size w w':=by
 obtain ⟨gn,ve,vr,vc,p4,p5,p6,p7⟩:=g
 have HG:=Lib.hid h
 have hC:(C.length:Int)≤4:=by have:=h.cl; omega
 have hE:(E.length:Int)≤100:=by have:=h.el; omega
 obtain ⟨⟨ra,rn,rc,e1⟩,⟨a4,n4,c4,e4⟩,⟨a5,n5,c5,e5⟩,⟨a6,n6,c6,e6⟩,⟨a7,n7,c7,e7⟩⟩:=h.sl
 obtain ⟨ea,ec,e2⟩:=own_len h.ev
 obtain ⟨ca,cc,e3⟩:=own_len h.co.own
 dsimp only at e1 e2 e3 e4 e5 e6 e7
 subst e1 e2 e3 e4 e5 e6 e7
 obtain ⟨w1,hw1⟩:∃ x,x=w.alloc (Obj.cells #[.int .i64 gn,.slice ea E.length ec,.slice ra rn rc,.slice ca C.length cc,.slice a4 n4 c4,.slice a5 n5 c5,.slice a6 n6 c6,.slice a7 n7 c7] 38 (0,0)):=⟨_,rfl⟩
 obtain ⟨pb,hpb⟩:∃ x,x=w.heap.size:=⟨_,rfl⟩
 have HPB:Hid (w1.heap[pb]?=some (Obj.cells #[.int .i64 gn,.slice ea E.length ec,.slice ra rn rc,.slice ca C.length cc,.slice a4 n4 c4,.slice a5 n5 c5,.slice a6 n6 c6,.slice a7 n7 c7] 38 (0,0))):=Lib.hid (by rw [hw1,hpb]; exact heap_alloc_new _ _)
 have HB1:Hid (Below w.heap.size w w1):=Lib.hid (by rw [hw1]; exact (Below.refl _ _).alloc (Nat.le_refl _) _)
 have HSZ:Hid (w.heap.size=pb):=Lib.hid hpb.symm
 have HW1:=Lib.hid hw1.symm
 have HG1:=Lib.hid (HG.out.next HB1.out)
 have HFL:Hid ((fin8 E C).length=C.length):=Lib.hid (by simp [fin8])
 clear hw1 hpb h
 unfold G8.v
 dsimp only
 go_enter Try.func12,Try.ntmps12
 go_upto_region 1 with (fail)
 rw [HSZ.out,HW1.out]
 go_wp2_with fail
 go_loopw [3,4] (fun x3 x4 wr=>∃ (k:Nat),k≤C.length∧x4=.int .i64 (k:Int)∧Hid (MI w1 wr 3 1 x3 k (nints ((fin8 E C).take k)) [])) (fun _ x4 _=>C.length - (intOf x4).toNat)
 case atStart=>exact ⟨0,Nat.zero_le _,rfl,Lib.hid (MI.nil _ _ _)⟩
 case round=>
  obtain ⟨k,hk,rfl,HM⟩:=hrel
  have hki:(k:Int)≤4:=by omega
  obtain ⟨ma,mc,rfl⟩:=own_len HM.out.own
  have HPr:=Lib.hid ((HM.out.bel.block pb (blk_lt HPB.out)).trans HPB.out)
  have p3:wr.cell? ⟨pb,3,none⟩=some (.slice ca C.length cc):=cell_of_row _ _ _ _ _ _ HPr.out
  by_cases hlt:k < C.length
  ·have d1:decide ((k:Int) < (C.length:Int))=true:=by rw [decide_eq_true_iff]; omega
   have i1:(k:Int) < (C.length:Int):=by omega
   have HGr:=Lib.hid (HG1.out.next HM.out.bel)
   obtain ⟨cg,cc',hce,hcg,hcl⟩:=HGr.out.co.cell hlt
   simp only [Value.slice.injEq] at hce
   obtain ⟨rfl,-,rfl⟩:=hce
   have hel:=HGr.out.co.el k hlt
   have hok:=(HGr.out.ok k hlt).1
   have hc100:=(HGr.out.ok k hlt).2
   have HFG:=Lib.hid (fin8_get E C k hlt)
   generalize cvs.getD k undef=cv at *
   generalize C.getD k []=c at *
   obtain ⟨xa,xc,rfl⟩:=own_len hel
   have hlp:0 < c.length:=List.length_pos_iff.2 hok.1
   obtain ⟨hx0,hx1⟩:=last_in hok
   obtain ⟨gx,hxa,-,-,-,hcx⟩:=own_cell hel (i:=c.length - 1) (by omega) rfl
   subst hxa
   obtain ⟨lq,hlq⟩:∃ q:Nat,lastOf c=(q:Int):=⟨(lastOf c).toNat,by omega⟩
   have hlqE:lq < E.length:=by omega
   have hcx2:wr.cell? ⟨gx,c.length - 1,none⟩=some (.int .i64 (lq:Int)):=by rw [← hlq]; exact hcx
   obtain ⟨eg,ec',hee,heg,-,e0,e1,e2,e3,e4,e5⟩:=evs_at HGr.out.ev hlqE
   simp only [Value.slice.injEq] at hee
   obtain ⟨rfl,-,rfl⟩:=hee
   have p1:wr.cell? ⟨pb,1,none⟩=some (.slice (some ⟨eg,0,none⟩) E.length ec):=cell_of_row _ _ _ _ _ _ HPr.out
   have hw1:IntKind.i64.wrap ((c.length:Int) - 1)=((c.length - 1:Nat):Int):=by
    rw [wrapI,wrap_same (by omega)]; omega
   have HTK:Hid ((fin8 E C).take (k + 1)=(fin8 E C).take k ++ [(E.getD lq Ev.zero).vl]):=Lib.hid (by
    rw [take_one (by rw [HFL.out]; exact hlt) 0,HFG.out]; unfold finV; rw [hlq]; rfl)
   have htl:((fin8 E C).take k).length=k:=by rw [List.length_take,HFL.out]; omega
   have HLS:Hid ((k:Int) < (C.length:Int)∧((c.length - 1:Nat):Int) < (c.length:Int)∧(lq:Int) < (E.length:Int)∧((fin8 E C).take k).length≤1000∧((fin8 E C).take k).length=k):=Lib.hid ⟨by omega,by omega,by omega,by omega,htl⟩
   have HMT:Hid (MI w1 wr 3 1 (.slice ma k mc) ((fin8 E C).take k).length (nints ((fin8 E C).take k)) []):=Lib.hid (by rw [htl]; exact HM.out)
   have HHS:=Lib.hid (And.intro p1 (And.intro p3 (And.intro hcl (And.intro hcx2 (And.intro e4 hw1)))))
   clear e0 e1 e2 e3 e4 e5 hx0 hx1 hlqE hcx hlp hlq hel hok htl hw1 hcx2 hcl p1
   go_wp2_with fail
   refine rf5_l w1 wr pb eg E.length _ cg C.length _ gx c.length xc k (c.length - 1) lq (E.getD lq Ev.zero).vl _ HHS.out.1 HHS.out.2.1 HHS.out.2.2.1 HHS.out.2.2.2.1 HHS.out.2.2.2.2.1 HLS.out.1 HHS.out.2.2.2.2.2 HLS.out.2.1 HLS.out.2.2.1 ((fin8 E C).take k) HMT.out HLS.out.2.2.2.1 _ _ _ _ _ _ _ _ _ _ _ _ _ _ _ _ _ _ _ _ _ _ _ _ _ _ _ _ _ _ _ _ _ (fun _ _ _ _ _ h=>h) ?_
   intro y12 y13 y14 y15 y16 y17 y18 y19 y20 y21 y22 y23 y24 y25 y26 y27 y28 y29 y30 y31 y32 y33 v3 W2 hM2
   have HM2:Hid (MI w1 W2 3 1 v3 (k + 1) (nints ((fin8 E C).take (k + 1))) []):=Lib.hid (by
    rw [HTK.out,nints_app]
    have:=hM2
    rw [HLS.out.2.2.2.2] at this
    exact this)
   clear hM2 p3
   go_wp2_with fail
   go_roundw
   case rel=>exact ⟨k + 1,hlt,by go_num,HM2⟩
   case measure=>simp [intOf]; omega
  ·have d1:decide ((k:Int) < (C.length:Int))=false:=by rw [decide_eq_false_iff_not]; omega
   have i1:¬ (k:Int) < (C.length:Int):=by omega
   have e:k=C.length:=by omega
   go_wp2_with fail
   go_ret
   refine ⟨⟨_,rfl,?_⟩,below_next HB1.out HM.out.bel⟩
   have h1:=HM.out.own
   rw [List.take_of_length_le (by rw [HFL.out]; omega)] at h1
   rw [e] at h1
   exact LV.of_own (w0:=w1) (n:=C.length) h1 HFL.out.symm
end Go.Proofs.Yteghpophcnehgaa
namespace Go.Proofs.Yteghpophcnehgaa
open Go.RowKit ExprA SndA
theorem same_any (v1 v2:Value) (L:List Int) (w:World) (h1:LV w v1 L) (h2:LV w v2 L) (hL:L.length≤1000) :
  Calls Try.prog 10 #[v1,v2] w fun e w'=>e=.returned (.bool true)∧Below w.heap.size w w':=by
 have H1:=Lib.hid h1
 have H2:=Lib.hid h2
 have hLi:(L.length:Int)≤1000:=by omega
 obtain ⟨a1,c1,rfl⟩:=own_len h1
 obtain ⟨a2,c2,rfl⟩:=own_len h2
 clear h1 h2
 go_enter Try.func10,Try.ntmps10
 go_wp2_with fail
 go_loopw [5] (fun x5 wr=>∃ (k:Nat),k≤L.length∧x5=.int .i64 (k:Int)∧Hid (Below w.heap.size w wr)) (fun x5 _=>L.length - (intOf x5).toNat)
 case atStart=>exact ⟨0,Nat.zero_le _,rfl,Lib.hid (Below.refl _ _)⟩
 case round=>
  obtain ⟨k,hk,rfl,HB⟩:=hrel
  have hki:(k:Int)≤1000:=by omega
  by_cases hlt:k < L.length
  ·have d1:decide ((k:Int) < (L.length:Int))=true:=by rw [decide_eq_true_iff]; omega
   have i1:(k:Int) < (L.length:Int):=by omega
   obtain ⟨g1,ha1,-,-,-,hx1⟩:=own_cell (H1.out.next HB.out) hlt rfl
   obtain ⟨g2,ha2,-,-,-,hx2⟩:=own_cell (H2.out.next HB.out) hlt rfl
   subst ha1 ha2
   generalize L.getD k 0=y at *
   go_wp2_with fail
   go_quiet (fail)
   go_wp2_with fail
   go_roundw
   case rel=>exact ⟨k + 1,hlt,by go_num,Lib.hid (below_next HB.out (bel_drewN _ _))⟩
   case measure=>simp [intOf]; omega
  ·have d1:decide ((k:Int) < (L.length:Int))=false:=by rw [decide_eq_false_iff_not]; omega
   have i1:¬ (k:Int) < (L.length:Int):=by omega
   go_wp2_with fail
   go_ret
   exact ⟨rfl,HB.out⟩
end Go.Proofs.Yteghpophcnehgaa
