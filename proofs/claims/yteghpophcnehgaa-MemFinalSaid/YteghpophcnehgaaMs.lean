/-
  What the functions that the law reaches do, one by one: contracts. Conditions: those that each of them prints.
-/
import Derived.Test.YteghpophcnehgaaMr
import Derived.WalkKit
namespace Go.Proofs.Yteghpophcnehgaa
open Go.RowKit ExprA SndA
def opsfaR:Array Oper:=#[{ dst:=some 26,op:=Op.move (Operand.tmp 0),type:=94,pos := "ref.go:129", after:=#[],guard:=none },{ dst:=some 27,op:=Op.fieldAddr 47 (Operand.tmp 3) 4,type:=0,pos := "ref.go:129", after:=#[],guard:=none },{ dst:=some 28,op:=Op.load 3 (Operand.tmp 27),type:=3,pos := "ref.go:129", after:=#[{ on:=1,ground:=Ground.data }],guard:=none },{ dst:=some 29,op:=Op.fieldAddr 47 (Operand.tmp 3) 2,type:=0,pos := "ref.go:129", after:=#[],guard:=none },{ dst:=some 30,op:=Op.load 3 (Operand.tmp 29),type:=3,pos := "ref.go:129", after:=#[{ on:=3,ground:=Ground.data }],guard:=none },{ dst:=some 31,op:=Op.move (Operand.tmp 0),type:=94,pos := "ref.go:129", after:=#[],guard:=none },{ dst:=some 32,op:=Op.nilCheck (Operand.tmp 31),type:=0,pos := "ref.go:129", after:=#[{ on:=5,ground:=Ground.data }],guard:=none },{ dst:=some 33,op:=Op.fieldAddr 98 (Operand.tmp 32) 0,type:=0,pos := "ref.go:129", after:=#[{ on:=6,ground:=Ground.data }],guard:=none },{ dst:=some 34,op:=Op.fieldAddr 76 (Operand.tmp 33) 6,type:=0,pos := "ref.go:129", after:=#[{ on:=7,ground:=Ground.data }],guard:=none },{ dst:=some 35,op:=Op.load 22 (Operand.tmp 34),type:=22,pos := "ref.go:129", after:=#[{ on:=8,ground:=Ground.data }],guard:=none },{ dst:=some 36,op:=Op.fieldAddr 47 (Operand.tmp 3) 3,type:=0,pos := "ref.go:129", after:=#[],guard:=none },{ dst:=some 37,op:=Op.load 3 (Operand.tmp 36),type:=3,pos := "ref.go:129", after:=#[{ on:=10,ground:=Ground.data }],guard:=none },{ dst:=some 38,op:=Op.indexAddr 22 (Operand.tmp 35) (Operand.tmp 37),type:=0,pos := "ref.go:129", after:=#[{ on:=9,ground:=Ground.data },{ on:=11,ground:=Ground.data }],guard:=none },{ dst:=some 39,op:=Op.load 3 (Operand.tmp 38),type:=3,pos := "ref.go:129", after:=#[{ on:=12,ground:=Ground.data }],guard:=none },{ dst:=some 40,op:=Op.move (Operand.tmp 5),type:=3,pos := "ref.go:129", after:=#[],guard:=none },{ dst:=some 41,op:=Op.binOp BinOp.add 3 (Operand.tmp 39) (Operand.tmp 40) 3,type:=3,pos := "ref.go:129", after:=#[{ on:=13,ground:=Ground.data },{ on:=14,ground:=Ground.data }],guard:=none },{ dst:=some 42,op:=Op.move (Operand.tmp 4),type:=22,pos := "ref.go:129", after:=#[],guard:=none },{ dst:=some 43,op:=Op.move (Operand.tmp 0),type:=94,pos := "ref.go:129", after:=#[],guard:=none },{ dst:=some 44,op:=Op.fieldAddr 47 (Operand.tmp 3) 3,type:=0,pos := "ref.go:129", after:=#[],guard:=none },{ dst:=some 45,op:=Op.load 3 (Operand.tmp 44),type:=3,pos := "ref.go:129", after:=#[{ on:=18,ground:=Ground.data }],guard:=none },{ dst:=some 46,op:=Op.nilCheck (Operand.tmp 43),type:=0,pos := "ref.go:129", after:=#[{ on:=17,ground:=Ground.data }],guard:=none },{ dst:=some 47,op:=Op.fieldAddr 98 (Operand.tmp 46) 2,type:=0,pos := "ref.go:129", after:=#[{ on:=20,ground:=Ground.data }],guard:=none },{ dst:=some 48,op:=Op.indexAddr 96 (Operand.tmp 47) (Operand.tmp 45),type:=0,pos := "ref.go:129", after:=#[{ on:=21,ground:=Ground.data },{ on:=19,ground:=Ground.data }],guard:=none },{ dst:=some 49,op:=Op.load 22 (Operand.tmp 48),type:=22,pos := "ref.go:129", after:=#[{ on:=22,ground:=Ground.data }],guard:=none },{ dst:=some 50,op:=Op.call { callee:=Callee.value (Operand.func 77),args:=#[Operand.tmp 42,Operand.tmp 49],argTypes:=#[22,22] },type:=22,pos := "ref.go:129", after:=#[{ on:=16,ground:=Ground.data },{ on:=23,ground:=Ground.data }],guard:=none },{ dst:=some 51,op:=Op.call { callee:=Callee.value (Operand.func 51),args:=#[Operand.tmp 26,Operand.tmp 28,Operand.tmp 30,Operand.const (Value.bool true),Operand.tmp 41,Operand.tmp 50],argTypes:=#[94,3,3,4,3,22] },type:=0,pos := "ref.go:129", after:=#[{ on:=0,ground:=Ground.data },{ on:=2,ground:=Ground.data },{ on:=4,ground:=Ground.data },{ on:=15,ground:=Ground.data },{ on:=24,ground:=Ground.data },{ on:=24,ground:=Ground.chain }],guard:=none }]
def arrfaR (b2 b4 b9 b11 b12 b13 b15 b19 b22 b23 b24:Bool):Array Bool:=#[true,true,b2,true,b4,true,true,true,true,b9,true,b11,b12,b13,true,b15,true,true,true,b19,true,true,b22,b23,b24,false]
def confaR (_b2 _b4 b9 b11 b12 b13 b15 b19 b22 b23 b24:Bool):Bool:=(!b12 || (b9 && b11)) && (!b13 || (b12)) && (!b15 || (b13)) && (!b22 || (b19)) && (!b23 || (b22)) && (!b24 || (b23))
def chkfaR (b2 b4 b9 b11 b12 b13 b15 b19 b22 b23 b24:Bool):Bool:=
 let r:=Region.ready .any opsfaR (arrfaR b2 b4 b9 b11 b12 b13 b15 b19 b22 b23 b24)
 !confaR b2 b4 b9 b11 b12 b13 b15 b19 b22 b23 b24 || (b2 && b4 && b9 && b11 && b12 && b13 && b15 && b19 && b22 && b23 && b24) || (!r.isEmpty && r.all fun i=>match i with | 2=>!b2 | 4=>!b4 | 9=>!b9 | 11=>!b11 | 12=>b9 && b11 && !b12 | 13=>b12 && !b13 | 15=>b13 && !b15 | 19=>!b19 | 22=>b19 && !b22 | 23=>b22 && !b23 | 24=>b23 && !b24 | _=>false)
theorem rdyfaR':(allB fun b2=>allB fun b4=>allB fun b9=>allB fun b11=>allB fun b12=>allB fun b13=>allB fun b15=>allB fun b19=>allB fun b22=>allB fun b23=>allB fun b24=>chkfaR b2 b4 b9 b11 b12 b13 b15 b19 b22 b23 b24)=true:=by kernel_rfl
theorem rdyfaR (b2 b4 b9 b11 b12 b13 b15 b19 b22 b23 b24:Bool):chkfaR b2 b4 b9 b11 b12 b13 b15 b19 b22 b23 b24=true:=allB_at (allB_at (allB_at (allB_at (allB_at (allB_at (allB_at (allB_at (allB_at (allB_at (allB_at rdyfaR' b2) b4) b9) b11) b12) b13) b15) b19) b22) b23) b24
namespace SndA
def IfaR (wA:World) (_w0:WK) (s gb xb:Nat) (_ve _vr:Value) (_E:List Ev) (_rm:List (Int × Int)) (_used:Int) (_rg:List Int) (_sh:Bool) (im:Nat→Value) (li:Nat→List Int) (_pi:Nat→List (Int × Int)) (loc m2 add x:Int) (r:Nat) (z1 z2 z6 z7 z8 z9 z10 z11 z12 z13 z14 z15 z16 z17 z18 z19 z20 z21 z22 z23 z24 z25 z28 z30 z35 z37 z38 z39 z41 z45 z48 z49 z50 z51:Value) (k:Nat) (L:Array Bool) (a:Act) (w:World):Prop:=
 ∃ (b2 b4 b9 b11 b12 b13 b15 b19 b22 b23 b24:Bool) (vO:Value) (l:List Int),k=nb b2 + nb b4 + nb b9 + nb b11 + nb b12 + nb b13 + nb b15 + nb b19 + nb b22 + nb b23 + nb b24∧L=arrfaR b2 b4 b9 b11 b12 b13 b15 b19 b22 b23 b24∧a={ tmps:=(.pointer (some ⟨s,0,none⟩)::z1::z2::.pointer (some ⟨xb,0,none⟩)::im 19::.int .i64 add::z6::z7::z8::z9::z10::z11::z12::z13::z14::z15::z16::z17::z18::z19::z20::z21::z22::z23::z24::z25::.pointer (some ⟨s,0,none⟩)::.pointer (some ⟨xb,4,none⟩)::(bif b2 then .int .i64 loc else z28)::.pointer (some ⟨xb,2,none⟩)::(bif b4 then .int .i64 m2 else z30)::.pointer (some ⟨s,0,none⟩)::.pointer (some ⟨s,0,none⟩)::.pointer (some ⟨s,0,none⟩)::.pointer (some ⟨s,6,none⟩)::(bif b9 then .slice (some ⟨gb,0,none⟩) 8 8 else z35)::.pointer (some ⟨xb,3,none⟩)::(bif b11 then .int .i64 (r:Int) else z37)::(bif b12 then .pointer (some ⟨gb,r,none⟩) else z38)::(bif b13 then .int .i64 x else z39)::.int .i64 add::(bif b15 then .int .i64 (IntKind.i64.wrap (x + add)) else z41)::im 19::.pointer (some ⟨s,0,none⟩)::.pointer (some ⟨xb,3,none⟩)::(bif b19 then .int .i64 (r:Int) else z45)::.pointer (some ⟨s,0,none⟩)::.pointer (some ⟨s,8,none⟩)::(bif b22 then .pointer (some ⟨s,8 + r,none⟩) else z48)::(bif b23 then im (8 + r) else z49)::(bif b24 then vO else z50)::z51::[]).toArray,defers:=[] }∧Below wA.heap.size wA w∧(b24=true→LV w vO l∧BothOk (li 19) (li (8 + r)) l∧NewV wA (im 19) vO)∧confaR b2 b4 b9 b11 b12 b13 b15 b19 b22 b23 b24=true
end SndA
set_option maxRecDepth 100000 in
set_option maxHeartbeats 8000000 in
theorem stepfaR (wA:World) (w0:WK) (s gb xb:Nat) (ve vr:Value) (E:List Ev) (rm:List (Int × Int)) (used:Int) (rg:List Int) (sh:Bool) (im:Nat→Value) (li:Nat→List Int) (pi:Nat→List (Int × Int)) (loc m2 add x:Int) (r:Nat) (h:RS w0 wA s gb ve vr E rm used rg sh im li pi) (x4:wA.cell? ⟨xb,4,none⟩=some (.int .i64 loc)) (x2:wA.cell? ⟨xb,2,none⟩=some (.int .i64 m2)) (x3:wA.cell? ⟨xb,3,none⟩=some (.int .i64 (r:Int))) (hr:r < 8) (hri:(r:Int) < 8) (hx:rg.getD r 0=x) (_hE:E.length≤1000) (_hrm:rm.length≤1000) (_h2:(pi 2).length≤90) (hl:(li 19).length + (li (8 + r)).length≤902) (_h3:(pi 3).length + (li 16).length≤1000) (_h4:(pi 4).length + (li 17).length≤1000) (z1 z2 z6 z7 z8 z9 z10 z11 z12 z13 z14 z15 z16 z17 z18 z19 z20 z21 z22 z23 z24 z25 z28 z30 z35 z37 z38 z39 z41 z45 z48 z49 z50 z51:Value) (Q:Exit→Act→World→Prop) (k:Nat) (L:Array Bool) (a:Act) (w:World) (h:IfaR wA w0 s gb xb ve vr E rm used rg sh im li pi loc m2 add x r z1 z2 z6 z7 z8 z9 z10 z11 z12 z13 z14 z15 z16 z17 z18 z19 z20 z21 z22 z23 z24 z25 z28 z30 z35 z37 z38 z39 z41 z45 z48 z49 z50 z51 (k + 1) L a w) :
  Region.ready .any opsfaR L ≠ []∧∀ i' ∈ Region.ready .any opsfaR L,wpOp Try.prog opsfaR Q i' (fun a' w'=>IfaR wA w0 s gb xb ve vr E rm used rg sh im li pi loc m2 add x r z1 z2 z6 z7 z8 z9 z10 z11 z12 z13 z14 z15 z16 z17 z18 z19 z20 z21 z22 z23 z24 z25 z28 z30 z35 z37 z38 z39 z41 z45 z48 z49 z50 z51 k (L.setIfInBounds i' true) a' w') a w:=by
 obtain ⟨b2,b4,b9,b11,b12,b13,b15,b19,b22,b23,b24,vO,l,hk,rfl,rfl,hB,f0,hcon⟩:=h
 have hnt:nb true=0:=rfl
 have hnf:nb false=1:=rfl
 have hc:=rdyfaR b2 b4 b9 b11 b12 b13 b15 b19 b22 b23 b24
 unfold chkfaR at hc
 have hn:(b2 && b4 && b9 && b11 && b12 && b13 && b15 && b19 && b22 && b23 && b24)=false:=by
  cases hq:(b2 && b4 && b9 && b11 && b12 && b13 && b15 && b19 && b22 && b23 && b24) with
  | false=>rfl
  | true=>
   simp only [Bool.and_eq_true] at hq
   obtain ⟨⟨⟨⟨⟨⟨⟨⟨⟨⟨rfl,rfl⟩,rfl⟩,rfl⟩,rfl⟩,rfl⟩,rfl⟩,rfl⟩,rfl⟩,rfl⟩,rfl⟩:=hq
   simp [nb] at hk
 rw [hn,hcon] at hc
 simp only [Bool.not_true,Bool.false_or,Bool.and_eq_true,List.all_eq_true,Bool.not_eq_true'] at hc
 refine ⟨fun h0=>by rw [h0] at hc; simp at hc,fun i' hi=>?_⟩
 have hi2:=hc.2 i' hi
 clear hc hi hn
 split at hi2
 ·simp only [Bool.not_eq_true'] at hi2
  subst hi2
  have c:=cell_next x4 hB
  refine wpOp_one (o:={ dst:=some 28,op:=Op.load 3 (Operand.tmp 27),type:=3,pos := "ref.go:129", after:=#[{ on:=1,ground:=Ground.data }],guard:=none }) (by rfl) rfl ?_
  generalize hK:(fun a' w'=>IfaR wA w0 s gb xb ve vr E rm used rg sh im li pi loc m2 add x r z1 z2 z6 z7 z8 z9 z10 z11 z12 z13 z14 z15 z16 z17 z18 z19 z20 z21 z22 z23 z24 z25 z28 z30 z35 z37 z38 z39 z41 z45 z48 z49 z50 z51 k ((arrfaR false b4 b9 b11 b12 b13 b15 b19 b22 b23 b24).setIfInBounds 2 true) a' w')=K
  unfold Oper.wp
  go_simp
  subst hK
  exact ⟨true,b4,b9,b11,b12,b13,b15,b19,b22,b23,b24,vO,l,by omega,rfl,rfl,hB,f0,by first | exact hcon | (revert hcon; simp [confaR] <;> (intros; simp_all))⟩
 ·simp only [Bool.not_eq_true'] at hi2
  subst hi2
  have c:=cell_next x2 hB
  refine wpOp_one (o:={ dst:=some 30,op:=Op.load 3 (Operand.tmp 29),type:=3,pos := "ref.go:129", after:=#[{ on:=3,ground:=Ground.data }],guard:=none }) (by rfl) rfl ?_
  generalize hK:(fun a' w'=>IfaR wA w0 s gb xb ve vr E rm used rg sh im li pi loc m2 add x r z1 z2 z6 z7 z8 z9 z10 z11 z12 z13 z14 z15 z16 z17 z18 z19 z20 z21 z22 z23 z24 z25 z28 z30 z35 z37 z38 z39 z41 z45 z48 z49 z50 z51 k ((arrfaR b2 false b9 b11 b12 b13 b15 b19 b22 b23 b24).setIfInBounds 4 true) a' w')=K
  unfold Oper.wp
  go_simp
  subst hK
  exact ⟨b2,true,b9,b11,b12,b13,b15,b19,b22,b23,b24,vO,l,by omega,rfl,rfl,hB,f0,by first | exact hcon | (revert hcon; simp [confaR] <;> (intros; simp_all))⟩
 ·simp only [Bool.not_eq_true'] at hi2
  subst hi2
  have c:=(h.next hB).c6
  refine wpOp_one (o:={ dst:=some 35,op:=Op.load 22 (Operand.tmp 34),type:=22,pos := "ref.go:129", after:=#[{ on:=8,ground:=Ground.data }],guard:=none }) (by rfl) rfl ?_
  generalize hK:(fun a' w'=>IfaR wA w0 s gb xb ve vr E rm used rg sh im li pi loc m2 add x r z1 z2 z6 z7 z8 z9 z10 z11 z12 z13 z14 z15 z16 z17 z18 z19 z20 z21 z22 z23 z24 z25 z28 z30 z35 z37 z38 z39 z41 z45 z48 z49 z50 z51 k ((arrfaR b2 b4 false b11 b12 b13 b15 b19 b22 b23 b24).setIfInBounds 9 true) a' w')=K
  unfold Oper.wp
  go_simp
  subst hK
  exact ⟨b2,b4,true,b11,b12,b13,b15,b19,b22,b23,b24,vO,l,by omega,rfl,rfl,hB,f0,by first | exact hcon | (revert hcon; simp [confaR] <;> (intros; simp_all))⟩
 ·simp only [Bool.not_eq_true'] at hi2
  subst hi2
  have c:=cell_next x3 hB
  refine wpOp_one (o:={ dst:=some 37,op:=Op.load 3 (Operand.tmp 36),type:=3,pos := "ref.go:129", after:=#[{ on:=10,ground:=Ground.data }],guard:=none }) (by rfl) rfl ?_
  generalize hK:(fun a' w'=>IfaR wA w0 s gb xb ve vr E rm used rg sh im li pi loc m2 add x r z1 z2 z6 z7 z8 z9 z10 z11 z12 z13 z14 z15 z16 z17 z18 z19 z20 z21 z22 z23 z24 z25 z28 z30 z35 z37 z38 z39 z41 z45 z48 z49 z50 z51 k ((arrfaR b2 b4 b9 false b12 b13 b15 b19 b22 b23 b24).setIfInBounds 11 true) a' w')=K
  unfold Oper.wp
  go_simp
  subst hK
  exact ⟨b2,b4,b9,true,b12,b13,b15,b19,b22,b23,b24,vO,l,by omega,rfl,rfl,hB,f0,by first | exact hcon | (revert hcon; simp [confaR] <;> (intros; simp_all))⟩
 ·simp only [Bool.and_eq_true,Bool.not_eq_true'] at hi2
  obtain ⟨⟨rfl,rfl⟩,rfl⟩:=hi2
  refine wpOp_one (o:={ dst:=some 38,op:=Op.indexAddr 22 (Operand.tmp 35) (Operand.tmp 37),type:=0,pos := "ref.go:129", after:=#[{ on:=9,ground:=Ground.data },{ on:=11,ground:=Ground.data }],guard:=none }) (by rfl) rfl ?_
  generalize hK:(fun a' w'=>IfaR wA w0 s gb xb ve vr E rm used rg sh im li pi loc m2 add x r z1 z2 z6 z7 z8 z9 z10 z11 z12 z13 z14 z15 z16 z17 z18 z19 z20 z21 z22 z23 z24 z25 z28 z30 z35 z37 z38 z39 z41 z45 z48 z49 z50 z51 k ((arrfaR b2 b4 true true false b13 b15 b19 b22 b23 b24).setIfInBounds 12 true) a' w')=K
  unfold Oper.wp
  go_simp
  subst hK
  exact ⟨b2,b4,true,true,true,b13,b15,b19,b22,b23,b24,vO,l,by omega,rfl,rfl,hB,f0,by first | exact hcon | (revert hcon; simp [confaR] <;> (intros; simp_all))⟩
 ·simp only [Bool.and_eq_true,Bool.not_eq_true'] at hi2
  obtain ⟨rfl,rfl⟩:=hi2
  have c:=((h.next hB).regAt r hr).1
  rw [hx] at c
  refine wpOp_one (o:={ dst:=some 39,op:=Op.load 3 (Operand.tmp 38),type:=3,pos := "ref.go:129", after:=#[{ on:=12,ground:=Ground.data }],guard:=none }) (by rfl) rfl ?_
  generalize hK:(fun a' w'=>IfaR wA w0 s gb xb ve vr E rm used rg sh im li pi loc m2 add x r z1 z2 z6 z7 z8 z9 z10 z11 z12 z13 z14 z15 z16 z17 z18 z19 z20 z21 z22 z23 z24 z25 z28 z30 z35 z37 z38 z39 z41 z45 z48 z49 z50 z51 k ((arrfaR b2 b4 b9 b11 true false b15 b19 b22 b23 b24).setIfInBounds 13 true) a' w')=K
  unfold Oper.wp
  go_simp
  subst hK
  exact ⟨b2,b4,b9,b11,true,true,b15,b19,b22,b23,b24,vO,l,by omega,rfl,rfl,hB,f0,by first | exact hcon | (revert hcon; simp [confaR] <;> (intros; simp_all))⟩
 ·simp only [Bool.and_eq_true,Bool.not_eq_true'] at hi2
  obtain ⟨rfl,rfl⟩:=hi2
  refine wpOp_one (o:={ dst:=some 41,op:=Op.binOp BinOp.add 3 (Operand.tmp 39) (Operand.tmp 40) 3,type:=3,pos := "ref.go:129", after:=#[{ on:=13,ground:=Ground.data },{ on:=14,ground:=Ground.data }],guard:=none }) (by rfl) rfl ?_
  generalize hK:(fun a' w'=>IfaR wA w0 s gb xb ve vr E rm used rg sh im li pi loc m2 add x r z1 z2 z6 z7 z8 z9 z10 z11 z12 z13 z14 z15 z16 z17 z18 z19 z20 z21 z22 z23 z24 z25 z28 z30 z35 z37 z38 z39 z41 z45 z48 z49 z50 z51 k ((arrfaR b2 b4 b9 b11 b12 true false b19 b22 b23 b24).setIfInBounds 15 true) a' w')=K
  unfold Oper.wp
  go_simp
  subst hK
  exact ⟨b2,b4,b9,b11,b12,true,true,b19,b22,b23,b24,vO,l,by omega,rfl,rfl,hB,f0,by first | exact hcon | (revert hcon; simp [confaR] <;> (intros; simp_all))⟩
 ·simp only [Bool.not_eq_true'] at hi2
  subst hi2
  have c:=cell_next x3 hB
  refine wpOp_one (o:={ dst:=some 45,op:=Op.load 3 (Operand.tmp 44),type:=3,pos := "ref.go:129", after:=#[{ on:=18,ground:=Ground.data }],guard:=none }) (by rfl) rfl ?_
  generalize hK:(fun a' w'=>IfaR wA w0 s gb xb ve vr E rm used rg sh im li pi loc m2 add x r z1 z2 z6 z7 z8 z9 z10 z11 z12 z13 z14 z15 z16 z17 z18 z19 z20 z21 z22 z23 z24 z25 z28 z30 z35 z37 z38 z39 z41 z45 z48 z49 z50 z51 k ((arrfaR b2 b4 b9 b11 b12 b13 b15 false b22 b23 b24).setIfInBounds 19 true) a' w')=K
  unfold Oper.wp
  go_simp
  subst hK
  exact ⟨b2,b4,b9,b11,b12,b13,b15,true,b22,b23,b24,vO,l,by omega,rfl,rfl,hB,f0,by first | exact hcon | (revert hcon; simp [confaR] <;> (intros; simp_all))⟩
 ·simp only [Bool.and_eq_true,Bool.not_eq_true'] at hi2
  obtain ⟨rfl,rfl⟩:=hi2
  refine wpOp_one (o:={ dst:=some 48,op:=Op.indexAddr 96 (Operand.tmp 47) (Operand.tmp 45),type:=0,pos := "ref.go:129", after:=#[{ on:=21,ground:=Ground.data },{ on:=19,ground:=Ground.data }],guard:=none }) (by rfl) rfl ?_
  generalize hK:(fun a' w'=>IfaR wA w0 s gb xb ve vr E rm used rg sh im li pi loc m2 add x r z1 z2 z6 z7 z8 z9 z10 z11 z12 z13 z14 z15 z16 z17 z18 z19 z20 z21 z22 z23 z24 z25 z28 z30 z35 z37 z38 z39 z41 z45 z48 z49 z50 z51 k ((arrfaR b2 b4 b9 b11 b12 b13 b15 true false b23 b24).setIfInBounds 22 true) a' w')=K
  unfold Oper.wp
  go_simp
  subst hK
  exact ⟨b2,b4,b9,b11,b12,b13,b15,true,true,b23,b24,vO,l,by omega,rfl,rfl,hB,f0,by first | exact hcon | (revert hcon; simp [confaR] <;> (intros; simp_all))⟩
 ·simp only [Bool.and_eq_true,Bool.not_eq_true'] at hi2
  obtain ⟨rfl,rfl⟩:=hi2
  have c:=(h.next hB).fromAt r hr
  refine wpOp_one (o:={ dst:=some 49,op:=Op.load 22 (Operand.tmp 48),type:=22,pos := "ref.go:129", after:=#[{ on:=22,ground:=Ground.data }],guard:=none }) (by rfl) rfl ?_
  generalize hK:(fun a' w'=>IfaR wA w0 s gb xb ve vr E rm used rg sh im li pi loc m2 add x r z1 z2 z6 z7 z8 z9 z10 z11 z12 z13 z14 z15 z16 z17 z18 z19 z20 z21 z22 z23 z24 z25 z28 z30 z35 z37 z38 z39 z41 z45 z48 z49 z50 z51 k ((arrfaR b2 b4 b9 b11 b12 b13 b15 b19 true false b24).setIfInBounds 23 true) a' w')=K
  unfold Oper.wp
  go_simp
  subst hK
  exact ⟨b2,b4,b9,b11,b12,b13,b15,b19,true,true,b24,vO,l,by omega,rfl,rfl,hB,f0,by first | exact hcon | (revert hcon; simp [confaR] <;> (intros; simp_all))⟩
 ·simp only [Bool.and_eq_true,Bool.not_eq_true'] at hi2
  obtain ⟨rfl,rfl⟩:=hi2
  refine wpOp_one (o:={ dst:=some 50,op:=Op.call { callee:=Callee.value (Operand.func 77),args:=#[Operand.tmp 42,Operand.tmp 49],argTypes:=#[22,22] },type:=22,pos := "ref.go:129", after:=#[{ on:=16,ground:=Ground.data },{ on:=23,ground:=Ground.data }],guard:=none }) (by rfl) rfl ?_
  generalize hK:(fun a' w'=>IfaR wA w0 s gb xb ve vr E rm used rg sh im li pi loc m2 add x r z1 z2 z6 z7 z8 z9 z10 z11 z12 z13 z14 z15 z16 z17 z18 z19 z20 z21 z22 z23 z24 z25 z28 z30 z35 z37 z38 z39 z41 z45 z48 z49 z50 z51 k ((arrfaR b2 b4 b9 b11 b12 b13 b15 b19 b22 true false).setIfInBounds 24 true) a' w')=K
  unfold Oper.wp
  go_simp
  refine (both_any (im 19) (im (8 + r)) (li 19) (li (8 + r)) w ((h.next hB).cl 19 (by omega) (by omega)) ((h.next hB).cl (8 + r) (by omega) (by omega)) (by omega)).mono ?_
  rintro e1 w1 ⟨⟨v1,l1,rfl,g1,g2,g3⟩,hb⟩
  dsimp only
  subst hK
  exact ⟨b2,b4,b9,b11,b12,b13,b15,b19,b22,true,true,v1,l1,by omega,rfl,rfl,below_next hB hb,(fun _=>⟨g1,g2,(by rcases g3 with q | q; exact .inl q; exact .inr fun b z=>Nat.le_trans hB.size (q b z))⟩),by first | exact hcon | (revert hcon; simp [confaR] <;> (intros; simp_all))⟩
 ·cases hi2
set_option maxRecDepth 100000 in
set_option maxHeartbeats 8000000 in
theorem faR_l (w:World) (w0:WK) (s gb xb:Nat) (ve vr:Value) (E:List Ev) (rm:List (Int × Int)) (used:Int) (rg:List Int) (sh:Bool) (im:Nat→Value) (li:Nat→List Int) (pi:Nat→List (Int × Int)) (loc m2 add x:Int) (r:Nat) (h:RS w0 w s gb ve vr E rm used rg sh im li pi) (x4:w.cell? ⟨xb,4,none⟩=some (.int .i64 loc)) (x2:w.cell? ⟨xb,2,none⟩=some (.int .i64 m2)) (x3:w.cell? ⟨xb,3,none⟩=some (.int .i64 (r:Int))) (hr:r < 8) (hri:(r:Int) < 8) (hx:rg.getD r 0=x) (hE:E.length≤1000) (hrm:rm.length≤1000) (h2:(pi 2).length≤90) (hl:(li 19).length + (li (8 + r)).length≤902) (h3:(pi 3).length + (li 16).length≤1000) (h4:(pi 4).length + (li 17).length≤1000) (z1 z2 z6 z7 z8 z9 z10 z11 z12 z13 z14 z15 z16 z17 z18 z19 z20 z21 z22 z23 z24 z25 z26 z27 z28 z29 z30 z31 z32 z33 z34 z35 z36 z37 z38 z39 z40 z41 z42 z43 z44 z45 z46 z47 z48 z49 z50 z51:Value) (Q:Exit→Act→World→Prop)
  (hQp:∀ c (a:Act) (d:Tmp) v w,Q (.panic c) (a.put (some d) v) w→Q (.panic c) a w)
  (hQ:∀ (y26 y27 y28 y29 y30 y31 y32 y33 y34 y35 y36 y37 y38 y39 y40 y41 y42 y43 y44 y45 y46 y47 y48 y49 y50 y51:Value) (W':World) (l:List Int) (e1:Ending),WrBack w0 W' s gb E ⟨0,2,m2,loc,IntKind.i64.wrap (x + add),true⟩ rm used rg sh (updF li 20 l) pi e1→BothOk (li 19) (li (8 + r)) l→Q .normal { tmps:=(.pointer (some ⟨s,0,none⟩)::z1::z2::.pointer (some ⟨xb,0,none⟩)::im 19::.int .i64 add::z6::z7::z8::z9::z10::z11::z12::z13::z14::z15::z16::z17::z18::z19::z20::z21::z22::z23::z24::z25::y26::y27::y28::y29::y30::y31::y32::y33::y34::y35::y36::y37::y38::y39::y40::y41::y42::y43::y44::y45::y46::y47::y48::y49::y50::y51::[]).toArray,defers:=[] } W') :
  Code.wp Try.prog (Code.region 4 #[{ dst:=some 26,op:=Op.move (Operand.tmp 0),type:=94,pos := "ref.go:129", after:=#[],guard:=none },{ dst:=some 27,op:=Op.fieldAddr 47 (Operand.tmp 3) 4,type:=0,pos := "ref.go:129", after:=#[],guard:=none },{ dst:=some 28,op:=Op.load 3 (Operand.tmp 27),type:=3,pos := "ref.go:129", after:=#[{ on:=1,ground:=Ground.data }],guard:=none },{ dst:=some 29,op:=Op.fieldAddr 47 (Operand.tmp 3) 2,type:=0,pos := "ref.go:129", after:=#[],guard:=none },{ dst:=some 30,op:=Op.load 3 (Operand.tmp 29),type:=3,pos := "ref.go:129", after:=#[{ on:=3,ground:=Ground.data }],guard:=none },{ dst:=some 31,op:=Op.move (Operand.tmp 0),type:=94,pos := "ref.go:129", after:=#[],guard:=none },{ dst:=some 32,op:=Op.nilCheck (Operand.tmp 31),type:=0,pos := "ref.go:129", after:=#[{ on:=5,ground:=Ground.data }],guard:=none },{ dst:=some 33,op:=Op.fieldAddr 98 (Operand.tmp 32) 0,type:=0,pos := "ref.go:129", after:=#[{ on:=6,ground:=Ground.data }],guard:=none },{ dst:=some 34,op:=Op.fieldAddr 76 (Operand.tmp 33) 6,type:=0,pos := "ref.go:129", after:=#[{ on:=7,ground:=Ground.data }],guard:=none },{ dst:=some 35,op:=Op.load 22 (Operand.tmp 34),type:=22,pos := "ref.go:129", after:=#[{ on:=8,ground:=Ground.data }],guard:=none },{ dst:=some 36,op:=Op.fieldAddr 47 (Operand.tmp 3) 3,type:=0,pos := "ref.go:129", after:=#[],guard:=none },{ dst:=some 37,op:=Op.load 3 (Operand.tmp 36),type:=3,pos := "ref.go:129", after:=#[{ on:=10,ground:=Ground.data }],guard:=none },{ dst:=some 38,op:=Op.indexAddr 22 (Operand.tmp 35) (Operand.tmp 37),type:=0,pos := "ref.go:129", after:=#[{ on:=9,ground:=Ground.data },{ on:=11,ground:=Ground.data }],guard:=none },{ dst:=some 39,op:=Op.load 3 (Operand.tmp 38),type:=3,pos := "ref.go:129", after:=#[{ on:=12,ground:=Ground.data }],guard:=none },{ dst:=some 40,op:=Op.move (Operand.tmp 5),type:=3,pos := "ref.go:129", after:=#[],guard:=none },{ dst:=some 41,op:=Op.binOp BinOp.add 3 (Operand.tmp 39) (Operand.tmp 40) 3,type:=3,pos := "ref.go:129", after:=#[{ on:=13,ground:=Ground.data },{ on:=14,ground:=Ground.data }],guard:=none },{ dst:=some 42,op:=Op.move (Operand.tmp 4),type:=22,pos := "ref.go:129", after:=#[],guard:=none },{ dst:=some 43,op:=Op.move (Operand.tmp 0),type:=94,pos := "ref.go:129", after:=#[],guard:=none },{ dst:=some 44,op:=Op.fieldAddr 47 (Operand.tmp 3) 3,type:=0,pos := "ref.go:129", after:=#[],guard:=none },{ dst:=some 45,op:=Op.load 3 (Operand.tmp 44),type:=3,pos := "ref.go:129", after:=#[{ on:=18,ground:=Ground.data }],guard:=none },{ dst:=some 46,op:=Op.nilCheck (Operand.tmp 43),type:=0,pos := "ref.go:129", after:=#[{ on:=17,ground:=Ground.data }],guard:=none },{ dst:=some 47,op:=Op.fieldAddr 98 (Operand.tmp 46) 2,type:=0,pos := "ref.go:129", after:=#[{ on:=20,ground:=Ground.data }],guard:=none },{ dst:=some 48,op:=Op.indexAddr 96 (Operand.tmp 47) (Operand.tmp 45),type:=0,pos := "ref.go:129", after:=#[{ on:=21,ground:=Ground.data },{ on:=19,ground:=Ground.data }],guard:=none },{ dst:=some 49,op:=Op.load 22 (Operand.tmp 48),type:=22,pos := "ref.go:129", after:=#[{ on:=22,ground:=Ground.data }],guard:=none },{ dst:=some 50,op:=Op.call { callee:=Callee.value (Operand.func 77),args:=#[Operand.tmp 42,Operand.tmp 49],argTypes:=#[22,22] },type:=22,pos := "ref.go:129", after:=#[{ on:=16,ground:=Ground.data },{ on:=23,ground:=Ground.data }],guard:=none },{ dst:=some 51,op:=Op.call { callee:=Callee.value (Operand.func 51),args:=#[Operand.tmp 26,Operand.tmp 28,Operand.tmp 30,Operand.const (Value.bool true),Operand.tmp 41,Operand.tmp 50],argTypes:=#[94,3,3,4,3,22] },type:=0,pos := "ref.go:129", after:=#[{ on:=0,ground:=Ground.data },{ on:=2,ground:=Ground.data },{ on:=4,ground:=Ground.data },{ on:=15,ground:=Ground.data },{ on:=24,ground:=Ground.data },{ on:=24,ground:=Ground.chain }],guard:=none }] true) Q { tmps:=(.pointer (some ⟨s,0,none⟩)::z1::z2::.pointer (some ⟨xb,0,none⟩)::im 19::.int .i64 add::z6::z7::z8::z9::z10::z11::z12::z13::z14::z15::z16::z17::z18::z19::z20::z21::z22::z23::z24::z25::z26::z27::z28::z29::z30::z31::z32::z33::z34::z35::z36::z37::z38::z39::z40::z41::z42::z43::z44::z45::z46::z47::z48::z49::z50::z51::[]).toArray,defers:=[] } w:=by
 refine wp_region_any (by kernel_rfl) ?_
 have hD:Below w.heap.size w w.drew:=(Below.refl _ _).drew
 change wpAny _ _ _ _ _ _ _ (World.drew _)
 have h:=h.next hD
 have x4:=cell_next x4 hD
 have x2:=cell_next x2 hD
 have x3:=cell_next x3 hD
 generalize World.drew w=wA at *
 refine wpAny_take (i:=0) (v:=.pointer (some ⟨s,0,none⟩)) rfl (by kernel_rfl) (by kernel_rfl) (by kernel_rfl) (fun c a w=>hQp c a _ _ w) (Or.inl ⟨by rfl,?_⟩) ?_
 ·intro w
  go_simp
 refine wpAny_take (i:=1) (v:=.pointer (some ⟨xb,4,none⟩)) rfl (by kernel_rfl) (by kernel_rfl) (by kernel_rfl) (fun c a w=>hQp c a _ _ w) (Or.inl ⟨by rfl,?_⟩) ?_
 ·intro w
  go_simp
 refine wpAny_take (i:=3) (v:=.pointer (some ⟨xb,2,none⟩)) rfl (by kernel_rfl) (by kernel_rfl) (by kernel_rfl) (fun c a w=>hQp c a _ _ w) (Or.inl ⟨by rfl,?_⟩) ?_
 ·intro w
  go_simp
 refine wpAny_take (i:=5) (v:=.pointer (some ⟨s,0,none⟩)) rfl (by kernel_rfl) (by kernel_rfl) (by kernel_rfl) (fun c a w=>hQp c a _ _ w) (Or.inl ⟨by rfl,?_⟩) ?_
 ·intro w
  go_simp
 refine wpAny_take (i:=6) (v:=.pointer (some ⟨s,0,none⟩)) rfl (by kernel_rfl) (by kernel_rfl) (by kernel_rfl) (fun c a w=>hQp c a _ _ w) (Or.inl ⟨by rfl,?_⟩) ?_
 ·intro w
  go_simp
 refine wpAny_take (i:=7) (v:=.pointer (some ⟨s,0,none⟩)) rfl (by kernel_rfl) (by kernel_rfl) (by kernel_rfl) (fun c a w=>hQp c a _ _ w) (Or.inl ⟨by rfl,?_⟩) ?_
 ·intro w
  go_simp
 refine wpAny_take (i:=8) (v:=.pointer (some ⟨s,6,none⟩)) rfl (by kernel_rfl) (by kernel_rfl) (by kernel_rfl) (fun c a w=>hQp c a _ _ w) (Or.inl ⟨by rfl,?_⟩) ?_
 ·intro w
  go_simp
 refine wpAny_take (i:=10) (v:=.pointer (some ⟨xb,3,none⟩)) rfl (by kernel_rfl) (by kernel_rfl) (by kernel_rfl) (fun c a w=>hQp c a _ _ w) (Or.inl ⟨by rfl,?_⟩) ?_
 ·intro w
  go_simp
 refine wpAny_take (i:=14) (v:=.int .i64 add) rfl (by kernel_rfl) (by kernel_rfl) (by kernel_rfl) (fun c a w=>hQp c a _ _ w) (Or.inl ⟨by rfl,?_⟩) ?_
 ·intro w
  go_simp
 refine wpAny_take (i:=16) (v:=im 19) rfl (by kernel_rfl) (by kernel_rfl) (by kernel_rfl) (fun c a w=>hQp c a _ _ w) (Or.inl ⟨by rfl,?_⟩) ?_
 ·intro w
  go_simp
 refine wpAny_take (i:=17) (v:=.pointer (some ⟨s,0,none⟩)) rfl (by kernel_rfl) (by kernel_rfl) (by kernel_rfl) (fun c a w=>hQp c a _ _ w) (Or.inl ⟨by rfl,?_⟩) ?_
 ·intro w
  go_simp
 refine wpAny_take (i:=18) (v:=.pointer (some ⟨xb,3,none⟩)) rfl (by kernel_rfl) (by kernel_rfl) (by kernel_rfl) (fun c a w=>hQp c a _ _ w) (Or.inl ⟨by rfl,?_⟩) ?_
 ·intro w
  go_simp
 refine wpAny_take (i:=20) (v:=.pointer (some ⟨s,0,none⟩)) rfl (by kernel_rfl) (by kernel_rfl) (by kernel_rfl) (fun c a w=>hQp c a _ _ w) (Or.inl ⟨by rfl,?_⟩) ?_
 ·intro w
  go_simp
 refine wpAny_take (i:=21) (v:=.pointer (some ⟨s,8,none⟩)) rfl (by kernel_rfl) (by kernel_rfl) (by kernel_rfl) (fun c a w=>hQp c a _ _ w) (Or.inl ⟨by rfl,?_⟩) ?_
 ·intro w
  go_simp
 show wpAny _ _ opsfaR _ (1 + 11) _ _ _
 refine wpAny_inv (I:=IfaR wA w0 s gb xb ve vr E rm used rg sh im li pi loc m2 add x r z1 z2 z6 z7 z8 z9 z10 z11 z12 z13 z14 z15 z16 z17 z18 z19 z20 z21 z22 z23 z24 z25 z28 z30 z35 z37 z38 z39 z41 z45 z48 z49 z50 z51) (fun k L a w=>stepfaR wA w0 s gb xb ve vr E rm used rg sh im li pi loc m2 add x r h x4 x2 x3 hr hri hx hE hrm h2 hl h3 h4 z1 z2 z6 z7 z8 z9 z10 z11 z12 z13 z14 z15 z16 z17 z18 z19 z20 z21 z22 z23 z24 z25 z28 z30 z35 z37 z38 z39 z41 z45 z48 z49 z50 z51 Q k L a w) ?_ 11 _ _ _ ⟨false,false,false,false,false,false,false,false,false,false,false,.slice none 0 0,[],by kernel_rfl,by kernel_rfl,by kernel_rfl,Below.refl _ _,(fun q=>by cases q),by kernel_rfl⟩
 rintro L a w1 ⟨b2,b4,b9,b11,b12,b13,b15,b19,b22,b23,b24,vO,l,hk,rfl,rfl,hB,f0,-⟩
 obtain ⟨rfl,rfl,rfl,rfl,rfl,rfl,rfl,rfl,rfl,rfl,rfl⟩:b2=true∧b4=true∧b9=true∧b11=true∧b12=true∧b13=true∧b15=true∧b19=true∧b22=true∧b23=true∧b24=true:=⟨nb0 _ (by omega),nb0 _ (by omega),nb0 _ (by omega),nb0 _ (by omega),nb0 _ (by omega),nb0 _ (by omega),nb0 _ (by omega),nb0 _ (by omega),nb0 _ (by omega),nb0 _ (by omega),nb0 _ (by omega)⟩
 clear hk
 obtain ⟨g1,g2,g3⟩:=f0 rfl
 have hS1:=h.next hB
 have ha:Apart w1 s gb ve vr vO:=by
  rcases g3 with q | q
  ·rw [q]; exact fun b z=>hS1.apt 19 (.inr ⟨by omega,by omega⟩) b z
  ·exact apart_new g1 q h.lts h.ltg (fun b r=>(h.oe.lt b r).2) (fun b r=>(h.op.lt b r).2)
 have hS2:=hS1.virt 20 (by omega) (by omega) vO l g1 ha
 have hw:=write_any loc m2 (IntKind.i64.wrap (x + add)) true w1 hS2 hE hrm (by rw [updF_at]; have:=g2.len; omega) (by rw [updF_ne _ _ (by omega)]; exact h3) (by rw [updF_ne _ _ (by omega)]; exact h4)
 rw [updF_at] at hw
 refine wpAny_all (rs:=[25]) (by kernel_rfl) (by simp) ?_
 intro i' hi
 simp only [List.mem_singleton] at hi
 subst hi
 refine wpOp_one (o:={ dst:=some 51,op:=Op.call { callee:=Callee.value (Operand.func 51),args:=#[Operand.tmp 26,Operand.tmp 28,Operand.tmp 30,Operand.const (Value.bool true),Operand.tmp 41,Operand.tmp 50],argTypes:=#[94,3,3,4,3,22] },type:=0,pos := "ref.go:129", after:=#[{ on:=0,ground:=Ground.data },{ on:=2,ground:=Ground.data },{ on:=4,ground:=Ground.data },{ on:=15,ground:=Ground.data },{ on:=24,ground:=Ground.data },{ on:=24,ground:=Ground.chain }],guard:=none }) (by rfl) rfl ?_
 unfold Oper.wp
 go_simp
 refine hw.mono ?_
 rintro e1 w2 ⟨hw2,-⟩
 have hw3:=hw2
 obtain ⟨y,ve',vr',im',pi',rfl,-⟩:=hw3
 dsimp only
 refine wpAny_done (by kernel_rfl) ?_ _
 exact hQ _ _ _ _ _ _ _ _ _ _ _ _ _ _ _ _ _ _ _ _ _ _ _ _ _ _ w2 l _ hw2 g2
end Go.Proofs.Yteghpophcnehgaa
