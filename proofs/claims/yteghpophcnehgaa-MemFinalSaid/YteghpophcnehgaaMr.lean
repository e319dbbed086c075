/-
  What the functions that the law reaches do, one by one: contracts. Conditions: those that each of them prints.
-/
import Derived.Test.YteghpophcnehgaaMq
import Derived.WalkKit
import Derived.Deep.RegionWith
import Derived.Deep.DrawnRows
namespace Go.Proofs.Yteghpophcnehgaa
open Go.RowKit ExprA SndA
attribute [local go_sem ↓] Go.wp_at_zero Go.wp_at_succ
namespace SndA
def SkBack (w0:WK) (w':World) (s gb:Nat) (ve vr:Value) (E:List Ev) (rm:List (Int × Int)) (used:Int) (rg:List Int) (sh:Bool) (li:Nat→List Int) (pi:Nat→List (Int × Int)) (n v:Int) (e1:Ending):Prop:=
 ∃ im' l M,e1=.returned (.int .i64 (if v=0 then 0 else n))∧RS w0 w' s gb ve vr E rm used rg sh im' (updF (updF li 18 l) 16 M) pi∧OfOk li 9 l∧BothOk (li 16) l M
theorem RS.c6 {w0:WK} {s gb:Nat} {ve vr:Value} {E:List Ev} {rm:List (Int × Int)} {used:Int} {rg:List Int} {sh:Bool} {im:Nat→Value} {li:Nat→List Int} {pi:Nat→List (Int × Int)} {W:World} (h:RS w0 W s gb ve vr E rm used rg sh im li pi):W.cell? ⟨s,6,none⟩=some (.slice (some ⟨gb,0,none⟩) 8 8):=by simp only [World.cell?,h.box]; rfl
theorem skip_made {w0:WK} {s gb:Nat} {ve vr:Value} {E:List Ev} {rm:List (Int × Int)} {used:Int} {rg:List Int} {sh:Bool} {im:Nat→Value} {li:Nat→List Int} {pi:Nat→List (Int × Int)} {w w1 w2:World} {vl v2:Value} {l M:List Int} (h:RS w0 w s gb ve vr E rm used rg sh im li pi) (h1:Below w.heap.size w w1) (h2:Below w1.heap.size w1 w2) (hvl:LV w1 vl l) (hn:NewV w.drew (.slice none 0 0) vl) (hv2:LV w2 v2 M) (hn2:NewV w1 (im 16) v2) :
  RS w0 (w2.setCell ⟨s,16,none⟩ v2) s gb ve vr E rm used rg sh (updF (updF im 18 vl) 16 v2) (updF (updF li 18 l) 16 M) pi∧w2.cell? ⟨s,16,none⟩=some (im 16)∧w2.frozen? ⟨s,16,none⟩=false:=by
 have k1:=h.next h1
 have a1:Apart w1 s gb ve vr vl:=by
  rcases hn with q | q
  ·rw [q]; exact apart_nil _ _ _ _ _
  ·exact apart_new hvl (W1:=w) q h.lts h.ltg (fun b r=>(h.oe.lt b r).2) (fun b r=>(h.op.lt b r).2)
 have k2:=(k1.virt 18 (by omega) (by omega) vl l hvl a1).next h2
 have a2:Apart w2 s gb ve vr v2:=by
  rcases hn2 with q | q
  ·rw [q]; exact fun b r=>(k1.next h2).apt 16 (.inr ⟨by omega,by omega⟩) b r
  ·exact apart_new hv2 (W1:=w1) q k1.lts k1.ltg (fun b r=>(k1.oe.lt b r).2) (fun b r=>(k1.op.lt b r).2)
 refine ⟨k2.set16 v2 M hv2 a2,?_,k2.frozF 16⟩
 simp only [World.cell?,(k1.next h2).box]; rfl
end SndA
set_option maxRecDepth 20000 in
set_option maxHeartbeats 8000000 in
theorem skip_any {w0 : WK} {s gb : Nat} {ve vr : Value} {E : List Ev} {rm : List (Int × Int)} {used : Int} {rg : List Int} {sh : Bool} {im : Nat → Value} {li : Nat → List Int} {pi : Nat → List (Int × Int)} (n : Int) (a : Option Addr) (L : List (Int × Int)) (c : Nat) (w : World) (h : RS w0 w s gb ve vr E rm used rg sh im li pi) (ht : TIn w0.toWorld a L) (hL : L.length ≤ 9) (hreg : ∀ x, ((2 : Int), x) ∈ L → 0 ≤ x ∧ x < 8) (hli : ∀ j, 8 ≤ j → j ≤ 15 → (li j).length ≤ 100) (h16 : (li 16).length ≤ 100) :
    Calls Try.prog 57 #[.pointer (some ⟨s, 0, none⟩), .int .i64 n, .slice a L.length c] w fun e1 w' => SkBack w0 w' s gb ve vr E rm used rg sh li pi n (evalS L rg) e1 := by
  have HOF := Lib.hid (fun W (hW : RS w0 W s gb ve vr E rm used rg sh im li pi) => of_any a L c W hW (ht.next hW.bel) hL hreg hli)
  have HS := Lib.hid h
  obtain ⟨v, hv⟩ : ∃ v, evalS L rg = v := ⟨_, rfl⟩
  have HT := Lib.hid ht
  rw [hv]
  have c3 : w.cell? ⟨s, 16, none⟩ = some (im 16) := by simp only [World.cell?, h.box]; rfl
  have HB0 : Hid (Below w.heap.size w w.drew) := Lib.hid (Below.refl _ _).drew
  clear h ht
  go_enter Try.func57, Try.ntmps57
  go_wp2_with fail
  go_region_with (first
    | (go_at_call 53; refine (HOF.out _ (HS.out.next HB0.out)).mono ?_; rintro e1 w1 ⟨⟨vl, l, rfl, hvl, hok, hn⟩, hb1⟩; have HB1 := Lib.hid (below_next HB0.out hb1); have HVL := Lib.hid hvl; have HOK := Lib.hid hok; have HN := Lib.hid hn; have c4 := cell_next c3 HB1.out; clear hvl hok hn hb1)
    | (go_at_call 77; refine (both_any _ _ (li 16) l _ ((HS.out.next HB1.out).cl 16 (by omega) (by omega)) HVL.out (by have := HOK.out.len; omega)).mono ?_; rintro e2 w2 ⟨⟨v2, M, rfl, hv2, hok2, hn2⟩, hb2⟩; have HB2 := Lib.hid (below_next HB1.out hb2); have HV2 := Lib.hid hv2; have HOK2 := Lib.hid hok2; have HX := Lib.hid (skip_made HS.out HB1.out hb2 HVL.out HN.out hv2 hn2); have k3 := HX.out.2.1; have d3 := HX.out.2.2; obtain ⟨p2, c2, e2⟩ := own_len hv2; subst e2; clear hv2 hok2 hn2 hb2))
  all_goals have HS3 := Lib.hid HX.out.1
  all_goals have c6 := HS3.out.c6
  all_goals clear HX k3 d3
  all_goals generalize World.setCell w2 _ _ = w3 at HS3 c6 ⊢
  all_goals have HEV := Lib.hid (eval_rs a L c HS3.out HT.out (by omega))
  all_goals rw [hv] at HEV
  all_goals go_wp2_with fail
  all_goals refine HEV.out.mono ?_
  all_goals rintro e3 w4 ⟨rfl, hb4⟩
  all_goals have HS4 := Lib.hid (HS3.out.next hb4)
  all_goals clear hb4 c6
  all_goals by_cases h0 : v = 0
  all_goals first
    | (have d5 : (v != 0) = false := by simp [h0]
       have HE : Hid ((if v = 0 then 0 else n) = 0) := Lib.hid (if_pos h0)
       clear h0
       go_wp2_with fail
       go_ret
       exact ⟨_, l, M, by rw [HE.out]; rfl, HS4.out, HOK.out, HOK2.out⟩)
    | (have d5 : (v != 0) = true := by simp [h0]
       have HE : Hid ((if v = 0 then 0 else n) = n) := Lib.hid (if_neg h0)
       clear h0
       go_wp2_with fail
       go_ret
       exact ⟨_, l, M, by rw [HE.out]; rfl, HS4.out, HOK.out, HOK2.out⟩)
end Go.Proofs.Yteghpophcnehgaa
namespace Go.Proofs.Yteghpophcnehgaa
open Go.RowKit ExprA SndA
def allB (f:Bool→Bool):Bool:=f true && f false
theorem allB_at {f:Bool→Bool} (h:allB f=true) (b:Bool):f b=true:=by
 unfold allB at h
 cases b <;> simp_all
namespace SndA
def nb (b:Bool):Nat:=bif b then 0 else 1
theorem nb0:∀ b:Bool,nb b=0→b=true:=by decide
end SndA
def opsstR:Array Oper:=#[{ dst:=some 42,op:=Op.move (Operand.tmp 6),type:=94,pos := "ref.go:142", after:=#[],guard:=none },{ dst:=some 43,op:=Op.fieldAddr 47 (Operand.tmp 8) 4,type:=0,pos := "ref.go:142", after:=#[],guard:=none },{ dst:=some 44,op:=Op.load 3 (Operand.tmp 43),type:=3,pos := "ref.go:142", after:=#[{ on:=1,ground:=Ground.data }],guard:=none },{ dst:=some 45,op:=Op.fieldAddr 47 (Operand.tmp 8) 1,type:=0,pos := "ref.go:142", after:=#[],guard:=none },{ dst:=some 46,op:=Op.load 3 (Operand.tmp 45),type:=3,pos := "ref.go:142", after:=#[{ on:=3,ground:=Ground.data }],guard:=none },{ dst:=some 47,op:=Op.fieldAddr 47 (Operand.tmp 8) 5,type:=0,pos := "ref.go:142", after:=#[],guard:=none },{ dst:=some 48,op:=Op.load 45 (Operand.tmp 47),type:=45,pos := "ref.go:142", after:=#[{ on:=5,ground:=Ground.data }],guard:=none },{ dst:=some 49,op:=Op.move (Operand.tmp 6),type:=94,pos := "ref.go:142", after:=#[],guard:=none },{ dst:=some 50,op:=Op.nilCheck (Operand.tmp 49),type:=0,pos := "ref.go:142", after:=#[{ on:=7,ground:=Ground.data }],guard:=none },{ dst:=some 51,op:=Op.fieldAddr 98 (Operand.tmp 50) 0,type:=0,pos := "ref.go:142", after:=#[{ on:=8,ground:=Ground.data }],guard:=none },{ dst:=some 52,op:=Op.fieldAddr 76 (Operand.tmp 51) 6,type:=0,pos := "ref.go:142", after:=#[{ on:=9,ground:=Ground.data }],guard:=none },{ dst:=some 53,op:=Op.load 22 (Operand.tmp 52),type:=22,pos := "ref.go:142", after:=#[{ on:=10,ground:=Ground.data }],guard:=none },{ dst:=some 54,op:=Op.call { callee:=Callee.value (Operand.func 52),args:=#[Operand.tmp 48,Operand.tmp 53],argTypes:=#[45,22] },type:=3,pos := "ref.go:142", after:=#[{ on:=6,ground:=Ground.data },{ on:=11,ground:=Ground.data }],guard:=none },{ dst:=some 55,op:=Op.move (Operand.tmp 6),type:=94,pos := "ref.go:142", after:=#[],guard:=none },{ dst:=some 56,op:=Op.fieldAddr 47 (Operand.tmp 8) 5,type:=0,pos := "ref.go:142", after:=#[],guard:=none },{ dst:=some 57,op:=Op.load 45 (Operand.tmp 56),type:=45,pos := "ref.go:142", after:=#[{ on:=14,ground:=Ground.data }],guard:=none },{ dst:=some 58,op:=Op.call { callee:=Callee.value (Operand.func 53),args:=#[Operand.tmp 55,Operand.tmp 57],argTypes:=#[94,45] },type:=22,pos := "ref.go:142", after:=#[{ on:=13,ground:=Ground.data },{ on:=15,ground:=Ground.data },{ on:=12,ground:=Ground.chain }],guard:=none },{ dst:=some 59,op:=Op.call { callee:=Callee.value (Operand.func 51),args:=#[Operand.tmp 42,Operand.tmp 44,Operand.tmp 46,Operand.const (Value.bool false),Operand.tmp 54,Operand.tmp 58],argTypes:=#[94,3,3,4,3,22] },type:=0,pos := "ref.go:142", after:=#[{ on:=0,ground:=Ground.data },{ on:=2,ground:=Ground.data },{ on:=4,ground:=Ground.data },{ on:=12,ground:=Ground.data },{ on:=16,ground:=Ground.data },{ on:=16,ground:=Ground.chain }],guard:=none }]
def arrstR (b2 b4 b6 b11 b12 b15 b16:Bool):Array Bool:=#[true,true,b2,true,b4,true,b6,true,true,true,true,b11,b12,true,true,b15,b16,false]
def constR (_b2 _b4 b6 b11 b12 b15 b16:Bool):Bool:=(!b12 || (b6 && b11)) && (!b16 || (b12 && b15))
def chkstR (b2 b4 b6 b11 b12 b15 b16:Bool):Bool:=
 let r:=Region.ready .any opsstR (arrstR b2 b4 b6 b11 b12 b15 b16)
 !constR b2 b4 b6 b11 b12 b15 b16 || (b2 && b4 && b6 && b11 && b12 && b15 && b16) || (!r.isEmpty && r.all fun i=>match i with | 2=>!b2 | 4=>!b4 | 6=>!b6 | 11=>!b11 | 12=>b6 && b11 && !b12 | 15=>!b15 | 16=>b12 && b15 && !b16 | _=>false)
theorem rdystR':(allB fun b2=>allB fun b4=>allB fun b6=>allB fun b11=>allB fun b12=>allB fun b15=>allB fun b16=>chkstR b2 b4 b6 b11 b12 b15 b16)=true:=by kernel_rfl
theorem rdystR (b2 b4 b6 b11 b12 b15 b16:Bool):chkstR b2 b4 b6 b11 b12 b15 b16=true:=allB_at (allB_at (allB_at (allB_at (allB_at (allB_at (allB_at rdystR' b2) b4) b6) b11) b12) b15) b16
namespace SndA
def IstR (wA:World) (_w0:WK) (s gb xb:Nat) (_ve _vr:Value) (_E:List Ev) (_rm:List (Int × Int)) (_used:Int) (_rg:List Int) (_sh:Bool) (_im:Nat→Value) (li:Nat→List Int) (_pi:Nat→List (Int × Int)) (loc mode v:Int) (a5:Option Addr) (LE:List (Int × Int)) (cE:Nat) (z0 z1 z2 z3 z4 z5 z7 z9 z10 z11 z12 z13 z14 z15 z16 z17 z18 z19 z20 z21 z22 z23 z24 z25 z26 z27 z28 z29 z30 z31 z32 z33 z34 z35 z36 z37 z38 z39 z40 z41 z44 z46 z48 z53 z54 z57 z58 z59 z60 z61 z62 z63 z64 z65 z66 z67 z68 z69 z70 z71 z72 z73 z74 z75 z76 z77 z78 z79 z80 z81 z82 z83 z84 z85 z86 z87 z88 z89 z90 z91 z92 z93 z94 z95 z96 z97 z98:Value) (k:Nat) (L:Array Bool) (a:Act) (w:World):Prop:=
 ∃ (b2 b4 b6 b11 b12 b15 b16:Bool) (vO:Value) (l:List Int),k=nb b2 + nb b4 + nb b6 + nb b11 + nb b12 + nb b15 + nb b16∧L=arrstR b2 b4 b6 b11 b12 b15 b16∧a={ tmps:=(z0::z1::z2::z3::z4::z5::.pointer (some ⟨s,0,none⟩)::z7::.pointer (some ⟨xb,0,none⟩)::z9::z10::z11::z12::z13::z14::z15::z16::z17::z18::z19::z20::z21::z22::z23::z24::z25::z26::z27::z28::z29::z30::z31::z32::z33::z34::z35::z36::z37::z38::z39::z40::z41::.pointer (some ⟨s,0,none⟩)::.pointer (some ⟨xb,4,none⟩)::(bif b2 then .int .i64 loc else z44)::.pointer (some ⟨xb,1,none⟩)::(bif b4 then .int .i64 mode else z46)::.pointer (some ⟨xb,5,none⟩)::(bif b6 then .slice a5 LE.length cE else z48)::.pointer (some ⟨s,0,none⟩)::.pointer (some ⟨s,0,none⟩)::.pointer (some ⟨s,0,none⟩)::.pointer (some ⟨s,6,none⟩)::(bif b11 then .slice (some ⟨gb,0,none⟩) 8 8 else z53)::(bif b12 then .int .i64 v else z54)::.pointer (some ⟨s,0,none⟩)::.pointer (some ⟨xb,5,none⟩)::(bif b15 then .slice a5 LE.length cE else z57)::(bif b16 then vO else z58)::z59::z60::z61::z62::z63::z64::z65::z66::z67::z68::z69::z70::z71::z72::z73::z74::z75::z76::z77::z78::z79::z80::z81::z82::z83::z84::z85::z86::z87::z88::z89::z90::z91::z92::z93::z94::z95::z96::z97::z98::[]).toArray,defers:=[] }∧Below wA.heap.size wA w∧(b16=true→LV w vO l∧OfOk li 9 l∧NewV wA (.slice none 0 0) vO)∧constR b2 b4 b6 b11 b12 b15 b16=true
end SndA
set_option maxRecDepth 100000 in
set_option maxHeartbeats 8000000 in
theorem stepstR (wA:World) (w0:WK) (s gb xb:Nat) (ve vr:Value) (E:List Ev) (rm:List (Int × Int)) (used:Int) (rg:List Int) (sh:Bool) (im:Nat→Value) (li:Nat→List Int) (pi:Nat→List (Int × Int)) (loc mode v:Int) (a5:Option Addr) (LE:List (Int × Int)) (cE:Nat) (h:RS w0 wA s gb ve vr E rm used rg sh im li pi) (x4:wA.cell? ⟨xb,4,none⟩=some (.int .i64 loc)) (x1:wA.cell? ⟨xb,1,none⟩=some (.int .i64 mode)) (x5:wA.cell? ⟨xb,5,none⟩=some (.slice a5 LE.length cE)) (ht:TIn w0.toWorld a5 LE) (hL:LE.length≤9) (hreg:∀ x,((2:Int),x) ∈ LE→0≤x∧x < 8) (hli:∀ j,8≤j→j≤15→(li j).length≤100) (hv:evalS LE rg=v) (_hE:E.length≤1000) (_hrm:rm.length≤1000) (_h2:(pi 2).length≤100) (_h3:(pi 3).length + (li 16).length≤1000) (_h4:(pi 4).length + (li 17).length≤1000) (z0 z1 z2 z3 z4 z5 z7 z9 z10 z11 z12 z13 z14 z15 z16 z17 z18 z19 z20 z21 z22 z23 z24 z25 z26 z27 z28 z29 z30 z31 z32 z33 z34 z35 z36 z37 z38 z39 z40 z41 z44 z46 z48 z53 z54 z57 z58 z59 z60 z61 z62 z63 z64 z65 z66 z67 z68 z69 z70 z71 z72 z73 z74 z75 z76 z77 z78 z79 z80 z81 z82 z83 z84 z85 z86 z87 z88 z89 z90 z91 z92 z93 z94 z95 z96 z97 z98:Value) (Q:Exit→Act→World→Prop) (k:Nat) (L:Array Bool) (a:Act) (w:World) (h:IstR wA w0 s gb xb ve vr E rm used rg sh im li pi loc mode v a5 LE cE z0 z1 z2 z3 z4 z5 z7 z9 z10 z11 z12 z13 z14 z15 z16 z17 z18 z19 z20 z21 z22 z23 z24 z25 z26 z27 z28 z29 z30 z31 z32 z33 z34 z35 z36 z37 z38 z39 z40 z41 z44 z46 z48 z53 z54 z57 z58 z59 z60 z61 z62 z63 z64 z65 z66 z67 z68 z69 z70 z71 z72 z73 z74 z75 z76 z77 z78 z79 z80 z81 z82 z83 z84 z85 z86 z87 z88 z89 z90 z91 z92 z93 z94 z95 z96 z97 z98 (k + 1) L a w) :
  Region.ready .any opsstR L ≠ []∧∀ i' ∈ Region.ready .any opsstR L,wpOp Try.prog opsstR Q i' (fun a' w'=>IstR wA w0 s gb xb ve vr E rm used rg sh im li pi loc mode v a5 LE cE z0 z1 z2 z3 z4 z5 z7 z9 z10 z11 z12 z13 z14 z15 z16 z17 z18 z19 z20 z21 z22 z23 z24 z25 z26 z27 z28 z29 z30 z31 z32 z33 z34 z35 z36 z37 z38 z39 z40 z41 z44 z46 z48 z53 z54 z57 z58 z59 z60 z61 z62 z63 z64 z65 z66 z67 z68 z69 z70 z71 z72 z73 z74 z75 z76 z77 z78 z79 z80 z81 z82 z83 z84 z85 z86 z87 z88 z89 z90 z91 z92 z93 z94 z95 z96 z97 z98 k (L.setIfInBounds i' true) a' w') a w:=by
 obtain ⟨b2,b4,b6,b11,b12,b15,b16,vO,l,hk,rfl,rfl,hB,f0,hcon⟩:=h
 have hnt:nb true=0:=rfl
 have hnf:nb false=1:=rfl
 have hc:=rdystR b2 b4 b6 b11 b12 b15 b16
 unfold chkstR at hc
 have hn:(b2 && b4 && b6 && b11 && b12 && b15 && b16)=false:=by
  cases hq:(b2 && b4 && b6 && b11 && b12 && b15 && b16) with
  | false=>rfl
  | true=>
   simp only [Bool.and_eq_true] at hq
   obtain ⟨⟨⟨⟨⟨⟨rfl,rfl⟩,rfl⟩,rfl⟩,rfl⟩,rfl⟩,rfl⟩:=hq
   simp [nb] at hk
 rw [hn,hcon] at hc
 simp only [Bool.not_true,Bool.false_or,Bool.and_eq_true,List.all_eq_true,Bool.not_eq_true'] at hc
 refine ⟨fun h0=>by rw [h0] at hc; simp at hc,fun i' hi=>?_⟩
 have hi2:=hc.2 i' hi
 clear hc hi hn
 split at hi2
 ·simp only [Bool.not_eq_true'] at hi2
  subst hi2
  have c:=cell_next x4 hB
  refine wpOp_one (o:={ dst:=some 44,op:=Op.load 3 (Operand.tmp 43),type:=3,pos := "ref.go:142", after:=#[{ on:=1,ground:=Ground.data }],guard:=none }) (by rfl) rfl ?_
  generalize hK:(fun a' w'=>IstR wA w0 s gb xb ve vr E rm used rg sh im li pi loc mode v a5 LE cE z0 z1 z2 z3 z4 z5 z7 z9 z10 z11 z12 z13 z14 z15 z16 z17 z18 z19 z20 z21 z22 z23 z24 z25 z26 z27 z28 z29 z30 z31 z32 z33 z34 z35 z36 z37 z38 z39 z40 z41 z44 z46 z48 z53 z54 z57 z58 z59 z60 z61 z62 z63 z64 z65 z66 z67 z68 z69 z70 z71 z72 z73 z74 z75 z76 z77 z78 z79 z80 z81 z82 z83 z84 z85 z86 z87 z88 z89 z90 z91 z92 z93 z94 z95 z96 z97 z98 k ((arrstR false b4 b6 b11 b12 b15 b16).setIfInBounds 2 true) a' w')=K
  unfold Oper.wp
  go_simp
  subst hK
  exact ⟨true,b4,b6,b11,b12,b15,b16,vO,l,by omega,rfl,rfl,hB,f0,by first | exact hcon | (revert hcon; simp [constR] <;> (intros; simp_all))⟩
 ·simp only [Bool.not_eq_true'] at hi2
  subst hi2
  have c:=cell_next x1 hB
  refine wpOp_one (o:={ dst:=some 46,op:=Op.load 3 (Operand.tmp 45),type:=3,pos := "ref.go:142", after:=#[{ on:=3,ground:=Ground.data }],guard:=none }) (by rfl) rfl ?_
  generalize hK:(fun a' w'=>IstR wA w0 s gb xb ve vr E rm used rg sh im li pi loc mode v a5 LE cE z0 z1 z2 z3 z4 z5 z7 z9 z10 z11 z12 z13 z14 z15 z16 z17 z18 z19 z20 z21 z22 z23 z24 z25 z26 z27 z28 z29 z30 z31 z32 z33 z34 z35 z36 z37 z38 z39 z40 z41 z44 z46 z48 z53 z54 z57 z58 z59 z60 z61 z62 z63 z64 z65 z66 z67 z68 z69 z70 z71 z72 z73 z74 z75 z76 z77 z78 z79 z80 z81 z82 z83 z84 z85 z86 z87 z88 z89 z90 z91 z92 z93 z94 z95 z96 z97 z98 k ((arrstR b2 false b6 b11 b12 b15 b16).setIfInBounds 4 true) a' w')=K
  unfold Oper.wp
  go_simp
  subst hK
  exact ⟨b2,true,b6,b11,b12,b15,b16,vO,l,by omega,rfl,rfl,hB,f0,by first | exact hcon | (revert hcon; simp [constR] <;> (intros; simp_all))⟩
 ·simp only [Bool.not_eq_true'] at hi2
  subst hi2
  have c:=cell_next x5 hB
  refine wpOp_one (o:={ dst:=some 48,op:=Op.load 45 (Operand.tmp 47),type:=45,pos := "ref.go:142", after:=#[{ on:=5,ground:=Ground.data }],guard:=none }) (by rfl) rfl ?_
  generalize hK:(fun a' w'=>IstR wA w0 s gb xb ve vr E rm used rg sh im li pi loc mode v a5 LE cE z0 z1 z2 z3 z4 z5 z7 z9 z10 z11 z12 z13 z14 z15 z16 z17 z18 z19 z20 z21 z22 z23 z24 z25 z26 z27 z28 z29 z30 z31 z32 z33 z34 z35 z36 z37 z38 z39 z40 z41 z44 z46 z48 z53 z54 z57 z58 z59 z60 z61 z62 z63 z64 z65 z66 z67 z68 z69 z70 z71 z72 z73 z74 z75 z76 z77 z78 z79 z80 z81 z82 z83 z84 z85 z86 z87 z88 z89 z90 z91 z92 z93 z94 z95 z96 z97 z98 k ((arrstR b2 b4 false b11 b12 b15 b16).setIfInBounds 6 true) a' w')=K
  unfold Oper.wp
  go_simp
  subst hK
  exact ⟨b2,b4,true,b11,b12,b15,b16,vO,l,by omega,rfl,rfl,hB,f0,by first | exact hcon | (revert hcon; simp [constR] <;> (intros; simp_all))⟩
 ·simp only [Bool.not_eq_true'] at hi2
  subst hi2
  have c:=(h.next hB).c6
  refine wpOp_one (o:={ dst:=some 53,op:=Op.load 22 (Operand.tmp 52),type:=22,pos := "ref.go:142", after:=#[{ on:=10,ground:=Ground.data }],guard:=none }) (by rfl) rfl ?_
  generalize hK:(fun a' w'=>IstR wA w0 s gb xb ve vr E rm used rg sh im li pi loc mode v a5 LE cE z0 z1 z2 z3 z4 z5 z7 z9 z10 z11 z12 z13 z14 z15 z16 z17 z18 z19 z20 z21 z22 z23 z24 z25 z26 z27 z28 z29 z30 z31 z32 z33 z34 z35 z36 z37 z38 z39 z40 z41 z44 z46 z48 z53 z54 z57 z58 z59 z60 z61 z62 z63 z64 z65 z66 z67 z68 z69 z70 z71 z72 z73 z74 z75 z76 z77 z78 z79 z80 z81 z82 z83 z84 z85 z86 z87 z88 z89 z90 z91 z92 z93 z94 z95 z96 z97 z98 k ((arrstR b2 b4 b6 false b12 b15 b16).setIfInBounds 11 true) a' w')=K
  unfold Oper.wp
  go_simp
  subst hK
  exact ⟨b2,b4,b6,true,b12,b15,b16,vO,l,by omega,rfl,rfl,hB,f0,by first | exact hcon | (revert hcon; simp [constR] <;> (intros; simp_all))⟩
 ·simp only [Bool.and_eq_true,Bool.not_eq_true'] at hi2
  obtain ⟨⟨rfl,rfl⟩,rfl⟩:=hi2
  have hev:=eval_rs a5 LE cE (h.next hB) ht (by omega)
  rw [hv] at hev
  refine wpOp_one (o:={ dst:=some 54,op:=Op.call { callee:=Callee.value (Operand.func 52),args:=#[Operand.tmp 48,Operand.tmp 53],argTypes:=#[45,22] },type:=3,pos := "ref.go:142", after:=#[{ on:=6,ground:=Ground.data },{ on:=11,ground:=Ground.data }],guard:=none }) (by rfl) rfl ?_
  generalize hK:(fun a' w'=>IstR wA w0 s gb xb ve vr E rm used rg sh im li pi loc mode v a5 LE cE z0 z1 z2 z3 z4 z5 z7 z9 z10 z11 z12 z13 z14 z15 z16 z17 z18 z19 z20 z21 z22 z23 z24 z25 z26 z27 z28 z29 z30 z31 z32 z33 z34 z35 z36 z37 z38 z39 z40 z41 z44 z46 z48 z53 z54 z57 z58 z59 z60 z61 z62 z63 z64 z65 z66 z67 z68 z69 z70 z71 z72 z73 z74 z75 z76 z77 z78 z79 z80 z81 z82 z83 z84 z85 z86 z87 z88 z89 z90 z91 z92 z93 z94 z95 z96 z97 z98 k ((arrstR b2 b4 true true false b15 b16).setIfInBounds 12 true) a' w')=K
  unfold Oper.wp
  go_simp
  refine (hev).mono ?_
  rintro e1 w1 ⟨rfl,hb⟩
  dsimp only
  subst hK
  exact ⟨b2,b4,true,true,true,b15,b16,vO,l,by omega,rfl,rfl,below_next hB hb,(fun q=>let ⟨g1,g2,g3⟩:=f0 q; ⟨g1.next hb,g2,g3⟩),by first | exact hcon | (revert hcon; simp [constR] <;> (intros; simp_all))⟩
 ·simp only [Bool.not_eq_true'] at hi2
  subst hi2
  have c:=cell_next x5 hB
  refine wpOp_one (o:={ dst:=some 57,op:=Op.load 45 (Operand.tmp 56),type:=45,pos := "ref.go:142", after:=#[{ on:=14,ground:=Ground.data }],guard:=none }) (by rfl) rfl ?_
  generalize hK:(fun a' w'=>IstR wA w0 s gb xb ve vr E rm used rg sh im li pi loc mode v a5 LE cE z0 z1 z2 z3 z4 z5 z7 z9 z10 z11 z12 z13 z14 z15 z16 z17 z18 z19 z20 z21 z22 z23 z24 z25 z26 z27 z28 z29 z30 z31 z32 z33 z34 z35 z36 z37 z38 z39 z40 z41 z44 z46 z48 z53 z54 z57 z58 z59 z60 z61 z62 z63 z64 z65 z66 z67 z68 z69 z70 z71 z72 z73 z74 z75 z76 z77 z78 z79 z80 z81 z82 z83 z84 z85 z86 z87 z88 z89 z90 z91 z92 z93 z94 z95 z96 z97 z98 k ((arrstR b2 b4 b6 b11 b12 false b16).setIfInBounds 15 true) a' w')=K
  unfold Oper.wp
  go_simp
  subst hK
  exact ⟨b2,b4,b6,b11,b12,true,b16,vO,l,by omega,rfl,rfl,hB,f0,by first | exact hcon | (revert hcon; simp [constR] <;> (intros; simp_all))⟩
 ·simp only [Bool.and_eq_true,Bool.not_eq_true'] at hi2
  obtain ⟨⟨rfl,rfl⟩,rfl⟩:=hi2
  refine wpOp_one (o:={ dst:=some 58,op:=Op.call { callee:=Callee.value (Operand.func 53),args:=#[Operand.tmp 55,Operand.tmp 57],argTypes:=#[94,45] },type:=22,pos := "ref.go:142", after:=#[{ on:=13,ground:=Ground.data },{ on:=15,ground:=Ground.data },{ on:=12,ground:=Ground.chain }],guard:=none }) (by rfl) rfl ?_
  generalize hK:(fun a' w'=>IstR wA w0 s gb xb ve vr E rm used rg sh im li pi loc mode v a5 LE cE z0 z1 z2 z3 z4 z5 z7 z9 z10 z11 z12 z13 z14 z15 z16 z17 z18 z19 z20 z21 z22 z23 z24 z25 z26 z27 z28 z29 z30 z31 z32 z33 z34 z35 z36 z37 z38 z39 z40 z41 z44 z46 z48 z53 z54 z57 z58 z59 z60 z61 z62 z63 z64 z65 z66 z67 z68 z69 z70 z71 z72 z73 z74 z75 z76 z77 z78 z79 z80 z81 z82 z83 z84 z85 z86 z87 z88 z89 z90 z91 z92 z93 z94 z95 z96 z97 z98 k ((arrstR b2 b4 b6 b11 true true false).setIfInBounds 16 true) a' w')=K
  unfold Oper.wp
  go_simp
  refine (of_any a5 LE cE w (h.next hB) (ht.next (h.next hB).bel) hL hreg hli).mono ?_
  rintro e1 w1 ⟨⟨v1,l1,rfl,g1,g2,g3⟩,hb⟩
  dsimp only
  subst hK
  exact ⟨b2,b4,b6,b11,true,true,true,v1,l1,by omega,rfl,rfl,below_next hB hb,(fun _=>⟨g1,g2,(NewV.step (.inl rfl) g3 hB.size)⟩),by first | exact hcon | (revert hcon; simp [constR] <;> (intros; simp_all))⟩
 ·cases hi2
set_option maxRecDepth 100000 in
set_option maxHeartbeats 8000000 in
theorem stR_l (w:World) (w0:WK) (s gb xb:Nat) (ve vr:Value) (E:List Ev) (rm:List (Int × Int)) (used:Int) (rg:List Int) (sh:Bool) (im:Nat→Value) (li:Nat→List Int) (pi:Nat→List (Int × Int)) (loc mode v:Int) (a5:Option Addr) (LE:List (Int × Int)) (cE:Nat) (h:RS w0 w s gb ve vr E rm used rg sh im li pi) (x4:w.cell? ⟨xb,4,none⟩=some (.int .i64 loc)) (x1:w.cell? ⟨xb,1,none⟩=some (.int .i64 mode)) (x5:w.cell? ⟨xb,5,none⟩=some (.slice a5 LE.length cE)) (ht:TIn w0.toWorld a5 LE) (hL:LE.length≤9) (hreg:∀ x,((2:Int),x) ∈ LE→0≤x∧x < 8) (hli:∀ j,8≤j→j≤15→(li j).length≤100) (hv:evalS LE rg=v) (hE:E.length≤1000) (hrm:rm.length≤1000) (h2:(pi 2).length≤100) (h3:(pi 3).length + (li 16).length≤1000) (h4:(pi 4).length + (li 17).length≤1000) (z0 z1 z2 z3 z4 z5 z7 z9 z10 z11 z12 z13 z14 z15 z16 z17 z18 z19 z20 z21 z22 z23 z24 z25 z26 z27 z28 z29 z30 z31 z32 z33 z34 z35 z36 z37 z38 z39 z40 z41 z42 z43 z44 z45 z46 z47 z48 z49 z50 z51 z52 z53 z54 z55 z56 z57 z58 z59 z60 z61 z62 z63 z64 z65 z66 z67 z68 z69 z70 z71 z72 z73 z74 z75 z76 z77 z78 z79 z80 z81 z82 z83 z84 z85 z86 z87 z88 z89 z90 z91 z92 z93 z94 z95 z96 z97 z98:Value) (Q:Exit→Act→World→Prop)
  (hQp:∀ c (a:Act) (d:Tmp) v w,Q (.panic c) (a.put (some d) v) w→Q (.panic c) a w)
  (hQ:∀ (y42 y43 y44 y45 y46 y47 y48 y49 y50 y51 y52 y53 y54 y55 y56 y57 y58 y59:Value) (W':World) (l:List Int) (e1:Ending),WrBack w0 W' s gb E ⟨0,2,mode,loc,v,false⟩ rm used rg sh (updF li 20 l) pi e1→OfOk li 9 l→Q .normal { tmps:=(z0::z1::z2::z3::z4::z5::.pointer (some ⟨s,0,none⟩)::z7::.pointer (some ⟨xb,0,none⟩)::z9::z10::z11::z12::z13::z14::z15::z16::z17::z18::z19::z20::z21::z22::z23::z24::z25::z26::z27::z28::z29::z30::z31::z32::z33::z34::z35::z36::z37::z38::z39::z40::z41::y42::y43::y44::y45::y46::y47::y48::y49::y50::y51::y52::y53::y54::y55::y56::y57::y58::y59::z60::z61::z62::z63::z64::z65::z66::z67::z68::z69::z70::z71::z72::z73::z74::z75::z76::z77::z78::z79::z80::z81::z82::z83::z84::z85::z86::z87::z88::z89::z90::z91::z92::z93::z94::z95::z96::z97::z98::[]).toArray,defers:=[] } W') :
  Code.wp Try.prog (Code.region 10 #[{ dst:=some 42,op:=Op.move (Operand.tmp 6),type:=94,pos := "ref.go:142", after:=#[],guard:=none },{ dst:=some 43,op:=Op.fieldAddr 47 (Operand.tmp 8) 4,type:=0,pos := "ref.go:142", after:=#[],guard:=none },{ dst:=some 44,op:=Op.load 3 (Operand.tmp 43),type:=3,pos := "ref.go:142", after:=#[{ on:=1,ground:=Ground.data }],guard:=none },{ dst:=some 45,op:=Op.fieldAddr 47 (Operand.tmp 8) 1,type:=0,pos := "ref.go:142", after:=#[],guard:=none },{ dst:=some 46,op:=Op.load 3 (Operand.tmp 45),type:=3,pos := "ref.go:142", after:=#[{ on:=3,ground:=Ground.data }],guard:=none },{ dst:=some 47,op:=Op.fieldAddr 47 (Operand.tmp 8) 5,type:=0,pos := "ref.go:142", after:=#[],guard:=none },{ dst:=some 48,op:=Op.load 45 (Operand.tmp 47),type:=45,pos := "ref.go:142", after:=#[{ on:=5,ground:=Ground.data }],guard:=none },{ dst:=some 49,op:=Op.move (Operand.tmp 6),type:=94,pos := "ref.go:142", after:=#[],guard:=none },{ dst:=some 50,op:=Op.nilCheck (Operand.tmp 49),type:=0,pos := "ref.go:142", after:=#[{ on:=7,ground:=Ground.data }],guard:=none },{ dst:=some 51,op:=Op.fieldAddr 98 (Operand.tmp 50) 0,type:=0,pos := "ref.go:142", after:=#[{ on:=8,ground:=Ground.data }],guard:=none },{ dst:=some 52,op:=Op.fieldAddr 76 (Operand.tmp 51) 6,type:=0,pos := "ref.go:142", after:=#[{ on:=9,ground:=Ground.data }],guard:=none },{ dst:=some 53,op:=Op.load 22 (Operand.tmp 52),type:=22,pos := "ref.go:142", after:=#[{ on:=10,ground:=Ground.data }],guard:=none },{ dst:=some 54,op:=Op.call { callee:=Callee.value (Operand.func 52),args:=#[Operand.tmp 48,Operand.tmp 53],argTypes:=#[45,22] },type:=3,pos := "ref.go:142", after:=#[{ on:=6,ground:=Ground.data },{ on:=11,ground:=Ground.data }],guard:=none },{ dst:=some 55,op:=Op.move (Operand.tmp 6),type:=94,pos := "ref.go:142", after:=#[],guard:=none },{ dst:=some 56,op:=Op.fieldAddr 47 (Operand.tmp 8) 5,type:=0,pos := "ref.go:142", after:=#[],guard:=none },{ dst:=some 57,op:=Op.load 45 (Operand.tmp 56),type:=45,pos := "ref.go:142", after:=#[{ on:=14,ground:=Ground.data }],guard:=none },{ dst:=some 58,op:=Op.call { callee:=Callee.value (Operand.func 53),args:=#[Operand.tmp 55,Operand.tmp 57],argTypes:=#[94,45] },type:=22,pos := "ref.go:142", after:=#[{ on:=13,ground:=Ground.data },{ on:=15,ground:=Ground.data },{ on:=12,ground:=Ground.chain }],guard:=none },{ dst:=some 59,op:=Op.call { callee:=Callee.value (Operand.func 51),args:=#[Operand.tmp 42,Operand.tmp 44,Operand.tmp 46,Operand.const (Value.bool false),Operand.tmp 54,Operand.tmp 58],argTypes:=#[94,3,3,4,3,22] },type:=0,pos := "ref.go:142", after:=#[{ on:=0,ground:=Ground.data },{ on:=2,ground:=Ground.data },{ on:=4,ground:=Ground.data },{ on:=12,ground:=Ground.data },{ on:=16,ground:=Ground.data },{ on:=16,ground:=Ground.chain }],guard:=none }] true) Q { tmps:=(z0::z1::z2::z3::z4::z5::.pointer (some ⟨s,0,none⟩)::z7::.pointer (some ⟨xb,0,none⟩)::z9::z10::z11::z12::z13::z14::z15::z16::z17::z18::z19::z20::z21::z22::z23::z24::z25::z26::z27::z28::z29::z30::z31::z32::z33::z34::z35::z36::z37::z38::z39::z40::z41::z42::z43::z44::z45::z46::z47::z48::z49::z50::z51::z52::z53::z54::z55::z56::z57::z58::z59::z60::z61::z62::z63::z64::z65::z66::z67::z68::z69::z70::z71::z72::z73::z74::z75::z76::z77::z78::z79::z80::z81::z82::z83::z84::z85::z86::z87::z88::z89::z90::z91::z92::z93::z94::z95::z96::z97::z98::[]).toArray,defers:=[] } w:=by
 refine wp_region_any (by kernel_rfl) ?_
 have hD:Below w.heap.size w w.drew:=(Below.refl _ _).drew
 change wpAny _ _ _ _ _ _ _ (World.drew _)
 have h:=h.next hD
 have x4:=cell_next x4 hD
 have x1:=cell_next x1 hD
 have x5:=cell_next x5 hD
 generalize World.drew w=wA at *
 refine wpAny_take (i:=0) (v:=.pointer (some ⟨s,0,none⟩)) rfl (by kernel_rfl) (by kernel_rfl) (by kernel_rfl) (fun c a w=>hQp c a _ _ w) (Or.inl ⟨by rfl,?_⟩) ?_
 ·intro w
  go_simp
 refine wpAny_take (i:=1) (v:=.pointer (some ⟨xb,4,none⟩)) rfl (by kernel_rfl) (by kernel_rfl) (by kernel_rfl) (fun c a w=>hQp c a _ _ w) (Or.inl ⟨by rfl,?_⟩) ?_
 ·intro w
  go_simp
 refine wpAny_take (i:=3) (v:=.pointer (some ⟨xb,1,none⟩)) rfl (by kernel_rfl) (by kernel_rfl) (by kernel_rfl) (fun c a w=>hQp c a _ _ w) (Or.inl ⟨by rfl,?_⟩) ?_
 ·intro w
  go_simp
 refine wpAny_take (i:=5) (v:=.pointer (some ⟨xb,5,none⟩)) rfl (by kernel_rfl) (by kernel_rfl) (by kernel_rfl) (fun c a w=>hQp c a _ _ w) (Or.inl ⟨by rfl,?_⟩) ?_
 ·intro w
  go_simp
 refine wpAny_take (i:=7) (v:=.pointer (some ⟨s,0,none⟩)) rfl (by kernel_rfl) (by kernel_rfl) (by kernel_rfl) (fun c a w=>hQp c a _ _ w) (Or.inl ⟨by rfl,?_⟩) ?_
 ·intro w
  go_simp
 refine wpAny_take (i:=8) (v:=.pointer (some ⟨s,0,none⟩)) rfl (by kernel_rfl) (by kernel_rfl) (by kernel_rfl) (fun c a w=>hQp c a _ _ w) (Or.inl ⟨by rfl,?_⟩) ?_
 ·intro w
  go_simp
 refine wpAny_take (i:=9) (v:=.pointer (some ⟨s,0,none⟩)) rfl (by kernel_rfl) (by kernel_rfl) (by kernel_rfl) (fun c a w=>hQp c a _ _ w) (Or.inl ⟨by rfl,?_⟩) ?_
 ·intro w
  go_simp
 refine wpAny_take (i:=10) (v:=.pointer (some ⟨s,6,none⟩)) rfl (by kernel_rfl) (by kernel_rfl) (by kernel_rfl) (fun c a w=>hQp c a _ _ w) (Or.inl ⟨by rfl,?_⟩) ?_
 ·intro w
  go_simp
 refine wpAny_take (i:=13) (v:=.pointer (some ⟨s,0,none⟩)) rfl (by kernel_rfl) (by kernel_rfl) (by kernel_rfl) (fun c a w=>hQp c a _ _ w) (Or.inl ⟨by rfl,?_⟩) ?_
 ·intro w
  go_simp
 refine wpAny_take (i:=14) (v:=.pointer (some ⟨xb,5,none⟩)) rfl (by kernel_rfl) (by kernel_rfl) (by kernel_rfl) (fun c a w=>hQp c a _ _ w) (Or.inl ⟨by rfl,?_⟩) ?_
 ·intro w
  go_simp
 show wpAny _ _ opsstR _ (1 + 7) _ _ _
 refine wpAny_inv (I:=IstR wA w0 s gb xb ve vr E rm used rg sh im li pi loc mode v a5 LE cE z0 z1 z2 z3 z4 z5 z7 z9 z10 z11 z12 z13 z14 z15 z16 z17 z18 z19 z20 z21 z22 z23 z24 z25 z26 z27 z28 z29 z30 z31 z32 z33 z34 z35 z36 z37 z38 z39 z40 z41 z44 z46 z48 z53 z54 z57 z58 z59 z60 z61 z62 z63 z64 z65 z66 z67 z68 z69 z70 z71 z72 z73 z74 z75 z76 z77 z78 z79 z80 z81 z82 z83 z84 z85 z86 z87 z88 z89 z90 z91 z92 z93 z94 z95 z96 z97 z98) (fun k L a w=>stepstR wA w0 s gb xb ve vr E rm used rg sh im li pi loc mode v a5 LE cE h x4 x1 x5 ht hL hreg hli hv hE hrm h2 h3 h4 z0 z1 z2 z3 z4 z5 z7 z9 z10 z11 z12 z13 z14 z15 z16 z17 z18 z19 z20 z21 z22 z23 z24 z25 z26 z27 z28 z29 z30 z31 z32 z33 z34 z35 z36 z37 z38 z39 z40 z41 z44 z46 z48 z53 z54 z57 z58 z59 z60 z61 z62 z63 z64 z65 z66 z67 z68 z69 z70 z71 z72 z73 z74 z75 z76 z77 z78 z79 z80 z81 z82 z83 z84 z85 z86 z87 z88 z89 z90 z91 z92 z93 z94 z95 z96 z97 z98 Q k L a w) ?_ 7 _ _ _ ⟨false,false,false,false,false,false,false,.slice none 0 0,[],by kernel_rfl,by kernel_rfl,by kernel_rfl,Below.refl _ _,(fun q=>by cases q),by kernel_rfl⟩
 rintro L a w1 ⟨b2,b4,b6,b11,b12,b15,b16,vO,l,hk,rfl,rfl,hB,f0,-⟩
 obtain ⟨rfl,rfl,rfl,rfl,rfl,rfl,rfl⟩:b2=true∧b4=true∧b6=true∧b11=true∧b12=true∧b15=true∧b16=true:=⟨nb0 _ (by omega),nb0 _ (by omega),nb0 _ (by omega),nb0 _ (by omega),nb0 _ (by omega),nb0 _ (by omega),nb0 _ (by omega)⟩
 clear hk
 obtain ⟨g1,g2,g3⟩:=f0 rfl
 have hS1:=h.next hB
 have ha:Apart w1 s gb ve vr vO:=by
  rcases g3 with q | q
  ·rw [q]; exact apart_nil _ _ _ _ _
  ·exact apart_new g1 q h.lts h.ltg (fun b r=>(h.oe.lt b r).2) (fun b r=>(h.op.lt b r).2)
 have hS2:=hS1.virt 20 (by omega) (by omega) vO l g1 ha
 have hw:=write_any loc mode v false w1 hS2 hE hrm (by rw [updF_at]; have:=g2.len; omega) (by rw [updF_ne _ _ (by omega)]; exact h3) (by rw [updF_ne _ _ (by omega)]; exact h4)
 rw [updF_at] at hw
 refine wpAny_all (rs:=[17]) (by kernel_rfl) (by simp) ?_
 intro i' hi
 simp only [List.mem_singleton] at hi
 subst hi
 refine wpOp_one (o:={ dst:=some 59,op:=Op.call { callee:=Callee.value (Operand.func 51),args:=#[Operand.tmp 42,Operand.tmp 44,Operand.tmp 46,Operand.const (Value.bool false),Operand.tmp 54,Operand.tmp 58],argTypes:=#[94,3,3,4,3,22] },type:=0,pos := "ref.go:142", after:=#[{ on:=0,ground:=Ground.data },{ on:=2,ground:=Ground.data },{ on:=4,ground:=Ground.data },{ on:=12,ground:=Ground.data },{ on:=16,ground:=Ground.data },{ on:=16,ground:=Ground.chain }],guard:=none }) (by rfl) rfl ?_
 unfold Oper.wp
 go_simp
 refine hw.mono ?_
 rintro e1 w2 ⟨hw2,-⟩
 have hw3:=hw2
 obtain ⟨x,ve',vr',im',pi',rfl,-⟩:=hw3
 dsimp only
 refine wpAny_done (by kernel_rfl) ?_ _
 exact hQ _ _ _ _ _ _ _ _ _ _ _ _ _ _ _ _ _ _ w2 l _ hw2 g2
end Go.Proofs.Yteghpophcnehgaa
